import PyProof.Rows.All
import Wide.All
import OpenK.AllK
import Wide.FinOn
import HandS.ForMost
import HandS.ForExc
import HandS.Walk
import HandS.Zip
import HandS.TupAny
import HandS.Style
import HandS.Deep
import HandS.Conv
import HandS.Flow
import KE.KDictKeyed
import KE.DataCmp
import KE.SortData
import HandS.ExcInit
import HandS.ExcOwn
import HandS.FStr
import HandS.ExcIs
import KE.KExcSuper
import HandS.TryMany
import PyProof.StrOps2
import HandS.IsInst
import HandS.Iter
import HandS.NoneIn
import HandS.TupMul
import KE.BitLaws
import PySem.Challenge.RW_textatrest_k42_cut_on_schedule
set_option Elab.async false
set_option linter.all false
set_option maxRecDepth 100000
set_option maxHeartbeats 4000000
/-! Mi: a mirror over the hand layer: data as PyData, a small store for what is changed in place. Own work. -/
namespace Mi
open PySem PySem.Spec PyProof.Rows L2

/-! ### values and the store -/
/-- a key of a dict: None, a whole number, a tuple of whole numbers -/
inductive DK where
  | non
  | num (i : Int)
  | tup (l : List Int)
  deriving DecidableEq
def DK.d : DK → PyData
  | .non => .none
  | .num i => .int i
  | .tup l => .tuple (l.map .int)
def DK.nk : DK → NestedKey
  | .non => .none
  | .num i => .num i
  | .tup l => .tup (l.map .num)
/-- a dict's object, by its keys, the keys' values, the values -/
def DicH (a : Addr) (ks : List (DK × V × V)) (h : Heap) : Prop := (a == sysModules) = false ∧ ks.length ≤ sizeLine ∧ ∃ o es ep, h.get? a = some o ∧ o.ExactDict ∧ o.data = .dict es ep ∧
  Paired (fun (p : DK × V × V) (e : DictEntry) => (∀ w : World, e.hash = p.1.nk.hash w) ∧ RelV p.2.1 e.key ∧ RelV p.2.2 e.val) ks es.toList
inductive MV where
  | d (x : PyData)
  | m (a : Addr)
inductive MO where
  | lst (xs : List MV)
  | ins (C : Addr) (fs : List (Str × MV))
  | dic (kvs : List (DK × MV))
abbrev Sto := Addr → Option MO
def sset (S : Sto) (a : Addr) (o : MO) : Sto := fun b => if b = a then some o else S b
def sdel (S : Sto) (a : Addr) : Sto := fun b => if b = a then none else S b
def cat (S T : Sto) : Sto := fun b => match T b with | some o => some o | none => S b
theorem sset_same {S : Sto} {a : Addr} {o : MO} : sset S a o a = some o := if_pos rfl
theorem sset_ne {S : Sto} {a b : Addr} {o : MO} (h : b ≠ a) : sset S a o b = S b := if_neg h
theorem sdel_same {S : Sto} {a : Addr} : sdel S a a = none := if_pos rfl
theorem sdel_ne {S : Sto} {a b : Addr} (h : b ≠ a) : sdel S a b = S b := if_neg h
theorem sset_sset {S : Sto} {a : Addr} {o u : MO} : sset (sset S a o) a u = sset S a u := by
  funext b; unfold sset; split <;> rfl
theorem sset_comm {S : Sto} {a b : Addr} {o u : MO} (h : a ≠ b) : sset (sset S a o) b u = sset (sset S b u) a o := by
  funext c
  unfold sset
  by_cases h1 : c = b
  · have h2 : c ≠ a := fun e => h (e.symm.trans h1)
    rw [if_pos h1, if_neg h2, if_pos h1]
  · rw [if_neg h1]
    by_cases h2 : c = a
    · rw [if_pos h2, if_pos h2]
    · rw [if_neg h2, if_neg h2, if_neg h1]
theorem sdel_sset {S : Sto} {a : Addr} {o : MO} (h : S a = none) : sdel (sset S a o) a = S := by
  funext b
  by_cases e : b = a
  · rw [e, sdel_same, h]
  · rw [sdel_ne e, sset_ne e]
theorem sdel_none {S : Sto} {a : Addr} (h : S a = none) : sdel S a = S := by
  funext b
  by_cases e : b = a
  · rw [e, sdel_same, h]
  · rw [sdel_ne e]
theorem cat_none {S T : Sto} {a : Addr} (h : T a = none) : cat S T a = S a := by unfold cat; rw [h]
theorem cat_some {S T : Sto} {a : Addr} {o : MO} (h : T a = some o) : cat S T a = some o := by unfold cat; rw [h]
theorem cat_of {S T : Sto} {a : Addr} {o : MO} (h : cat S T a = some o) : T a = some o ∨ (T a = none ∧ S a = some o) := by
  unfold cat at h
  cases e : T a with
  | none => rw [e] at h; exact .inr ⟨rfl, h⟩
  | some u => rw [e] at h; exact .inl h
theorem cat_left {S T : Sto} {a : Addr} (h : cat S T a = none) : S a = none ∧ T a = none := by
  unfold cat at h
  cases e : T a with
  | none => rw [e] at h; exact ⟨h, rfl⟩
  | some u => rw [e] at h; cases h
theorem cat_free {S T : Sto} {a : Addr} (h : S a = none) (h' : T a = none) : cat S T a = none := by unfold cat; rw [h']; exact h
theorem cat_sset {S T : Sto} {a : Addr} {o : MO} (h : T a = none) : cat (sset S a o) T = sset (cat S T) a o := by
  funext b
  by_cases e : b = a
  · rw [e, cat_none h, sset_same, sset_same]
  · rw [sset_ne e]
    unfold cat
    rw [sset_ne e]
theorem cat_sdel {S T : Sto} {a : Addr} (h : T a = none) : cat (sdel S a) T = sdel (cat S T) a := by
  funext b
  by_cases e : b = a
  · rw [e, cat_none h, sdel_same, sdel_same]
  · rw [sdel_ne e]
    unfold cat
    rw [sdel_ne e]
/-- a thing of the store, into the frame -/
theorem cat_move {S T : Sto} {a : Addr} {o : MO} (h : S a = none) : cat S (sset T a o) = sset (cat S T) a o := by
  funext b
  by_cases e : b = a
  · rw [e, sset_same]
    exact cat_some sset_same
  · rw [sset_ne e]
    unfold cat
    rw [sset_ne e]

/-- the heap without what the store holds -/
def Fz (U : Sto) (H : Hp) : Hp := fun a => match U a with | none => H a | some _ => none
theorem fz_free {U : Sto} {H : Hp} {a : Addr} (h : U a = none) : Fz U H a = H a := by unfold Fz; rw [h]
theorem fz_of {U : Sto} {H : Hp} {a : Addr} {o : HO} (h : Fz U H a = some o) : U a = none ∧ H a = some o := by
  unfold Fz at h
  cases e : U a with
  | none => rw [e] at h; exact ⟨rfl, h⟩
  | some u => rw [e] at h; cases h
theorem fz_same {U : Sto} {H : Hp} : Same (Fz U H) H := fun _ _ h => (fz_of h).2

mutual
theorem dp_mono {K : PySem.W.Frag} {H H' : Hp} (e : Same H H') : ∀ (x : PyData) (v : V), Dp K H v x → Dp K H' v x
  | .none, _, h => by cases h; exact .non
  | .bool _, _, h => by cases h; exact .bl _
  | .int _, _, h => by cases h; exact .int _
  | .str _, _, h => by cases h; exact .str _
  | .list xs, _, h => by
    cases h with
    | lst hs ha => exact .lst (e.seq hs) (dpAll_mono e xs _ ha)
  | .tuple xs, _, h => by
    cases h with
    | tup hs ha =>
      refine .tup ?_ (dpAll_mono e xs _ ha)
      rcases hs with (hs | ⟨o, hs⟩) | hs
      · exact .inl (.inl (e _ _ hs))
      · exact .inl (.inr ⟨o, e _ _ hs⟩)
      · exact .inr hs
  | .dict _, _, h => by cases h
theorem dpAll_mono {K : PySem.W.Frag} {H H' : Hp} (e : Same H H') : ∀ (xs : List PyData) (vs : List V), DpAll K H vs xs → DpAll K H' vs xs
  | [], _, h => by cases h; exact .nil
  | x :: xs, _, h => by
    cases h with
    | cons h1 h2 => exact .cons (dp_mono e x _ h1) (dpAll_mono e xs _ h2)
end

/-- a mirror's value and a value of the layer -/
def RV (K : PySem.W.Frag) (U : Sto) (H : Hp) : MV → V → Prop
  | .d x, v => Dp K (Fz U H) v x
  | .m a, v => v = .ref a
abbrev RVs (K : PySem.W.Frag) (U : Sto) (H : Hp) : List MV → List V → Prop := Paired (RV K U H)
def Ev (U : Sto) (H : Hp) (U' : Sto) (H' : Hp) : Prop := Same (Fz U H) (Fz U' H')
theorem Ev.rfl' {U : Sto} {H : Hp} : Ev U H U H := Same.refl _
theorem Ev.trans {U U1 U2 : Sto} {H H1 H2 : Hp} (a : Ev U H U1 H1) (b : Ev U1 H1 U2 H2) : Ev U H U2 H2 := Same.trans a b
section
variable {K : PySem.W.Frag} {U U' : Sto} {H H' : Hp}
theorem RV.ev (e : Ev U H U' H') : ∀ {r : MV} {v : V}, RV K U H r v → RV K U' H' r v
  | .d x, v, h => dp_mono e x v h
  | .m _, _, h => h
theorem RVs.ev (e : Ev U H U' H') : ∀ {rs : List MV} {vs : List V}, RVs K U H rs vs → RVs K U' H' rs vs
  | _, _, .nil => .nil
  | _, _, .cons h t => .cons (h.ev e) (RVs.ev e t)
theorem RVs.get : ∀ {rs : List MV} {vs : List V} {i : Nat} {r : MV}, RVs K U H rs vs → rs[i]? = some r → ∃ v, vs[i]? = some v ∧ RV K U H r v
  | _, _, _, _, .nil, e => by simp at e
  | _, _, 0, _, .cons r _, e => by simp at e; subst e; exact ⟨_, rfl, r⟩
  | _, _, i + 1, x, .cons _ t, e => by
    obtain ⟨u, h1, h2⟩ := RVs.get (i := i) (r := x) t (by simpa using e)
    exact ⟨u, by simpa using h1, h2⟩
theorem RVs.get' : ∀ {rs : List MV} {vs : List V} {i : Nat} {v : V}, RVs K U H rs vs → vs[i]? = some v → ∃ r, rs[i]? = some r ∧ RV K U H r v
  | _, _, _, _, .nil, e => by simp at e
  | _, _, 0, _, .cons r _, e => by simp at e; subst e; exact ⟨_, rfl, r⟩
  | _, _, i + 1, x, .cons _ t, e => by
    obtain ⟨u, h1, h2⟩ := RVs.get' (i := i) (v := x) t (by simpa using e)
    exact ⟨u, by simpa using h1, h2⟩
theorem RVs.append : ∀ {rs ss : List MV} {vs ws : List V}, RVs K U H rs vs → RVs K U H ss ws → RVs K U H (rs ++ ss) (vs ++ ws)
  | _, _, _, _, .nil, s => s
  | _, _, _, _, .cons r t, s => .cons r (RVs.append t s)
theorem RVs.take : ∀ {rs : List MV} {vs : List V} (n : Nat), RVs K U H rs vs → RVs K U H (rs.take n) (vs.take n)
  | _, _, 0, _ => .nil
  | _, _, _ + 1, .nil => .nil
  | _, _, n + 1, .cons r t => .cons r (RVs.take n t)
theorem RVs.drop : ∀ {rs : List MV} {vs : List V} (n : Nat), RVs K U H rs vs → RVs K U H (rs.drop n) (vs.drop n)
  | _, _, 0, r => r
  | _, _, _ + 1, .nil => .nil
  | _, _, n + 1, .cons _ t => RVs.drop n t
theorem RVs.set {r : MV} {v : V} (h : RV K U H r v) : ∀ {rs : List MV} {vs : List V} (i : Nat), RVs K U H rs vs → RVs K U H (rs.set i r) (vs.set i v)
  | _, _, _, .nil => .nil
  | _, _, 0, .cons _ t => .cons h t
  | _, _, i + 1, .cons q t => .cons q (RVs.set h i t)
theorem RVs.length {rs : List MV} {vs : List V} (h : RVs K U H rs vs) : rs.length = vs.length := Paired.length h
/-- items that are data -/
theorem RVs.data : ∀ {xs : List PyData} {vs : List V}, RVs K U H (xs.map .d) vs → DpAll K (Fz U H) vs xs
  | [], _, h => by cases h; exact .nil
  | x :: xs, _, h => by
    cases h with
    | cons h1 h2 => exact .cons h1 (RVs.data h2)
theorem RVs.of : ∀ {xs : List PyData} {vs : List V}, DpAll K (Fz U H) vs xs → RVs K U H (xs.map .d) vs
  | [], _, h => by cases h; exact .nil
  | x :: xs, _, h => by
    cases h with
    | cons h1 h2 => exact .cons h1 (RVs.of h2)
end

theorem paired_imp {α β : Type} {F G : α → β → Prop} (f : ∀ a b, F a b → G a b) : ∀ {l : List α} {l' : List β}, Paired F l l' → Paired G l l'
  | _, _, .nil => .nil
  | _, _, .cons h t => .cons (f _ _ h) (paired_imp f t)
/-- a thing of the store and what stands in the heap -/
def OR (K : PySem.W.Frag) (U : Sto) (H : Hp) (a : Addr) : MO → HO → Prop
  | .lst xs, u => ∃ vs, u = .lst vs ∧ RVs K U H xs vs
  | .ins C fs, u => ∃ dx gs, u = .ins C dx gs ∧ Paired (fun (p : Str × MV) (q : Str × V) => p.1 = q.1 ∧ RV K U H p.2 q.2) fs gs
  | .dic kvs, u => ∃ ks, u = .ext (DicH a ks) ∧ (kvs.map (·.1)).Nodup ∧ Paired (fun (p : DK × MV) (q : DK × V × V) => q.1 = p.1 ∧ Dp K (Fz U H) q.2.1 p.1.d ∧ RV K U H p.2 q.2.2) kvs ks
theorem OR.ev {K : PySem.W.Frag} {U U' : Sto} {H H' : Hp} (e : Ev U H U' H') {a : Addr} : ∀ {o : MO} {u : HO}, OR K U H a o u → OR K U' H' a o u
  | .lst _, _, ⟨vs, h, r⟩ => ⟨vs, h, r.ev e⟩
  | .ins _ _, _, ⟨dx, gs, h, r⟩ => ⟨dx, gs, h, paired_imp (fun _ _ z => ⟨z.1, z.2.ev e⟩) r⟩
  | .dic _, _, ⟨ks, h, n, r⟩ => ⟨ks, h, n, paired_imp (fun _ _ z => ⟨z.1, dp_mono e _ _ z.2.1, z.2.2.ev e⟩) r⟩
/-- the store tells what the heap holds -/
structure Rp (K : PySem.W.Frag) (U : Sto) (H : Hp) : Prop where
  at_ : ∀ a o, U a = some o → ∃ u, H a = some u ∧ OR K U H a o u
theorem Rp.lst {K : PySem.W.Frag} {U : Sto} {H : Hp} (r : Rp K U H) (a : Addr) (xs : List MV) (e : U a = some (.lst xs)) : ∃ vs, H a = some (.lst vs) ∧ RVs K U H xs vs := by
  obtain ⟨u, h, vs, rfl, rr⟩ := r.at_ a _ e
  exact ⟨vs, h, rr⟩
theorem Rp.ins {K : PySem.W.Frag} {U : Sto} {H : Hp} (r : Rp K U H) (a C : Addr) (fs : List (Str × MV)) (e : U a = some (.ins C fs)) :
    ∃ dx gs, H a = some (.ins C dx gs) ∧ Paired (fun (p : Str × MV) (q : Str × V) => p.1 = q.1 ∧ RV K U H p.2 q.2) fs gs := by
  obtain ⟨u, h, dx, gs, rfl, rr⟩ := r.at_ a _ e
  exact ⟨dx, gs, h, rr⟩
structure Ok (K : PySem.W.Frag) (S T : Sto) (H : Hp) : Prop where
  rp : Rp K (cat S T) H
  dj : ∀ a o, T a = some o → S a = none
abbrev Ro := List (Option MV)
structure En (K : PySem.W.Frag) (U : Sto) (H : Hp) (ρ : Ro) (σ : L2.St) : Prop where
  len : ρ.length = σ.length
  get : ∀ (i : Nat) (r : MV), ρ[i]? = some (some r) → ∃ v, σ[i]? = some (some v) ∧ RV K U H r v

section
variable {K : PySem.W.Frag} {U U' S T : Sto} {H H' : Hp} {ρ : Ro} {σ : L2.St}
theorem En.ev (n : En K U H ρ σ) (e : Ev U H U' H') : En K U' H' ρ σ := ⟨n.len, fun i r h => by
  obtain ⟨v, h1, h2⟩ := n.get i r h
  exact ⟨v, h1, h2.ev e⟩⟩
theorem En.set (n : En K U H ρ σ) {r : MV} {v : V} (h : RV K U H r v) (i : Nat) : En K U H (ρ.set i (some r)) (σ.set i (some v)) := by
  refine ⟨by rw [List.length_set, List.length_set]; exact n.len, fun j q e => ?_⟩
  by_cases hj : i = j
  · subst hj
    by_cases hl : i < ρ.length
    · rw [List.getElem?_set_self hl] at e
      cases e
      exact ⟨v, by rw [List.getElem?_set_self (by rw [← n.len]; exact hl)], h⟩
    · rw [List.getElem?_eq_none (by simpa using hl)] at e; cases e
  · rw [List.getElem?_set_ne hj] at e
    obtain ⟨w, h1, h2⟩ := n.get j q e
    exact ⟨w, by rw [List.getElem?_set_ne hj]; exact h1, h2⟩
def wipeM (ρ : Ro) : List Nat → Ro
  | [] => ρ
  | v :: vs => (wipeM ρ vs).set v none
theorem En.unset (n : En K U H ρ σ) (i : Nat) : En K U H (ρ.set i none) (σ.set i none) := by
  refine ⟨by rw [List.length_set, List.length_set]; exact n.len, fun j q e => ?_⟩
  by_cases hj : i = j
  · subst hj
    by_cases hl : i < ρ.length
    · rw [List.getElem?_set_self hl] at e; cases e
    · rw [List.getElem?_eq_none (by simpa using hl)] at e; cases e
  · rw [List.getElem?_set_ne hj] at e
    obtain ⟨w, h1, h2⟩ := n.get j q e
    exact ⟨w, by rw [List.getElem?_set_ne hj]; exact h1, h2⟩
theorem En.wipe (n : En K U H ρ σ) : ∀ vs : List Nat, En K U H (wipeM ρ vs) (wipe σ vs)
  | [] => n
  | v :: vs => (En.wipe n vs).unset v
theorem En.start {rs : List MV} {vs : List V} (h : RVs K U H rs vs) (N : List Str) : En K U H (rs.map some ++ List.replicate (N.length - rs.length) none) (start N vs) := by
  have hl := h.length
  refine ⟨by unfold L2.start; simp [hl], fun i r e => ?_⟩
  by_cases hi : i < rs.length
  · rw [List.getElem?_append_left (by simpa using hi), List.getElem?_map] at e
    cases q : rs[i]? with
    | none => rw [q] at e; cases e
    | some r' =>
      rw [q] at e
      cases e
      obtain ⟨v, h1, h2⟩ := h.get q
      refine ⟨v, ?_, h2⟩
      unfold L2.start
      rw [List.getElem?_append_left (by simpa [hl] using hi), List.getElem?_map, h1]
      rfl
  · rw [List.getElem?_append_right (by simpa using hi), List.getElem?_replicate] at e
    split at e <;> cases e

/-! ### the heap moves -/
/-- a new object, of which the store knows nothing -/
theorem ev_new {p : Addr} {o : HO} (n : H p = none) : Ev U H U (upd H p o) := fun a u e => by
  obtain ⟨h1, h2⟩ := fz_of e
  have ne : a ≠ p := fun z => by rw [z, n] at h2; cases h2
  rw [fz_free h1, upd_ne ne]
  exact h2
theorem Rp.free (r : Rp K U H) {p : Addr} (n : H p = none) : U p = none := by
  cases e : U p with
  | none => rfl
  | some o =>
    obtain ⟨u, h, _⟩ := r.at_ p o e
    rw [n] at h; cases h
theorem Ok.free (k : Ok K S T H) {p : Addr} (n : H p = none) : S p = none ∧ T p = none := cat_left (k.rp.free n)
theorem Rp.new (r : Rp K U H) {p : Addr} {o : HO} (n : H p = none) : Rp K U (upd H p o) := by
  have ev : Ev U H U (upd H p o) := ev_new n
  refine ⟨fun a q e => ?_⟩
  obtain ⟨u, h1, h2⟩ := r.at_ a q e
  exact ⟨u, by rw [upd_ne (ne_of_none h1 n)]; exact h1, h2.ev ev⟩
theorem Ok.new (k : Ok K S T H) {p : Addr} {o : HO} (n : H p = none) : Ok K S T (upd H p o) := ⟨k.rp.new n, k.dj⟩
/-- a new object, into the store -/
theorem ev_newS {p : Addr} {o : HO} {q : MO} (n : H p = none) : Ev U H (sset U p q) (upd H p o) := fun a u e => by
  obtain ⟨h1, h2⟩ := fz_of e
  have ne : a ≠ p := fun z => by rw [z, n] at h2; cases h2
  rw [fz_free (by rw [sset_ne ne]; exact h1), upd_ne ne]
  exact h2
theorem Rp.put (r : Rp K U H) {p : Addr} {q : MO} {o : HO} (ev : Ev U H (sset U p q) (upd H p o)) (h : OR K U H p q o) : Rp K (sset U p q) (upd H p o) := by
  refine ⟨fun a y e => ?_⟩
  by_cases ha : a = p
  · subst ha
    rw [sset_same] at e
    cases e
    exact ⟨o, upd_same, h.ev ev⟩
  · rw [sset_ne ha] at e
    obtain ⟨u, h1, h2⟩ := r.at_ a y e
    exact ⟨u, by rw [upd_ne ha]; exact h1, h2.ev ev⟩
theorem Rp.newL (r : Rp K U H) {p : Addr} {xs : List MV} {vs : List V} (n : H p = none) (h : RVs K U H xs vs) : Rp K (sset U p (.lst xs)) (upd H p (.lst vs)) := r.put (ev_newS n) ⟨vs, rfl, h⟩
/-- a thing of the store is changed -/
theorem ev_set {p : Addr} {o : HO} {q q' : MO} (h : U p = some q) : Ev U H (sset U p q') (upd H p o) := fun a u e => by
  obtain ⟨h1, h2⟩ := fz_of e
  have ne : a ≠ p := fun z => by rw [z, h] at h1; cases h1
  rw [fz_free (by rw [sset_ne ne]; exact h1), upd_ne ne]
  exact h2
theorem Rp.setL (r : Rp K U H) {p : Addr} {q : MO} {xs : List MV} {vs : List V} (hp : U p = some q) (h : RVs K U H xs vs) : Rp K (sset U p (.lst xs)) (upd H p (.lst vs)) := r.put (ev_set hp) ⟨vs, rfl, h⟩
/-- a thing of the store is let go: it will change no more -/
theorem ev_del {p : Addr} : Ev U H (sdel U p) H := fun a u e => by
  obtain ⟨h1, h2⟩ := fz_of e
  have h3 : sdel U p a = none := by
    by_cases ha : a = p
    · rw [ha, sdel_same]
    · rw [sdel_ne ha]; exact h1
  rw [fz_free h3]
  exact h2
theorem Rp.del (r : Rp K U H) {p : Addr} : Rp K (sdel U p) H := by
  have ev : Ev U H (sdel U p) H := ev_del
  refine ⟨fun a y e => ?_⟩
  by_cases ha : a = p
  · rw [ha, sdel_same] at e; cases e
  · rw [sdel_ne ha] at e
    obtain ⟨u, h1, h2⟩ := r.at_ a y e
    exact ⟨u, h1, h2.ev ev⟩
end
end Mi
namespace Mi
open PySem PySem.Spec PyProof.Rows L2

/-! ### what is wanted behind a step -/
inductive MX where
  | pl (C : Addr)
  | fd (C : Addr) (fs : List (Str × PyData))
def RX (K : PySem.W.Frag) (U : Sto) (H : Hp) : MX → Value → Option Addr → Prop
  | .pl C, c, d => c = .ref C ∧ d = none
  | .fd C fs, c, d => c = .ref C ∧ ∃ a gs, d = some a ∧ H a = some (.xd gs) ∧ Paired (fun (p : Str × PyData) (q : Str × V) => p.1 = q.1 ∧ Dp K (Fz U H) q.2 p.2) fs gs
abbrev QE := MV → Sto → Prop
abbrev QX := MX → Sto → Prop
abbrev CE := Ro → Sto → QE → QX → Prop
abbrev CT := Ro → Sto → (Bool → Sto → Prop) → QX → Prop
abbrev CA := Ro → Sto → (List MV → Sto → Prop) → QX → Prop
structure ME where
  nx : Ro → Sto → Prop
  rt : QE
  bk : Ro → Sto → Prop
  ct : Ro → Sto → Prop
  ex : MX → Ro → Sto → Prop
abbrev CS := ME → Ro → Sto → Prop

def Out (K : PySem.W.Frag) (S T : Sto) (H : Hp) (Qm : QE) (Q : VK) : Prop :=
  ∀ r v S' H', Ev (cat S T) H (cat S' T) H' → Ok K S' T H' → RV K (cat S' T) H' r v → Qm r S' → Q v H'
def OutB (K : PySem.W.Frag) (S T : Sto) (H : Hp) (Qm : Bool → Sto → Prop) (Q : Bool → Hp → Prop) : Prop :=
  ∀ b S' H', Ev (cat S T) H (cat S' T) H' → Ok K S' T H' → Qm b S' → Q b H'
def OutL (K : PySem.W.Frag) (S T : Sto) (H : Hp) (Qm : List MV → Sto → Prop) (Q : List V → Hp → Prop) : Prop :=
  ∀ rs vs S' H', Ev (cat S T) H (cat S' T) H' → Ok K S' T H' → RVs K (cat S' T) H' rs vs → Qm rs S' → Q vs H'
def OutX (K : PySem.W.Frag) (S T : Sto) (H : Hp) (xm : QX) (E : XK) : Prop :=
  ∀ x c d S' H', Ev (cat S T) H (cat S' T) H' → Ok K S' T H' → RX K (cat S' T) H' x c d → xm x S' → E c d H'
def OutN (K : PySem.W.Frag) (S T : Sto) (H : Hp) (nm : Ro → Sto → Prop) (N : L2.St → Hp → Prop) : Prop :=
  ∀ ρ σ S' H', Ev (cat S T) H (cat S' T) H' → Ok K S' T H' → En K (cat S' T) H' ρ σ → nm ρ S' → N σ H'
structure OutD (K : PySem.W.Frag) (W : WX) (S T : Sto) (H : Hp) (Dm : ME) (D : Ends) : Prop where
  nx : OutN K S T H Dm.nx D.nx
  rt : Out K S T H Dm.rt D.rt
  bk : OutN K S T H Dm.bk D.bk
  ct : OutN K S T H Dm.ct D.ct
  ex : ∀ x c d ρ σ S' H', Ev (cat S T) H (cat S' T) H' → Ok K S' T H' → En K (cat S' T) H' ρ σ → RX K (cat S' T) H' x c d → Dm.ex x ρ S' → W c d σ H'
section
variable {K : PySem.W.Frag} {S S1 T : Sto} {H H1 : Hp}
theorem Out.go {Qm : QE} {Q : VK} (o : Out K S T H Qm Q) (e : Ev (cat S T) H (cat S1 T) H1) : Out K S1 T H1 Qm Q := fun r v S' H' e' => o r v S' H' (e.trans e')
theorem OutB.go {Qm : Bool → Sto → Prop} {Q : Bool → Hp → Prop} (o : OutB K S T H Qm Q) (e : Ev (cat S T) H (cat S1 T) H1) : OutB K S1 T H1 Qm Q := fun r S' H' e' => o r S' H' (e.trans e')
theorem OutL.go {Qm : List MV → Sto → Prop} {Q : List V → Hp → Prop} (o : OutL K S T H Qm Q) (e : Ev (cat S T) H (cat S1 T) H1) : OutL K S1 T H1 Qm Q := fun r v S' H' e' => o r v S' H' (e.trans e')
theorem OutX.go {xm : QX} {E : XK} (o : OutX K S T H xm E) (e : Ev (cat S T) H (cat S1 T) H1) : OutX K S1 T H1 xm E := fun x c d S' H' e' => o x c d S' H' (e.trans e')
theorem OutN.go {nm : Ro → Sto → Prop} {N : L2.St → Hp → Prop} (o : OutN K S T H nm N) (e : Ev (cat S T) H (cat S1 T) H1) : OutN K S1 T H1 nm N := fun ρ σ S' H' e' => o ρ σ S' H' (e.trans e')
theorem OutD.go {W : WX} {Dm : ME} {D : Ends} (o : OutD K W S T H Dm D) (e : Ev (cat S T) H (cat S1 T) H1) : OutD K W S1 T H1 Dm D :=
  ⟨o.nx.go e, o.rt.go e, o.bk.go e, o.ct.go e, fun x c d ρ σ S' H' e' => o.ex x c d ρ σ S' H' (e.trans e')⟩
/-- an expression's raise, within a statement at ρ -/
theorem OutD.xe {W : WX} {Dm : ME} {D : Ends} {ρ : Ro} {σ : L2.St} (o : OutD K W S T H Dm D) (n : En K (cat S T) H ρ σ) : OutX K S T H (fun x S' => Dm.ex x ρ S') (fun c d H' => W c d σ H') :=
  fun x c d S' H' e k r h => o.ex x c d ρ σ S' H' e k (n.ev e) r h
end

/-! ### the mirror of a reading -/
def SimE (K : PySem.W.Frag) (W : WX) (t : TE) (m : CE) : Prop := ∀ ρ σ S T H Qm xm Q, En K (cat S T) H ρ σ → Ok K S T H → Out K S T H Qm Q → OutX K S T H xm (fun c d H' => W c d σ H') → m ρ S Qm xm → t σ H Q
def SimT (K : PySem.W.Frag) (W : WX) (t : TT) (m : CT) : Prop := ∀ ρ σ S T H Qm xm Q, En K (cat S T) H ρ σ → Ok K S T H → OutB K S T H Qm Q → OutX K S T H xm (fun c d H' => W c d σ H') → m ρ S Qm xm → t σ H Q
def SimA (K : PySem.W.Frag) (W : WX) (t : TA) (m : CA) : Prop := ∀ ρ σ S T H Qm xm Q, En K (cat S T) H ρ σ → Ok K S T H → OutL K S T H Qm Q → OutX K S T H xm (fun c d H' => W c d σ H') → m ρ S Qm xm → t σ H Q
def SimS (K : PySem.W.Frag) (W : WX) (t : TS) (m : CS) : Prop := ∀ ρ σ S T H Dm D, En K (cat S T) H ρ σ → Ok K S T H → OutD K W S T H Dm D → m Dm ρ S → t D σ H
/-- by values -/
abbrev B1 := MV → Sto → QE → Prop
abbrev B2 := MV → MV → Sto → QE → Prop
abbrev BL := List MV → Sto → QE → Prop
def SimR1 (K : PySem.W.Frag) (r : V → Hp → VK → Prop) (b : B1) : Prop := ∀ x vx S T H Qm Q, Ok K S T H → RV K (cat S T) H x vx → Out K S T H Qm Q → b x S Qm → r vx H Q
def SimR2 (K : PySem.W.Frag) (r : R2) (b : B2) : Prop := ∀ x y vx vy S T H Qm Q, Ok K S T H → RV K (cat S T) H x vx → RV K (cat S T) H y vy → Out K S T H Qm Q → b x y S Qm → r vx vy H Q
def SimRL (K : PySem.W.Frag) (r : List V → Hp → VK → Prop) (b : BL) : Prop := ∀ xs vs S T H Qm Q, Ok K S T H → RVs K (cat S T) H xs vs → Out K S T H Qm Q → b xs S Qm → r vs H Q

/-! ### expressions -/
def eC (x : PyData) : CE := fun _ S Q _ => Q (.d x) S
def eVar (i : Nat) : CE := fun ρ S Q _ => ∃ r, ρ[i]? = some (some r) ∧ Q r S
def eOp (b : B2) (ma mb : CE) : CE := fun ρ S Q X => ma ρ S (fun x S1 => mb ρ S1 (fun y S2 => b x y S2 Q) X) X
def eUn (b : B1) (ma : CE) : CE := fun ρ S Q X => ma ρ S (fun x S1 => b x S1 Q) X
def eIf (c : CT) (ma mb : CE) : CE := fun ρ S Q X => c ρ S (fun k S1 => if k = true then ma ρ S1 Q X else mb ρ S1 Q X) X
def aNil : CA := fun _ S Q _ => Q [] S
def aCons (ma : CE) (mr : CA) : CA := fun ρ S Q X => ma ρ S (fun x S1 => mr ρ S1 (fun xs S2 => Q (x :: xs) S2) X) X
/-- data alone -/
def allD : List MV → Option (List PyData)
  | [] => some []
  | .d x :: r => (allD r).map (x :: ·)
  | .m _ :: _ => none
theorem allD_map : ∀ xs : List PyData, allD (xs.map .d) = some xs
  | [] => rfl
  | x :: xs => by show (allD (xs.map .d)).map (x :: ·) = _; rw [allD_map xs]; rfl
theorem allD_some : ∀ {rs : List MV} {xs : List PyData}, allD rs = some xs → rs = xs.map .d
  | [], xs, h => by cases h; rfl
  | .d x :: r, xs, h => by
    have h' : (allD r).map (x :: ·) = some xs := h
    cases e : allD r with
    | none => rw [e] at h'; cases h'
    | some ys => rw [e] at h'; cases h'; rw [allD_some e]; rfl
  | .m _ :: _, xs, h => by cases h
def eTup (ma : CA) : CE := fun ρ S Q X => ma ρ S (fun rs S1 => ∃ xs, allD rs = some xs ∧ xs.length ≤ sizeLine ∧ Q (.d (.tuple xs)) S1) X
/-- a list that is never changed -/
def eLst (ma : CA) : CE := fun ρ S Q X => ma ρ S (fun rs S1 => ∃ xs, allD rs = some xs ∧ xs.length ≤ sizeLine ∧ Q (.d (.list xs)) S1) X
/-- a list that will be changed -/
def eLstM (ma : CA) : CE := fun ρ S Q X => ma ρ S (fun rs S1 => rs.length ≤ sizeLine ∧ ∀ p, S1 p = none → Q (.m p) (sset S1 p (.lst rs))) X
def eCB (b : BL) (ma : CA) : CE := fun ρ S Q X => ma ρ S (fun rs S1 => b rs S1 Q) X
abbrev Fm := List MV → Sto → QE → QX → Prop
def eAndV (ma mb : CE) : CE := fun ρ S Q X => ma ρ S (fun x S1 => ∃ c, x = .d (.bool c) ∧ if c = true then mb ρ S1 Q X else Q (.d (.bool false)) S1) X
def eOrV (ma mb : CE) : CE := fun ρ S Q X => ma ρ S (fun x S1 => ∃ c, x = .d (.bool c) ∧ if c = true then Q (.d (.bool true)) S1 else mb ρ S1 Q X) X
def eNotV (ma : CE) : CE := fun ρ S Q X => ma ρ S (fun x S1 => ∃ c, x = .d (.bool c) ∧ Q (.d (.bool (!c))) S1) X
def cAnd (c d : CT) : CT := fun ρ S Q X => c ρ S (fun k S1 => if k = true then d ρ S1 Q X else Q false S1) X
def cOr (c d : CT) : CT := fun ρ S Q X => c ρ S (fun k S1 => if k = true then Q true S1 else d ρ S1 Q X) X
def cNot (c : CT) : CT := fun ρ S Q X => c ρ S (fun k S1 => Q (!k) S1) X
/-- an expression that gives True or False -/
def cB (ma : CE) : CT := fun ρ S Q X => ma ρ S (fun x S1 => ∃ k, x = .d (.bool k) ∧ Q k S1) X
def seqOf (S : Sto) : MV → Option (List MV)
  | .d (.list xs) => some (xs.map .d)
  | .d (.tuple xs) => some (xs.map .d)
  | .m a => match S a with | some (.lst xs) => some xs | _ => none
  | _ => none
def truV (S : Sto) : MV → Bool → Prop
  | .d .none, k => k = false
  | .d (.bool b), k => k = b
  | .d (.int i), k => k = (i != 0)
  | .d (.str y), k => y.length ≤ sizeLine ∧ k = ((y.length : Int) != 0)
  | r, k => ∃ xs, seqOf S r = some xs ∧ k = !xs.isEmpty
def cTru (ma : CE) : CT := fun ρ S Q X => ma ρ S (fun x S1 => ∃ k, truV S1 x k ∧ Q k S1) X

section
variable {K : PySem.W.Frag} {W : WX} {ta tb te : TE} {ma mb me : CE} {t : TA} {m : CA} {tA tB' : TT} {c d : CT}
theorem sim_var (i : Nat) : SimE K W (tVar i) (eVar i) := fun ρ σ S T H Qm xm Q n k o ox h => by
  obtain ⟨r, e, q⟩ := h
  obtain ⟨v, e2, rv⟩ := n.get i r e
  exact ⟨v, e2, o r v S H Ev.rfl' k rv q⟩
theorem sim_const {v : V} {x : PyData} (h : ∀ H, Dp K H v x) : SimE K W (tC v) (eC x) := fun ρ σ S T H Qm xm Q n k o ox q => o (.d x) v S H Ev.rfl' k (h _) q
theorem sim_int {i : Int} : SimE K W (tC (.int i)) (eC (.int i)) := sim_const fun _ => .int i
theorem sim_str {x : Str} : SimE K W (tC (.str x)) (eC (.str x)) := sim_const fun _ => .str x
theorem sim_bl {b : Bool} : SimE K W (tC (.bl b)) (eC (.bool b)) := sim_const fun _ => .bl b
theorem sim_non : SimE K W (tC .non) (eC .none) := sim_const fun _ => .non
theorem sim_op {r : R2} {b : B2} (hr : SimR2 K r b) (ha : SimE K W ta ma) (hb : SimE K W tb mb) : SimE K W (tOp r ta tb) (eOp b ma mb) := fun ρ σ S T H Qm xm Q n k o ox h =>
  ha ρ σ S T H _ xm _ n k (fun x vx S1 H1 e1 k1 rx h1 => hb ρ σ S1 T H1 _ xm _ (n.ev e1) k1 (fun y vy S2 H2 e2 k2 ry h2 => hr x y vx vy S2 T H2 Qm Q k2 (rx.ev e2) ry (o.go (e1.trans e2)) h2) (ox.go e1) h1) ox h
theorem sim_un {r : V → Hp → VK → Prop} {b : B1} (hr : SimR1 K r b) (ha : SimE K W ta ma) : SimE K W (tUn r ta) (eUn b ma) := fun ρ σ S T H Qm xm Q n k o ox h =>
  ha ρ σ S T H _ xm _ n k (fun x vx S1 H1 e1 k1 rx h1 => hr x vx S1 T H1 Qm Q k1 rx (o.go e1) h1) ox h
theorem sim_if (hc : SimT K W tA c) (ha : SimE K W ta ma) (hb : SimE K W tb mb) : SimE K W (tIf tA ta tb) (eIf c ma mb) := fun ρ σ S T H Qm xm Q n k o ox h =>
  hc ρ σ S T H _ xm _ n k (fun b S1 H1 e1 k1 h1 => by
    cases b with
    | true => exact iteT (ha ρ σ S1 T H1 Qm xm Q (n.ev e1) k1 (o.go e1) (ox.go e1) (by simpa using h1))
    | false => exact iteF (hb ρ σ S1 T H1 Qm xm Q (n.ev e1) k1 (o.go e1) (ox.go e1) (by simpa using h1))) ox h
theorem sim_nil : SimA K W tNil aNil := fun ρ σ S T H Qm xm Q n k o ox h => o [] [] S H Ev.rfl' k .nil h
theorem sim_cons (ha : SimE K W ta ma) (hr : SimA K W t m) : SimA K W (tCons ta t) (aCons ma m) := fun ρ σ S T H Qm xm Q n k o ox h =>
  ha ρ σ S T H _ xm _ n k (fun x vx S1 H1 e1 k1 rx h1 => hr ρ σ S1 T H1 _ xm _ (n.ev e1) k1 (fun rs vs S2 H2 e2 k2 rr h2 => o (x :: rs) (vx :: vs) S2 H2 (e1.trans e2) k2 (.cons (rx.ev e2) rr) h2) (ox.go e1) h1) ox h
theorem RVs.all {U : Sto} {H : Hp} {rs : List MV} {vs : List V} {xs : List PyData} (h : RVs K U H rs vs) (e : allD rs = some xs) : DpAll K (Fz U H) vs xs := by
  rw [allD_some e] at h
  exact h.data
theorem dpAll_len {H : Hp} : ∀ {vs : List V} {xs : List PyData}, DpAll K H vs xs → vs.length = xs.length
  | _, [], h => by cases h; rfl
  | _, x :: xs, h => by cases h with | cons _ t => exact congrArg (· + 1) (dpAll_len t)
/-- a new tuple, a new list of data -/
theorem new_tup {S T : Sto} {H : Hp} {p : Addr} {vs : List V} {xs : List PyData} (k : Ok K S T H) (n : H p = none) (h : DpAll K (Fz (cat S T) H) vs xs) : RV K (cat S T) (upd H p (.tup vs)) (.d (.tuple xs)) (.ref p) := by
  have u := k.rp.free n
  refine .tup (xs := vs) (.inl (.inl ?_)) (dpAll_mono (ev_new n) xs vs h)
  rw [fz_free u, upd_same]
theorem new_lst {S T : Sto} {H : Hp} {p : Addr} {vs : List V} {xs : List PyData} (k : Ok K S T H) (n : H p = none) (h : DpAll K (Fz (cat S T) H) vs xs) : RV K (cat S T) (upd H p (.lst vs)) (.d (.list xs)) (.ref p) := by
  have u := k.rp.free n
  refine .lst (xs := vs) (.inl (.inl ?_)) (dpAll_mono (ev_new n) xs vs h)
  rw [fz_free u, upd_same]
theorem Ok.newL {S T : Sto} {H : Hp} {p : Addr} {rs : List MV} {vs : List V} (k : Ok K S T H) (n : H p = none) (h : RVs K (cat S T) H rs vs) : Ok K (sset S p (.lst rs)) T (upd H p (.lst vs)) ∧ Ev (cat S T) H (cat (sset S p (.lst rs)) T) (upd H p (.lst vs)) := by
  obtain ⟨h1, h2⟩ := k.free n
  rw [cat_sset h2]
  refine ⟨⟨by rw [cat_sset h2]; exact k.rp.newL n h, fun a o e => ?_⟩, ev_newS n⟩
  have ne : a ≠ p := fun z => by rw [z, h2] at e; cases e
  rw [sset_ne ne]
  exact k.dj a o e
theorem sim_tup (h : SimA K W t m) : SimE K W (tTup t) (eTup m) := fun ρ σ S T H Qm xm Q n k o ox q =>
  h ρ σ S T H _ xm _ n k (fun rs vs S1 H1 e1 k1 rr ⟨xs, ea, hl, hq⟩ => by
    have da := rr.all ea
    refine ⟨by rw [dpAll_len da]; exact hl, fun p np => ?_⟩
    exact o _ _ S1 _ (e1.trans (ev_new np)) (k1.new np) (new_tup k1 np da) hq) ox q
theorem sim_lst (h : SimA K W t m) : SimE K W (tLst t) (eLst m) := fun ρ σ S T H Qm xm Q n k o ox q =>
  h ρ σ S T H _ xm _ n k (fun rs vs S1 H1 e1 k1 rr ⟨xs, ea, hl, hq⟩ => by
    have da := rr.all ea
    refine ⟨by rw [dpAll_len da]; exact hl, fun p np => ?_⟩
    exact o _ _ S1 _ (e1.trans (ev_new np)) (k1.new np) (new_lst k1 np da) hq) ox q
theorem sim_lstM (h : SimA K W t m) : SimE K W (tLst t) (eLstM m) := fun ρ σ S T H Qm xm Q n k o ox q =>
  h ρ σ S T H _ xm _ n k (fun rs vs S1 H1 e1 k1 rr ⟨hl, hq⟩ => by
    refine ⟨by rw [← rr.length]; exact hl, fun p np => ?_⟩
    obtain ⟨k2, e2⟩ := k1.newL np rr
    exact o (.m p) _ _ _ (e1.trans e2) k2 rfl (hq p (k1.free np).1)) ox q
theorem sim_cb {r : List V → Hp → VK → Prop} {b : BL} (hr : SimRL K r b) (h : SimA K W t m) : SimE K W (tCB r t) (eCB b m) := fun ρ σ S T H Qm xm Q n k o ox q =>
  h ρ σ S T H _ xm _ n k (fun rs vs S1 H1 e1 k1 rr h1 => hr rs vs S1 T H1 Qm Q k1 rr (o.go e1) h1) ox q
theorem sim_andV (ha : SimE K W ta ma) (hb : SimE K W tb mb) : SimE K W (tAndV ta tb) (eAndV ma mb) := fun ρ σ S T H Qm xm Q n k o ox h =>
  ha ρ σ S T H _ xm _ n k (fun x vx S1 H1 e1 k1 rx ⟨b, ex, h1⟩ => by
    subst ex
    cases rx
    refine ⟨b, rfl, ?_⟩
    cases b with
    | true => exact iteT (hb ρ σ S1 T H1 Qm xm Q (n.ev e1) k1 (o.go e1) (ox.go e1) (by simpa using h1))
    | false => exact iteF (o (.d (.bool false)) _ S1 H1 e1 k1 (Dp.bl false) (by simpa using h1))) ox h
theorem sim_orV (ha : SimE K W ta ma) (hb : SimE K W tb mb) : SimE K W (tOrV ta tb) (eOrV ma mb) := fun ρ σ S T H Qm xm Q n k o ox h =>
  ha ρ σ S T H _ xm _ n k (fun x vx S1 H1 e1 k1 rx ⟨b, ex, h1⟩ => by
    subst ex
    cases rx
    refine ⟨b, rfl, ?_⟩
    cases b with
    | true => exact iteT (o (.d (.bool true)) _ S1 H1 e1 k1 (Dp.bl true) (by simpa using h1))
    | false => exact iteF (hb ρ σ S1 T H1 Qm xm Q (n.ev e1) k1 (o.go e1) (ox.go e1) (by simpa using h1))) ox h
theorem sim_notV (ha : SimE K W ta ma) : SimE K W (tNotV ta) (eNotV ma) := fun ρ σ S T H Qm xm Q n k o ox h =>
  ha ρ σ S T H _ xm _ n k (fun x vx S1 H1 e1 k1 rx ⟨b, ex, h1⟩ => by
    subst ex
    cases rx
    exact ⟨b, rfl, o (.d (.bool (!b))) _ S1 H1 e1 k1 (Dp.bl _) h1⟩) ox h
/-! ### tests -/
theorem sim_and (hc : SimT K W tA c) (hd : SimT K W tB' d) : SimT K W (tAnd tA tB') (cAnd c d) := fun ρ σ S T H Qm xm Q n k o ox h =>
  hc ρ σ S T H _ xm _ n k (fun b S1 H1 e1 k1 h1 => by
    cases b with
    | true => exact iteT (hd ρ σ S1 T H1 Qm xm Q (n.ev e1) k1 (o.go e1) (ox.go e1) (by simpa using h1))
    | false => exact iteF (o false S1 H1 e1 k1 (by simpa using h1))) ox h
theorem sim_or (hc : SimT K W tA c) (hd : SimT K W tB' d) : SimT K W (tOr tA tB') (cOr c d) := fun ρ σ S T H Qm xm Q n k o ox h =>
  hc ρ σ S T H _ xm _ n k (fun b S1 H1 e1 k1 h1 => by
    cases b with
    | true => exact iteT (o true S1 H1 e1 k1 (by simpa using h1))
    | false => exact iteF (hd ρ σ S1 T H1 Qm xm Q (n.ev e1) k1 (o.go e1) (ox.go e1) (by simpa using h1))) ox h
theorem sim_not (hc : SimT K W tA c) : SimT K W (tNot tA) (cNot c) := fun ρ σ S T H Qm xm Q n k o ox h =>
  hc ρ σ S T H _ xm _ n k (fun b S1 H1 e1 k1 h1 => o _ S1 H1 e1 k1 h1) ox h
theorem sim_test (ha : SimE K W ta ma) : SimT K W (tTest ta) (cB ma) := fun ρ σ S T H Qm xm Q n k o ox h =>
  ha ρ σ S T H _ xm _ n k (fun x vx S1 H1 e1 k1 rx ⟨b, ex, h1⟩ => by
    subst ex
    cases rx
    exact ⟨b, rfl, o b S1 H1 e1 k1 h1⟩) ox h
theorem sim_tB (ha : SimE K W ta ma) : SimT K W (L2.tB ta) (cB ma) := sim_test ha
theorem rv_seq {S T : Sto} {H : Hp} {x : MV} {v : V} {rs : List MV} (k : Ok K S T H) (r : RV K (cat S T) H x v) (e : seqOf S x = some rs) :
    ∃ a vs, v = .ref a ∧ (SqL K H a vs ∨ SqT K H a vs) ∧ RVs K (cat S T) H rs vs := by
  cases x with
  | d x =>
    cases x with
    | list xs =>
      cases e
      cases r with
      | lst hs ha => exact ⟨_, _, rfl, .inl (fz_same.seq hs), RVs.of ha⟩
    | tuple xs =>
      cases e
      cases r with
      | tup hs ha => exact ⟨_, _, rfl, .inr (by
          rcases hs with (hs | ⟨o, hs⟩) | hs
          · exact .inl (.inl (fz_same _ _ hs))
          · exact .inl (.inr ⟨o, fz_same _ _ hs⟩)
          · exact .inr hs), RVs.of ha⟩
    | _ => cases e
  | m a =>
    cases r
    have e' : (match S a with | some (.lst xs) => some xs | _ => none) = some rs := e
    cases es : S a with
    | none => rw [es] at e'; cases e'
    | some o =>
      cases o with
      | ins C fs => rw [es] at e'; cases e'
      | dic kvs => rw [es] at e'; cases e'
      | lst xs =>
        rw [es] at e'
        cases e'
        have hT : T a = none := by
          cases q : T a with
          | none => rfl
          | some u => have := k.dj a u q; rw [es] at this; cases this
        obtain ⟨vs, h1, h2⟩ := k.rp.lst a _ (by rw [cat_none hT]; exact es)
        exact ⟨a, vs, rfl, .inl (.inl (.inl h1)), h2⟩
theorem empty_eq {U : Sto} {H : Hp} {rs : List MV} {vs : List V} (h : RVs K U H rs vs) : (!vs.isEmpty) = !rs.isEmpty := by
  cases h <;> rfl
theorem rv_tru {S T : Sto} {H : Hp} {x : MV} {v : V} {b : Bool} (k : Ok K S T H) (r : RV K (cat S T) H x v) (e : truV S x b) : TruV K v H b := by
  have seq : ∀ {x : MV}, RV K (cat S T) H x v → (∃ xs, seqOf S x = some xs ∧ b = !xs.isEmpty) → TruV K v H b := fun {x} r ⟨xs, e1, e2⟩ => by
    obtain ⟨a, vs, rfl, h, rr⟩ := rv_seq k r e1
    have ee := empty_eq rr
    rcases h with h | h
    · exact .inl ⟨vs, h, by rw [e2, ee]⟩
    · exact .inr (.inl ⟨vs, h, by rw [e2, ee]⟩)
  cases x with
  | m a => exact seq r e
  | d x =>
    cases x with
    | none => cases r; exact e
    | bool b' => cases r; exact e
    | int i => cases r; exact e
    | str y => cases r; exact e
    | list xs => exact seq r e
    | tuple xs => exact seq r e
    | dict kv => cases r
theorem sim_tru (ha : SimE K W ta ma) : SimT K W (fun σ H Q => ta σ H fun x H' => ∃ k, TruV K x H' k ∧ Q k H') (cTru ma) := fun ρ σ S T H Qm xm Q n k o ox h =>
  ha ρ σ S T H _ xm _ n k (fun x vx S1 H1 e1 k1 rx ⟨b, eb, h1⟩ => ⟨b, rv_tru k1 rx eb, o b S1 H1 e1 k1 h1⟩) ox h
end
end Mi
namespace Mi
open PySem PySem.Spec PyProof.Rows L2

/-! ### operators, by values -/
def lstOf (S : Sto) : MV → Option (List MV)
  | .d (.list xs) => some (xs.map .d)
  | .m a => match S a with | some (.lst xs) => some xs | _ => none
  | _ => none
/-- a value as data -/
def datOf (S : Sto) : MV → Option PyData
  | .d x => some x
  | .m a => match S a with | some (.lst xs) => (allD xs).map .list | _ => none
def bAdd : B2 := fun x y S Q => match x, y with
  | .d (.int i), .d (.int j) => Q (.d (.int (i + j))) S
  | .d (.str a), .d (.str b) => a.length + b.length ≤ sizeLine ∧ Q (.d (.str (a ++ b))) S
  | .d (.tuple a), .d (.tuple b) => a.length + b.length ≤ sizeLine ∧ Q (.d (.tuple (a ++ b))) S
  | x, y => ∃ a b c, lstOf S x = some a ∧ lstOf S y = some b ∧ a.length + b.length ≤ sizeLine ∧ allD (a ++ b) = some c ∧ Q (.d (.list c)) S
def bInt (f : Int → Int → PyData) : B2 := fun x y S Q => match x, y with
  | .d (.int i), .d (.int j) => Q (.d (f i j)) S
  | _, _ => False
def bIntC (C : Int → Int → Prop) (f : Int → Int → PyData) : B2 := fun x y S Q => match x, y with
  | .d (.int i), .d (.int j) => C i j ∧ Q (.d (f i j)) S
  | _, _ => False
abbrev bSub : B2 := bInt fun i j => .int (i - j)
abbrev bMul : B2 := bIntC CMul fun i j => .int (i * j)
abbrev bFdiv : B2 := bIntC CDiv fun i j => .int (i / j)
abbrev bMod : B2 := bIntC (fun _ j => 0 < j) fun i j => .int (i % j)
abbrev bLt : B2 := bInt fun i j => .bool (decide (i < j))
abbrev bLe : B2 := bInt fun i j => .bool (decide (i ≤ j))
abbrev bGt : B2 := bInt fun i j => .bool (decide (j < i))
abbrev bGe : B2 := bInt fun i j => .bool (decide (j ≤ i))
def bEq : B2 := fun x y S Q => match x, y with
  | .d (.str z), .d (.str w) => Q (.d (.bool (decide (z = w)))) S
  | .d (.int i), .d (.int j) => Q (.d (.bool (decide (i = j)))) S
  | x, y => ∃ a b, datOf S x = some a ∧ datOf S y = some b ∧ SeqAt.shaped a = true ∧ SeqAt.shaped b = true ∧ Q (.d (.bool (PyData.eqv a b))) S
def bNe : B2 := fun x y S Q => match x, y with
  | .d (.str z), .d (.str w) => Q (.d (.bool (!decide (z = w)))) S
  | .d (.int i), .d (.int j) => Q (.d (.bool (!decide (i = j)))) S
  | x, y => ∃ a b, datOf S x = some a ∧ datOf S y = some b ∧ SeqAt.shaped a = true ∧ SeqAt.shaped b = true ∧ Q (.d (.bool (!PyData.eqv a b))) S
def isNone : MV → Bool
  | .d .none => true
  | _ => false
def bIs : B2 := fun x y S Q => match y with
  | .d .none => Q (.d (.bool (isNone x))) S
  | .d (.bool b) => ∃ a, x = .d (.bool a) ∧ Q (.d (.bool (decide (a = b)))) S
  | _ => False
def bIsN : B2 := fun x y S Q => match y with
  | .d .none => Q (.d (.bool (!isNone x))) S
  | .d (.bool b) => ∃ a, x = .d (.bool a) ∧ Q (.d (.bool (!decide (a = b)))) S
  | _ => False
def bIx : B2 := fun x y S Q => match x, y with
  | .d (.str z), .d (.int i) => z.length ≤ sizeLine ∧ ∃ c, atI z.cps.toList i = some c ∧ Q (.d (.str ⟨#[c]⟩)) S
  | x, .d (.int i) => ∃ xs v, seqOf S x = some xs ∧ atI xs i = some v ∧ Q v S
  | _, _ => False
def bNeg : B1 := fun x S Q => match x with
  | .d (.int i) => Q (.d (.int (-i))) S
  | _ => False

section
variable {K : PySem.W.Frag}
theorem fz_dp {U : Sto} {H : Hp} {x : PyData} {v : V} (h : Dp K (Fz U H) v x) : Dp K H v x := dp_mono fz_same x v h
theorem rv_lst {S T : Sto} {H : Hp} {x : MV} {v : V} {rs : List MV} (k : Ok K S T H) (r : RV K (cat S T) H x v) (e : lstOf S x = some rs) :
    ∃ a vs, v = .ref a ∧ SqL K H a vs ∧ RVs K (cat S T) H rs vs := by
  cases x with
  | d x =>
    cases x with
    | list xs =>
      cases e
      cases r with
      | lst hs ha => exact ⟨_, _, rfl, fz_same.seq hs, RVs.of ha⟩
    | _ => cases e
  | m a =>
    cases r
    have e' : (match S a with | some (.lst xs) => some xs | _ => none) = some rs := e
    cases es : S a with
    | none => rw [es] at e'; cases e'
    | some o =>
      cases o with
      | ins C fs => rw [es] at e'; cases e'
      | dic kvs => rw [es] at e'; cases e'
      | lst xs =>
        rw [es] at e'
        cases e'
        have hT : T a = none := by
          cases q : T a with
          | none => rfl
          | some u => have := k.dj a u q; rw [es] at this; cases this
        obtain ⟨vs, h1, h2⟩ := k.rp.lst a _ (by rw [cat_none hT]; exact es)
        exact ⟨a, vs, rfl, .inl (.inl h1), h2⟩
theorem rv_dat {S T : Sto} {H : Hp} {x : MV} {v : V} {c : PyData} (k : Ok K S T H) (r : RV K (cat S T) H x v) (e : datOf S x = some c) : Dp K H v c := by
  cases x with
  | d x =>
    cases e
    exact fz_dp r
  | m a =>
    cases r
    have e' : (match S a with | some (.lst xs) => (allD xs).map .list | _ => none) = some c := e
    cases es : S a with
    | none => rw [es] at e'; cases e'
    | some o =>
      cases o with
      | ins C fs => rw [es] at e'; cases e'
      | dic kvs => rw [es] at e'; cases e'
      | lst xs =>
        rw [es] at e'
        have e2 : (allD xs).map PyData.list = some c := e'
        cases ea : allD xs with
        | none => rw [ea] at e2; cases e2
        | some ys =>
          rw [ea] at e2
          cases e2
          have hT : T a = none := by
            cases q : T a with
            | none => rfl
            | some u => have := k.dj a u q; rw [es] at this; cases this
          obtain ⟨vs, h1, h2⟩ := k.rp.lst a _ (by rw [cat_none hT]; exact es)
          exact .lst (.inl (.inl h1)) (dpAll_mono fz_same ys vs (h2.all ea))
theorem sim_int0 {g : Int → Int → V} {f : Int → Int → PyData} (h : ∀ i j H, Dp K H (g i j) (f i j)) : SimR2 K (rI0 g) (bInt f) := fun x y vx vy S T H Qm Q k rx ry o q => by
  unfold bInt at q
  split at q
  · cases rx; cases ry
    exact ⟨_, _, rfl, rfl, o (.d _) _ S H Ev.rfl' k (h _ _ _) q⟩
  · exact q.elim
theorem sim_intC {C : Int → Int → Prop} {g : Int → Int → V} {f : Int → Int → PyData} (h : ∀ i j H, Dp K H (g i j) (f i j)) : SimR2 K (rI C g) (bIntC C f) := fun x y vx vy S T H Qm Q k rx ry o q => by
  unfold bIntC at q
  split at q
  · cases rx; cases ry
    exact ⟨_, _, rfl, rfl, q.1, o (.d _) _ S H Ev.rfl' k (h _ _ _) q.2⟩
  · exact q.elim
theorem sim_sub : SimR2 K (rI0 fun i j => .int (i - j)) bSub := sim_int0 fun _ _ _ => .int _
theorem sim_mul : SimR2 K (rI CMul fun i j => .int (i * j)) bMul := sim_intC fun _ _ _ => .int _
theorem sim_fdiv : SimR2 K (rI CDiv fun i j => .int (i / j)) bFdiv := sim_intC fun _ _ _ => .int _
theorem sim_mod : SimR2 K (rI (fun _ j => 0 < j) fun i j => .int (i % j)) bMod := sim_intC fun _ _ _ => .int _
theorem sim_lt : SimR2 K (rI0 fun i j => .bl (decide (i < j))) bLt := sim_int0 fun _ _ _ => .bl _
theorem sim_le : SimR2 K (rI0 fun i j => .bl (decide (i ≤ j))) bLe := sim_int0 fun _ _ _ => .bl _
theorem sim_gt : SimR2 K (rI0 fun i j => .bl (decide (j < i))) bGt := sim_int0 fun _ _ _ => .bl _
theorem sim_ge : SimR2 K (rI0 fun i j => .bl (decide (j ≤ i))) bGe := sim_int0 fun _ _ _ => .bl _
def rEqA (K : PySem.W.Frag) : R2 := fun x y H Q => rEq x y H Q ∨ rEqD K x y H Q
def rNeA (K : PySem.W.Frag) : R2 := fun x y H Q => rNe x y H Q ∨ rNeD K x y H Q
theorem op_eqA {X : Cx} (hu : X.A.units + 64 < cLine) : OpR X (compareOp .Eq) (rEqA X.K) := op_eq.or (op_eqD hu)
theorem op_neA {X : Cx} (hu : X.A.units + 64 < cLine) : OpR X (compareOp .NotEq) (rNeA X.K) := op_ne.or (op_neD hu)
theorem v_str {z w : Str} : decide (V.str z = V.str w) = decide (z = w) := decide_eq_decide.mpr ⟨fun e => V.str.inj e, fun e => by rw [e]⟩
theorem v_int {i j : Int} : decide (V.int i = V.int j) = decide (i = j) := decide_eq_decide.mpr ⟨fun e => V.int.inj e, fun e => by rw [e]⟩
theorem sim_eq : SimR2 K (rEqA K) bEq := fun x y vx vy S T H Qm Q k rx ry o q => by
  unfold bEq at q
  split at q
  · cases rx; cases ry
    refine .inl ⟨rfl, ?_⟩
    rw [v_str]
    exact o (.d (.bool _)) _ S H Ev.rfl' k (Dp.bl _) q
  · cases rx; cases ry
    refine .inl ⟨rfl, ?_⟩
    rw [v_int]
    exact o (.d (.bool _)) _ S H Ev.rfl' k (Dp.bl _) q
  · obtain ⟨a, b, ea, eb, sa, sb, q⟩ := q
    exact .inr ⟨a, b, rv_dat k rx ea, rv_dat k ry eb, sa, sb, o (.d (.bool _)) _ S H Ev.rfl' k (Dp.bl _) q⟩
theorem sim_ne : SimR2 K (rNeA K) bNe := fun x y vx vy S T H Qm Q k rx ry o q => by
  unfold bNe at q
  split at q
  · cases rx; cases ry
    refine .inl ⟨rfl, ?_⟩
    rw [v_str]
    exact o (.d (.bool _)) _ S H Ev.rfl' k (Dp.bl _) q
  · cases rx; cases ry
    refine .inl ⟨rfl, ?_⟩
    rw [v_int]
    exact o (.d (.bool _)) _ S H Ev.rfl' k (Dp.bl _) q
  · obtain ⟨a, b, ea, eb, sa, sb, q⟩ := q
    exact .inr ⟨a, b, rv_dat k rx ea, rv_dat k ry eb, sa, sb, o (.d (.bool _)) _ S H Ev.rfl' k (Dp.bl _) q⟩
theorem rv_none {U : Sto} {H : Hp} {x : MV} {v : V} (r : RV K U H x v) : decide (v = .non) = isNone x := by
  cases x with
  | m a => cases r; rfl
  | d x =>
    cases x <;> cases r <;> rfl
def rIsA : R2 := fun x y H Q => (y = .non ∧ Q (.bl (decide (x = .non))) H) ∨ ∃ a b, x = .bl a ∧ y = .bl b ∧ Q (.bl (decide (a = b))) H
def rIsNA : R2 := fun x y H Q => (y = .non ∧ Q (.bl (!decide (x = .non))) H) ∨ ∃ a b, x = .bl a ∧ y = .bl b ∧ Q (.bl (!decide (a = b))) H
theorem op_isA {X : Cx} : OpR X (compareOp .Is) rIsA := op_isN.or op_isBl
theorem op_isNA {X : Cx} : OpR X (compareOp .IsNot) rIsNA := op_notN.or op_notBl
theorem sim_is : SimR2 K rIsA bIs := fun x y vx vy S T H Qm Q k rx ry o q => by
  unfold bIs at q
  split at q
  · cases ry
    refine .inl ⟨rfl, ?_⟩
    rw [rv_none rx]
    exact o (.d (.bool _)) _ S H Ev.rfl' k (Dp.bl _) q
  · obtain ⟨a, rfl, q⟩ := q
    cases rx; cases ry
    exact .inr ⟨_, _, rfl, rfl, o (.d (.bool _)) _ S H Ev.rfl' k (Dp.bl _) q⟩
  · exact q.elim
theorem sim_isN : SimR2 K rIsNA bIsN := fun x y vx vy S T H Qm Q k rx ry o q => by
  unfold bIsN at q
  split at q
  · cases ry
    refine .inl ⟨rfl, ?_⟩
    rw [rv_none rx]
    exact o (.d (.bool _)) _ S H Ev.rfl' k (Dp.bl _) q
  · obtain ⟨a, rfl, q⟩ := q
    cases rx; cases ry
    exact .inr ⟨_, _, rfl, rfl, o (.d (.bool _)) _ S H Ev.rfl' k (Dp.bl _) q⟩
  · exact q.elim

/-! ### + -/
def rCatL (K : PySem.W.Frag) : R2 := fun x y H Q => ∃ l b xs zs, x = .ref l ∧ y = .ref b ∧ SqL K H l xs ∧ SqL K H b zs ∧ xs.length + zs.length ≤ sizeLine ∧ ∀ p, H p = none → Q (.ref p) (upd H p (.lst (xs ++ zs)))
theorem op_catL {X : Cx} : OpR X (binaryOp .Add) (rCatL X.K) := by
  intro pins s σ H x y v u Q I rx ry h
  obtain ⟨l, b, xs, zs, rfl, rfl, hl, hb, hz, q⟩ := h
  cases rx
  cases ry
  obtain ⟨its, r1, p1, _⟩ := I.list hl
  obtain ⟨its2, r2, p2, _⟩ := I.list hb
  obtain ⟨⟨c1, d1, t1, s1⟩, n1, g1, e1, _, e2⟩ := p1
  obtain ⟨⟨c2, d2, t2, s2⟩, n2, g2, e3, _, e4⟩ := p2
  simp only at e1 e2 e3 e4
  subst e1 e2 e3 e4
  have h1 := r1.length
  have h2 := r2.length
  refine concat_meets ⟨_, g1, rfl⟩ ⟨_, g2, rfl⟩ noFill_list_add seq_list_add PySem.F.slot_list_add PySem.F.entry_list_add (PySem.F.args_list_add_2 _ _)
    (list_addW l b its.toArray its2.toArray n1 n2 d1 d2 s1 s2 (by rw [List.size_toArray, List.size_toArray]; omega)) ⟨g1, g2, ?_⟩
  rw [show its.toArray ++ its2.toArray = (its ++ its2).toArray by simp]
  exact ⟨.ref _, _, I.lnew (t' := s.toks) (r1.append r2) (by rw [List.length_append]; omega), rfl, q _ I.fresh⟩
def rAddA (K : PySem.W.Frag) : R2 := fun x y H Q => rI0 (fun i j => .int (i + j)) x y H Q ∨
  ((∃ i j, x = .str i ∧ y = .str j ∧ i.length + j.length ≤ sizeLine ∧ Q (.str (i ++ j)) H) ∨ (rCatL K x y H Q ∨ rCatA K x y H Q))
theorem op_addA {X : Cx} : OpR X (binaryOp .Add) (rAddA X.K) := op_add.or (op_add_str.or (op_catL.or op_catA))
theorem dpAll_append {H : Hp} : ∀ {vs ws : List V} {xs ys : List PyData}, DpAll K H vs xs → DpAll K H ws ys → DpAll K H (vs ++ ws) (xs ++ ys)
  | _, _, [], _, h, h' => by cases h; exact h'
  | _, _, x :: xs, _, h, h' => by cases h with | cons a b => exact .cons a (dpAll_append b h')
theorem fz_tup {U : Sto} {H : Hp} {a : Addr} {xs : List V} (h : SqT K (Fz U H) a xs) : SqT K H a xs := by
  rcases h with (h | ⟨o, h⟩) | h
  · exact .inl (.inl (fz_same _ _ h))
  · exact .inl (.inr ⟨o, fz_same _ _ h⟩)
  · exact .inr h
theorem sim_addA : SimR2 K (rAddA K) bAdd := fun x y vx vy S T H Qm Q k rx ry o q => by
  unfold bAdd at q
  split at q
  · cases rx; cases ry
    exact .inl ⟨_, _, rfl, rfl, o (.d (.int _)) _ S H Ev.rfl' k (Dp.int _) q⟩
  · cases rx; cases ry
    exact .inr (.inl ⟨_, _, rfl, rfl, q.1, o (.d (.str _)) _ S H Ev.rfl' k (Dp.str _) q.2⟩)
  · rename_i a b
    obtain ⟨hz, q⟩ := q
    cases rx with
    | tup h1 a1 =>
      cases ry with
      | tup h2 a2 =>
        have l1 := dpAll_len a1
        have l2 := dpAll_len a2
        refine .inr (.inr (.inr ⟨_, _, _, _, rfl, rfl, fz_tup h1, fz_tup h2, by omega, fun e => ?_, fun _ e => ?_, fun _ _ p np => ?_⟩))
        · subst e
          cases a1
          exact o (.d _) _ S H Ev.rfl' k (Dp.tup h2 a2) q
        · subst e
          cases a2
          rw [List.append_nil] at q
          exact o (.d _) _ S H Ev.rfl' k (Dp.tup h1 a1) q
        · exact o _ _ S _ (ev_new np) (k.new np) (new_tup k np (dpAll_append a1 a2)) q
  · obtain ⟨a, b, c, ea, eb, hz, ec, q⟩ := q
    obtain ⟨p1, v1, rfl, h1, r1⟩ := rv_lst k rx ea
    obtain ⟨p2, v2, rfl, h2, r2⟩ := rv_lst k ry eb
    have l1 := r1.length
    have l2 := r2.length
    refine .inr (.inr (.inl ⟨p1, p2, v1, v2, rfl, rfl, h1, h2, by omega, fun p np => ?_⟩))
    exact o _ _ S _ (ev_new np) (k.new np) (new_lst k np ((r1.append r2).all ec)) q

/-! ### subscripts -/
theorem rvs_at {U : Sto} {H : Hp} {rs : List MV} {vs : List V} {i : Int} {r : MV} (h : RVs K U H rs vs) (e : atI rs i = some r) : ∃ v, atI vs i = some v ∧ RV K U H r v := by
  unfold atI at e ⊢
  rw [← h.length]
  cases q : ixN rs.length i with
  | none => rw [q] at e; cases e
  | some j =>
    rw [q] at e
    exact h.get e
theorem sim_ix : SimR2 K (rIx K) bIx := fun x y vx vy S T H Qm Q k rx ry o q => by
  unfold bIx at q
  split at q
  · cases rx; cases ry
    obtain ⟨hz, c, hc, q⟩ := q
    exact .inr (.inr ⟨_, _, c, rfl, rfl, hz, hc, o (.d (.str _)) _ S H Ev.rfl' k (Dp.str _) q⟩)
  · cases ry
    obtain ⟨xs, r, e, ea, q⟩ := q
    obtain ⟨a, vs, rfl, h, rr⟩ := rv_seq k rx e
    obtain ⟨v, ev, rv⟩ := rvs_at rr ea
    rcases h with h | h
    · exact .inl ⟨a, vs, _, v, rfl, rfl, h, ev, o r v S H Ev.rfl' k rv q⟩
    · exact .inr (.inl ⟨a, vs, _, v, rfl, rfl, h, ev, o r v S H Ev.rfl' k rv q⟩)
  · exact q.elim

/-! ### built-ins -/
def lenV (S : Sto) : MV → Nat → Prop
  | .d (.str z), n => z.length ≤ sizeLine ∧ n = z.length
  | x, n => ∃ xs, seqOf S x = some xs ∧ n = xs.length
def bLen : BL := fun xs S Q => match xs with
  | [x] => ∃ n : Nat, lenV S x n ∧ Q (.d (.int n)) S
  | _ => False
theorem sim_len : SimRL K (fun xs H Q => ∃ x n, xs = [x] ∧ LenV K x H n ∧ Q (.int n) H) bLen := fun xs vs S T H Qm Q k r o q => by
  unfold bLen at q
  split at q
  · obtain ⟨n, hn, q⟩ := q
    cases r with
    | cons rx rt =>
      cases rt
      refine ⟨_, n, rfl, ?_, o (.d (.int n)) _ S H Ev.rfl' k (Dp.int n) q⟩
      rename_i x v
      have seq : (∃ ys, seqOf S x = some ys ∧ n = ys.length) → LenV K v H n := fun ⟨ys, e, en⟩ => by
        obtain ⟨a, ws, rfl, h, rr⟩ := rv_seq k rx e
        rcases h with h | h
        · exact .inl ⟨ws, h, by rw [en, rr.length]⟩
        · exact .inr ⟨ws, h, by rw [en, rr.length]⟩
      cases x with
      | m a => exact seq hn
      | d x =>
        cases x with
        | str z => cases rx; exact hn
        | none => exact seq hn
        | bool _ => exact seq hn
        | int _ => exact seq hn
        | list _ => exact seq hn
        | tuple _ => exact seq hn
        | dict _ => exact seq hn
  · exact q.elim
def bIntOf : BL := fun xs S Q => match xs with
  | [.d (.int i)] => Q (.d (.int i)) S
  | [.d (.bool b)] => Q (.d (.int (if b then 1 else 0))) S
  | _ => False
theorem sim_intOf : SimRL K (fun xs H Q => (∃ i, xs = [.int i] ∧ Q (.int i) H) ∨ ∃ k, xs = [.bl k] ∧ Q (.int (if k then 1 else 0)) H) bIntOf := fun xs vs S T H Qm Q k r o q => by
  unfold bIntOf at q
  split at q
  · cases r with
    | cons rx rt => cases rt; cases rx; exact .inl ⟨_, rfl, o (.d (.int _)) _ S H Ev.rfl' k (Dp.int _) q⟩
  · cases r with
    | cons rx rt => cases rt; cases rx; exact .inr ⟨_, rfl, o (.d (.int _)) _ S H Ev.rfl' k (Dp.int _) q⟩
  · exact q.elim
def b2Int (f : Int → Int → Int) : BL := fun xs S Q => match xs with
  | [.d (.int i), .d (.int j)] => Q (.d (.int (f i j))) S
  | _ => False
theorem sim_b2 {f : Int → Int → Int} : SimRL K (fun xs H Q => ∃ i j, xs = [.int i, .int j] ∧ Q (.int (f i j)) H) (b2Int f) := fun xs vs S T H Qm Q k r o q => by
  unfold b2Int at q
  split at q
  · cases r with
    | cons rx rt => cases rt with | cons ry rt => cases rt; cases rx; cases ry; exact ⟨_, _, rfl, o (.d (.int _)) _ S H Ev.rfl' k (Dp.int _) q⟩
  · exact q.elim
def bools : List MV → Option (List Bool)
  | [] => some []
  | .d (.bool b) :: r => (bools r).map (b :: ·)
  | _ => none
theorem bools_map : ∀ bs : List Bool, bools (bs.map fun b => MV.d (.bool b)) = some bs
  | [] => rfl
  | b :: bs => by show (bools (bs.map fun b => MV.d (.bool b))).map (b :: ·) = _; rw [bools_map bs]; rfl
theorem bools_rv {U : Sto} {H : Hp} : ∀ {rs : List MV} {bs : List Bool} {vs : List V}, bools rs = some bs → RVs K U H rs vs → vs = bs.map V.bl
  | [], bs, _, e, h => by cases e; cases h; rfl
  | .m _ :: _, _, _, e, h => by cases e
  | .d x :: r, bs, _, e, h => by
    cases x with
    | bool b =>
      have e' : (bools r).map (b :: ·) = some bs := e
      cases q : bools r with
      | none => rw [q] at e'; cases e'
      | some cs =>
        rw [q] at e'
        cases e'
        cases h with
        | cons h1 h2 => cases h1; rw [bools_rv q h2]; rfl
    | _ => cases e
def bAll : BL := fun xs S Q => match xs with
  | [x] => ∃ rs bs, lstOf S x = some rs ∧ bools rs = some bs ∧ Q (.d (.bool (bs.all id))) S
  | _ => False
theorem sim_all : SimRL K (rAll K) bAll := fun xs vs S T H Qm Q k r o q => by
  unfold bAll at q
  split at q
  · obtain ⟨rs, bs, e, eb, q⟩ := q
    cases r with
    | cons rx rt =>
      cases rt
      obtain ⟨a, ws, rfl, h, rr⟩ := rv_lst k rx e
      have ew := bools_rv eb rr
      subst ew
      exact ⟨a, bs, rfl, h, o (.d (.bool _)) _ S H Ev.rfl' k (Dp.bl _) q⟩
  · exact q.elim
def bAny : BL := fun xs S Q => match xs with
  | [x] => ∃ rs bs, lstOf S x = some rs ∧ bools rs = some bs ∧ Q (.d (.bool (bs.any id))) S
  | _ => False
theorem sim_any : SimRL K (rAny K) bAny := fun xs vs S T H Qm Q k r o q => by
  unfold bAny at q
  split at q
  · obtain ⟨rs, bs, e, eb, q⟩ := q
    cases r with
    | cons rx rt =>
      cases rt
      obtain ⟨a, ws, rfl, h, rr⟩ := rv_lst k rx e
      have ew := bools_rv eb rr
      subst ew
      exact ⟨a, bs, rfl, h, o (.d (.bool _)) _ S H Ev.rfl' k (Dp.bl _) q⟩
  · exact q.elim
def tupOf : MV → Option (List PyData)
  | .d (.tuple xs) => some xs
  | _ => none
/-- tuple(x) -/
def bTuple : BL := fun xs S Q => match xs with
  | [.d (.tuple ys)] => Q (.d (.tuple ys)) S
  | [x] => ∃ rs ys, lstOf S x = some rs ∧ allD rs = some ys ∧ Q (.d (.tuple ys)) S
  | _ => False
theorem sim_tuple : SimRL K (fun xs H Q => ∃ p ys, xs = [.ref p] ∧ ((SqL K H p ys ∧ ∀ l, H l = none → Q (.ref l) (upd H l (.tup ys))) ∨ (SqT K H p ys ∧ Q (.ref p) H))) bTuple := fun xs vs S T H Qm Q k r o q => by
  unfold bTuple at q
  split at q
  · cases r with
    | cons rx rt =>
      cases rt
      cases rx with
      | tup h1 a1 => exact ⟨_, _, rfl, .inr ⟨fz_tup h1, o (.d _) _ S H Ev.rfl' k (Dp.tup h1 a1) q⟩⟩
  · obtain ⟨rs, ys, e, ea, q⟩ := q
    cases r with
    | cons rx rt =>
      cases rt
      obtain ⟨a, ws, rfl, h, rr⟩ := rv_lst k rx e
      exact ⟨a, ws, rfl, .inl ⟨h, fun l nl => o _ _ S _ (ev_new nl) (k.new nl) (new_tup k nl (rr.all ea)) q⟩⟩
  · exact q.elim
/-- list(x): a new list, never changed; one that will be -/
def bList : BL := fun xs S Q => match xs with
  | [x] => ∃ rs ys, seqOf S x = some rs ∧ allD rs = some ys ∧ Q (.d (.list ys)) S
  | _ => False
def bListM : BL := fun xs S Q => match xs with
  | [x] => ∃ rs, seqOf S x = some rs ∧ ∀ p, S p = none → Q (.m p) (sset S p (.lst rs))
  | _ => False
theorem sim_list : SimRL K (fun xs H Q => ∃ p ys, xs = [.ref p] ∧ (SqL K H p ys ∨ SqT K H p ys) ∧ ∀ l, H l = none → Q (.ref l) (upd H l (.lst ys))) bList := fun xs vs S T H Qm Q k r o q => by
  unfold bList at q
  split at q
  · obtain ⟨rs, ys, e, ea, q⟩ := q
    cases r with
    | cons rx rt =>
      cases rt
      obtain ⟨a, ws, rfl, h, rr⟩ := rv_seq k rx e
      exact ⟨a, ws, rfl, h, fun l nl => o _ _ S _ (ev_new nl) (k.new nl) (new_lst k nl (rr.all ea)) q⟩
  · exact q.elim
theorem sim_listM : SimRL K (fun xs H Q => ∃ p ys, xs = [.ref p] ∧ (SqL K H p ys ∨ SqT K H p ys) ∧ ∀ l, H l = none → Q (.ref l) (upd H l (.lst ys))) bListM := fun xs vs S T H Qm Q k r o q => by
  unfold bListM at q
  split at q
  · obtain ⟨rs, e, q⟩ := q
    cases r with
    | cons rx rt =>
      cases rt
      obtain ⟨a, ws, rfl, h, rr⟩ := rv_seq k rx e
      refine ⟨a, ws, rfl, h, fun l nl => ?_⟩
      obtain ⟨k2, e2⟩ := k.newL nl rr
      exact o (.m l) _ _ _ e2 k2 rfl (q l (k.free nl).1)
  · exact q.elim
end

/-! ### repr of data: where no repr is under way -/
def Fine (x : PyData) : Prop := x.canLay0 = true ∧ x.depth ≤ 64 ∧ x.showable = true ∧ x.shown.length ≤ sizeLine
def rRepr (K : PySem.W.Frag) : List V → Hp → VK → Prop := fun xs H Q => ∃ v x, xs = [v] ∧ Dp K H v x ∧ Fine x ∧ Q (.str x.shown) H
theorem call_repr {X : Cx} (hg : X.A.guards = some []) (hu : X.A.units + 70 < cLine) : CallR X (.builtin "repr") (rRepr X.K) := by
  intro pins s σ H xs us Q I r h
  obtain ⟨v, x, rfl, hd, ⟨f1, f2, f3, f4⟩, q⟩ := h
  obtain ⟨u, rfl, rv⟩ := vals1 r
  obtain ⟨as, rd⟩ := Dp.reads I x v u hd rv
  have far : ∀ {a : Addr}, Reads s.heap (.ref a) x as → wpAny (model X.prog X.w) X.A (call (.builtin "repr") [.ref a]) (EP X pins σ Q) X.xe s := fun rd =>
    repr_of_reads' rd f3 (PyData.noDict_hsm (PyData.hasDict_of_canLay x f1)) hg (by omega) (fun _ _ e => e)
      (fun h' u tk hk => ⟨.str x.shown, H, I.kept (t' := tk) hk, ⟨_, rfl⟩, q⟩) f4
  cases x with
  | none => cases hd; cases rv; exact PySem.P.repr_of_none ⟨.str _, H, I.tok _, ⟨_, rfl⟩, q⟩
  | bool b => cases hd; cases rv; exact PySem.P.repr_of_bool ⟨.str _, H, I.tok _, ⟨_, rfl⟩, q⟩
  | int i => cases hd; obtain ⟨t, rfl⟩ := rv; exact PySem.P.repr_of_int (of_decide_eq_true f3) ⟨.str _, H, I.tok _, ⟨_, rfl⟩, q⟩
  | str z => cases hd; obtain ⟨t, rfl⟩ := rv; exact PySem.P.repr_of_str ⟨.str _, H, I.tok _, ⟨_, rfl⟩, q⟩ f4
  | list ys => cases hd; cases rv; exact far rd
  | tuple ys => cases hd; cases rv; exact far rd
  | dict _ => cases hd
def bRepr : BL := fun xs S Q => match xs with
  | [v] => ∃ x, datOf S v = some x ∧ Fine x ∧ Q (.d (.str x.shown)) S
  | _ => False
theorem sim_repr {K : PySem.W.Frag} : SimRL K (rRepr K) bRepr := fun xs vs S T H Qm Q k r o q => by
  unfold bRepr at q
  split at q
  · obtain ⟨x, e, f, q⟩ := q
    cases r with
    | cons rx rt =>
      cases rt
      exact ⟨_, x, rfl, rv_dat k rx e, f, o (.d (.str _)) _ S H Ev.rfl' k (Dp.str _) q⟩
  · exact q.elim
end Mi
namespace Mi
open PySem PySem.Spec PyProof.Rows L2

/-! ### what is walked -/
structure MIt where
  items : List MV
  ok : Sto → Prop
abbrev CI := Ro → Sto → (MIt → Sto → Prop) → QX → Prop
def Wk (K : PySem.W.Frag) (it : MIt) (J : It) (U0 : Sto) (H0 : Hp) : Prop := ∃ G Y, Walk J it.items.length G Y ∧
  (∀ S T H, Ev U0 H0 (cat S T) H → Ok K S T H → it.ok S → G H) ∧
  ∀ S T H i x H', Ev U0 H0 (cat S T) H → Ok K S T H → it.ok S → i < it.items.length → Y i H x H' →
    Ev (cat S T) H (cat S T) H' ∧ Ok K S T H' ∧ (∀ a o, H a = some o → H' a = some o) ∧ ∃ r, it.items[i]? = some r ∧ RV K (cat S T) H' r x
def SimI (K : PySem.W.Frag) (W : WX) (wi : TI) (mi : CI) : Prop := ∀ ρ σ S T H (Qm : MIt → Sto → Prop) xm R, En K (cat S T) H ρ σ → Ok K S T H →
  (∀ it J S' H', Ev (cat S T) H (cat S' T) H' → Ok K S' T H' → Wk K it J (cat S' T) H' → Qm it S' → R J H') → OutX K S T H xm (fun c d H' => W c d σ H') → mi ρ S Qm xm → wi σ H R
def okOf (r : MV) (xs : List MV) : Sto → Prop := match r with
  | .m a => fun S => S a = some (.lst xs)
  | _ => fun _ => True
def iSeq (me : CE) : CI := fun ρ S Q X => me ρ S (fun r S1 => match r with
  | .d (.str z) => Q ⟨z.cps.toList.map fun c => .d (.str ⟨#[c]⟩), fun _ => True⟩ S1
  | r => ∃ xs, seqOf S1 r = some xs ∧ (xs.length ≤ sizeLine → Q ⟨xs, okOf r xs⟩ S1)) X
def rng (lo : Int) (n : Nat) : List MV := (List.range n).map fun i => .d (.int (lo + (i : Nat)))
theorem rng_length (lo : Int) (n : Nat) : (rng lo n).length = n := by unfold rng; rw [List.length_map, List.length_range]
theorem rng_get {lo : Int} {n i : Nat} (h : i < n) : (rng lo n)[i]? = some (.d (.int (lo + i))) := by
  unfold rng
  rw [List.getElem?_map, List.getElem?_range h]
  rfl
def iRange1 (ma : CA) : CI := fun ρ S Q X => ma ρ S (fun rs S1 => match rs with
  | [.d (.int j)] => -(2 ^ 62) ≤ j ∧ j < 2 ^ 62 ∧ Q ⟨rng 0 j.toNat, fun _ => True⟩ S1
  | _ => False) X
def iRange2 (ma : CA) : CI := fun ρ S Q X => ma ρ S (fun rs S1 => match rs with
  | [.d (.int i), .d (.int j)] => (-(2 ^ 62) ≤ i ∧ i < 2 ^ 62 ∧ -(2 ^ 62) ≤ j ∧ j < 2 ^ 62) ∧ Q ⟨rng i (j - i).toNat, fun _ => True⟩ S1
  | _ => False) X
def zipD (xs ys : List PyData) : List MV := (List.zip xs ys).map fun p => .d (.tuple [p.1, p.2])
/-- zip of two lists, or of two tuples, of data -/
def iZip2 (ma : CA) : CI := fun ρ S Q X => ma ρ S (fun rs S1 => match rs with
  | [.d (.tuple xs), .d (.tuple ys)] => Q ⟨zipD xs ys, fun _ => True⟩ S1
  | [.d (.list xs), .d (.list ys)] => Q ⟨zipD xs ys, fun _ => True⟩ S1
  | _ => False) X

def iSeqA (K : PySem.W.Frag) (tl : TE) : TI := fun σ H R => tl σ H fun x H1 => (∃ a xs, x = .ref a ∧ SqL K H1 a xs ∧ (xs.length ≤ sizeLine → R (Itl K a) H1)) ∨ (∃ a xs, x = .ref a ∧ SqT K H1 a xs ∧ (xs.length ≤ sizeLine → R (Itt K a) H1)) ∨ ∃ z, x = .str z ∧ R (Its z) H1
theorem pi_seqA {X : Cx} {tg l : Expr} {tl : TE} (hl : PE X l tl) : PI X tg l (iSeqA X.K tl) := by
  constructor
  intro pins s σ H R I h
  refine thn (hl.run pins s σ H _ I h) ?_
  rintro v s1 ⟨x, H1, I1, r1, q1⟩
  rcases q1 with ⟨a, xs, rfl, hq, q⟩ | ⟨a, xs, rfl, hq, q⟩ | ⟨z, rfl, q⟩
  · cases r1
    obtain ⟨its, _, p, hz⟩ := I1.list hq
    exact wpAny_pyIter_list p.isList (pi_one (tk := s1.toks) I1 _ (turn_list a _) ⟨_, Heap.get?_push_size _ rfl, rfl, rfl⟩ (q hz))
  · cases r1
    obtain ⟨its, _, p, hz⟩ := I1.tuple hq
    exact wpAny_pyIter_tuple (show s1.heap.IsTuple a its.toArray from p) (pi_one (tk := s1.toks) I1 _ (turn_tuple a _) ⟨_, Heap.get?_push_size _ rfl, rfl, rfl⟩ (q hz))
  · obtain ⟨t, rfl⟩ := r1
    cases ha : z.cps.all (· < 128) with
    | false => exact wpAny_pyIter_wide ha (pi_one (tk := s1.toks) I1 _ (turn_str _ z t "str_iterator" (.inr rfl)) ⟨_, Heap.get?_push_size _ rfl, rfl, rfl⟩ q)
    | true => exact wpAny_pyIter_ascii ha (pi_one (tk := s1.toks) I1 _ (turn_str _ z t "str_ascii_iterator" (.inl rfl)) ⟨_, Heap.get?_push_size _ rfl, rfl, rfl⟩ q)

section
variable {K : PySem.W.Frag} {W : WX}
/-- the walk of a sequence of the mirror -/
theorem wk_seq {S T : Sto} {H : Hp} {r : MV} {v : V} {rs : List MV} (k : Ok K S T H) (rv : RV K (cat S T) H r v) (e : seqOf S r = some rs) :
    ∃ a vs, v = .ref a ∧ vs.length = rs.length ∧ ((SqL K H a vs ∧ Wk K ⟨rs, okOf r rs⟩ (Itl K a) (cat S T) H) ∨ (SqT K H a vs ∧ Wk K ⟨rs, okOf r rs⟩ (Itt K a) (cat S T) H)) := by
  have stay : ∀ {U : Sto} {H' : Hp} {vs : List V} {i : Nat} {x : V}, RVs K (cat S T) H rs vs → Ev (cat S T) H U H' → vs[i]? = some x → ∃ r, rs[i]? = some r ∧ RV K U H' r x := fun {U H' vs i x} h ev hx => by
    obtain ⟨r, h1, h2⟩ := h.get' hx
    exact ⟨r, h1, h2.ev ev⟩
  cases r with
  | d x =>
    cases x with
    | list xs =>
      cases e
      cases rv with
      | lst hs ha =>
        rename_i a vs
        have rr := RVs.of ha
        refine ⟨a, vs, rfl, rr.length.symm, .inl ⟨fz_same.seq hs, fun H => SqL K H a vs, YAt vs, ?_, fun S' T' H' ev _ _ => fz_same.seq (Same.seq ev hs), fun S' T' H' i x H2 ev ok _ hi y => ?_⟩⟩
        · rw [rr.length]; exact walk_list
        · obtain ⟨rfl, hx⟩ := y
          obtain ⟨r, h1, h2⟩ := stay rr ev hx
          exact ⟨Ev.rfl', ok, fun _ _ z => z, r, h1, h2⟩
    | tuple xs =>
      cases e
      cases rv with
      | tup hs ha =>
        rename_i a vs
        have rr := RVs.of ha
        have mono : ∀ {U : Sto} {H' : Hp}, Ev (cat S T) H U H' → SqT K H' a vs := fun {U H'} ev => by
          rcases hs with (h | ⟨o, h⟩) | h
          · exact .inl (.inl (fz_same _ _ (ev _ _ h)))
          · exact .inl (.inr ⟨o, fz_same _ _ (ev _ _ h)⟩)
          · exact .inr h
        refine ⟨a, vs, rfl, rr.length.symm, .inr ⟨fz_tup hs, fun H => SqT K H a vs, YAt vs, ?_, fun S' T' H' ev _ _ => mono ev, fun S' T' H' i x H2 ev ok _ hi y => ?_⟩⟩
        · rw [rr.length]; exact walk_tup
        · obtain ⟨rfl, hx⟩ := y
          obtain ⟨r, h1, h2⟩ := stay rr ev hx
          exact ⟨Ev.rfl', ok, fun _ _ z => z, r, h1, h2⟩
    | _ => cases e
  | m a =>
    cases rv
    have e' : (match S a with | some (.lst xs) => some xs | _ => none) = some rs := e
    have at_ : ∀ {S' T' : Sto} {H' : Hp}, Ok K S' T' H' → S' a = some (.lst rs) → ∃ vs, H' a = some (.lst vs) ∧ RVs K (cat S' T') H' rs vs := fun {S' T' H'} ok es => by
      have hT : T' a = none := by
        cases q : T' a with
        | none => rfl
        | some u => have := ok.dj a u q; rw [es] at this; cases this
      exact ok.rp.lst a _ (by rw [cat_none hT]; exact es)
    have es : S a = some (.lst rs) := by
      cases es : S a with
      | none => rw [es] at e'; cases e'
      | some o =>
        cases o with
        | ins C fs => rw [es] at e'; cases e'
        | dic kvs => rw [es] at e'; cases e'
        | lst xs => rw [es] at e'; cases e'; rfl
    obtain ⟨vs, h1, h2⟩ := at_ k es
    refine ⟨a, vs, rfl, h2.length.symm, .inl ⟨.inl (.inl h1), fun H => ∃ ws, ws.length = rs.length ∧ H a = some (.lst ws), fun i H x H' => H' = H ∧ ∃ ws, H a = some (.lst ws) ∧ ws[i]? = some x, ?_, fun S' T' H' _ ok o => ?_, fun S' T' H' i x H2 ev ok o hi y => ?_⟩⟩
    · refine ⟨fun i H' hi ⟨ws, hl, hw⟩ => ?_, fun H' ⟨ws, hl, hw⟩ => ⟨ws, .inl (.inl hw), by rw [hl]; exact Nat.le_refl _⟩, fun i H' x H2 hi ⟨ws, hl, hw⟩ y => ⟨y.1, ws, hw, y.2 ws (.inl (.inl hw))⟩⟩
      have hi' : i < ws.length := by rw [hl]; exact hi
      exact ⟨ws, ws[i], .inl (.inl hw), by simp [hi']⟩
    · obtain ⟨ws, g1, g2⟩ := at_ ok o
      exact ⟨ws, g2.length.symm, g1⟩
    · obtain ⟨rfl, ws, hw, hx⟩ := y
      obtain ⟨us, g1, g2⟩ := at_ ok o
      rw [g1] at hw
      cases hw
      obtain ⟨r, h3, h4⟩ := g2.get' hx
      exact ⟨Ev.rfl', ok, fun _ _ z => z, r, h3, h4⟩
end
end Mi
namespace Mi
open PySem PySem.Spec PyProof.Rows L2

section
variable {K : PySem.W.Frag} {W : WX} {te : TE} {me : CE} {t : TA} {m : CA}
theorem sim_iSeq (h : SimE K W te me) : SimI K W (iSeqA K te) (iSeq me) := fun ρ σ S T H Qm xm R n k o ox q =>
  h ρ σ S T H _ xm _ n k (fun r v S1 H1 e1 k1 rv h1 => by
    have seq : (∃ xs, seqOf S1 r = some xs ∧ (xs.length ≤ sizeLine → Qm ⟨xs, okOf r xs⟩ S1)) → (∃ a xs, v = .ref a ∧ SqL K H1 a xs ∧ (xs.length ≤ sizeLine → R (Itl K a) H1)) ∨ (∃ a xs, v = .ref a ∧ SqT K H1 a xs ∧ (xs.length ≤ sizeLine → R (Itt K a) H1)) ∨ ∃ z, v = .str z ∧ R (Its z) H1 := by
      rintro ⟨xs, e, q⟩
      obtain ⟨a, vs, rfl, hl, w⟩ := wk_seq k1 rv e
      rcases w with ⟨hs, w⟩ | ⟨hs, w⟩
      · exact .inl ⟨a, vs, rfl, hs, fun z => o _ _ S1 H1 e1 k1 w (q (by rw [← hl]; exact z))⟩
      · exact .inr (.inl ⟨a, vs, rfl, hs, fun z => o _ _ S1 H1 e1 k1 w (q (by rw [← hl]; exact z))⟩)
    cases r with
    | m a => exact seq h1
    | d x =>
      cases x with
      | str z =>
        cases rv
        refine .inr (.inr ⟨z, rfl, o _ _ S1 H1 e1 k1 ⟨fun _ => True, fun i H v H' => H' = H ∧ ∃ c, z.cps[i]? = some c ∧ v = .str ⟨#[c]⟩, ?_, fun _ _ _ _ _ _ => trivial, ?_⟩ h1⟩)
        · rw [show (List.map (fun c => MV.d (PyData.str ⟨#[c]⟩)) z.cps.toList).length = z.cps.size by simp]
          exact walk_str
        · rintro S' T' H' i x H2 ev ok _ hi ⟨rfl, c, hc, rfl⟩
          refine ⟨Ev.rfl', ok, fun _ _ z => z, .d (.str ⟨#[c]⟩), ?_, Dp.str _⟩
          show (List.map (fun c => MV.d (PyData.str ⟨#[c]⟩)) z.cps.toList)[i]? = _
          rw [List.getElem?_map, Array.getElem?_toList, hc]
          rfl
      | none => exact seq h1
      | bool _ => exact seq h1
      | int _ => exact seq h1
      | list _ => exact seq h1
      | tuple _ => exact seq h1
      | dict _ => exact seq h1) ox q
theorem wk_rng {lo : Int} {n : Nat} {U : Sto} {H : Hp} : Wk K ⟨rng lo n, fun _ => True⟩ (Itr lo n) U H := by
  refine ⟨fun _ => True, YFn fun i => .int (lo + i), ?_, fun _ _ _ _ _ _ => trivial, ?_⟩
  · show Walk _ (rng lo n).length _ _
    rw [rng_length]
    exact walk_range
  · rintro S' T' H' i x H2 ev ok _ hi ⟨rfl, rfl⟩
    have hi' : i < n := by rw [← rng_length lo n]; exact hi
    exact ⟨Ev.rfl', ok, fun _ _ z => z, _, rng_get hi', Dp.int _⟩
theorem sim_range1 (h : SimA K W t m) : SimI K W (iRng1 t) (iRange1 m) := fun ρ σ S T H Qm xm R n k o ox q =>
  h ρ σ S T H _ xm _ n k (fun rs vs S1 H1 e1 k1 rr q => by
    split at q
    · obtain ⟨h1, h2, q⟩ := q
      cases rr with
      | cons r rt =>
        cases rt
        cases r
        exact ⟨_, rfl, h1, h2, o _ _ S1 H1 e1 k1 wk_rng q⟩
    · exact q.elim) ox q
theorem sim_range2 (h : SimA K W t m) : SimI K W (iRng2 t) (iRange2 m) := fun ρ σ S T H Qm xm R n k o ox q =>
  h ρ σ S T H _ xm _ n k (fun rs vs S1 H1 e1 k1 rr q => by
    split at q
    · obtain ⟨h1, q⟩ := q
      cases rr with
      | cons r rt =>
        cases rt with
        | cons r2 rt =>
          cases rt
          cases r
          cases r2
          exact ⟨_, _, rfl, h1, o _ _ S1 H1 e1 k1 wk_rng q⟩
    · exact q.elim) ox q
theorem dpAll_get {H : Hp} : ∀ {vs : List V} {xs : List PyData} {i : Nat} {v : V}, DpAll K H vs xs → vs[i]? = some v → ∃ x, xs[i]? = some x ∧ Dp K H v x
  | [], _, _, _, h, e => by simp at e
  | _ :: _, _, 0, _, .cons r _, e => by simp at e; subst e; exact ⟨_, rfl, r⟩
  | _ :: _, _, i + 1, v, .cons _ t, e => by
    obtain ⟨u, h1, h2⟩ := dpAll_get (i := i) (v := v) t (by simpa using e)
    exact ⟨u, by simpa using h1, h2⟩
theorem zipD_get {xs ys : List PyData} {i : Nat} {x y : PyData} (h1 : xs[i]? = some x) (h2 : ys[i]? = some y) : (zipD xs ys)[i]? = some (.d (.tuple [x, y])) := by
  unfold zipD
  have e : (List.zip xs ys)[i]? = some (x, y) := List.getElem?_zip_eq_some.mpr ⟨h1, h2⟩
  rw [List.getElem?_map, e]
  rfl
theorem zipD_length (xs ys : List PyData) : (zipD xs ys).length = min xs.length ys.length := by unfold zipD; rw [List.length_map, List.length_zip]
theorem walk_zipT {a b : Addr} {xs ys : List V} {n : Nat} (hn : n = min xs.length ys.length) : Walk (RZ.ItzT K a b) n (fun H => SqT K H a xs ∧ SqT K H b ys) (YPair (fun i => xs[i]?) (fun i => ys[i]?)) := by
  subst hn
  constructor
  · rintro i H hi ⟨q1, q2⟩
    have h1 : i < xs.length := by omega
    have h2 : i < ys.length := by omega
    exact ⟨xs, ys, xs[i], ys[i], q1, q2, by simp [h1], by simp [h2]⟩
  · rintro H ⟨q1, q2⟩
    exact ⟨xs, ys, q1, q2, by omega⟩
  · rintro i H v H' _ ⟨q1, q2⟩ ⟨T, x, z, h1, h2, h3, h4, h5⟩
    exact ⟨T, x, z, h1, h2, h3, h4 xs q1, h5 ys q2⟩
/-- pairs of data, each a new tuple -/
theorem wk_pair {J : It} {U0 : Sto} {H0 : Hp} {us vs : List V} {xs ys : List PyData} {G : Hp → Prop} (ha : DpAll K (Fz U0 H0) us xs) (hb : DpAll K (Fz U0 H0) vs ys)
    (w : Walk J (min us.length vs.length) G (YPair (fun i => us[i]?) (fun i => vs[i]?))) (hG : ∀ U H, Ev U0 H0 U H → G H) : Wk K ⟨zipD xs ys, fun _ => True⟩ J U0 H0 := by
  have l1 := dpAll_len ha
  have l2 := dpAll_len hb
  refine ⟨G, YPair (fun i => us[i]?) (fun i => vs[i]?), ?_, fun S T H ev _ _ => hG _ H ev, ?_⟩
  · show Walk J (zipD xs ys).length G _
    rw [zipD_length, ← l1, ← l2]
    exact w
  · rintro S T H i x H' ev ok _ hi ⟨P, u, v, rfl, nP, rfl, hu, hv⟩
    obtain ⟨c, hc, dc⟩ := dpAll_get ha hu
    obtain ⟨d, hd, dd⟩ := dpAll_get hb hv
    refine ⟨ev_new nP, ok.new nP, fun a o z => by rw [upd_ne (ne_of_none z nP)]; exact z, _, zipD_get hc hd, ?_⟩
    exact new_tup ok nP (.cons (dp_mono ev _ _ dc) (.cons (dp_mono ev _ _ dd) .nil))
theorem sim_zip2 (h : SimA K W t m) : SimI K W (RZ.iZipA K t) (iZip2 m) := fun ρ σ S T H Qm xm R n k o ox q =>
  h ρ σ S T H _ xm _ n k (fun rs vs S1 H1 e1 k1 rr q => by
    split at q
    · cases rr with
      | cons r rt =>
        cases rt with
        | cons r2 rt =>
          cases rt
          cases r with
          | tup h1 a1 =>
            cases r2 with
            | tup h2 a2 =>
              refine ⟨_, _, _, _, rfl, .inr ⟨fz_tup h1, fz_tup h2, o _ _ S1 H1 e1 k1 (wk_pair a1 a2 (walk_zipT rfl) fun U H ev => ?_) q⟩⟩
              have tm : ∀ {a : Addr} {xs : List V}, SqT K (Fz (cat S1 T) H1) a xs → SqT K H a xs := fun {a xs} hs => by
                rcases hs with (h | ⟨o, h⟩) | h
                · exact .inl (.inl (fz_same _ _ (ev _ _ h)))
                · exact .inl (.inr ⟨o, fz_same _ _ (ev _ _ h)⟩)
                · exact .inr h
              exact ⟨tm h1, tm h2⟩
    · cases rr with
      | cons r rt =>
        cases rt with
        | cons r2 rt =>
          cases rt
          cases r with
          | lst h1 a1 =>
            cases r2 with
            | lst h2 a2 =>
              exact ⟨_, _, _, _, rfl, .inl ⟨fz_same.seq h1, fz_same.seq h2, o _ _ S1 H1 e1 k1 (wk_pair a1 a2 (walk_zip rfl) fun U H ev => ⟨fz_same.seq (Same.seq ev h1), fz_same.seq (Same.seq ev h2)⟩) q⟩⟩
    · exact q.elim) ox q
end

/-! ### targets -/
abbrev MG := MV → Ro → Sto → (Ro → Sto → Prop) → QX → Prop
abbrev MGs := List MV → Ro → Sto → (Ro → Sto → Prop) → QX → Prop
def SimG (K : PySem.W.Frag) (W : WX) (g : TG) (mg : MG) : Prop := ∀ r v ρ σ S T H Nm xm N, RV K (cat S T) H r v → En K (cat S T) H ρ σ → Ok K S T H → OutN K S T H Nm N → OutX K S T H xm (fun c d H' => W c d σ H') → mg r ρ S Nm xm → g v σ H N
def SimGs (K : PySem.W.Frag) (W : WX) (g : TGs) (mg : MGs) : Prop := ∀ rs vs ρ σ S T H Nm xm N, RVs K (cat S T) H rs vs → En K (cat S T) H ρ σ → Ok K S T H → OutN K S T H Nm N → (∀ σ', OutX K S T H xm (fun c d H' => W c d σ' H')) → mg rs ρ S Nm xm → g vs σ H N
def mName (i : Nat) : MG := fun r ρ S N _ => N (ρ.set i (some r)) S
/-- names alone: a, b, .. -/
def mNames : List Nat → MGs
  | [], [], ρ, S, N, _ => N ρ S
  | i :: is, r :: rest, ρ, S, N, X => mNames is rest (ρ.set i (some r)) S N X
  | _, _, _, _, _, _ => False
def mTup (n : Nat) (ms : MGs) : MG := fun r ρ S N X => ∃ xs, tupOf r = some xs ∧ xs.length = n ∧ ms (xs.map .d) ρ S N X
def mSub (mo mi : CE) : MG := fun r ρ S N X => mo ρ S (fun o S1 => mi ρ S1 (fun i S2 => ∃ a xs k j, o = .m a ∧ i = .d (.int k) ∧ S2 a = some (.lst xs) ∧ ixN xs.length k = some j ∧ N ρ (sset S2 a (.lst (xs.set j r)))) X) X
def gNames : List Nat → TGs
  | [] => gNil
  | i :: is => gCons (gName i) (gNames is)
section
variable {K : PySem.W.Frag} {W : WX}
theorem sim_name (i : Nat) : SimG K W (gName i) (mName i) := fun r v ρ σ S T H Nm xm N rv n k o ox h => o _ _ S H Ev.rfl' k (n.set rv i) h
theorem sim_names : ∀ is : List Nat, SimGs K W (gNames is) (mNames is)
  | [] => fun rs vs ρ σ S T H Nm xm N rr n k o ox h => by
    cases rs with
    | nil => cases rr; exact ⟨rfl, o _ _ S H Ev.rfl' k n h⟩
    | cons r rt => exact h.elim
  | i :: is => fun rs vs ρ σ S T H Nm xm N rr n k o ox h => by
    cases rs with
    | nil => exact h.elim
    | cons r rest =>
      cases rr with
      | cons r1 rt => exact ⟨_, _, rfl, sim_names is _ _ _ _ S T H Nm xm N rt (n.set r1 i) k o ox h⟩
theorem sim_tupG {n : Nat} {g : TGs} {mg : MGs} (h : ∀ rs vs ρ σ S T H Nm N, RVs K (cat S T) H rs vs → En K (cat S T) H ρ σ → Ok K S T H → OutN K S T H Nm N → mg rs ρ S Nm (fun _ _ => False) → g vs σ H N)
    (hx : ∀ rs ρ S Nm xm, mg rs ρ S Nm xm → mg rs ρ S Nm fun _ _ => False) : SimG K W (gTup K n g) (mTup n mg) := fun r v ρ σ S T H Nm xm N rv nn k o ox ⟨xs, e, hl, q⟩ => by
  cases r with
  | m a => cases e
  | d x =>
    cases x with
    | tuple ys =>
      cases e
      cases rv with
      | tup hs ha => exact ⟨_, _, rfl, fz_tup hs, (dpAll_len ha).trans hl, h _ _ ρ σ S T H Nm N (RVs.of ha) nn k o (hx _ _ _ _ _ q)⟩
    | _ => cases e
theorem mNames_x : ∀ (is : List Nat) rs ρ S Nm xm, mNames is rs ρ S Nm xm → mNames is rs ρ S Nm fun _ _ => False
  | [], [], ρ, S, Nm, xm, h => h
  | [], _ :: _, ρ, S, Nm, xm, h => h.elim
  | _ :: _, [], ρ, S, Nm, xm, h => h.elim
  | i :: is, r :: rest, ρ, S, Nm, xm, h => mNames_x is rest _ _ _ _ h
theorem sim_tupN (is : List Nat) (n : Nat) : SimG K W (gTup K n (gNames is)) (mTup n (mNames is)) :=
  sim_tupG (fun rs vs ρ σ S T H Nm N rr n k o h => sim_names (W := fun _ _ _ _ => True) is rs vs ρ σ S T H Nm (fun _ _ => False) N rr n k o (fun _ _ _ _ _ _ _ _ _ z => z.elim) h) (mNames_x is)
/-- a list of the store is written -/
theorem Ok.setL {S T : Sto} {H : Hp} {a : Addr} {xs ys : List MV} {ws : List V} (k : Ok K S T H) (e : S a = some (.lst xs)) (h : RVs K (cat S T) H ys ws) :
    T a = none ∧ Ok K (sset S a (.lst ys)) T (upd H a (.lst ws)) ∧ Ev (cat S T) H (cat (sset S a (.lst ys)) T) (upd H a (.lst ws)) := by
  have hT : T a = none := by
    cases q : T a with
    | none => rfl
    | some u => have := k.dj a u q; rw [e] at this; cases this
  have hc : cat S T a = some (.lst xs) := by rw [cat_none hT]; exact e
  rw [cat_sset hT]
  refine ⟨hT, ⟨by rw [cat_sset hT]; exact k.rp.setL hc h, fun b o q => ?_⟩, ev_set hc⟩
  have ne : b ≠ a := fun z => by rw [z, hT] at q; cases q
  rw [sset_ne ne]
  exact k.dj b o q
theorem Ok.lst {S T : Sto} {H : Hp} {a : Addr} {xs : List MV} (k : Ok K S T H) (e : S a = some (.lst xs)) : ∃ vs, H a = some (.lst vs) ∧ RVs K (cat S T) H xs vs := by
  have hT : T a = none := by
    cases q : T a with
    | none => rfl
    | some u => have := k.dj a u q; rw [e] at this; cases this
  exact k.rp.lst a xs (by rw [cat_none hT]; exact e)
theorem sim_subG {to ti : TE} {mo mi : CE} (ho : SimE K W to mo) (hi : SimE K W ti mi) : SimG K W (gSub to ti rSetL) (mSub mo mi) := fun r v ρ σ S T H Nm xm N rv n k o ox h =>
  ho ρ σ S T H _ xm _ n k (fun x vx S1 H1 e1 k1 rx h1 => hi ρ σ S1 T H1 _ xm _ (n.ev e1) k1 (fun y vy S2 H2 e2 k2 ry h2 => by
    obtain ⟨a, xs, i, j, rfl, rfl, es, ej, q⟩ := h2
    cases rx
    cases ry
    obtain ⟨vs, hv, rr⟩ := k2.lst es
    have e12 := e1.trans e2
    obtain ⟨_, k3, e3⟩ := k2.setL es (rr.set (rv.ev e12) j)
    exact ⟨a, vs, i, j, rfl, rfl, hv, by rw [← rr.length]; exact ej, o _ _ _ _ (e12.trans e3) k3 (n.ev (e12.trans e3)) q⟩) (ox.go e1) h1) ox h
end

/-! ### statements -/
def cNext : CS := fun D ρ S => D.nx ρ S
def cSeq (a b : CS) : CS := fun D ρ S => a { D with nx := b D } ρ S
def cBrk : CS := fun D ρ S => D.bk ρ S
def cCont : CS := fun D ρ S => D.ct ρ S
def cDrop (me : CE) : CS := fun D ρ S => me ρ S (fun _ S1 => D.nx ρ S1) (fun x S' => D.ex x ρ S')
def cRet (me : CE) : CS := fun D ρ S => me ρ S D.rt (fun x S' => D.ex x ρ S')
def cRetN : CS := fun D _ S => D.rt (.d .none) S
def cIf (c : CT) (a b : CS) : CS := fun D ρ S => c ρ S (fun k S1 => if k = true then a D ρ S1 else b D ρ S1) (fun x S' => D.ex x ρ S')
def cNever : CS := fun _ _ _ => False
def cAsg (me : CE) (g : MG) : CS := fun D ρ S => me ρ S (fun r S1 => g r ρ S1 D.nx (fun x S' => D.ex x ρ S')) (fun x S' => D.ex x ρ S')
def cPar (i j : Nat) (ma : CA) : CS := fun D ρ S => ma ρ S (fun rs S1 => match rs with
  | [x, y] => D.nx ((ρ.set i (some x)).set j (some y)) S1
  | _ => False) (fun x S' => D.ex x ρ S')
def cAug (i : Nat) (b : B2) (me : CE) : CS := fun D ρ S => ∃ r, ρ[i]? = some (some r) ∧ me ρ S (fun y S1 => b r y S1 fun z S2 => D.nx (ρ.set i (some z)) S2) (fun x S' => D.ex x ρ S')
def forL (g : MG) (b : CS) (ok : Sto → Prop) : List MV → CS
  | [], D, ρ, S => ok S ∧ D.nx ρ S
  | x :: xs, D, ρ, S => ok S ∧ g x ρ S (fun ρ1 S1 => b { D with nx := forL g b ok xs D, ct := forL g b ok xs D, bk := D.nx } ρ1 S1) (fun x S' => D.ex x ρ S')
def cFor (mi : CI) (g : MG) (b : CS) : CS := fun D ρ S => mi ρ S (fun it S1 => forL g b it.ok it.items D ρ S1) (fun x S' => D.ex x ρ S')
def cWhile (c : CT) (b : CS) : CS := fun D ρ S => ∃ V : Nat → Ro → Sto → Prop, (∃ n, V n ρ S) ∧ ∀ n ρ S, V n ρ S → c ρ S (fun k S1 => if k = true then
  b { D with nx := fun ρ' S' => ∃ n', n' < n ∧ V n' ρ' S', ct := fun ρ' S' => ∃ n', n' < n ∧ V n' ρ' S', bk := D.nx } ρ S1 else D.nx ρ S1) (fun x S' => D.ex x ρ S')
section
variable {K : PySem.W.Frag} {W : WX} {te : TE} {me : CE} {t u : TS} {a b : CS} {ta : TA} {ma : CA}
theorem sim_next : SimS K W tNext cNext := fun ρ σ S T H Dm D n k o h => o.nx ρ σ S H Ev.rfl' k n h
theorem sim_brk : SimS K W tBreak cBrk := fun ρ σ S T H Dm D n k o h => o.bk ρ σ S H Ev.rfl' k n h
theorem sim_cont : SimS K W tCont cCont := fun ρ σ S T H Dm D n k o h => o.ct ρ σ S H Ev.rfl' k n h
theorem sim_seq (ha : SimS K W t a) (hb : SimS K W u b) : SimS K W (tSeq t u) (cSeq a b) := fun ρ σ S T H Dm D n k o h =>
  ha ρ σ S T H { Dm with nx := b Dm } _ n k ⟨fun ρ' σ' S' H' e' k' n' h' => hb ρ' σ' S' T H' Dm D n' k' (o.go e') h', o.rt, o.bk, o.ct, o.ex⟩ h
theorem sim_drop (he : SimE K W te me) : SimS K W (tDrop te) (cDrop me) := fun ρ σ S T H Dm D n k o h =>
  he ρ σ S T H _ _ _ n k (fun r v S1 H1 e1 k1 rv h1 => o.nx ρ σ S1 H1 e1 k1 (n.ev e1) h1) (o.xe n) h
theorem sim_ret (he : SimE K W te me) : SimS K W (tRet te) (cRet me) := fun ρ σ S T H Dm D n k o h => he ρ σ S T H _ _ _ n k o.rt (o.xe n) h
theorem sim_retN : SimS K W tRetN cRetN := fun ρ σ S T H Dm D n k o h => o.rt (.d .none) _ S H Ev.rfl' k Dp.non h
theorem sim_ifS {tc : TT} {c : CT} (hc : SimT K W tc c) (ha : SimS K W t a) (hb : SimS K W u b) : SimS K W (tIfS tc t u) (cIf c a b) := fun ρ σ S T H Dm D n k o h =>
  hc ρ σ S T H _ _ _ n k (fun x S1 H1 e1 k1 h1 => by
    cases x with
    | true => exact iteT (ha ρ σ S1 T H1 Dm D (n.ev e1) k1 (o.go e1) (by simpa using h1))
    | false => exact iteF (hb ρ σ S1 T H1 Dm D (n.ev e1) k1 (o.go e1) (by simpa using h1))) (o.xe n) h
theorem sim_never : SimS K W tNever cNever := fun ρ σ S T H Dm D n k o h => h.elim
theorem sim_asg {g : TG} {mg : MG} (he : SimE K W te me) (hg : SimG K W g mg) : SimS K W (tAsg te g) (cAsg me mg) := fun ρ σ S T H Dm D n k o h =>
  he ρ σ S T H _ _ _ n k (fun r v S1 H1 e1 k1 rv h1 => hg r v ρ σ S1 T H1 Dm.nx _ D.nx rv (n.ev e1) k1 (o.nx.go e1) ((o.xe n).go e1) h1) (o.xe n) h
theorem sim_par {i j : Nat} (ha : SimA K W ta ma) : SimS K W (tPar i j ta) (cPar i j ma) := fun ρ σ S T H Dm D n k o h =>
  ha ρ σ S T H _ _ _ n k (fun rs vs S1 H1 e1 k1 rr h1 => by
    split at h1
    · cases rr with
      | cons r1 rt =>
        cases rt with
        | cons r2 rt =>
          cases rt
          exact ⟨_, _, rfl, o.nx _ _ S1 H1 e1 k1 (((n.ev e1).set r1 i).set r2 j) h1⟩
    · exact h1.elim) (o.xe n) h
theorem sim_aug {i : Nat} {r : TIp} {b : B2} (hr : SimR2 K r b) (he : SimE K W te me) : SimS K W (tAug i te r) (cAug i b me) := fun ρ σ S T H Dm D n k o ⟨x, ex, h⟩ => by
  obtain ⟨v, e2, rv⟩ := n.get i x ex
  exact ⟨v, e2, he ρ σ S T H _ _ _ n k (fun y vy S1 H1 e1 k1 ry h1 => hr x y v vy S1 T H1 _ _ k1 (rv.ev e1) ry (fun z vz S2 H2 e3 k2 rz h2 => o.nx _ _ S2 H2 (e1.trans e3) k2 ((n.ev (e1.trans e3)).set rz i) h2) h1) (o.xe n) h⟩
theorem drop_at {α : Type} {xs : List α} {i : Nat} {x : α} (h : xs[i]? = some x) : xs.drop i = x :: xs.drop (i + 1) := by
  obtain ⟨hi, e⟩ := List.getElem?_eq_some_iff.mp h
  rw [← e]
  exact List.drop_eq_getElem_cons hi
theorem forL_ok {g : MG} {b : CS} {ok : Sto → Prop} {xs : List MV} {D : ME} {ρ : Ro} {S : Sto} (h : forL g b ok xs D ρ S) : ok S := by
  cases xs <;> exact h.1
theorem sim_for {wi : TI} {mi : CI} {g : TG} {mg : MG} (hi : SimI K W wi mi) (hg : SimG K W g mg) (hb : SimS K W t b) : SimS K W (tFor wi g t) (cFor mi mg b) := fun ρ σ S T H Dm D n k o h =>
  hi ρ σ S T H _ _ _ n k (fun it J S1 H1 e1 k1 ⟨G, Y, w, hG, hY⟩ h1 => by
    have o1 := o.go e1
    refine for_it w (fun i σ' H' => ∃ ρ' S', Ev (cat S1 T) H1 (cat S' T) H' ∧ Ok K S' T H' ∧ En K (cat S' T) H' ρ' σ' ∧ forL mg b it.ok (it.items.drop i) Dm ρ' S') ⟨ρ, S1, Ev.rfl', k1, n.ev e1, h1⟩ ?_ ?_ ?_
    · rintro i σ' H' _ ⟨ρ', S', ev, ok, en, f⟩
      exact hG S' T H' ev ok (forL_ok f)
    · rintro i x σ' H' H2 hlt ⟨ρ', S', ev, ok, en, f⟩ y
      obtain ⟨ev2, ok2, _, r, er, rv⟩ := hY S' T H' i x H2 ev ok (forL_ok f) hlt y
      rw [drop_at er] at f
      have o2 := (o1.go ev).go ev2
      refine hg r x ρ' σ' S' T H2 _ _ _ rv (en.ev ev2) ok2 ?_ (o2.xe (en.ev ev2)) f.2
      intro ρ3 σ3 S3 H3 ev3 ok3 en3 f3
      refine hb ρ3 σ3 S3 T H3 _ _ en3 ok3 ?_ f3
      have ev13 := (ev.trans ev2).trans ev3
      refine ⟨?_, (o2.go ev3).rt, (o2.go ev3).nx, ?_, (o2.go ev3).ex⟩
      · intro ρ4 σ4 S4 H4 ev4 ok4 en4 f4
        exact ⟨ρ4, S4, ev13.trans ev4, ok4, en4, f4⟩
      · intro ρ4 σ4 S4 H4 ev4 ok4 en4 f4
        exact ⟨ρ4, S4, ev13.trans ev4, ok4, en4, f4⟩
    · rintro σ' H' ⟨ρ', S', ev, ok, en, f⟩
      rw [List.drop_length] at f
      exact o1.nx ρ' σ' S' H' ev ok en f.2) (o.xe n) h
theorem sim_while {tc : TT} {c : CT} (hc : SimT K W tc c) (hb : SimS K W t b) : SimS K W (tWhile tc t) (cWhile c b) := fun ρ σ S T H Dm D n k o ⟨V, ⟨n0, v0⟩, hv⟩ => by
  refine ⟨fun i σ' H' => ∃ ρ' S', Ev (cat S T) H (cat S' T) H' ∧ Ok K S' T H' ∧ En K (cat S' T) H' ρ' σ' ∧ V i ρ' S', ⟨n0, ρ, S, Ev.rfl', k, n, v0⟩, ?_⟩
  rintro i σ' H' ⟨ρ', S', ev, ok, en, v⟩
  have o1 := o.go ev
  refine hc ρ' σ' S' T H' _ _ _ en ok ?_ (o1.xe en) (hv i ρ' S' v)
  intro x S2 H2 ev2 ok2 h2
  cases x with
  | false => exact iteF (o1.nx ρ' σ' S2 H2 ev2 ok2 (en.ev ev2) (by simpa using h2))
  | true =>
    refine iteT ⟨fun σ4 H4 => ∃ m, m < i ∧ ∃ ρ' S', Ev (cat S T) H (cat S' T) H4 ∧ Ok K S' T H4 ∧ En K (cat S' T) H4 ρ' σ4 ∧ V m ρ' S', fun σ4 H4 ⟨m, hm, z⟩ => ⟨m, hm, z⟩, ?_⟩
    refine hb ρ' σ' S2 T H2 _ _ (en.ev ev2) ok2 ?_ (by simpa using h2)
    have o2 := o1.go ev2
    have e12 := ev.trans ev2
    refine ⟨?_, o2.rt, o2.nx, ?_, o2.ex⟩
    · rintro ρ4 σ4 S4 H4 ev4 ok4 en4 ⟨m, hm, z⟩
      exact ⟨m, hm, ρ4, S4, e12.trans ev4, ok4, en4, z⟩
    · rintro ρ4 σ4 S4 H4 ev4 ok4 en4 ⟨m, hm, z⟩
      exact ⟨m, hm, ρ4, S4, e12.trans ev4, ok4, en4, z⟩
end
end Mi
namespace Mi
open PySem PySem.Spec PyProof.Rows L2

/-! ### comprehensions -/
abbrev noX : QX := fun _ _ => False
abbrev W0 : WX := fun _ _ _ _ => False
def lcL (g : MG) (tt : CT) (te : CE) (ok : Sto → Prop) : List MV → List MV → Ro → Sto → (List MV → Sto → Prop) → Prop
  | [], acc, ρ, S, Q => ok S ∧ Q acc S
  | x :: xs, acc, ρ, S, Q => ok S ∧ g x ρ S (fun ρ1 S1 => tt ρ1 S1 (fun b S2 => if b = true then te ρ1 S2 (fun y S3 => acc.length < sizeLine ∧ lcL g tt te ok xs (acc ++ [y]) ρ S3 Q) noX else lcL g tt te ok xs acc ρ S2 Q) noX) noX
/-- never changed -/
def finD : List MV → Sto → QE → Prop := fun acc S Q => ∃ xs, allD acc = some xs ∧ Q (.d (.list xs)) S
/-- to be changed -/
def finM : List MV → Sto → QE → Prop := fun acc S Q => ∀ p, S p = none → Q (.m p) (sset S p (.lst acc))
def eLcG (fin : List MV → Sto → QE → Prop) (mi : CI) (g : MG) (tt : CT) (te : CE) (vs : List Nat) : CE := fun ρ S Q X => mi ρ S (fun it S1 => lcL g tt te it.ok it.items [] (wipeM ρ vs) S1 (fun acc S2 => fin acc S2 Q)) X
abbrev eLc := eLcG finD
abbrev eLcM := eLcG finM
def cYes : CT := fun _ S Q _ => Q true S

theorem wipe_at (σ : L2.St) : ∀ (vs : List Nat) (j : Nat), (wipe σ vs)[j]? = if j ∈ vs then σ[j]?.map (fun _ => none) else σ[j]?
  | [], j => by simp [wipe]
  | v :: vs, j => by
    have ih := wipe_at σ vs j
    unfold wipe
    by_cases e : v = j
    · subst e
      rw [if_pos List.mem_cons_self]
      by_cases hl : v < σ.length
      · rw [List.getElem?_set_self (by rw [wipe_length]; exact hl), List.getElem?_eq_getElem hl]
        rfl
      · rw [List.getElem?_eq_none (by rw [List.length_set, wipe_length]; omega), List.getElem?_eq_none (by omega)]
        rfl
    · rw [List.getElem?_set_ne e, ih]
      have : (j ∈ v :: vs) ↔ j ∈ vs := by
        rw [List.mem_cons]
        exact ⟨fun z => z.elim (fun z => absurd z.symm e) id, .inr⟩
      by_cases hj : j ∈ vs
      · rw [if_pos hj, if_pos (this.mpr hj)]
      · rw [if_neg hj, if_neg (fun z => hj (this.mp z))]
theorem wipe_wipe (σ : L2.St) (vs : List Nat) : wipe (wipe σ vs) vs = wipe σ vs := by
  apply List.ext_getElem?
  intro j
  rw [wipe_at, wipe_at]
  by_cases h : j ∈ vs
  · rw [if_pos h, if_pos h]
    cases σ[j]? <;> rfl
  · rw [if_neg h, if_neg h]
theorem wipe_set (σ : L2.St) {vs : List Nat} {i : Nat} (hi : i ∈ vs) (v : Option V) : wipe (σ.set i v) vs = wipe σ vs := by
  apply List.ext_getElem?
  intro j
  rw [wipe_at, wipe_at]
  by_cases h : j ∈ vs
  · rw [if_pos h, if_pos h]
    by_cases e : i = j
    · subst e
      by_cases hl : i < σ.length
      · rw [List.getElem?_set_self hl, List.getElem?_eq_getElem hl]; rfl
      · rw [List.getElem?_eq_none (by rw [List.length_set]; omega), List.getElem?_eq_none (by omega)]
    · rw [List.getElem?_set_ne e]
  · rw [if_neg h, if_neg h, List.getElem?_set_ne (fun z => h (by rw [← z]; exact hi))]
/-- a comprehension's target: it stores at vs alone -/
def Kps (g : TG) (vs : List Nat) : Prop := ∀ v σ H Q, g v σ H Q → g v σ H fun σ2 H2 => wipe σ2 vs = wipe σ vs ∧ Q σ2 H2
theorem kps_name {i : Nat} {vs : List Nat} (h : i ∈ vs) : Kps (gName i) vs := fun v σ H Q q => ⟨wipe_set σ h _, q⟩
def KpsS (g : TGs) (vs : List Nat) : Prop := ∀ us σ H Q, g us σ H Q → g us σ H fun σ2 H2 => wipe σ2 vs = wipe σ vs ∧ Q σ2 H2
theorem kps_names {vs : List Nat} : ∀ is : List Nat, (∀ i ∈ is, i ∈ vs) → KpsS (gNames is) vs
  | [], _ => fun us σ H Q q => ⟨q.1, rfl, q.2⟩
  | i :: is, h => fun us σ H Q q => by
    obtain ⟨v, r, e, q⟩ := q
    refine ⟨v, r, e, ?_⟩
    have q2 := kps_names is (fun j hj => h j (List.mem_cons_of_mem _ hj)) _ _ _ _ q
    show gNames is r (σ.set i (some v)) H _
    rw [← wipe_set σ (h i List.mem_cons_self) (some v)]
    exact q2
theorem kps_tup {K : PySem.W.Frag} {n : Nat} {g : TGs} {vs : List Nat} (h : KpsS g vs) : Kps (gTup K n g) vs := fun v σ H Q ⟨a, xs, e, hs, hl, q⟩ => ⟨a, xs, e, hs, hl, h _ _ _ _ q⟩

section
variable {K : PySem.W.Frag} {W : WX}
theorem sim_yes : SimT K W tYes cYes := fun ρ σ S T H Qm xm Q n k o ox h => o true S H Ev.rfl' k h
theorem lcL_ok {g : MG} {tt : CT} {te : CE} {ok : Sto → Prop} {xs acc : List MV} {ρ : Ro} {S : Sto} {Q : List MV → Sto → Prop} (h : lcL g tt te ok xs acc ρ S Q) : ok S := by
  cases xs <;> exact h.1
/-- how a new list of the frame comes out -/
def FinOk (K : PySem.W.Frag) (fin : List MV → Sto → QE → Prop) : Prop := ∀ acc S T H D Qm Q, T D = none → Ok K S (sset T D (.lst acc)) H → fin acc S Qm →
  Out K S T H Qm Q → (∃ r S', Qm r S' ∧ Ok K S' T H ∧ RV K (cat S' T) H r (.ref D) ∧ Ev (cat S (sset T D (.lst acc))) H (cat S' T) H)
theorem frame_lst {S T : Sto} {H : Hp} {D : Addr} {acc : List MV} (k : Ok K S (sset T D (.lst acc)) H) : S D = none ∧ ∃ vs, H D = some (.lst vs) ∧ RVs K (cat S (sset T D (.lst acc))) H acc vs :=
  ⟨k.dj D _ sset_same, k.rp.lst D acc (cat_some sset_same)⟩
theorem fin_D : FinOk K finD := fun acc S T H D Qm Q hT k ⟨xs, ea, q⟩ o => by
  obtain ⟨hS, vs, hv, rr⟩ := frame_lst k
  have eU : cat S T = sdel (cat S (sset T D (.lst acc))) D := by rw [cat_move hS, sdel_sset (cat_free hS hT)]
  have ev : Ev (cat S (sset T D (.lst acc))) H (cat S T) H := by rw [eU]; exact ev_del
  refine ⟨_, S, q, ⟨by rw [eU]; exact k.rp.del, fun a u e => ?_⟩, ?_, ev⟩
  · have ne : a ≠ D := fun z => by rw [z, hT] at e; cases e
    exact k.dj a u (by rw [sset_ne ne]; exact e)
  · refine Dp.lst (xs := vs) (.inl (.inl ?_)) ((rr.ev ev).all ea)
    rw [fz_free (cat_free hS hT)]
    exact hv
theorem fin_M : FinOk K finM := fun acc S T H D Qm Q hT k q o => by
  obtain ⟨hS, vs, hv, rr⟩ := frame_lst k
  have eU : cat (sset S D (.lst acc)) T = cat S (sset T D (.lst acc)) := by rw [cat_sset hT, cat_move hS]
  refine ⟨.m D, sset S D (.lst acc), q D hS, ⟨by rw [eU]; exact k.rp, fun a u e => ?_⟩, rfl, by rw [eU]; exact Ev.rfl'⟩
  have ne : a ≠ D := fun z => by rw [z, hT] at e; cases e
  rw [sset_ne ne]
  exact k.dj a u (by rw [sset_ne ne]; exact e)
theorem sim_lc {fin : List MV → Sto → QE → Prop} {wi : TI} {mi : CI} {g : TG} {mg : MG} {tt : TT} {ct : CT} {te : TE} {ce : CE} {vs : List Nat} (hf : FinOk K fin) (hk : Kps g vs) (hi : SimI K W wi mi) (hg : SimG K W0 g mg) (ht : SimT K W0 tt ct) (he : SimE K W0 te ce) :
    SimE K W (tLc wi g tt te vs) (eLcG fin mi mg ct ce vs) := fun ρ σ S T H Qm xm Q n k o ox h =>
  hi ρ σ S T H _ _ _ n k (fun it J S1 H1 e1 k1 ⟨G, Y, w, hG, hY⟩ h1 => by
    intro D nD
    have fr := k1.free nD
    have u1 := cat_free fr.1 fr.2
    have nw := (n.ev e1).wipe vs
    let st : Nat → Hp → Prop := fun i H' => ∃ S' acc, Ev (cat S1 T) H1 (cat S' (sset T D (.lst acc))) H' ∧ Ok K S' (sset T D (.lst acc)) H' ∧ lcL mg ct ce it.ok (it.items.drop i) acc (wipeM ρ vs) S' (fun acc S2 => fin acc S2 Qm)
    show ∃ V : Nat → Nat → Hp → Prop, _
    refine lc_it (Qd := fun H' => Q (.ref D) H') w st ?_ ?_ ?_ ?_
    · refine ⟨S1, [], ?_, ⟨?_, fun a u e => ?_⟩, h1⟩
      · rw [cat_move fr.1]; exact ev_newS nD
      · rw [cat_move fr.1]; exact k1.rp.newL nD .nil
      · by_cases z : a = D
        · rw [z]; exact fr.1
        · rw [sset_ne z] at e; exact k1.dj a u e
    · rintro i H' _ ⟨S', acc, ev, ok, f⟩
      exact hG _ _ H' ev ok (lcL_ok f)
    · rintro i x H' H2 hlt ⟨S', acc, ev, ok, f⟩ y
      obtain ⟨ev2, ok2, _, r, er, rv⟩ := hY _ _ H' i x H2 ev ok (lcL_ok f) hlt y
      rw [drop_at er] at f
      have n2 := (nw.ev ev).ev ev2
      have kk := hk x (wipe σ vs) H2 (fun σ2 H2 => tt σ2 H2 fun b H3 => if b = true then te σ2 H3 fun y H4 => ∃ acc, H4 D = some (.lst acc) ∧ acc.length < sizeLine ∧ st (i + 1) (upd H4 D (.lst (acc ++ [y]))) else st (i + 1) H3)
      rw [wipe_wipe] at kk
      refine kk (hg r x _ _ S' _ H2 _ noX _ rv n2 ok2 ?_ (fun _ _ _ _ _ _ _ _ z => z.elim) f.2)
      intro ρ3 σ3 S3 H3 ev3 ok3 en3 f3
      refine ht ρ3 σ3 S3 _ H3 _ noX _ en3 ok3 ?_ (fun _ _ _ _ _ _ _ _ z => z.elim) f3
      intro b S4 H4 ev4 ok4 f4
      have ev14 := ((ev.trans ev2).trans ev3).trans ev4
      cases b with
      | false => exact iteF ⟨S4, acc, ev14, ok4, by simpa using f4⟩
      | true =>
        refine iteT (he ρ3 σ3 S4 _ H4 _ noX _ (en3.ev ev4) ok4 ?_ (fun _ _ _ _ _ _ _ _ z => z.elim) (by simpa using f4))
        intro z vz S5 H5 ev5 ok5 rz f5
        obtain ⟨hS, us, hu, rr⟩ := frame_lst ok5
        refine ⟨us, hu, by rw [← rr.length]; exact f5.1, S5, acc ++ [z], ?_, ⟨?_, ?_⟩, f5.2⟩
        · have eU : cat S5 (sset T D (.lst (acc ++ [z]))) = sset (cat S5 (sset T D (.lst acc))) D (.lst (acc ++ [z])) := by rw [cat_move hS, cat_move hS, sset_sset]
          rw [eU]
          exact (ev14.trans ev5).trans (ev_set (cat_some sset_same))
        · have eU : cat S5 (sset T D (.lst (acc ++ [z]))) = sset (cat S5 (sset T D (.lst acc))) D (.lst (acc ++ [z])) := by rw [cat_move hS, cat_move hS, sset_sset]
          rw [eU]
          exact ok5.rp.setL (cat_some sset_same) (rr.append (.cons rz .nil))
        · intro a u e
          by_cases q : a = D
          · rw [q]; exact hS
          · rw [sset_ne q] at e; exact ok5.dj a u (by rw [sset_ne q]; exact e)
    · rintro H' ⟨S', acc, ev, ok, f⟩
      rw [List.drop_length] at f
      obtain ⟨hS, us, hu, rr⟩ := frame_lst ok
      obtain ⟨r, S6, q, ok6, rv6, ev6⟩ := hf acc S' T H' D Qm (fun _ _ => True) fr.2 ok f.2 (fun _ _ _ _ _ _ _ _ => trivial)
      exact o r _ S6 H' (e1.trans (ev.trans ev6)) ok6 rv6 q) ox h
end
end Mi
namespace Mi
open PySem PySem.Spec PyProof.Rows L2

/-! ### defs: as the layer's FnOk, where no repr is under way -/
structure FnG (P : Program) (w : World) (K : PySem.W.Frag) (mg : Str → Option Value) (base : Heap) (C : CXT) (k : Nat) (f : Addr) (fd : FuncData) (ps : List Str) (sp : Sp) : Prop where
  len : ∀ vs H Q E, sp vs H Q E → vs.length = ps.length
  run : ∀ (A : Around) (l : List Env) (s : Shared) (H : Hp) (g : Args) (us : List Value) (vs : List V) (Q : VK) (E : XK), A.guards = some [] → Room k A → Env0 P w K mg base A l s H →
    BindsTo s fd g (ps.zip us) → Vals vs us → sp vs H Q E → codeAny (model P w) A (.call (.ref f) g) (CR C l P w H s Q E) s
theorem FnG.of {P : Program} {w : World} {K : PySem.W.Frag} {mg : Str → Option Value} {base : Heap} {C : CXT} {k : Nat} {f : Addr} {fd : FuncData} {ps : List Str} {sp : Sp}
    (F : FnOk P w K mg base C k f fd ps sp) : FnG P w K mg base C k f fd ps sp := ⟨F.len, fun A l s H g us vs Q E _ => F.run A l s H g us vs Q E⟩
theorem FnG.up {P : Program} {w : World} {K : PySem.W.Frag} {mg : Str → Option Value} {base : Heap} {C : CXT} {j k : Nat} {f : Addr} {fd : FuncData} {ps : List Str} {sp : Sp}
    (F : FnG P w K mg base C j f fd ps sp) (h : j ≤ k) : FnG P w K mg base C k f fd ps sp := ⟨F.len, fun A l s H g us vs Q E hg hr => F.run A l s H g us vs Q E hg (hr.mono h)⟩

section
variable {P : Program} {w : World} {K : PySem.W.Frag} {mg : Str → Option Value} {base : Heap} {C : CXT}
/-- a def by its body -/
theorem fun_okG {k : Nat} {f : Addr} {x q : Str} {st : Stmt} {fd : FuncData} {N ps : List Str} {sp : Sp} (F : Fun K x q st f fd) (S : FnScope N ps (defScope st)) (len : ∀ vs H Q E, sp vs H Q E → vs.length = ps.length)
    (hb : ∀ (cd : Value) (A : Around) (l : List Env) (s : Shared) (H : Hp) (vs : List V) (Q : VK) (E : XK), A.guards = some [] → Room k (A.deeper (envOfC q (defScope st) s.heap.objs.size f cd)) → sp vs H Q E →
      ∃ t, PSs (cxOf C P w K mg base N q (defScope st) f cd A l s H E) (defBody st) t ∧ t { nx := fun _ H' => Q .non H', rt := Q } (start N vs) H) :
    FnG P w K mg base C (k + 1) f fd ps sp := by
  obtain ⟨oc, od, kV, doc, pm, an, cd, ct, osl, rfl, lk, hcd⟩ := F.ex
  constructor
  · exact len
  · intro A l s H g us vs Q E hg hr e0 bd rv hsp
    have hlen := len vs H Q E hsp
    have hK : K.In s.heap := e0.mod.kin.keeps fun b o z => (e0.bs b o z).1
    have hL : s.heap.NoLimit := e0.mod.nolimit.keeps fun b o z => (e0.bs b o z).1
    have kinds : ∀ y ∈ ps.zip us, (defScope st).names.lookup y.1 = some .local ∨ ((defScope st).names.lookup y.1 = some .cell ∧ ((cellsFrom (s.heap.objs.size + 1) (defScope st).names []).lookup y.1).isSome = true) := by
      rintro ⟨n, v⟩ hy
      rcases S.par n (List.of_mem_zip hy).1 with z | z
      · exact Or.inl z
      · exact Or.inr ⟨z, PySem.W.cellsFrom_some _ _ _ (Or.inl z)⟩
    refine codeAny_call_function hr.depth (hK _ _ lk) rfl S.co S.gen rfl (PySem.W.codeRec_of hK hcd) (bd _ _ _ _ ?_)
    refine wpAny_newFunctionEnv_cells S.kind kinds ?_
    intro env he s1 ic
    subst he
    refine ⟨hL.keeps ic.toInCall.keep, codeAny_func ?_⟩
    obtain ⟨t, ht, hq⟩ := hb cd A l s H vs Q E hg (hr.deeper _) hsp
    have I := inv_start (CX := C) (E := E) S hr.hd e0 hlen rv ic
    refine wpAny_mono (ht.run [] s1 (start N vs) H _ I hq) ?_ fun e s' z => z
    intro fl s' z
    have done : ∀ {σ' : L2.St} {H' : Hp} {v : V} {u : Value}, Inv (cxOf C P w K mg base N q (defScope st) f cd A l s H E) [] σ' H' s' → RelV v u → Q v H' → L2.CE l P w H s Q u s' :=
      fun {σ' H' v u} J rr z => ⟨v, H', J.os, J.bare, J.base, J.hok, rr, z⟩
    cases fl with
    | next => obtain ⟨σ', H', J, z⟩ := z; exact done (v := V.non) (u := Value.none) J rfl z
    | ret u => obtain ⟨v, σ', H', J, rr, z⟩ := z; exact done J rr z
    | brk => obtain ⟨_, _, _, z⟩ := z; exact z.elim
    | cont => obtain ⟨_, _, _, z⟩ := z; exact z.elim
end

/-- the promise of a mirror -/
def spOf (K : PySem.W.Frag) (n : Nat) (g : Fm) : Sp := fun vs H Q E => ∃ rs S T Qm xm, rs.length = n ∧ RVs K (cat S T) H rs vs ∧ Ok K S T H ∧ Out K S T H Qm Q ∧ OutX K S T H xm E ∧ g rs S Qm xm
theorem spOf_len {K : PySem.W.Frag} {n : Nat} {g : Fm} : ∀ vs H Q E, spOf K n g vs H Q E → vs.length = n := by
  rintro vs H Q E ⟨rs, S, T, Qm, xm, hl, rr, _⟩
  rw [← rr.length]; exact hl
abbrev FnD (P : Program) (w : World) (K : PySem.W.Frag) (mg : Str → Option Value) (base : Heap) (C : CXT) (k : Nat) (f : Addr) (fd : FuncData) (ps : List Str) (g : Fm) : Prop := FnG P w K mg base C k f fd ps (spOf K ps.length g)
/-- a body, as a def's mirror; n its slots -/
def fnM (n : Nat) (b : CS) : Fm := fun rs S Q X => b ⟨fun _ S' => Q (.d .none) S', Q, fun _ _ => False, fun _ _ => False, fun x _ S' => X x S'⟩ (rs.map some ++ List.replicate (n - rs.length) none) S
section
variable {P : Program} {w : World} {K : PySem.W.Frag} {mg : Str → Option Value} {base : Heap}
/-- a def that lets no exception out -/
theorem fnD {k : Nat} {f : Addr} {x q : Str} {st : Stmt} {fd : FuncData} {N ps : List Str} {b : CS} (F : Fun K x q st f fd) (S : FnScope N ps (defScope st))
    (hb : ∀ (cd : Value) (A : Around) (l : List Env) (s : Shared) (H : Hp) (E : XK), A.guards = some [] → Room k (A.deeper (envOfC q (defScope st) s.heap.objs.size f cd)) →
      ∃ t, PSs (cxOf CX0 P w K mg base N q (defScope st) f cd A l s H E).nox (defBody st) t ∧ SimS K W0 t b) :
    FnD P w K mg base CX0 (k + 1) f fd ps fun rs S Q _ => fnM N.length b rs S Q noX := by
  refine fun_okG F S spOf_len ?_
  rintro cd A l s H vs Q E hg hr ⟨rs, S1, T, Qm, xm, hl, rr, k1, o, ox, hh⟩
  obtain ⟨t, ht, hs⟩ := hb cd A l s H E hg hr
  refine ⟨t, ht.nox, hs _ _ S1 T H _ _ (En.start rr N) k1 ?_ hh⟩
  refine ⟨fun ρ σ S' H' e k z q => o (.d .none) .non S' H' e k Dp.non q, o, fun ρ σ S' H' e k z q => q.elim, fun ρ σ S' H' e k z q => q.elim, fun x c d ρ σ S' H' e k z r q => q.elim⟩
/-- a def that may raise -/
theorem fnDX {k : Nat} {f : Addr} {x q : Str} {st : Stmt} {fd : FuncData} {N ps : List Str} {b : CS} (F : Fun K x q st f fd) (S : FnScope N ps (defScope st))
    (hb : ∀ (cd : Value) (A : Around) (l : List Env) (s : Shared) (H : Hp) (E : XK), A.guards = some [] → Room k (A.deeper (envOfC q (defScope st) s.heap.objs.size f cd)) →
      ∃ t, PSs (cxOf (L2.CX P w) P w K mg base N q (defScope st) f cd A l s H E) (defBody st) t ∧ SimS K (fun c d _ H' => E c d H') t b) :
    FnD P w K mg base (L2.CX P w) (k + 1) f fd ps (fnM N.length b) := by
  refine fun_okG F S spOf_len ?_
  rintro cd A l s H vs Q E hg hr ⟨rs, S1, T, Qm, xm, hl, rr, k1, o, ox, hh⟩
  obtain ⟨t, ht, hs⟩ := hb cd A l s H E hg hr
  refine ⟨t, ht, hs _ _ S1 T H _ _ (En.start rr N) k1 ?_ hh⟩
  exact ⟨fun ρ σ S' H' e k z q => o (.d .none) .non S' H' e k Dp.non q, o, fun ρ σ S' H' e k z q => q.elim, fun ρ σ S' H' e k z q => q.elim, fun x c d ρ σ S' H' e k z r q => ox x c d S' H' e k r q⟩
theorem FnG.imp {C : CXT} {k : Nat} {f : Addr} {fd : FuncData} {ps : List Str} {sp sp' : Sp} (F : FnG P w K mg base C k f fd ps sp) (h : ∀ vs H Q E, sp' vs H Q E → sp vs H Q E) : FnG P w K mg base C k f fd ps sp' :=
  ⟨fun vs H Q E z => F.len vs H Q E (h _ _ _ _ z), fun A l s H g us vs Q E hg hr e bd rv z => F.run A l s H g us vs Q E hg hr e bd rv (h _ _ _ _ z)⟩
/-- what a mirror is worth -/
theorem FnG.by {C : CXT} {k : Nat} {f : Addr} {fd : FuncData} {ps : List Str} {g g' : Fm} (F : FnD P w K mg base C k f fd ps g) (h : ∀ rs S Q X, rs.length = ps.length → g' rs S Q X → g rs S Q X) : FnD P w K mg base C k f fd ps g' :=
  F.imp fun vs H Q E ⟨rs, S, T, Qm, xm, hl, rr, k1, o, ox, hh⟩ => ⟨rs, S, T, Qm, xm, hl, rr, k1, o, ox, h _ _ _ _ hl hh⟩
end

/-! ### calls -/
section
variable {X : Cx} {C : CXT} {k : Nat} {f : Addr} {fd : FuncData} {ps : List Str} {sp : Sp} {E : L2.St → XK} {x : Str} {p pos : Pos} {e : Expr} {es : List Expr} {t : TA}
theorem run_fnG {pins : List (Addr × Obj)} {σ : L2.St} {H : Hp} {s : Shared} {Q : VK} {us : List Value} {vs : List V} (F : FnG X.prog X.w X.K X.mg X.base C k f fd ps sp) (hg : X.A.guards = some []) (hr : Room k X.A) (hb : Binds X.K fd ps [])
    (hx : PassesAt C X σ (E σ)) (I : Inv X pins σ H s) (r : Vals vs us) (h : sp vs H Q (E σ)) : wpAny (model X.prog X.w) X.A (call (.ref f) us) (EP X pins σ Q) X.xe s := by
  have hl : us.length = ps.length := r.length.symm.trans (F.len _ _ _ _ h)
  have bd := hb s us I.kIn (by rw [List.append_nil]; exact hl)
  rw [List.append_nil] at bd
  have c := F.run X.A X.stack s H ⟨us, []⟩ us vs Q (E σ) hg hr I.env0 bd r h
  refine wpAny_call (codeAny_mono c ?_)
  intro z s' hq
  match z, hq with
  | .error e, hq => exact hx pins H s e s' I hq
  | .ok (.ret u), hq => exact I.after hq
  | .ok .next, hq => exact hq.elim
  | .ok .brk, hq => exact hq.elim
  | .ok .cont, hq => exact hq.elim
theorem pe_callG (F : FnG X.prog X.w X.K X.mg X.base C k f fd ps sp) (hg : X.A.guards = some []) (hr : Room k X.A) (hgl : Gl X x) (hm : X.mg x = some (.ref f)) (hk : PySem.W.keepIn X.K (.ref f) = true) (hb : Binds X.K fd ps [])
    (hx : ∀ σ, PassesAt C X σ (E σ)) (ha : PA X (e :: es) t) (hdb : (x == ("__debug__" : Str)) = false := by decide)
    (he : starEach (e :: es) X.env = (false, eval e X.env) :: starEach es X.env := by rfl) (hpl : (backTo pos (starEach es X.env)).any (·.1) = false := by rfl) : PE X (.Call (.Name x p) (e :: es) [] pos) (tCallS sp E t) := by
  constructor
  intro pins s σ H Q I h
  refine wpAny_Call_Name_kw (ld_glob I hgl hm ?_ hdb)
  refine PySem.W.callWith_K (h₀ := X.base) I.ok.mod.kin hk (thn (ha.run pos pins s σ H _ I h) ?_) he hpl
  rintro us s1 ⟨vs, H1, I1, r, q⟩
  exact ⟨I1.kIn, run_fnG F hg hr hb (hx σ) I1 r q⟩
theorem pe_callG0 (F : FnG X.prog X.w X.K X.mg X.base C k f fd ps sp) (hg : X.A.guards = some []) (hr : Room k X.A) (hgl : Gl X x) (hm : X.mg x = some (.ref f)) (hk : PySem.W.keepIn X.K (.ref f) = true) (hb : Binds X.K fd ps [])
    (hx : ∀ σ, PassesAt C X σ (E σ)) (hdb : (x == ("__debug__" : Str)) = false := by decide) : PE X (.Call (.Name x p) [] [] pos) (tCallS sp E tNil) := by
  constructor
  intro pins s σ H Q I h
  refine wpAny_Call_Name_kw (ld_glob I hgl hm ?_ hdb)
  exact PySem.W.callWith_K0 I.kIn hk (run_fnG (us := []) F hg hr hb (hx σ) I .nil h)
theorem pass0S {E : L2.St → XK} : ∀ σ, PassesAt CX0 X σ (E σ) := fun _ _ _ _ _ _ _ h => h.elim
def eFn (n : Nat) (g : Fm) (ma : CA) : CE := fun ρ S Q X => ma ρ S (fun rs S1 => rs.length = n ∧ g rs S1 Q X) X
theorem sim_call {K : PySem.W.Frag} {W : WX} {n : Nat} {g : Fm} {t : TA} {m : CA} (h : SimA K W t m) : SimE K W (tCallS (spOf K n g) (WE W) t) (eFn n g m) := fun ρ σ S T H Qm xm Q nn k o ox q =>
  h ρ σ S T H _ xm _ nn k (fun rs vs S1 H1 e1 k1 rr h1 => ⟨rs, S1, T, Qm, xm, h1.1, rr, k1, o.go e1, ox.go e1, h1.2⟩) ox q
end
end Mi
namespace Mi
open PySem PySem.Spec PyProof.Rows L2

/-! ### the law's end -/
/-- the law of a mirror is True at every script -/
def LawOk (g : Fm) : Prop := ∀ ns : List Int, ns.length ≤ 63 → g [.d (.list (ns.map .int))] (fun _ => none) (fun r _ => r = .d (.bool true)) fun _ _ => False
theorem dp_ints {K : PySem.W.Frag} {H : Hp} : ∀ ns : List Int, DpAll K H (ns.map V.int) (ns.map PyData.int)
  | [] => .nil
  | n :: ns => .cons (.int n) (dp_ints ns)
theorem law_sp {K : PySem.W.Frag} {g : Fm} (h : LawOk g) {H : Hp} {a : Addr} {ns : List Int} (hl : ns.length ≤ 63) (hs : SqL K H a (ns.map V.int)) :
    spOf K 1 g [.ref a] H (fun v _ => v = .bl true) fun _ _ _ => False := by
  have hF : Fz (cat (fun _ => none) fun _ => none) H = H := rfl
  refine ⟨[.d (.list (ns.map .int))], fun _ => none, fun _ => none, fun r _ => r = .d (.bool true), fun _ _ => False, rfl, .cons ?_ .nil, ⟨⟨fun _ _ e => (nomatch e)⟩, fun _ _ e => (nomatch e)⟩, ?_, ?_, h ns hl⟩
  · show Dp K (Fz _ H) (.ref a) _
    rw [hF]
    exact .lst hs (dp_ints ns)
  · rintro r v S' H' _ _ rv rfl
    cases rv
    rfl
  · rintro x c d S' H' _ _ _ z
    exact z.elim
/-- from a def's promise to the call at the heap behind the top -/
theorem law_run {P : Program} {w : World} {K : PySem.W.Frag} {mg mb : Str → Option Value} {C : CXT} {k : Nat} {f a : Addr} {fd : FuncData} {x : Str} {sp : Sp} {s : Shared} {us : List Value} {ns : List Int}
    (hK : K.In s.heap) (h1 : s.heap.Ns mainGlobals mg) (h2 : s.heap.Ns builtinsNs mb) (h3 : ∀ y : Str, y ≠ "__name__" → mb y = bootBuiltins y) (h4 : s.heap.NoLimit) (h5 : s.gens = #[])
    (ha : s.heap.get? a = some { cls := .type "list", data := .seq us.toArray }) (hu : IntsAre us ns) (hl : ns.length ≤ sizeLine) (hr : Room k callerA)
    (F : ∀ base : Heap, K.In base → base.Ns mainGlobals mg → FnG P w K mg base C k f fd [x] sp) (bd : ∀ (s : Shared) (u : Value), BindsTo s fd ⟨[u], []⟩ [(x, u)])
    (hsp : ∀ H : Hp, SqL K H a (ns.map V.int) → sp [.ref a] H (fun v _ => v = .bl true) fun _ _ _ => False) (hC : ∀ H e s', C [] H s (fun _ _ _ => False) e s' → False) :
    codeAny (model P w) callerA (.call (.ref f) ⟨[.ref a], []⟩) (fun r s' => r = .ok (.ret (.bool true)) ∧ OldK s.heap s'.heap ∧ s'.os = s.os ∧ AllBare s'.gens) s := by
  have rv := vals_ints hu
  have key : ∀ H : Hp, (∀ b u, H b = some u → b = a ∧ ∃ o xs, u = .frz o (.lst xs)) → SqL K H a (ns.map V.int) → HOk P w H s.heap → (H a ≠ none → K.lookup a = none) →
      codeAny (model P w) callerA (.call (.ref f) ⟨[.ref a], []⟩) (fun r s' => r = .ok (.ret (.bool true)) ∧ OldK s.heap s'.heap ∧ s'.os = s.os ∧ AllBare s'.gens) s := by
    intro H only hs ok hKa
    have isDict : ∀ {b : Addr} {o : Obj} {es : Array DictEntry} {ep : Nat}, s.heap.get? b = some o → o.data = .dict es ep → H b = none := by
      intro b o es ep e d
      cases q : H b with
      | none => rfl
      | some u =>
        obtain ⟨rfl, _⟩ := only b u q
        rw [ha] at e
        cases e
        have d' : Data.seq us.toArray _ = Data.dict es ep := d
        cases d'
    have ns' : ∀ {b : Addr} {m : Str → Option Value}, s.heap.Ns b m → (hidT s.heap H).Ns b m := by
      rintro b m ⟨o, es, ep, e, d, r⟩
      exact ⟨o, es, ep, hidT_get e (isDict e d), d, r⟩
    have inK : K.In (hidT s.heap H) := by
      intro b o e
      refine hidT_get (hK b o e) ?_
      cases q : H b with
      | none => rfl
      | some u =>
        obtain ⟨rfl, _⟩ := only b u q
        have z := hKa (by rw [q]; exact Option.some_ne_none u)
        have e' : K.lookup b = some o := e
        rw [z] at e'
        cases e'
    have md : Mod K mg (hidT s.heap H) := by
      refine ⟨inK, ns' h1, ⟨mb, ns' h2, h3⟩, ?_⟩
      obtain ⟨mc, z1, z2⟩ := h4
      exact ⟨mc, ns' z1, z2⟩
    have e0 : Env0 P w K mg (hidT s.heap H) callerA [] s H := ⟨rfl, md, fun b o e => of_hidT e, Nat.le_of_eq (hidT_size _ _), trivial, fun b z => absurd (show b ∈ ([] : List Addr) from z) (by simp), ok, .of_eq h5⟩
    have run := (F _ inK (ns' h1)).run callerA [] s H ⟨[.ref a], []⟩ [.ref a] [.ref a] _ _ rfl hr e0 (bd s (.ref a)) (.cons rfl .nil) (hsp H hs)
    refine codeAny_mono run ?_
    intro z s' q
    match z, q with
    | .error e, q => exact (hC H e s' q).elim
    | .ok .next, q => exact q.elim
    | .ok .brk, q => exact q.elim
    | .ok .cont, q => exact q.elim
    | .ok (.ret u), q =>
      obtain ⟨v, H', os, bare, un, ok', rv', e⟩ := q
      have e' : v = .bl true := e
      subst e'
      obtain rfl : u = Value.bool true := rv'
      refine ⟨rfl, OldK.of_keep ?_, os, bare⟩
      intro b o e
      cases q : H b with
      | none => exact un.keep b o e q (fun z => absurd (show b ∈ ([] : List Addr) from z) (by simp)) (by simp)
      | some u =>
        obtain ⟨rfl, ob, xs, rfl⟩ := only b u q
        have g1 := (ok b _ q).1
        have g2 := (ok' b _ (un.frzs b ob _ q)).1
        rw [e] at g1
        cases g1
        exact g2
  cases hk : K.lookup a with
  | some o =>
    have e := hK a o hk
    rw [ha] at e
    cases e
    exact key (fun _ => none) (fun b u z => by cases z) (.inr ⟨_, us.toArray, _, hk, rfl, rfl, rfl, by rw [List.size_toArray, hu.length]; exact hl, by simpa using rv⟩) (fun b u z => by cases z) (fun z => absurd rfl z)
  | none =>
    let o : Obj := { cls := .type "list", data := .seq us.toArray }
    refine key (fun b => if b = a then some (.frz o (.lst (ns.map V.int))) else none) ?_ (.inl (.inr ⟨o, if_pos rfl⟩)) ?_ (fun _ => hk)
    · intro b u z
      by_cases e : b = a
      · rw [if_pos e] at z
        cases z
        exact ⟨e, _, _, rfl⟩
      · rw [if_neg e] at z; cases z
    · intro b u z
      by_cases e : b = a
      · have z' := (if_pos e).symm.trans z
        cases z'
        subst e
        exact ⟨ha, by rw [List.length_map]; exact hl, us, _, rv, ha⟩
      · have z' := (if_neg e).symm.trans z
        cases z'
theorem walk_ofG {l : PySem.W.OpenLaw} {k : Nat} {q : Program} {loose : List Str} {XP : (Str → Option Value) → Heap → Prop} {YP : World → Heap → Prop} {d : DefRec} {K : Params → PySem.W.Frag} {C : World → CXT} {g : Fm} {x : Str}
    (hn : l.most = some 63) (hdf : d.params.defaults = []) (hr : Room k callerA) (hY : ∀ (w : World) (h : Heap), YP w h → (K w.params).In h)
    (F : ∀ (w : World) (mg : Str → Option Value) (fa : Addr) (h : Heap), (K w.params).In h → h.Ns mainGlobals mg → mg d.name = some (.ref fa) →
      ∃ fd : FuncData, (∀ (s : Shared) (u : Value), BindsTo s fd ⟨[u], []⟩ [(x, u)]) ∧
        ∀ base : Heap, (K w.params).In base → base.Ns mainGlobals mg → FnD l.prog w (K w.params) mg base (C w) k fa fd [x] g)
    (hg : LawOk g) (hC : ∀ (w : World) (H : Hp) (s : Shared) (e : Value) (s' : Shared), C w [] H s (fun _ _ _ => False) e s' → False) :
    PySem.W.WalkO q loose XP YP l.row.toRowW d [] (fun f vs => PySem.call f vs) := by
  refine Att.attach_call hn hdf ?_
  intro w s₀ s₁ mg mb fa o pm cd doc a us ns G Y ho hd hcd hmg hobj hints hlen hgs
  have hK := hY w _ Y
  obtain ⟨fd, hb, hF⟩ := F w mg fa _ hK G.T.g hmg
  exact law_run hK G.T.g G.T.b G.T.builtins G.T.nolimit hgs hobj hints (Nat.le_trans hlen (by decide)) hr hF hb (fun H hs => law_sp hg hlen hs) fun H e s' => hC w H s₁ e s'
end Mi
namespace Mi
open PySem PySem.Spec PyProof.Rows L2

/-! ### further rules -/
theorem rep_room {k : Nat} {A : Around} (hr : Room k A) : A.units + 70 < cLine := by
  have := hr.un
  omega
section
variable {K : PySem.W.Frag} {W : WX} {te to : TE} {me mo : CE} {t : TA} {m : CA}
abbrev bMulA : B2 := bMul
theorem sim_mulA : SimR2 K (rI CMul fun i j => .int (i * j)) bMulA := sim_mul
theorem op_mulA {X : Cx} : OpR X (binaryOp .Mult) (rI CMul fun i j => .int (i * j)) := op_mul
theorem sim_neg : SimR1 K (rU fun i => .int (-i)) bNeg := fun x vx S T H Qm Q k rx o q => by
  unfold bNeg at q
  split at q
  · cases rx
    exact ⟨_, rfl, o (.d (.int _)) _ S H Ev.rfl' k (Dp.int _) q⟩
  · exact q.elim
/-- a list of the store, from here on never changed -/
def eFrz (me : CE) : CE := fun ρ S Q X => me ρ S (fun r S1 => ∃ a xs ys, r = .m a ∧ S1 a = some (.lst xs) ∧ allD xs = some ys ∧ Q (.d (.list ys)) (sdel S1 a)) X
theorem sim_frz (h : SimE K W te me) : SimE K W te (eFrz me) := fun ρ σ S T H Qm xm Q n k o ox q =>
  h ρ σ S T H _ xm _ n k (fun r v S1 H1 e1 k1 rv ⟨a, xs, ys, er, es, ea, hq⟩ => by
    subst er
    cases rv
    have hT : T a = none := by
      cases q : T a with
      | none => rfl
      | some u => have := k1.dj a u q; rw [es] at this; cases this
    have eU : cat (sdel S1 a) T = sdel (cat S1 T) a := cat_sdel hT
    have ev : Ev (cat S1 T) H1 (cat (sdel S1 a) T) H1 := by rw [eU]; exact ev_del
    obtain ⟨vs, hv, rr⟩ := k1.lst es
    refine o (.d (.list ys)) _ (sdel S1 a) H1 (e1.trans ev) ⟨by rw [eU]; exact k1.rp.del, fun b u z => ?_⟩ ?_ hq
    · have ne : b ≠ a := fun z' => by rw [z', hT] at z; cases z
      rw [sdel_ne ne]
      exact k1.dj b u z
    · refine Dp.lst (xs := vs) (.inl (.inl ?_)) ((rr.ev ev).all ea)
      rw [fz_free (cat_free sdel_same hT)]
      exact hv) ox q
/-- xs.append(e) -/
def eAppend (mo : CE) (ma : CA) : CE := fun ρ S Q X => mo ρ S (fun r S1 => match r with
  | .m a => (∃ zs, S1 a = some (.lst zs)) ∧ ma ρ S1 (fun rs S2 => match rs with
    | [y] => ∃ xs, S2 a = some (.lst xs) ∧ xs.length < sizeLine ∧ Q (.d .none) (sset S2 a (.lst (xs ++ [y])))
    | _ => False) X
  | _ => False) X
theorem sim_append (ho : SimE K W to mo) (ha : SimA K W t m) : SimE K W (tBM K "list" rAppend to t) (eAppend mo m) := fun ρ σ S T H Qm xm Q n k o ox q =>
  ho ρ σ S T H _ xm _ n k (fun r v S1 H1 e1 k1 rv q => by
    split at q
    · obtain ⟨⟨zs, hz⟩, hq⟩ := q
      cases rv
      obtain ⟨v0, h0, _⟩ := k1.lst hz
      refine ⟨.inl ⟨rfl, _, .inl (.inl h0)⟩, ha ρ σ S1 T H1 _ xm _ (n.ev e1) k1 ?_ (ox.go e1) hq⟩
      intro rs vs S2 H2 e2 k2 rr q
      split at q
      · obtain ⟨xs, es, hl, hq2⟩ := q
        cases rr with
        | cons ry rt =>
          cases rt
          obtain ⟨ws, hv, rw'⟩ := k2.lst es
          obtain ⟨_, k3, e3⟩ := k2.setL es (rw'.append (.cons ry .nil))
          exact ⟨_, ws, _, rfl, rfl, hv, by rw [← rw'.length]; exact hl, o (.d .none) _ _ _ ((e1.trans e2).trans e3) k3 Dp.non hq2⟩
      · exact q.elim
    · exact q.elim) ox q
theorem sim_cut {t : TS} {a b : CS} (e : a = b) (h : SimS K W t b) : SimS K W t a := by
  rw [e]
  exact h
/-! ### slices -/
abbrev MO' := Ro → Sto → (Option Int → Sto → Prop) → QX → Prop
def SimO (K : PySem.W.Frag) (W : WX) (t : TO) (m : MO') : Prop := ∀ ρ σ S T H Qm xm Q, En K (cat S T) H ρ σ → Ok K S T H → (∀ b S' H', Ev (cat S T) H (cat S' T) H' → Ok K S' T H' → Qm b S' → Q b H') → OutX K S T H xm (fun c d H' => W c d σ H') → m ρ S Qm xm → t σ H Q
def oNone : MO' := fun _ S Q _ => Q none S
def oSome (me : CE) : MO' := fun ρ S Q X => me ρ S (fun r S1 => ∃ i, r = .d (.int i) ∧ Q (some i) S1) X
theorem simO_none : SimO K W tNoPart oNone := fun ρ σ S T H Qm xm Q n k o ox h => o none S H Ev.rfl' k h
theorem simO_some (h : SimE K W te me) : SimO K W (tPart te) (oSome me) := fun ρ σ S T H Qm xm Q n k o ox q =>
  h ρ σ S T H _ xm _ n k (fun r v S1 H1 e1 k1 rv ⟨i, er, hq⟩ => by
    subst er
    cases rv
    exact ⟨i, rfl, o (some i) S1 H1 e1 k1 hq⟩) ox q
def cutL {α : Type} (xs : List α) (lo hi : Option Int) : List α := (xs.drop (HT.sIx xs.length 0 lo)).take (HT.sIx xs.length xs.length hi - HT.sIx xs.length 0 lo)
def bSlice : MV → Option Int → Option Int → Sto → QE → Prop := fun x lo hi S Q => match x with
  | .d (.str z) => z.length ≤ sizeLine ∧ Q (.d (.str (cutS z lo hi))) S
  | .d (.tuple xs) => Q (.d (.tuple (cutL xs lo hi))) S
  | x => ∃ xs ys, lstOf S x = some xs ∧ allD (cutL xs lo hi) = some ys ∧ Q (.d (.list ys)) S
def eSlice (me : CE) (ml mh : MO') : CE := fun ρ S Q X => me ρ S (fun x S1 => ml ρ S1 (fun l S2 => mh ρ S2 (fun u S3 => bSlice x l u S3 Q) X) X) X
def rSlAny (K : PySem.W.Frag) : V → Option Int → Option Int → Hp → VK → Prop := fun x lo hi H Q => rSlS x lo hi H Q ∨ (rSlA K x lo hi H Q ∨ rSlL K x lo hi H Q)
theorem sl_any {X : Cx} : SlR X (rSlAny X.K) := sl_str.or (sl_tupA.or sl_list)
theorem dpAll_take {H : Hp} : ∀ {vs : List V} {xs : List PyData} (n : Nat), DpAll K H vs xs → DpAll K H (vs.take n) (xs.take n)
  | _, [], n, h => by cases h; cases n <;> exact .nil
  | _, x :: xs, 0, h => .nil
  | _, x :: xs, n + 1, h => by cases h with | cons a b => exact .cons a (dpAll_take n b)
theorem dpAll_drop {H : Hp} : ∀ {vs : List V} {xs : List PyData} (n : Nat), DpAll K H vs xs → DpAll K H (vs.drop n) (xs.drop n)
  | _, [], n, h => by cases h; cases n <;> exact .nil
  | _, x :: xs, 0, h => h
  | _, x :: xs, n + 1, h => by cases h with | cons a b => exact dpAll_drop n b
theorem cut_whole {α : Type} {xs : List α} {lo hi : Option Int} (h : HT.sIx xs.length 0 lo = 0 ∧ HT.sIx xs.length xs.length hi = xs.length) : cutL xs lo hi = xs := by
  unfold cutL
  rw [h.1, h.2]
  simp
theorem sim_bSlice {x : MV} {v : V} {lo hi : Option Int} {S T : Sto} {H : Hp} {Qm : QE} {Q : VK} (k : Ok K S T H) (rv : RV K (cat S T) H x v) (o : Out K S T H Qm Q) (q : bSlice x lo hi S Qm) : rSlAny K v lo hi H Q := by
  unfold bSlice at q
  split at q
  · cases rv
    exact .inl ⟨_, rfl, q.1, o (.d (.str _)) _ S H Ev.rfl' k (Dp.str _) q.2⟩
  · cases rv with
    | tup hs ha =>
      have hl := dpAll_len ha
      refine .inr (.inl ⟨_, _, rfl, fz_tup hs, fun w => ?_, fun _ p np => ?_⟩)
      · rw [hl] at w
        rw [cut_whole w] at q
        exact o (.d _) _ S H Ev.rfl' k (Dp.tup hs ha) q
      · refine o _ _ S _ (ev_new np) (k.new np) (new_tup k np ?_) q
        unfold cutL cutV
        rw [hl]
        exact dpAll_take _ (dpAll_drop _ ha)
  · obtain ⟨xs, ys, e, ea, q⟩ := q
    obtain ⟨a, vs, rfl, hs, rr⟩ := rv_lst k rv e
    refine .inr (.inr ⟨a, vs, rfl, hs, fun p np => ?_⟩)
    refine o _ _ S _ (ev_new np) (k.new np) (new_lst k np ?_) q
    have h : RVs K (cat S T) H (cutL xs lo hi) (cutV vs lo hi) := by
      unfold cutL cutV
      rw [← rr.length]
      exact (rr.drop _).take _
    exact h.all ea
theorem sim_slice {tl th : TO} {ml mh : MO'} (he : SimE K W te me) (hl : SimO K W tl ml) (hh : SimO K W th mh) : SimE K W (tSl (rSlAny K) te tl th) (eSlice me ml mh) := fun ρ σ S T H Qm xm Q n k o ox q =>
  he ρ σ S T H _ xm _ n k (fun x vx S1 H1 e1 k1 rx h1 => hl ρ σ S1 T H1 _ xm _ (n.ev e1) k1 (fun l S2 H2 e2 k2 h2 => hh ρ σ S2 T H2 _ xm _ (n.ev (e1.trans e2)) k2 (fun u S3 H3 e3 k3 h3 =>
    sim_bSlice k3 (rx.ev (e2.trans e3)) (o.go ((e1.trans e2).trans e3)) h3) (ox.go (e1.trans e2)) h2) (ox.go e1) h1) ox q
/-! ### chains -/
def eChain (b b' : B2) (ma mb mc : CE) : CE := fun ρ S Q X => ma ρ S (fun x S1 => mb ρ S1 (fun y S2 => b x y S2 fun z S3 => ∃ k, z = .d (.bool k) ∧ (if k = true then mc ρ S3 (fun w S4 => b' y w S4 Q) X else Q (.d (.bool false)) S3)) X) X
theorem sim_chain {r r' : R2} {b b' : B2} {ta tb tc : TE} {ma mb mc : CE} (hr : SimR2 K r b) (hr' : SimR2 K r' b') (ha : SimE K W ta ma) (hb : SimE K W tb mb) (hc : SimE K W tc mc) : SimE K W (tChain r r' ta tb tc) (eChain b b' ma mb mc) := fun ρ σ S T H Qm xm Q n k o ox h =>
  ha ρ σ S T H _ xm _ n k (fun x vx S1 H1 e1 k1 rx h1 => hb ρ σ S1 T H1 _ xm _ (n.ev e1) k1 (fun y vy S2 H2 e2 k2 ry h2 => hr x y vx vy S2 T H2 _ _ k2 (rx.ev e2) ry (fun z vz S3 H3 e3 k3 rz ⟨c, ec, h3⟩ => by
    subst ec
    cases rz
    refine ⟨c, rfl, ?_⟩
    have e12 := e1.trans e2
    cases c with
    | false => exact iteF (o (.d (.bool false)) _ S3 H3 (e12.trans e3) k3 (Dp.bl _) (by simpa using h3))
    | true =>
      refine iteT (hc ρ σ S3 T H3 _ xm _ (n.ev (e12.trans e3)) k3 ?_ (ox.go (e12.trans e3)) (by simpa using h3))
      intro w vw S4 H4 e4 k4 rw' h4
      exact hr' y w vy vw S4 T H4 Qm Q k4 (ry.ev (e3.trans e4)) rw' (o.go ((e12.trans e3).trans e4)) h4) h2) (ox.go e1) h1) ox h
/-! ### in -/
def bIn : B2 := fun x y S Q => ∃ c ds, datOf S x = some c ∧ (datOf S y = some (.list ds) ∨ y = .d (.tuple ds)) ∧ SeqAt.shaped c = true ∧ SeqAt.shaped (.list ds) = true ∧ Q (.d (.bool (ds.any fun z => PyData.eqv z c))) S
def bNotIn : B2 := fun x y S Q => ∃ c ds, datOf S x = some c ∧ datOf S y = some (.list ds) ∧ SeqAt.shaped c = true ∧ SeqAt.shaped (.list ds) = true ∧ Q (.d (.bool (!ds.any fun z => PyData.eqv z c))) S
def rInT (K : PySem.W.Frag) : R2 := fun x y H Q => ∃ d ds, Dp K H x d ∧ Dp K H y (.tuple ds) ∧ SeqAt.shaped d = true ∧ SeqAt.shaped (.list ds) = true ∧ Q (.bl (ds.any fun z => PyData.eqv z d)) H
theorem op_inT {X : Cx} (hu : X.A.units + 65 < cLine) : OpR X (compareOp .In) (rInT X.K) := by
  intro pins s σ H x y v u Q I rx ry h
  obtain ⟨d, ds, hd, he, sd, se, q⟩ := h
  obtain ⟨as, r1⟩ := Dp.reads I d x v hd rx
  obtain ⟨bs, r2⟩ := Dp.reads I (.tuple ds) y u he ry
  exact SeqAt.in_tuple_reads r2 r1 (SeqAt.canLay_of_shaped se) (SeqAt.canLay_of_shaped sd) (room_in_shaped sd hu) ⟨.bl _, H, I, rfl, q⟩
def rInA (K : PySem.W.Frag) : R2 := fun x y H Q => rInD K x y H Q ∨ rInT K x y H Q
theorem op_inA {X : Cx} (hu : X.A.units + 65 < cLine) : OpR X (compareOp .In) (rInA X.K) := (op_inD hu).or (op_inT hu)
theorem op_notInA {X : Cx} (hu : X.A.units + 65 < cLine) : OpR X (compareOp .NotIn) (rNotInD X.K) := op_notInD hu
theorem sim_in : SimR2 K (rInA K) bIn := fun x y vx vy S T H Qm Q k rx ry o ⟨c, ds, ec, ed, sc, sd, q⟩ => by
  rcases ed with ed | ed
  · exact .inl ⟨c, ds, rv_dat k rx ec, rv_dat k ry ed, sc, sd, o (.d (.bool _)) _ S H Ev.rfl' k (Dp.bl _) q⟩
  · subst ed
    exact .inr ⟨c, ds, rv_dat k rx ec, fz_dp ry, sc, sd, o (.d (.bool _)) _ S H Ev.rfl' k (Dp.bl _) q⟩
theorem sim_notIn : SimR2 K (rNotInD K) bNotIn := fun x y vx vy S T H Qm Q k rx ry o ⟨c, ds, ec, ed, sc, sd, q⟩ =>
  ⟨c, ds, rv_dat k rx ec, rv_dat k ry ed, sc, sd, o (.d (.bool _)) _ S H Ev.rfl' k (Dp.bl _) q⟩
theorem sim_ipAdd : SimR2 K (ipI fun i j => i + j) (bInt fun i j => .int (i + j)) := fun x y vx vy S T H Qm Q k rx ry o q => by
  unfold bInt at q
  split at q
  · cases rx; cases ry
    exact ⟨_, _, rfl, rfl, o (.d (.int _)) _ S H Ev.rfl' k (Dp.int _) q⟩
  · exact q.elim
end
theorem in_room {k : Nat} {A : Around} (hr : Room k A) : A.units + 65 < cLine := by
  have := hr.un
  omega

/-! ### a def of the text, as the top has left it -/
structure DefAt (K : PySem.W.Frag) (mg : Str → Option Value) (x : Str) (st : Stmt) (ps : List Str) (f : Addr) (fd : FuncData) : Prop where
  fn : Fun K x x st f fd
  at_ : mg x = some (.ref f)
  bb : ∀ (s : Shared) (us : List Value), us.length = ps.length → BindsTo s fd ⟨us, []⟩ (ps.zip us)
theorem DefAt.bd {K : PySem.W.Frag} {mg : Str → Option Value} {x : Str} {st : Stmt} {ps : List Str} {f : Addr} {fd : FuncData} (D : DefAt K mg x st ps f fd) : Binds K fd ps [] := fun s us _ hl => by
  rw [List.append_nil] at hl ⊢
  exact D.bb s us hl
theorem def_at {K : PySem.W.Frag} {mg : Str → Option Value} {h : Heap} {x : Str} {st : Stmt} {ps : List Str} {f : Addr} (X : K.In h) (G : h.Ns mainGlobals mg) {od an : Option Addr} {sl : Array (Option Value)} {oc kV doc pm cd ct : Value}
    (a : PySem.W.nsIn K mainGlobals x = some (some (.ref f))) (l : K.lookup f = some ⟨oc, od, .func (PySem.W.fnOf x x (defArgs st) (defBody st) (defScope st) .none kV doc pm an cd ct), sl⟩)
    (c : PySem.W.codeIn K cd x = true) (kp : PySem.W.keepIn K (.ref f) = true)
    (b : ∀ (kV doc pm : Value) (an : Option Addr) (cd ct : Value) (us : List Value), us.length = ps.length → bindArgs (PySem.W.fnOf x x (defArgs st) (defBody st) (defScope st) .none kV doc pm an cd ct) ⟨us, []⟩ = pure (ps.zip us)) :
    DefAt K mg x st ps f (PySem.W.fnOf x x (defArgs st) (defBody st) (defScope st) .none kV doc pm an cd ct) :=
  ⟨fun_mk (st := st) l c kp, PySem.W.mg_of X G a, fun s us hl => .of_eq (b kV doc pm an cd ct us hl)⟩
end Mi
namespace Mi
open PySem PySem.Spec PyProof.Rows L2

/-! ### reading the mirror -/
theorem atI_nat' {α : Type} (xs : List α) (n : Nat) : atI xs (n : Int) = xs[n]? := by
  unfold atI ixN
  rw [if_pos (Int.natCast_nonneg n)]
  by_cases h : (n : Int) < xs.length
  · rw [if_pos h]
    rfl
  · rw [if_neg h]
    exact (List.getElem?_eq_none (by omega)).symm
theorem atI_0 {α : Type} (xs : List α) : atI xs 0 = xs[0]? := atI_nat' xs 0
theorem atI_1 {α : Type} (xs : List α) : atI xs 1 = xs[1]? := atI_nat' xs 1
theorem atI_2 {α : Type} (xs : List α) : atI xs 2 = xs[2]? := atI_nat' xs 2
theorem atI_3 {α : Type} (xs : List α) : atI xs 3 = xs[3]? := atI_nat' xs 3
theorem atI_4 {α : Type} (xs : List α) : atI xs 4 = xs[4]? := atI_nat' xs 4
theorem atI_int {α : Type} {xs : List α} {i : Int} (h : 0 ≤ i) : atI xs i = xs[i.toNat]? := by
  have e : i = ((i.toNat : Nat) : Int) := by omega
  rw [e, atI_nat']
  rfl
theorem atI_map {α β : Type} (f : α → β) (xs : List α) (i : Int) : atI (xs.map f) i = (atI xs i).map f := by
  unfold atI
  rw [List.length_map]
  cases ixN xs.length i with
  | none => rfl
  | some j => exact List.getElem?_map
theorem bIx_tup (xs : List PyData) (i : Int) (S : Sto) (Q : QE) : bIx (.d (.tuple xs)) (.d (.int i)) S Q = ∃ v, atI xs i = some v ∧ Q (.d v) S := by
  unfold bIx seqOf
  simp only [Option.some.injEq, exists_eq_left', atI_map, Option.map_eq_some_iff]
  apply propext
  constructor
  · rintro ⟨_, v, rfl, h, q⟩
    rw [atI_map] at h
    obtain ⟨w, h1, h2⟩ := Option.map_eq_some_iff.mp h
    exact ⟨w, h1, by rw [h2]; exact q⟩
  · rintro ⟨v, h, q⟩
    exact ⟨_, .d v, rfl, by rw [atI_map, h]; rfl, q⟩
theorem bIx_lst (xs : List PyData) (i : Int) (S : Sto) (Q : QE) : bIx (.d (.list xs)) (.d (.int i)) S Q = ∃ v, atI xs i = some v ∧ Q (.d v) S := by
  unfold bIx seqOf
  apply propext
  constructor
  · rintro ⟨_, v, e, h, q⟩
    cases e
    rw [atI_map] at h
    obtain ⟨w, h1, h2⟩ := Option.map_eq_some_iff.mp h
    exact ⟨w, h1, by rw [h2]; exact q⟩
  · rintro ⟨v, h, q⟩
    exact ⟨_, .d v, rfl, by rw [atI_map, h]; rfl, q⟩
theorem seqOf_m {S : Sto} {a : Addr} {xs : List MV} (h : S a = some (.lst xs)) : seqOf S (.m a) = some xs := by
  show (match S a with | some (.lst xs) => some xs | _ => none) = some xs
  rw [h]
theorem lstOf_m {S : Sto} {a : Addr} {xs : List MV} (h : S a = some (.lst xs)) : lstOf S (.m a) = some xs := by
  show (match S a with | some (.lst xs) => some xs | _ => none) = some xs
  rw [h]
theorem bIx_m {xs : List MV} {a : Addr} {i : Int} {S : Sto} {Q : QE} (h : S a = some (.lst xs)) : bIx (.m a) (.d (.int i)) S Q = ∃ v, atI xs i = some v ∧ Q v S := by
  show (∃ xs v, seqOf S (.m a) = some xs ∧ atI xs i = some v ∧ Q v S) = _
  rw [seqOf_m h]
  apply propext
  constructor
  · rintro ⟨_, v, e, h, q⟩
    cases e
    exact ⟨v, h, q⟩
  · rintro ⟨v, h, q⟩
    exact ⟨_, v, rfl, h, q⟩
theorem lenV_tup (xs : List PyData) (S : Sto) (n : Nat) : lenV S (.d (.tuple xs)) n = (n = xs.length) := by
  unfold lenV seqOf
  apply propext
  constructor
  · rintro ⟨ys, e, h⟩
    cases e
    rw [h, List.length_map]
  · intro h
    exact ⟨_, rfl, by rw [h, List.length_map]⟩
theorem lenV_lst (xs : List PyData) (S : Sto) (n : Nat) : lenV S (.d (.list xs)) n = (n = xs.length) := by
  unfold lenV seqOf
  apply propext
  constructor
  · rintro ⟨ys, e, h⟩
    cases e
    rw [h, List.length_map]
  · intro h
    exact ⟨_, rfl, by rw [h, List.length_map]⟩
theorem lenV_m {S : Sto} {a : Addr} {xs : List MV} (h : S a = some (.lst xs)) (n : Nat) : lenV S (.m a) n = (n = xs.length) := by
  show (∃ xs, seqOf S (.m a) = some xs ∧ n = xs.length) = _
  rw [seqOf_m h]
  apply propext
  constructor
  · rintro ⟨ys, e, h⟩
    cases e
    exact h
  · intro h
    exact ⟨_, rfl, h⟩
theorem ex_eq_and {α : Type} {a : α} {p : α → Prop} : (∃ x, x = a ∧ p x) = p a := propext ⟨fun ⟨_, e, h⟩ => e ▸ h, fun h => ⟨a, rfl, h⟩⟩
theorem ex_eq_and' {α : Type} {a : α} {p : α → Prop} : (∃ x, a = x ∧ p x) = p a := propext ⟨fun ⟨_, e, h⟩ => e ▸ h, fun h => ⟨a, rfl, h⟩⟩

/-- a for, by what holds ahead of each turn -/
theorem forL_inv {g : MG} {b : CS} {ok : Sto → Prop} {D : ME} (I : Nat → Ro → Sto → Prop) : ∀ (xs : List MV) (k : Nat) (ρ : Ro) (S : Sto), I k ρ S → (∀ i ρ S, I i ρ S → ok S) →
    (∀ i x ρ S (N : Ro → Sto → Prop), xs[i]? = some x → I (k + i) ρ S → (∀ ρ' S', I (k + i + 1) ρ' S' → N ρ' S') → g x ρ S (fun ρ1 S1 => b { D with nx := N, ct := N, bk := D.nx } ρ1 S1) (fun x S' => D.ex x ρ S')) →
    (∀ ρ S, I (k + xs.length) ρ S → D.nx ρ S) → forL g b ok xs D ρ S
  | [], k, ρ, S, h0, hok, hs, hd => ⟨hok _ _ _ h0, hd ρ S h0⟩
  | x :: xs, k, ρ, S, h0, hok, hs, hd => by
    refine ⟨hok _ _ _ h0, hs 0 x ρ S _ rfl h0 ?_⟩
    intro ρ' S' h
    refine forL_inv I xs (k + 1) ρ' S' h hok ?_ ?_
    · intro i y ρ2 S2 N e hI hN
      refine hs (i + 1) y ρ2 S2 N e ?_ ?_
      · rw [show k + (i + 1) = k + 1 + i by omega]; exact hI
      · intro ρ3 S3 h3
        exact hN ρ3 S3 (by rw [show k + 1 + i + 1 = k + (i + 1) + 1 by omega]; exact h3)
    · intro ρ2 S2 h2
      exact hd ρ2 S2 (by rw [List.length_cons, show k + (xs.length + 1) = k + 1 + xs.length by omega]; exact h2)
/-- a comprehension whose turns leave the store as it is -/
theorem lcL_map {g : MG} {tt : CT} {te : CE} {ok : Sto → Prop} {ρ : Ro} {S : Sto} {α : Type} (e : α → MV) (p : α → Bool) (h : α → MV) {Q : List MV → Sto → Prop} (hok : ok S) : ∀ (xs : List α) (acc : List MV),
    (∀ a ∈ xs, ∀ (N : Sto → Prop) (M : MV → Sto → Prop), (p a = true → M (h a) S) → (p a = false → N S) → g (e a) ρ S (fun ρ1 S1 => tt ρ1 S1 (fun b S2 => if b = true then te ρ1 S2 M noX else N S2) noX) noX) →
    acc.length + xs.length ≤ sizeLine → Q (acc ++ (xs.filter p).map h) S → lcL g tt te ok (xs.map e) acc ρ S Q
  | [], acc, hs, hl, hq => by
    refine ⟨hok, ?_⟩
    rw [List.filter_nil, List.map_nil, List.append_nil] at hq
    exact hq
  | x :: xs, acc, hs, hl, hq => by
    rw [List.length_cons] at hl
    refine ⟨hok, hs x List.mem_cons_self _ _ ?_ ?_⟩
    · intro hp
      refine ⟨by omega, lcL_map e p h hok xs (acc ++ [h x]) (fun a ha => hs a (List.mem_cons_of_mem _ ha)) ?_ ?_⟩
      · rw [List.length_append, List.length_cons, List.length_nil]; omega
      · rw [List.filter_cons, if_pos hp, List.map_cons] at hq
        rw [List.append_assoc]
        exact hq
    · intro hp
      refine lcL_map e p h hok xs acc (fun a ha => hs a (List.mem_cons_of_mem _ ha)) (by omega) ?_
      rw [List.filter_cons, if_neg (by rw [hp]; exact Bool.false_ne_true)] at hq
      exact hq
/-- a comprehension by what holds ahead of each turn: for one whose turns draw -/
theorem lcL_inv {g : MG} {tt : CT} {te : CE} {ok : Sto → Prop} {ρ : Ro} {Q : List MV → Sto → Prop} (I : Nat → List MV → Sto → Prop) : ∀ (xs : List MV) (k : Nat) (acc : List MV) (S : Sto), I k acc S → (∀ i acc S, I i acc S → ok S) →
    (∀ i x acc S (N : List MV → Sto → Prop), xs[i]? = some x → I (k + i) acc S → (∀ acc' S', I (k + i + 1) acc' S' → N acc' S') →
      g x ρ S (fun ρ1 S1 => tt ρ1 S1 (fun b S2 => if b = true then te ρ1 S2 (fun y S3 => acc.length < sizeLine ∧ N (acc ++ [y]) S3) noX else N acc S2) noX) noX) →
    (∀ acc S, I (k + xs.length) acc S → Q acc S) → lcL g tt te ok xs acc ρ S Q
  | [], k, acc, S, h0, hok, hs, hd => ⟨hok _ _ _ h0, hd acc S h0⟩
  | x :: xs, k, acc, S, h0, hok, hs, hd => by
    refine ⟨hok _ _ _ h0, hs 0 x acc S (fun acc' S' => lcL g tt te ok xs acc' ρ S' Q) rfl h0 ?_⟩
    intro acc' S' h
    refine lcL_inv I xs (k + 1) acc' S' h hok ?_ ?_
    · intro i y acc2 S2 N e hI hN
      refine hs (i + 1) y acc2 S2 N e ?_ ?_
      · rw [show k + (i + 1) = k + 1 + i by omega]; exact hI
      · intro acc3 S3 h3
        exact hN acc3 S3 (by rw [show k + 1 + i + 1 = k + (i + 1) + 1 by omega]; exact h3)
    · intro acc2 S2 h2
      exact hd acc2 S2 (by rw [List.length_cons, show k + (xs.length + 1) = k + 1 + xs.length by omega]; exact h2)
end Mi
namespace Mi
open PySem PySem.Spec PyProof.Rows L2
theorem bIx_set {xs : List MV} {a : Addr} {i : Int} {S : Sto} {Q : QE} : bIx (.m a) (.d (.int i)) (sset S a (.lst xs)) Q = ∃ v, atI xs i = some v ∧ Q v (sset S a (.lst xs)) := bIx_m sset_same
theorem lenV_set {S : Sto} {a : Addr} {xs : List MV} (n : Nat) : lenV (sset S a (.lst xs)) (.m a) n = (n = xs.length) := lenV_m sset_same n
theorem ixN_21 : ixN 2 1 = some 1 := rfl
theorem ixN_20 : ixN 2 0 = some 0 := rfl
theorem atI_some {α : Type} {xs : List α} {i : Int} (h0 : 0 ≤ i) (h : i < xs.length) : atI xs i = some (xs[i.toNat]'(by omega)) := by
  rw [atI_int h0, List.getElem?_eq_getElem]
theorem atI_lt {α : Type} {xs : List α} {i : Int} (h0 : 0 ≤ i) (h : i < xs.length) : ∃ v, v ∈ xs ∧ atI xs i = some v := ⟨_, List.getElem_mem _, atI_some h0 h⟩
theorem set_1 {α : Type} {a b c : α} : [a, b].set 1 c = [a, c] := rfl
end Mi
namespace Mi
open PySem PySem.Spec PyProof.Rows L2
theorem rng_some {lo : Int} {n i : Nat} {x : MV} (h : (rng lo n)[i]? = some x) : i < n ∧ x = .d (.int (lo + (i : Nat))) := by
  have hi : i < n := by
    have := (List.getElem?_eq_some_iff.mp h).1
    rwa [rng_length] at this
  rw [rng_get hi] at h
  cases h
  exact ⟨hi, rfl⟩
end Mi
namespace Mi
open PySem PySem.Spec PyProof.Rows L2

/-! ### small data: how deep, how large -/
structure Sm (D B : Nat) (x : PyData) : Prop where
  lay : x.canLay0 = true
  deep : x.depth ≤ D
  show' : x.showable = true
  short : x.leavesShort 13 = true
  bulk : x.bulk ≤ B
theorem Sm.mono {D B D' B' : Nat} {x : PyData} (h : Sm D B x) (h1 : D ≤ D') (h2 : B ≤ B') : Sm D' B' x := ⟨h.lay, Nat.le_trans h.deep h1, h.show', h.short, Nat.le_trans h.bulk h2⟩
theorem Sm.fine {D B : Nat} {x : PyData} (h : Sm D B x) (h1 : D ≤ 64) (h2 : B ≤ 2 ^ 20) : Fine x :=
  ⟨h.lay, Nat.le_trans h.deep h1, h.show', PyData.shown_fits_bulk (B := 13) (by decide) (by decide) h.short (Nat.le_trans h.bulk h2)⟩
theorem Sm.shaped {D B : Nat} {x : PyData} (h : Sm D B x) (h1 : D ≤ 64) : SeqAt.shaped x = true := by
  unfold SeqAt.shaped
  rw [h.lay, decide_eq_true (Nat.le_trans h.deep h1)]
  rfl
theorem sm_none : Sm 0 0 .none := ⟨by simp [PyData.canLay0], by simp [PyData.depth], by simp [PyData.showable], by simp [PyData.leavesShort], by simp [PyData.bulk]⟩
theorem sm_bool (b : Bool) : Sm 0 0 (.bool b) := ⟨by simp [PyData.canLay0], by simp [PyData.depth], by simp [PyData.showable], by simp [PyData.leavesShort], by simp [PyData.bulk]⟩
theorem sm_int {i : Int} (h1 : -999999999999 ≤ i) (h2 : i ≤ 999999999999) : Sm 0 0 (.int i) := by
  refine ⟨by simp [PyData.canLay0], by simp [PyData.depth], ?_, ?_, by simp [PyData.bulk]⟩
  · unfold PyData.showable
    exact decide_eq_true (log2_small (Nat.lt_of_lt_of_le (show i.natAbs < 2 ^ 40 by omega) (Nat.pow_le_pow_right (by decide) (by decide))))
  · unfold PyData.leavesShort
    exact decide_eq_true (PyData.shown_int_le2 h1 h2)
theorem sm_str {z : Str} (h : z.cps.all (· < 0x110000) = true) : Sm 0 z.cps.size (.str z) := by
  refine ⟨?_, by simp [PyData.depth], by simp [PyData.showable], ?_, by simp [PyData.bulk]⟩
  · unfold PyData.canLay0
    exact h
  · unfold PyData.leavesShort
    rw [List.all_eq_true]
    intro c hc
    have hm : c ∈ z.cps := by simpa using hc
    have := (Array.all_eq_true_iff_forall_mem.mp h) c hm
    have h2 : c < 0x110000 := of_decide_eq_true this
    exact decide_eq_true (by omega)
theorem sm_all {D B : Nat} : ∀ {xs : List PyData}, (∀ x ∈ xs, Sm D B x) → PyData.canLayAll0 xs = true ∧ PyData.depthAll xs ≤ D ∧ PyData.showableAll xs = true ∧ PyData.leavesShortAll 13 xs = true ∧ PyData.bulkAll xs ≤ xs.length * (B + 1)
  | [], _ => by simp [PyData.canLayAll0, PyData.depthAll, PyData.showableAll, PyData.leavesShortAll, PyData.bulkAll]
  | x :: xs, h => by
    obtain ⟨h1, h2, h3, h4, h5⟩ := sm_all (xs := xs) fun y hy => h y (List.mem_cons_of_mem _ hy)
    have hx := h x List.mem_cons_self
    refine ⟨?_, ?_, ?_, ?_, ?_⟩
    · unfold PyData.canLayAll0; rw [hx.lay, h1]; rfl
    · unfold PyData.depthAll; have := hx.deep; omega
    · unfold PyData.showableAll; rw [hx.show', h3]; rfl
    · unfold PyData.leavesShortAll; rw [hx.short, h4]; rfl
    · unfold PyData.bulkAll
      rw [List.length_cons, Nat.succ_mul]
      have := hx.bulk
      omega
theorem sm_tuple {D B : Nat} {xs : List PyData} (h : ∀ x ∈ xs, Sm D B x) : Sm (D + 1) (xs.length * (B + 1)) (.tuple xs) := by
  obtain ⟨h1, h2, h3, h4, h5⟩ := sm_all h
  exact ⟨by unfold PyData.canLay0; exact h1, by unfold PyData.depth; omega, by unfold PyData.showable; exact h3, by unfold PyData.leavesShort; exact h4, by unfold PyData.bulk; exact h5⟩
theorem sm_list {D B : Nat} {xs : List PyData} (h : ∀ x ∈ xs, Sm D B x) : Sm (D + 1) (xs.length * (B + 1)) (.list xs) := by
  obtain ⟨h1, h2, h3, h4, h5⟩ := sm_all h
  exact ⟨by unfold PyData.canLay0; exact h1, by unfold PyData.depth; omega, by unfold PyData.showable; exact h3, by unfold PyData.leavesShort; exact h4, by unfold PyData.bulk; exact h5⟩
/-- of so many items at most -/
theorem sm_tupleN {D B n : Nat} {xs : List PyData} (h : ∀ x ∈ xs, Sm D B x) (hn : xs.length ≤ n) : Sm (D + 1) (n * (B + 1)) (.tuple xs) := (sm_tuple h).mono (Nat.le_refl _) (Nat.mul_le_mul_right _ hn)
theorem sm_listN {D B n : Nat} {xs : List PyData} (h : ∀ x ∈ xs, Sm D B x) (hn : xs.length ≤ n) : Sm (D + 1) (n * (B + 1)) (.list xs) := (sm_list h).mono (Nat.le_refl _) (Nat.mul_le_mul_right _ hn)
theorem sm_ints {xs : List Int} (h : ∀ i ∈ xs, -999999999999 ≤ i ∧ i ≤ 999999999999) : ∀ x ∈ xs.map PyData.int, Sm 0 0 x := by
  intro x hx
  obtain ⟨i, hi, rfl⟩ := List.mem_map.mp hx
  exact sm_int (h i hi).1 (h i hi).2

/-! ### == of data: at data without bools it is equality -/
mutual
theorem eqv_refl : ∀ x : PyData, x.hasDict = false → PyData.eqv x x = true
  | .none, _ => by simp [PyData.eqv]
  | .bool b, _ => by simp [PyData.eqv]
  | .int i, _ => by simp [PyData.eqv]
  | .str z, _ => by simp [PyData.eqv]
  | .list xs, h => by
    unfold PyData.eqv
    exact eqv_reflAll xs (by simpa [PyData.hasDict] using h)
  | .tuple xs, h => by
    unfold PyData.eqv
    exact eqv_reflAll xs (by simpa [PyData.hasDict] using h)
  | .dict _, h => by simp [PyData.hasDict] at h
theorem eqv_reflAll : ∀ xs : List PyData, PyData.hasDictAll xs = false → PyData.eqvAll xs xs = true
  | [], _ => by simp [PyData.eqvAll]
  | x :: xs, h => by
    have h' : x.hasDict = false ∧ PyData.hasDictAll xs = false := by simpa [PyData.hasDictAll] using h
    unfold PyData.eqvAll
    rw [eqv_refl x h'.1, eqv_reflAll xs h'.2]
    rfl
end
end Mi
namespace Mi
open PySem PySem.Spec PyProof.Rows L2
theorem zipD_map {α β : Type} (f : α → PyData) (g : β → PyData) : ∀ (xs : List α) (ys : List β), zipD (xs.map f) (ys.map g) = (List.zip xs ys).map fun p => .d (.tuple [f p.1, g p.2])
  | [], ys => by cases ys <;> rfl
  | x :: xs, [] => rfl
  | x :: xs, y :: ys => by
    have ih := zipD_map f g xs ys
    unfold zipD at ih ⊢
    rw [List.map_cons, List.map_cons, List.zip_cons_cons, List.map_cons, ih]
    rfl
theorem allD_of {α : Type} (f : α → PyData) (xs : List α) : allD (xs.map fun x => .d (f x)) = some (xs.map f) := by
  rw [← allD_map (xs.map f), List.map_map]
  rfl
theorem bools_of {α : Type} (f : α → Bool) (xs : List α) : bools ((xs.map fun x => PyData.bool (f x)).map .d) = some (xs.map f) := by
  rw [← bools_map (xs.map f), List.map_map, List.map_map]
  rfl
theorem filt_true {α : Type} (xs : List α) : xs.filter (fun _ => true) = xs := List.filter_eq_self.mpr fun _ _ => rfl
theorem rng_map (lo : Int) (n : Nat) : rng lo n = (List.range n).map fun i => .d (.int (lo + (i : Nat))) := rfl
end Mi
namespace Mi
open PySem PySem.Spec PyProof.Rows L2
theorem zip_range {α β : Type} (a : α) (b : β) (xs : List α) (ys : List β) (h : xs.length = ys.length) : List.zip xs ys = (List.range xs.length).map fun i => (xs.getD i a, ys.getD i b) := by
  apply List.ext_getElem?
  intro i
  by_cases hi : i < xs.length
  · have hj : i < ys.length := by omega
    have e : (List.zip xs ys)[i]? = some (xs[i], ys[i]) := List.getElem?_zip_eq_some.mpr ⟨by simp [hi], by simp [hj]⟩
    rw [e, List.getElem?_map, List.getElem?_range hi]
    simp [List.getD, hi, hj]
  · exact (List.getElem?_eq_none (by rw [List.length_zip]; exact Nat.le_trans (Nat.min_le_left _ _) (by omega))).trans (List.getElem?_eq_none (by rw [List.length_map, List.length_range]; omega)).symm
theorem map_range {α : Type} (a : α) (xs : List α) : (List.range xs.length).map (fun i => xs.getD i a) = xs := by
  apply List.ext_getElem?
  intro i
  by_cases hi : i < xs.length
  · rw [List.getElem?_map, List.getElem?_range hi]
    simp [List.getD, hi]
  · exact (List.getElem?_eq_none (by rw [List.length_map, List.length_range]; omega)).trans (List.getElem?_eq_none (by omega)).symm
theorem atI_getD {xs : List Int} {i : Nat} (h : i < xs.length) : atI xs (0 + (i : Int)) = some (xs.getD i 0) := by
  rw [Int.zero_add, atI_nat']
  simp [List.getD, h]
theorem isEmpty_filter {α : Type} (p : α → Bool) : ∀ xs : List α, (xs.filter p).isEmpty = xs.all fun x => !p x
  | [] => rfl
  | x :: xs => by
    rw [List.filter_cons, List.all_cons, ← isEmpty_filter p xs]
    cases p x <;> rfl
theorem eqv_nil (xs : List PyData) : PyData.eqv (.list xs) (.list []) = xs.isEmpty := by
  cases xs <;> simp [PyData.eqv, PyData.eqvAll]
end Mi
namespace Mi
theorem getD_mem {xs : List Int} {i : Nat} (h : i < xs.length) : xs.getD i 0 ∈ xs := by
  simp [List.getD, h]
end Mi
namespace Mi
open PySem PySem.Spec PyProof.Rows L2

/-! ### < <= > >= of data that are alike -/
def okLt (a b : PyData) : Prop := PySem.W.alike a b = true ∧ a ≠ .none ∧ SeqAt.shaped a = true ∧ SeqAt.shaped b = true
def bCmp (fi : Int → Int → Bool) (fd : PyData → PyData → Bool) : B2 := fun x y S Q => match x, y with
  | .d (.int i), .d (.int j) => Q (.d (.bool (fi i j))) S
  | x, y => ∃ a b, datOf S x = some a ∧ datOf S y = some b ∧ okLt a b ∧ Q (.d (.bool (fd a b))) S
abbrev bLtA : B2 := bCmp (fun i j => decide (i < j)) fun a b => PySem.W.dataLt a b
abbrev bLeA : B2 := bCmp (fun i j => decide (i ≤ j)) fun a b => !PySem.W.dataLt b a
abbrev bGtA : B2 := bCmp (fun i j => decide (j < i)) fun a b => PySem.W.dataLt b a
abbrev bGeA : B2 := bCmp (fun i j => decide (j ≤ i)) fun a b => !PySem.W.dataLt a b
def rCmpD (K : PySem.W.Frag) (f : PyData → PyData → Bool) : R2 := fun x y H Q => ∃ d e, Dp K H x d ∧ Dp K H y e ∧ okLt d e ∧ Q (.bl (f d e)) H
theorem deep_of {x : PyData} (h : SeqAt.shaped x = true) : x.depth ≤ 64 := by
  unfold SeqAt.shaped at h
  rw [Bool.and_eq_true] at h
  exact of_decide_eq_true h.2
theorem op_ltD {X : Cx} (hu : X.A.units + 64 < cLine) : OpR X (compareOp .Lt) (rCmpD X.K fun a b => PySem.W.dataLt a b) := by
  intro pins s σ H x y v u Q I rx ry h
  obtain ⟨d, e, hd, he, ⟨o1, o2, o3, o4⟩, q⟩ := h
  obtain ⟨as, r1⟩ := Dp.reads I d x v hd rx
  obtain ⟨bs, r2⟩ := Dp.reads I e y u he ry
  exact PySem.W.lt_data r1 r2 o1 o2 (by have := deep_of o3; omega) ⟨.bl _, H, I, rfl, q⟩
theorem op_gtD {X : Cx} (hu : X.A.units + 64 < cLine) : OpR X (compareOp .Gt) (rCmpD X.K fun a b => PySem.W.dataLt b a) := by
  intro pins s σ H x y v u Q I rx ry h
  obtain ⟨d, e, hd, he, ⟨o1, o2, o3, o4⟩, q⟩ := h
  obtain ⟨as, r1⟩ := Dp.reads I d x v hd rx
  obtain ⟨bs, r2⟩ := Dp.reads I e y u he ry
  exact PySem.W.gt_data r1 r2 o1 o2 (by have := deep_of o3; omega) ⟨.bl _, H, I, rfl, q⟩
theorem op_leD {X : Cx} (hu : X.A.units + 64 < cLine) : OpR X (compareOp .LtE) (rCmpD X.K fun a b => !PySem.W.dataLt b a) := by
  intro pins s σ H x y v u Q I rx ry h
  obtain ⟨d, e, hd, he, ⟨o1, o2, o3, o4⟩, q⟩ := h
  obtain ⟨as, r1⟩ := Dp.reads I d x v hd rx
  obtain ⟨bs, r2⟩ := Dp.reads I e y u he ry
  exact PySem.W.le_data r1 r2 o1 o2 (by have := deep_of o3; omega) ⟨.bl _, H, I, rfl, q⟩
theorem op_geD {X : Cx} (hu : X.A.units + 64 < cLine) : OpR X (compareOp .GtE) (rCmpD X.K fun a b => !PySem.W.dataLt a b) := by
  intro pins s σ H x y v u Q I rx ry h
  obtain ⟨d, e, hd, he, ⟨o1, o2, o3, o4⟩, q⟩ := h
  obtain ⟨as, r1⟩ := Dp.reads I d x v hd rx
  obtain ⟨bs, r2⟩ := Dp.reads I e y u he ry
  exact PySem.W.ge_data r1 r2 o1 o2 (by have := deep_of o3; omega) ⟨.bl _, H, I, rfl, q⟩
def rCmpA (K : PySem.W.Frag) (g : Int → Int → V) (f : PyData → PyData → Bool) : R2 := fun x y H Q => rI0 g x y H Q ∨ rCmpD K f x y H Q
theorem op_ltA {X : Cx} (hu : X.A.units + 64 < cLine) : OpR X (compareOp .Lt) (rCmpA X.K (fun i j => .bl (decide (i < j))) fun a b => PySem.W.dataLt a b) := op_lt.or (op_ltD hu)
theorem op_leA {X : Cx} (hu : X.A.units + 64 < cLine) : OpR X (compareOp .LtE) (rCmpA X.K (fun i j => .bl (decide (i ≤ j))) fun a b => !PySem.W.dataLt b a) := op_le.or (op_leD hu)
theorem op_gtA {X : Cx} (hu : X.A.units + 64 < cLine) : OpR X (compareOp .Gt) (rCmpA X.K (fun i j => .bl (decide (j < i))) fun a b => PySem.W.dataLt b a) := op_gt.or (op_gtD hu)
theorem op_geA {X : Cx} (hu : X.A.units + 64 < cLine) : OpR X (compareOp .GtE) (rCmpA X.K (fun i j => .bl (decide (j ≤ i))) fun a b => !PySem.W.dataLt a b) := op_ge.or (op_geD hu)
section
variable {K : PySem.W.Frag}
theorem sim_cmpA {fi : Int → Int → Bool} {f : PyData → PyData → Bool} : SimR2 K (rCmpA K (fun i j => .bl (fi i j)) f) (bCmp fi f) := fun x y vx vy S T H Qm Q k rx ry o q => by
  unfold bCmp at q
  split at q
  · cases rx; cases ry
    exact .inl ⟨_, _, rfl, rfl, o (.d (.bool _)) _ S H Ev.rfl' k (Dp.bl _) q⟩
  · obtain ⟨a, b, ea, eb, ok, q⟩ := q
    exact .inr ⟨a, b, rv_dat k rx ea, rv_dat k ry eb, ok, o (.d (.bool _)) _ S H Ev.rfl' k (Dp.bl _) q⟩
theorem sim_ltA : SimR2 K (rCmpA K (fun i j => .bl (decide (i < j))) fun a b => PySem.W.dataLt a b) bLtA := sim_cmpA
theorem sim_leA : SimR2 K (rCmpA K (fun i j => .bl (decide (i ≤ j))) fun a b => !PySem.W.dataLt b a) bLeA := sim_cmpA
theorem sim_gtA : SimR2 K (rCmpA K (fun i j => .bl (decide (j < i))) fun a b => PySem.W.dataLt b a) bGtA := sim_cmpA
theorem sim_geA : SimR2 K (rCmpA K (fun i j => .bl (decide (j ≤ i))) fun a b => !PySem.W.dataLt a b) bGeA := sim_cmpA
end
/-! what the order of tuples is -/
theorem lt_nil_nil : PySem.W.dataLt (.tuple []) (.tuple []) = false := by
  rw [PySem.W.dataLt_tuple]; rfl
theorem lt_nil_cons (y : PyData) (ys : List PyData) : PySem.W.dataLt (.tuple []) (.tuple (y :: ys)) = true := by
  rw [PySem.W.dataLt_tuple, PySem.W.toks_all_cons, PySem.W.keyToksAll]
  exact (PySem.W.lex_atom (by simp) _ _).trans (by decide)
theorem lt_cons_nil (x : PyData) (xs : List PyData) : PySem.W.dataLt (.tuple (x :: xs)) (.tuple []) = false := by
  rw [PySem.W.dataLt_tuple, PySem.W.toks_all_cons, PySem.W.keyToksAll]
  exact (PySem.W.lex_atom (by simp) _ _).trans (by decide)
theorem lt_cons {x y : PyData} (h : PySem.W.alike x y = true) (xs ys : List PyData) : PySem.W.dataLt (.tuple (x :: xs)) (.tuple (y :: ys)) = if PyData.eqv x y = true then PySem.W.dataLt (.tuple xs) (.tuple ys) else PySem.W.dataLt x y := by
  rw [PySem.W.dataLt_tuple, PySem.W.dataLt_tuple]
  cases e : PyData.eqv x y with
  | true => rw [PySem.W.dataLt_all_yes h e]; rfl
  | false => rw [PySem.W.dataLt_all_no h e]; rfl
end Mi
namespace Mi
open PySem PySem.Spec PyProof.Rows L2
/-! ### max of a list of ints -/
def iMV (xs : List Int) : List MV := xs.map fun i => .d (.int i)
def bMaxL : BL := fun rs S Q => match rs with
  | [x] => ∃ ns : List Int, lstOf S x = some (iMV ns) ∧ 0 < ns.length ∧ ∀ m, m ∈ ns → (∀ y, y ∈ ns → y ≤ m) → Q (.d (.int m)) S
  | _ => False
theorem rvs_ints {K : PySem.W.Frag} {U : Sto} {H : Hp} : ∀ {ns : List Int} {vs : List V}, RVs K U H (iMV ns) vs → vs = ns.map V.int
  | [], _, h => by cases h; rfl
  | n :: ns, _, h => by
    cases h with
    | cons h1 h2 =>
      cases h1
      rw [rvs_ints h2, List.map_cons]
section
variable {K : PySem.W.Frag} {X : Cx}
theorem call_maxL (hc : X.calm = true) : CallR X (.builtin "max") (rMax X.K) := cr_max hc
theorem sim_maxL : SimRL K (rMax K) bMaxL := fun xs vs S T H Qm Q k r o q => by
  unfold bMaxL at q
  split at q
  · obtain ⟨ns, e, hl, q⟩ := q
    cases r with
    | cons rx rt =>
      cases rt
      obtain ⟨a, ws, rfl, h, rr⟩ := rv_lst k rx e
      rw [rvs_ints rr] at h
      exact ⟨a, ns, rfl, h, hl, fun m hm hy => o (.d (.int m)) _ S H Ev.rfl' k (Dp.int m) (q m hm hy)⟩
  · exact q.elim

/-! ### sorted of data -/
/-- data sorted by Python's order -/
def srt (ds : List PyData) : List PyData := ds.mergeSort (PySem.W.dataLe false id)
def okSrt (ds : List PyData) : Prop := PySem.W.AllAlike ds ∧ PySem.W.Sortable ds ∧ ∀ d ∈ ds, d.depth ≤ 64
def rSortedA (K : PySem.W.Frag) : List V → Hp → VK → Prop := fun vs H Q => ∃ a xs ds, vs = [.ref a] ∧ SqL K H a xs ∧ DpAll K H xs ds ∧ okSrt ds ∧
  ∀ p, H p = none → Q (.ref p) (upd H p (.lst (((xs.zip ds).mergeSort (PySem.W.dataLe false Prod.snd)).map Prod.fst)))
theorem dp_readsAll {pins : List (Addr × Obj)} {σ : L2.St} {H : Hp} {s : Shared} (I : Inv X pins σ H s) : ∀ {xs : List V} {ds : List PyData} {us : List Value}, DpAll X.K H xs ds → Vals xs us →
    PySem.W.EachIs (fun v (b : V × PyData) => RelV b.1 v ∧ Dp X.K H b.1 b.2) us (xs.zip ds) ∧ PySem.W.EachIs (fun v (b : V × PyData) => ∃ as, Reads s.heap v b.2 as) us (xs.zip ds)
  | _, _, _, .nil, h => by cases h; exact ⟨.nil, .nil⟩
  | _, _, _, .cons h1 h2, h => by
    cases h with
    | cons r t =>
      obtain ⟨e1, e2⟩ := dp_readsAll I h2 t
      exact ⟨.cons ⟨r, h1⟩ e1, .cons (Dp.reads I _ _ _ h1 r) e2⟩
theorem zip_snd {α β : Type} : ∀ {xs : List α} {ys : List β}, xs.length = ys.length → (xs.zip ys).map Prod.snd = ys
  | [], [], _ => rfl
  | x :: xs, y :: ys, h => by
    rw [List.zip_cons_cons, List.map_cons, zip_snd (by simpa using h)]
  | [], _ :: _, h => by simp at h
  | _ :: _, [], h => by simp at h
theorem each_back {K : PySem.W.Frag} {H : Hp} : ∀ {us : List Value} {bs : List (V × PyData)}, PySem.W.EachIs (fun v (b : V × PyData) => RelV b.1 v ∧ Dp K H b.1 b.2) us bs → Vals (bs.map Prod.fst) us
  | _, _, .nil => .nil
  | _, _, .cons h t => .cons h.1 (each_back t)
theorem dp_zip {K : PySem.W.Frag} {H : Hp} : ∀ {xs : List V} {ds : List PyData}, DpAll K H xs ds → ∀ b ∈ xs.zip ds, Dp K H b.1 b.2
  | _, _, .nil, _, h => nomatch h
  | _, _, .cons h1 h2, b, h => by
    rw [List.zip_cons_cons] at h
    rcases List.mem_cons.mp h with e | h
    · rw [e]; exact h1
    · exact dp_zip h2 b h
theorem dp_unzip {K : PySem.W.Frag} {H : Hp} : ∀ {bs : List (V × PyData)}, (∀ b ∈ bs, Dp K H b.1 b.2) → DpAll K H (bs.map Prod.fst) (bs.map Prod.snd)
  | [], _ => .nil
  | b :: bs, h => .cons (h b List.mem_cons_self) (dp_unzip fun c hc => h c (List.mem_cons_of_mem _ hc))
theorem srt_zip {xs : List V} {ds : List PyData} (h : xs.length = ds.length) : ((xs.zip ds).mergeSort (PySem.W.dataLe false Prod.snd)).map Prod.snd = srt ds := by
  have e := List.map_mergeSort (r := PySem.W.dataLe false Prod.snd) (s := PySem.W.dataLe false id) (f := Prod.snd) (l := xs.zip ds) (fun _ _ _ _ => rfl)
  rw [e, zip_snd h]
  rfl
theorem call_sortedA (hu : X.A.units + 70 < cLine) : CallR X (.builtin "sorted") (rSortedA X.K) := by
  intro pins s σ H vs us Q I r h
  obtain ⟨a, xs, ds, rfl, hs, hd, ⟨o1, o2, o3⟩, q⟩ := h
  obtain ⟨its, rv, hl, hz⟩ := I.list hs
  rw [Vals.ref1 r]
  obtain ⟨e1, e2⟩ := dp_readsAll I hd rv
  have hlen := dpAll_len hd
  have em : (xs.zip ds).map Prod.snd = ds := zip_snd hlen
  refine PySem.W.sorted_data (enc := Prod.snd) hl.isList e1 e2 (by rw [em]; exact o1) (by rw [em]; exact o2) (by rw [List.length_zip]; omega) ?_ ?_
  · intro b hb
    have : b.2 ∈ ds := by rw [← em]; exact List.mem_map.mpr ⟨b, hb, rfl⟩
    have := o3 _ this
    omega
  · intro out ho eo
    have h1 := each_back eo
    obtain ⟨ep, he'⟩ := PyProof.Rows.sortedAll_at s.heap its (List.toArray out)
    refine ⟨.ref _, upd H (s.heap.objs.size + 1) (.lst (((xs.zip ds).mergeSort (PySem.W.dataLe false Prod.snd)).map Prod.fst)), I.laid (t' := s.toks) (fun _ _ => PyProof.Rows.sortedAll_old) (Nat.le_succ _) ⟨?_, out, ep, h1, he'⟩, rfl, q _ (I.hok.fresh (Nat.le_succ _))⟩
    rw [List.length_map, List.length_mergeSort, List.length_zip]
    omega
def bSortG (fin : List MV → Sto → QE → Prop) : BL := fun rs S Q => match rs with
  | [x] => ∃ xs ds, lstOf S x = some xs ∧ allD xs = some ds ∧ okSrt ds ∧ fin ((srt ds).map .d) S Q
  | _ => False
abbrev bSorted : BL := bSortG finD
theorem sim_sorted : SimRL K (rSortedA K) bSorted := fun xs vs S T H Qm Q k r o q => by
  unfold bSorted bSortG at q
  split at q
  · obtain ⟨ys, ds, e, ed, ok, zs, ez, q⟩ := q
    rw [allD_map] at ez
    cases ez
    cases r with
    | cons rx rt =>
      cases rt
      obtain ⟨a, ws, rfl, h, rr⟩ := rv_lst k rx e
      have dd := rr.all ed
      refine ⟨a, ws, ds, rfl, h, dpAll_mono fz_same _ _ dd, ok, fun p np => ?_⟩
      have hl := dpAll_len dd
      have dd2 := dp_unzip (K := K) (H := Fz (cat S T) H) (bs := (ws.zip ds).mergeSort (PySem.W.dataLe false Prod.snd)) fun b hb => dp_zip dd b ((List.mergeSort_perm _ _).mem_iff.mp hb)
      rw [srt_zip hl] at dd2
      exact o (.d (.list (srt ds))) _ S _ (ev_new np) (k.new np) (new_lst k np dd2) q
  · exact q.elim
end
end Mi
namespace Mi
open PySem PySem.Spec PyProof.Rows L2
/-! ### instances in the store -/
abbrev Fs := List (Str × MV)
def putM (f : Str) (v : MV) : Fs → Fs
  | [] => [(f, v)]
  | (k, x) :: r => if k = f then (k, v) :: r else (k, x) :: putM f v r
abbrev FP (K : PySem.W.Frag) (U : Sto) (H : Hp) : Str × MV → Str × V → Prop := fun p q => p.1 = q.1 ∧ RV K U H p.2 q.2
section
variable {K : PySem.W.Frag} {S T U : Sto} {H : Hp}
theorem fs_look {f : Str} {v : MV} : ∀ {fs : Fs} {gs : List (Str × V)}, Paired (FP K U H) fs gs → fs.lookup f = some v → ∃ w, gs.lookup f = some w ∧ RV K U H v w
  | _, _, .nil, e => by cases e
  | (k, x) :: fs, (k', y) :: gs, .cons h t, e => by
    obtain ⟨h1, h2⟩ := h
    simp only at h1 h2
    subst h1
    by_cases q : (f == k) = true
    · simp only [List.lookup, q] at e ⊢
      cases e
      exact ⟨y, rfl, h2⟩
    · have q' : (f == k) = false := by simpa using q
      simp only [List.lookup, q'] at e ⊢
      exact fs_look t e
theorem fs_none {f : Str} : ∀ {fs : Fs} {gs : List (Str × V)}, Paired (FP K U H) fs gs → fs.lookup f = none → gs.lookup f = none
  | _, _, .nil, _ => rfl
  | (k, x) :: fs, (k', y) :: gs, .cons h t, e => by
    obtain ⟨h1, _⟩ := h
    simp only at h1
    subst h1
    by_cases q : (f == k) = true
    · simp only [List.lookup, q] at e
      cases e
    · have q' : (f == k) = false := by simpa using q
      simp only [List.lookup, q'] at e ⊢
      exact fs_none t e
theorem fs_put {f : Str} {v : MV} {w : V} (r : RV K U H v w) : ∀ {fs : Fs} {gs : List (Str × V)}, Paired (FP K U H) fs gs → Paired (FP K U H) (putM f v fs) (putF f w gs)
  | _, _, .nil => .cons ⟨rfl, r⟩ .nil
  | (k, x) :: fs, (k', y) :: gs, .cons h t => by
    obtain ⟨h1, h2⟩ := h
    simp only at h1 h2
    subst h1
    unfold putM putF
    by_cases q : k = f
    · rw [if_pos q, if_pos q]
      exact .cons ⟨rfl, r⟩ t
    · rw [if_neg q, if_neg q]
      exact .cons ⟨rfl, h2⟩ (fs_put r t)
theorem fs_len : ∀ {fs : Fs} {gs : List (Str × V)}, Paired (FP K U H) fs gs → fs.length = gs.length := fun h => Paired.length h
theorem Rp.newI (r : Rp K U H) {p C dx : Addr} {fs : Fs} {gs : List (Str × V)} (n : H p = none) (h : Paired (FP K U H) fs gs) : Rp K (sset U p (.ins C fs)) (upd H p (.ins C dx gs)) := r.put (ev_newS n) ⟨dx, gs, rfl, h⟩
theorem Rp.setI (r : Rp K U H) {p C dx : Addr} {q : MO} {fs : Fs} {gs : List (Str × V)} (hp : U p = some q) (h : Paired (FP K U H) fs gs) : Rp K (sset U p (.ins C fs)) (upd H p (.ins C dx gs)) := r.put (ev_set hp) ⟨dx, gs, rfl, h⟩
theorem Ok.noT (k : Ok K S T H) {a : Addr} {o : MO} (e : S a = some o) : T a = none := by
  cases q : T a with
  | none => rfl
  | some u => have := k.dj a u q; rw [e] at this; cases this
theorem Ok.ins (k : Ok K S T H) {a C : Addr} {fs : Fs} (e : S a = some (.ins C fs)) : ∃ dx gs, H a = some (.ins C dx gs) ∧ Paired (FP K (cat S T) H) fs gs :=
  k.rp.ins a C fs (by rw [cat_none (k.noT e)]; exact e)
theorem Ok.setI (k : Ok K S T H) {a C dx : Addr} {fs ys : Fs} {ws : List (Str × V)} (e : S a = some (.ins C fs)) (h : Paired (FP K (cat S T) H) ys ws) :
    Ok K (sset S a (.ins C ys)) T (upd H a (.ins C dx ws)) ∧ Ev (cat S T) H (cat (sset S a (.ins C ys)) T) (upd H a (.ins C dx ws)) := by
  have hT := k.noT e
  have hc : cat S T a = some (.ins C fs) := by rw [cat_none hT]; exact e
  rw [cat_sset hT]
  refine ⟨⟨by rw [cat_sset hT]; exact k.rp.setI hc h, fun b o q => ?_⟩, ev_set hc⟩
  have ne : b ≠ a := fun z => by rw [z, hT] at q; cases q
  rw [sset_ne ne]
  exact k.dj b o q
theorem Ok.newI (k : Ok K S T H) {p C dx : Addr} {fs : Fs} {gs : List (Str × V)} (n : H p = none) (h : Paired (FP K (cat S T) H) fs gs) :
    Ok K (sset S p (.ins C fs)) T (upd H p (.ins C dx gs)) ∧ Ev (cat S T) H (cat (sset S p (.ins C fs)) T) (upd H p (.ins C dx gs)) := by
  obtain ⟨h1, h2⟩ := k.free n
  rw [cat_sset h2]
  refine ⟨⟨by rw [cat_sset h2]; exact k.rp.newI n h, fun a o e => ?_⟩, ev_newS n⟩
  have ne : a ≠ p := fun z => by rw [z, h2] at e; cases e
  rw [sset_ne ne]
  exact k.dj a o e
end
/-! ### e.f, e.f = v -/
def eFld (C : Addr) (f : Str) (me : CE) : CE := fun ρ S Q X => me ρ S (fun x S1 => ∃ a fs v, x = .m a ∧ S1 a = some (.ins C fs) ∧ fs.lookup f = some v ∧ Q v S1) X
def cFld (C : Addr) (f : Str) (mo mv : CE) : CS := fun D ρ S => mv ρ S (fun y S1 => mo ρ S1 (fun x S2 => ∃ a fs, x = .m a ∧ S2 a = some (.ins C fs) ∧ fs.length < 1000 ∧ D.nx ρ (sset S2 a (.ins C (putM f y fs)))) (fun x S' => D.ex x ρ S')) (fun x S' => D.ex x ρ S')
section
variable {K : PySem.W.Frag} {W : WX} {te to : TE} {me mo : CE} {C : Addr} {f : Str}
theorem sim_fld (c : Cls K C) (nf : NoAttr K C f) (h : SimE K W te me) : SimE K W (tFld K te f) (eFld C f me) := fun ρ σ S T H Qm xm Q n k o ox q =>
  h ρ σ S T H _ xm _ n k (fun x vx S1 H1 e1 k1 rx ⟨a, fs, v, ex, ea, el, hq⟩ => by
    subst ex
    cases rx
    obtain ⟨dx, gs, hh, pp⟩ := k1.ins ea
    obtain ⟨w, hw, rw'⟩ := fs_look pp el
    exact ⟨a, C, dx, gs, w, rfl, hh, c, nf, hw, o v w S1 H1 e1 k1 rw' hq⟩) ox q
theorem sim_fldS {tv : TE} {mv : CE} (c : Cls K C) (nf : NoAttr K C f) (ho : SimE K W to mo) (hv : SimE K W tv mv) : SimS K W (sFld K to tv f) (cFld C f mo mv) := fun ρ σ S T H Dm D n k o q =>
  hv ρ σ S T H _ _ _ n k (fun y vy S1 H1 e1 k1 ry q1 => ho ρ σ S1 T H1 _ _ _ (n.ev e1) k1 (fun x vx S2 H2 e2 k2 rx ⟨a, fs, ex, ea, hl, hq⟩ => by
    subst ex
    cases rx
    obtain ⟨dx, gs, hh, pp⟩ := k2.ins ea
    have e12 := e1.trans e2
    obtain ⟨k3, e3⟩ := k2.setI (dx := dx) ea (fs_put (f := f) (ry.ev e2) pp)
    exact ⟨a, C, dx, gs, rfl, hh, c, nf, by rw [← fs_len pp]; exact hl, o.nx ρ σ _ _ (e12.trans e3) k3 (n.ev (e12.trans e3)) hq⟩) ((o.xe n).go e1) q1) (o.xe n) q
end

/-! ### o.m(..), C(..) -/
def tMethG (C : Addr) (m : Str) (sp : Sp) (E : L2.St → XK) (ta : TE) (t : TA) : TE := fun σ H Q => ta σ H fun x H1 => ∃ a dx fs, x = .ref a ∧ H1 a = some (.ins C dx fs) ∧ fs.lookup m = none ∧ t σ H1 fun vs H2 => sp (x :: vs) H2 Q (E σ)
section
variable {X : Cx} {CC : CXT} {k : Nat} {f C : Addr} {fd : FuncData} {ps : List Str} {sp : Sp} {E : L2.St → XK} {m x : Str} {p pos apos : Pos} {e o : Expr} {es : List Expr} {ta : TE} {t : TA} {pl : Sem Bool}
theorem pe_methG (he : PE X o ta) (c : Cls X.K C) (hm : Meth X.K C m f) (F : FnG X.prog X.w X.K X.mg X.base CC k f fd ps sp) (hg : X.A.guards = some []) (hr : Room k X.A) (hb : Binds X.K fd ps []) (hx : ∀ σ, PassesAt CC X σ (E σ))
    (ha : PA X (e :: es) t) (hst : starEach (e :: es) X.env = (false, eval e X.env) :: starEach es X.env := by rfl) (hpl : (backTo pos (starEach es X.env)).any (·.1) = false := by rfl)
    (ht : eval (.Call (.Attribute o m apos) (e :: es) [] pos) X.env = (do
      let ov ← eval o X.env
      standAt apos.atName
      let (g, first) ← holding [ov] (getMethod ov m pl)
      callWith pos g first (backTo pos (starEach (e :: es) X.env)) (backToKw pos (keywordEach [] X.env))) := by rfl) :
    PE X (.Call (.Attribute o m apos) (e :: es) [] pos) (tMethG C m sp E ta t) := by
  constructor
  intro pins s σ H Q I h
  refine PySem.W.methodCall_KW (pl := pl) (thn (he.run pins s σ H _ I h) ?_) ht
  rintro u s1 ⟨x, H1, I1, rx, a, dx, fs, rfl, ea, l, q⟩
  obtain rfl : u = Value.ref a := rx
  refine getmeth_ok I1 ea c hm l (PySem.W.callWith_K (first := [.ref a]) (h₀ := X.base) I1.ok.mod.kin hm.kp (thn (ha.run pos pins s1 σ H1 _ I1 q) ?_) hst hpl)
  rintro us s2 ⟨vs, H2, I2, r, q2⟩
  exact ⟨I2.kIn, run_fnG (us := .ref a :: us) (vs := .ref a :: vs) F hg hr hb (hx σ) I2 (.cons rfl r) q2⟩
theorem pe_methG0 (he : PE X o ta) (c : Cls X.K C) (hm : Meth X.K C m f) (F : FnG X.prog X.w X.K X.mg X.base CC k f fd ps sp) (hg : X.A.guards = some []) (hr : Room k X.A) (hb : Binds X.K fd ps []) (hx : ∀ σ, PassesAt CC X σ (E σ))
    (ht : eval (.Call (.Attribute o m apos) [] [] pos) X.env = (do
      let ov ← eval o X.env
      standAt apos.atName
      let (g, first) ← holding [ov] (getMethod ov m pl)
      callWith pos g first (backTo pos (starEach [] X.env)) (backToKw pos (keywordEach [] X.env))) := by rfl) :
    PE X (.Call (.Attribute o m apos) [] [] pos) (tMethG C m sp E ta tNil) := by
  constructor
  intro pins s σ H Q I h
  refine PySem.W.methodCall_KW (pl := pl) (thn (he.run pins s σ H _ I h) ?_) ht
  rintro u s1 ⟨x, H1, I1, rx, a, dx, fs, rfl, ea, l, q⟩
  obtain rfl : u = Value.ref a := rx
  exact getmeth_ok I1 ea c hm l (PySem.W.callWith_K0 (first := [.ref a]) I1.kIn hm.kp (run_fnG (us := [.ref a]) (vs := [.ref a]) F hg hr hb (hx σ) I1 (.cons rfl .nil) q))
theorem make_guards {A : Around} {us : List Value} {kw : List (Str × Value)} : (A.under (.builtin "type.__call__" ⟨.ref C :: us, kw⟩)).guards = A.guards := by
  first | rfl | simp [Around.under, Code.weight, Code.isCreation, Code.isGuard, Code.isCaller, Code.frames, Code.isFrame, guardIds]
def tMakeG (C : Addr) (sp : Sp) (E : L2.St → XK) (t : TA) : TE := fun σ H Q => t σ H fun vs H1 => ∀ x dx, H1 x = none → H1 dx = none → dx ≠ x →
  sp (.ref x :: vs) (upd (upd H1 dx (.own x)) x (.ins C dx [])) (fun v H2 => v = .non ∧ Q (.ref x) H2) (E σ)
theorem run_makeG {pins : List (Addr × Obj)} {σ : L2.St} {H : Hp} {s : Shared} {Q : VK} {us : List Value} {vs : List V} (M : Mk X.K C f) (F : FnG X.prog X.w X.K X.mg X.base CC k f fd ps sp) (hg : X.A.guards = some []) (hr : Room (k + 1) X.A) (hb : Binds X.K fd ps [])
    (hx : PassesAt CC X σ (E σ)) (I : Inv X pins σ H s) (r : Vals vs us) (h : ∀ x dx, H x = none → H dx = none → dx ≠ x → sp (.ref x :: vs) (upd (upd H dx (.own x)) x (.ins C dx [])) (fun v H2 => v = .non ∧ Q (.ref x) H2) (E σ)) :
    wpAny (model X.prog X.w) X.A (call (.ref C) us) (EP X pins σ Q) X.xe s := by
  have n := s.heap.objs.size
  have hq := h _ _ (I.hok.fresh (Nat.le_succ s.heap.objs.size)) (I.hok.fresh (Nat.le_refl s.heap.objs.size)) (Nat.ne_of_lt (Nat.lt_succ_self _))
  have J := Inv.made (C := C) I
  have rr : Vals (V.ref (s.heap.objs.size + 1) :: vs) (Value.ref (s.heap.objs.size + 1) :: us) := .cons rfl r
  have hl : (Value.ref (s.heap.objs.size + 1) :: us).length = ps.length := rr.length.symm.trans (F.len _ _ _ _ hq)
  have bd := hb _ (Value.ref (s.heap.objs.size + 1) :: us) J.kIn (by rw [List.append_nil]; exact hl)
  rw [List.append_nil] at bd
  have c := F.run _ X.stack _ _ ⟨Value.ref (s.heap.objs.size + 1) :: us, []⟩ _ _ _ (E σ) (make_guards.trans hg) (hr.make C us []) (J.env0.make C us []) bd rr hq
  refine wpAny_call (make_map (f := f) I.kIn M.makes M.init (beq_iff_eq.mp M.fn) (codeAny_mono c ?_))
  intro z s' w
  match z, w with
  | .error e, w => exact hx pins _ _ e s' J w
  | .ok (.ret u), w =>
    obtain ⟨v, H', J2, rv, ev, q3⟩ := J.after w
    subst ev
    refine ⟨rv, ?_⟩
    exact ⟨V.ref (s.heap.objs.size + 1), H', J2, rfl, q3⟩
  | .ok .next, w => exact w.elim
  | .ok .brk, w => exact w.elim
  | .ok .cont, w => exact w.elim
theorem pe_makeG (M : Mk X.K C f) (F : FnG X.prog X.w X.K X.mg X.base CC k f fd ps sp) (hg : X.A.guards = some []) (hr : Room (k + 1) X.A) (hgl : Gl X x) (hm : X.mg x = some (.ref C)) (hb : Binds X.K fd ps []) (hx : ∀ σ, PassesAt CC X σ (E σ))
    (ha : PA X (e :: es) t) (hdb : (x == ("__debug__" : Str)) = false := by decide) (he : starEach (e :: es) X.env = (false, eval e X.env) :: starEach es X.env := by rfl) (hpl : (backTo pos (starEach es X.env)).any (·.1) = false := by rfl) :
    PE X (.Call (.Name x p) (e :: es) [] pos) (tMakeG C sp E t) := by
  constructor
  intro pins s σ H Q I h
  refine wpAny_Call_Name_kw (ld_glob I hgl hm ?_ hdb)
  refine PySem.W.callWith_K (h₀ := X.base) I.ok.mod.kin M.kp (thn (ha.run pos pins s σ H _ I h) ?_) he hpl
  rintro us s1 ⟨vs, H1, I1, r, q⟩
  exact ⟨I1.kIn, run_makeG M F hg hr hb (hx σ) I1 r q⟩
theorem pe_makeG0 (M : Mk X.K C f) (F : FnG X.prog X.w X.K X.mg X.base CC k f fd ps sp) (hg : X.A.guards = some []) (hr : Room (k + 1) X.A) (hgl : Gl X x) (hm : X.mg x = some (.ref C)) (hb : Binds X.K fd ps []) (hx : ∀ σ, PassesAt CC X σ (E σ))
    (hdb : (x == ("__debug__" : Str)) = false := by decide) : PE X (.Call (.Name x p) [] [] pos) (tMakeG C sp E tNil) := by
  constructor
  intro pins s σ H Q I h
  refine wpAny_Call_Name_kw (ld_glob I hgl hm ?_ hdb)
  exact PySem.W.callWith_K0 I.kIn M.kp (run_makeG (us := []) M F hg hr hb (hx σ) I .nil h)
end
def eMeth (C : Addr) (m : Str) (n : Nat) (g : Fm) (mo : CE) (ma : CA) : CE := fun ρ S Q X => mo ρ S (fun x S1 => ∃ a fs, x = .m a ∧ S1 a = some (.ins C fs) ∧ fs.lookup m = none ∧ ma ρ S1 (fun rs S2 => rs.length = n ∧ g (x :: rs) S2 Q X) X) X
def eMake (C : Addr) (n : Nat) (g : Fm) (ma : CA) : CE := fun ρ S Q X => ma ρ S (fun rs S1 => rs.length = n ∧ ∀ p, S1 p = none → g (.m p :: rs) (sset S1 p (.ins C [])) (fun r S2 => r = .d .none ∧ Q (.m p) S2) X) X
section
variable {K : PySem.W.Frag} {W : WX} {to : TE} {mo : CE} {t : TA} {ma : CA} {C : Addr} {m : Str} {n : Nat} {g : Fm}
theorem sim_meth (ho : SimE K W to mo) (ha : SimA K W t ma) : SimE K W (tMethG C m (spOf K (n + 1) g) (WE W) to t) (eMeth C m n g mo ma) := fun ρ σ S T H Qm xm Q nn k o ox q =>
  ho ρ σ S T H _ xm _ nn k (fun x vx S1 H1 e1 k1 rx ⟨a, fs, ex, ea, el, hq⟩ => by
    subst ex
    cases rx
    obtain ⟨dx, gs, hh, pp⟩ := k1.ins ea
    refine ⟨a, dx, gs, rfl, hh, fs_none pp el, ?_⟩
    exact ha ρ σ S1 T H1 _ xm _ (nn.ev e1) k1 (fun rs vs S2 H2 e2 k2 rr h2 => ⟨.m a :: rs, S2, T, Qm, xm, by rw [List.length_cons, h2.1], .cons rfl rr, k2, o.go (e1.trans e2), ox.go (e1.trans e2), h2.2⟩) (ox.go e1) hq) ox q
theorem sim_make (ha : SimA K W t ma) : SimE K W (tMakeG C (spOf K (n + 1) g) (WE W) t) (eMake C n g ma) := fun ρ σ S T H Qm xm Q nn k o ox q =>
  ha ρ σ S T H _ xm _ nn k (fun rs vs S1 H1 e1 k1 rr ⟨hl, hq⟩ => by
    intro x dx nx nd ne
    have e2 : Ev (cat S1 T) H1 (cat S1 T) (upd H1 dx (.own x)) := ev_new nd
    have k2 : Ok K S1 T (upd H1 dx (.own x)) := k1.new nd
    have nx2 : upd H1 dx (.own x) x = none := by rw [upd_ne ne.symm]; exact nx
    obtain ⟨k3, e3⟩ := k2.newI (C := C) (dx := dx) (fs := []) (gs := []) nx2 .nil
    have e13 := e1.trans (e2.trans e3)
    refine ⟨.m x :: rs, _, T, fun r S2 => r = .d .none ∧ Qm (.m x) S2, xm, by rw [List.length_cons, hl], .cons rfl (rr.ev (e2.trans e3)), k3, ?_, ox.go e13, hq x (k1.free nx).1⟩
    intro r v S4 H4 e4 k4 rv ⟨er, h4⟩
    subst er
    cases rv
    exact ⟨rfl, o (.m x) _ S4 H4 (e13.trans e4) k4 rfl h4⟩) ox q
end
end Mi
namespace Mi
open PySem PySem.Spec PyProof.Rows L2
open PySem.W (ksFn ksEnv ks_superObj ks_superIn)

/-! ### an own error whose __init__ says super().__init__(f'..') and then self.f = f -/
structure SupSc (sc : Scope) (f : Str) : Prop where
  kind : sc.kind = .function
  co : sc.isCoroutine = false
  gen : sc.isGenerator = false
  self : sc.names.lookup ("self" : Str) = some .local
  fld : sc.names.lookup f = some .local
  sup : sc.names.lookup ("super" : Str) = some .globalImplicit
  cls : sc.names.lookup ("__class__" : Str) = some .free
  only : ∀ y ∈ sc.names, y.2 = .free → y.1 = ("__class__" : Str)
  nocell : ∀ y ∈ sc.names, y.2 ≠ .cell
  ne : f ≠ ("self" : Str)
  fd : (f == ("__debug__" : Str)) = false
  fc : (f == ("__classdict__" : Str)) = false
def supBody (f : Str) (ar : Expr) (p0 p1 p2 p3 p4 q1 q2 q3 q4 : Pos) : List Stmt :=
  [.Expr (.Call (.Attribute (.Call (.Name "super" p0) [] [] p1) "__init__" p2) [ar] [] p3) p4, .Assign [.Attribute (.Name "self" q1) f q2] (.Name f q3) q4]
def cxS (xe : Value → Shared → Prop) (P : Program) (w : World) (K : PySem.W.Frag) (mg : Str → Option Value) (base : Heap) (N : List Str) (e : Env) (A : Around) (outer : List Env) (s : Shared) (H : Hp) : Cx where
  prog := P
  w := w
  K := K
  mg := mg
  base := base
  A := A.deeper e
  N := N
  s_0 := s
  H_0 := H
  env := e
  outer := outer
  stack := e :: outer
  ex := []
  calm := true
  fn := fun _ => false
  pn := []
  xe := xe
/-- what the written part says of the class at C and of its __init__ at fI -/
structure SupTxt (P : Program) (K : PySem.W.Frag) (mg : Str → Option Value) (f : Str) (C fI : Addr) (fd : FuncData) : Prop where
  oex : OexC K C
  nof : PySem.W.findIn K (.ref C) f = some none
  sup : ks_superIn K C C "__init__" = some (some (.builtin "ValueError.__init__"))
  subV : PySem.W.subIn K (.ref C) (.type "ValueError") = some true
  mro : PySem.W.mroIn K C (.ref C) = some true
  thp : PySem.W.nsIn K cStatics "thirdparty.any" = some none
  gS : mg "super" = none
  top : (P.main.scope.names.lookup ("super" : Str)).isSome = false
  fn : ∃ (oc : Value) (od : Option Addr) (qual : Str) (params : Arguments) (sc : Scope) (kV doc pm : Value) (an : Option Addr) (cda cc : Addr) (ct : Value) (osl : Array (Option Value)) (ar : Expr) (p0 p1 p2 p3 p4 q1 q2 q3 q4 : Pos)
    (ccl : Value) (cdd : Option Addr) (vs : Array Value) (ccs : Array (Option Value)) (file : Str) (tf : Tok) (cl : Value) (cld : Option Addr) (csl : Array (Option Value)) (ag : Arg),
    fd = ksFn "__init__" qual params (supBody f ar p0 p1 p2 p3 p4 q1 q2 q3 q4) sc .none kV doc pm an (.ref cda) ct cc ∧ K.lookup fI = some ⟨oc, od, .func fd, osl⟩ ∧ PySem.W.codeIn K (.ref cda) qual = true ∧ SupSc sc f ∧
    (params.posonlyargs ++ params.args).head? = some ag ∧ ag.arg = ("self" : Str) ∧
    K.lookup cda = some ⟨ccl, cdd, .fields vs, ccs⟩ ∧ vs[2]? = some (.str file tf) ∧ ((P.main.file : Str) == file) = true ∧ K.lookup cc = some ⟨cl, cld, .cell (some (.ref C)), csl⟩ ∧ (p2.endLine == p3.line) = true ∧
    (∃ (z : Str) (j : Nat) (r1 r2 r3 r4 : Pos), ar = .JoinedStr [.FormattedValue (.Name f r1) (-1) none r2, .Constant (.str z) j r3] r4 ∧ z.length ≤ 1000)
theorem supEval (p0 p1 p2 p3 r1 r2 r3 r4 : Pos) (z f : Str) (j : Nat) (env : Env) (h : (p2.endLine == p3.line) = true) : ∃ pl, eval (.Call (.Attribute (.Call (.Name "super" p0) [] [] p1) "__init__" p2) [.JoinedStr [.FormattedValue (.Name f r1) (-1) none r2, .Constant (.str z) j r3] r4] [] p3) env = (do
      let ov ← attributeBase (.Call (.Name "super" p0) [] [] p1) "__init__" env (eval (.Call (.Name "super" p0) [] [] p1) env)
      standAt p2.atName
      let (g, first) ← holding [ov] (getMethod ov "__init__" pl)
      callWith p3 g first (backTo p3 (starEach [.JoinedStr [.FormattedValue (.Name f r1) (-1) none r2, .Constant (.str z) j r3] r4] env)) []) := by
  refine ⟨(do return (← importBound (.Call (.Name "super" p0) [] [] p1) env).getD true), ?_⟩
  have e : ∀ few, few = true → methodCallPos few (.Call (.Name "super" p0) [] [] p1) env p2 p3 = pure p3 := fun few hf => by
    unfold methodCallPos
    rw [hf, h]
    rfl
  rw [arm_eval_Call]
  unfold methodCall
  have ef : methodCallForm ([Expr.JoinedStr [.FormattedValue (.Name f r1) (-1) none r2, .Constant (.str z) j r3] r4].length + ([] : List Keyword).length) (backTo p3 (starEach [.JoinedStr [.FormattedValue (.Name f r1) (-1) none r2, .Constant (.str z) j r3] r4] env)) (backToKw p3 (keywordEach [] env)) = true := rfl
  rw [ef, e _ rfl]
  rfl
section
variable {P : Program} {w : World} {K : PySem.W.Frag} {mg : Str → Option Value} {base : Heap}
theorem inv_sup {f : Str} {sc : Scope} {qual : Str} {fI cda cc D : Addr} {cl : Value} {cld : Option Addr} {csl : Array (Option Value)} {A : Around} {outer : List Env} {s : Shared} {H : Hp} {u0 u1 : Value} {v0 v1 : V} {h1 : Heap} {tk : Nat} {xe : Value → Shared → Prop}
    (S : SupSc sc f) (hd : A.handled = none) (e0 : Env0 P w K mg base A outer s H) (lc : K.lookup cc = some ⟨cl, cld, .cell (some (.ref D)), csl⟩) (r0 : RelV v0 u0) (r1 : RelV v1 u1)
    (hn : h1.Ns s.heap.objs.size (fun x => ([(("self" : Str), u0), (f, u1)]).reverse.lookup x)) (k : ∀ b o, s.heap.get? b = some o → h1.get? b = some o) :
    Inv (cxS xe P w K mg base ["self", f] (ksEnv qual sc s.heap.objs.size fI (.ref cda) cc) A outer s H) [] [some v0, some v1] H { s with heap := h1, toks := tk } := by
  have hK : K.In s.heap := e0.mod.kin.keeps fun b o z => (e0.bs b o z).1
  have hcc : s.heap.get? cc = some ⟨cl, cld, .cell (some (.ref D)), csl⟩ := hK _ _ lc
  have hb : base.get? cc = some ⟨cl, cld, .cell (some (.ref D)), csl⟩ := e0.mod.kin _ _ lc
  have look : ∀ {x : Str} {c : Addr}, ([(("__class__" : Str), cc)] : List (Str × Addr)).lookup x = some c → x = ("__class__" : Str) ∧ c = cc := fun {x c} z => by
    by_cases e : (x == ("__class__" : Str)) = true
    · simp only [List.lookup, e] at z
      cases z
      exact ⟨by simpa using e, rfl⟩
    · have e' : (x == ("__class__" : Str)) = false := by simpa using e
      simp only [List.lookup, e'] at z
      cases z
  refine ⟨⟨e0.mod, S.kind, rfl, rfl, Nat.le_refl _, fun x y c z1 z2 => (look z1).1.trans (look z2).1.symm, fun x hx => ?_, fun x c z => (nomatch z), fun _ => hd, Around.frames_deeper e0.frames, .inr ⟨rfl, rfl⟩, fun b z => (nomatch z), e0.bs, e0.bsz, fun b o z y => (nomatch y), fun b z => (nomatch z), e0.funs, e0.frf⟩,
    rfl, e0.bare, Un.kept k, ⟨_, hn, fun i x v z1 z2 z3 => ?_⟩, fun x c z => ?_, e0.hok.fresh (Nat.le_refl _), fun x c z => ?_, fun p z => (nomatch z), e0.hok.kept k, rfl⟩
  · have hx : sc.names.lookup x = some .cell ∨ sc.names.lookup x = some .free := hx
    rcases hx with hx | hx
    · exact absurd rfl (S.nocell _ (PySem.mem_of_lookup hx))
    · have e := S.only _ (PySem.mem_of_lookup hx) rfl
      have e : x = ("__class__" : Str) := e
      rw [e]
      exact ⟨cc, by show ([(("__class__" : Str), cc)] : List (Str × Addr)).lookup ("__class__" : Str) = some cc; simp [List.lookup]⟩
  · match i, z1, z2 with
    | 0, z1, z2 =>
      cases z1
      cases z2
      refine ⟨u0, r0, .inl ⟨S.self, ?_⟩⟩
      have e : (("self" : Str) == f) = false := by
        have := S.ne
        simpa using fun z => this z.symm
      simp [List.lookup, e]
    | 1, z1, z2 =>
      cases z1
      cases z2
      exact ⟨u1, r1, .inl ⟨S.fld, by simp [List.lookup]⟩⟩
    | n + 2, z1, z2 => cases z2
  · obtain ⟨_, rfl⟩ := look z
    exact ⟨_, _, k _ _ hcc, rfl⟩
  · obtain ⟨_, rfl⟩ := look z
    exact (e0.bs _ _ hb).2
theorem str_app_len (a b : Str) : (a ++ b).length = a.length + b.length := by
  show (a.cps ++ b.cps).size = _
  rw [Array.size_append]
  rfl
theorem str_emp_len : Str.empty.length = 0 := rfl
theorem str_short {n : Nat} (h : n ≤ 4000) : n ≤ sizeLine := Nat.le_trans h (by decide)
/-- __init__ of such an error, run -/
def spSup (f : Str) (C : Addr) : Sp := fun vs H Q _ => ∃ (a : Addr) (z : Str), vs = [.ref a, .str z] ∧ z.length ≤ 1000 ∧ H a = some (exo a C none) ∧ ∀ dx, H dx = none → dx ≠ a → Q .non (upd (upd H dx (exd dx [(f, .str z)])) a (exo a C (some dx)))
theorem sup_ok {CX : CXT} {f : Str} {C fI : Addr} {fd : FuncData} (T : SupTxt P K mg f C fI fd) : FnOk P w K mg base CX 1 fI fd ["self", f] (spSup f C) := by
  obtain ⟨oc, od, qual, params, sc, kV, doc, pm, an, cda, cc, ct, osl, ar, p0, p1, p2, p3, p4, q1, q2, q3, q4, ccl, cdd, vs, ccs, file, tf, cl, cld, csl, ag, rfl, lk, hcd, S, hag, eag, lda, hvs, hfile, lcc, hpos, z, j, r1, r2, r3, r4, rfl, hz⟩ := T.fn
  constructor
  · rintro vs H Q E ⟨a, z, rfl, _⟩
    rfl
  · rintro A outer s H args us vs0 Q E hr e0 bd rv ⟨a, zz, rfl, hzz, ea, q⟩
    cases rv with
    | cons rv0 rv =>
    cases rv with
    | cons rv1 rv =>
    cases rv
    rename_i u0 u1
    obtain rfl : u0 = Value.ref a := rv0
    have hK : K.In s.heap := e0.mod.kin.keeps fun b o z => (e0.bs b o z).1
    have hL : s.heap.NoLimit := e0.mod.nolimit.keeps fun b o z => (e0.bs b o z).1
    refine PySem.ks_codeAny_call_defAt (binds := [("self", .ref a), (f, u1)]) hr.depth (hK _ _ lk) rfl hL (PySem.W.codeRec_of hK hcd) rfl bd S.nocell ?_ (fun h₀ hn k => ?_) S.co S.gen S.kind
    · intro y hy
      rcases List.mem_cons.mp hy with rfl | hy
      · exact S.self
      · rcases List.mem_cons.mp hy with rfl | hy
        · exact S.fld
        · cases hy
    · have I := inv_sup (P := P) (w := w) (xe := fun e s' => wpAny (model P w) (A.deeper (ksEnv qual sc s.heap.objs.size fI (.ref cda) cc)) (leaving (ksEnv qual sc s.heap.objs.size fI (.ref cda) cc) e) (fun _ s'' => CR CX outer P w H s Q E (.error e) s'') (fun e' s'' => CR CX outer P w H s Q E (.error e') s'') s')
        (fI := fI) (cda := cda) (qual := qual) (tk := s.toks + 2) S hr.hd e0 lcc (v0 := .ref a) (v1 := .str zz) rfl rv1 hn k
      obtain ⟨mb, hb1, hb2⟩ := I.mod.blt
      have hgN : h₀.Ns mainGlobals mg := I.mod.glob.keeps I.bk
      have hbN : h₀.Ns builtinsNs mb := hb1.keeps I.bk
      have kI : K.In h₀ := I.kIn
      have hself : ([(("self" : Str), Value.ref a), (f, u1)]).reverse.lookup ("self" : Str) = some (.ref a) := by
        have e : (("self" : Str) == f) = false := by
          have := S.ne
          simpa using fun z => this z.symm
        simp [List.lookup, e]
      obtain ⟨nm, qn, N, bs, bm, sn, sub, ab, col, dd, k0, k1, k2, k3, k5, hC, hbm⟩ := T.oex.cls
      have hcl : PySem.W.clsIn K C = some { name := nm, bases := bs, mro := .ref C :: bm, ns := N, qualname := qn, hasDict := true, slotNames := sn, subclasses := sub, abstract := ab, collection := col, hasDel := false } := by unfold PySem.W.clsIn; rw [hC] <;> rfl
      obtain ⟨t1, hoa⟩ := exo_at I.hok ea
      have hoa : h₀.get? a = some ({ cls := .ref C, dict := none, data := .fields #[.ref t1, .none, .none, .none, .bool false, .none] } : Obj) := hoa
      have hint : interactive (ksEnv qual sc s.heap.objs.size fI (.ref cda) cc) = false := by
        unfold interactive
        simp [S.kind]
      obtain ⟨pl, hev⟩ := supEval p0 p1 p2 p3 r1 r2 r3 r4 z f j (ksEnv qual sc s.heap.objs.size fI (.ref cda) cc) hpos
      refine PySem.ks_wpAt_execs_cons (PySem.ks_wpAt_Expr_any (hi := hint) (PySem.ks_wpAt_MethodCall (pl := pl) (he := hev) (PySem.ks_wpAt_super_base (env := ksEnv qual sc s.heap.objs.size fI (.ref cda) cc) S.sup S.cls (by decide) rfl (kI _ _ lk) rfl hag rfl (kI _ _ lda) rfl hvs hfile T.top ?_)))
      refine PySem.W.ks_loadName_global S.kind S.sup (Calls.loadGlobal_builtin (env := ksEnv qual sc s.heap.objs.size fI (.ref cda) cc) hgN T.gS hbN ((hb2 _ (by decide)).trans PyProof.Rows.Boot.«super») ⟨rfl, ?_⟩)
      refine wpAny_loadName_free S.kind S.cls rfl ⟨_, kI _ _ lcc, rfl⟩ ?_
      rw [eag]
      refine wpAny_loadName_local S.kind S.self hn hself ?_
      refine PySem.ks_wpAny_isType_cls (kI _ _ hC) rfl ⟨rfl, ?_⟩
      refine PySem.ks_wpAny_call_super (kI _ _ hC) rfl hoa rfl (fun c e => nomatch e) (PySem.W.looks_mroIn kI T.mro) (fun h1 hso k1 => ?_)
      -- super().__init__: the built-in's, bound
      have kI1 : K.In h1 := kI.keeps k1
      have hoa1 := k1 _ _ hoa
      have IA : PySem.W.InstAt h1 a { cls := .ref C, dict := none, data := .fields #[.ref t1, .none, .none, .none, .bool false, .none] } C none := ⟨hoa1, rfl, rfl, trivial⟩
      have hsup : PySem.W.alongIn K "__init__" (((Value.ref C :: bm).dropWhile (· != .ref C)).drop 1) = some (some (.builtin "ValueError.__init__")) := by
        have := T.sup
        unfold ks_superIn at this
        rw [hcl] at this
        exact this
      refine PySem.W.kxs_getMethod PySem.W.kxs_ValueError hso (PySem.W.looks_opaque kI1 T.thp) (l₀ := .ref C :: bm) ((PySem.W.looks_clsIn kI1 hcl).andThen .now) rfl kI1 hsup (IA.type.andThen (PySem.W.looks_subIn kI1 T.subV)) (PySem.W.ks_ne kI1 IA hcl) (by decide) ?_
      have I1 := I.kept (t' := s.toks + 2) k1
      have k2 : ∀ b o, h1.get? b = some o → (h1.push (PySem.W.kxs_mw "ValueError.__init__" a)).get? b = some o := fun b o e => Heap.get?_push_of_some _ e
      have I2 := I1.kept (t' := s.toks + 3) k2
      have hmw : (h1.push (PySem.W.kxs_mw "ValueError.__init__" a)).get? h1.objs.size = some (PySem.W.kxs_mw "ValueError.__init__" a) := Heap.get?_push_size _ rfl
      have lt2 : s.heap.objs.size < h1.objs.size := I1.lt
      have I3 := I2.pins_of (pins' := [(h1.objs.size, PySem.W.kxs_mw "ValueError.__init__" a)]) fun p hp => by
        rw [List.mem_singleton] at hp
        subst hp
        exact ⟨hmw, I1.hok.fresh (Nat.le_refl _), Nat.ne_of_gt lt2, I1.nofs (Nat.le_refl _), fun v z => nomatch z⟩
      refine PySem.W.kxs_callWith (i := "ValueError.__init__") (x := a) rfl (Calls.evalArgs_plain ?_)
      obtain ⟨X, eX⟩ : ∃ X, X = cxS (fun e s' => wpAny (model P w) (A.deeper (ksEnv qual sc s.heap.objs.size fI (.ref cda) cc)) (leaving (ksEnv qual sc s.heap.objs.size fI (.ref cda) cc) e) (fun _ s'' => CR CX outer P w H s Q E (.error e) s'') (fun e' s'' => CR CX outer P w H s Q E (.error e') s'') s')
        P w K mg base ["self", f] (ksEnv qual sc s.heap.objs.size fI (.ref cda) cc) A outer s H := ⟨_, rfl⟩
      have pF : PE X (.Name f r1) (tVar 1) := pe_var (by subst eX; rfl) (by subst eX; exact .inl S.fld) S.fd S.fc
      have pA : PA X [.JoinedStr [.FormattedValue (.Name f r1) (-1) none r2, .Constant (.str z) j r3] r4] _ := pa_cons (pe_joined (PJ.cons (pe_fmt pF) (PJ.cons pe_str PJ.nil))) pa_nil
      subst eX
      refine thn (pA.run p3 _ _ _ H (fun vs H' => ∃ y : Str, vs = [.str y] ∧ H' = H) I3 ?_) ?_
      · exact ⟨.str zz, rfl, .inl ⟨zz, rfl, Nat.le_of_lt (Nat.lt_of_le_of_lt hzz (by decide)), zz, rfl, str_short (by rw [str_app_len, str_emp_len]; omega), z, rfl, str_short (by rw [str_app_len, str_app_len, str_emp_len]; omega), _, rfl, rfl⟩⟩
      · rintro us s3 ⟨vs3, H3, I4, rr, y, rfl, eH⟩
        rw [eH] at I4
        have hpin := (I4.pin (h1.objs.size, PySem.W.kxs_mw "ValueError.__init__" a) (List.mem_append_right _ (List.mem_singleton.mpr rfl))).1
        refine ⟨hpin, ?_⟩
        obtain ⟨t4, hoa4⟩ := exo_at I4.hok ea
        have kI4 : K.In s3.heap := I4.kIn
        have hlen : us.length = 1 := rr.length.symm
        obtain ⟨hp, g, d, tk, os⟩ := s3
        refine wpAny_call (codeAny_of_tree ?_)
        show wpAny _ _ (callAny (.ref h1.objs.size) ⟨us, []⟩) _ _ _
        simp only [callAny]
        refine wpAny_bind (wpAny_load hpin ?_)
        simp only [PySem.W.kxs_mw, show (Value.type "method-wrapper" == Value.type "method" || Value.type "method-wrapper" == Value.type "builtin_function_or_method" || Value.type "method-wrapper" == Value.type "method-wrapper") = true by decide, if_true]
        refine PySem.W.KFB.if_so (by decide) ?_
        refine wpAny_bind (PySem.W.check_bound_init F.excBase_ValueError.toExcCallFacts (kI4 _ _ hC) hoa4 rfl ?_)
        refine wpAny_bind (wpAny_pure (wpAny_pure ?_))
        refine ⟨plainId_quiet F.excBase_ValueError.init.plain _, codeAny_builtin F.excBase_ValueError.initEntry ?_⟩
        refine PySem.W.exc_init_tree (cls := .ref C) (t0 := t4) (dv := none) (c2 := .none) (c3 := .none) (b4 := .bool false) hoa4 (by rw [hlen]; decide) fun h5 k5 he5 ht5 => ?_
        have J := I4.write (t' := tk) (x := a) (e := a) (o := exo a C none) (by rw [ea]; exact True.intro) (.inl rfl) k5 ⟨_, he5⟩ (exo_ok he5)
        have eu : upd H a (exo a C none) = H := by
          funext b
          by_cases hb : b = a
          · rw [hb, upd_same, ea]
          · rw [upd_ne hb]
        rw [eu] at J
        refine PySem.wpAt_of_wpAny ?_
        obtain ⟨X, eX⟩ : ∃ X, X = cxS (fun e s' => wpAny (model P w) (A.deeper (ksEnv qual sc s.heap.objs.size fI (.ref cda) cc)) (leaving (ksEnv qual sc s.heap.objs.size fI (.ref cda) cc) e) (fun _ s'' => CR CX outer P w H s Q E (.error e) s'') (fun e' s'' => CR CX outer P w H s Q E (.error e') s'') s')
          P w K mg base ["self", f] (ksEnv qual sc s.heap.objs.size fI (.ref cda) cc) A outer s H := ⟨_, rfl⟩
        have pV : PE X (.Name f q3) (tVar 1) := pe_var (by subst eX; rfl) (by subst eX; exact .inl S.fld) S.fd S.fc
        have pS : PE X (.Name "self" q1) (tVar 0) := pe_var (by subst eX; rfl) (by subst eX; exact .inl S.self)
        have pO : PSs X [.Assign [.Attribute (.Name "self" q1) f q2] (.Name f q3) q4] _ := pss_one (ps_ost (f := f) (p' := q2) pS pV)
        subst eX
        refine wpAny_mono (pO.run _ _ [some (.ref a), some (.str zz)] H { nx := fun _ H' => Q .non H', rt := fun _ _ => False } J ?_) ?_ (fun _ _ z => z)
        · exact ⟨_, rfl, _, rfl, a, C, rfl, T.oex, T.nof, .inl ⟨ea, fun dx n ne => q dx n ne⟩⟩
        · intro fl s' hsp
          cases fl with
          | next =>
            obtain ⟨σ', H', J2, hq⟩ := hsp
            exact ⟨.non, H', J2.os, J2.bare, J2.base, J2.hok, rfl, hq⟩
          | ret u => obtain ⟨v, σ', H', J2, rr, hq⟩ := hsp; exact hq.elim
          | brk => obtain ⟨σ', H', J2, hq⟩ := hsp; exact hq.elim
          | cont => obtain ⟨σ', H', J2, hq⟩ := hsp; exact hq.elim
end
end Mi
namespace Mi
open PySem PySem.Spec PyProof.Rows L2
/-! ### raise X(e), X's __init__ as above; raise X(text), X without one -/
def cRaiseF (C : Addr) (f : Str) (ma : CA) : CS := fun D ρ S => ma ρ S (fun rs S1 => ∃ z : Str, rs = [.d (.str z)] ∧ z.length ≤ 1000 ∧ D.ex (.fd C [(f, .str z)]) ρ S1) (fun x S' => D.ex x ρ S')
def sRaiseF (C : Addr) (f : Str) (W : WX) (ta : TA) : TS := fun _ σ H => tMkO C (spSup f C) [] ta σ H fun c d H' => W c d σ H'
def cRaiseT (C : Addr) : CS := fun D ρ S => D.ex (.pl C) ρ S
def sRaiseT (C : Addr) (W : WX) : TS := fun _ σ H => W (.ref C) none σ H
section
variable {K : PySem.W.Frag} {W : WX} {C : Addr} {f : Str} {ta : TA} {ma : CA}
theorem sim_raiseT : SimS K W (sRaiseT C W) (cRaiseT C) := fun ρ σ S T H Dm D n k o q =>
  o.ex (.pl C) (.ref C) none ρ σ S H Ev.rfl' k n ⟨rfl, rfl⟩ q
theorem sim_raiseF (ha : SimA K W ta ma) : SimS K W (sRaiseF C f W ta) (cRaiseF C f ma) := fun ρ σ S T H Dm D n k o q => by
  refine ha ρ σ S T H _ _ _ n k (fun rs vs S1 H1 e1 k1 rr ⟨z, er, hz, hq⟩ => ?_) (o.xe n) q
  subst er
  cases rr with
  | cons r1 rr =>
    cases rr
    cases r1
    refine ⟨by show (1 : Nat) ≤ 1000; decide, fun a na => ⟨a, z, rfl, hz, upd_same, fun dx nd ne => ?_⟩⟩
    have nd1 : H1 dx = none := by rw [upd_ne ne] at nd; exact nd
    refine ⟨rfl, dx, [(f, .str z)], upd_same, by rw [upd_ne ne, upd_same], nd1, ?_⟩
    have eH : upd (L2.del (upd (upd (upd H1 a (exo a C none)) dx (exd dx [(f, .str z)])) a (exo a C (some dx))) a) dx (.xd [(f, .str z)]) = upd H1 dx (.xd [(f, .str z)]) := by
      funext b
      by_cases hb : b = dx
      · rw [hb, upd_same, upd_same]
      · rw [upd_ne hb, upd_ne hb]
        by_cases ha : b = a
        · rw [ha, del_same, na]
        · rw [del_ne ha, upd_ne ha, upd_ne hb, upd_ne ha]
    rw [eH]
    have e2 : Ev (cat S T) H (cat S1 T) (upd H1 dx (.xd [(f, .str z)])) := e1.trans (ev_new nd1)
    exact o.ex (.fd C [(f, .str z)]) (.ref C) (some dx) ρ σ S1 _ e2 (k1.new nd1) (n.ev e2) ⟨rfl, dx, _, rfl, upd_same, .cons ⟨rfl, .str _⟩ .nil⟩ hq
end
section
variable {X : Cx} {W : WX} {C fI : Addr} {f : Str} {fd : FuncData} {x : Str} {e : Expr} {es : List Expr} {ta : TA} {p pos pos2 : Pos}
theorem ps_raiseF (hc : X.calm = true) (T : SupTxt X.prog X.K X.mg f C fI fd) (iC : PySem.W.findIn X.K (.ref C) "__init__" = some (some (.ref fI))) (tI : PySem.W.typeIn X.K (.ref fI) = some (.type "function"))
    (hb : Binds X.K fd ["self", f] []) (hr : Room 2 X.A) (tk : Takes X W) (hm : X.mg x = some (.ref C)) (ha : PA X (e :: es) ta) (hg : Gl X x := by rfl)
    (hdb : (x == ("__debug__" : Str)) = false := by decide) (he : starEach (e :: es) X.env = (false, eval e X.env) :: starEach es X.env := by rfl) (hpl : (backTo pos (starEach es X.env)).any (·.1) = false := by rfl) :
    PS X (.Raise (some (.Call (.Name x p) (e :: es) [] pos)) none pos2) (sRaiseF C f W ta) :=
  ps_raise hc tk (pmk_oex T.oex iC tI (sup_ok (CX := CX0) T) hr hb .nil pass0 hg hm ha hdb he hpl)
theorem ps_raiseT {m : Str} {j : Nat} {p2 : Pos} (hc : X.calm = true) (q : PySem.W.excIn X.K C [.type "ValueError", .type "Exception", .type "BaseException", .type "object"] "ValueError.__new__" = true) (hm : X.mg x = some (.ref C)) (kC : PySem.W.keepIn X.K (.ref C) = true) (r : Raises X (.ref C)) (tk : Takes X W) (hg : Gl X x := by rfl)
    (hdb : (x == ("__debug__" : Str)) = false := by decide) : PS X (.Raise (some (.Call (.Name x p) [.Constant (.str m) j p2] [] pos)) none pos2) (sRaiseT C W) :=
  ps_raise hc tk (pmk_own PySem.F.excBase_ValueError q hm kC r hg hdb)
end
end Mi
namespace Mi
open PySem PySem.Spec PyProof.Rows L2
/-! ### several except clauses, each with or without a name -/
abbrev Suite := Addr → Value → Option Addr → TS
/-- behind a suite that held its exception in slot i -/
def freed (i : Nat) (D : Ends) : Ends := ⟨fun σ H => D.nx (σ.set i none) H, D.rt, fun σ H => D.bk (σ.set i none) H, fun σ H => D.ct (σ.set i none) H⟩
def atHd (o : Option Nat) (ts : Suite) (a : Addr) (c : Value) (d : Option Addr) (D : Ends) (σ : L2.St) (H : Hp) : Prop := match o with
  | none => ts a c d D σ H
  | some i => ts a c d (freed i D) (σ.set i (some (.ref a))) H
def wMix (K : PySem.W.Frag) (Wout : WX) (D : Ends) : List (Value × Option Nat × Suite) → WX
  | [] => Wout
  | (c, o, ts) :: r => fun cls d σ H => ∃ b, PySem.W.exmOne K cls c = some b ∧ (b = true → ∀ a, H a = none → atHd o ts a cls d D σ H) ∧ (b = false → wMix K Wout D r cls d σ H)
/-- a clause's name and its slot -/
def SlotOf (X : Cx) : Option Str → Option Nat → Prop
  | none, none => True
  | some n, some i => X.N[i]? = some n ∧ X.env.kindOf n = some .local
  | _, _ => False
inductive Hds (X : Cx) : List ExceptHandler → List (Value × Option Nat × Suite) → Prop
  | nil : Hds X [] []
  | cons {x : Str} {c : Value} {on : Option Str} {oi : Option Nat} {ts : Suite} {b₀ : Stmt} {suite : List Stmt} {np pp : Pos} {hds : List ExceptHandler} {l : List (Value × Option Nat × Suite)} (hc : Names X x c) (ho : SlotOf X on oi)
      (hsu : ∀ (a : Addr) (oe : Obj) (cls : Value) (d : Option Addr) (pn : List (Addr × Obj)), Zc cls d oe → (∃ vs, oe.data = .fields vs) → PSs (X.suite a ((a, oe) :: pn)) (b₀ :: suite) (ts a cls d)) (r : Hds X hds l) :
      Hds X (.ExceptHandler (some (.Name x np)) on (b₀ :: suite) pp :: hds) ((c, oi, ts) :: l)
section
variable {X : Cx} {body : List Stmt} {hd0 : ExceptHandler} {hds : List ExceptHandler} {l : List (Value × Option Nat × Suite)} {pos : Pos} {tb : WX → TS} {Wout : WX}
theorem ps_try_mix (hs : X.stack = X.env :: X.outer) (hf : X.env.frame = some X.env.locals) (hN : X.N.Nodup) (tk : Takes X Wout)
    (hb : ∀ (W : WX) (pn : List (Addr × Obj)) (xe : Value → Shared → Prop), Takes (X.tr pn xe) W → PassesOwn (model X.prog X.w) X.A X.env xe → PSs (X.tr pn xe) body (tb W))
    (hh : Hds X (hd0 :: hds) l) : PS X (.Try body (hd0 :: hds) [] [] pos) (fun D σ H => tb (wMix X.K Wout D l) D σ H) := by
  constructor
  intro pins s σ H D I h
  have okX := I.ok
  have frX : X.A.frames = some (X.env :: X.outer) := okX.frames.trans (congrArg some hs)
  refine wpAny_Try_except ?_
  have rb := (hb (wMix X.K Wout D l) (X.pn ++ pins) (fun e t1 => wpAny (model X.prog X.w) X.A (noteFrame e X.env) (fun _ t2 => wpAny (model X.prog X.w) X.A (setFlight e none) (fun _ t3 =>
    wpAny (model X.prog X.w) X.A (handleBy e X.env (hd0 :: hds)) (SP X pins D) X.xe t3) X.xe t2) X.xe t1) (fun u t xx => ?_) PassesOwn.looking).run [] s σ H D (I.toTry _) h
  · refine wpAny_mono rb (fun fl t hsp => ?_) fun e t he => he
    cases fl with
    | next => obtain ⟨σ1, H1, J1, q⟩ := hsp; exact wpAny_execs_nil ⟨σ1, H1, J1.ofTry okX, q⟩
    | brk => obtain ⟨σ1, H1, J1, q⟩ := hsp; exact ⟨σ1, H1, J1.ofTry okX, q⟩
    | cont => obtain ⟨σ1, H1, J1, q⟩ := hsp; exact ⟨σ1, H1, J1.ofTry okX, q⟩
    | ret u => obtain ⟨v, σ1, H1, J1, r, q⟩ := hsp; exact ⟨v, σ1, H1, J1.ofTry okX, r, q⟩
  · obtain ⟨a, B, t0, pins1, σ1, H1, cls, d, rfl, J0, nb, up, sky, na, os, ag, w⟩ := xx
    have J : Inv X pins σ1 H1 t0 := J0.ofTry okX
    have sky1 : Sky B (X.env :: X.outer) a (Zc cls d) X.env.locals t.heap := hs ▸ sky
    show wpAny (model X.prog X.w) X.A (noteFrame (.ref a) X.env) _ _ _
    refine Sky.land Zc.steady frX hf sky1 fun h3 fl3 up3 => ?_
    have J3 : Inv X pins σ1 H1 { t with heap := h3 } := J.landed nb fl3.1 (up.trans up3) os ag
    obtain ⟨oe3, vs3, he3, hz3, hd3⟩ := fl3.there
    have nfr : a ∉ frs (X.env :: X.outer) := fun hm => by
      obtain ⟨_, o1, e1, hnf⟩ := fl3.2.2.1.mem hm
      rw [he3] at e1
      cases e1
      exact hnf _ hd3
    have nL : a ≠ X.env.locals := fun z => nfr (List.mem_filterMap.mpr ⟨X.env, List.mem_cons_self, hf.trans (congrArg some z.symm)⟩)
    have nF : a ∉ X.fs := fun hm => by
      obtain ⟨e, he, q⟩ := List.mem_filterMap.mp hm
      exact nfr (List.mem_filterMap.mpr ⟨e, List.mem_cons_of_mem _ he, q⟩)
    have S3 := J3.suite he3 hd3 na nL nF
    have go : ∀ {hl : List ExceptHandler} {ll : List (Value × Option Nat × Suite)}, Hds X hl ll → wMix X.K Wout D ll cls d σ1 H1 → wpAny (model X.prog X.w) X.A (handleBy (.ref a) X.env hl) (SP X pins D) X.xe { t with heap := h3 } := by
      intro hl ll hk
      induction hk with
      | nil =>
        intro w
        refine wpAny_handleBy_nil ?_
        have fin : wpAny (model X.prog X.w) X.A (setFlight (.ref a) X.env.frame) (fun _ t4 => wpAny (model X.prog X.w) X.A (throw (.ref a) : Sem Flow) (SP X pins D) X.xe t4) X.xe { t with heap := h3 } := by
          rw [hf]
          exact HandSPX.setFlight_upZ fl3 fun h4 hh4 up4 => wpAny_throw (tk _ _ ⟨a, B, t0, pins, σ1, H1, cls, d, rfl, J, nb, (up.trans up3).trans up4, .inr (.inr (by rw [hs]; exact hh4)), na, os, ag, w⟩)
        obtain ⟨_, _, _, oe, vs, TB, _, _, he, _, hd, g1, _⟩ := id fl3
        unfold PySem.passOn
        refine wpAny_bind (wpAny_field he hd g1 ?_)
        have nn : ¬ ((Value.ref TB == Value.none) = true) := by simp
        rw [if_neg nn]
        first
          | exact wpAny_bind (wpAny_pure (wpAny_bind fin))
          | exact wpAny_bind fin
      | @cons x c on oi ts b₀ suite np pp hds2 l2 hc ho hsu r ih =>
        intro w
        obtain ⟨b, hb1, hyes, hno⟩ := w
        refine wpAny_handleBy_cons (codeAny_handlers_test ?_) (by intro q; cases q)
        have LM := PySem.W.exm_one (M := model X.prog X.w) J3.kIn (fun A Q E s k q => wpAny_typeOf_ref (k _ _ he3) (by rw [hz3.1]; exact q)) hb1
        have test : ∀ {Q : Value → Shared → Prop} {E : Value → Shared → Prop}, Q c { t with heap := h3 } → wpAny (model X.prog X.w) (X.A.mark (some (.ref a))) (eval (.Name x np) X.env) Q E { t with heap := h3 } := fun {Q E} q => by
          obtain ⟨hg, hdb, hm | ⟨hm, hv, hnn⟩⟩ := hc
          · exact ld_glob (X := X.suite a ((a, oe3) :: (X.pn ++ pins))) S3 hg hm q hdb
          · exact ld_blt (X := X.suite a ((a, oe3) :: (X.pn ++ pins))) S3 hg hm hv q hnn hdb
        refine test (LM.here ?_)
        cases b with
        | false =>
          show wpAny _ X.A (handleBy (.ref a) X.env hds2) _ _ _
          exact ih (hno rfl)
        | true =>
          have hy := hyes rfl a na
          match on, oi, ho, hy with
          | none, none, _, hy =>
            refine codeAny_handlers_suite (HandSPX.lands_againZ fl3 fun h4 fl4 up4 => ?_)
            obtain ⟨oe4, vs4, he4, hz4, hd4⟩ := fl4.there
            have S4 := (J.landed nb fl4.1 ((up.trans up3).trans up4) os ag : Inv X pins σ1 H1 { t with heap := h4 }).suite he4 hd4 na nL nF
            refine wpAny_mono ((hsu a oe4 cls d (X.pn ++ pins) hz4 ⟨_, hd4⟩).run [] _ _ H1 _ S4 hy) (fun fl t6 hsp => ?_) fun _ _ z => False.elim z
            cases fl with
            | next => obtain ⟨σ6, H6, S6, q6⟩ := hsp; exact ⟨_, _, S6.unsuite okX, q6⟩
            | brk => obtain ⟨σ6, H6, S6, q6⟩ := hsp; exact ⟨_, _, S6.unsuite okX, q6⟩
            | cont => obtain ⟨σ6, H6, S6, q6⟩ := hsp; exact ⟨_, _, S6.unsuite okX, q6⟩
            | ret u => obtain ⟨v6, σ6, H6, S6, r6, q6⟩ := hsp; exact ⟨_, _, _, S6.unsuite okX, r6, q6⟩
          | some n, some i, ho, hy =>
            obtain ⟨hi, hln⟩ := ho
            refine codeAny_handlers_suite_as (HandSPX.lands_againZ fl3 fun h4 fl4 up4 => ?_)
            obtain ⟨oe4, vs4, he4, hz4, hd4⟩ := fl4.there
            have S4 := (J.landed nb fl4.1 ((up.trans up3).trans up4) os ag : Inv X pins σ1 H1 { t with heap := h4 }).suite he4 hd4 na nL nF
            refine store_ok (X := X.suite a ((a, oe4) :: (X.pn ++ pins))) (v := .ref a) S4 hN hi (.inl hln) rfl (fun t5 S5 => ?_) (.inr hln)
            refine wpAny_mono ((hsu a oe4 cls d (X.pn ++ pins) hz4 ⟨_, hd4⟩).run [] t5 _ H1 _ S5 hy) (fun fl t6 hsp => ?_) fun _ _ z => False.elim z
            have off : ∀ {σ6 : L2.St} {H6 : Hp} {Q : Shared → Prop}, Inv (X.suite a ((a, oe4) :: (X.pn ++ pins))) [] σ6 H6 t6 → (∀ t7, Inv X pins (σ6.set i none) H6 t7 → Q t7) →
                wpAny (model X.prog X.w) X.A (do bindName X.env n .none; unbindBehindTheSuite X.env n pp) (fun _ t7 => Q t7) X.xe t6 := fun {σ6 H6 Q} S6 hq => gone_ok (S6.unsuite okX) hN hi hln hq
            cases fl with
            | next => obtain ⟨σ6, H6, S6, q6⟩ := hsp; exact off S6 fun t7 J7 => ⟨_, _, J7, q6⟩
            | brk => obtain ⟨σ6, H6, S6, q6⟩ := hsp; exact off S6 fun t7 J7 => ⟨_, _, J7, q6⟩
            | cont => obtain ⟨σ6, H6, S6, q6⟩ := hsp; exact off S6 fun t7 J7 => ⟨_, _, J7, q6⟩
            | ret u => obtain ⟨v6, σ6, H6, S6, r6, q6⟩ := hsp; exact off S6 fun t7 J7 => ⟨_, _, _, J7, r6, q6⟩
          | none, some _, ho, _ => exact ho.elim
          | some _, none, ho, _ => exact ho.elim
    exact go hh w
end
end Mi
namespace Mi
open PySem PySem.Spec PyProof.Rows L2
/-! ### the mirror of try .. except -/
def clsM : MX → Addr
  | .pl C => C
  | .fd C _ => C
abbrev MSuite := MX → Addr → CS
def calmM (D : ME) : ME := { D with ex := fun _ _ _ => False }
def freedM (i : Nat) (D : ME) : ME := ⟨fun ρ S => D.nx (ρ.set i none) S, D.rt, fun ρ S => D.bk (ρ.set i none) S, fun ρ S => D.ct (ρ.set i none) S, D.ex⟩
def atM (o : Option Nat) (m : CS) (a : Addr) (D : ME) (ρ : Ro) (S : Sto) : Prop := match o with
  | none => m D ρ S
  | some i => m (freedM i D) (ρ.set i (some (.m a))) S
def exMix (hit : Addr → Addr → Option Bool) (D : ME) : List (Addr × Option Nat × MSuite) → MX → Ro → Sto → Prop
  | [] => D.ex
  | (h, o, ms) :: r => fun x ρ S => ∃ b, hit (clsM x) h = some b ∧ (b = true → ∀ a, atM o (ms x a) a (calmM D) ρ S) ∧ (b = false → exMix hit D r x ρ S)
def cTry (hit : Addr → Addr → Option Bool) (hs : List (Addr × Option Nat × MSuite)) (mb : CS) : CS := fun D ρ S => mb { D with ex := exMix hit D hs } ρ S
def hitK (K : PySem.W.Frag) : Addr → Addr → Option Bool := fun c h => PySem.W.exmOne K (.ref c) (.ref h)
/-- a suite and its mirror -/
def SimU (K : PySem.W.Frag) (ts : Suite) (ms : MSuite) : Prop := ∀ x a c d ρ σ S T H Dm D, RX K (cat S T) H x c d → En K (cat S T) H ρ σ → Ok K S T H → OutD K W0 S T H Dm D → ms x a Dm ρ S → ts a c d D σ H
inductive SimUs (K : PySem.W.Frag) : List (Value × Option Nat × Suite) → List (Addr × Option Nat × MSuite) → Prop
  | nil : SimUs K [] []
  | cons {h : Addr} {o : Option Nat} {ts : Suite} {ms : MSuite} {l : List (Value × Option Nat × Suite)} {ml : List (Addr × Option Nat × MSuite)} (u : SimU K ts ms) (r : SimUs K l ml) : SimUs K ((.ref h, o, ts) :: l) ((h, o, ms) :: ml)
section
variable {K : PySem.W.Frag} {W : WX} {S T U : Sto} {H : Hp} {ρ : Ro} {σ : L2.St}
theorem En.clear (n : En K U H ρ σ) (i : Nat) : En K U H (ρ.set i none) (σ.set i none) := by
  refine ⟨by rw [List.length_set, List.length_set]; exact n.len, fun j r e => ?_⟩
  by_cases h : j = i
  · subst h
    by_cases hj : j < ρ.length
    · rw [List.getElem?_set_self hj] at e
      cases e
    · rw [List.getElem?_eq_none (by rw [List.length_set]; omega)] at e
      cases e
  · rw [List.getElem?_set_ne (Ne.symm h)] at e ⊢
    exact n.get j r e
theorem outD_calm {Dm : ME} {D : Ends} (o : OutD K W S T H Dm D) : OutD K W0 S T H (calmM Dm) D := ⟨o.nx, o.rt, o.bk, o.ct, fun _ _ _ _ _ _ _ _ _ _ _ z => z.elim⟩
theorem outD_freed {Dm : ME} {D : Ends} (o : OutD K W0 S T H Dm D) (i : Nat) (hx : ∀ x ρ S, ¬ Dm.ex x ρ S) : OutD K W0 S T H (freedM i Dm) (freed i D) :=
  ⟨fun ρ σ S' H' e k n z => o.nx _ _ S' H' e k (n.clear i) z, o.rt, fun ρ σ S' H' e k n z => o.bk _ _ S' H' e k (n.clear i) z, fun ρ σ S' H' e k n z => o.ct _ _ S' H' e k (n.clear i) z, fun _ _ _ _ _ _ _ _ _ _ _ z => (hx _ _ _ z).elim⟩
theorem rx_cls {x : MX} {c : Value} {d : Option Addr} (r : RX K U H x c d) : c = .ref (clsM x) := by
  cases x with
  | pl C => exact r.1
  | fd C fs => exact r.1
theorem sim_try {tb : WX → TS} {mb : CS} {l : List (Value × Option Nat × Suite)} {ml : List (Addr × Option Nat × MSuite)} (hb : ∀ W', SimS K W' (tb W') mb) (hs : SimUs K l ml) : SimS K W (fun D σ H => tb (wMix K W D l) D σ H) (cTry (hitK K) ml mb) := fun ρ σ S T H Dm D n k o q => by
  refine hb (wMix K W D l) ρ σ S T H { Dm with ex := exMix (hitK K) Dm ml } D n k ⟨o.nx, o.rt, o.bk, o.ct, fun x c d ρ1 σ1 S1 H1 e k1 n1 r z => ?_⟩ q
  have o1 := o.go e
  have ec := rx_cls r
  clear q
  induction hs with
  | nil => exact o.ex x c d ρ1 σ1 S1 H1 e k1 n1 r z
  | @cons h oi ts ms l ml u us ih =>
    obtain ⟨b, hb1, hy, hn⟩ := z
    refine ⟨b, by rw [ec]; exact hb1, fun eb a na => ?_, fun eb => ih (hn eb)⟩
    have hy := hy eb a
    have oc := outD_calm o1
    match oi, hy with
    | none, hy => exact u x a c d ρ1 σ1 S1 T H1 _ D r n1 k1 oc hy
    | some i, hy => exact u x a c d _ _ S1 T H1 _ (freed i D) r (n1.set (r := .m a) (v := .ref a) rfl i) k1 (outD_freed oc i fun _ _ _ z => z) hy
/-- a suite that does not ask its exception -/
theorem simu_con {t : TS} {m : CS} (h : SimS K W0 t m) : SimU K (fun _ _ _ => t) (fun _ _ => m) := fun x a c d ρ σ S T H Dm D r n k o q => h ρ σ S T H Dm D n k o q
end

/-! ### e.f and isinstance(e, C) of the exception that a suite holds -/
structure ExF (K : PySem.W.Frag) (C : Addr) (f : Str) : Prop where
  ga : PySem.W.findIn K (.ref C) "__getattribute__" = some (some (.builtin "BaseException.__getattribute__"))
  gg : PySem.W.findIn K (.ref C) "__getattr__" = some none
  exC : PySem.W.subIn K (.ref C) (.type "BaseException") = some true
  hdC : PySem.W.hasDictIn K C = true
  nof : PySem.W.findIn K (.ref C) f = some none
def tExF (C : Addr) (f : Str) (a : Addr) (c : Value) (d : Option Addr) (te : TE) : TE := fun σ H Q => te σ H fun x H1 => x = .ref a ∧ c = .ref C ∧ ∃ (q : Addr) (v : V), d = some q ∧ H1 q = some (.xd [(f, v)]) ∧ Q v H1
section
variable {X : Cx} {C : Addr} {f : Str}
theorem pe_exF {a : Addr} {oe : Obj} {c : Value} {d : Option Addr} {pn : List (Addr × Obj)} {e : Expr} {te : TE} {pos : Pos} (T : ExF X.K C f) (hz : Zc c d oe) (hf : ∃ vs, oe.data = .fields vs) (he : PE (X.suite a ((a, oe) :: pn)) e te)
    (hb : attributeBase e f X.env (eval e X.env) = eval e X.env := by rfl) : PE (X.suite a ((a, oe) :: pn)) (.Attribute e f pos) (tExF C f a c d te) := by
  constructor
  intro pins s σ H Q I h
  refine attr_of hb (thn (he.run pins s σ H _ I h) fun u s1 ⟨x, H1, I1, rx, ex, ec, q, v, ed, eq, hq⟩ => ?_)
  rw [ex] at rx
  rw [ec, ed] at hz
  obtain rfl : u = Value.ref a := rx
  obtain ⟨vs, hd⟩ := hf
  obtain ⟨mA, hns, hr⟩ := (show ObjOk X.prog X.w H1 s1.heap q (.xd [(f, v)]) from I1.hok q _ eq)
  obtain ⟨od, ho, hl⟩ := lookIn_ns hns
  have lf : List.lookup f [(f, v)] = some v := by simp [List.lookup]
  obtain ⟨y, hy, ry⟩ := RelO.some_of (v := v) (o := mA f) (lf ▸ hr f)
  have J : PySem.W.InstAt s1.heap a oe C (some od) := ⟨(I1.pin (a, oe) (List.mem_append_left _ List.mem_cons_self)).1, hz.1, by unfold PySem.W.notCls; rw [hd] <;> rfl, by rw [hz.2]; exact ho⟩
  exact HandSPX.exc_get I1.kIn J T.ga T.gg T.exC (PySem.W.findObj_own T.hdC T.nof rfl ((hl f).trans (congrArg some hy))) (handed_of ry) ⟨v, H1, I1.tok _, ry, hq⟩
def rIsX (K : PySem.W.Frag) (D a : Addr) (c : Value) (d : Option Addr) : List V → Hp → VK → Prop := fun xs H Q => c = .ref D ∧ d = none ∧ rIsE K D a xs H Q
theorem call_isX {a D : Addr} {oe : Obj} {c : Value} {d : Option Addr} {pn : List (Addr × Obj)} (T : ExcC X.K D) (hz : Zc c d oe) (hf : ∃ vs, oe.data = .fields vs) : CallR (X.suite a ((a, oe) :: pn)) (.builtin "isinstance") (rIsX X.K D a c d) := by
  rintro pins s σ H xs us Q I r ⟨ec, ed, h⟩
  rw [ec, ed] at hz
  exact call_isE T hz hf pins s σ H xs us Q I r h
end
/-- return e.f -/
def uFld (C : Addr) (f : Str) (i : Nat) : MSuite := fun x a D ρ S => ∃ z : Str, x = .fd C [(f, .str z)] ∧ ρ[i]? = some (some (.m a)) ∧ D.rt (.d (.str z)) S
/-- return (k, e.f) -/
def uTup (k : Str) (C : Addr) (f : Str) (i : Nat) : MSuite := fun x a D ρ S => ∃ z : Str, x = .fd C [(f, .str z)] ∧ ρ[i]? = some (some (.m a)) ∧ D.rt (.d (.tuple [.str k, .str z])) S
/-- isinstance(e, h) -/
def eIsX (kit : Addr → Addr → Option Bool) (D i h : Nat) (x : MX) (a : Addr) : CE := fun ρ S Q _ => ρ[i]? = some (some (.m a)) ∧ x = .pl D ∧ ∃ b, kit D h = some b ∧ Q (.d (.bool b)) S
def kitK (K : PySem.W.Frag) : Addr → Addr → Option Bool := fun c h => PySem.W.kitOne K (.ref c) (.ref h)
section
variable {K : PySem.W.Frag} {W : WX} {C : Addr} {f : Str} {i : Nat}
theorem rx_fd {U : Sto} {H : Hp} {c : Value} {d : Option Addr} {z : Str} (r : RX K U H (.fd C [(f, .str z)]) c d) : c = .ref C ∧ ∃ q, d = some q ∧ H q = some (.xd [(f, .str z)]) := by
  obtain ⟨ec, q, gs, ed, eq, pp⟩ := r
  cases pp with
  | cons h t =>
    rename_i p gs'
    cases t
    obtain ⟨g, y⟩ := p
    obtain ⟨h1, h2⟩ := h
    have h1 : f = g := h1
    subst h1
    cases h2
    exact ⟨ec, q, ed, eq⟩
theorem simu_fld : SimU K (fun a c d => tRet (tExF C f a c d (tVar i))) (uFld C f i) := fun x a c d ρ σ S T H Dm D r n k o ⟨z, ex, er, q⟩ => by
  subst ex
  obtain ⟨ec, p, ed, eq⟩ := rx_fd r
  obtain ⟨v, ev, rv⟩ := n.get i _ er
  cases rv
  exact ⟨_, ev, rfl, ec, p, _, ed, eq, o.rt (.d (.str z)) _ S H Ev.rfl' k (.str z) q⟩
theorem simu_tup {w : Str} : SimU K (fun a c d => tRet (tTup (tCons (tC (.str w)) (tCons (tExF C f a c d (tVar i)) tNil)))) (uTup w C f i) := fun x a c d ρ σ S T H Dm D r n k o ⟨z, ex, er, q⟩ => by
  subst ex
  obtain ⟨ec, p, ed, eq⟩ := rx_fd r
  obtain ⟨v, ev, rv⟩ := n.get i _ er
  cases rv
  refine ⟨_, ev, rfl, ec, p, _, ed, eq, by show (2 : Nat) ≤ sizeLine; decide, fun b nb => ?_⟩
  exact o.rt (.d (.tuple [.str w, .str z])) _ S _ (ev_new nb) (k.new nb) (new_tup k nb (.cons (.str w) (.cons (.str z) .nil))) q
/-- a suite that asks its exception's class alone -/
theorem simu_mk {ts : Suite} {ms : MSuite} (h : ∀ x a c d, (∀ D, x = .pl D → c = .ref D ∧ d = none) → SimS K W0 (ts a c d) (ms x a)) : SimU K ts ms := fun x a c d ρ σ S T H Dm D r n k o q =>
  h x a c d (fun E e => by subst e; exact r) ρ σ S T H Dm D n k o q
theorem sim_isX {D h a : Addr} {x : MX} {c : Value} {d : Option Addr} (hx : ∀ D, x = .pl D → c = .ref D ∧ d = none) : SimE K W (tCB (rIsX K D a c d) (tCons (tVar i) (tCons (tC (.ref h)) tNil))) (eIsX (kitK K) D i h x a) := fun ρ σ S T H Qm xm Q n k o ox ⟨er, ex, b, hb, q⟩ => by
  obtain ⟨v, ev, rv⟩ := n.get i _ er
  cases rv
  obtain ⟨ec, ed⟩ := hx D ex
  exact ⟨_, ev, ec, ed, .ref h, .ref h, b, rfl, fun u z => z, hb, o (.d (.bool b)) _ S H Ev.rfl' k (Dp.bl b) q⟩
end
end Mi
namespace Mi
open PySem PySem.Spec PyProof.Rows L2
/-! ### text times number, list times number -/
def repS (x : Str) (n : Int) : Str := if n < 1 then Str.empty else if (n == 1 || x.length == 0) = true then x else ⟨(List.replicate n.toNat x.cps).foldl (· ++ ·) #[]⟩
def rRepS : R2 := fun x y H Q => ∃ a n, x = .str a ∧ y = .int n ∧ 0 ≤ n ∧ n ≤ 1000 ∧ a.length ≤ 1000 ∧ Q (.str (repS a n)) H
theorem foldl_arr : ∀ (l : List (Array Nat)) (b : Array Nat), (l.foldl (· ++ ·) b).toList = b.toList ++ (l.map Array.toList).flatten
  | [], b => by simp
  | x :: l, b => by
    rw [List.foldl_cons, foldl_arr l, List.map_cons, List.flatten_cons, Array.toList_append, List.append_assoc]
theorem repS_list (x : Str) {n : Int} (h : 0 ≤ n) : (repS x n).cps.toList = (List.replicate n.toNat x.cps.toList).flatten := by
  unfold repS
  by_cases h1 : n < 1
  · have e : n.toNat = 0 := by omega
    rw [if_pos h1, e]
    rfl
  · rw [if_neg h1]
    by_cases h2 : (n == 1 || x.length == 0) = true
    · rw [if_pos h2]
      rw [Bool.or_eq_true, beq_iff_eq, beq_iff_eq] at h2
      rcases h2 with e | e
      · subst e
        simp
      · have e' : x.cps.toList = [] := by
          have : x.cps.size = 0 := e
          simpa using this
        rw [e']
        simp
    · rw [if_neg h2, foldl_arr]
      simp
theorem repS_size (x : Str) {n : Int} (h : 0 ≤ n) : (repS x n).length = x.length * n.toNat := by
  have e : (repS x n).length = (repS x n).cps.toList.length := by simp [Str.length]
  rw [e, repS_list x h, List.length_flatten, List.map_replicate, List.sum_replicate_nat]
  simp [Str.length, Nat.mul_comm]
theorem op_repS {X : Cx} : OpR X (binaryOp .Mult) rRepS := by
  intro pins s σ H x y v u Q I rx ry h
  obtain ⟨a, n, rfl, rfl, h0, h1, h2, q⟩ := h
  obtain ⟨t, rfl⟩ := rx
  obtain ⟨t', rfl⟩ := ry
  have hz := repS_size a h0
  have hm : a.length * n.toNat ≤ 1000 * 1000 := Nat.mul_le_mul h2 (by omega)
  have hs : (repS a n).length ≤ sizeLine := by rw [hz]; exact Nat.le_trans hm (by decide)
  refine P.mul_str ?_ (fun _ _ => ?_) (fun _ _ => ?_) ?_
  · rw [decide_eq_false (by omega), decide_eq_false (by omega)]; rfl
  · have hp : 0 < n := by omega
    have : (1000 : Int) ≤ (2 ^ 63 - 1) / n := by
      rw [Int.le_ediv_iff_mul_le hp]
      omega
    omega
  · unfold Builtin.Str.tooLong
    rw [decide_eq_false]
    have : (1000 * 1000 : Nat) ≤ sizeLine := by decide
    omega
  · have fin : ∀ t2 tk, EP X pins σ Q (.str (repS a n) t2) { s with toks := tk } := fun t2 tk => ⟨.str (repS a n), H, I.tok _, ⟨_, rfl⟩, q⟩
    unfold repS at fin hs
    by_cases c1 : n < 1
    · simp only [if_pos c1] at fin hs ⊢
      exact ⟨hs, fin _ _⟩
    · simp only [if_neg c1] at fin hs ⊢
      by_cases c2 : (n == 1 || a.length == 0) = true
      · simp only [if_pos c2] at fin ⊢
        exact fin _ _
      · simp only [if_neg c2] at fin hs ⊢
        exact ⟨hs, fin _ _⟩
def bMulX : B2 := fun x y S Q => match x, y with
  | .d (.int i), .d (.int j) => CMul i j ∧ Q (.d (.int (i * j))) S
  | .d (.str a), .d (.int n) => 0 ≤ n ∧ n ≤ 1000 ∧ a.length ≤ 1000 ∧ Q (.d (.str (repS a n))) S
  | .m a, .d (.int k) => ∃ xs ys, S a = some (.lst xs) ∧ allD xs = some ys ∧ 0 ≤ k ∧ k ≤ 1000 ∧ xs.length ≤ 1000 ∧ Q (.d (.list (List.replicate k.toNat ys).flatten)) S
  | _, _ => False
def rMulX : R2 := fun x y H Q => rI CMul (fun i j => .int (i * j)) x y H Q ∨ (rRepS x y H Q ∨ rRep x y H Q)
theorem op_mulX {X : Cx} : OpR X (binaryOp .Mult) rMulX := op_mul.or (op_repS.or op_rep)
section
variable {K : PySem.W.Frag}
theorem dpAll_rep {H : Hp} {vs : List V} {xs : List PyData} (h : DpAll K H vs xs) : ∀ n : Nat, DpAll K H (List.replicate n vs).flatten (List.replicate n xs).flatten
  | 0 => .nil
  | n + 1 => by
    rw [List.replicate_succ, List.replicate_succ, List.flatten_cons, List.flatten_cons]
    exact dpAll_append h (dpAll_rep h n)
theorem sim_mulX : SimR2 K rMulX bMulX := fun x y vx vy S T H Qm Q k rx ry o q => by
  unfold bMulX at q
  split at q
  · cases rx; cases ry
    exact .inl ⟨_, _, rfl, rfl, q.1, o (.d (.int _)) _ S H Ev.rfl' k (Dp.int _) q.2⟩
  · cases rx; cases ry
    exact .inr (.inl ⟨_, _, rfl, rfl, q.1, q.2.1, q.2.2.1, o (.d (.str _)) _ S H Ev.rfl' k (Dp.str _) q.2.2.2⟩)
  · rename_i a n
    obtain ⟨xs, ys, ea, ed, h0, h1, h2, q⟩ := q
    cases rx; cases ry
    obtain ⟨vs, hv, rr⟩ := k.lst ea
    have hn : n.toNat ≤ 1000 := by omega
    have hm : xs.length * n.toNat ≤ 1000 * 1000 := Nat.mul_le_mul h2 hn
    refine .inr (.inr ⟨_, _, vs, rfl, rfl, hv, by omega, by omega, ?_, fun p np => ?_⟩)
    · rw [← rr.length]
      exact Nat.le_trans hm (by decide)
    · exact o _ _ S _ (ev_new np) (k.new np) (new_lst k np (dpAll_rep (rr.all ed) _)) q
  · exact q.elim

/-! ### ord, isinstance, join -/
def bOrd : BL := fun rs S Q => match rs with
  | [.d (.str x)] => x.length = 1 ∧ Q (.d (.int (x.cps.getD 0 0 : Nat))) S
  | _ => False
theorem sim_ord : SimRL K (fun xs H Q => ∃ x, xs = [.str x] ∧ x.length = 1 ∧ Q (.int (x.cps.getD 0 0 : Nat)) H) bOrd := fun xs vs S T H Qm Q k r o q => by
  unfold bOrd at q
  split at q
  · cases r with
    | cons rx rt =>
      cases rt
      cases rx
      exact ⟨_, rfl, q.1, o (.d (.int _)) _ S H Ev.rfl' k (Dp.int _) q.2⟩
  · exact q.elim
/-- of what built-in class a value is -/
def isTy (S : Sto) : MV → String → Prop
  | .d (.list _), n => n = "list"
  | .d (.tuple _), n => n = "tuple"
  | .d (.str _), n => n = "str"
  | .d (.int _), n => n = "int"
  | .m a, n => n = "list" ∧ ∃ xs, S a = some (.lst xs)
  | _, _ => False
def eIsi (n : String) (me : CE) : CE := fun ρ S Q X => me ρ S (fun x S1 => isTy S1 x n ∧ Q (.d (.bool true)) S1) X
theorem sq_ty {H : Hp} {a : Addr} {xs : List V} (h : SqL K H a xs) : TyX K H (.ref a) (.type "list") := by
  rcases h with (h | ⟨o, h⟩) | h
  · exact .base (.lst h)
  · exact .base (.frz h)
  · obtain ⟨o, items, n, h1, h2, _⟩ := h
    exact .kList h1 h2
theorem sqt_ty {H : Hp} {a : Addr} {xs : List V} (h : SqT K H a xs) : TyX K H (.ref a) (.type "tuple") := by
  rcases h with (h | ⟨o, h⟩) | h
  · exact .base (.tup h)
  · exact .fTuple h
  · obtain ⟨o, items, n, h1, h2, _⟩ := h
    exact .kTuple h1 h2
theorem sim_isi {W : WX} {n : String} {te : TE} {me : CE} (he : SimE K W te me) : SimE K W (tCB (rIsi K) (tCons te (tCons (tC (.ty n)) tNil))) (eIsi n me) := fun ρ σ S T H Qm xm Q nn k o ox q =>
  he ρ σ S T H _ xm _ nn k (fun x vx S1 H1 e1 k1 rx ⟨ht, hq⟩ => by
    refine ⟨vx, .ty n, .type n, .type n, true, rfl, .ty n, ?_, if_pos (beq_self_eq_true _), o (.d (.bool true)) _ S1 H1 e1 k1 (Dp.bl true) hq⟩
    unfold isTy at ht
    split at ht
    · subst ht
      cases rx with
      | lst hs ha => exact sq_ty (fz_same.seq hs)
    · subst ht
      cases rx with
      | tup hs ha => exact sqt_ty (fz_tup hs)
    · subst ht
      cases rx
      exact .base (.str _)
    · subst ht
      cases rx
      exact .base (.int _)
    · obtain ⟨rfl, xs, ea⟩ := ht
      cases rx
      obtain ⟨vs, hv, _⟩ := k1.lst ea
      exact .base (.lst hv)
    · exact ht.elim) ox q
def strsOf : List MV → Option (List Str)
  | [] => some []
  | .d (.str x) :: r => (strsOf r).map (x :: ·)
  | _ :: _ => none
theorem rvs_strs {U : Sto} {H : Hp} : ∀ {rs : List MV} {ys : List Str} {vs : List V}, strsOf rs = some ys → RVs K U H rs vs → vs = ys.map V.str
  | [], ys, _, e, h => by cases e; cases h; rfl
  | .d (.str x) :: r, ys, _, e, h => by
    have e' : (strsOf r).map (x :: ·) = some ys := e
    cases h with
    | cons h1 h2 =>
      cases h1
      cases q : strsOf r with
      | none => rw [q] at e'; cases e'
      | some zs =>
        rw [q] at e'
        cases e'
        rw [rvs_strs q h2]
        rfl
  | .d .none :: r, ys, _, e, h => by cases e
  | .d (.bool _) :: r, ys, _, e, h => by cases e
  | .d (.int _) :: r, ys, _, e, h => by cases e
  | .d (.list _) :: r, ys, _, e, h => by cases e
  | .d (.tuple _) :: r, ys, _, e, h => by cases e
  | .d (.dict _) :: r, ys, _, e, h => by cases e
  | .m _ :: r, ys, _, e, h => by cases e
abbrev rJoin (K : PySem.W.Frag) : V → List V → Hp → VK → Prop := fun x xs H Q => ∃ a p, ∃ ys : List Str, x = .str a ∧ xs = [.ref p] ∧ (SqL K H p (ys.map V.str) ∨ SqT K H p (ys.map V.str)) ∧ (ys.map (·.length)).sum + ys.length * a.length ≤ 16777216 ∧ Q (.str (Txt.join a ys)) H
def eJoin (mo me : CE) : CE := fun ρ S Q X => mo ρ S (fun x S1 => ∃ a, x = .d (.str a) ∧ me ρ S1 (fun y S2 => ∃ xs ys, seqOf S2 y = some xs ∧ strsOf xs = some ys ∧ (ys.map (·.length)).sum + ys.length * a.length ≤ 16777216 ∧ Q (.d (.str (Txt.join a ys))) S2) X) X
theorem sim_join {W : WX} {to te : TE} {mo me : CE} (ho : SimE K W to mo) (he : SimE K W te me) : SimE K W (tM1 (rJoin K) to te) (eJoin mo me) := fun ρ σ S T H Qm xm Q nn k o ox q =>
  ho ρ σ S T H _ xm _ nn k (fun x vx S1 H1 e1 k1 rx ⟨a, ex, hq⟩ => by
    subst ex
    cases rx
    refine ⟨⟨a, rfl⟩, he ρ σ S1 T H1 _ xm _ (nn.ev e1) k1 (fun y vy S2 H2 e2 k2 ry ⟨xs, ys, es, et, hl, hq2⟩ => ?_) (ox.go e1) hq⟩
    obtain ⟨p, vs, rfl, hs, rr⟩ := rv_seq k2 ry es
    rw [rvs_strs et rr] at hs
    exact ⟨a, p, ys, rfl, rfl, hs, hl, o (.d (.str _)) _ S2 H2 (e1.trans e2) k2 (Dp.str _) hq2⟩) ox q

/-! ### range with a step, enumerate -/
def rng3 (lo c : Int) (n : Nat) : List MV := (List.range n).map fun i => .d (.int (lo + (i : Nat) * c))
def iRange3 (ma : CA) : CI := fun ρ S Q X => ma ρ S (fun rs S1 => match rs with
  | [.d (.int i), .d (.int j), .d (.int c)] => ∃ n, RgC i j c n ∧ Q ⟨rng3 i c n, fun _ => True⟩ S1
  | _ => False) X
theorem rng3_get {lo c : Int} {n i : Nat} (h : i < n) : (rng3 lo c n)[i]? = some (.d (.int (lo + (i : Nat) * c))) := by
  unfold rng3
  rw [List.getElem?_map, List.getElem?_range h]
  rfl
theorem wk_rng3 {lo c : Int} {n : Nat} {U : Sto} {H : Hp} : Wk K ⟨rng3 lo c n, fun _ => True⟩ (Itc lo c n) U H := by
  have hl : (rng3 lo c n).length = n := by unfold rng3; rw [List.length_map, List.length_range]
  refine ⟨fun _ => True, YFn fun i => .int (lo + (i : Nat) * c), ?_, fun _ _ _ _ _ _ => trivial, ?_⟩
  · show Walk _ (rng3 lo c n).length _ _
    rw [hl]
    exact walk_rangeC
  · rintro S' T' H' i x H2 ev ok _ hi ⟨rfl, rfl⟩
    have hi' : i < n := by rw [← hl]; exact hi
    exact ⟨Ev.rfl', ok, fun _ _ z => z, _, rng3_get hi', Dp.int _⟩
theorem sim_range3 {W : WX} {t : TA} {m : CA} (h : SimA K W t m) : SimI K W (iRng3 t) (iRange3 m) := fun ρ σ S T H Qm xm R n k o ox q =>
  h ρ σ S T H _ xm _ n k (fun rs vs S1 H1 e1 k1 rr q => by
    split at q
    · obtain ⟨n, h1, q⟩ := q
      cases rr with
      | cons r rt =>
        cases rt with
        | cons r2 rt =>
          cases rt with
          | cons r3 rt =>
            cases rt
            cases r
            cases r2
            cases r3
            exact ⟨_, _, _, n, rfl, h1, o _ _ S1 H1 e1 k1 wk_rng3 q⟩
    · exact q.elim) ox q
def enumD (xs : List PyData) : List MV := (List.range xs.length).map fun i => .d (.tuple [.int (i : Nat), xs.getD i .none])
def iEnumD (ma : CA) : CI := fun ρ S Q X => ma ρ S (fun rs S1 => match rs with
  | [.d (.list xs)] => Q ⟨enumD xs, fun _ => True⟩ S1
  | _ => False) X
theorem sim_enum {W : WX} {t : TA} {m : CA} (h : SimA K W t m) : SimI K W (iEnum K t) (iEnumD m) := fun ρ σ S T H Qm xm R n k o ox q =>
  h ρ σ S T H _ xm _ n k (fun rs vs S1 H1 e1 k1 rr q => by
    split at q
    · rename_i xs
      cases rr with
      | cons r rt =>
        cases rt
        cases r with
        | lst hs ha =>
          rename_i a us
          have hl := dpAll_len ha
          have le : (enumD xs).length = us.length := by unfold enumD; rw [List.length_map, List.length_range, hl]
          refine ⟨a, us, rfl, fz_same.seq hs, o _ _ S1 H1 e1 k1 ⟨_, _, by show Walk _ (enumD xs).length _ _; rw [le]; exact walk_enum, fun U T' H ev _ _ => fz_same.seq (Same.seq ev hs), ?_⟩ q⟩
          rintro S' T' H' i x H2 ev ok _ hi ⟨P, u, v, rfl, nP, rfl, hu, hv⟩
          cases hu
          obtain ⟨d, hd, dd⟩ := dpAll_get ha hv
          refine ⟨ev_new nP, ok.new nP, fun b o z => by rw [upd_ne (ne_of_none z nP)]; exact z, .d (.tuple [.int (i : Nat), d]), ?_, ?_⟩
          · unfold enumD
            have hi' : i < xs.length := (List.getElem?_eq_some_iff.mp hd).1
            rw [List.getElem?_map, List.getElem?_range hi']
            simp [List.getD, hd]
          · exact new_tup ok nP (.cons (.int _) (.cons (dp_mono ev _ _ dd) .nil))
    · exact q.elim) ox q
/-- a new list, to be changed -/
def bAddM : B2 := fun x y S Q => ∃ a b, lstOf S x = some a ∧ lstOf S y = some b ∧ a.length + b.length ≤ sizeLine ∧ ∀ p, S p = none → Q (.m p) (sset S p (.lst (a ++ b)))
theorem sim_addM : SimR2 K (rAddA K) bAddM := fun x y vx vy S T H Qm Q k rx ry o ⟨a, b, ea, eb, hl, q⟩ => by
  obtain ⟨p1, v1, rfl, h1, r1⟩ := rv_lst k rx ea
  obtain ⟨p2, v2, rfl, h2, r2⟩ := rv_lst k ry eb
  have l1 := r1.length
  have l2 := r2.length
  refine .inr (.inr (.inl ⟨p1, p2, v1, v2, rfl, rfl, h1, h2, by omega, fun p np => ?_⟩))
  obtain ⟨k2, e2⟩ := k.newL np (r1.append r2)
  exact o (.m p) _ _ _ e2 k2 rfl (q p (k.free np).1)
end
/-- a, b, c = x, y, z -/
def cPar3 (i j l : Nat) (ma : CA) : CS := fun D ρ S => ma ρ S (fun rs S1 => match rs with
  | [x, y, z] => D.nx (((ρ.set i (some x)).set j (some y)).set l (some z)) S1
  | _ => False) (fun x S' => D.ex x ρ S')
theorem sim_par3 {K : PySem.W.Frag} {W : WX} {ta : TA} {ma : CA} {i j l : Nat} (ha : SimA K W ta ma) : SimS K W (tPar3 i j l ta) (cPar3 i j l ma) := fun ρ σ S T H Dm D n k o h =>
  ha ρ σ S T H _ _ _ n k (fun rs vs S1 H1 e1 k1 rr h1 => by
    split at h1
    · cases rr with
      | cons r1 rt =>
        cases rt with
        | cons r2 rt =>
          cases rt with
          | cons r3 rt =>
            cases rt
            exact ⟨_, _, _, rfl, o.nx _ _ S1 H1 e1 k1 ((((n.ev e1).set r1 i).set r2 j).set r3 l) h1⟩
    · exact h1.elim) (o.xe n) h
end Mi
namespace Mi
open PySem PySem.Spec PyProof.Rows L2
/-! ### methods of the program's classes -/
def clsS : Stmt → Nat → Stmt
  | .ClassDef _ _ _ b _ _ _ _ _ _ _, i => b.getD i (.Pass ⟨0, 0, 0, 0⟩)
  | _, _ => .Pass ⟨0, 0, 0, 0⟩
structure MethAt (K : PySem.W.Frag) (C : Addr) (m q : Str) (st : Stmt) (ps : List Str) (f : Addr) (fd : FuncData) : Prop where
  fn : Fun K m q st f fd
  me : Meth K C m f
  bd : Binds K fd ps []
theorem meth_at {K : PySem.W.Frag} {C : Addr} {m q : Str} {st : Stmt} {ps : List Str} {f : Addr} {od an : Option Addr} {sl : Array (Option Value)} {oc kV doc pm cd ct : Value}
    (a : PySem.W.findIn K (.ref C) m = some (some (.ref f))) (i : PySem.W.isFn K (.ref f) = true) (l : K.lookup f = some ⟨oc, od, .func (PySem.W.fnOf m q (defArgs st) (defBody st) (defScope st) .none kV doc pm an cd ct), sl⟩)
    (c : PySem.W.codeIn K cd q = true) (kp : PySem.W.keepIn K (.ref f) = true)
    (b : ∀ (kV doc pm : Value) (an : Option Addr) (cd ct : Value) (us : List Value), us.length = ps.length → bindArgs (PySem.W.fnOf m q (defArgs st) (defBody st) (defScope st) .none kV doc pm an cd ct) ⟨us, []⟩ = pure (ps.zip us)) :
    MethAt K C m q st ps f (PySem.W.fnOf m q (defArgs st) (defBody st) (defScope st) .none kV doc pm an cd ct) :=
  have F := fun_mk (st := st) l c kp
  ⟨F, ⟨a, i, kp⟩, F.binds b⟩
/-- e.f op= v -/
def cFldAug (C : Addr) (f : Str) (b : B2) (mo me : CE) : CS := fun D ρ S => mo ρ S (fun x S1 => ∃ a fs v, x = .m a ∧ S1 a = some (.ins C fs) ∧ fs.lookup f = some v ∧
  me ρ S1 (fun y S2 => b v y S2 fun z S3 => ∃ gs, S3 a = some (.ins C gs) ∧ gs.length < 1000 ∧ D.nx ρ (sset S3 a (.ins C (putM f z gs)))) (fun x S' => D.ex x ρ S')) (fun x S' => D.ex x ρ S')
section
variable {K : PySem.W.Frag} {W : WX} {to te : TE} {mo me : CE} {C : Addr} {f : Str} {b : B2} {rd : V → V → Hp → VK → Prop}
theorem sim_fldAug (c : Cls K C) (nf : NoAttr K C f) (hr : SimR2 K rd b) (ho : SimE K W to mo) (he : SimE K W te me) : SimS K W (sFldAug K to te rd f) (cFldAug C f b mo me) := fun ρ σ S T H Dm D n k o q =>
  ho ρ σ S T H _ _ _ n k (fun x vx S1 H1 e1 k1 rx ⟨a, fs, v, ex, ea, el, q1⟩ => by
    subst ex
    cases rx
    obtain ⟨dx, gs, hh, pp⟩ := k1.ins ea
    obtain ⟨w, hw, rw'⟩ := fs_look pp el
    refine ⟨a, C, dx, gs, w, rfl, hh, c, nf, hw, ?_⟩
    refine he ρ σ S1 T H1 _ _ _ (n.ev e1) k1 (fun y vy S2 H2 e2 k2 ry q2 => ?_) ((o.xe n).go e1) q1
    refine hr v y w vy S2 T H2 _ _ k2 (rw'.ev e2) ry (fun z vz S3 H3 e3 k3 rz ⟨hs, eb, hl, hq⟩ => ?_) q2
    obtain ⟨dx3, gs3, hh3, pp3⟩ := k3.ins eb
    obtain ⟨k4, e4⟩ := k3.setI (dx := dx3) eb (fs_put (f := f) rz pp3)
    have e14 := ((e1.trans e2).trans e3).trans e4
    exact ⟨dx3, gs3, hh3, by rw [← fs_len pp3]; exact hl, o.nx ρ σ _ _ e14 k4 (n.ev e14) hq⟩) (o.xe n) q
end
end Mi
namespace Mi
open PySem PySem.Spec PyProof.Rows L2
section
variable {K : PySem.W.Frag}
theorem sim_addI : SimR2 K rAdd (bInt fun i j => .int (i + j)) := fun x y vx vy S T H Qm Q k rx ry o q => by
  unfold bInt at q
  split at q
  · cases rx; cases ry
    exact ⟨_, _, rfl, rfl, o (.d (.int _)) _ S H Ev.rfl' k (.int _) q⟩
  · exact q.elim
theorem sim_subI : SimR2 K rSub (bInt fun i j => .int (i - j)) := fun x y vx vy S T H Qm Q k rx ry o q => by
  unfold bInt at q
  split at q
  · cases rx; cases ry
    exact ⟨_, _, rfl, rfl, o (.d (.int _)) _ S H Ev.rfl' k (.int _) q⟩
  · exact q.elim
end
end Mi
namespace Mi
open PySem PySem.Spec PyProof.Rows L2
open PySem.W (ksFn ks_superIn)
/-- the facts of an own error with super().__init__(f'..'), gathered -/
theorem sup_mk {P : Program} {K : PySem.W.Frag} {mg : Str → Option Value} {f : Str} {C fI : Addr} {nm q : Str} {N : Addr} {bs bm : List Value} {sn : List Str} {sub : List Value} {ab : Bool} {col : Option Bool} {dd : Option Addr} {k0 k1 k2 k3 k5 : Option Value}
    {oc : Value} {od : Option Addr} {qual : Str} {params : Arguments} {sc : Scope} {kV doc pm : Value} {an : Option Addr} {cda cc : Addr} {ct : Value} {osl : Array (Option Value)} {p0 p1 p2 p3 p4 q1 q2 q3 q4 : Pos}
    {ccl : Value} {cdd : Option Addr} {vs : Array Value} {ccs : Array (Option Value)} {file : Str} {tf : Tok} {cl : Value} {cld : Option Addr} {csl : Array (Option Value)} {ag : Arg} {z : Str} {j : Nat} {r1 r2 r3 r4 : Pos}
    (xL : K.lookup C = some (excClassObj nm q C N bs bm true sn sub ab col dd k0 k1 k2 k3 k5 "ValueError.__new__")) (rv : PySem.HandSPX.refsVE bm = true)
    (sa : PySem.W.findIn K (.ref C) "__setattr__" = some (some (.builtin "object.__setattr__"))) (exC : PySem.W.subIn K (.ref C) (.type "BaseException") = some true) (tyC : PySem.W.typeIn K (.ref C) = some (.type "type")) (kC : PySem.W.keepIn K (.ref C) = true)
    (nof : PySem.W.findIn K (.ref C) f = some none) (sup : ks_superIn K C C "__init__" = some (some (.builtin "ValueError.__init__"))) (subV : PySem.W.subIn K (.ref C) (.type "ValueError") = some true) (mro : PySem.W.mroIn K C (.ref C) = some true)
    (thp : PySem.W.nsIn K cStatics "thirdparty.any" = some none) (gS : mg "super" = none) (top : (P.main.scope.names.lookup ("super" : Str)).isSome = false)
    (lk : K.lookup fI = some ⟨oc, od, .func (ksFn "__init__" qual params (supBody f (.JoinedStr [.FormattedValue (.Name f r1) (-1) none r2, .Constant (.str z) j r3] r4) p0 p1 p2 p3 p4 q1 q2 q3 q4) sc .none kV doc pm an (.ref cda) ct cc), osl⟩)
    (hcd : PySem.W.codeIn K (.ref cda) qual = true) (S : SupSc sc f) (hag : (params.posonlyargs ++ params.args).head? = some ag) (eag : ag.arg = ("self" : Str))
    (lda : K.lookup cda = some ⟨ccl, cdd, .fields vs, ccs⟩) (hvs : vs[2]? = some (.str file tf)) (hfile : ((P.main.file : Str) == file) = true) (lcc : K.lookup cc = some ⟨cl, cld, .cell (some (.ref C)), csl⟩)
    (hpos : (p2.endLine == p3.line) = true) (hz : z.length ≤ 1000) :
    SupTxt P K mg f C fI (ksFn "__init__" qual params (supBody f (.JoinedStr [.FormattedValue (.Name f r1) (-1) none r2, .Constant (.str z) j r3] r4) p0 p1 p2 p3 p4 q1 q2 q3 q4) sc .none kV doc pm an (.ref cda) ct cc) :=
  { oex := ⟨⟨nm, q, N, bs, bm, sn, sub, ab, col, dd, k0, k1, k2, k3, k5, xL, rv⟩, sa, exC, tyC, kC⟩, nof := nof, sup := sup, subV := subV, mro := mro, thp := thp, gS := gS, top := top,
    fn := ⟨oc, od, qual, params, sc, kV, doc, pm, an, cda, cc, ct, osl, _, p0, p1, p2, p3, p4, q1, q2, q3, q4, ccl, cdd, vs, ccs, file, tf, cl, cld, csl, ag, rfl, lk, hcd, S, hag, eag, lda, hvs, hfile, lcc, hpos, z, j, r1, r2, r3, r4, rfl, hz⟩ }
end Mi
namespace Mi
open PySem PySem.Spec PyProof.Rows L2
theorem kit_ref {K : PySem.W.Frag} {D C : Addr} {b : Bool} (hd : PySem.W.hasDictIn K C = true) (ht : PySem.W.typeIn K (.ref C) = some (.type "type")) (h : PySem.W.subIn K (.ref D) (.ref C) = some b) (ne : b = true ∨ D ≠ C) : kitK K D C = some b := by
  obtain ⟨cd, hc, _⟩ := PySem.W.any_some hd
  unfold kitK PySem.W.kitOne
  by_cases e : ((Value.ref D) == (Value.ref C)) = true
  · rw [if_pos e]
    rcases ne with ne | ne
    · rw [ne]
    · exact absurd (by simpa using e) ne
  · rw [if_neg e]
    have e2 : ((PySem.W.clsIn K C).isSome && PySem.W.typeIn K (.ref C) == some (.type "type")) = true := by rw [hc, ht] <;> rfl
    show (if ((PySem.W.clsIn K C).isSome && PySem.W.typeIn K (.ref C) == some (.type "type")) = true then PySem.W.subIn K (.ref D) (.ref C) else none) = some b
    rw [if_pos e2]
    exact h
end Mi
namespace Mi
open PySem PySem.Spec PyProof.Rows L2

/-! ### deeds, as Lean's own -/
structure Sg where
  h : Int
  n : Int
  i : Int
deriving DecidableEq
inductive Act where
  | put (after : Option Sg) (text : Str)
  | cut (ss : List Sg)
  | mark (f l : Sg) (v : Str)
  | toggle (n : Int)
  | note
  | leave
deriving DecidableEq
structure Deed where
  hand : Int
  num : Int
  clock : Int
  seen : List Int
  act : Act
deriving DecidableEq
def sgD (s : Sg) : PyData := .tuple [.int s.h, .int s.n, .int s.i]
def opD : Option Sg → PyData
  | none => .none
  | some s => sgD s
def acD : Act → PyData
  | .put a t => .tuple [.str "put", opD a, .str t]
  | .cut ss => .tuple [.str "cut", .tuple (ss.map sgD)]
  | .mark f l v => .tuple [.str "mark", sgD f, sgD l, .str v]
  | .toggle n => .tuple [.str "toggle", .int n]
  | .note => .tuple [.str "note"]
  | .leave => .tuple [.str "leave"]
abbrev vecD (xs : List Int) : PyData := .tuple (xs.map .int)
def deD (d : Deed) : PyData := .tuple [.int d.hand, .int d.num, .int d.clock, vecD d.seen, acD d.act]

/-! sizes -/
def Small (i : Int) : Prop := -99999 ≤ i ∧ i ≤ 99999
def StOk (z : Str) : Prop := z.cps.all (· < 0x110000) = true ∧ z.cps.size ≤ 8
structure Sg.Ok (s : Sg) : Prop where
  h : Small s.h
  n : Small s.n
  i : Small s.i
def Act.Ok : Act → Prop
  | .put a t => (∀ s, a = some s → s.Ok) ∧ StOk t
  | .cut ss => (∀ s ∈ ss, s.Ok) ∧ ss.length ≤ 8
  | .mark f l v => f.Ok ∧ l.Ok ∧ StOk v
  | .toggle n => Small n
  | .note => True
  | .leave => True
structure Deed.Ok (d : Deed) : Prop where
  hand : Small d.hand
  num : Small d.num
  clock : Small d.clock
  seen : (∀ x ∈ d.seen, Small x) ∧ d.seen.length ≤ 8
  act : d.act.Ok
theorem small_sm {i : Int} (h : Small i) : Sm 0 0 (.int i) := sm_int (by have := h.1; omega) (by have := h.2; omega)
theorem st_sm' {z : Str} (h : StOk z) : Sm 0 8 (.str z) := (sm_str h.1).mono (Nat.le_refl _) h.2
theorem sg_sm {s : Sg} (h : s.Ok) : Sm 1 3 (sgD s) := by
  refine sm_tupleN (D := 0) (B := 0) (n := 3) ?_ (Nat.le_refl _)
  intro y hy
  simp at hy
  rcases hy with rfl | rfl | rfl
  · exact small_sm h.h
  · exact small_sm h.n
  · exact small_sm h.i
theorem sgs_sm {ss : List Sg} (h : ∀ s ∈ ss, s.Ok) (hl : ss.length ≤ 8) : Sm 2 32 (.tuple (ss.map sgD)) := by
  refine sm_tupleN (D := 1) (B := 3) (n := 8) ?_ (by rw [List.length_map]; exact hl)
  intro y hy
  obtain ⟨x, hx, rfl⟩ := List.mem_map.mp hy
  exact sg_sm (h x hx)
theorem lit_sm {z : Str} (h : z.cps.all (· < 0x110000) = true) (hl : z.cps.size ≤ 32) : Sm 2 32 (.str z) := (sm_str h).mono (by decide) hl
theorem vec_sm {xs : List Int} (h : ∀ x ∈ xs, Small x) (hl : xs.length ≤ 8) : Sm 1 8 (vecD xs) := by
  refine sm_tupleN (D := 0) (B := 0) (n := 8) ?_ (by rw [List.length_map]; exact hl)
  intro y hy
  obtain ⟨x, hx, rfl⟩ := List.mem_map.mp hy
  exact small_sm (h x hx)
theorem op_sm {a : Option Sg} (h : ∀ s, a = some s → s.Ok) : Sm 2 32 (opD a) := by
  cases a with
  | none => exact sm_none.mono (by decide) (by decide)
  | some s => exact (sg_sm (h s rfl)).mono (by decide) (by decide)
theorem ac_sm {a : Act} (h : a.Ok) : Sm 3 132 (acD a) := by
  have t4 : ∀ xs : List PyData, (∀ x ∈ xs, Sm 2 32 x) → xs.length ≤ 4 → Sm 3 132 (.tuple xs) := fun xs hx hl => sm_tupleN (D := 2) (B := 32) (n := 4) hx hl
  cases a with
  | put a t =>
    refine t4 _ ?_ (by simp)
    intro y hy
    simp at hy
    rcases hy with rfl | rfl | rfl
    · exact lit_sm (by decide +kernel) (by decide +kernel)
    · exact op_sm h.1
    · exact (st_sm' h.2).mono (by decide) (by decide)
  | cut ss =>
    refine t4 _ ?_ (by simp)
    intro y hy
    simp at hy
    rcases hy with rfl | rfl
    · exact lit_sm (by decide +kernel) (by decide +kernel)
    · exact sgs_sm h.1 h.2
  | mark f l v =>
    refine t4 _ ?_ (by simp)
    intro y hy
    simp at hy
    rcases hy with rfl | rfl | rfl | rfl
    · exact lit_sm (by decide +kernel) (by decide +kernel)
    · exact (sg_sm h.1).mono (by decide) (by decide)
    · exact (sg_sm h.2.1).mono (by decide) (by decide)
    · exact (st_sm' h.2.2).mono (by decide) (by decide)
  | toggle n =>
    refine t4 _ ?_ (by simp)
    intro y hy
    simp at hy
    rcases hy with rfl | rfl
    · exact lit_sm (by decide +kernel) (by decide +kernel)
    · exact (small_sm h).mono (by decide) (by decide)
  | note =>
    refine t4 _ ?_ (by simp)
    intro y hy
    simp at hy
    subst hy
    exact lit_sm (by decide +kernel) (by decide +kernel)
  | leave =>
    refine t4 _ ?_ (by simp)
    intro y hy
    simp at hy
    subst hy
    exact lit_sm (by decide +kernel) (by decide +kernel)
theorem de_sm {d : Deed} (h : d.Ok) : Sm 4 665 (deD d) := by
  refine sm_tupleN (D := 3) (B := 132) (n := 5) ?_ (Nat.le_refl _)
  intro y hy
  simp at hy
  rcases hy with rfl | rfl | rfl | rfl | rfl
  · exact (small_sm h.hand).mono (by decide) (by decide)
  · exact (small_sm h.num).mono (by decide) (by decide)
  · exact (small_sm h.clock).mono (by decide) (by decide)
  · exact (vec_sm h.seen.1 h.seen.2).mono (by decide) (by decide)
  · exact ac_sm h.act
abbrev hiD (h : List Deed) : PyData := .list (h.map deD)
theorem hi_shaped {h : List Deed} (ok : ∀ d ∈ h, d.Ok) : SeqAt.shaped (hiD h) = true := by
  refine (sm_list (D := 4) (B := 665) ?_).shaped (by decide)
  intro y hy
  obtain ⟨x, hx, rfl⟩ := List.mem_map.mp hy
  exact de_sm (ok x hx)
theorem nil_shaped : SeqAt.shaped (.list []) = true := (sm_list (D := 0) (B := 0) (xs := []) fun x hx => by cases hx).shaped (by decide)

/-! == of them -/
theorem int_beq (i j : Int) : (i == j) = decide (i = j) := by rw [Bool.eq_iff_iff, beq_iff_eq, decide_eq_true_eq]
theorem sg_eqv (a b : Sg) : PyData.eqv (sgD a) (sgD b) = decide (a = b) := by
  obtain ⟨a1, a2, a3⟩ := a
  obtain ⟨b1, b2, b3⟩ := b
  simp only [sgD, PyData.eqv, PyData.eqvAll, int_beq, Bool.and_true]
  rw [Bool.eq_iff_iff]
  simp
theorem sgs_eqv : ∀ xs ys : List Sg, PyData.eqvAll (xs.map sgD) (ys.map sgD) = decide (xs = ys)
  | [], [] => by simp [PyData.eqvAll]
  | [], _ :: _ => by simp [PyData.eqvAll]
  | _ :: _, [] => by simp [PyData.eqvAll]
  | x :: xs, y :: ys => by
    rw [List.map_cons, List.map_cons, PyData.eqvAll, sg_eqv, sgs_eqv xs ys, Bool.eq_iff_iff]
    simp
theorem ints_eqv : ∀ xs ys : List Int, PyData.eqvAll (xs.map .int) (ys.map .int) = decide (xs = ys)
  | [], [] => by simp [PyData.eqvAll]
  | [], _ :: _ => by simp [PyData.eqvAll]
  | _ :: _, [] => by simp [PyData.eqvAll]
  | x :: xs, y :: ys => by
    rw [List.map_cons, List.map_cons, PyData.eqvAll, ints_eqv xs ys, PyData.eqv, Bool.eq_iff_iff]
    simp
theorem op_eqv (a b : Option Sg) : PyData.eqv (opD a) (opD b) = decide (a = b) := by
  cases a with
  | none => cases b with
    | none => simp [opD, PyData.eqv]
    | some b => simp [opD, sgD, PyData.eqv]
  | some a => cases b with
    | none => simp [opD, sgD, PyData.eqv]
    | some b =>
      show PyData.eqv (sgD a) (sgD b) = _
      rw [sg_eqv, Bool.eq_iff_iff]
      simp
theorem str_beq (a b : Str) : (a == b) = decide (a = b) := by
  rw [Bool.eq_iff_iff, beq_iff_eq, decide_eq_true_eq]
theorem tag_ne {x y : Str} {xs ys : List PyData} (h : (x == y) = false) : PyData.eqv (.tuple (.str x :: xs)) (.tuple (.str y :: ys)) = false := by
  simp only [PyData.eqv, PyData.eqvAll, h, Bool.false_and]
theorem tag_eq {x : Str} {xs ys : List PyData} : PyData.eqv (.tuple (.str x :: xs)) (.tuple (.str x :: ys)) = PyData.eqvAll xs ys := by
  simp only [PyData.eqv, PyData.eqvAll, beq_self_eq_true, Bool.true_and]
theorem eqv_two {a b c d : PyData} : PyData.eqvAll [a, b] [c, d] = (PyData.eqv a c && PyData.eqv b d) := by simp only [PyData.eqvAll, Bool.and_true]
theorem eqv_three {a b c d e f : PyData} : PyData.eqvAll [a, b, c] [d, e, f] = (PyData.eqv a d && (PyData.eqv b e && PyData.eqv c f)) := by simp only [PyData.eqvAll, Bool.and_true]
theorem eqv_one {a b : PyData} : PyData.eqvAll [a] [b] = PyData.eqv a b := by simp only [PyData.eqvAll, Bool.and_true]
theorem eqv_str {a b : Str} : PyData.eqv (.str a) (.str b) = decide (a = b) := by simp only [PyData.eqv]; exact str_beq a b
theorem eqv_int' {a b : Int} : PyData.eqv (.int a) (.int b) = decide (a = b) := by simp only [PyData.eqv]; exact int_beq a b
theorem eqv_sgs (xs ys : List Sg) : PyData.eqv (.tuple (xs.map sgD)) (.tuple (ys.map sgD)) = decide (xs = ys) := by simp only [PyData.eqv]; exact sgs_eqv xs ys
theorem ac_eqv (a b : Act) : PyData.eqv (acD a) (acD b) = decide (a = b) := by
  cases a with
  | put a t =>
    cases b with
    | put a' t' =>
      refine tag_eq.trans ?_
      rw [eqv_two, op_eqv, eqv_str, Bool.eq_iff_iff, Bool.and_eq_true, decide_eq_true_eq, decide_eq_true_eq, decide_eq_true_eq, Act.put.injEq]
    | cut ss' => exact (tag_ne (by decide +kernel)).trans (decide_eq_false fun e => by cases e).symm
    | mark f' l' v' => exact (tag_ne (by decide +kernel)).trans (decide_eq_false fun e => by cases e).symm
    | toggle n' => exact (tag_ne (by decide +kernel)).trans (decide_eq_false fun e => by cases e).symm
    | note => exact (tag_ne (by decide +kernel)).trans (decide_eq_false fun e => by cases e).symm
    | leave => exact (tag_ne (by decide +kernel)).trans (decide_eq_false fun e => by cases e).symm
  | cut ss =>
    cases b with
    | put a' t' => exact (tag_ne (by decide +kernel)).trans (decide_eq_false fun e => by cases e).symm
    | cut ss' =>
      refine tag_eq.trans ?_
      rw [eqv_one, eqv_sgs, Bool.eq_iff_iff, decide_eq_true_eq, decide_eq_true_eq, Act.cut.injEq]
    | mark f' l' v' => exact (tag_ne (by decide +kernel)).trans (decide_eq_false fun e => by cases e).symm
    | toggle n' => exact (tag_ne (by decide +kernel)).trans (decide_eq_false fun e => by cases e).symm
    | note => exact (tag_ne (by decide +kernel)).trans (decide_eq_false fun e => by cases e).symm
    | leave => exact (tag_ne (by decide +kernel)).trans (decide_eq_false fun e => by cases e).symm
  | mark f l v =>
    cases b with
    | put a' t' => exact (tag_ne (by decide +kernel)).trans (decide_eq_false fun e => by cases e).symm
    | cut ss' => exact (tag_ne (by decide +kernel)).trans (decide_eq_false fun e => by cases e).symm
    | mark f' l' v' =>
      refine tag_eq.trans ?_
      rw [eqv_three, sg_eqv, sg_eqv, eqv_str, Bool.eq_iff_iff, Bool.and_eq_true, Bool.and_eq_true, decide_eq_true_eq, decide_eq_true_eq, decide_eq_true_eq, decide_eq_true_eq, Act.mark.injEq]
    | toggle n' => exact (tag_ne (by decide +kernel)).trans (decide_eq_false fun e => by cases e).symm
    | note => exact (tag_ne (by decide +kernel)).trans (decide_eq_false fun e => by cases e).symm
    | leave => exact (tag_ne (by decide +kernel)).trans (decide_eq_false fun e => by cases e).symm
  | toggle n =>
    cases b with
    | put a' t' => exact (tag_ne (by decide +kernel)).trans (decide_eq_false fun e => by cases e).symm
    | cut ss' => exact (tag_ne (by decide +kernel)).trans (decide_eq_false fun e => by cases e).symm
    | mark f' l' v' => exact (tag_ne (by decide +kernel)).trans (decide_eq_false fun e => by cases e).symm
    | toggle n' =>
      refine tag_eq.trans ?_
      rw [eqv_one, eqv_int', Bool.eq_iff_iff, decide_eq_true_eq, decide_eq_true_eq, Act.toggle.injEq]
    | note => exact (tag_ne (by decide +kernel)).trans (decide_eq_false fun e => by cases e).symm
    | leave => exact (tag_ne (by decide +kernel)).trans (decide_eq_false fun e => by cases e).symm
  | note =>
    cases b with
    | put a' t' => exact (tag_ne (by decide +kernel)).trans (decide_eq_false fun e => by cases e).symm
    | cut ss' => exact (tag_ne (by decide +kernel)).trans (decide_eq_false fun e => by cases e).symm
    | mark f' l' v' => exact (tag_ne (by decide +kernel)).trans (decide_eq_false fun e => by cases e).symm
    | toggle n' => exact (tag_ne (by decide +kernel)).trans (decide_eq_false fun e => by cases e).symm
    | note => exact tag_eq.trans (by simp [PyData.eqvAll])
    | leave => exact (tag_ne (by decide +kernel)).trans (decide_eq_false fun e => by cases e).symm
  | leave =>
    cases b with
    | put a' t' => exact (tag_ne (by decide +kernel)).trans (decide_eq_false fun e => by cases e).symm
    | cut ss' => exact (tag_ne (by decide +kernel)).trans (decide_eq_false fun e => by cases e).symm
    | mark f' l' v' => exact (tag_ne (by decide +kernel)).trans (decide_eq_false fun e => by cases e).symm
    | toggle n' => exact (tag_ne (by decide +kernel)).trans (decide_eq_false fun e => by cases e).symm
    | note => exact (tag_ne (by decide +kernel)).trans (decide_eq_false fun e => by cases e).symm
    | leave => exact tag_eq.trans (by simp [PyData.eqvAll])
theorem de_eqv (a b : Deed) : PyData.eqv (deD a) (deD b) = decide (a = b) := by
  obtain ⟨a1, a2, a3, a4, a5⟩ := a
  obtain ⟨b1, b2, b3, b4, b5⟩ := b
  simp only [deD, PyData.eqv, PyData.eqvAll, ints_eqv, ac_eqv, int_beq, Bool.and_true]
  rw [Bool.eq_iff_iff]
  simp
end Mi
namespace Mi
open PySem PySem.Spec PyProof.Rows L2
/-! ### texts as rows of codes, pieces of records -/
def Tx (cs : List Nat) : Str := ⟨cs.toArray⟩
theorem tx_list (cs : List Nat) : (Tx cs).cps.toList = cs := rfl
theorem tx_len (cs : List Nat) : (Tx cs).length = cs.length := by show cs.toArray.size = _; simp
theorem tx_of (z : Str) : z = Tx z.cps.toList := by
  cases z
  simp [Tx]
theorem tx_append (a b : List Nat) : Tx a ++ Tx b = Tx (a ++ b) := by
  show (⟨a.toArray ++ b.toArray⟩ : Str) = ⟨(a ++ b).toArray⟩
  simp
def okc (c : Nat) : Prop := 32 ≤ c ∧ c ≤ 126 ∧ c ≠ 37
def partL (cs : List Nat) (k : Nat) : List Nat := (cs.drop (24 * k)).take 24
def manyL (cs : List Nat) : Nat := (cs.length + 23) / 24
def pieceB (number : Int) (m k : Nat) (p : List Nat) : List Int := [82, (k : Int), (m : Int), number / 256, number % 256, (p.length : Int)] ++ p.map (fun c : Nat => (c : Int)) ++ (List.replicate (25 - p.length) 0 ++ [82])
def piecesL (number : Int) (cs : List Nat) : List (List Int) := (List.range (manyL cs)).map fun k => pieceB number (manyL cs) k (partL cs k)
abbrev rowD (b : List Int) : PyData := .list (b.map .int)
theorem part_len (cs : List Nat) (k : Nat) : (partL cs k).length ≤ 24 := by
  unfold partL
  rw [List.length_take]
  omega
theorem piece_len {number : Int} {m k : Nat} {p : List Nat} (h : p.length ≤ 24) : (pieceB number m k p).length = 32 := by
  unfold pieceB
  simp only [List.length_append, List.length_map, List.length_cons, List.length_nil, List.length_replicate]
  omega
def signs : Str := " !\"#$&'()*+,-./0123456789:;<=>?@ABCDEFGHIJKLMNOPQRSTUVWXYZ[\\]^_`abcdefghijklmnopqrstuvwxyz{|}~"
theorem signs_ok : ∀ c ∈ signs.cps.toList, okc c := by
  have h : signs.cps.toList.all (fun c => decide (32 ≤ c) && (decide (c ≤ 126) && decide (c ≠ 37))) = true := by decide +kernel
  intro c hc
  have := List.all_eq_true.mp h c hc
  simpa [okc] using this
theorem signs_len : signs.length = 94 := by decide +kernel
theorem cut_part (cs : List Nat) (k : Nat) : cutS (Tx cs) (some (24 * (k : Int))) (some (24 * (k : Int) + 24)) = Tx (partL cs k) := by
  unfold cutS
  have h1 : HT.sIx (Tx cs).length 0 (some (24 * (k : Int))) = min (24 * k) cs.length := by
    have := HT.sIx_nat (Tx cs).length 0 (24 * k)
    rw [tx_len] at this ⊢
    rw [← this]
    congr 2
  have h2 : HT.sIx (Tx cs).length (Tx cs).length (some (24 * (k : Int) + 24)) = min (24 * k + 24) cs.length := by
    have := HT.sIx_nat (Tx cs).length (Tx cs).length (24 * k + 24)
    rw [tx_len] at this ⊢
    rw [← this]
    congr 2
  rw [h1, h2, tx_list]
  unfold Tx partL
  congr 2
  by_cases h : 24 * k ≤ cs.length
  · rw [Nat.min_eq_left h]
    apply List.ext_getElem?
    intro i
    rw [List.getElem?_take, List.getElem?_take]
    by_cases hi : i < 24
    · rw [if_pos hi]
      by_cases hj : i < min (24 * k + 24) cs.length - 24 * k
      · rw [if_pos hj]
      · rw [if_neg hj]
        exact (List.getElem?_eq_none (by rw [List.length_drop]; omega)).symm
    · rw [if_neg hi, if_neg (by omega)]
  · rw [List.drop_of_length_le (by omega), List.drop_of_length_le (by omega)]
    simp
theorem rep_zero (n : Nat) : (List.replicate n ([PyData.int 0] : List PyData)).flatten = (List.replicate n (0 : Int)).map .int := by
  induction n with
  | zero => rfl
  | succ n ih => rw [List.replicate_succ, List.flatten_cons, ih, List.replicate_succ]; rfl
theorem row_shaped (b : List Int) (h : ∀ x ∈ b, Small x) : Sm 1 b.length (rowD b) := by
  have := sm_list (D := 0) (B := 0) (xs := b.map PyData.int) (by
    intro x hx
    obtain ⟨i, hi, rfl⟩ := List.mem_map.mp hx
    exact small_sm (h i hi))
  simpa using this
theorem rep_one (c n : Nat) : (List.replicate n (⟨#[c]⟩ : Str).cps.toList).flatten = List.replicate n c := by
  induction n with
  | zero => rfl
  | succ n ih => rw [List.replicate_succ, List.flatten_cons, ih, List.replicate_succ]; rfl
/-! ### what a row of 32 bytes says -/
def lenP (b : List Int) : Nat := (b.getD 5 0).toNat
def codesP (b : List Int) : List Int := (b.drop 6).take (lenP b)
def restP (b : List Int) : List Int := (b.drop (6 + lenP b)).take (25 - lenP b)
def okI (c : Int) : Bool := decide (32 ≤ c) && (decide (c ≤ 126) && decide (c ≠ 37))
def goodP (b : List Int) : Bool := decide (b.getD 0 0 = 82) && (decide (b.getD 31 0 = 82) && (decide (b.getD 1 0 < b.getD 2 0) && (decide (1 ≤ b.getD 5 0) && (decide (b.getD 5 0 ≤ 24) && ((codesP b).all okI && (restP b).all fun c => decide (c = 0))))))
def dueD (b : List Int) : PyData := if goodP b = true then .tuple [.int (b.getD 1 0), .int (b.getD 2 0), .int (256 * b.getD 3 0 + b.getD 4 0), .str (Tx ((codesP b).map Int.toNat))] else .none
/-- a row, as data or as a list of the store -/
def IsRow (S : Sto) (r : MV) (b : List Int) : Prop := r = .d (rowD b) ∨ ∃ a, r = .m a ∧ S a = some (.lst (b.map fun i => .d (.int i)))
theorem due_torn {b : List Int} (h : b.getD 0 0 ≠ 82 ∨ b.getD 31 0 ≠ 82) : dueD b = .none := by
  unfold dueD
  rw [if_neg]
  unfold goodP
  intro g
  simp only [Bool.and_eq_true, decide_eq_true_eq] at g
  rcases h with h | h
  · exact h g.1
  · exact h g.2.1
theorem due_piece {number : Int} {m k : Nat} {p : List Nat} (h0 : 1 ≤ p.length) (h1 : p.length ≤ 24) (hk : k < m) (hn : 0 ≤ number) (ok : ∀ c ∈ p, okc c) :
    dueD (pieceB number m k p) = .tuple [.int (k : Int), .int (m : Int), .int number, .str (Tx p)] := by
  have hl : lenP (pieceB number m k p) = p.length := by
    unfold lenP pieceB
    simp [List.getD]
  have hc : codesP (pieceB number m k p) = p.map fun c : Nat => (c : Int) := by
    unfold codesP
    rw [hl]
    unfold pieceB
    rw [show ([82, (k : Int), (m : Int), number / 256, number % 256, (p.length : Int)] ++ p.map (fun c : Nat => (c : Int)) ++ (List.replicate (25 - p.length) 0 ++ [82])) = [82, (k : Int), (m : Int), number / 256, number % 256, (p.length : Int)] ++ (p.map (fun c : Nat => (c : Int)) ++ (List.replicate (25 - p.length) 0 ++ [82])) by simp]
    rw [List.drop_left' (by rfl), List.take_left' (by simp)]
  have hr : restP (pieceB number m k p) = List.replicate (25 - p.length) 0 := by
    unfold restP
    rw [hl]
    unfold pieceB
    rw [List.drop_left' (by simp; omega), List.take_left' (by simp)]
  have h31 : (pieceB number m k p).getD 31 0 = 82 := by
    unfold pieceB
    rw [← List.append_assoc, List.getD, List.getElem?_append_right (by simp; omega)]
    have : 31 - ([82, (k : Int), (m : Int), number / 256, number % 256, (p.length : Int)] ++ p.map (fun c : Nat => (c : Int)) ++ List.replicate (25 - p.length) 0).length = 0 := by simp; omega
    rw [this]
    rfl
  have hg : goodP (pieceB number m k p) = true := by
    unfold goodP
    rw [hc, hr, h31]
    have a1 : (p.map fun c : Nat => (c : Int)).all okI = true := by
      rw [List.all_map, List.all_eq_true]
      intro c hc
      obtain ⟨o1, o2, o3⟩ := ok c hc
      unfold okI
      simp
      omega
    have a2 : (List.replicate (25 - p.length) (0 : Int)).all (fun c => decide (c = 0)) = true := by
      rw [List.all_eq_true]
      intro c hc
      rw [List.eq_of_mem_replicate hc]
      rfl
    rw [a1, a2]
    unfold pieceB
    simp [List.getD]
    omega
  unfold dueD
  rw [if_pos hg, hc]
  have e : (p.map fun c : Nat => (c : Int)).map Int.toNat = p := by
    rw [List.map_map]
    exact List.map_id'' (fun c => rfl) p
  rw [e]
  unfold pieceB
  simp [List.getD]
  omega
theorem piece_bytes {number : Int} {m k : Nat} {p : List Nat} (h1 : p.length ≤ 24) (hk : k < m) (hm : m ≤ 255) (hn : 0 ≤ number) (hn1 : number < 65536) (ok : ∀ c ∈ p, okc c) : ∀ x ∈ pieceB number m k p, 0 ≤ x ∧ x ≤ 255 := by
  intro x hx
  unfold pieceB at hx
  rcases List.mem_append.mp hx with hx | hx
  · rcases List.mem_append.mp hx with hx | hx
    · simp at hx
      rcases hx with rfl | rfl | rfl | rfl | rfl | rfl <;> omega
    · obtain ⟨c, hc, rfl⟩ := List.mem_map.mp hx
      obtain ⟨o1, o2, o3⟩ := ok c hc
      omega
  · rcases List.mem_append.mp hx with hx | hx
    · rw [List.eq_of_mem_replicate hx]; omega
    · rw [List.mem_singleton] at hx; rw [hx]; omega
theorem rows_shaped {rs : List (List Int)} (h : ∀ r ∈ rs, ∀ x ∈ r, Small x) : SeqAt.shaped (.list (rs.map rowD)) = true := by
  have all : PyData.canLayAll0 (rs.map rowD) = true ∧ PyData.depthAll (rs.map rowD) ≤ 1 := by
    induction rs with
    | nil => simp [PyData.canLayAll0, PyData.depthAll]
    | cons r rs ih =>
      obtain ⟨h1, h2⟩ := ih fun r hr => h r (List.mem_cons_of_mem _ hr)
      have sr := row_shaped r (h r List.mem_cons_self)
      rw [List.map_cons, PyData.canLayAll0, PyData.depthAll]
      exact ⟨by rw [sr.lay, h1]; rfl, by have := sr.deep; omega⟩
  unfold SeqAt.shaped
  rw [PyData.canLay0, PyData.depth, all.1, Bool.true_and, decide_eq_true_eq]
  have := all.2
  omega
theorem rows_nodict (rs : List (List Int)) : (PyData.list (rs.map rowD)).hasDict = false := by
  have one : ∀ r : List Int, PyData.hasDictAll (r.map .int) = false := fun r => by
    induction r with
    | nil => rfl
    | cons x r ih => simp [PyData.hasDictAll, PyData.hasDict, ih]
  unfold PyData.hasDict
  induction rs with
  | nil => rfl
  | cons r rs ih => simp [PyData.hasDictAll, PyData.hasDict, ih, one r]
end Mi
namespace Mi
open PySem PySem.Spec PyProof.Rows L2
/-! ### rows read -/
theorem IsRow.lst {S : Sto} {r : MV} {b : List Int} (h : IsRow S r b) : lstOf S r = some ((b.map PyData.int).map .d) := by
  rcases h with rfl | ⟨a, rfl, e⟩
  · rfl
  · rw [List.map_map]; exact lstOf_m e
theorem IsRow.seq {S : Sto} {r : MV} {b : List Int} (h : IsRow S r b) : seqOf S r = some ((b.map PyData.int).map .d) := by
  rcases h with rfl | ⟨a, rfl, e⟩
  · rfl
  · show (match S a with | some (.lst xs) => some xs | _ => none) = _
    rw [e, List.map_map]
    rfl
theorem IsRow.keep {S S' : Sto} {r : MV} {b : List Int} (h : IsRow S r b) (k : ∀ a o, S a = some o → S' a = some o) : IsRow S' r b := by
  rcases h with rfl | ⟨a, rfl, e⟩
  · exact .inl rfl
  · exact .inr ⟨a, rfl, k _ _ e⟩
theorem IsRow.dat {S : Sto} {r : MV} {b : List Int} (h : IsRow S r b) : datOf S r = some (rowD b) := by
  rcases h with rfl | ⟨a, rfl, e⟩
  · rfl
  · show (match S a with | some (.lst xs) => (allD xs).map PyData.list | _ => none) = _
    rw [e]
    show (allD (b.map fun i => MV.d (.int i))).map PyData.list = _
    rw [show (b.map fun i => MV.d (.int i)) = (b.map PyData.int).map .d by rw [List.map_map]; rfl, allD_map]
    rfl
theorem ix_row {S : Sto} {r : MV} {b : List Int} (h : IsRow S r b) {i : Int} (h0 : 0 ≤ i) (hi : i < b.length) {Q : QE} : bIx r (.d (.int i)) S Q = Q (.d (.int (b.getD i.toNat 0))) S := by
  have e : atI ((b.map PyData.int).map MV.d) i = some (.d (.int (b.getD i.toNat 0))) := by
    obtain ⟨k, rfl⟩ : ∃ k : Nat, i = k := ⟨i.toNat, by omega⟩
    have hk : k < b.length := by omega
    rw [atI_nat', List.getElem?_map, List.getElem?_map, List.getElem?_eq_getElem hk, Int.toNat_natCast, List.getD, List.getElem?_eq_getElem hk]
    rfl
  have key : (∃ xs v, seqOf S r = some xs ∧ atI xs i = some v ∧ Q v S) = Q (.d (.int (b.getD i.toNat 0))) S := by
    apply propext
    constructor
    · rintro ⟨xs, v, e1, e2, q⟩
      rw [h.seq] at e1
      cases e1
      rw [e] at e2
      cases e2
      exact q
    · exact fun q => ⟨_, _, h.seq, e, q⟩
  rcases h with rfl | ⟨a, rfl, ea⟩ <;> exact key
theorem cutL_map {α β : Type} (f : α → β) (xs : List α) (lo hi : Option Int) : cutL (xs.map f) lo hi = (cutL xs lo hi).map f := by
  unfold cutL
  rw [List.length_map, List.map_take, List.map_drop]
theorem sl_row {S : Sto} {r : MV} {b : List Int} (h : IsRow S r b) {lo hi : Option Int} {Q : QE} : bSlice r lo hi S Q = Q (.d (rowD (cutL b lo hi))) S := by
  have key : (∃ xs ys, lstOf S r = some xs ∧ allD (cutL xs lo hi) = some ys ∧ Q (.d (.list ys)) S) = Q (.d (rowD (cutL b lo hi))) S := by
    have e : allD (cutL ((b.map PyData.int).map MV.d) lo hi) = some ((cutL b lo hi).map .int) := by rw [cutL_map, cutL_map, allD_map]
    apply propext
    constructor
    · rintro ⟨xs, v, e1, e2, q⟩
      rw [h.lst] at e1
      cases e1
      rw [e] at e2
      cases e2
      exact q
    · exact fun q => ⟨_, _, h.lst, e, q⟩
  rcases h with rfl | ⟨a, rfl, ea⟩ <;> exact key
theorem sIx_some (n d : Nat) {i : Int} (h : 0 ≤ i) : HT.sIx n d (some i) = min i.toNat n := by
  obtain ⟨k, rfl⟩ : ∃ k : Nat, i = k := ⟨i.toNat, by omega⟩
  rw [Int.toNat_natCast]
  exact HT.sIx_nat n d k
theorem sIx_no (n d : Nat) : HT.sIx n d none = d := rfl
theorem cut_both {α : Type} (xs : List α) {i j : Int} (h : 0 ≤ i) (hj : j ≤ xs.length) (hi : i ≤ j) : cutL xs (some i) (some j) = (xs.drop i.toNat).take (j.toNat - i.toNat) := by
  unfold cutL
  rw [sIx_some _ _ h, sIx_some _ _ (by omega), Nat.min_eq_left (by omega), Nat.min_eq_left (by omega)]
theorem cut_to {α : Type} (xs : List α) {j : Int} (h : 0 ≤ j) (hj : j ≤ xs.length) : cutL xs none (some j) = xs.take j.toNat := by
  unfold cutL
  rw [sIx_some _ _ h, sIx_no, Nat.min_eq_left (by omega)]
  simp
theorem cut_from {α : Type} (xs : List α) {i : Int} (h : 0 ≤ i) (hi : i ≤ xs.length) : cutL xs (some i) none = xs.drop i.toNat := by
  unfold cutL
  rw [sIx_some _ _ h, sIx_no, Nat.min_eq_left (by omega)]
  exact List.take_of_length_le (by rw [List.length_drop]; exact Nat.le_refl _)
theorem cmp_ii {fi : Int → Int → Bool} {fd : PyData → PyData → Bool} {i j : Int} {S : Sto} {Q : QE} : bCmp fi fd (.d (.int i)) (.d (.int j)) S Q = Q (.d (.bool (fi i j))) S := rfl
end Mi
namespace Mi
open PySem PySem.Spec PyProof.Rows L2
/-! ### disks, as plain lists -/
structure DSt where
  bs : List (List Int)
  ps : List (Nat × List Int)
  cuts : Nat
  left : Option Nat
  torn : List Int
def Byt (b : List Int) : Prop := b.length = 32 ∧ ∀ x ∈ b, 0 ≤ x ∧ x ≤ 255
structure DGood (d : DSt) : Prop where
  n0 : 8 ≤ d.bs.length
  n1 : d.bs.length ≤ 400
  bs : ∀ b ∈ d.bs, Byt b
  ps : ∀ e ∈ d.ps, e.1 < d.bs.length ∧ Byt e.2
  pl : d.ps.length ≤ 100000
def readD (bs : List (List Int)) (ps : List (Nat × List Int)) (k : Nat) : List Int := ps.foldl (fun f e => if e.1 = k then e.2 else f) (bs.getD k [])
def flushB (bs : List (List Int)) (ps : List (Nat × List Int)) : List (List Int) := ps.foldl (fun bs e => bs.set e.1 e.2) bs
def tearB (t : Int) (b old : List Int) : List Int := b.take t.toNat ++ old.drop t.toNat
def cutB : List (List Int) → List (Nat × List Int) → List Int → List (List Int)
  | bs, e :: ps, t :: ts => cutB (bs.set e.1 (tearB t e.2 (bs.getD e.1 []))) ps ts
  | bs, _, _ => bs
def TornOk (t : List Int) : Prop := ∀ x ∈ t, 0 ≤ x ∧ x ≤ 32
/-- what else is there stays -/
structure Ext (S : Sto) (F : List Addr) (S' : Sto) (F' : List Addr) : Prop where
  keep : ∀ b o, b ∉ F → S b = some o → S' b = some o
  fresh : ∀ b, b ∈ F' → b ∈ F ∨ S b = none
theorem Ext.refl {S : Sto} {F : List Addr} : Ext S F S F := ⟨fun _ _ _ e => e, fun _ h => .inl h⟩
theorem Ext.out {S S' : Sto} {F F' : List Addr} (e : Ext S F S' F') {b : Addr} {o : MO} (h : b ∉ F) (hs : S b = some o) : b ∉ F' := fun z => by
  rcases e.fresh b z with z | z
  · exact h z
  · rw [hs] at z; cases z
theorem Ext.tr {S S1 S2 : Sto} {F F1 F2 : List Addr} (a : Ext S F S1 F1) (c : Ext S1 F1 S2 F2) : Ext S F S2 F2 :=
  ⟨fun b o h e => c.keep b o (a.out h e) (a.keep b o h e), fun b h => by
    rcases c.fresh b h with z | z
    · exact a.fresh b z
    · by_cases hb : b ∈ F
      · exact .inl hb
      · refine .inr ?_
        cases q : S b with
        | none => rfl
        | some o => rw [a.keep b o hb q] at z; cases z⟩
theorem byt_getD {bs : List (List Int)} {k : Nat} (h : ∀ b ∈ bs, Byt b) (hk : k < bs.length) : Byt (bs.getD k []) := by
  rw [List.getD, List.getElem?_eq_getElem hk]
  exact h _ (List.getElem_mem hk)
theorem byt_tear {t : Int} {b o : List Int} (hb : Byt b) (ho : Byt o) (h0 : 0 ≤ t) (h1 : t ≤ 32) : Byt (tearB t b o) := by
  unfold tearB
  refine ⟨?_, fun x hx => ?_⟩
  · rw [List.length_append, List.length_take, List.length_drop, hb.1, ho.1]
    omega
  · rcases List.mem_append.mp hx with hx | hx
    · exact hb.2 x (List.mem_of_mem_take hx)
    · exact ho.2 x (List.mem_of_mem_drop hx)
theorem set_byt {bs : List (List Int)} {k : Nat} {b : List Int} (h : ∀ b ∈ bs, Byt b) (hb : Byt b) : ∀ x ∈ bs.set k b, Byt x := fun x hx => by
  rcases List.mem_or_eq_of_mem_set hx with hx | rfl
  · exact h x hx
  · exact hb
theorem flushB_len : ∀ (ps : List (Nat × List Int)) (bs : List (List Int)), (flushB bs ps).length = bs.length
  | [], _ => rfl
  | e :: ps, bs => by
    show (flushB (bs.set e.1 e.2) ps).length = _
    rw [flushB_len ps, List.length_set]
theorem flushB_byt : ∀ (ps : List (Nat × List Int)) (bs : List (List Int)), (∀ b ∈ bs, Byt b) → (∀ e ∈ ps, Byt e.2) → ∀ b ∈ flushB bs ps, Byt b
  | [], _, h, _ => h
  | e :: ps, bs, h, hp => flushB_byt ps (bs.set e.1 e.2) (set_byt h (hp e List.mem_cons_self)) fun x hx => hp x (List.mem_cons_of_mem _ hx)
theorem flushB_snoc (bs : List (List Int)) (ps : List (Nat × List Int)) (e : Nat × List Int) : flushB bs (ps ++ [e]) = (flushB bs ps).set e.1 e.2 := by
  unfold flushB
  rw [List.foldl_append]
  rfl
theorem cutB_len : ∀ (ps : List (Nat × List Int)) (bs : List (List Int)) (ts : List Int), (cutB bs ps ts).length = bs.length
  | [], _, _ => by simp [cutB]
  | _ :: _, _, [] => by simp [cutB]
  | e :: ps, bs, t :: ts => by
    rw [cutB, cutB_len ps, List.length_set]
theorem cutB_byt : ∀ (ps : List (Nat × List Int)) (bs : List (List Int)) (ts : List Int), (∀ b ∈ bs, Byt b) → (∀ e ∈ ps, e.1 < bs.length ∧ Byt e.2) → TornOk ts → ∀ b ∈ cutB bs ps ts, Byt b
  | [], bs, ts, h, _, _ => by simpa [cutB] using h
  | _ :: _, bs, [], h, _, _ => by simpa [cutB] using h
  | e :: ps, bs, t :: ts, h, hp, ht => by
    rw [cutB]
    have h1 := hp e List.mem_cons_self
    have t1 := ht t List.mem_cons_self
    exact cutB_byt ps _ ts (set_byt h (byt_tear h1.2 (byt_getD h h1.1) t1.1 t1.2)) (fun x hx => by rw [List.length_set]; exact hp x (List.mem_cons_of_mem _ hx)) fun x hx => ht x (List.mem_cons_of_mem _ hx)
theorem readD_byt {bs : List (List Int)} {k : Nat} (h : ∀ b ∈ bs, Byt b) (hk : k < bs.length) : ∀ ps : List (Nat × List Int), (∀ e ∈ ps, Byt e.2) → Byt (readD bs ps k) := by
  intro ps
  unfold readD
  have gen : ∀ (ps : List (Nat × List Int)) (f : List Int), Byt f → (∀ e ∈ ps, Byt e.2) → Byt (ps.foldl (fun f e => if e.1 = k then e.2 else f) f) := by
    intro ps
    induction ps with
    | nil => intro f hf _; exact hf
    | cons e ps ih =>
      intro f hf hp
      rw [List.foldl_cons]
      refine ih _ ?_ fun x hx => hp x (List.mem_cons_of_mem _ hx)
      split
      · exact hp e List.mem_cons_self
      · exact hf
  exact gen ps _ (byt_getD h hk)
/-- the first n torn writes done, one after the other -/
theorem cutB_step : ∀ (ps : List (Nat × List Int)) (bs : List (List Int)) (ts : List Int) (i : Nat) (e : Nat × List Int) (t : Int), ps[i]? = some e → ts[i]? = some t →
    cutB bs (ps.take (i + 1)) (ts.take (i + 1)) = (cutB bs (ps.take i) (ts.take i)).set e.1 (tearB t e.2 ((cutB bs (ps.take i) (ts.take i)).getD e.1 []))
  | [], _, _, _, _, _, h, _ => by simp at h
  | _ :: _, _, [], _, _, _, _, h => by simp at h
  | p :: ps, bs, u :: ts, 0, e, t, h1, h2 => by
    simp at h1 h2
    subst h1 h2
    simp [cutB]
  | p :: ps, bs, u :: ts, i + 1, e, t, h1, h2 => by
    simp only [List.take_succ_cons, cutB]
    exact cutB_step ps _ ts i e t (by simpa using h1) (by simpa using h2)
theorem cutB_min : ∀ (ps : List (Nat × List Int)) (bs : List (List Int)) (ts : List Int) (n : Nat), min ts.length ps.length ≤ n → cutB bs (ps.take n) (ts.take n) = cutB bs ps ts
  | [], bs, ts, n, _ => by simp [cutB]
  | _ :: _, bs, [], n, _ => by simp [cutB]
  | p :: ps, bs, u :: ts, 0, h => by simp at h
  | p :: ps, bs, u :: ts, n + 1, h => by
    simp only [List.take_succ_cons, cutB]
    exact cutB_min ps _ ts n (by simp only [List.length_cons] at h; omega)
theorem eq_dd {x : PyData} {S : Sto} {Q : QE} (h : SeqAt.shaped x = true) (e : PyData.eqv x x = true) (q : Q (.d (.bool true)) S) : bEq (.d x) (.d x) S Q := by
  unfold bEq
  split
  · rename_i h1 h2
    cases h1
    cases h2
    simpa using q
  · rename_i h1 h2
    cases h1
    cases h2
    simpa using q
  · exact ⟨x, x, rfl, rfl, h, h, by rw [e]; exact q⟩
theorem ne_dd {x : PyData} {S : Sto} {Q : QE} (h : SeqAt.shaped x = true) (e : PyData.eqv x x = true) (q : Q (.d (.bool false)) S) : bNe (.d x) (.d x) S Q := by
  unfold bNe
  split
  · rename_i h1 h2
    cases h1
    cases h2
    simpa using q
  · rename_i h1 h2
    cases h1
    cases h2
    simpa using q
  · exact ⟨x, x, rfl, rfl, h, h, by rw [e]; exact q⟩
theorem ne_row {b : List Int} {p : Addr} {S : Sto} {Q : QE} (hr : IsRow S (.m p) b) (hb : ∀ x ∈ b, Small x) (q : Q (.d (.bool false)) S) : bNe (.m p) (.d (rowD b)) S Q := by
  have sh : SeqAt.shaped (rowD b) = true := (row_shaped b hb).shaped (by decide)
  have e : PyData.eqv (rowD b) (rowD b) = true := eqv_refl _ (by
    have : ∀ l : List Int, PyData.hasDictAll (l.map .int) = false := fun l => by
      induction l with
      | nil => rfl
      | cons x l ih => simp [PyData.hasDictAll, PyData.hasDict, ih]
    unfold PyData.hasDict
    exact this b)
  exact ⟨rowD b, rowD b, hr.dat, rfl, sh, sh, by rw [e]; exact q⟩
theorem ix_nat {n k : Nat} (h : k < n) : ixN n (k : Int) = some k := by
  unfold ixN
  rw [if_pos (Int.natCast_nonneg k), if_pos (by omega)]
  rfl
theorem byt_small {b : List Int} (h : Byt b) : ∀ x ∈ b, Small x := fun x hx => by
  have := h.2 x hx
  exact ⟨by omega, by omega⟩
theorem add_rows {a c : List Int} {S : Sto} {Q : QE} (h : a.length + c.length ≤ 4000) : bAdd (.d (rowD a)) (.d (rowD c)) S Q = Q (.d (rowD (a ++ c))) S := by
  have e : allD ((a.map PyData.int).map MV.d ++ (c.map PyData.int).map MV.d) = some ((a ++ c).map .int) := by rw [← List.map_append, ← List.map_append, allD_map]
  show (∃ x y z, lstOf S (.d (rowD a)) = some x ∧ lstOf S (.d (rowD c)) = some y ∧ x.length + y.length ≤ sizeLine ∧ allD (x ++ y) = some z ∧ Q (.d (.list z)) S) = _
  apply propext
  constructor
  · rintro ⟨x, y, z, e1, e2, _, e3, q⟩
    cases e1
    cases e2
    rw [e] at e3
    cases e3
    exact q
  · exact fun q => ⟨_, _, _, rfl, rfl, by simp only [List.length_map]; exact Nat.le_trans h (by decide), e, q⟩
end Mi
namespace Mi
open PySem PySem.Spec PyProof.Rows L2
/-! ### bits; lists taken apart; targets within targets -/
abbrev bBand : B2 := bInt fun i j => .int (Builtin.bitAnd i j)
section
variable {K : PySem.W.Frag}
theorem sim_band : SimR2 K (rI0 fun i j => .int (Builtin.bitAnd i j)) bBand := sim_int0 fun _ _ _ => .int _
end
/-- a tuple or a list, taken apart -/
def gSeqU (K : PySem.W.Frag) (n : Nat) (t : TGs) : TG := fun v σ H Q => gTup K n t v σ H Q ∨ gUnl K n t v σ H Q
theorem pg_or {X : Cx} {e : Expr} {g g' : TG} (h : PG X e g) (h' : PG X e g') : PG X e (fun v σ H Q => g v σ H Q ∨ g' v σ H Q) := by
  refine ⟨fun pins s σ H v u Q I r hw => ?_⟩
  rcases hw with hw | hw
  · exact h.run pins s σ H v u Q I r hw
  · exact h'.run pins s σ H v u Q I r hw
theorem pg_seqU {X : Cx} {es : List Expr} {k : Nat} {pos : Pos} {t : TGs} {n : Nat} (hc : X.calm = true) (h : PGs X es t)
    (hn : (assignEach es X.env).length = n := by rfl) (hst : (assignEach es X.env).findIdx? (·.1) = none := by rfl) : PG X (.Tuple es k pos) (gSeqU X.K n t) := pg_or (pg_tup hc h hn hst) (pg_unl hc h hn hst)
def mUnp (n : Nat) (ms : MGs) : MG := fun r ρ S N X => ∃ xs, seqOf S r = some xs ∧ xs.length = n ∧ ms xs ρ S N X
section
variable {K : PySem.W.Frag} {W : WX}
theorem sim_unpG {n : Nat} {g : TGs} {mg : MGs} (h : ∀ rs vs ρ σ S T H Nm N, RVs K (cat S T) H rs vs → En K (cat S T) H ρ σ → Ok K S T H → OutN K S T H Nm N → mg rs ρ S Nm (fun _ _ => False) → g vs σ H N)
    (hx : ∀ rs ρ S Nm xm, mg rs ρ S Nm xm → mg rs ρ S Nm fun _ _ => False) : SimG K W (gSeqU K n g) (mUnp n mg) := fun r v ρ σ S T H Nm xm N rv nn k o ox ⟨xs, e, hl, q⟩ => by
  obtain ⟨a, vs, rfl, hs, rr⟩ := rv_seq k rv e
  have hl' : vs.length = n := rr.length.symm.trans hl
  have q' := h _ _ ρ σ S T H Nm N rr nn k o (hx _ _ _ _ _ q)
  rcases hs with hs | hs
  · exact .inr ⟨a, vs, rfl, hs, hl', q'⟩
  · exact .inl ⟨a, vs, rfl, hs, hl', q'⟩
theorem sim_unpN (is : List Nat) (n : Nat) : SimG K W (gSeqU K n (gNames is)) (mUnp n (mNames is)) :=
  sim_unpG (fun rs vs ρ σ S T H Nm N rr n k o h => sim_names (W := fun _ _ _ _ => True) is rs vs ρ σ S T H Nm (fun _ _ => False) N rr n k o (fun _ _ _ _ _ _ _ _ _ z => z.elim) h) (mNames_x is)
end
end Mi
namespace Mi
open PySem PySem.Spec PyProof.Rows L2
/-! ### zip of two lists, of the store or data; tuples and lists times a number; targets within targets -/
section
variable {K : PySem.W.Frag} {W : WX}
/-- the list at a place of the mirror, whenever it is looked at -/
theorem lst_at {S0 T0 : Sto} {H0 : Hp} {x : MV} {v : V} {rs : List MV} (k : Ok K S0 T0 H0) (rv : RV K (cat S0 T0) H0 x v) (e : lstOf S0 x = some rs) :
    ∃ a us, v = .ref a ∧ SqL K H0 a us ∧ us.length = rs.length ∧ ∀ S T H, Ev (cat S0 T0) H0 (cat S T) H → Ok K S T H → okOf x rs S → ∃ us, SqL K H a us ∧ RVs K (cat S T) H rs us := by
  cases x with
  | d x =>
    cases x with
    | list xs =>
      cases e
      cases rv with
      | lst hs ha => exact ⟨_, _, rfl, fz_same.seq hs, (RVs.of ha).length.symm, fun S T H ev _ _ => ⟨_, fz_same.seq (Same.seq ev hs), RVs.ev (U := cat S0 T0) (H := H0) ev (RVs.of ha)⟩⟩
    | _ => cases e
  | m a =>
    cases rv
    have e' : (match S0 a with | some (.lst xs) => some xs | _ => none) = some rs := e
    have es : S0 a = some (.lst rs) := by
      cases es : S0 a with
      | none => rw [es] at e'; cases e'
      | some o =>
        cases o with
        | lst xs => rw [es] at e'; cases e'; rfl
        | ins C fs => rw [es] at e'; cases e'
        | dic kvs => rw [es] at e'; cases e'
    obtain ⟨vs, h1, h2⟩ := k.lst es
    refine ⟨a, vs, rfl, .inl (.inl h1), h2.length.symm, fun S T H ev ok o => ?_⟩
    obtain ⟨ws, h3, h4⟩ := ok.lst (show S a = some (.lst rs) from o)
    exact ⟨ws, .inl (.inl h3), h4⟩
theorem rvs_dget {U : Sto} {H : Hp} {xs : List PyData} {us : List V} {i : Nat} {u : V} (h : RVs K U H (xs.map .d) us) (e : us[i]? = some u) : ∃ c, xs[i]? = some c ∧ Dp K (Fz U H) u c := by
  obtain ⟨r, h1, h2⟩ := h.get' e
  rw [List.getElem?_map] at h1
  cases q : xs[i]? with
  | none => rw [q] at h1; cases h1
  | some c => rw [q] at h1; cases h1; exact ⟨c, rfl, h2⟩
end
def iZipS (ma : CA) : CI := fun ρ S Q X => ma ρ S (fun rs S1 => match rs with
  | [x, y] => ∃ xs ys, lstOf S1 x = some (xs.map .d) ∧ lstOf S1 y = some (ys.map .d) ∧ Q ⟨zipD xs ys, fun S' => okOf x (xs.map .d) S' ∧ okOf y (ys.map .d) S'⟩ S1
  | _ => False) X
section
variable {K : PySem.W.Frag} {W : WX} {t : TA} {m : CA}
theorem sim_zipS (h : SimA K W t m) : SimI K W (RZ.iZipA K t) (iZipS m) := fun ρ σ S T H Qm xm R n k o ox q =>
  h ρ σ S T H _ xm _ n k (fun rs vs S1 H1 e1 k1 rr q => by
    split at q
    · obtain ⟨xs, ys, ex, ey, q⟩ := q
      cases rr with
      | cons r rt =>
        cases rt with
        | cons r2 rt =>
          cases rt
          obtain ⟨a, us, rfl, ha, la, fa⟩ := lst_at k1 r ex
          obtain ⟨b, ws, rfl, hb, lb, fb⟩ := lst_at k1 r2 ey
          rw [List.length_map] at la lb
          refine ⟨a, b, us, ws, rfl, .inl ⟨ha, hb, o _ _ S1 H1 e1 k1 ?_ q⟩⟩
          refine ⟨fun H => ∃ us ws, us.length = xs.length ∧ ws.length = ys.length ∧ SqL K H a us ∧ SqL K H b ws, (Itz K a b).yld, ?_, ?_, ?_⟩
          · refine ⟨fun i H hi ⟨us, ws, l1, l2, h1, h2⟩ => ?_, fun H ⟨us, ws, l1, l2, h1, h2⟩ => ?_, fun i H v H' hi _ y => y⟩
            · rw [zipD_length] at hi
              have i1 : i < us.length := by omega
              have i2 : i < ws.length := by omega
              exact ⟨us, ws, us[i], ws[i], h1, h2, by simp [i1], by simp [i2]⟩
            · rw [zipD_length]
              exact ⟨us, ws, h1, h2, by omega⟩
          · intro S' T' H' ev ok oo
            obtain ⟨us, h1, h2⟩ := fa _ _ _ ev ok oo.1
            obtain ⟨ws, h3, h4⟩ := fb _ _ _ ev ok oo.2
            exact ⟨us, ws, by have := h2.length; rw [List.length_map] at this; exact this.symm, by have := h4.length; rw [List.length_map] at this; exact this.symm, h1, h3⟩
          · rintro S' T' H' i x H2 ev ok oo hi ⟨P, u, v, rfl, nP, rfl, hu, hv⟩
            obtain ⟨us, h1, h2⟩ := fa _ _ _ ev ok oo.1
            obtain ⟨ws, h3, h4⟩ := fb _ _ _ ev ok oo.2
            obtain ⟨c, hc, dc⟩ := rvs_dget h2 (hu us h1)
            obtain ⟨d, hd, dd⟩ := rvs_dget h4 (hv ws h3)
            refine ⟨ev_new nP, ok.new nP, fun a o z => by rw [upd_ne (ne_of_none z nP)]; exact z, _, zipD_get hc hd, ?_⟩
            exact new_tup ok nP (.cons dc (.cons dd .nil))
    · exact q.elim) ox q
end
end Mi
namespace Mi
open PySem PySem.Spec PyProof.Rows L2
def bRepT : B2 := fun x y S Q => match x, y with
  | .d (.tuple xs), .d (.int k) => xs ≠ [] ∧ 2 ≤ k ∧ k ≤ 1000 ∧ xs.length ≤ 1000 ∧ Q (.d (.tuple (List.replicate k.toNat xs).flatten)) S
  | _, _ => False
/-- [..] * n, to be changed -/
def bMulM : B2 := fun x y S Q => match x, y with
  | .m a, .d (.int k) => ∃ xs, S a = some (.lst xs) ∧ 0 ≤ k ∧ k ≤ 100000 ∧ xs.length ≤ 100 ∧ ∀ p, S p = none → Q (.m p) (sset S p (.lst (List.replicate k.toNat xs).flatten))
  | _, _ => False
section
variable {K : PySem.W.Frag}
theorem rvs_rep {U : Sto} {H : Hp} {vs : List V} {xs : List MV} (h : RVs K U H xs vs) : ∀ n : Nat, RVs K U H (List.replicate n xs).flatten (List.replicate n vs).flatten
  | 0 => .nil
  | n + 1 => by
    rw [List.replicate_succ, List.replicate_succ, List.flatten_cons, List.flatten_cons]
    exact RVs.append h (rvs_rep h n)
theorem sim_repT : SimR2 K (rRepT K) bRepT := fun x y vx vy S T H Qm Q k rx ry o q => by
  unfold bRepT at q
  split at q
  · obtain ⟨h0, h1, h2, h3, q⟩ := q
    cases ry
    cases rx with
    | tup hs ha =>
      have hl := dpAll_len ha
      refine ⟨_, _, _, rfl, rfl, fz_tup hs, fun e => h0 ?_, h1, h2, by rw [hl]; exact h3, fun p np => o _ _ S _ (ev_new np) (k.new np) (new_tup k np (dpAll_rep ha _)) q⟩
      rw [e] at hl
      exact List.eq_nil_of_length_eq_zero hl.symm
  · exact q.elim
theorem sim_mulM : SimR2 K rRep bMulM := fun x y vx vy S T H Qm Q k rx ry o q => by
  unfold bMulM at q
  split at q
  · rename_i a n
    obtain ⟨xs, ea, h0, h1, h2, q⟩ := q
    cases ry
    cases rx
    obtain ⟨vs, hv, rr⟩ := k.lst ea
    have hm : xs.length * n.toNat ≤ 100 * 100000 := Nat.mul_le_mul h2 (by omega)
    refine ⟨_, _, vs, rfl, rfl, hv, by omega, by omega, ?_, fun p np => ?_⟩
    · rw [← rr.length]
      exact Nat.le_trans hm (by decide)
    · obtain ⟨k2, e2⟩ := k.newL np (rvs_rep rr n.toNat)
      exact o (.m p) _ _ _ e2 k2 rfl (q p (k.free np).1)
  · exact q.elim
end
/-! targets within targets: ((a, ..), b) -/
def mPairs (n : Nat) (is : List Nat) (j : Nat) : MGs := fun rs ρ S N X => match rs with
  | [a, b] => mTup n (mNames is) a ρ S (fun ρ1 S1 => N (ρ1.set j (some b)) S1) X
  | _ => False
section
variable {K : PySem.W.Frag} {W : WX}
theorem sim_pairN (n : Nat) (is : List Nat) (j : Nat) : SimG K W (gTup K 2 (gCons (gTup K n (gNames is)) (gCons (gName j) gNil))) (mTup 2 (mPairs n is j)) := by
  refine sim_tupG (fun rs vs ρ σ S T H Nm N rr nn k o h => ?_) fun rs ρ S Nm xm h => ?_
  · unfold mPairs at h
    split at h
    · rename_i a b
      cases rr with
      | cons ra rt =>
        cases rt with
        | cons rb rt =>
          cases rt
          refine ⟨_, _, rfl, ?_⟩
          refine sim_tupN (W := fun _ _ _ _ => True) is n a _ ρ σ S T H (fun ρ1 S1 => Nm (ρ1.set j (some b)) S1) (fun _ _ => False) _ ra nn k (fun ρ1 σ1 S1 H1 e1 k1 n1 h1 => ?_) (fun _ _ _ _ _ _ _ _ z => z.elim) h
          exact ⟨_, _, rfl, rfl, o _ _ S1 H1 e1 k1 (n1.set (rb.ev e1) j) h1⟩
    · exact h.elim
  · unfold mPairs at h ⊢
    split at h
    · obtain ⟨xs, e, hl, q⟩ := h
      exact ⟨xs, e, hl, mNames_x _ _ _ _ _ _ q⟩
    · exact h.elim
end
end Mi
namespace Mi
open PySem PySem.Spec PyProof.Rows L2
/-- [..] * n, n of any sign, never changed -/
def bRepN : B2 := fun x y S Q => match x, y with
  | .m a, .d (.int k) => ∃ xs ys, S a = some (.lst xs) ∧ allD xs = some ys ∧ -1000000 ≤ k ∧ k ≤ 1000000 ∧ xs.length ≤ 10 ∧ Q (.d (.list (List.replicate k.toNat ys).flatten)) S
  | _, _ => False
section
variable {K : PySem.W.Frag}
theorem sim_repN : SimR2 K rRep bRepN := fun x y vx vy S T H Qm Q k rx ry o q => by
  unfold bRepN at q
  split at q
  · rename_i a n
    obtain ⟨xs, ys, ea, ed, h0, h1, h2, q⟩ := q
    cases ry
    cases rx
    obtain ⟨vs, hv, rr⟩ := k.lst ea
    have hm : xs.length * n.toNat ≤ 10 * 1000000 := Nat.mul_le_mul h2 (by omega)
    refine ⟨_, _, vs, rfl, rfl, hv, by omega, by omega, ?_, fun p np => ?_⟩
    · rw [← rr.length]
      exact Nat.le_trans hm (by decide)
    · exact o _ _ S _ (ev_new np) (k.new np) (new_lst k np (dpAll_rep (rr.all ed) _)) q
  · exact q.elim
end
theorem seq_ok {S : Sto} {r : MV} {xs : List MV} (h : seqOf S r = some xs) : okOf r xs S := by
  cases r with
  | d x => exact True.intro
  | m a =>
    show S a = some (.lst xs)
    have e' : (match S a with | some (.lst xs) => some xs | _ => none) = some xs := h
    cases es : S a with
    | none => rw [es] at e'; cases e'
    | some o =>
      cases o with
      | lst xs => rw [es] at e'; cases e'; rfl
      | ins C fs => rw [es] at e'; cases e'
      | dic kvs => rw [es] at e'; cases e'
/-- a row of numbers: a list or a tuple, of the store or data -/
def IsSq (S : Sto) (r : MV) (t : List Int) : Prop := seqOf S r = some (t.map fun i => .d (.int i))
theorem IsRow.sq {S : Sto} {r : MV} {b : List Int} (h : IsRow S r b) : IsSq S r b := by
  unfold IsSq
  rw [h.seq, List.map_map]
  rfl
theorem sq_tup (S : Sto) (t : List Int) : IsSq S (.d (.tuple (t.map .int))) t := by
  show some ((t.map PyData.int).map MV.d) = _
  rw [List.map_map]
  rfl
theorem IsSq.keep {S S' : Sto} {r : MV} {t : List Int} (h : IsSq S r t) (k : ∀ a o, S a = some o → S' a = some o) : IsSq S' r t := by
  cases r with
  | d x =>
    have e : seqOf S' (.d x) = seqOf S (.d x) := by cases x <;> rfl
    exact e.trans h
  | m a =>
    have := seq_ok h
    have e : S' a = some (.lst _) := k a _ this
    show (match S' a with | some (.lst xs) => some xs | _ => none) = _
    rw [e]
theorem iSeq_sq {me : CE} {ρ : Ro} {S : Sto} {r : MV} {t : List Int} {Qm : MIt → Sto → Prop} {X : QX} (h : IsSq S r t) (hm : ∀ Q : QE, Q r S → me ρ S Q X) (q : Qm ⟨t.map fun i => .d (.int i), okOf r (t.map fun i => .d (.int i))⟩ S) : iSeq me ρ S Qm X := by
  refine hm _ ?_
  have h' : ∀ r, seqOf S r = some (t.map fun i => MV.d (.int i)) → (∀ z, r ≠ .d (.str z)) := fun r h z e => by rw [e] at h; cases h
  have nz := h' r h
  cases r with
  | m a => exact ⟨_, h, fun _ => q⟩
  | d x =>
    cases x with
    | str z => exact absurd rfl (nz z)
    | _ => exact ⟨_, h, fun _ => q⟩
abbrev rowT (b : List Int) : PyData := .tuple (b.map .int)
theorem sq_len {S : Sto} {r : MV} {t : List Int} (h : IsSq S r t) (n : Nat) : lenV S r n = (n = t.length) := by
  have : ∀ r, seqOf S r = some (t.map fun i => MV.d (.int i)) → (∀ z, r ≠ .d (.str z)) → lenV S r n = (n = t.length) := fun r h nz => by
    have e : lenV S r n = ∃ ys, seqOf S r = some ys ∧ n = ys.length := by
      cases r with
      | m a => rfl
      | d x =>
        cases x with
        | str z => exact absurd rfl (nz z)
        | _ => rfl
    rw [e, h]
    apply propext
    constructor
    · rintro ⟨ys, e1, e2⟩
      cases e1
      rw [e2, List.length_map]
    · exact fun e => ⟨_, rfl, by rw [e, List.length_map]⟩
  exact this r h fun z e => by rw [e] at h; cases h
theorem eq_ii {i j : Int} {S : Sto} {Q : QE} : bEq (.d (.int i)) (.d (.int j)) S Q = Q (.d (.bool (decide (i = j)))) S := rfl
theorem ne_ii {i j : Int} {S : Sto} {Q : QE} : bNe (.d (.int i)) (.d (.int j)) S Q = Q (.d (.bool (!decide (i = j)))) S := rfl
theorem bEq_dd {x y : PyData} {S : Sto} {Q : QE} (hx : SeqAt.shaped x = true) (hy : SeqAt.shaped y = true) (q : Q (.d (.bool (PyData.eqv x y))) S) : bEq (.d x) (.d y) S Q := by
  unfold bEq
  split
  · rename_i z w h1 h2
    cases h1
    cases h2
    simp only [PyData.eqv] at q
    exact q
  · rename_i z w h1 h2
    cases h1
    cases h2
    simp only [PyData.eqv] at q
    exact q
  · exact ⟨x, y, rfl, rfl, hx, hy, q⟩
end Mi
namespace K42
open PySem PySem.Spec PyProof.Rows L2 Mi
def topS (i : Nat) : Stmt := PySem.Challenge.pw_textatrest_k42_cut_on_schedule.main.body.getD i (.Pass ⟨0, 0, 0, 0⟩)
abbrev s_Disk_pending_count : Stmt := clsS (topS 10) 5
abbrev N_Disk_pending_count : List Str := ["self"]
theorem sc_Disk_pending_count : FnScope N_Disk_pending_count ["self"] (defScope s_Disk_pending_count) := ⟨rfl, rfl, rfl, by decide +kernel, rfl, by decide +kernel, by decide +kernel⟩
abbrev s_Disk_cut_count : Stmt := clsS (topS 10) 6
abbrev N_Disk_cut_count : List Str := ["self"]
theorem sc_Disk_cut_count : FnScope N_Disk_cut_count ["self"] (defScope s_Disk_cut_count) := ⟨rfl, rfl, rfl, by decide +kernel, rfl, by decide +kernel, by decide +kernel⟩
abbrev s_Disk_store : Stmt := clsS (topS 10) 11
abbrev N_Disk_store : List Str := ["self", "lengths", "stays", "at", "block"]
theorem sc_Disk_store : FnScope N_Disk_store ["self", "lengths"] (defScope s_Disk_store) := ⟨rfl, rfl, rfl, by decide +kernel, rfl, by decide +kernel, by decide +kernel⟩
abbrev s_is_block : Stmt := topS 11
abbrev N_is_block : List Str := ["block", "byte"]
theorem sc_is_block : FnScope N_is_block ["block"] (defScope s_is_block) := ⟨rfl, rfl, rfl, by decide +kernel, rfl, by decide +kernel, by decide +kernel⟩
abbrev s__law_cell : Stmt := topS 14
abbrev N__law_cell : List Str := ["script", "k"]
theorem sc__law_cell : FnScope N__law_cell ["script", "k"] (defScope s__law_cell) := ⟨rfl, rfl, rfl, by decide +kernel, rfl, by decide +kernel, by decide +kernel⟩
abbrev s__law_draw : Stmt := topS 16
abbrev N__law_draw : List Str := ["box", "many", "at"]
theorem sc__law_draw : FnScope N__law_draw ["box", "many"] (defScope s__law_draw) := ⟨rfl, rfl, rfl, by decide +kernel, rfl, by decide +kernel, by decide +kernel⟩
abbrev s__law_digits : Stmt := topS 15
abbrev N__law_digits : List Str := ["script", "first", "last", "digits", "k", "cell", "turn", "seed"]
theorem sc__law_digits : FnScope N__law_digits ["script", "first", "last"] (defScope s__law_digits) := ⟨rfl, rfl, rfl, by decide +kernel, rfl, by decide +kernel, by decide +kernel⟩
abbrev s__law_torn : Stmt := topS 17
abbrev N__law_torn : List Str := ["box", "many", "kind", "k"]
theorem sc__law_torn : FnScope N__law_torn ["box", "many"] (defScope s__law_torn) := ⟨rfl, rfl, rfl, by decide +kernel, rfl, by decide +kernel, by decide +kernel⟩
abbrev s_Disk___init__ : Stmt := clsS (topS 10) 0
abbrev N_Disk___init__ : List Str := ["self", "blocks"]
theorem sc_Disk___init__ : FnScope N_Disk___init__ ["self", "blocks"] (defScope s_Disk___init__) := ⟨rfl, rfl, rfl, by decide +kernel, rfl, by decide +kernel, by decide +kernel⟩
abbrev s_Disk_check_at : Stmt := clsS (topS 10) 9
abbrev N_Disk_check_at : List Str := ["self", "at"]
theorem sc_Disk_check_at : FnScope N_Disk_check_at ["self", "at"] (defScope s_Disk_check_at) := ⟨rfl, rfl, rfl, by decide +kernel, rfl, by decide +kernel, by decide +kernel⟩
abbrev s_check_torn : Stmt := topS 12
abbrev N_check_torn : List Str := ["torn", "stays"]
theorem sc_check_torn : FnScope N_check_torn ["torn"] (defScope s_check_torn) := ⟨rfl, rfl, rfl, by decide +kernel, rfl, by decide +kernel, by decide +kernel⟩
abbrev s_Disk_read : Stmt := clsS (topS 10) 2
abbrev N_Disk_read : List Str := ["self", "at", "found", "place", "block"]
theorem sc_Disk_read : FnScope N_Disk_read ["self", "at"] (defScope s_Disk_read) := ⟨rfl, rfl, rfl, by decide +kernel, rfl, by decide +kernel, by decide +kernel⟩
abbrev s_Disk_cut_power : Stmt := clsS (topS 10) 7
abbrev N_Disk_cut_power : List Str := ["self", "torn", "missing"]
theorem sc_Disk_cut_power : FnScope N_Disk_cut_power ["self", "torn"] (defScope s_Disk_cut_power) := ⟨rfl, rfl, rfl, by decide +kernel, rfl, by decide +kernel, by decide +kernel⟩
abbrev s_Disk_schedule_cut : Stmt := clsS (topS 10) 8
abbrev N_Disk_schedule_cut : List Str := ["self", "many", "torn"]
theorem sc_Disk_schedule_cut : FnScope N_Disk_schedule_cut ["self", "many", "torn"] (defScope s_Disk_schedule_cut) := ⟨rfl, rfl, rfl, by decide +kernel, rfl, by decide +kernel, by decide +kernel⟩
abbrev s_Disk_count_down : Stmt := clsS (topS 10) 10
abbrev N_Disk_count_down : List Str := ["self"]
theorem sc_Disk_count_down : FnScope N_Disk_count_down ["self"] (defScope s_Disk_count_down) := ⟨rfl, rfl, rfl, by decide +kernel, rfl, by decide +kernel, by decide +kernel⟩
abbrev s__law_schedule : Stmt := topS 18
abbrev N__law_schedule : List Str := ["disk", "count", "torn", "e"]
theorem sc__law_schedule : FnScope N__law_schedule ["disk", "count", "torn"] (defScope s__law_schedule) := ⟨rfl, rfl, rfl, by decide +kernel, rfl, by decide +kernel, by decide +kernel⟩
abbrev s_Disk_write : Stmt := clsS (topS 10) 3
abbrev N_Disk_write : List Str := ["self", "at", "block"]
theorem sc_Disk_write : FnScope N_Disk_write ["self", "at", "block"] (defScope s_Disk_write) := ⟨rfl, rfl, rfl, by decide +kernel, rfl, by decide +kernel, by decide +kernel⟩
abbrev s_Disk_flush : Stmt := clsS (topS 10) 4
abbrev N_Disk_flush : List Str := ["self"]
theorem sc_Disk_flush : FnScope N_Disk_flush ["self"] (defScope s_Disk_flush) := ⟨rfl, rfl, rfl, by decide +kernel, rfl, by decide +kernel, by decide +kernel⟩
abbrev s__law_do_raw : Stmt := topS 19
abbrev N__law_do_raw : List Str := ["disk", "at", "block"]
theorem sc__law_do_raw : FnScope N__law_do_raw ["disk", "at", "block"] (defScope s__law_do_raw) := ⟨rfl, rfl, rfl, by decide +kernel, rfl, by decide +kernel, by decide +kernel⟩
abbrev s__law_do : Stmt := topS 20
abbrev N__law_do : List Str := ["disk", "at", "block", "e", "told"]
theorem sc__law_do : FnScope N__law_do ["disk", "at", "block"] (defScope s__law_do) := ⟨rfl, rfl, rfl, by decide +kernel, rfl, by decide +kernel, by decide +kernel⟩
abbrev s_law : Stmt := topS 21
abbrev N_law : List Str := ["script", "box", "size", "disk", "blocks", "pending", "left", "torn", "cuts", "turn", "kind", "k", "handed", "at", "block", "actual", "place", "entry"]
theorem sc_law : FnScope N_law ["script"] (defScope s_law) := ⟨rfl, rfl, rfl, by decide +kernel, rfl, by decide +kernel, by decide +kernel⟩
/-- the classes; whom an except clause takes, whose instance it is -/
structure Kap where
  hit : Addr → Addr → Option Bool
  kit : Addr → Addr → Option Bool
  Disk : Addr
  OutOfRange : Addr
  PowerCut : Addr
  RestError : Addr
/-! the mirrors -/
def c_Disk_pending_count (κ : Kap) : CS := (cRet (eCB bLen (aCons (eFld κ.Disk "unflushed" (eVar 0)) aNil)))
def m_Disk_pending_count (κ : Kap) : Fm := fun rs S Q _ => fnM 1 (c_Disk_pending_count κ) rs S Q noX
def c_Disk_cut_count (κ : Kap) : CS := (cRet (eFld κ.Disk "cuts" (eVar 0)))
def m_Disk_cut_count (κ : Kap) : Fm := fun rs S Q _ => fnM 1 (c_Disk_cut_count κ) rs S Q noX
def c_Disk_store_3 (κ : Kap) : CS := (cFld κ.Disk "unflushed" (eVar 0) (eLstM aNil))
def c_Disk_store_2 (κ : Kap) : CS := (cAsg (eOp bAdd (eSlice (eVar 4) oNone (oSome (eVar 2))) (eSlice (eOp bIx (eFld κ.Disk "stored" (eVar 0)) (eVar 3)) (oSome (eVar 2)) oNone)) (mSub (eFld κ.Disk "stored" (eVar 0)) (eVar 3)))
def c_Disk_store_1 (κ : Kap) : CS := (cSeq (cFor (iZipS (aCons (eFld κ.Disk "unflushed" (eVar 0)) (aCons (eVar 1) aNil))) (mTup 2 (mPairs 2 [3, 4] 2)) (c_Disk_store_2 κ)) (c_Disk_store_3 κ))
abbrev c_Disk_store (κ : Kap) : CS := (c_Disk_store_1 κ)
def m_Disk_store (κ : Kap) : Fm := fun rs S Q _ => fnM 5 (c_Disk_store κ) rs S Q noX
def c_is_block : CS := (cRet (eAndV (eOp bEq (eCB bLen (aCons (eVar 0) aNil)) (eC (.int 32))) (eCB bAll (aCons (eLc (iSeq (eVar 0)) (mName 1) cYes (eChain bLeA bLeA (eC (.int 0)) (eVar 1) (eC (.int 255))) [1]) aNil))))
def m_is_block : Fm := fun rs S Q _ => fnM 2 (c_is_block) rs S Q noX
def c__law_cell : CS := (cSeq (cIf (cB (eOp bLtA (eVar 1) (eCB bLen (aCons (eVar 0) aNil)))) (cRet (eOp bIx (eVar 0) (eVar 1))) cNext) (cRet (eC (.int 0))))
def m__law_cell : Fm := fun rs S Q _ => fnM 2 (c__law_cell) rs S Q noX
def c__law_draw : CS := (cSeq (cAsg (eOp bIx (eVar 0) (eC (.int 1))) (mName 2)) (cSeq (cAsg (eOp bAdd (eVar 2) (eC (.int 1))) (mSub (eVar 0) (eC (.int 1)))) (cSeq (cIf (cB (eOp bLtA (eVar 2) (eCB bLen (aCons (eOp bIx (eVar 0) (eC (.int 0))) aNil)))) (cRet (eOp bMod (eCB bIntOf (aCons (eOp bIx (eOp bIx (eVar 0) (eC (.int 0))) (eVar 2)) aNil)) (eVar 1))) cNext) (cRet (eOp bMod (eCB bIntOf (aCons (eOp bAdd (eOp bMulX (eVar 2) (eC (.int 7))) (eC (.int 3))) aNil)) (eVar 1))))))
def m__law_draw : Fm := fun rs S Q _ => fnM 3 (c__law_draw) rs S Q noX
def c__law_digits_16 : CS := (cRet (eFrz (eVar 3)))
def c__law_digits_10 : CS := (cAsg (eOp bFdiv (eVar 5) (eC (.int 1000))) (mName 5))
def c__law_digits_9 : CS := (cSeq (cDrop (eAppend (eVar 3) (aCons (eOp bMod (eCB bIntOf (aCons (eVar 5) aNil)) (eC (.int 1000))) aNil))) c__law_digits_10)
def c__law_digits_8 : CS := (cIf (cB (eOp bGtA (eVar 5) (eC (.int 0)))) c__law_digits_9 cNext)
def c__law_digits_7 : CS := (cFor (iRange1 (aCons (eC (.int 60)) aNil)) (mName 6) c__law_digits_8)
def c__law_digits_15 : CS := (cDrop (eAppend (eVar 3) (aCons (eOp bMod (eCB bIntOf (aCons (eOp bFdiv (eVar 7) (eC (.int 1009))) aNil)) (eC (.int 1000))) aNil)))
def c__law_digits_14 : CS := (cSeq (cAsg (eOp bMod (eCB bIntOf (aCons (eOp bAdd (eOp bAdd (eOp bMulX (eVar 7) (eC (.int 40014))) (eOp bMulX (eC (.int 5)) (eVar 6))) (eC (.int 3))) aNil)) (eC (.int 2147483563))) (mName 7)) c__law_digits_15)
def c__law_digits_13 : CS := (cFor (iRange1 (aCons (eC (.int 12)) aNil)) (mName 6) c__law_digits_14)
def c__law_digits_12 : CS := (cSeq (cAsg (eOp bMod (eCB bIntOf (aCons (eOp bAdd (eOp bAdd (eOp bMulX (eVar 5) (eC (.int 40692))) (eOp bMulX (eVar 4) (eC (.int 52774)))) (eC (.int 17))) aNil)) (eC (.int 2147483399))) (mName 7)) c__law_digits_13)
def c__law_digits_6 : CS := (cIf (cB (eOp bGeA (eVar 5) (eC (.int 1000000000000000000)))) c__law_digits_7 c__law_digits_12)
def c__law_digits_5 : CS := (cAsg (eOp bSub (eC (.int 1)) (eOp bMulX (eC (.int 2)) (eVar 5))) (mName 5))
def c__law_digits_4 : CS := (cSeq (cIf (cB (eOp bLtA (eVar 5) (eC (.int 0)))) c__law_digits_5 cNext) c__law_digits_6)
def c__law_digits_3 : CS := (cSeq (cAsg (eFn 2 m__law_cell (aCons (eVar 0) (aCons (eVar 4) aNil))) (mName 5)) c__law_digits_4)
def c__law_digits_2 : CS := (cSeq (cFor (iRange2 (aCons (eVar 1) (aCons (eVar 2) aNil))) (mName 4) c__law_digits_3) c__law_digits_16)
def c__law_digits_1 : CS := (cSeq (cAsg (eLstM aNil) (mName 3)) c__law_digits_2)
abbrev c__law_digits : CS := c__law_digits_1
def m__law_digits : Fm := fun rs S Q _ => fnM 8 (c__law_digits) rs S Q noX
def c__law_torn_8 : CS := (cRet (eLc (iRange1 (aCons (eVar 1) aNil)) (mName 3) cYes (eFn 2 m__law_draw (aCons (eVar 0) (aCons (eC (.int 33)) aNil))) [3]))
def c__law_torn_7 : CS := (cRet (eLc (iRange1 (aCons (eVar 1) aNil)) (mName 3) cYes (eOp bMulX (eC (.int 32)) (eFn 2 m__law_draw (aCons (eVar 0) (aCons (eC (.int 2)) aNil)))) [3]))
def c__law_torn_6 : CS := (cSeq (cIf (cB (eOp bEq (eVar 2) (eC (.int 2)))) c__law_torn_7 cNext) c__law_torn_8)
def c__law_torn_5 : CS := (cRet (eOp bMulX (eLstM (aCons (eC (.int 32)) aNil)) (eVar 1)))
def c__law_torn_4 : CS := (cSeq (cIf (cB (eOp bEq (eVar 2) (eC (.int 1)))) c__law_torn_5 cNext) c__law_torn_6)
def c__law_torn_3 : CS := (cRet (eLst aNil))
def c__law_torn_2 : CS := (cSeq (cIf (cB (eOp bEq (eVar 2) (eC (.int 0)))) c__law_torn_3 cNext) c__law_torn_4)
def c__law_torn_1 : CS := (cSeq (cAsg (eFn 2 m__law_draw (aCons (eVar 0) (aCons (eC (.int 4)) aNil))) (mName 2)) c__law_torn_2)
abbrev c__law_torn : CS := c__law_torn_1
def m__law_torn : Fm := fun rs S Q _ => fnM 4 (c__law_torn) rs S Q noX
def c_Disk___init___7 (κ : Kap) : CS := (cFld κ.Disk "torn_then" (eVar 0) (eTup aNil))
def c_Disk___init___6 (κ : Kap) : CS := (cSeq (cFld κ.Disk "until_cut" (eVar 0) (eC .none)) (c_Disk___init___7 κ))
def c_Disk___init___5 (κ : Kap) : CS := (cSeq (cFld κ.Disk "cuts" (eVar 0) (eC (.int 0))) (c_Disk___init___6 κ))
def c_Disk___init___4 (κ : Kap) : CS := (cSeq (cFld κ.Disk "unflushed" (eVar 0) (eLstM aNil)) (c_Disk___init___5 κ))
def c_Disk___init___3 (κ : Kap) : CS := (cSeq (cFld κ.Disk "stored" (eVar 0) (eOp bMulM (eLstM (aCons (eOp bRepT (eTup (aCons (eC (.int 0)) aNil)) (eC (.int 32))) aNil)) (eVar 1))) (c_Disk___init___4 κ))
def c_Disk___init___2 (κ : Kap) : CS := (cRaiseF κ.OutOfRange "name" (aCons (eC (.str "blocks")) aNil))
def c_Disk___init___1 (κ : Kap) : CS := (cSeq (cIf (cNot (cB (eChain bLeA bLeA (eC (.int 8)) (eVar 1) (eC (.int 400))))) (c_Disk___init___2 κ) cNext) (c_Disk___init___3 κ))
abbrev c_Disk___init__ (κ : Kap) : CS := (c_Disk___init___1 κ)
def m_Disk___init__ (κ : Kap) : Fm := fnM 2 (c_Disk___init__ κ)
def c_Disk_check_at (κ : Kap) : CS := (cIf (cNot (cB (eChain bLeA bLtA (eC (.int 0)) (eVar 1) (eCB bLen (aCons (eFld κ.Disk "stored" (eVar 0)) aNil))))) (cRaiseF κ.OutOfRange "name" (aCons (eC (.str "at")) aNil)) cNext)
def m_Disk_check_at (κ : Kap) : Fm := fnM 2 (c_Disk_check_at κ)
def c_check_torn (κ : Kap) : CS := (cIf (cNot (cTru (eCB bAll (aCons (eLc (iSeq (eVar 0)) (mName 1) cYes (eChain bLeA bLeA (eC (.int 0)) (eVar 1) (eC (.int 32))) [1]) aNil)))) (cRaiseF κ.OutOfRange "name" (aCons (eC (.str "torn")) aNil)) cNext)
def m_check_torn (κ : Kap) : Fm := fnM 2 (c_check_torn κ)
def c_Disk_read_6 (κ : Kap) : CS := (cRet (eCB bList (aCons (eVar 2) aNil)))
def c_Disk_read_5 (κ : Kap) : CS := (cAsg (eVar 4) (mName 2))
def c_Disk_read_4 (κ : Kap) : CS := (cIf (cB (eOp bEq (eVar 3) (eVar 1))) (c_Disk_read_5 κ) cNext)
def c_Disk_read_3 (κ : Kap) : CS := (cSeq (cFor (iSeq (eFld κ.Disk "unflushed" (eVar 0))) (mTup 2 (mNames [3, 4])) (c_Disk_read_4 κ)) (c_Disk_read_6 κ))
def c_Disk_read_2 (κ : Kap) : CS := (cSeq (cAsg (eOp bIx (eFld κ.Disk "stored" (eVar 0)) (eVar 1)) (mName 2)) (c_Disk_read_3 κ))
def c_Disk_read_1 (κ : Kap) : CS := (cSeq (cDrop (eMeth κ.Disk "check_at" 1 (m_Disk_check_at κ) (eVar 0) (aCons (eVar 1) aNil))) (c_Disk_read_2 κ))
abbrev c_Disk_read (κ : Kap) : CS := (c_Disk_read_1 κ)
def m_Disk_read (κ : Kap) : Fm := fnM 5 (c_Disk_read κ)
def c_Disk_cut_power_5 (κ : Kap) : CS := (cFld κ.Disk "until_cut" (eVar 0) (eC .none))
def c_Disk_cut_power_4 (κ : Kap) : CS := (cSeq (cFldAug κ.Disk "cuts" (bInt fun i j => .int (i + j)) (eVar 0) (eC (.int 1))) (c_Disk_cut_power_5 κ))
def c_Disk_cut_power_3 (κ : Kap) : CS := (cSeq (cDrop (eMeth κ.Disk "store" 1 (m_Disk_store κ) (eVar 0) (aCons (eOp bAdd (eCB bList (aCons (eVar 1) aNil)) (eOp bRepN (eLstM (aCons (eC (.int 0)) aNil)) (eVar 2))) aNil))) (c_Disk_cut_power_4 κ))
def c_Disk_cut_power_2 (κ : Kap) : CS := (cSeq (cAsg (eOp bSub (eCB bLen (aCons (eFld κ.Disk "unflushed" (eVar 0)) aNil)) (eCB bLen (aCons (eVar 1) aNil))) (mName 2)) (c_Disk_cut_power_3 κ))
def c_Disk_cut_power_1 (κ : Kap) : CS := (cSeq (cDrop (eFn 1 (m_check_torn κ) (aCons (eVar 1) aNil))) (c_Disk_cut_power_2 κ))
abbrev c_Disk_cut_power (κ : Kap) : CS := (c_Disk_cut_power_1 κ)
def m_Disk_cut_power (κ : Kap) : Fm := fnM 3 (c_Disk_cut_power κ)
def c_Disk_schedule_cut_5 (κ : Kap) : CS := (cFld κ.Disk "torn_then" (eVar 0) (eCB bTuple (aCons (eVar 2) aNil)))
def c_Disk_schedule_cut_4 (κ : Kap) : CS := (cSeq (cFld κ.Disk "until_cut" (eVar 0) (eVar 1)) (c_Disk_schedule_cut_5 κ))
def c_Disk_schedule_cut_3 (κ : Kap) : CS := (cSeq (cDrop (eFn 1 (m_check_torn κ) (aCons (eVar 2) aNil))) (c_Disk_schedule_cut_4 κ))
def c_Disk_schedule_cut_2 (κ : Kap) : CS := (cRaiseF κ.OutOfRange "name" (aCons (eC (.str "many")) aNil))
def c_Disk_schedule_cut_1 (κ : Kap) : CS := (cSeq (cIf (cNot (cB (eChain bLeA bLeA (eC (.int 0)) (eVar 1) (eC (.int 100000))))) (c_Disk_schedule_cut_2 κ) cNext) (c_Disk_schedule_cut_3 κ))
abbrev c_Disk_schedule_cut (κ : Kap) : CS := (c_Disk_schedule_cut_1 κ)
def m_Disk_schedule_cut (κ : Kap) : Fm := fnM 3 (c_Disk_schedule_cut κ)
def c_Disk_count_down_5 (κ : Kap) : CS := (cFldAug κ.Disk "until_cut" (bInt fun i j => .int (i - j)) (eVar 0) (eC (.int 1)))
def c_Disk_count_down_4 (κ : Kap) : CS := (cIf (cB (eOp bIsN (eFld κ.Disk "until_cut" (eVar 0)) (eC .none))) (c_Disk_count_down_5 κ) cNext)
def c_Disk_count_down_3 (κ : Kap) : CS := (cRaiseT κ.PowerCut)
def c_Disk_count_down_2 (κ : Kap) : CS := (cSeq (cDrop (eMeth κ.Disk "cut_power" 1 (m_Disk_cut_power κ) (eVar 0) (aCons (eFld κ.Disk "torn_then" (eVar 0)) aNil))) (c_Disk_count_down_3 κ))
def c_Disk_count_down_1 (κ : Kap) : CS := (cSeq (cIf (cB (eOp bEq (eFld κ.Disk "until_cut" (eVar 0)) (eC (.int 0)))) (c_Disk_count_down_2 κ) cNext) (c_Disk_count_down_4 κ))
abbrev c_Disk_count_down (κ : Kap) : CS := (c_Disk_count_down_1 κ)
def m_Disk_count_down (κ : Kap) : Fm := fnM 1 (c_Disk_count_down κ)
def c__law_schedule_2 (κ : Kap) : CS := (cRet (eMeth κ.Disk "schedule_cut" 2 (m_Disk_schedule_cut κ) (eVar 0) (aCons (eVar 1) (aCons (eVar 2) aNil))))
def c__law_schedule_1 (κ : Kap) : CS := (cTry κ.hit ((κ.OutOfRange, (some 3), (uTup "refused" κ.OutOfRange "name" 3)) :: []) (c__law_schedule_2 κ))
abbrev c__law_schedule (κ : Kap) : CS := (c__law_schedule_1 κ)
def m__law_schedule (κ : Kap) : Fm := fun rs S Q _ => fnM 4 (c__law_schedule κ) rs S Q noX
def c_Disk_write_5 (κ : Kap) : CS := (cDrop (eAppend (eFld κ.Disk "unflushed" (eVar 0)) (aCons (eTup (aCons (eVar 1) (aCons (eCB bTuple (aCons (eVar 2) aNil)) aNil))) aNil)))
def c_Disk_write_4 (κ : Kap) : CS := (cSeq (cDrop (eMeth κ.Disk "count_down" 0 (m_Disk_count_down κ) (eVar 0) aNil)) (c_Disk_write_5 κ))
def c_Disk_write_3 (κ : Kap) : CS := (cRaiseF κ.OutOfRange "name" (aCons (eC (.str "block")) aNil))
def c_Disk_write_2 (κ : Kap) : CS := (cSeq (cIf (cNot (cTru (eFn 1 m_is_block (aCons (eVar 2) aNil)))) (c_Disk_write_3 κ) cNext) (c_Disk_write_4 κ))
def c_Disk_write_1 (κ : Kap) : CS := (cSeq (cDrop (eMeth κ.Disk "check_at" 1 (m_Disk_check_at κ) (eVar 0) (aCons (eVar 1) aNil))) (c_Disk_write_2 κ))
abbrev c_Disk_write (κ : Kap) : CS := (c_Disk_write_1 κ)
def m_Disk_write (κ : Kap) : Fm := fnM 3 (c_Disk_write κ)
def c_Disk_flush_2 (κ : Kap) : CS := (cDrop (eMeth κ.Disk "store" 1 (m_Disk_store κ) (eVar 0) (aCons (eOp bRepN (eLstM (aCons (eC (.int 32)) aNil)) (eCB bLen (aCons (eFld κ.Disk "unflushed" (eVar 0)) aNil))) aNil)))
def c_Disk_flush_1 (κ : Kap) : CS := (cSeq (cDrop (eMeth κ.Disk "count_down" 0 (m_Disk_count_down κ) (eVar 0) aNil)) (c_Disk_flush_2 κ))
abbrev c_Disk_flush (κ : Kap) : CS := (c_Disk_flush_1 κ)
def m_Disk_flush (κ : Kap) : Fm := fnM 1 (c_Disk_flush κ)
def c__law_do_raw_3 (κ : Kap) : CS := (cRet (eMeth κ.Disk "write" 2 (m_Disk_write κ) (eVar 0) (aCons (eVar 1) (aCons (eVar 2) aNil))))
def c__law_do_raw_2 (κ : Kap) : CS := (cRet (eMeth κ.Disk "flush" 0 (m_Disk_flush κ) (eVar 0) aNil))
def c__law_do_raw_1 (κ : Kap) : CS := (cSeq (cIf (cB (eOp bEq (eVar 1) (eOp bSub (eC (.int 0)) (eC (.int 1))))) (c__law_do_raw_2 κ) cNext) (c__law_do_raw_3 κ))
abbrev c__law_do_raw (κ : Kap) : CS := (c__law_do_raw_1 κ)
def m__law_do_raw (κ : Kap) : Fm := fnM 3 (c__law_do_raw κ)
def c__law_do_9 (κ : Kap) : CS := (cRet (eVar 4))
def c__law_do_2 (κ : Kap) : CS := (cAsg (eFn 3 (m__law_do_raw κ) (aCons (eVar 0) (aCons (eVar 1) (aCons (eVar 2) aNil)))) (mName 4))
def c__law_do_1 (κ : Kap) : CS := (cSeq (cTry κ.hit ((κ.PowerCut, (some 3), (fun x a => (cSeq (cIf (cAnd (cTru (eIsX κ.kit κ.PowerCut 3 κ.RestError x a)) (cNot (cTru (eIsX κ.kit κ.PowerCut 3 κ.OutOfRange x a)))) (cRet (eTup (aCons (eC (.str "refused")) (aCons (eC (.str "cut")) aNil)))) cNext) (cRet (eTup (aCons (eC (.str "refused")) (aCons (eC (.str "other")) aNil))))))) :: ((κ.OutOfRange, (some 3), (uTup "refused" κ.OutOfRange "name" 3)) :: [])) (c__law_do_2 κ)) (c__law_do_9 κ))
abbrev c__law_do (κ : Kap) : CS := (c__law_do_1 κ)
def m__law_do (κ : Kap) : Fm := fun rs S Q _ => fnM 5 (c__law_do κ) rs S Q noX
def c_law_59 (κ : Kap) : CS := (cRet (eOp bEq (eLc (iRange1 (aCons (eVar 2) aNil)) (mName 13) cYes (eMeth κ.Disk "read" 1 (m_Disk_read κ) (eVar 3) (aCons (eVar 13) aNil)) [13]) (eVar 4)))
def c_law_58 (κ : Kap) : CS := (cSeq (cDrop (eMeth κ.Disk "cut_power" 1 (m_Disk_cut_power κ) (eVar 3) (aCons (eLst aNil) aNil))) (c_law_59 κ))
def c_law_57 (κ : Kap) : CS := (cRet (eC (.bool false)))
def c_law_56 (κ : Kap) : CS := (cIf (cOr (cB (eOp bNe (eMeth κ.Disk "pending_count" 0 (m_Disk_pending_count κ) (eVar 3) aNil) (eCB bLen (aCons (eVar 5) aNil)))) (cB (eOp bNe (eMeth κ.Disk "cut_count" 0 (m_Disk_cut_count κ) (eVar 3) aNil) (eVar 8)))) (c_law_57 κ) cNext)
def c_law_21 (κ : Kap) : CS := (cRet (eC (.bool false)))
def c_law_20 (κ : Kap) : CS := (cIf (cB (eOp bNe (eFn 3 (m__law_schedule κ) (aCons (eVar 3) (aCons (eC (.int 3)) (aCons (eLst (aCons (eC (.int 33)) aNil)) aNil)))) (eTup (aCons (eC (.str "refused")) (aCons (eC (.str "torn")) aNil))))) (c_law_21 κ) cNext)
def c_law_19 (κ : Kap) : CS := (cRet (eC (.bool false)))
def c_law_18 (κ : Kap) : CS := (cSeq (cIf (cB (eOp bNe (eFn 3 (m__law_schedule κ) (aCons (eVar 3) (aCons (eOp bIx (eLst (aCons (eOp bSub (eC (.int 0)) (eC (.int 1))) (aCons (eC (.int 100001)) aNil))) (eFn 2 m__law_draw (aCons (eVar 1) (aCons (eC (.int 2)) aNil)))) (aCons (eLst (aCons (eC (.int 33)) aNil)) aNil)))) (eTup (aCons (eC (.str "refused")) (aCons (eC (.str "many")) aNil))))) (c_law_19 κ) cNext) (c_law_20 κ))
def c_law_17 (κ : Kap) : CS := (cSeq (cDrop (eAppend (eVar 12) (aCons (eC (.int 1)) aNil))) (c_law_18 κ))
def c_law_16 (κ : Kap) : CS := (cRet (eC (.bool false)))
def c_law_15 (κ : Kap) : CS := (cSeq (cIf (cOr (cB (eOp bIsN (eFn 3 (m__law_schedule κ) (aCons (eVar 3) (aCons (eC (.int 100000)) (aCons (eLst (aCons (eC (.int 32)) aNil)) aNil)))) (eC .none))) (cB (eOp bIsN (eFn 3 (m__law_schedule κ) (aCons (eVar 3) (aCons (eVar 6) (aCons (eVar 12) aNil)))) (eC .none)))) (c_law_16 κ) cNext) (c_law_17 κ))
def c_law_14 (κ : Kap) : CS := (cSeq (cAsg (eCB bListM (aCons (eVar 7) aNil)) (mName 12)) (c_law_15 κ))
def c_law_13 (κ : Kap) : CS := (cSeq (cAsg (eFn 2 m__law_torn (aCons (eVar 1) (aCons (eC (.int 9)) aNil))) (mName 7)) (c_law_14 κ))
def c_law_12 (κ : Kap) : CS := (cSeq (cAsg (eFn 2 m__law_draw (aCons (eVar 1) (aCons (eC (.int 21)) aNil))) (mName 6)) (c_law_13 κ))
def c_law_26 (κ : Kap) : CS := (cAsg (eOp bAdd (eVar 8) (eC (.int 1))) (mName 8))
def c_law_25 (κ : Kap) : CS := (cSeq (cAsg (eOp bSub (eC (.int 0)) (eC (.int 1))) (mName 6)) (c_law_26 κ))
def c_law_24 (κ : Kap) : CS := (cSeq (cAsg (eLstM aNil) (mName 5)) (c_law_25 κ))
def c_law_23 (κ : Kap) : CS := (cSeq (cDrop (eMeth κ.Disk "cut_power" 1 (m_Disk_cut_power κ) (eVar 3) (aCons (eLst aNil) aNil))) (c_law_24 κ))
def c_law_29 (κ : Kap) : CS := (cRet (eC (.bool false)))
def c_law_28 (κ : Kap) : CS := (cIf (cOr (cB (eOp bNe (eFn 3 (m__law_do κ) (aCons (eVar 3) (aCons (eVar 2) (aCons (eOp bMulX (eLstM (aCons (eC (.int 0)) aNil)) (eC (.int 32))) aNil)))) (eTup (aCons (eC (.str "refused")) (aCons (eC (.str "at")) aNil))))) (cB (eOp bNe (eFn 3 (m__law_do κ) (aCons (eVar 3) (aCons (eC (.int 0)) (aCons (eOp bMulX (eLstM (aCons (eC (.int 0)) aNil)) (eC (.int 31))) aNil)))) (eTup (aCons (eC (.str "refused")) (aCons (eC (.str "block")) aNil)))))) (c_law_29 κ) cNext)
def c_law_44 (κ : Kap) : CS := (cAsg (eOp bAdd (eVar 8) (eC (.int 1))) (mName 8))
def c_law_43 (κ : Kap) : CS := (cSeq (cAsg (eOp bSub (eC (.int 0)) (eC (.int 1))) (mName 6)) (c_law_44 κ))
def c_law_42 (κ : Kap) : CS := (cSeq (cAsg (eLstM aNil) (mName 5)) (c_law_43 κ))
def c_law_41 (κ : Kap) : CS := (cAsg (eOp bAdd (eSlice (eOp bIx (eOp bIx (eVar 5) (eVar 11)) (eC (.int 1))) oNone (oSome (eOp bIx (eVar 7) (eVar 11)))) (eSlice (eOp bIx (eVar 4) (eVar 16)) (oSome (eOp bIx (eVar 7) (eVar 11))) oNone)) (mSub (eVar 4) (eVar 16)))
def c_law_40 (κ : Kap) : CS := (cSeq (cAsg (eOp bIx (eOp bIx (eVar 5) (eVar 11)) (eC (.int 0))) (mName 16)) (c_law_41 κ))
def c_law_39 (κ : Kap) : CS := (cSeq (cFor (iRange1 (aCons (eCB (b2Int fun i j => if j < i then j else i) (aCons (eCB bLen (aCons (eVar 7) aNil)) (aCons (eCB bLen (aCons (eVar 5) aNil)) aNil))) aNil)) (mName 11) (c_law_40 κ)) (c_law_42 κ))
def c_law_38 (κ : Kap) : CS := (cRet (eC (.bool false)))
def c_law_37 (κ : Kap) : CS := (cSeq (cIf (cB (eOp bNe (eVar 15) (eTup (aCons (eC (.str "refused")) (aCons (eC (.str "cut")) aNil))))) (c_law_38 κ) cNext) (c_law_39 κ))
def c_law_53 (κ : Kap) : CS := (cAsg (eLstM aNil) (mName 5))
def c_law_52 (κ : Kap) : CS := (cAsg (eOp bIx (eVar 17) (eC (.int 1))) (mSub (eVar 4) (eOp bIx (eVar 17) (eC (.int 0)))))
def c_law_51 (κ : Kap) : CS := (cSeq (cFor (iSeq (eVar 5)) (mName 17) (c_law_52 κ)) (c_law_53 κ))
def c_law_55 (κ : Kap) : CS := (cDrop (eAppend (eVar 5) (aCons (eLst (aCons (eVar 13) (aCons (eVar 14) aNil))) aNil)))
def c_law_50 (κ : Kap) : CS := (cIf (cB (eOp bEq (eVar 13) (eOp bSub (eC (.int 0)) (eC (.int 1))))) (c_law_51 κ) (c_law_55 κ))
def c_law_49 (κ : Kap) : CS := (cAsg (eOp bSub (eVar 6) (eC (.int 1))) (mName 6))
def c_law_48 (κ : Kap) : CS := (cSeq (cIf (cB (eOp bGtA (eVar 6) (eC (.int 0)))) (c_law_49 κ) cNext) (c_law_50 κ))
def c_law_47 (κ : Kap) : CS := (cRet (eC (.bool false)))
def c_law_46 (κ : Kap) : CS := (cSeq (cIf (cB (eOp bIsN (eVar 15) (eC .none))) (c_law_47 κ) cNext) (c_law_48 κ))
def c_law_36 (κ : Kap) : CS := (cIf (cB (eOp bEq (eVar 6) (eC (.int 0)))) (c_law_37 κ) (c_law_46 κ))
def c_law_35 (κ : Kap) : CS := (cSeq (cAsg (eFn 3 (m__law_do κ) (aCons (eVar 3) (aCons (eVar 13) (aCons (eCB bList (aCons (eVar 14) aNil)) aNil)))) (mName 15)) (c_law_36 κ))
def c_law_34 (κ : Kap) : CS := (cSeq (cAsg (eLc (iRange1 (aCons (eC (.int 32)) aNil)) (mName 11) cYes (eOp bAdd (eC (.int 1)) (eFn 2 m__law_draw (aCons (eVar 1) (aCons (eC (.int 255)) aNil)))) [11]) (mName 14)) (c_law_35 κ))
def c_law_33 (κ : Kap) : CS := (cAsg (eFn 2 m__law_draw (aCons (eVar 1) (aCons (eVar 2) aNil))) (mName 13))
def c_law_32 (κ : Kap) : CS := (cSeq (cIf (cB (eOp bGtA (eVar 10) (eC (.int 4)))) (c_law_33 κ) cNext) (c_law_34 κ))
def c_law_31 (κ : Kap) : CS := (cSeq (cAsg (eOp bSub (eC (.int 0)) (eC (.int 1))) (mName 13)) (c_law_32 κ))
def c_law_27 (κ : Kap) : CS := (cIf (cB (eOp bEq (eVar 10) (eC (.int 2)))) (c_law_28 κ) (c_law_31 κ))
def c_law_22 (κ : Kap) : CS := (cIf (cAnd (cB (eOp bEq (eVar 10) (eC (.int 1)))) (cB (eOp bEq (eFn 2 m__law_draw (aCons (eVar 1) (aCons (eC (.int 4)) aNil))) (eC (.int 0))))) (c_law_23 κ) (c_law_27 κ))
def c_law_11 (κ : Kap) : CS := (cSeq (cIf (cOr (cB (eOp bEq (eVar 10) (eC (.int 0)))) (cB (eOp bEq (eVar 9) (eC (.int 0))))) (c_law_12 κ) (c_law_22 κ)) (c_law_56 κ))
def c_law_10 (κ : Kap) : CS := (cSeq (cAsg (eFn 2 m__law_draw (aCons (eVar 1) (aCons (eC (.int 10)) aNil))) (mName 10)) (c_law_11 κ))
def c_law_9 (κ : Kap) : CS := (cSeq (cFor (iRange1 (aCons (eC (.int 40)) aNil)) (mName 9) (c_law_10 κ)) (c_law_58 κ))
def c_law_8 (κ : Kap) : CS := (cSeq (cAsg (eC (.int 0)) (mName 8)) (c_law_9 κ))
def c_law_7 (κ : Kap) : CS := (cSeq (cAsg (eLst aNil) (mName 7)) (c_law_8 κ))
def c_law_6 (κ : Kap) : CS := (cSeq (cAsg (eOp bSub (eC (.int 0)) (eC (.int 1))) (mName 6)) (c_law_7 κ))
def c_law_5 (κ : Kap) : CS := (cSeq (cAsg (eLstM aNil) (mName 5)) (c_law_6 κ))
def c_law_4 (κ : Kap) : CS := (cSeq (cAsg (eLcM (iRange1 (aCons (eVar 2) aNil)) (mName 11) cYes (eOp bMulX (eLstM (aCons (eC (.int 0)) aNil)) (eC (.int 32))) [11]) (mName 4)) (c_law_5 κ))
def c_law_3 (κ : Kap) : CS := (cSeq (cAsg (eMake κ.Disk 1 (m_Disk___init__ κ) (aCons (eVar 2) aNil)) (mName 3)) (c_law_4 κ))
def c_law_2 (κ : Kap) : CS := (cSeq (cAsg (eOp bAdd (eC (.int 8)) (eFn 2 m__law_draw (aCons (eVar 1) (aCons (eC (.int 4)) aNil)))) (mName 2)) (c_law_3 κ))
def c_law_1 (κ : Kap) : CS := (cSeq (cAsg (eLstM (aCons (eFn 3 m__law_digits (aCons (eVar 0) (aCons (eC (.int 0)) (aCons (eC (.int 63)) aNil)))) (aCons (eC (.int 0)) aNil))) (mName 1)) (c_law_2 κ))
abbrev c_law (κ : Kap) : CS := (c_law_1 κ)
def m_law (κ : Kap) : Fm := fun rs S Q _ => fnM 18 (c_law κ) rs S Q noX
/-! what the top holds -/
structure XfTx (P : Program) (K : PySem.W.Frag) (mg : Str → Option Value) (f : Str) (C fI : Addr) (fd : FuncData) : Prop where
  tx : SupTxt P K mg f C fI fd
  iC : PySem.W.findIn K (.ref C) "__init__" = some (some (.ref fI))
  tI : PySem.W.typeIn K (.ref fI) = some (.type "function")
  bd : Binds K fd ["self", f] []
structure XtTx (K : PySem.W.Frag) (C : Addr) : Prop where
  q : PySem.W.excIn K C [.type "ValueError", .type "Exception", .type "BaseException", .type "object"] "ValueError.__new__" = true
  kC : PySem.W.keepIn K (.ref C) = true
  exC : PySem.W.subIn K (.ref C) (.type "BaseException") = some true
  tyC : PySem.W.typeIn K (.ref C) = some (.type "type")
structure ClsTx (P : Program) (K : PySem.W.Frag) (mg : Str → Option Value) where
  c_Disk : Addr
  g_Disk : mg "Disk" = some (.ref c_Disk)
  c_OutOfRange : Addr
  g_OutOfRange : mg "OutOfRange" = some (.ref c_OutOfRange)
  c_PowerCut : Addr
  g_PowerCut : mg "PowerCut" = some (.ref c_PowerCut)
  c_RestError : Addr
  g_RestError : mg "RestError" = some (.ref c_RestError)
  cl_Disk : Cls K c_Disk
  f_Disk_pending_count : Addr
  x_Disk_pending_count : FuncData
  d_Disk_pending_count : MethAt K c_Disk "pending_count" "Disk.pending_count" s_Disk_pending_count ["self"] f_Disk_pending_count x_Disk_pending_count
  f_Disk_cut_count : Addr
  x_Disk_cut_count : FuncData
  d_Disk_cut_count : MethAt K c_Disk "cut_count" "Disk.cut_count" s_Disk_cut_count ["self"] f_Disk_cut_count x_Disk_cut_count
  f_Disk_store : Addr
  x_Disk_store : FuncData
  d_Disk_store : MethAt K c_Disk "store" "Disk.store" s_Disk_store ["self", "lengths"] f_Disk_store x_Disk_store
  f_Disk___init__ : Addr
  x_Disk___init__ : FuncData
  d_Disk___init__ : MethAt K c_Disk "__init__" "Disk.__init__" s_Disk___init__ ["self", "blocks"] f_Disk___init__ x_Disk___init__
  mk_Disk : Mk K c_Disk f_Disk___init__
  f_Disk_check_at : Addr
  x_Disk_check_at : FuncData
  d_Disk_check_at : MethAt K c_Disk "check_at" "Disk.check_at" s_Disk_check_at ["self", "at"] f_Disk_check_at x_Disk_check_at
  f_Disk_read : Addr
  x_Disk_read : FuncData
  d_Disk_read : MethAt K c_Disk "read" "Disk.read" s_Disk_read ["self", "at"] f_Disk_read x_Disk_read
  f_Disk_cut_power : Addr
  x_Disk_cut_power : FuncData
  d_Disk_cut_power : MethAt K c_Disk "cut_power" "Disk.cut_power" s_Disk_cut_power ["self", "torn"] f_Disk_cut_power x_Disk_cut_power
  f_Disk_schedule_cut : Addr
  x_Disk_schedule_cut : FuncData
  d_Disk_schedule_cut : MethAt K c_Disk "schedule_cut" "Disk.schedule_cut" s_Disk_schedule_cut ["self", "many", "torn"] f_Disk_schedule_cut x_Disk_schedule_cut
  f_Disk_count_down : Addr
  x_Disk_count_down : FuncData
  d_Disk_count_down : MethAt K c_Disk "count_down" "Disk.count_down" s_Disk_count_down ["self"] f_Disk_count_down x_Disk_count_down
  f_Disk_write : Addr
  x_Disk_write : FuncData
  d_Disk_write : MethAt K c_Disk "write" "Disk.write" s_Disk_write ["self", "at", "block"] f_Disk_write x_Disk_write
  f_Disk_flush : Addr
  x_Disk_flush : FuncData
  d_Disk_flush : MethAt K c_Disk "flush" "Disk.flush" s_Disk_flush ["self"] f_Disk_flush x_Disk_flush
  ec_PowerCut : ExcC K c_PowerCut
  ef_OutOfRange_name : ExF K c_OutOfRange "name"
  nf_Disk_cuts : NoAttr K c_Disk "cuts"
  nf_Disk_stored : NoAttr K c_Disk "stored"
  nf_Disk_torn_then : NoAttr K c_Disk "torn_then"
  nf_Disk_unflushed : NoAttr K c_Disk "unflushed"
  nf_Disk_until_cut : NoAttr K c_Disk "until_cut"
  fi_OutOfRange : Addr
  xi_OutOfRange : FuncData
  xf_OutOfRange : XfTx P K mg "name" c_OutOfRange fi_OutOfRange xi_OutOfRange
  xt_PowerCut : XtTx K c_PowerCut
  h_OutOfRange_OutOfRange : hitK K c_OutOfRange c_OutOfRange = some true
  h_OutOfRange_PowerCut : hitK K c_OutOfRange c_PowerCut = some false
  h_PowerCut_OutOfRange : hitK K c_PowerCut c_OutOfRange = some false
  h_PowerCut_PowerCut : hitK K c_PowerCut c_PowerCut = some true
  i_PowerCut_OutOfRange : kitK K c_PowerCut c_OutOfRange = some false
  i_PowerCut_RestError : kitK K c_PowerCut c_RestError = some true
structure KapOk (κ : Kap) : Prop where
  h_OutOfRange_OutOfRange : κ.hit κ.OutOfRange κ.OutOfRange = some true
  h_OutOfRange_PowerCut : κ.hit κ.OutOfRange κ.PowerCut = some false
  h_PowerCut_OutOfRange : κ.hit κ.PowerCut κ.OutOfRange = some false
  h_PowerCut_PowerCut : κ.hit κ.PowerCut κ.PowerCut = some true
  i_PowerCut_OutOfRange : κ.kit κ.PowerCut κ.OutOfRange = some false
  i_PowerCut_RestError : κ.kit κ.PowerCut κ.RestError = some true
  tt : True
structure Tops (P : Program) (K : PySem.W.Frag) (mg : Str → Option Value) extends ClsTx P K mg where
  f_is_block : Addr
  x_is_block : FuncData
  d_is_block : DefAt K mg "is_block" s_is_block ["block"] f_is_block x_is_block
  f__law_cell : Addr
  x__law_cell : FuncData
  d__law_cell : DefAt K mg "_law_cell" s__law_cell ["script", "k"] f__law_cell x__law_cell
  f__law_draw : Addr
  x__law_draw : FuncData
  d__law_draw : DefAt K mg "_law_draw" s__law_draw ["box", "many"] f__law_draw x__law_draw
  f__law_digits : Addr
  x__law_digits : FuncData
  d__law_digits : DefAt K mg "_law_digits" s__law_digits ["script", "first", "last"] f__law_digits x__law_digits
  f__law_torn : Addr
  x__law_torn : FuncData
  d__law_torn : DefAt K mg "_law_torn" s__law_torn ["box", "many"] f__law_torn x__law_torn
  f_check_torn : Addr
  x_check_torn : FuncData
  d_check_torn : DefAt K mg "check_torn" s_check_torn ["torn"] f_check_torn x_check_torn
  f__law_schedule : Addr
  x__law_schedule : FuncData
  d__law_schedule : DefAt K mg "_law_schedule" s__law_schedule ["disk", "count", "torn"] f__law_schedule x__law_schedule
  f__law_do_raw : Addr
  x__law_do_raw : FuncData
  d__law_do_raw : DefAt K mg "_law_do_raw" s__law_do_raw ["disk", "at", "block"] f__law_do_raw x__law_do_raw
  f__law_do : Addr
  x__law_do : FuncData
  d__law_do : DefAt K mg "_law_do" s__law_do ["disk", "at", "block"] f__law_do x__law_do
  f_law : Addr
  x_law : FuncData
  d_law : DefAt K mg "law" s_law ["script"] f_law x_law
  b_all : mg "all" = none
  b_int : mg "int" = none
  b_isinstance : mg "isinstance" = none
  b_len : mg "len" = none
  b_list : mg "list" = none
  b_min : mg "min" = none
  b_range : mg "range" = none
  b_tuple : mg "tuple" = none
  b_zip : mg "zip" = none
  t_BLOCK : Tok
  c_BLOCK : mg "BLOCK" = some (.int 32 t_BLOCK)
  t_BLOCKS_LEAST : Tok
  c_BLOCKS_LEAST : mg "BLOCKS_LEAST" = some (.int 8 t_BLOCKS_LEAST)
  t_BLOCKS_MOST : Tok
  c_BLOCKS_MOST : mg "BLOCKS_MOST" = some (.int 400 t_BLOCKS_MOST)
  t_BYTE_MOST : Tok
  c_BYTE_MOST : mg "BYTE_MOST" = some (.int 255 t_BYTE_MOST)
  t_SCHEDULE_MOST : Tok
  c_SCHEDULE_MOST : mg "SCHEDULE_MOST" = some (.int 100000 t_SCHEDULE_MOST)
def Tops.κ {P : Program} {K : PySem.W.Frag} {mg : Str → Option Value} (T : Tops P K mg) : Kap := { hit := hitK K, kit := kitK K, Disk := T.c_Disk, OutOfRange := T.c_OutOfRange, PowerCut := T.c_PowerCut, RestError := T.c_RestError }
theorem Tops.kap {P : Program} {K : PySem.W.Frag} {mg : Str → Option Value} (T : Tops P K mg) : KapOk T.κ := ⟨T.h_OutOfRange_OutOfRange, T.h_OutOfRange_PowerCut, T.h_PowerCut_OutOfRange, T.h_PowerCut_PowerCut, T.i_PowerCut_OutOfRange, T.i_PowerCut_RestError, trivial⟩
section
variable {P : Program} {w : World} {K : PySem.W.Frag} {mg : Str → Option Value} {base : Heap}
theorem ok_Disk_pending_count (T : Tops P K mg) : FnD P w K mg base CX0 1 T.f_Disk_pending_count T.x_Disk_pending_count ["self"] (m_Disk_pending_count T.κ) := by
  refine fnD T.d_Disk_pending_count.fn sc_Disk_pending_count fun cd A l s H E hg hr => ?_
  exact ⟨_, (pss_one (ps_ret (pe_callB call_len (by rfl) T.b_len (by decide +kernel) (pa_cons (pe_fld (pv 0) (by rfl)) pa_nil)))), (sim_ret (sim_cb sim_len (sim_cons (sim_fld T.cl_Disk T.nf_Disk_unflushed (sim_var 0)) sim_nil)))⟩
theorem ok_Disk_cut_count (T : Tops P K mg) : FnD P w K mg base CX0 1 T.f_Disk_cut_count T.x_Disk_cut_count ["self"] (m_Disk_cut_count T.κ) := by
  refine fnD T.d_Disk_cut_count.fn sc_Disk_cut_count fun cd A l s H E hg hr => ?_
  exact ⟨_, (pss_one (ps_ret (pe_fld (pv 0) (by rfl)))), (sim_ret (sim_fld T.cl_Disk T.nf_Disk_cuts (sim_var 0)))⟩
theorem ok_Disk_store (T : Tops P K mg) : FnD P w K mg base CX0 1 T.f_Disk_store T.x_Disk_store ["self", "lengths"] (m_Disk_store T.κ) := by
  refine fnD T.d_Disk_store.fn sc_Disk_store fun cd A l s H E hg hr => ?_
  exact ⟨_, (pss_cons (ps_for PassesOwn.never (by rfl) (RZ.pi_zipA (by rfl) T.b_zip (pa_cons (pe_fld (pv 0) (by rfl)) (pa_cons (pv 1) pa_nil))) (pg_tup (by rfl) (pgs_cons (pg_tup (by rfl) (pgs_cons (pg_name (i := 3) sc_Disk_store.nd rfl (by first | exact Or.inl rfl | exact Or.inr rfl)) (pgs_cons (pg_name (i := 4) sc_Disk_store.nd rfl (by first | exact Or.inl rfl | exact Or.inr rfl)) pgs_nil))) (pgs_cons (pg_name (i := 2) sc_Disk_store.nd rfl (by first | exact Or.inl rfl | exact Or.inr rfl)) pgs_nil))) (pss_one (ps_asg (pe_op op_addA (pe_slice sl_any (pv 4) po_none (po_some (pv 2))) (pe_slice sl_any (pe_ix ix_seq (pe_fld (pv 0) (by rfl)) (pv 3) (fun _ _ => rfl)) (po_some (pv 2)) po_none)) (pg_sub (pe_fld (pv 0) (by rfl)) (pv 3) set_list)))) (pss_one (ps_fld (pv 0) (pe_lst pa_nil) (by rfl)))), (sim_cut (c_Disk_store_1.eq_1 _) (sim_seq (sim_for (sim_zipS (sim_cons (sim_fld T.cl_Disk T.nf_Disk_unflushed (sim_var 0)) (sim_cons (sim_var 1) sim_nil))) (sim_pairN 2 [3, 4] 2) (sim_cut (c_Disk_store_2.eq_1 _) (sim_asg (sim_op sim_addA (sim_slice (sim_var 4) simO_none (simO_some (sim_var 2))) (sim_slice (sim_op sim_ix (sim_fld T.cl_Disk T.nf_Disk_stored (sim_var 0)) (sim_var 3)) (simO_some (sim_var 2)) simO_none)) (sim_subG (sim_fld T.cl_Disk T.nf_Disk_stored (sim_var 0)) (sim_var 3))))) (sim_cut (c_Disk_store_3.eq_1 _) (sim_fldS T.cl_Disk T.nf_Disk_unflushed (sim_var 0) (sim_lstM sim_nil)))))⟩
theorem ok_is_block (T : Tops P K mg) : FnD P w K mg base CX0 1 T.f_is_block T.x_is_block ["block"] m_is_block := by
  refine fnD T.d_is_block.fn sc_is_block fun cd A l s H E hg hr => ?_
  exact ⟨_, (pss_one (ps_ret (pe_and (pe_cmpR (op_eqA hr.units) (pe_callB call_len (by rfl) T.b_len (by decide +kernel) (pa_cons (pv 0) pa_nil)) (pe_glob (v := .int 32) (by rfl) T.c_BLOCK ⟨_, rfl⟩) (nomark _)) (pe_one (pe_callB (cr_all (by rfl)) (by rfl) T.b_all (by decide +kernel) (pa_cons (pe_lc (own := [("byte", 1)]) (by rfl) sc_is_block.nd (pi_seqA (pv 0)) (blkOk_by (own := [("byte", 1)]) (N := N_is_block) (sc := defScope s_is_block) (by decide +kernel)) (fun _ _ _ _ _ => (pg_name (i := 1) sc_is_block.nd rfl (by first | exact Or.inl rfl | exact Or.inr rfl))) (fun _ _ _ _ _ => pts_nil) (fun _ _ _ _ _ => (pe_chain (op_leA hr.units) (op_leA hr.units) pe_int (pv 1) (pe_glob (v := .int 255) (by rfl) T.c_BYTE_MOST ⟨_, rfl⟩)))) pa_nil)))))), (sim_ret (sim_andV (sim_op sim_eq (sim_cb sim_len (sim_cons (sim_var 0) sim_nil)) sim_int) (sim_cb sim_all (sim_cons (sim_lc fin_D (kps_name (by decide)) (sim_iSeq (sim_var 0)) (sim_name 1) sim_yes (sim_chain sim_leA sim_leA sim_int (sim_var 1) sim_int)) sim_nil))))⟩
theorem ok__law_cell (T : Tops P K mg) : FnD P w K mg base CX0 1 T.f__law_cell T.x__law_cell ["script", "k"] m__law_cell := by
  refine fnD T.d__law_cell.fn sc__law_cell fun cd A l s H E hg hr => ?_
  exact ⟨_, (pss_cons (ps_if (pt_cmpR (op_ltA hr.units) (pv 1) (pe_callB call_len (by rfl) T.b_len (by decide +kernel) (pa_cons (pv 0) pa_nil)) (nomark _)) (pss_one (ps_ret (pe_ix ix_seq (pv 0) (pv 1) (fun _ _ => rfl)))) pss_nil) (pss_one (ps_ret pe_int))), (sim_seq (sim_ifS (sim_test (sim_op sim_ltA (sim_var 1) (sim_cb sim_len (sim_cons (sim_var 0) sim_nil)))) (sim_ret (sim_op sim_ix (sim_var 0) (sim_var 1))) sim_next) (sim_ret sim_int))⟩
theorem ok__law_draw (T : Tops P K mg) : FnD P w K mg base CX0 1 T.f__law_draw T.x__law_draw ["box", "many"] m__law_draw := by
  refine fnD T.d__law_draw.fn sc__law_draw fun cd A l s H E hg hr => ?_
  exact ⟨_, (pss_cons (ps_set (i := 2) sc__law_draw.nd rfl (by first | exact Or.inl rfl | exact Or.inr rfl) (pe_ix ix_seq (pv 0) pe_int (fun _ _ => rfl))) (pss_cons (ps_asg (pe_op op_addA (pv 2) pe_int) (pg_sub (pv 0) pe_int set_list)) (pss_cons (ps_if (pt_cmpR (op_ltA hr.units) (pv 2) (pe_callB call_len (by rfl) T.b_len (by decide +kernel) (pa_cons (pe_ix ix_seq (pv 0) pe_int (fun _ _ => rfl)) pa_nil)) (nomark _)) (pss_one (ps_ret (pe_op op_mod (pe_callTy call_int1 (by rfl) T.b_int (by decide +kernel) (pa_cons (pe_ix ix_seq (pe_ix ix_seq (pv 0) pe_int (fun _ _ => rfl)) (pv 2) (fun _ _ => rfl)) pa_nil)) (pv 1)))) pss_nil) (pss_one (ps_ret (pe_op op_mod (pe_callTy call_int1 (by rfl) T.b_int (by decide +kernel) (pa_cons (pe_op op_addA (pe_op op_mulX (pv 2) pe_int) pe_int) pa_nil)) (pv 1))))))), (sim_seq (sim_asg (sim_op sim_ix (sim_var 0) sim_int) (sim_name 2)) (sim_seq (sim_asg (sim_op sim_addA (sim_var 2) sim_int) (sim_subG (sim_var 0) sim_int)) (sim_seq (sim_ifS (sim_test (sim_op sim_ltA (sim_var 2) (sim_cb sim_len (sim_cons (sim_op sim_ix (sim_var 0) sim_int) sim_nil)))) (sim_ret (sim_op sim_mod (sim_cb sim_intOf (sim_cons (sim_op sim_ix (sim_op sim_ix (sim_var 0) sim_int) (sim_var 2)) sim_nil)) (sim_var 1))) sim_next) (sim_ret (sim_op sim_mod (sim_cb sim_intOf (sim_cons (sim_op sim_addA (sim_op sim_mulX (sim_var 2) sim_int) sim_int) sim_nil)) (sim_var 1))))))⟩
theorem ok__law_digits (T : Tops P K mg) : FnD P w K mg base CX0 2 T.f__law_digits T.x__law_digits ["script", "first", "last"] m__law_digits := by
  refine fnD T.d__law_digits.fn sc__law_digits fun cd A l s H E hg hr => ?_
  exact ⟨_, (pss_cons (ps_set (i := 3) sc__law_digits.nd rfl (by first | exact Or.inl rfl | exact Or.inr rfl) (pe_lst pa_nil)) (pss_cons (ps_for PassesOwn.never (by rfl) (pi_range2 (by rfl) T.b_range (pa_cons (pv 1) (pa_cons (pv 2) pa_nil))) (pg_name (i := 4) sc__law_digits.nd rfl (by first | exact Or.inl rfl | exact Or.inr rfl)) (pss_cons (ps_set (i := 5) sc__law_digits.nd rfl (by first | exact Or.inl rfl | exact Or.inr rfl) (pe_callG (ok__law_cell T) hg (hr.mono (by decide)) (by rfl) T.d__law_cell.at_ T.d__law_cell.fn.kp T.d__law_cell.bd pass0S (pa_cons (pv 0) (pa_cons (pv 4) pa_nil)))) (pss_cons (ps_if (pt_cmpR (op_ltA hr.units) (pv 5) pe_int (nomark _)) (pss_one (ps_set (i := 5) sc__law_digits.nd rfl (by first | exact Or.inl rfl | exact Or.inr rfl) (pe_op op_sub pe_int (pe_op op_mulX pe_int (pv 5))))) pss_nil) (pss_one (ps_if (pt_cmpR (op_geA hr.units) (pv 5) pe_int (nomark _)) (pss_one (ps_for PassesOwn.never (by rfl) (pi_range1 (by rfl) T.b_range (pa_cons pe_int pa_nil)) (pg_name (i := 6) sc__law_digits.nd rfl (by first | exact Or.inl rfl | exact Or.inr rfl)) (pss_one (ps_if (pt_cmpR (op_gtA hr.units) (pv 5) pe_int (nomark _)) (pss_cons (ps_expr (pe_bm PySem.F.plainAttrs_list PySem.F.slot_list_append PySem.F.type_list_append mt_append (pv 3) (pa_cons (pe_op op_mod (pe_callTy call_int1 (by rfl) T.b_int (by decide +kernel) (pa_cons (pv 5) pa_nil)) pe_int) pa_nil))) (pss_one (ps_set (i := 5) sc__law_digits.nd rfl (by first | exact Or.inl rfl | exact Or.inr rfl) (pe_op op_fdiv (pv 5) pe_int)))) pss_nil)))) (pss_cons (ps_set (i := 7) sc__law_digits.nd rfl (by first | exact Or.inl rfl | exact Or.inr rfl) (pe_op op_mod (pe_callTy call_int1 (by rfl) T.b_int (by decide +kernel) (pa_cons (pe_op op_addA (pe_op op_addA (pe_op op_mulX (pv 5) pe_int) (pe_op op_mulX (pv 4) pe_int)) pe_int) pa_nil)) pe_int)) (pss_one (ps_for PassesOwn.never (by rfl) (pi_range1 (by rfl) T.b_range (pa_cons pe_int pa_nil)) (pg_name (i := 6) sc__law_digits.nd rfl (by first | exact Or.inl rfl | exact Or.inr rfl)) (pss_cons (ps_set (i := 7) sc__law_digits.nd rfl (by first | exact Or.inl rfl | exact Or.inr rfl) (pe_op op_mod (pe_callTy call_int1 (by rfl) T.b_int (by decide +kernel) (pa_cons (pe_op op_addA (pe_op op_addA (pe_op op_mulX (pv 7) pe_int) (pe_op op_mulX pe_int (pv 6))) pe_int) pa_nil)) pe_int)) (pss_one (ps_expr (pe_bm PySem.F.plainAttrs_list PySem.F.slot_list_append PySem.F.type_list_append mt_append (pv 3) (pa_cons (pe_op op_mod (pe_callTy call_int1 (by rfl) T.b_int (by decide +kernel) (pa_cons (pe_op op_fdiv (pv 7) pe_int) pa_nil)) pe_int) pa_nil))))))))))))) (pss_one (ps_ret (pv 3))))), (sim_cut c__law_digits_1.eq_1 (sim_seq (sim_asg (sim_lstM sim_nil) (sim_name 3)) (sim_cut c__law_digits_2.eq_1 (sim_seq (sim_for (sim_range2 (sim_cons (sim_var 1) (sim_cons (sim_var 2) sim_nil))) (sim_name 4) (sim_cut c__law_digits_3.eq_1 (sim_seq (sim_asg (sim_call (sim_cons (sim_var 0) (sim_cons (sim_var 4) sim_nil))) (sim_name 5)) (sim_cut c__law_digits_4.eq_1 (sim_seq (sim_ifS (sim_test (sim_op sim_ltA (sim_var 5) sim_int)) (sim_cut c__law_digits_5.eq_1 (sim_asg (sim_op sim_sub sim_int (sim_op sim_mulX sim_int (sim_var 5))) (sim_name 5))) sim_next) (sim_cut c__law_digits_6.eq_1 (sim_ifS (sim_test (sim_op sim_geA (sim_var 5) sim_int)) (sim_cut c__law_digits_7.eq_1 (sim_for (sim_range1 (sim_cons sim_int sim_nil)) (sim_name 6) (sim_cut c__law_digits_8.eq_1 (sim_ifS (sim_test (sim_op sim_gtA (sim_var 5) sim_int)) (sim_cut c__law_digits_9.eq_1 (sim_seq (sim_drop (sim_append (sim_var 3) (sim_cons (sim_op sim_mod (sim_cb sim_intOf (sim_cons (sim_var 5) sim_nil)) sim_int) sim_nil))) (sim_cut c__law_digits_10.eq_1 (sim_asg (sim_op sim_fdiv (sim_var 5) sim_int) (sim_name 5))))) sim_next)))) (sim_cut c__law_digits_12.eq_1 (sim_seq (sim_asg (sim_op sim_mod (sim_cb sim_intOf (sim_cons (sim_op sim_addA (sim_op sim_addA (sim_op sim_mulX (sim_var 5) sim_int) (sim_op sim_mulX (sim_var 4) sim_int)) sim_int) sim_nil)) sim_int) (sim_name 7)) (sim_cut c__law_digits_13.eq_1 (sim_for (sim_range1 (sim_cons sim_int sim_nil)) (sim_name 6) (sim_cut c__law_digits_14.eq_1 (sim_seq (sim_asg (sim_op sim_mod (sim_cb sim_intOf (sim_cons (sim_op sim_addA (sim_op sim_addA (sim_op sim_mulX (sim_var 7) sim_int) (sim_op sim_mulX sim_int (sim_var 6))) sim_int) sim_nil)) sim_int) (sim_name 7)) (sim_cut c__law_digits_15.eq_1 (sim_drop (sim_append (sim_var 3) (sim_cons (sim_op sim_mod (sim_cb sim_intOf (sim_cons (sim_op sim_fdiv (sim_var 7) sim_int) sim_nil)) sim_int) sim_nil))))))))))))))))) (sim_cut c__law_digits_16.eq_1 (sim_ret (sim_frz (sim_var 3))))))))⟩
theorem ok__law_torn (T : Tops P K mg) : FnD P w K mg base CX0 2 T.f__law_torn T.x__law_torn ["box", "many"] m__law_torn := by
  refine fnD T.d__law_torn.fn sc__law_torn fun cd A l s H E hg hr => ?_
  exact ⟨_, (pss_cons (ps_set (i := 2) sc__law_torn.nd rfl (by first | exact Or.inl rfl | exact Or.inr rfl) (pe_callG (ok__law_draw T) hg (hr.mono (by decide)) (by rfl) T.d__law_draw.at_ T.d__law_draw.fn.kp T.d__law_draw.bd pass0S (pa_cons (pv 0) (pa_cons pe_int pa_nil)))) (pss_cons (ps_if (pt_cmpR (op_eqA hr.units) (pv 2) pe_int (nomark _)) (pss_one (ps_ret (pe_lst pa_nil))) pss_nil) (pss_cons (ps_if (pt_cmpR (op_eqA hr.units) (pv 2) pe_int (nomark _)) (pss_one (ps_ret (pe_op op_mulX (pe_lst (pa_cons pe_int pa_nil)) (pv 1)))) pss_nil) (pss_cons (ps_if (pt_cmpR (op_eqA hr.units) (pv 2) pe_int (nomark _)) (pss_one (ps_ret (pe_lc (own := [("k", 3)]) (by rfl) sc__law_torn.nd (pi_range1 (by rfl) T.b_range (pa_cons (pv 1) pa_nil)) (blkOk_by (own := [("k", 3)]) (N := N__law_torn) (sc := defScope s__law_torn) (by decide +kernel)) (fun _ _ _ _ _ => (pg_name (i := 3) sc__law_torn.nd rfl (by first | exact Or.inl rfl | exact Or.inr rfl))) (fun _ _ _ _ _ => pts_nil) (fun _ _ _ _ _ => (pe_op op_mulX pe_int (pe_callG (ok__law_draw T) hg (hr.mono (by decide)) (by rfl) T.d__law_draw.at_ T.d__law_draw.fn.kp T.d__law_draw.bd pass0S (pa_cons (pv 0) (pa_cons pe_int pa_nil)))))))) pss_nil) (pss_one (ps_ret (pe_lc (own := [("k", 3)]) (by rfl) sc__law_torn.nd (pi_range1 (by rfl) T.b_range (pa_cons (pv 1) pa_nil)) (blkOk_by (own := [("k", 3)]) (N := N__law_torn) (sc := defScope s__law_torn) (by decide +kernel)) (fun _ _ _ _ _ => (pg_name (i := 3) sc__law_torn.nd rfl (by first | exact Or.inl rfl | exact Or.inr rfl))) (fun _ _ _ _ _ => pts_nil) (fun _ _ _ _ _ => (pe_callG (ok__law_draw T) hg (hr.mono (by decide)) (by rfl) T.d__law_draw.at_ T.d__law_draw.fn.kp T.d__law_draw.bd pass0S (pa_cons (pv 0) (pa_cons pe_int pa_nil))))))))))), (sim_cut c__law_torn_1.eq_1 (sim_seq (sim_asg (sim_call (sim_cons (sim_var 0) (sim_cons sim_int sim_nil))) (sim_name 2)) (sim_cut c__law_torn_2.eq_1 (sim_seq (sim_ifS (sim_test (sim_op sim_eq (sim_var 2) sim_int)) (sim_cut c__law_torn_3.eq_1 (sim_ret (sim_lst sim_nil))) sim_next) (sim_cut c__law_torn_4.eq_1 (sim_seq (sim_ifS (sim_test (sim_op sim_eq (sim_var 2) sim_int)) (sim_cut c__law_torn_5.eq_1 (sim_ret (sim_op sim_mulX (sim_lstM (sim_cons sim_int sim_nil)) (sim_var 1)))) sim_next) (sim_cut c__law_torn_6.eq_1 (sim_seq (sim_ifS (sim_test (sim_op sim_eq (sim_var 2) sim_int)) (sim_cut c__law_torn_7.eq_1 (sim_ret (sim_lc fin_D (kps_name (by decide)) (sim_range1 (sim_cons (sim_var 1) sim_nil)) (sim_name 3) sim_yes (sim_op sim_mulX sim_int (sim_call (sim_cons (sim_var 0) (sim_cons sim_int sim_nil))))))) sim_next) (sim_cut c__law_torn_8.eq_1 (sim_ret (sim_lc fin_D (kps_name (by decide)) (sim_range1 (sim_cons (sim_var 1) sim_nil)) (sim_name 3) sim_yes (sim_call (sim_cons (sim_var 0) (sim_cons sim_int sim_nil))))))))))))))⟩
theorem ok_Disk___init__ (T : Tops P K mg) : FnD P w K mg base (L2.CX P w) 3 T.f_Disk___init__ T.x_Disk___init__ ["self", "blocks"] (m_Disk___init__ T.κ) := by
  refine fnDX T.d_Disk___init__.fn sc_Disk___init__ fun cd A l s H E hg hr => ?_
  exact ⟨_, (pss_cons (ps_if (pt_not (pt_chain (op_leA hr.units) (op_leA hr.units) (pe_glob (v := .int 8) (by rfl) T.c_BLOCKS_LEAST ⟨_, rfl⟩) (pv 1) (pe_glob (v := .int 400) (by rfl) T.c_BLOCKS_MOST ⟨_, rfl⟩))) (pss_one (ps_raiseF rfl T.xf_OutOfRange.tx T.xf_OutOfRange.iC T.xf_OutOfRange.tI T.xf_OutOfRange.bd (hr.mono (by decide)) (takes_of rfl rfl rfl rfl) T.g_OutOfRange (pa_cons pe_str pa_nil))) pss_nil) (pss_cons (ps_fld (pv 0) (pe_op op_rep (pe_lst (pa_cons (pe_op op_repT (pe_tup (pa_cons pe_int pa_nil)) (pe_glob (v := .int 32) (by rfl) T.c_BLOCK ⟨_, rfl⟩)) pa_nil)) (pv 1)) (by rfl)) (pss_cons (ps_fld (pv 0) (pe_lst pa_nil) (by rfl)) (pss_cons (ps_fld (pv 0) pe_int (by rfl)) (pss_cons (ps_fld (pv 0) pe_non (by rfl)) (pss_one (ps_fld (pv 0) (pe_tup pa_nil) (by rfl)))))))), (sim_cut (c_Disk___init___1.eq_1 _) (sim_seq (sim_ifS (sim_not (sim_test (sim_chain sim_leA sim_leA sim_int (sim_var 1) sim_int))) (sim_cut (c_Disk___init___2.eq_1 _) (sim_raiseF (sim_cons sim_str sim_nil))) sim_next) (sim_cut (c_Disk___init___3.eq_1 _) (sim_seq (sim_fldS T.cl_Disk T.nf_Disk_stored (sim_var 0) (sim_op sim_mulM (sim_lstM (sim_cons (sim_op sim_repT (sim_tup (sim_cons sim_int sim_nil)) sim_int) sim_nil)) (sim_var 1))) (sim_cut (c_Disk___init___4.eq_1 _) (sim_seq (sim_fldS T.cl_Disk T.nf_Disk_unflushed (sim_var 0) (sim_lstM sim_nil)) (sim_cut (c_Disk___init___5.eq_1 _) (sim_seq (sim_fldS T.cl_Disk T.nf_Disk_cuts (sim_var 0) sim_int) (sim_cut (c_Disk___init___6.eq_1 _) (sim_seq (sim_fldS T.cl_Disk T.nf_Disk_until_cut (sim_var 0) sim_non) (sim_cut (c_Disk___init___7.eq_1 _) (sim_fldS T.cl_Disk T.nf_Disk_torn_then (sim_var 0) (sim_tup sim_nil)))))))))))))⟩
theorem ok_Disk_check_at (T : Tops P K mg) : FnD P w K mg base (L2.CX P w) 3 T.f_Disk_check_at T.x_Disk_check_at ["self", "at"] (m_Disk_check_at T.κ) := by
  refine fnDX T.d_Disk_check_at.fn sc_Disk_check_at fun cd A l s H E hg hr => ?_
  exact ⟨_, (pss_one (ps_if (pt_not (pt_chain (op_leA hr.units) (op_ltA hr.units) pe_int (pv 1) (pe_callB call_len (by rfl) T.b_len (by decide +kernel) (pa_cons (pe_fld (pv 0) (by rfl)) pa_nil)))) (pss_one (ps_raiseF rfl T.xf_OutOfRange.tx T.xf_OutOfRange.iC T.xf_OutOfRange.tI T.xf_OutOfRange.bd (hr.mono (by decide)) (takes_of rfl rfl rfl rfl) T.g_OutOfRange (pa_cons pe_str pa_nil))) pss_nil)), (sim_ifS (sim_not (sim_test (sim_chain sim_leA sim_ltA sim_int (sim_var 1) (sim_cb sim_len (sim_cons (sim_fld T.cl_Disk T.nf_Disk_stored (sim_var 0)) sim_nil))))) (sim_raiseF (sim_cons sim_str sim_nil)) sim_next)⟩
theorem ok_check_torn (T : Tops P K mg) : FnD P w K mg base (L2.CX P w) 3 T.f_check_torn T.x_check_torn ["torn"] (m_check_torn T.κ) := by
  refine fnDX T.d_check_torn.fn sc_check_torn fun cd A l s H E hg hr => ?_
  exact ⟨_, (pss_one (ps_if (pt_not (pt_truth (pe_callB (cr_all (by rfl)) (by rfl) T.b_all (by decide +kernel) (pa_cons (pe_lc (own := [("stays", 1)]) (by rfl) sc_check_torn.nd (pi_seqA (pv 0)) (blkOk_by (own := [("stays", 1)]) (N := N_check_torn) (sc := defScope s_check_torn) (by decide +kernel)) (fun _ _ _ _ _ => (pg_name (i := 1) sc_check_torn.nd rfl (by first | exact Or.inl rfl | exact Or.inr rfl))) (fun _ _ _ _ _ => pts_nil) (fun _ _ _ _ _ => (pe_chain (op_leA hr.units) (op_leA hr.units) pe_int (pv 1) (pe_glob (v := .int 32) (by rfl) T.c_BLOCK ⟨_, rfl⟩)))) pa_nil)) (fun _ => rfl))) (pss_one (ps_raiseF rfl T.xf_OutOfRange.tx T.xf_OutOfRange.iC T.xf_OutOfRange.tI T.xf_OutOfRange.bd (hr.mono (by decide)) (takes_of rfl rfl rfl rfl) T.g_OutOfRange (pa_cons pe_str pa_nil))) pss_nil)), (sim_ifS (sim_not (sim_tru (sim_cb sim_all (sim_cons (sim_lc fin_D (kps_name (by decide)) (sim_iSeq (sim_var 0)) (sim_name 1) sim_yes (sim_chain sim_leA sim_leA sim_int (sim_var 1) sim_int)) sim_nil)))) (sim_raiseF (sim_cons sim_str sim_nil)) sim_next)⟩
theorem ok_Disk_read (T : Tops P K mg) : FnD P w K mg base (L2.CX P w) 4 T.f_Disk_read T.x_Disk_read ["self", "at"] (m_Disk_read T.κ) := by
  refine fnDX T.d_Disk_read.fn sc_Disk_read fun cd A l s H E hg hr => ?_
  exact ⟨_, (pss_cons (ps_expr (pe_methG (pv 0) T.cl_Disk T.d_Disk_check_at.me (ok_Disk_check_at T) hg (hr.mono (by decide)) T.d_Disk_check_at.bd (fun σ => passAt (takes_of rfl rfl rfl rfl) σ) (pa_cons (pv 1) pa_nil))) (pss_cons (ps_set (i := 2) sc_Disk_read.nd rfl (by first | exact Or.inl rfl | exact Or.inr rfl) (pe_ix ix_seq (pe_fld (pv 0) (by rfl)) (pv 1) (fun _ _ => rfl))) (pss_cons (ps_for (passes_of rfl) (by rfl) (pi_seqA (pe_fld (pv 0) (by rfl))) (pg_tup (by rfl) (pgs_cons (pg_name (i := 3) sc_Disk_read.nd rfl (by first | exact Or.inl rfl | exact Or.inr rfl)) (pgs_cons (pg_name (i := 4) sc_Disk_read.nd rfl (by first | exact Or.inl rfl | exact Or.inr rfl)) pgs_nil))) (pss_one (ps_if (pt_cmpR (op_eqA hr.units) (pv 3) (pv 1) (nomark _)) (pss_one (ps_set (i := 2) sc_Disk_read.nd rfl (by first | exact Or.inl rfl | exact Or.inr rfl) (pv 4))) pss_nil))) (pss_one (ps_ret (pe_callTy call_list_of (by rfl) T.b_list (by decide +kernel) (pa_cons (pv 2) pa_nil))))))), (sim_cut (c_Disk_read_1.eq_1 _) (sim_seq (sim_drop (sim_meth (sim_var 0) (sim_cons (sim_var 1) sim_nil))) (sim_cut (c_Disk_read_2.eq_1 _) (sim_seq (sim_asg (sim_op sim_ix (sim_fld T.cl_Disk T.nf_Disk_stored (sim_var 0)) (sim_var 1)) (sim_name 2)) (sim_cut (c_Disk_read_3.eq_1 _) (sim_seq (sim_for (sim_iSeq (sim_fld T.cl_Disk T.nf_Disk_unflushed (sim_var 0))) (sim_tupN [3, 4] 2) (sim_cut (c_Disk_read_4.eq_1 _) (sim_ifS (sim_test (sim_op sim_eq (sim_var 3) (sim_var 1))) (sim_cut (c_Disk_read_5.eq_1 _) (sim_asg (sim_var 4) (sim_name 2))) sim_next))) (sim_cut (c_Disk_read_6.eq_1 _) (sim_ret (sim_cb sim_list (sim_cons (sim_var 2) sim_nil))))))))))⟩
theorem ok_Disk_cut_power (T : Tops P K mg) : FnD P w K mg base (L2.CX P w) 4 T.f_Disk_cut_power T.x_Disk_cut_power ["self", "torn"] (m_Disk_cut_power T.κ) := by
  refine fnDX T.d_Disk_cut_power.fn sc_Disk_cut_power fun cd A l s H E hg hr => ?_
  exact ⟨_, (pss_cons (ps_expr (pe_callG (ok_check_torn T) hg (hr.mono (by decide)) (by rfl) T.d_check_torn.at_ T.d_check_torn.fn.kp T.d_check_torn.bd (fun σ => passAt (takes_of rfl rfl rfl rfl) σ) (pa_cons (pv 1) pa_nil))) (pss_cons (ps_set (i := 2) sc_Disk_cut_power.nd rfl (by first | exact Or.inl rfl | exact Or.inr rfl) (pe_op op_sub (pe_callB call_len (by rfl) T.b_len (by decide +kernel) (pa_cons (pe_fld (pv 0) (by rfl)) pa_nil)) (pe_callB call_len (by rfl) T.b_len (by decide +kernel) (pa_cons (pv 1) pa_nil)))) (pss_cons (ps_expr (pe_methG (pv 0) T.cl_Disk T.d_Disk_store.me (ok_Disk_store T) hg (hr.mono (by decide)) T.d_Disk_store.bd pass0S (pa_cons (pe_op op_addA (pe_callTy call_list_of (by rfl) T.b_list (by decide +kernel) (pa_cons (pv 1) pa_nil)) (pe_op op_rep (pe_lst (pa_cons pe_int pa_nil)) (pv 2))) pa_nil))) (pss_cons (ps_fldaug (pv 0) pe_int in_add) (pss_one (ps_fld (pv 0) pe_non (by rfl))))))), (sim_cut (c_Disk_cut_power_1.eq_1 _) (sim_seq (sim_drop (sim_call (sim_cons (sim_var 1) sim_nil))) (sim_cut (c_Disk_cut_power_2.eq_1 _) (sim_seq (sim_asg (sim_op sim_sub (sim_cb sim_len (sim_cons (sim_fld T.cl_Disk T.nf_Disk_unflushed (sim_var 0)) sim_nil)) (sim_cb sim_len (sim_cons (sim_var 1) sim_nil))) (sim_name 2)) (sim_cut (c_Disk_cut_power_3.eq_1 _) (sim_seq (sim_drop (sim_meth (sim_var 0) (sim_cons (sim_op sim_addA (sim_cb sim_list (sim_cons (sim_var 1) sim_nil)) (sim_op sim_repN (sim_lstM (sim_cons sim_int sim_nil)) (sim_var 2))) sim_nil))) (sim_cut (c_Disk_cut_power_4.eq_1 _) (sim_seq (sim_fldAug T.cl_Disk T.nf_Disk_cuts sim_addI (sim_var 0) sim_int) (sim_cut (c_Disk_cut_power_5.eq_1 _) (sim_fldS T.cl_Disk T.nf_Disk_until_cut (sim_var 0) sim_non))))))))))⟩
theorem ok_Disk_schedule_cut (T : Tops P K mg) : FnD P w K mg base (L2.CX P w) 4 T.f_Disk_schedule_cut T.x_Disk_schedule_cut ["self", "many", "torn"] (m_Disk_schedule_cut T.κ) := by
  refine fnDX T.d_Disk_schedule_cut.fn sc_Disk_schedule_cut fun cd A l s H E hg hr => ?_
  exact ⟨_, (pss_cons (ps_if (pt_not (pt_chain (op_leA hr.units) (op_leA hr.units) pe_int (pv 1) (pe_glob (v := .int 100000) (by rfl) T.c_SCHEDULE_MOST ⟨_, rfl⟩))) (pss_one (ps_raiseF rfl T.xf_OutOfRange.tx T.xf_OutOfRange.iC T.xf_OutOfRange.tI T.xf_OutOfRange.bd (hr.mono (by decide)) (takes_of rfl rfl rfl rfl) T.g_OutOfRange (pa_cons pe_str pa_nil))) pss_nil) (pss_cons (ps_expr (pe_callG (ok_check_torn T) hg (hr.mono (by decide)) (by rfl) T.d_check_torn.at_ T.d_check_torn.fn.kp T.d_check_torn.bd (fun σ => passAt (takes_of rfl rfl rfl rfl) σ) (pa_cons (pv 2) pa_nil))) (pss_cons (ps_fld (pv 0) (pv 1) (by rfl)) (pss_one (ps_fld (pv 0) (pe_callTy call_tuple_of (by rfl) T.b_tuple (by decide +kernel) (pa_cons (pv 2) pa_nil)) (by rfl)))))), (sim_cut (c_Disk_schedule_cut_1.eq_1 _) (sim_seq (sim_ifS (sim_not (sim_test (sim_chain sim_leA sim_leA sim_int (sim_var 1) sim_int))) (sim_cut (c_Disk_schedule_cut_2.eq_1 _) (sim_raiseF (sim_cons sim_str sim_nil))) sim_next) (sim_cut (c_Disk_schedule_cut_3.eq_1 _) (sim_seq (sim_drop (sim_call (sim_cons (sim_var 2) sim_nil))) (sim_cut (c_Disk_schedule_cut_4.eq_1 _) (sim_seq (sim_fldS T.cl_Disk T.nf_Disk_until_cut (sim_var 0) (sim_var 1)) (sim_cut (c_Disk_schedule_cut_5.eq_1 _) (sim_fldS T.cl_Disk T.nf_Disk_torn_then (sim_var 0) (sim_cb sim_tuple (sim_cons (sim_var 2) sim_nil))))))))))⟩
theorem ok_Disk_count_down (T : Tops P K mg) : FnD P w K mg base (L2.CX P w) 5 T.f_Disk_count_down T.x_Disk_count_down ["self"] (m_Disk_count_down T.κ) := by
  refine fnDX T.d_Disk_count_down.fn sc_Disk_count_down fun cd A l s H E hg hr => ?_
  exact ⟨_, (pss_cons (ps_if (pt_cmpR (op_eqA hr.units) (pe_fld (pv 0) (by rfl)) pe_int (nomark _)) (pss_cons (ps_expr (pe_methG (pv 0) T.cl_Disk T.d_Disk_cut_power.me (ok_Disk_cut_power T) hg (hr.mono (by decide)) T.d_Disk_cut_power.bd (fun σ => passAt (takes_of rfl rfl rfl rfl) σ) (pa_cons (pe_fld (pv 0) (by rfl)) pa_nil))) (pss_one (ps_raiseT rfl T.xt_PowerCut.q T.g_PowerCut T.xt_PowerCut.kC (raises_own T.xt_PowerCut.exC T.xt_PowerCut.tyC) (takes_of rfl rfl rfl rfl)))) pss_nil) (pss_one (ps_if (pt_cmpR op_isNA (pe_fld (pv 0) (by rfl)) pe_non (nomark _)) (pss_one (ps_fldaug (pv 0) pe_int in_sub)) pss_nil))), (sim_cut (c_Disk_count_down_1.eq_1 _) (sim_seq (sim_ifS (sim_test (sim_op sim_eq (sim_fld T.cl_Disk T.nf_Disk_until_cut (sim_var 0)) sim_int)) (sim_cut (c_Disk_count_down_2.eq_1 _) (sim_seq (sim_drop (sim_meth (sim_var 0) (sim_cons (sim_fld T.cl_Disk T.nf_Disk_torn_then (sim_var 0)) sim_nil))) (sim_cut (c_Disk_count_down_3.eq_1 _) sim_raiseT))) sim_next) (sim_cut (c_Disk_count_down_4.eq_1 _) (sim_ifS (sim_test (sim_op sim_isN (sim_fld T.cl_Disk T.nf_Disk_until_cut (sim_var 0)) sim_non)) (sim_cut (c_Disk_count_down_5.eq_1 _) (sim_fldAug T.cl_Disk T.nf_Disk_until_cut sim_subI (sim_var 0) sim_int)) sim_next))))⟩
theorem ok__law_schedule (T : Tops P K mg) : FnD P w K mg base CX0 5 T.f__law_schedule T.x__law_schedule ["disk", "count", "torn"] (m__law_schedule T.κ) := by
  refine fnD T.d__law_schedule.fn sc__law_schedule fun cd A l s H E hg hr => ?_
  exact ⟨_, (pss_one (ps_try_mix rfl rfl sc__law_schedule.nd takes0 (fun W pn xe tk po => (pss_one (ps_ret (pe_methG (pv 0) T.cl_Disk T.d_Disk_schedule_cut.me (ok_Disk_schedule_cut T) hg (hr.mono (by decide)) T.d_Disk_schedule_cut.bd (fun σ => passAt tk σ) (pa_cons (pv 1) (pa_cons (pv 2) pa_nil)))))) (.cons (ts := (fun a c d => tRet (tTup (tCons (tC (.str "refused")) (tCons (tExF T.c_OutOfRange "name" a c d (tVar 3)) tNil))))) (oi := (some 3)) ⟨rfl, by decide, .inl T.g_OutOfRange⟩ ⟨rfl, rfl⟩ (fun a oe c d pn hz hf => (pss_one (ps_ret (pe_tup (pa_cons pe_str (pa_cons (pe_exF T.ef_OutOfRange_name hz hf (pv 3)) pa_nil)))))) .nil))), (sim_cut (c__law_schedule_1.eq_1 _) (sim_try (fun _ => (sim_cut (c__law_schedule_2.eq_1 _) (sim_ret (sim_meth (sim_var 0) (sim_cons (sim_var 1) (sim_cons (sim_var 2) sim_nil)))))) (.cons (simu_tup (i := 3)) .nil)))⟩
theorem ok_Disk_write (T : Tops P K mg) : FnD P w K mg base (L2.CX P w) 6 T.f_Disk_write T.x_Disk_write ["self", "at", "block"] (m_Disk_write T.κ) := by
  refine fnDX T.d_Disk_write.fn sc_Disk_write fun cd A l s H E hg hr => ?_
  exact ⟨_, (pss_cons (ps_expr (pe_methG (pv 0) T.cl_Disk T.d_Disk_check_at.me (ok_Disk_check_at T) hg (hr.mono (by decide)) T.d_Disk_check_at.bd (fun σ => passAt (takes_of rfl rfl rfl rfl) σ) (pa_cons (pv 1) pa_nil))) (pss_cons (ps_if (pt_not (pt_truth (pe_callG (ok_is_block T) hg (hr.mono (by decide)) (by rfl) T.d_is_block.at_ T.d_is_block.fn.kp T.d_is_block.bd pass0S (pa_cons (pv 2) pa_nil)) (fun _ => rfl))) (pss_one (ps_raiseF rfl T.xf_OutOfRange.tx T.xf_OutOfRange.iC T.xf_OutOfRange.tI T.xf_OutOfRange.bd (hr.mono (by decide)) (takes_of rfl rfl rfl rfl) T.g_OutOfRange (pa_cons pe_str pa_nil))) pss_nil) (pss_cons (ps_expr (pe_methG0 (pv 0) T.cl_Disk T.d_Disk_count_down.me (ok_Disk_count_down T) hg (hr.mono (by decide)) T.d_Disk_count_down.bd (fun σ => passAt (takes_of rfl rfl rfl rfl) σ))) (pss_one (ps_expr (pe_bm PySem.F.plainAttrs_list PySem.F.slot_list_append PySem.F.type_list_append mt_append (pe_fld (pv 0) (by rfl)) (pa_cons (pe_tup (pa_cons (pv 1) (pa_cons (pe_callTy call_tuple_of (by rfl) T.b_tuple (by decide +kernel) (pa_cons (pv 2) pa_nil)) pa_nil))) pa_nil))))))), (sim_cut (c_Disk_write_1.eq_1 _) (sim_seq (sim_drop (sim_meth (sim_var 0) (sim_cons (sim_var 1) sim_nil))) (sim_cut (c_Disk_write_2.eq_1 _) (sim_seq (sim_ifS (sim_not (sim_tru (sim_call (sim_cons (sim_var 2) sim_nil)))) (sim_cut (c_Disk_write_3.eq_1 _) (sim_raiseF (sim_cons sim_str sim_nil))) sim_next) (sim_cut (c_Disk_write_4.eq_1 _) (sim_seq (sim_drop (sim_meth (sim_var 0) sim_nil)) (sim_cut (c_Disk_write_5.eq_1 _) (sim_drop (sim_append (sim_fld T.cl_Disk T.nf_Disk_unflushed (sim_var 0)) (sim_cons (sim_tup (sim_cons (sim_var 1) (sim_cons (sim_cb sim_tuple (sim_cons (sim_var 2) sim_nil)) sim_nil))) sim_nil))))))))))⟩
theorem ok_Disk_flush (T : Tops P K mg) : FnD P w K mg base (L2.CX P w) 6 T.f_Disk_flush T.x_Disk_flush ["self"] (m_Disk_flush T.κ) := by
  refine fnDX T.d_Disk_flush.fn sc_Disk_flush fun cd A l s H E hg hr => ?_
  exact ⟨_, (pss_cons (ps_expr (pe_methG0 (pv 0) T.cl_Disk T.d_Disk_count_down.me (ok_Disk_count_down T) hg (hr.mono (by decide)) T.d_Disk_count_down.bd (fun σ => passAt (takes_of rfl rfl rfl rfl) σ))) (pss_one (ps_expr (pe_methG (pv 0) T.cl_Disk T.d_Disk_store.me (ok_Disk_store T) hg (hr.mono (by decide)) T.d_Disk_store.bd pass0S (pa_cons (pe_op op_rep (pe_lst (pa_cons (pe_glob (v := .int 32) (by rfl) T.c_BLOCK ⟨_, rfl⟩) pa_nil)) (pe_callB call_len (by rfl) T.b_len (by decide +kernel) (pa_cons (pe_fld (pv 0) (by rfl)) pa_nil))) pa_nil))))), (sim_cut (c_Disk_flush_1.eq_1 _) (sim_seq (sim_drop (sim_meth (sim_var 0) sim_nil)) (sim_cut (c_Disk_flush_2.eq_1 _) (sim_drop (sim_meth (sim_var 0) (sim_cons (sim_op sim_repN (sim_lstM (sim_cons sim_int sim_nil)) (sim_cb sim_len (sim_cons (sim_fld T.cl_Disk T.nf_Disk_unflushed (sim_var 0)) sim_nil))) sim_nil))))))⟩
theorem ok__law_do_raw (T : Tops P K mg) : FnD P w K mg base (L2.CX P w) 7 T.f__law_do_raw T.x__law_do_raw ["disk", "at", "block"] (m__law_do_raw T.κ) := by
  refine fnDX T.d__law_do_raw.fn sc__law_do_raw fun cd A l s H E hg hr => ?_
  exact ⟨_, (pss_cons (ps_if (pt_cmpR (op_eqA hr.units) (pv 1) (pe_op op_sub pe_int pe_int) (nomark _)) (pss_one (ps_ret (pe_methG0 (pv 0) T.cl_Disk T.d_Disk_flush.me (ok_Disk_flush T) hg (hr.mono (by decide)) T.d_Disk_flush.bd (fun σ => passAt (takes_of rfl rfl rfl rfl) σ)))) pss_nil) (pss_one (ps_ret (pe_methG (pv 0) T.cl_Disk T.d_Disk_write.me (ok_Disk_write T) hg (hr.mono (by decide)) T.d_Disk_write.bd (fun σ => passAt (takes_of rfl rfl rfl rfl) σ) (pa_cons (pv 1) (pa_cons (pv 2) pa_nil)))))), (sim_cut (c__law_do_raw_1.eq_1 _) (sim_seq (sim_ifS (sim_test (sim_op sim_eq (sim_var 1) (sim_op sim_sub sim_int sim_int))) (sim_cut (c__law_do_raw_2.eq_1 _) (sim_ret (sim_meth (sim_var 0) sim_nil))) sim_next) (sim_cut (c__law_do_raw_3.eq_1 _) (sim_ret (sim_meth (sim_var 0) (sim_cons (sim_var 1) (sim_cons (sim_var 2) sim_nil)))))))⟩
theorem ok__law_do (T : Tops P K mg) : FnD P w K mg base CX0 8 T.f__law_do T.x__law_do ["disk", "at", "block"] (m__law_do T.κ) := by
  refine fnD T.d__law_do.fn sc__law_do fun cd A l s H E hg hr => ?_
  exact ⟨_, (pss_cons (ps_try_mix rfl rfl sc__law_do.nd takes0 (fun W pn xe tk po => (pss_one (ps_set (i := 4) sc__law_do.nd rfl (by first | exact Or.inl rfl | exact Or.inr rfl) (pe_callG (ok__law_do_raw T) hg (hr.mono (by decide)) (by rfl) T.d__law_do_raw.at_ T.d__law_do_raw.fn.kp T.d__law_do_raw.bd (fun σ => passAt tk σ) (pa_cons (pv 0) (pa_cons (pv 1) (pa_cons (pv 2) pa_nil))))))) (.cons (ts := _) (oi := (some 3)) ⟨rfl, by decide, .inl T.g_PowerCut⟩ ⟨rfl, rfl⟩ (fun a oe c d pn hz hf => (pss_cons (ps_if (PW.pt (pw_and (pt_truth (pe_callB (call_isX T.ec_PowerCut hz hf) (by rfl) T.b_isinstance (by decide +kernel) (pa_cons (pv 3) (pa_cons (pe_glob (v := .ref T.c_RestError) (by rfl) T.g_RestError rfl) pa_nil))) (fun _ => rfl)) (pw_and1 (pt_not (pt_truth (pe_callB (call_isX T.ec_PowerCut hz hf) (by rfl) T.b_isinstance (by decide +kernel) (pa_cons (pv 3) (pa_cons (pe_glob (v := .ref T.c_OutOfRange) (by rfl) T.g_OutOfRange rfl) pa_nil))) (fun _ => rfl)))))) (pss_one (ps_ret (pe_tup (pa_cons pe_str (pa_cons pe_str pa_nil))))) pss_nil) (pss_one (ps_ret (pe_tup (pa_cons pe_str (pa_cons pe_str pa_nil))))))) (.cons (ts := (fun a c d => tRet (tTup (tCons (tC (.str "refused")) (tCons (tExF T.c_OutOfRange "name" a c d (tVar 3)) tNil))))) (oi := (some 3)) ⟨rfl, by decide, .inl T.g_OutOfRange⟩ ⟨rfl, rfl⟩ (fun a oe c d pn hz hf => (pss_one (ps_ret (pe_tup (pa_cons pe_str (pa_cons (pe_exF T.ef_OutOfRange_name hz hf (pv 3)) pa_nil)))))) .nil))) (pss_one (ps_ret (pv 4)))), (sim_cut (c__law_do_1.eq_1 _) (sim_seq (sim_try (fun _ => (sim_cut (c__law_do_2.eq_1 _) (sim_asg (sim_call (sim_cons (sim_var 0) (sim_cons (sim_var 1) (sim_cons (sim_var 2) sim_nil)))) (sim_name 4)))) (.cons (simu_mk fun x a c d hxx => (sim_seq (sim_ifS (sim_and (sim_tru (sim_isX hxx)) (sim_not (sim_tru (sim_isX hxx)))) (sim_ret (sim_tup (sim_cons sim_str (sim_cons sim_str sim_nil)))) sim_next) (sim_ret (sim_tup (sim_cons sim_str (sim_cons sim_str sim_nil)))))) (.cons (simu_tup (i := 3)) .nil))) (sim_cut (c__law_do_9.eq_1 _) (sim_ret (sim_var 4)))))⟩
theorem ok_law (T : Tops P K mg) : FnD P w K mg base CX0 9 T.f_law T.x_law ["script"] (m_law T.κ) := by
  refine fnD T.d_law.fn sc_law fun cd A l s H E hg hr => ?_
  exact ⟨_, (pss_cons (ps_set (i := 1) sc_law.nd rfl (by first | exact Or.inl rfl | exact Or.inr rfl) (pe_lst (pa_cons (pe_callG (ok__law_digits T) hg (hr.mono (by decide)) (by rfl) T.d__law_digits.at_ T.d__law_digits.fn.kp T.d__law_digits.bd pass0S (pa_cons (pv 0) (pa_cons pe_int (pa_cons pe_int pa_nil)))) (pa_cons pe_int pa_nil)))) (pss_cons (ps_set (i := 2) sc_law.nd rfl (by first | exact Or.inl rfl | exact Or.inr rfl) (pe_op op_addA pe_int (pe_callG (ok__law_draw T) hg (hr.mono (by decide)) (by rfl) T.d__law_draw.at_ T.d__law_draw.fn.kp T.d__law_draw.bd pass0S (pa_cons (pv 1) (pa_cons pe_int pa_nil))))) (pss_cons (ps_set (i := 3) sc_law.nd rfl (by first | exact Or.inl rfl | exact Or.inr rfl) (pe_makeG T.mk_Disk (ok_Disk___init__ T) hg (hr.mono (by decide)) (by rfl) T.g_Disk T.d_Disk___init__.bd (fun σ => passAt takes0 σ) (pa_cons (pv 2) pa_nil))) (pss_cons (ps_setLc (i := 4) (own := [("k", 11)]) (by rfl) sc_law.nd rfl rfl (sw_true rfl rfl rfl (by decide +kernel)) (pi_range1 (by rfl) T.b_range (pa_cons (pv 2) pa_nil)) (blkOk_by (own := [("k", 11)]) (N := N_law) (sc := defScope s_law) (by decide +kernel)) (fun _ _ _ _ _ => (pg_name (i := 11) sc_law.nd rfl (by first | exact Or.inl rfl | exact Or.inr rfl))) (fun _ _ _ _ _ => pts_nil) (fun _ _ _ _ _ => (pe_op op_mulX (pe_lst (pa_cons pe_int pa_nil)) pe_int))) (pss_cons (ps_set (i := 5) sc_law.nd rfl (by first | exact Or.inl rfl | exact Or.inr rfl) (pe_lst pa_nil)) (pss_cons (ps_set (i := 6) sc_law.nd rfl (by first | exact Or.inl rfl | exact Or.inr rfl) (pe_op op_sub pe_int pe_int)) (pss_cons (ps_set (i := 7) sc_law.nd rfl (by first | exact Or.inl rfl | exact Or.inr rfl) (pe_lst pa_nil)) (pss_cons (ps_set (i := 8) sc_law.nd rfl (by first | exact Or.inl rfl | exact Or.inr rfl) pe_int) (pss_cons (ps_for PassesOwn.never (by rfl) (pi_range1 (by rfl) T.b_range (pa_cons pe_int pa_nil)) (pg_name (i := 9) sc_law.nd rfl (by first | exact Or.inl rfl | exact Or.inr rfl)) (pss_cons (ps_set (i := 10) sc_law.nd rfl (by first | exact Or.inl rfl | exact Or.inr rfl) (pe_callG (ok__law_draw T) hg (hr.mono (by decide)) (by rfl) T.d__law_draw.at_ T.d__law_draw.fn.kp T.d__law_draw.bd pass0S (pa_cons (pv 1) (pa_cons pe_int pa_nil)))) (pss_cons (ps_if (PW.pt (pw_or (pt_cmpR (op_eqA hr.units) (pv 10) pe_int (nomark _)) (pw_or1 (pt_cmpR (op_eqA hr.units) (pv 9) pe_int (nomark _))))) (pss_cons (ps_set (i := 6) sc_law.nd rfl (by first | exact Or.inl rfl | exact Or.inr rfl) (pe_callG (ok__law_draw T) hg (hr.mono (by decide)) (by rfl) T.d__law_draw.at_ T.d__law_draw.fn.kp T.d__law_draw.bd pass0S (pa_cons (pv 1) (pa_cons pe_int pa_nil)))) (pss_cons (ps_set (i := 7) sc_law.nd rfl (by first | exact Or.inl rfl | exact Or.inr rfl) (pe_callG (ok__law_torn T) hg (hr.mono (by decide)) (by rfl) T.d__law_torn.at_ T.d__law_torn.fn.kp T.d__law_torn.bd pass0S (pa_cons (pv 1) (pa_cons pe_int pa_nil)))) (pss_cons (ps_set (i := 12) sc_law.nd rfl (by first | exact Or.inl rfl | exact Or.inr rfl) (pe_callTy call_list_of (by rfl) T.b_list (by decide +kernel) (pa_cons (pv 7) pa_nil))) (pss_cons (ps_if (PW.pt (pw_or (pt_cmpR op_isNA (pe_callG (ok__law_schedule T) hg (hr.mono (by decide)) (by rfl) T.d__law_schedule.at_ T.d__law_schedule.fn.kp T.d__law_schedule.bd pass0S (pa_cons (pv 3) (pa_cons pe_int (pa_cons (pe_lst (pa_cons pe_int pa_nil)) pa_nil)))) pe_non (nomark _)) (pw_or1 (pt_cmpR op_isNA (pe_callG (ok__law_schedule T) hg (hr.mono (by decide)) (by rfl) T.d__law_schedule.at_ T.d__law_schedule.fn.kp T.d__law_schedule.bd pass0S (pa_cons (pv 3) (pa_cons (pv 6) (pa_cons (pv 12) pa_nil)))) pe_non (nomark _))))) (pss_one (ps_ret pe_bl)) pss_nil) (pss_cons (ps_expr (pe_bm PySem.F.plainAttrs_list PySem.F.slot_list_append PySem.F.type_list_append mt_append (pv 12) (pa_cons pe_int pa_nil))) (pss_cons (ps_if (pt_cmpR (op_neA hr.units) (pe_callG (ok__law_schedule T) hg (hr.mono (by decide)) (by rfl) T.d__law_schedule.at_ T.d__law_schedule.fn.kp T.d__law_schedule.bd pass0S (pa_cons (pv 3) (pa_cons (pe_ix ix_seq (pe_lst (pa_cons (pe_op op_sub pe_int pe_int) (pa_cons pe_int pa_nil))) (pe_callG (ok__law_draw T) hg (hr.mono (by decide)) (by rfl) T.d__law_draw.at_ T.d__law_draw.fn.kp T.d__law_draw.bd pass0S (pa_cons (pv 1) (pa_cons pe_int pa_nil))) (fun _ _ => rfl)) (pa_cons (pe_lst (pa_cons pe_int pa_nil)) pa_nil)))) (pe_tup (pa_cons pe_str (pa_cons pe_str pa_nil))) (nomark _)) (pss_one (ps_ret pe_bl)) pss_nil) (pss_one (ps_if (pt_cmpR (op_neA hr.units) (pe_callG (ok__law_schedule T) hg (hr.mono (by decide)) (by rfl) T.d__law_schedule.at_ T.d__law_schedule.fn.kp T.d__law_schedule.bd pass0S (pa_cons (pv 3) (pa_cons pe_int (pa_cons (pe_lst (pa_cons pe_int pa_nil)) pa_nil)))) (pe_tup (pa_cons pe_str (pa_cons pe_str pa_nil))) (nomark _)) (pss_one (ps_ret pe_bl)) pss_nil)))))))) (pss_one (ps_if (PW.pt (pw_and (pt_cmpR (op_eqA hr.units) (pv 10) pe_int (nomark _)) (pw_and1 (pt_cmpR (op_eqA hr.units) (pe_callG (ok__law_draw T) hg (hr.mono (by decide)) (by rfl) T.d__law_draw.at_ T.d__law_draw.fn.kp T.d__law_draw.bd pass0S (pa_cons (pv 1) (pa_cons pe_int pa_nil))) pe_int (nomark _))))) (pss_cons (ps_expr (pe_methG (pv 3) T.cl_Disk T.d_Disk_cut_power.me (ok_Disk_cut_power T) hg (hr.mono (by decide)) T.d_Disk_cut_power.bd (fun σ => passAt takes0 σ) (pa_cons (pe_lst pa_nil) pa_nil))) (pss_cons (ps_set (i := 5) sc_law.nd rfl (by first | exact Or.inl rfl | exact Or.inr rfl) (pe_lst pa_nil)) (pss_cons (ps_set (i := 6) sc_law.nd rfl (by first | exact Or.inl rfl | exact Or.inr rfl) (pe_op op_sub pe_int pe_int)) (pss_one (ps_set (i := 8) sc_law.nd rfl (by first | exact Or.inl rfl | exact Or.inr rfl) (pe_op op_addA (pv 8) pe_int)))))) (pss_one (ps_if (pt_cmpR (op_eqA hr.units) (pv 10) pe_int (nomark _)) (pss_one (ps_if (PW.pt (pw_or (pt_cmpR (op_neA hr.units) (pe_callG (ok__law_do T) hg (hr.mono (by decide)) (by rfl) T.d__law_do.at_ T.d__law_do.fn.kp T.d__law_do.bd pass0S (pa_cons (pv 3) (pa_cons (pv 2) (pa_cons (pe_op op_mulX (pe_lst (pa_cons pe_int pa_nil)) pe_int) pa_nil)))) (pe_tup (pa_cons pe_str (pa_cons pe_str pa_nil))) (nomark _)) (pw_or1 (pt_cmpR (op_neA hr.units) (pe_callG (ok__law_do T) hg (hr.mono (by decide)) (by rfl) T.d__law_do.at_ T.d__law_do.fn.kp T.d__law_do.bd pass0S (pa_cons (pv 3) (pa_cons pe_int (pa_cons (pe_op op_mulX (pe_lst (pa_cons pe_int pa_nil)) pe_int) pa_nil)))) (pe_tup (pa_cons pe_str (pa_cons pe_str pa_nil))) (nomark _))))) (pss_one (ps_ret pe_bl)) pss_nil)) (pss_cons (ps_set (i := 13) sc_law.nd rfl (by first | exact Or.inl rfl | exact Or.inr rfl) (pe_op op_sub pe_int pe_int)) (pss_cons (ps_if (pt_cmpR (op_gtA hr.units) (pv 10) pe_int (nomark _)) (pss_one (ps_set (i := 13) sc_law.nd rfl (by first | exact Or.inl rfl | exact Or.inr rfl) (pe_callG (ok__law_draw T) hg (hr.mono (by decide)) (by rfl) T.d__law_draw.at_ T.d__law_draw.fn.kp T.d__law_draw.bd pass0S (pa_cons (pv 1) (pa_cons (pv 2) pa_nil))))) pss_nil) (pss_cons (ps_setLc (i := 14) (own := [("k", 11)]) (by rfl) sc_law.nd rfl rfl (sw_true rfl rfl rfl (by decide +kernel)) (pi_range1 (by rfl) T.b_range (pa_cons pe_int pa_nil)) (blkOk_by (own := [("k", 11)]) (N := N_law) (sc := defScope s_law) (by decide +kernel)) (fun _ _ _ _ _ => (pg_name (i := 11) sc_law.nd rfl (by first | exact Or.inl rfl | exact Or.inr rfl))) (fun _ _ _ _ _ => pts_nil) (fun _ _ _ _ _ => (pe_op op_addA pe_int (pe_callG (ok__law_draw T) hg (hr.mono (by decide)) (by rfl) T.d__law_draw.at_ T.d__law_draw.fn.kp T.d__law_draw.bd pass0S (pa_cons (pv 1) (pa_cons pe_int pa_nil)))))) (pss_cons (ps_set (i := 15) sc_law.nd rfl (by first | exact Or.inl rfl | exact Or.inr rfl) (pe_callG (ok__law_do T) hg (hr.mono (by decide)) (by rfl) T.d__law_do.at_ T.d__law_do.fn.kp T.d__law_do.bd pass0S (pa_cons (pv 3) (pa_cons (pv 13) (pa_cons (pe_callTy call_list_of (by rfl) T.b_list (by decide +kernel) (pa_cons (pv 14) pa_nil)) pa_nil))))) (pss_one (ps_if (pt_cmpR (op_eqA hr.units) (pv 6) pe_int (nomark _)) (pss_cons (ps_if (pt_cmpR (op_neA hr.units) (pv 15) (pe_tup (pa_cons pe_str (pa_cons pe_str pa_nil))) (nomark _)) (pss_one (ps_ret pe_bl)) pss_nil) (pss_cons (ps_for PassesOwn.never (by rfl) (pi_range1 (by rfl) T.b_range (pa_cons (pe_callB (call_min2 (by rfl)) (by rfl) T.b_min (by decide +kernel) (pa_cons (pe_callB call_len (by rfl) T.b_len (by decide +kernel) (pa_cons (pv 7) pa_nil)) (pa_cons (pe_callB call_len (by rfl) T.b_len (by decide +kernel) (pa_cons (pv 5) pa_nil)) pa_nil))) pa_nil)) (pg_name (i := 11) sc_law.nd rfl (by first | exact Or.inl rfl | exact Or.inr rfl)) (pss_cons (ps_set (i := 16) sc_law.nd rfl (by first | exact Or.inl rfl | exact Or.inr rfl) (pe_ix ix_seq (pe_ix ix_seq (pv 5) (pv 11) (fun _ _ => rfl)) pe_int (fun _ _ => rfl))) (pss_one (ps_asg (pe_op op_addA (pe_slice sl_any (pe_ix ix_seq (pe_ix ix_seq (pv 5) (pv 11) (fun _ _ => rfl)) pe_int (fun _ _ => rfl)) po_none (po_some (pe_ix ix_seq (pv 7) (pv 11) (fun _ _ => rfl)))) (pe_slice sl_any (pe_ix ix_seq (pv 4) (pv 16) (fun _ _ => rfl)) (po_some (pe_ix ix_seq (pv 7) (pv 11) (fun _ _ => rfl))) po_none)) (pg_sub (pv 4) (pv 16) set_list))))) (pss_cons (ps_set (i := 5) sc_law.nd rfl (by first | exact Or.inl rfl | exact Or.inr rfl) (pe_lst pa_nil)) (pss_cons (ps_set (i := 6) sc_law.nd rfl (by first | exact Or.inl rfl | exact Or.inr rfl) (pe_op op_sub pe_int pe_int)) (pss_one (ps_set (i := 8) sc_law.nd rfl (by first | exact Or.inl rfl | exact Or.inr rfl) (pe_op op_addA (pv 8) pe_int))))))) (pss_cons (ps_if (pt_cmpR op_isNA (pv 15) pe_non (nomark _)) (pss_one (ps_ret pe_bl)) pss_nil) (pss_cons (ps_if (pt_cmpR (op_gtA hr.units) (pv 6) pe_int (nomark _)) (pss_one (ps_set (i := 6) sc_law.nd rfl (by first | exact Or.inl rfl | exact Or.inr rfl) (pe_op op_sub (pv 6) pe_int))) pss_nil) (pss_one (ps_if (pt_cmpR (op_eqA hr.units) (pv 13) (pe_op op_sub pe_int pe_int) (nomark _)) (pss_cons (ps_for PassesOwn.never (by rfl) (pi_seqA (pv 5)) (pg_name (i := 17) sc_law.nd rfl (by first | exact Or.inl rfl | exact Or.inr rfl)) (pss_one (ps_asg (pe_ix ix_seq (pv 17) pe_int (fun _ _ => rfl)) (pg_sub (pv 4) (pe_ix ix_seq (pv 17) pe_int (fun _ _ => rfl)) set_list)))) (pss_one (ps_set (i := 5) sc_law.nd rfl (by first | exact Or.inl rfl | exact Or.inr rfl) (pe_lst pa_nil)))) (pss_one (ps_expr (pe_bm PySem.F.plainAttrs_list PySem.F.slot_list_append PySem.F.type_list_append mt_append (pv 5) (pa_cons (pe_lst (pa_cons (pv 13) (pa_cons (pv 14) pa_nil))) pa_nil))))))))))))))))))) (pss_one (ps_if (PW.pt (pw_or (pt_cmpR (op_neA hr.units) (pe_methG0 (pv 3) T.cl_Disk T.d_Disk_pending_count.me (ok_Disk_pending_count T) hg (hr.mono (by decide)) T.d_Disk_pending_count.bd pass0S) (pe_callB call_len (by rfl) T.b_len (by decide +kernel) (pa_cons (pv 5) pa_nil)) (nomark _)) (pw_or1 (pt_cmpR (op_neA hr.units) (pe_methG0 (pv 3) T.cl_Disk T.d_Disk_cut_count.me (ok_Disk_cut_count T) hg (hr.mono (by decide)) T.d_Disk_cut_count.bd pass0S) (pv 8) (nomark _))))) (pss_one (ps_ret pe_bl)) pss_nil))))) (pss_cons (ps_expr (pe_methG (pv 3) T.cl_Disk T.d_Disk_cut_power.me (ok_Disk_cut_power T) hg (hr.mono (by decide)) T.d_Disk_cut_power.bd (fun σ => passAt takes0 σ) (pa_cons (pe_lst pa_nil) pa_nil))) (pss_one (ps_ret (pe_cmpR (op_eqA hr.units) (pe_lc (own := [("at", 13)]) (by rfl) sc_law.nd (pi_range1 (by rfl) T.b_range (pa_cons (pv 2) pa_nil)) (blkOk_by (own := [("at", 13)]) (N := N_law) (sc := defScope s_law) (by decide +kernel)) (fun _ _ _ _ _ => (pg_name (i := 13) sc_law.nd rfl (by first | exact Or.inl rfl | exact Or.inr rfl))) (fun _ _ _ _ _ => pts_nil) (fun _ _ _ _ _ => (pe_methG (pv 3) T.cl_Disk T.d_Disk_read.me (ok_Disk_read T) hg (hr.mono (by decide)) T.d_Disk_read.bd (fun σ => passAt takes0 σ) (pa_cons (pv 13) pa_nil)))) (pv 4) (nomark _)))))))))))))), (sim_cut (c_law_1.eq_1 _) (sim_seq (sim_asg (sim_lstM (sim_cons (sim_call (sim_cons (sim_var 0) (sim_cons sim_int (sim_cons sim_int sim_nil)))) (sim_cons sim_int sim_nil))) (sim_name 1)) (sim_cut (c_law_2.eq_1 _) (sim_seq (sim_asg (sim_op sim_addA sim_int (sim_call (sim_cons (sim_var 1) (sim_cons sim_int sim_nil)))) (sim_name 2)) (sim_cut (c_law_3.eq_1 _) (sim_seq (sim_asg (sim_make (sim_cons (sim_var 2) sim_nil)) (sim_name 3)) (sim_cut (c_law_4.eq_1 _) (sim_seq (sim_asg (sim_lc fin_M (kps_name (by decide)) (sim_range1 (sim_cons (sim_var 2) sim_nil)) (sim_name 11) sim_yes (sim_op sim_mulX (sim_lstM (sim_cons sim_int sim_nil)) sim_int)) (sim_name 4)) (sim_cut (c_law_5.eq_1 _) (sim_seq (sim_asg (sim_lstM sim_nil) (sim_name 5)) (sim_cut (c_law_6.eq_1 _) (sim_seq (sim_asg (sim_op sim_sub sim_int sim_int) (sim_name 6)) (sim_cut (c_law_7.eq_1 _) (sim_seq (sim_asg (sim_lst sim_nil) (sim_name 7)) (sim_cut (c_law_8.eq_1 _) (sim_seq (sim_asg sim_int (sim_name 8)) (sim_cut (c_law_9.eq_1 _) (sim_seq (sim_for (sim_range1 (sim_cons sim_int sim_nil)) (sim_name 9) (sim_cut (c_law_10.eq_1 _) (sim_seq (sim_asg (sim_call (sim_cons (sim_var 1) (sim_cons sim_int sim_nil))) (sim_name 10)) (sim_cut (c_law_11.eq_1 _) (sim_seq (sim_ifS (sim_or (sim_test (sim_op sim_eq (sim_var 10) sim_int)) (sim_test (sim_op sim_eq (sim_var 9) sim_int))) (sim_cut (c_law_12.eq_1 _) (sim_seq (sim_asg (sim_call (sim_cons (sim_var 1) (sim_cons sim_int sim_nil))) (sim_name 6)) (sim_cut (c_law_13.eq_1 _) (sim_seq (sim_asg (sim_call (sim_cons (sim_var 1) (sim_cons sim_int sim_nil))) (sim_name 7)) (sim_cut (c_law_14.eq_1 _) (sim_seq (sim_asg (sim_cb sim_listM (sim_cons (sim_var 7) sim_nil)) (sim_name 12)) (sim_cut (c_law_15.eq_1 _) (sim_seq (sim_ifS (sim_or (sim_test (sim_op sim_isN (sim_call (sim_cons (sim_var 3) (sim_cons sim_int (sim_cons (sim_lst (sim_cons sim_int sim_nil)) sim_nil)))) sim_non)) (sim_test (sim_op sim_isN (sim_call (sim_cons (sim_var 3) (sim_cons (sim_var 6) (sim_cons (sim_var 12) sim_nil)))) sim_non))) (sim_cut (c_law_16.eq_1 _) (sim_ret sim_bl)) sim_next) (sim_cut (c_law_17.eq_1 _) (sim_seq (sim_drop (sim_append (sim_var 12) (sim_cons sim_int sim_nil))) (sim_cut (c_law_18.eq_1 _) (sim_seq (sim_ifS (sim_test (sim_op sim_ne (sim_call (sim_cons (sim_var 3) (sim_cons (sim_op sim_ix (sim_lst (sim_cons (sim_op sim_sub sim_int sim_int) (sim_cons sim_int sim_nil))) (sim_call (sim_cons (sim_var 1) (sim_cons sim_int sim_nil)))) (sim_cons (sim_lst (sim_cons sim_int sim_nil)) sim_nil)))) (sim_tup (sim_cons sim_str (sim_cons sim_str sim_nil))))) (sim_cut (c_law_19.eq_1 _) (sim_ret sim_bl)) sim_next) (sim_cut (c_law_20.eq_1 _) (sim_ifS (sim_test (sim_op sim_ne (sim_call (sim_cons (sim_var 3) (sim_cons sim_int (sim_cons (sim_lst (sim_cons sim_int sim_nil)) sim_nil)))) (sim_tup (sim_cons sim_str (sim_cons sim_str sim_nil))))) (sim_cut (c_law_21.eq_1 _) (sim_ret sim_bl)) sim_next)))))))))))))) (sim_cut (c_law_22.eq_1 _) (sim_ifS (sim_and (sim_test (sim_op sim_eq (sim_var 10) sim_int)) (sim_test (sim_op sim_eq (sim_call (sim_cons (sim_var 1) (sim_cons sim_int sim_nil))) sim_int))) (sim_cut (c_law_23.eq_1 _) (sim_seq (sim_drop (sim_meth (sim_var 3) (sim_cons (sim_lst sim_nil) sim_nil))) (sim_cut (c_law_24.eq_1 _) (sim_seq (sim_asg (sim_lstM sim_nil) (sim_name 5)) (sim_cut (c_law_25.eq_1 _) (sim_seq (sim_asg (sim_op sim_sub sim_int sim_int) (sim_name 6)) (sim_cut (c_law_26.eq_1 _) (sim_asg (sim_op sim_addA (sim_var 8) sim_int) (sim_name 8))))))))) (sim_cut (c_law_27.eq_1 _) (sim_ifS (sim_test (sim_op sim_eq (sim_var 10) sim_int)) (sim_cut (c_law_28.eq_1 _) (sim_ifS (sim_or (sim_test (sim_op sim_ne (sim_call (sim_cons (sim_var 3) (sim_cons (sim_var 2) (sim_cons (sim_op sim_mulX (sim_lstM (sim_cons sim_int sim_nil)) sim_int) sim_nil)))) (sim_tup (sim_cons sim_str (sim_cons sim_str sim_nil))))) (sim_test (sim_op sim_ne (sim_call (sim_cons (sim_var 3) (sim_cons sim_int (sim_cons (sim_op sim_mulX (sim_lstM (sim_cons sim_int sim_nil)) sim_int) sim_nil)))) (sim_tup (sim_cons sim_str (sim_cons sim_str sim_nil)))))) (sim_cut (c_law_29.eq_1 _) (sim_ret sim_bl)) sim_next)) (sim_cut (c_law_31.eq_1 _) (sim_seq (sim_asg (sim_op sim_sub sim_int sim_int) (sim_name 13)) (sim_cut (c_law_32.eq_1 _) (sim_seq (sim_ifS (sim_test (sim_op sim_gtA (sim_var 10) sim_int)) (sim_cut (c_law_33.eq_1 _) (sim_asg (sim_call (sim_cons (sim_var 1) (sim_cons (sim_var 2) sim_nil))) (sim_name 13))) sim_next) (sim_cut (c_law_34.eq_1 _) (sim_seq (sim_asg (sim_lc fin_D (kps_name (by decide)) (sim_range1 (sim_cons sim_int sim_nil)) (sim_name 11) sim_yes (sim_op sim_addA sim_int (sim_call (sim_cons (sim_var 1) (sim_cons sim_int sim_nil))))) (sim_name 14)) (sim_cut (c_law_35.eq_1 _) (sim_seq (sim_asg (sim_call (sim_cons (sim_var 3) (sim_cons (sim_var 13) (sim_cons (sim_cb sim_list (sim_cons (sim_var 14) sim_nil)) sim_nil)))) (sim_name 15)) (sim_cut (c_law_36.eq_1 _) (sim_ifS (sim_test (sim_op sim_eq (sim_var 6) sim_int)) (sim_cut (c_law_37.eq_1 _) (sim_seq (sim_ifS (sim_test (sim_op sim_ne (sim_var 15) (sim_tup (sim_cons sim_str (sim_cons sim_str sim_nil))))) (sim_cut (c_law_38.eq_1 _) (sim_ret sim_bl)) sim_next) (sim_cut (c_law_39.eq_1 _) (sim_seq (sim_for (sim_range1 (sim_cons (sim_cb sim_b2 (sim_cons (sim_cb sim_len (sim_cons (sim_var 7) sim_nil)) (sim_cons (sim_cb sim_len (sim_cons (sim_var 5) sim_nil)) sim_nil))) sim_nil)) (sim_name 11) (sim_cut (c_law_40.eq_1 _) (sim_seq (sim_asg (sim_op sim_ix (sim_op sim_ix (sim_var 5) (sim_var 11)) sim_int) (sim_name 16)) (sim_cut (c_law_41.eq_1 _) (sim_asg (sim_op sim_addA (sim_slice (sim_op sim_ix (sim_op sim_ix (sim_var 5) (sim_var 11)) sim_int) simO_none (simO_some (sim_op sim_ix (sim_var 7) (sim_var 11)))) (sim_slice (sim_op sim_ix (sim_var 4) (sim_var 16)) (simO_some (sim_op sim_ix (sim_var 7) (sim_var 11))) simO_none)) (sim_subG (sim_var 4) (sim_var 16))))))) (sim_cut (c_law_42.eq_1 _) (sim_seq (sim_asg (sim_lstM sim_nil) (sim_name 5)) (sim_cut (c_law_43.eq_1 _) (sim_seq (sim_asg (sim_op sim_sub sim_int sim_int) (sim_name 6)) (sim_cut (c_law_44.eq_1 _) (sim_asg (sim_op sim_addA (sim_var 8) sim_int) (sim_name 8))))))))))) (sim_cut (c_law_46.eq_1 _) (sim_seq (sim_ifS (sim_test (sim_op sim_isN (sim_var 15) sim_non)) (sim_cut (c_law_47.eq_1 _) (sim_ret sim_bl)) sim_next) (sim_cut (c_law_48.eq_1 _) (sim_seq (sim_ifS (sim_test (sim_op sim_gtA (sim_var 6) sim_int)) (sim_cut (c_law_49.eq_1 _) (sim_asg (sim_op sim_sub (sim_var 6) sim_int) (sim_name 6))) sim_next) (sim_cut (c_law_50.eq_1 _) (sim_ifS (sim_test (sim_op sim_eq (sim_var 13) (sim_op sim_sub sim_int sim_int))) (sim_cut (c_law_51.eq_1 _) (sim_seq (sim_for (sim_iSeq (sim_var 5)) (sim_name 17) (sim_cut (c_law_52.eq_1 _) (sim_asg (sim_op sim_ix (sim_var 17) sim_int) (sim_subG (sim_var 4) (sim_op sim_ix (sim_var 17) sim_int))))) (sim_cut (c_law_53.eq_1 _) (sim_asg (sim_lstM sim_nil) (sim_name 5))))) (sim_cut (c_law_55.eq_1 _) (sim_drop (sim_append (sim_var 5) (sim_cons (sim_lst (sim_cons (sim_var 13) (sim_cons (sim_var 14) sim_nil))) sim_nil))))))))))))))))))))))))) (sim_cut (c_law_56.eq_1 _) (sim_ifS (sim_or (sim_test (sim_op sim_ne (sim_meth (sim_var 3) sim_nil) (sim_cb sim_len (sim_cons (sim_var 5) sim_nil)))) (sim_test (sim_op sim_ne (sim_meth (sim_var 3) sim_nil) (sim_var 8)))) (sim_cut (c_law_57.eq_1 _) (sim_ret sim_bl)) sim_next))))))) (sim_cut (c_law_58.eq_1 _) (sim_seq (sim_drop (sim_meth (sim_var 3) (sim_cons (sim_lst sim_nil) sim_nil))) (sim_cut (c_law_59.eq_1 _) (sim_ret (sim_op sim_eq (sim_lc fin_D (kps_name (by decide)) (sim_range1 (sim_cons (sim_var 2) sim_nil)) (sim_name 13) sim_yes (sim_meth (sim_var 3) (sim_cons (sim_var 13) sim_nil))) (sim_var 4))))))))))))))))))))))))⟩
end
end K42
namespace K42
open PySem PySem.Spec PyProof.Rows L2 Mi
/-- the box of draws -/
def BoxOk (S : Sto) (b : Addr) : Prop := ∃ (ds : List Int) (i : Int), S b = some (.lst [.d (.list (ds.map .int)), .d (.int i)]) ∧ 0 ≤ i
theorem w_draw {S : Sto} {b : Addr} {n : Int} {Q : QE} {X : QX} (hb : BoxOk S b) (hn : 0 < n) (h : ∀ r S', 0 ≤ r → r < n → BoxOk S' b → (∀ a, a ≠ b → S' a = S a) → Q (.d (.int r)) S') : m__law_draw [.m b, .d (.int n)] S Q X := by
  obtain ⟨ds, i, es, hi⟩ := hb
  have fin : ∀ r : Int, Q (.d (.int (r % n))) (sset S b (.lst [.d (.list (ds.map .int)), .d (.int (i + 1))])) := fun r =>
    h _ _ (Int.emod_nonneg _ (by omega)) (Int.emod_lt_of_pos _ hn) ⟨ds, i + 1, sset_same, by omega⟩ fun a ha => sset_ne ha
  simp only [m__law_draw, c__law_draw, fnM, cNext, cSeq, cBrk, cCont, cDrop, cRet, cRetN, cIf, cNever, cAsg, cPar, cPar3, cAug, cFor, eC, eVar, eOp, eUn, eIf, aNil, aCons, eTup, eLst, eLstM, eCB, eFn, eAndV, eOrV, eNotV, cAnd, cOr, cNot, cB, cTru, cYes, mName, mNames, wipeM, mTup, mSub, eFrz, eAppend, eSlice, oNone, oSome, eChain, eLcG, finD, finM, iRange1, iRange2, iZip2, iSeq, bInt, bIntC, bCmp, bMulX, bAddM, eIsi, isTy, bAdd, bNeg, bIs, bIsN, isNone, bEq, bNe, bRepr, bLen, bIntOf, b2Int, bTuple, bList, bListM, bAll, bAny, tupOf, datOf, truV, okOf, bIx_tup, bIx_lst, bIx_set, lenV_set, ixN_21, ixN_20, set_1, sset_same, sset_sset, MO.lst.injEq, lenV_tup, lenV_lst, atI_0, atI_1, atI_2, atI_3, atI_4, lstOf, allD, allD_map, ex_eq_and, ex_eq_and', List.map_cons, List.map_nil, List.length_cons, List.length_nil, List.replicate, List.cons_append, List.nil_append, List.getElem?_cons_zero, List.getElem?_cons_succ, Option.some.injEq, Option.map_some, List.set, List.cons.injEq, and_true, true_and, MV.d.injEq, MV.m.injEq, PyData.int.injEq, PyData.bool.injEq, PyData.str.injEq, PyData.tuple.injEq, PyData.list.injEq, exists_and_left, exists_and_right, exists_eq_left', exists_eq_left, exists_eq_right, exists_eq', Nat.reduceAdd, Nat.reduceSub, Nat.reduceLT, Nat.reduceLeDiff, decide_eq_true_eq, Bool.not_eq_true', decide_eq_false_iff_not, reduceCtorEq, if_true, if_false, Bool.false_eq_true, ite_true, ite_false, not_true_eq_false, not_false_eq_true, Bool.not_true, Bool.not_false, reduceIte, and_self, or_true, true_or, or_false, false_or, and_false, false_and, bIx_m es, es]
  by_cases hl : i < ((ds.map PyData.int).length : Int)
  · obtain ⟨v, hv, e⟩ := atI_lt hi hl
    obtain ⟨r, _, rfl⟩ := List.mem_map.mp hv
    rw [if_pos hl]
    simp only [fnM, cNext, cSeq, cBrk, cCont, cDrop, cRet, cRetN, cIf, cNever, cAsg, cPar, cPar3, cAug, cFor, eC, eVar, eOp, eUn, eIf, aNil, aCons, eTup, eLst, eLstM, eCB, eFn, eAndV, eOrV, eNotV, cAnd, cOr, cNot, cB, cTru, cYes, mName, mNames, wipeM, mTup, mSub, eFrz, eAppend, eSlice, oNone, oSome, eChain, eLcG, finD, finM, iRange1, iRange2, iZip2, iSeq, bInt, bIntC, bCmp, bMulX, bAddM, eIsi, isTy, bAdd, bNeg, bIs, bIsN, isNone, bEq, bNe, bRepr, bLen, bIntOf, b2Int, bTuple, bList, bListM, bAll, bAny, tupOf, datOf, truV, okOf, bIx_tup, bIx_lst, bIx_set, lenV_set, ixN_21, ixN_20, set_1, sset_same, sset_sset, MO.lst.injEq, lenV_tup, lenV_lst, atI_0, atI_1, atI_2, atI_3, atI_4, lstOf, allD, allD_map, ex_eq_and, ex_eq_and', List.map_cons, List.map_nil, List.length_cons, List.length_nil, List.replicate, List.cons_append, List.nil_append, List.getElem?_cons_zero, List.getElem?_cons_succ, Option.some.injEq, Option.map_some, List.set, List.cons.injEq, and_true, true_and, MV.d.injEq, MV.m.injEq, PyData.int.injEq, PyData.bool.injEq, PyData.str.injEq, PyData.tuple.injEq, PyData.list.injEq, exists_and_left, exists_and_right, exists_eq_left', exists_eq_left, exists_eq_right, exists_eq', Nat.reduceAdd, Nat.reduceSub, Nat.reduceLT, Nat.reduceLeDiff, decide_eq_true_eq, Bool.not_eq_true', decide_eq_false_iff_not, reduceCtorEq, if_true, if_false, Bool.false_eq_true, ite_true, ite_false, not_true_eq_false, not_false_eq_true, Bool.not_true, Bool.not_false, reduceIte, and_self, or_true, true_or, or_false, false_or, and_false, false_and, e]
    exact ⟨hn, fin r⟩
  · rw [if_neg hl]
    exact ⟨.inr (by decide), hn, fin _⟩
theorem w_cell {ns : List Int} {k : Int} {S : Sto} {Q : QE} {X : QX} (hk : 0 ≤ k) (h : ∀ r : Int, Q (.d (.int r)) S) : m__law_cell [.d (.list (ns.map .int)), .d (.int k)] S Q X := by
  simp only [m__law_cell, c__law_cell, fnM, cNext, cSeq, cBrk, cCont, cDrop, cRet, cRetN, cIf, cNever, cAsg, cPar, cPar3, cAug, cFor, eC, eVar, eOp, eUn, eIf, aNil, aCons, eTup, eLst, eLstM, eCB, eFn, eAndV, eOrV, eNotV, cAnd, cOr, cNot, cB, cTru, cYes, mName, mNames, wipeM, mTup, mSub, eFrz, eAppend, eSlice, oNone, oSome, eChain, eLcG, finD, finM, iRange1, iRange2, iZip2, iSeq, bInt, bIntC, bCmp, bMulX, bAddM, eIsi, isTy, bAdd, bNeg, bIs, bIsN, isNone, bEq, bNe, bRepr, bLen, bIntOf, b2Int, bTuple, bList, bListM, bAll, bAny, tupOf, datOf, truV, okOf, bIx_tup, bIx_lst, bIx_set, lenV_set, ixN_21, ixN_20, set_1, sset_same, sset_sset, MO.lst.injEq, lenV_tup, lenV_lst, atI_0, atI_1, atI_2, atI_3, atI_4, lstOf, allD, allD_map, ex_eq_and, ex_eq_and', List.map_cons, List.map_nil, List.length_cons, List.length_nil, List.replicate, List.cons_append, List.nil_append, List.getElem?_cons_zero, List.getElem?_cons_succ, Option.some.injEq, Option.map_some, List.set, List.cons.injEq, and_true, true_and, MV.d.injEq, MV.m.injEq, PyData.int.injEq, PyData.bool.injEq, PyData.str.injEq, PyData.tuple.injEq, PyData.list.injEq, exists_and_left, exists_and_right, exists_eq_left', exists_eq_left, exists_eq_right, exists_eq', Nat.reduceAdd, Nat.reduceSub, Nat.reduceLT, Nat.reduceLeDiff, decide_eq_true_eq, Bool.not_eq_true', decide_eq_false_iff_not, reduceCtorEq, if_true, if_false, Bool.false_eq_true, ite_true, ite_false, not_true_eq_false, not_false_eq_true, Bool.not_true, Bool.not_false, reduceIte, and_self, or_true, true_or, or_false, false_or, and_false, false_and]
  by_cases hl : k < ((ns.map PyData.int).length : Int)
  · obtain ⟨v, hv, e⟩ := atI_lt hk hl
    obtain ⟨r, _, rfl⟩ := List.mem_map.mp hv
    rw [if_pos hl]
    simp only [fnM, cNext, cSeq, cBrk, cCont, cDrop, cRet, cRetN, cIf, cNever, cAsg, cPar, cPar3, cAug, cFor, eC, eVar, eOp, eUn, eIf, aNil, aCons, eTup, eLst, eLstM, eCB, eFn, eAndV, eOrV, eNotV, cAnd, cOr, cNot, cB, cTru, cYes, mName, mNames, wipeM, mTup, mSub, eFrz, eAppend, eSlice, oNone, oSome, eChain, eLcG, finD, finM, iRange1, iRange2, iZip2, iSeq, bInt, bIntC, bCmp, bMulX, bAddM, eIsi, isTy, bAdd, bNeg, bIs, bIsN, isNone, bEq, bNe, bRepr, bLen, bIntOf, b2Int, bTuple, bList, bListM, bAll, bAny, tupOf, datOf, truV, okOf, bIx_tup, bIx_lst, bIx_set, lenV_set, ixN_21, ixN_20, set_1, sset_same, sset_sset, MO.lst.injEq, lenV_tup, lenV_lst, atI_0, atI_1, atI_2, atI_3, atI_4, lstOf, allD, allD_map, ex_eq_and, ex_eq_and', List.map_cons, List.map_nil, List.length_cons, List.length_nil, List.replicate, List.cons_append, List.nil_append, List.getElem?_cons_zero, List.getElem?_cons_succ, Option.some.injEq, Option.map_some, List.set, List.cons.injEq, and_true, true_and, MV.d.injEq, MV.m.injEq, PyData.int.injEq, PyData.bool.injEq, PyData.str.injEq, PyData.tuple.injEq, PyData.list.injEq, exists_and_left, exists_and_right, exists_eq_left', exists_eq_left, exists_eq_right, exists_eq', Nat.reduceAdd, Nat.reduceSub, Nat.reduceLT, Nat.reduceLeDiff, decide_eq_true_eq, Bool.not_eq_true', decide_eq_false_iff_not, reduceCtorEq, if_true, if_false, Bool.false_eq_true, ite_true, ite_false, not_true_eq_false, not_false_eq_true, Bool.not_true, Bool.not_false, reduceIte, and_self, or_true, true_or, or_false, false_or, and_false, false_and, e]
    exact h r
  · rw [if_neg hl]
    exact h 0
/-- what the loops over digits keep: the list of ints at p -/
def DigOk (S : Sto) (p : Addr) (ns : List Int) (z : Nat) (ρ : Ro) (S' : Sto) : Prop := ∃ (xs : List Int) (a b c d : Option MV), ρ = [some (.d (.list (ns.map .int))), some (.d (.int 0)), some (.d (.int 63)), some (.m p), a, b, c, d] ∧
  S' = sset S p (.lst (xs.map fun i => .d (.int i))) ∧ xs.length ≤ z
theorem dig_add (xs : List Int) (r : Int) : xs.map (fun i => MV.d (.int i)) ++ [MV.d (.int r)] = (xs ++ [r]).map (fun i => MV.d (.int i)) := by
  rw [List.map_append]
  rfl
theorem dig_all : ∀ xs : List Int, allD (xs.map fun i => MV.d (.int i)) = some (xs.map .int)
  | [] => rfl
  | x :: xs => by
    show (allD (xs.map fun i => MV.d (.int i))).map (PyData.int x :: ·) = _
    rw [dig_all xs]
    rfl
theorem line_big {n : Nat} (h : n ≤ 4000) : n < sizeLine := Nat.lt_of_le_of_lt h (by decide)
theorem w_dig_body {ns : List Int} {S : Sto} {p : Addr} {i : Nat} {c0 : Int} {xs : List Int} {c d : Option MV} {N : Ro → Sto → Prop} {D : ME} (hi : i < 63) (hl : xs.length ≤ 60 * i) (hN : ∀ ρ' S', i + 1 ≤ 63 ∧ DigOk S p ns (60 * (i + 1)) ρ' S' → N ρ' S') (hD : D.nx = N) :
    c__law_digits_6 D [some (.d (.list (ns.map .int))), some (.d (.int 0)), some (.d (.int 63)), some (.m p), some (.d (.int (0 + (i : Int)))), some (.d (.int c0)), c, d] (sset S p (.lst (xs.map fun i => .d (.int i)))) := by
  simp only [c__law_digits_6, fnM, cNext, cSeq, cBrk, cCont, cDrop, cRet, cRetN, cIf, cNever, cAsg, cPar, cPar3, cAug, cFor, eC, eVar, eOp, eUn, eIf, aNil, aCons, eTup, eLst, eLstM, eCB, eFn, eAndV, eOrV, eNotV, cAnd, cOr, cNot, cB, cTru, cYes, mName, mNames, wipeM, mTup, mSub, eFrz, eAppend, eSlice, oNone, oSome, eChain, eLcG, finD, finM, iRange1, iRange2, iZip2, iSeq, bInt, bIntC, bCmp, bMulX, bAddM, eIsi, isTy, bAdd, bNeg, bIs, bIsN, isNone, bEq, bNe, bRepr, bLen, bIntOf, b2Int, bTuple, bList, bListM, bAll, bAny, tupOf, datOf, truV, okOf, bIx_tup, bIx_lst, bIx_set, lenV_set, ixN_21, ixN_20, set_1, sset_same, sset_sset, MO.lst.injEq, lenV_tup, lenV_lst, atI_0, atI_1, atI_2, atI_3, atI_4, lstOf, allD, allD_map, ex_eq_and, ex_eq_and', List.map_cons, List.map_nil, List.length_cons, List.length_nil, List.replicate, List.cons_append, List.nil_append, List.getElem?_cons_zero, List.getElem?_cons_succ, Option.some.injEq, Option.map_some, List.set, List.cons.injEq, and_true, true_and, MV.d.injEq, MV.m.injEq, PyData.int.injEq, PyData.bool.injEq, PyData.str.injEq, PyData.tuple.injEq, PyData.list.injEq, exists_and_left, exists_and_right, exists_eq_left', exists_eq_left, exists_eq_right, exists_eq', Nat.reduceAdd, Nat.reduceSub, Nat.reduceLT, Nat.reduceLeDiff, decide_eq_true_eq, Bool.not_eq_true', decide_eq_false_iff_not, reduceCtorEq, if_true, if_false, Bool.false_eq_true, ite_true, ite_false, not_true_eq_false, not_false_eq_true, Bool.not_true, Bool.not_false, reduceIte, and_self, or_true, true_or, or_false, false_or, and_false, false_and]
  by_cases hc : 1000000000000000000 ≤ c0
  · rw [if_pos hc]
    simp only [c__law_digits_7, fnM, cNext, cSeq, cBrk, cCont, cDrop, cRet, cRetN, cIf, cNever, cAsg, cPar, cPar3, cAug, cFor, eC, eVar, eOp, eUn, eIf, aNil, aCons, eTup, eLst, eLstM, eCB, eFn, eAndV, eOrV, eNotV, cAnd, cOr, cNot, cB, cTru, cYes, mName, mNames, wipeM, mTup, mSub, eFrz, eAppend, eSlice, oNone, oSome, eChain, eLcG, finD, finM, iRange1, iRange2, iZip2, iSeq, bInt, bIntC, bCmp, bMulX, bAddM, eIsi, isTy, bAdd, bNeg, bIs, bIsN, isNone, bEq, bNe, bRepr, bLen, bIntOf, b2Int, bTuple, bList, bListM, bAll, bAny, tupOf, datOf, truV, okOf, bIx_tup, bIx_lst, bIx_set, lenV_set, ixN_21, ixN_20, set_1, sset_same, sset_sset, MO.lst.injEq, lenV_tup, lenV_lst, atI_0, atI_1, atI_2, atI_3, atI_4, lstOf, allD, allD_map, ex_eq_and, ex_eq_and', List.map_cons, List.map_nil, List.length_cons, List.length_nil, List.replicate, List.cons_append, List.nil_append, List.getElem?_cons_zero, List.getElem?_cons_succ, Option.some.injEq, Option.map_some, List.set, List.cons.injEq, and_true, true_and, MV.d.injEq, MV.m.injEq, PyData.int.injEq, PyData.bool.injEq, PyData.str.injEq, PyData.tuple.injEq, PyData.list.injEq, exists_and_left, exists_and_right, exists_eq_left', exists_eq_left, exists_eq_right, exists_eq', Nat.reduceAdd, Nat.reduceSub, Nat.reduceLT, Nat.reduceLeDiff, decide_eq_true_eq, Bool.not_eq_true', decide_eq_false_iff_not, reduceCtorEq, if_true, if_false, Bool.false_eq_true, ite_true, ite_false, not_true_eq_false, not_false_eq_true, Bool.not_true, Bool.not_false, reduceIte, and_self, or_true, true_or, or_false, false_or, and_false, false_and]
    refine ⟨by decide, by decide, ?_⟩
    refine forL_inv (fun j ρ S' => j ≤ 60 ∧ ∃ (ys : List Int) (c' : Int) (d6 d7 : Option MV), ρ = [some (.d (.list (ns.map .int))), some (.d (.int 0)), some (.d (.int 63)), some (.m p), some (.d (.int (0 + (i : Int)))), some (.d (.int c')), d6, d7] ∧
      S' = sset S p (.lst (ys.map fun i => .d (.int i))) ∧ ys.length ≤ 60 * i + j) _ 0 _ _ ⟨by omega, xs, c0, _, _, rfl, rfl, by omega⟩ (fun _ _ _ _ => trivial) ?_ ?_
    · rintro j y ρ S2 N2 ey ⟨hj, ys, c', d6, d7, rfl, rfl, hy⟩ hN2
      obtain ⟨hj2, rfl⟩ := rng_some ey
      have hj3 : j < 60 := hj2
      simp only [c__law_digits_8, c__law_digits_9, c__law_digits_10, fnM, cNext, cSeq, cBrk, cCont, cDrop, cRet, cRetN, cIf, cNever, cAsg, cPar, cPar3, cAug, cFor, eC, eVar, eOp, eUn, eIf, aNil, aCons, eTup, eLst, eLstM, eCB, eFn, eAndV, eOrV, eNotV, cAnd, cOr, cNot, cB, cTru, cYes, mName, mNames, wipeM, mTup, mSub, eFrz, eAppend, eSlice, oNone, oSome, eChain, eLcG, finD, finM, iRange1, iRange2, iZip2, iSeq, bInt, bIntC, bCmp, bMulX, bAddM, eIsi, isTy, bAdd, bNeg, bIs, bIsN, isNone, bEq, bNe, bRepr, bLen, bIntOf, b2Int, bTuple, bList, bListM, bAll, bAny, tupOf, datOf, truV, okOf, bIx_tup, bIx_lst, bIx_set, lenV_set, ixN_21, ixN_20, set_1, sset_same, sset_sset, MO.lst.injEq, lenV_tup, lenV_lst, atI_0, atI_1, atI_2, atI_3, atI_4, lstOf, allD, allD_map, ex_eq_and, ex_eq_and', List.map_cons, List.map_nil, List.length_cons, List.length_nil, List.replicate, List.cons_append, List.nil_append, List.getElem?_cons_zero, List.getElem?_cons_succ, Option.some.injEq, Option.map_some, List.set, List.cons.injEq, and_true, true_and, MV.d.injEq, MV.m.injEq, PyData.int.injEq, PyData.bool.injEq, PyData.str.injEq, PyData.tuple.injEq, PyData.list.injEq, exists_and_left, exists_and_right, exists_eq_left', exists_eq_left, exists_eq_right, exists_eq', Nat.reduceAdd, Nat.reduceSub, Nat.reduceLT, Nat.reduceLeDiff, decide_eq_true_eq, Bool.not_eq_true', decide_eq_false_iff_not, reduceCtorEq, if_true, if_false, Bool.false_eq_true, ite_true, ite_false, not_true_eq_false, not_false_eq_true, Bool.not_true, Bool.not_false, reduceIte, and_self, or_true, true_or, or_false, false_or, and_false, false_and]
      by_cases hp : 0 < c'
      · rw [if_pos hp]
        refine ⟨by decide, by rw [List.length_map]; exact line_big (by omega), ⟨by decide, by decide⟩, ?_⟩
        rw [dig_add]
        exact hN2 _ _ ⟨by omega, _, _, _, _, rfl, rfl, by rw [List.length_append, List.length_cons, List.length_nil]; omega⟩
      · rw [if_neg hp]
        exact hN2 _ _ ⟨by omega, _, _, _, _, rfl, rfl, by omega⟩
    · rintro ρ S2 ⟨_, ys, c', d6, d7, rfl, rfl, hy⟩
      rw [rng_length] at hy
      have hy' : ys.length ≤ 60 * i + (0 + 60) := hy
      rw [hD]
      exact hN _ _ ⟨by omega, ys, _, _, _, _, rfl, rfl, by omega⟩
  · rw [if_neg hc]
    simp only [c__law_digits_12, c__law_digits_13, fnM, cNext, cSeq, cBrk, cCont, cDrop, cRet, cRetN, cIf, cNever, cAsg, cPar, cPar3, cAug, cFor, eC, eVar, eOp, eUn, eIf, aNil, aCons, eTup, eLst, eLstM, eCB, eFn, eAndV, eOrV, eNotV, cAnd, cOr, cNot, cB, cTru, cYes, mName, mNames, wipeM, mTup, mSub, eFrz, eAppend, eSlice, oNone, oSome, eChain, eLcG, finD, finM, iRange1, iRange2, iZip2, iSeq, bInt, bIntC, bCmp, bMulX, bAddM, eIsi, isTy, bAdd, bNeg, bIs, bIsN, isNone, bEq, bNe, bRepr, bLen, bIntOf, b2Int, bTuple, bList, bListM, bAll, bAny, tupOf, datOf, truV, okOf, bIx_tup, bIx_lst, bIx_set, lenV_set, ixN_21, ixN_20, set_1, sset_same, sset_sset, MO.lst.injEq, lenV_tup, lenV_lst, atI_0, atI_1, atI_2, atI_3, atI_4, lstOf, allD, allD_map, ex_eq_and, ex_eq_and', List.map_cons, List.map_nil, List.length_cons, List.length_nil, List.replicate, List.cons_append, List.nil_append, List.getElem?_cons_zero, List.getElem?_cons_succ, Option.some.injEq, Option.map_some, List.set, List.cons.injEq, and_true, true_and, MV.d.injEq, MV.m.injEq, PyData.int.injEq, PyData.bool.injEq, PyData.str.injEq, PyData.tuple.injEq, PyData.list.injEq, exists_and_left, exists_and_right, exists_eq_left', exists_eq_left, exists_eq_right, exists_eq', Nat.reduceAdd, Nat.reduceSub, Nat.reduceLT, Nat.reduceLeDiff, decide_eq_true_eq, Bool.not_eq_true', decide_eq_false_iff_not, reduceCtorEq, if_true, if_false, Bool.false_eq_true, ite_true, ite_false, not_true_eq_false, not_false_eq_true, Bool.not_true, Bool.not_false, reduceIte, and_self, or_true, true_or, or_false, false_or, and_false, false_and]
    refine ⟨.inr (by decide), .inr (by decide), by decide, by decide, by decide, ?_⟩
    refine forL_inv (fun j ρ S' => j ≤ 12 ∧ ∃ (ys : List Int) (c' : Int) (d6 : Option MV), ρ = [some (.d (.list (ns.map .int))), some (.d (.int 0)), some (.d (.int 63)), some (.m p), some (.d (.int (0 + (i : Int)))), some (.d (.int c0)), d6, some (.d (.int c'))] ∧
      S' = sset S p (.lst (ys.map fun i => .d (.int i))) ∧ ys.length ≤ 60 * i + j) _ 0 _ _ ⟨by omega, xs, _, _, rfl, rfl, by omega⟩ (fun _ _ _ _ => trivial) ?_ ?_
    · rintro j y ρ S2 N2 ey ⟨hj, ys, c', d6, rfl, rfl, hy⟩ hN2
      obtain ⟨hj2, rfl⟩ := rng_some ey
      have hj3 : j < 12 := hj2
      simp only [c__law_digits_14, c__law_digits_15, fnM, cNext, cSeq, cBrk, cCont, cDrop, cRet, cRetN, cIf, cNever, cAsg, cPar, cPar3, cAug, cFor, eC, eVar, eOp, eUn, eIf, aNil, aCons, eTup, eLst, eLstM, eCB, eFn, eAndV, eOrV, eNotV, cAnd, cOr, cNot, cB, cTru, cYes, mName, mNames, wipeM, mTup, mSub, eFrz, eAppend, eSlice, oNone, oSome, eChain, eLcG, finD, finM, iRange1, iRange2, iZip2, iSeq, bInt, bIntC, bCmp, bMulX, bAddM, eIsi, isTy, bAdd, bNeg, bIs, bIsN, isNone, bEq, bNe, bRepr, bLen, bIntOf, b2Int, bTuple, bList, bListM, bAll, bAny, tupOf, datOf, truV, okOf, bIx_tup, bIx_lst, bIx_set, lenV_set, ixN_21, ixN_20, set_1, sset_same, sset_sset, MO.lst.injEq, lenV_tup, lenV_lst, atI_0, atI_1, atI_2, atI_3, atI_4, lstOf, allD, allD_map, ex_eq_and, ex_eq_and', List.map_cons, List.map_nil, List.length_cons, List.length_nil, List.replicate, List.cons_append, List.nil_append, List.getElem?_cons_zero, List.getElem?_cons_succ, Option.some.injEq, Option.map_some, List.set, List.cons.injEq, and_true, true_and, MV.d.injEq, MV.m.injEq, PyData.int.injEq, PyData.bool.injEq, PyData.str.injEq, PyData.tuple.injEq, PyData.list.injEq, exists_and_left, exists_and_right, exists_eq_left', exists_eq_left, exists_eq_right, exists_eq', Nat.reduceAdd, Nat.reduceSub, Nat.reduceLT, Nat.reduceLeDiff, decide_eq_true_eq, Bool.not_eq_true', decide_eq_false_iff_not, reduceCtorEq, if_true, if_false, Bool.false_eq_true, ite_true, ite_false, not_true_eq_false, not_false_eq_true, Bool.not_true, Bool.not_false, reduceIte, and_self, or_true, true_or, or_false, false_or, and_false, false_and]
      refine ⟨.inr (by decide), .inl (by decide), by decide, ⟨by decide, by decide⟩, by decide, by rw [List.length_map]; exact line_big (by omega), ?_⟩
      rw [dig_add]
      exact hN2 _ _ ⟨by omega, _, _, _, rfl, rfl, by rw [List.length_append, List.length_cons, List.length_nil]; omega⟩
    · rintro ρ S2 ⟨_, ys, c', d6, rfl, rfl, hy⟩
      rw [rng_length] at hy
      have hy' : ys.length ≤ 60 * i + (0 + 12) := hy
      rw [hD]
      exact hN _ _ ⟨by omega, ys, _, _, _, _, rfl, rfl, by omega⟩
theorem w_digits {ns : List Int} {S : Sto} {Q : QE} {X : QX} (h : ∀ ds : List Int, Q (.d (.list (ds.map .int))) S) : m__law_digits [.d (.list (ns.map .int)), .d (.int 0), .d (.int 63)] S Q X := by
  simp only [m__law_digits, c__law_digits, c__law_digits_1, c__law_digits_2, fnM, cNext, cSeq, cBrk, cCont, cDrop, cRet, cRetN, cIf, cNever, cAsg, cPar, cPar3, cAug, cFor, eC, eVar, eOp, eUn, eIf, aNil, aCons, eTup, eLst, eLstM, eCB, eFn, eAndV, eOrV, eNotV, cAnd, cOr, cNot, cB, cTru, cYes, mName, mNames, wipeM, mTup, mSub, eFrz, eAppend, eSlice, oNone, oSome, eChain, eLcG, finD, finM, iRange1, iRange2, iZip2, iSeq, bInt, bIntC, bCmp, bMulX, bAddM, eIsi, isTy, bAdd, bNeg, bIs, bIsN, isNone, bEq, bNe, bRepr, bLen, bIntOf, b2Int, bTuple, bList, bListM, bAll, bAny, tupOf, datOf, truV, okOf, bIx_tup, bIx_lst, bIx_set, lenV_set, ixN_21, ixN_20, set_1, sset_same, sset_sset, MO.lst.injEq, lenV_tup, lenV_lst, atI_0, atI_1, atI_2, atI_3, atI_4, lstOf, allD, allD_map, ex_eq_and, ex_eq_and', List.map_cons, List.map_nil, List.length_cons, List.length_nil, List.replicate, List.cons_append, List.nil_append, List.getElem?_cons_zero, List.getElem?_cons_succ, Option.some.injEq, Option.map_some, List.set, List.cons.injEq, and_true, true_and, MV.d.injEq, MV.m.injEq, PyData.int.injEq, PyData.bool.injEq, PyData.str.injEq, PyData.tuple.injEq, PyData.list.injEq, exists_and_left, exists_and_right, exists_eq_left', exists_eq_left, exists_eq_right, exists_eq', Nat.reduceAdd, Nat.reduceSub, Nat.reduceLT, Nat.reduceLeDiff, decide_eq_true_eq, Bool.not_eq_true', decide_eq_false_iff_not, reduceCtorEq, if_true, if_false, Bool.false_eq_true, ite_true, ite_false, not_true_eq_false, not_false_eq_true, Bool.not_true, Bool.not_false, reduceIte, and_self, or_true, true_or, or_false, false_or, and_false, false_and]
  refine ⟨Nat.zero_le _, fun p np => ⟨by decide, ?_⟩⟩
  refine forL_inv (fun i ρ S' => i ≤ 63 ∧ DigOk S p ns (60 * i) ρ S') _ 0 _ _ ⟨by omega, [], none, none, none, none, rfl, rfl, by simp⟩ (fun _ _ _ _ => trivial) ?_ ?_
  · rintro i x ρ S1 N ex ⟨hk, xs, a, b, c, d, rfl, rfl, hl⟩ hN
    obtain ⟨hi, rfl⟩ := rng_some ex
    have hi' : i < 63 := hi
    rw [Nat.zero_add] at hl hN
    simp only [c__law_digits_3, fnM, cNext, cSeq, cBrk, cCont, cDrop, cRet, cRetN, cIf, cNever, cAsg, cPar, cPar3, cAug, cFor, eC, eVar, eOp, eUn, eIf, aNil, aCons, eTup, eLst, eLstM, eCB, eFn, eAndV, eOrV, eNotV, cAnd, cOr, cNot, cB, cTru, cYes, mName, mNames, wipeM, mTup, mSub, eFrz, eAppend, eSlice, oNone, oSome, eChain, eLcG, finD, finM, iRange1, iRange2, iZip2, iSeq, bInt, bIntC, bCmp, bMulX, bAddM, eIsi, isTy, bAdd, bNeg, bIs, bIsN, isNone, bEq, bNe, bRepr, bLen, bIntOf, b2Int, bTuple, bList, bListM, bAll, bAny, tupOf, datOf, truV, okOf, bIx_tup, bIx_lst, bIx_set, lenV_set, ixN_21, ixN_20, set_1, sset_same, sset_sset, MO.lst.injEq, lenV_tup, lenV_lst, atI_0, atI_1, atI_2, atI_3, atI_4, lstOf, allD, allD_map, ex_eq_and, ex_eq_and', List.map_cons, List.map_nil, List.length_cons, List.length_nil, List.replicate, List.cons_append, List.nil_append, List.getElem?_cons_zero, List.getElem?_cons_succ, Option.some.injEq, Option.map_some, List.set, List.cons.injEq, and_true, true_and, MV.d.injEq, MV.m.injEq, PyData.int.injEq, PyData.bool.injEq, PyData.str.injEq, PyData.tuple.injEq, PyData.list.injEq, exists_and_left, exists_and_right, exists_eq_left', exists_eq_left, exists_eq_right, exists_eq', Nat.reduceAdd, Nat.reduceSub, Nat.reduceLT, Nat.reduceLeDiff, decide_eq_true_eq, Bool.not_eq_true', decide_eq_false_iff_not, reduceCtorEq, if_true, if_false, Bool.false_eq_true, ite_true, ite_false, not_true_eq_false, not_false_eq_true, Bool.not_true, Bool.not_false, reduceIte, and_self, or_true, true_or, or_false, false_or, and_false, false_and]
    refine w_cell (by omega) fun c0 => ?_
    simp only [c__law_digits_4, fnM, cNext, cSeq, cBrk, cCont, cDrop, cRet, cRetN, cIf, cNever, cAsg, cPar, cPar3, cAug, cFor, eC, eVar, eOp, eUn, eIf, aNil, aCons, eTup, eLst, eLstM, eCB, eFn, eAndV, eOrV, eNotV, cAnd, cOr, cNot, cB, cTru, cYes, mName, mNames, wipeM, mTup, mSub, eFrz, eAppend, eSlice, oNone, oSome, eChain, eLcG, finD, finM, iRange1, iRange2, iZip2, iSeq, bInt, bIntC, bCmp, bMulX, bAddM, eIsi, isTy, bAdd, bNeg, bIs, bIsN, isNone, bEq, bNe, bRepr, bLen, bIntOf, b2Int, bTuple, bList, bListM, bAll, bAny, tupOf, datOf, truV, okOf, bIx_tup, bIx_lst, bIx_set, lenV_set, ixN_21, ixN_20, set_1, sset_same, sset_sset, MO.lst.injEq, lenV_tup, lenV_lst, atI_0, atI_1, atI_2, atI_3, atI_4, lstOf, allD, allD_map, ex_eq_and, ex_eq_and', List.map_cons, List.map_nil, List.length_cons, List.length_nil, List.replicate, List.cons_append, List.nil_append, List.getElem?_cons_zero, List.getElem?_cons_succ, Option.some.injEq, Option.map_some, List.set, List.cons.injEq, and_true, true_and, MV.d.injEq, MV.m.injEq, PyData.int.injEq, PyData.bool.injEq, PyData.str.injEq, PyData.tuple.injEq, PyData.list.injEq, exists_and_left, exists_and_right, exists_eq_left', exists_eq_left, exists_eq_right, exists_eq', Nat.reduceAdd, Nat.reduceSub, Nat.reduceLT, Nat.reduceLeDiff, decide_eq_true_eq, Bool.not_eq_true', decide_eq_false_iff_not, reduceCtorEq, if_true, if_false, Bool.false_eq_true, ite_true, ite_false, not_true_eq_false, not_false_eq_true, Bool.not_true, Bool.not_false, reduceIte, and_self, or_true, true_or, or_false, false_or, and_false, false_and]
    have cm : CMul 2 c0 := .inl (by decide)
    by_cases hr : c0 < 0
    · rw [if_pos hr]
      simp only [c__law_digits_5, fnM, cNext, cSeq, cBrk, cCont, cDrop, cRet, cRetN, cIf, cNever, cAsg, cPar, cPar3, cAug, cFor, eC, eVar, eOp, eUn, eIf, aNil, aCons, eTup, eLst, eLstM, eCB, eFn, eAndV, eOrV, eNotV, cAnd, cOr, cNot, cB, cTru, cYes, mName, mNames, wipeM, mTup, mSub, eFrz, eAppend, eSlice, oNone, oSome, eChain, eLcG, finD, finM, iRange1, iRange2, iZip2, iSeq, bInt, bIntC, bCmp, bMulX, bAddM, eIsi, isTy, bAdd, bNeg, bIs, bIsN, isNone, bEq, bNe, bRepr, bLen, bIntOf, b2Int, bTuple, bList, bListM, bAll, bAny, tupOf, datOf, truV, okOf, bIx_tup, bIx_lst, bIx_set, lenV_set, ixN_21, ixN_20, set_1, sset_same, sset_sset, MO.lst.injEq, lenV_tup, lenV_lst, atI_0, atI_1, atI_2, atI_3, atI_4, lstOf, allD, allD_map, ex_eq_and, ex_eq_and', List.map_cons, List.map_nil, List.length_cons, List.length_nil, List.replicate, List.cons_append, List.nil_append, List.getElem?_cons_zero, List.getElem?_cons_succ, Option.some.injEq, Option.map_some, List.set, List.cons.injEq, and_true, true_and, MV.d.injEq, MV.m.injEq, PyData.int.injEq, PyData.bool.injEq, PyData.str.injEq, PyData.tuple.injEq, PyData.list.injEq, exists_and_left, exists_and_right, exists_eq_left', exists_eq_left, exists_eq_right, exists_eq', Nat.reduceAdd, Nat.reduceSub, Nat.reduceLT, Nat.reduceLeDiff, decide_eq_true_eq, Bool.not_eq_true', decide_eq_false_iff_not, reduceCtorEq, if_true, if_false, Bool.false_eq_true, ite_true, ite_false, not_true_eq_false, not_false_eq_true, Bool.not_true, Bool.not_false, reduceIte, and_self, or_true, true_or, or_false, false_or, and_false, false_and]
      exact ⟨cm, w_dig_body hi' hl hN rfl⟩
    · rw [if_neg hr]
      exact w_dig_body hi' hl hN rfl
  · rintro ρ S2 ⟨_, ys, a, b, c, d, rfl, rfl, hy⟩
    simp only [c__law_digits_16, fnM, cNext, cSeq, cBrk, cCont, cDrop, cRet, cRetN, cIf, cNever, cAsg, cPar, cPar3, cAug, cFor, eC, eVar, eOp, eUn, eIf, aNil, aCons, eTup, eLst, eLstM, eCB, eFn, eAndV, eOrV, eNotV, cAnd, cOr, cNot, cB, cTru, cYes, mName, mNames, wipeM, mTup, mSub, eFrz, eAppend, eSlice, oNone, oSome, eChain, eLcG, finD, finM, iRange1, iRange2, iZip2, iSeq, bInt, bIntC, bCmp, bMulX, bAddM, eIsi, isTy, bAdd, bNeg, bIs, bIsN, isNone, bEq, bNe, bRepr, bLen, bIntOf, b2Int, bTuple, bList, bListM, bAll, bAny, tupOf, datOf, truV, okOf, bIx_tup, bIx_lst, bIx_set, lenV_set, ixN_21, ixN_20, set_1, sset_same, sset_sset, MO.lst.injEq, lenV_tup, lenV_lst, atI_0, atI_1, atI_2, atI_3, atI_4, lstOf, allD, allD_map, ex_eq_and, ex_eq_and', List.map_cons, List.map_nil, List.length_cons, List.length_nil, List.replicate, List.cons_append, List.nil_append, List.getElem?_cons_zero, List.getElem?_cons_succ, Option.some.injEq, Option.map_some, List.set, List.cons.injEq, and_true, true_and, MV.d.injEq, MV.m.injEq, PyData.int.injEq, PyData.bool.injEq, PyData.str.injEq, PyData.tuple.injEq, PyData.list.injEq, exists_and_left, exists_and_right, exists_eq_left', exists_eq_left, exists_eq_right, exists_eq', Nat.reduceAdd, Nat.reduceSub, Nat.reduceLT, Nat.reduceLeDiff, decide_eq_true_eq, Bool.not_eq_true', decide_eq_false_iff_not, reduceCtorEq, if_true, if_false, Bool.false_eq_true, ite_true, ite_false, not_true_eq_false, not_false_eq_true, Bool.not_true, Bool.not_false, reduceIte, and_self, or_true, true_or, or_false, false_or, and_false, false_and]
    refine ⟨_, dig_all ys, ?_⟩
    rw [sdel_sset np]
    exact h ys

/-- the disk's fields -/
def dfs (st un cu le tt : MV) : Fs := [("stored", st), ("unflushed", un), ("cuts", cu), ("until_cut", le), ("torn_then", tt)]
section
variable {st un cu le tt v : MV}
theorem df1 : (dfs st un cu le tt).lookup ("stored" : Str) = some st := rfl
theorem df2 : (dfs st un cu le tt).lookup ("unflushed" : Str) = some un := rfl
theorem df3 : (dfs st un cu le tt).lookup ("cuts" : Str) = some cu := rfl
theorem df4 : (dfs st un cu le tt).lookup ("until_cut" : Str) = some le := rfl
theorem df5 : (dfs st un cu le tt).lookup ("torn_then" : Str) = some tt := rfl
theorem dp2 : putM ("unflushed" : Str) v (dfs st un cu le tt) = dfs st v cu le tt := rfl
theorem dp3 : putM ("cuts" : Str) v (dfs st un cu le tt) = dfs st un v le tt := rfl
theorem dp4 : putM ("until_cut" : Str) v (dfs st un cu le tt) = dfs st un cu v tt := rfl
theorem dp5 : putM ("torn_then" : Str) v (dfs st un cu le tt) = dfs st un cu le v := rfl
theorem dfl : (dfs st un cu le tt).length = 5 := rfl
theorem dfm (m : Str) (hm : m = "write" ∨ m = "cut_power" ∨ m = "read" ∨ m = "flush" ∨ m = "pending_count" ∨ m = "cut_count" ∨ m = "size" ∨ m = "schedule_cut" ∨ m = "check_at" ∨ m = "count_down" ∨ m = "store") : (dfs st un cu le tt).lookup m = none := by
  rcases hm with rfl | rfl | rfl | rfl | rfl | rfl | rfl | rfl | rfl | rfl | rfl <;> rfl
end
def lfM : Option Nat → MV
  | none => .d .none
  | some n => .d (.int n)
/-- the disk at a, with the state d; F: what it owns -/
def DiskOk (κ : Kap) (S : Sto) (a : Addr) (d : DSt) (F : List Addr) : Prop := ∃ (bA wA : Addr) (tt : MV), F = [a, bA, wA] ∧ a ≠ bA ∧ a ≠ wA ∧ bA ≠ wA ∧
  S a = some (.ins κ.Disk (dfs (.m bA) (.m wA) (.d (.int d.cuts)) (lfM d.left) tt)) ∧
  S bA = some (.lst (d.bs.map fun b => .d (rowT b))) ∧ S wA = some (.lst (d.ps.map fun e => .d (.tuple [.int e.1, rowT e.2]))) ∧ DGood d ∧ (d.left ≠ none → tt = .d (rowT d.torn) ∧ TornOk d.torn ∧ d.torn.length ≤ 1000)

section
variable {κ : Kap} {S : Sto} {a : Addr} {d : DSt} {F : List Addr} {Q : QE} {X : QX}
theorem w_check_torn {r : MV} {t : List Int} (h : IsSq S r t) (ht : t.length ≤ 4000) (q1 : ¬ TornOk t → X (.fd κ.OutOfRange [("name", .str "torn")]) S) (q : TornOk t → Q (.d .none) S) : m_check_torn κ [r] S Q X := by
  simp only [m_check_torn, c_check_torn, fnM, cNext, cSeq, cBrk, cCont, cDrop, cRet, cRetN, cIf, cNever, cAsg, cPar, cPar3, cAug, cFor, eC, eVar, eOp, eUn, eIf, aNil, aCons, eTup, eLst, eLstM, eCB, eFn, eAndV, eOrV, eNotV, cAnd, cOr, cNot, cB, cTru, cYes, mName, mNames, wipeM, mTup, mSub, eFrz, eAppend, eSlice, oNone, oSome, eChain, eLcG, finD, finM, iRange1, iRange2, iZip2, bInt, bIntC, bCmp, bMulX, bAddM, eIsi, isTy, bNeg, bIsN, bRepr, bLen, bIntOf, b2Int, bList, bListM, bAll, bAny, tupOf, datOf, truV, okOf, bIx_tup, bIx_lst, bIx_set, lenV_set, ixN_21, ixN_20, set_1, sset_same, sset_sset, MO.lst.injEq, lenV_tup, lenV_lst, atI_0, atI_1, atI_2, atI_3, atI_4, lstOf, allD, allD_map, ex_eq_and, ex_eq_and', List.map_cons, List.map_nil, List.length_cons, List.length_nil, List.cons_append, List.nil_append, List.getElem?_cons_zero, List.getElem?_cons_succ, Option.some.injEq, Option.map_some, List.set, List.cons.injEq, and_true, true_and, MV.d.injEq, MV.m.injEq, PyData.int.injEq, PyData.bool.injEq, PyData.str.injEq, PyData.tuple.injEq, PyData.list.injEq, exists_and_left, exists_and_right, exists_eq_left', exists_eq_left, exists_eq_right, exists_eq', Nat.reduceAdd, Nat.reduceSub, Nat.reduceLT, Nat.reduceLeDiff, decide_eq_true_eq, Bool.not_eq_true', decide_eq_false_iff_not, reduceCtorEq, if_true, if_false, Bool.false_eq_true, ite_true, ite_false, not_true_eq_false, not_false_eq_true, Bool.not_true, Bool.not_false, reduceIte, and_self, or_true, true_or, or_false, false_or, and_false, false_and]
  refine iSeq_sq h (fun Q q => by simp only [fnM, cNext, cSeq, cBrk, cCont, cDrop, cRet, cRetN, cIf, cNever, cAsg, cPar, cPar3, cAug, cFor, eC, eVar, eOp, eUn, eIf, aNil, aCons, eTup, eLst, eLstM, eCB, eFn, eAndV, eOrV, eNotV, cAnd, cOr, cNot, cB, cTru, cYes, mName, mNames, wipeM, mTup, mSub, eFrz, eAppend, eSlice, oNone, oSome, eChain, eLcG, finD, finM, iRange1, iRange2, iZip2, iSeq, bInt, bIntC, bCmp, bMulX, bAddM, eIsi, isTy, bAdd, bNeg, bIs, bIsN, isNone, bEq, bNe, bRepr, bLen, bIntOf, b2Int, bTuple, bList, bListM, bAll, bAny, tupOf, datOf, truV, okOf, bIx_tup, bIx_lst, bIx_set, lenV_set, ixN_21, ixN_20, set_1, sset_same, sset_sset, MO.lst.injEq, lenV_tup, lenV_lst, atI_0, atI_1, atI_2, atI_3, atI_4, lstOf, allD, allD_map, ex_eq_and, ex_eq_and', List.map_cons, List.map_nil, List.length_cons, List.length_nil, List.replicate, List.cons_append, List.nil_append, List.getElem?_cons_zero, List.getElem?_cons_succ, Option.some.injEq, Option.map_some, List.set, List.cons.injEq, and_true, true_and, MV.d.injEq, MV.m.injEq, PyData.int.injEq, PyData.bool.injEq, PyData.str.injEq, PyData.tuple.injEq, PyData.list.injEq, exists_and_left, exists_and_right, exists_eq_left', exists_eq_left, exists_eq_right, exists_eq', Nat.reduceAdd, Nat.reduceSub, Nat.reduceLT, Nat.reduceLeDiff, decide_eq_true_eq, Bool.not_eq_true', decide_eq_false_iff_not, reduceCtorEq, if_true, if_false, Bool.false_eq_true, ite_true, ite_false, not_true_eq_false, not_false_eq_true, Bool.not_true, Bool.not_false, reduceIte, and_self, or_true, true_or, or_false, false_or, and_false, false_and]; exact q) ?_
  refine lcL_map (fun c : Int => .d (.int c)) (fun _ => true) (fun c => .d (.bool (decide (0 ≤ c) && decide (c ≤ 32)))) (seq_ok h) t [] (fun c hc N M hy hn => ?_) (by rw [List.length_nil, Nat.zero_add]; exact Nat.le_trans ht (by decide)) ?_
  · simp only [bCmp, fnM, cNext, cSeq, cBrk, cCont, cDrop, cRet, cRetN, cIf, cNever, cAsg, cPar, cPar3, cAug, cFor, eC, eVar, eOp, eUn, eIf, aNil, aCons, eTup, eLst, eLstM, eCB, eFn, eAndV, eOrV, eNotV, cAnd, cOr, cNot, cB, cTru, cYes, mName, mNames, wipeM, mTup, mSub, eFrz, eAppend, eSlice, oNone, oSome, eChain, eLcG, finD, finM, iRange1, iRange2, iZip2, iSeq, bInt, bIntC, bCmp, bMulX, bAddM, eIsi, isTy, bAdd, bNeg, bIs, bIsN, isNone, bEq, bNe, bRepr, bLen, bIntOf, b2Int, bTuple, bList, bListM, bAll, bAny, tupOf, datOf, truV, okOf, bIx_tup, bIx_lst, bIx_set, lenV_set, ixN_21, ixN_20, set_1, sset_same, sset_sset, MO.lst.injEq, lenV_tup, lenV_lst, atI_0, atI_1, atI_2, atI_3, atI_4, lstOf, allD, allD_map, ex_eq_and, ex_eq_and', List.map_cons, List.map_nil, List.length_cons, List.length_nil, List.replicate, List.cons_append, List.nil_append, List.getElem?_cons_zero, List.getElem?_cons_succ, Option.some.injEq, Option.map_some, List.set, List.cons.injEq, and_true, true_and, MV.d.injEq, MV.m.injEq, PyData.int.injEq, PyData.bool.injEq, PyData.str.injEq, PyData.tuple.injEq, PyData.list.injEq, exists_and_left, exists_and_right, exists_eq_left', exists_eq_left, exists_eq_right, exists_eq', Nat.reduceAdd, Nat.reduceSub, Nat.reduceLT, Nat.reduceLeDiff, decide_eq_true_eq, Bool.not_eq_true', decide_eq_false_iff_not, reduceCtorEq, if_true, if_false, Bool.false_eq_true, ite_true, ite_false, not_true_eq_false, not_false_eq_true, Bool.not_true, Bool.not_false, reduceIte, and_self, or_true, true_or, or_false, false_or, and_false, false_and]
    by_cases z : 0 ≤ c
    · rw [if_pos z]
      have := hy rfl
      rw [decide_eq_true z] at this
      exact this
    · rw [if_neg z]
      have := hy rfl
      rw [decide_eq_false z] at this
      exact this
  rw [filt_true, List.nil_append]
  refine ⟨_, allD_of (fun c : Int => PyData.bool (decide (0 ≤ c) && decide (c ≤ 32))) _, _, bools_of (fun c : Int => decide (0 ≤ c) && decide (c ≤ 32)) _, ?_⟩
  have iff_ : (t.map fun c : Int => decide (0 ≤ c) && decide (c ≤ 32)).all id = true ↔ TornOk t := by
    rw [List.all_map, List.all_eq_true]
    constructor
    · intro z x hx
      have := z x hx
      simpa using this
    · intro z x hx
      have := z x hx
      simpa using this
  by_cases z : (t.map fun c : Int => decide (0 ≤ c) && decide (c ≤ 32)).all id = false
  · rw [if_pos z]
    simp only [cRaiseF, fnM, cNext, cSeq, cBrk, cCont, cDrop, cRet, cRetN, cIf, cNever, cAsg, cPar, cPar3, cAug, cFor, eC, eVar, eOp, eUn, eIf, aNil, aCons, eTup, eLst, eLstM, eCB, eFn, eAndV, eOrV, eNotV, cAnd, cOr, cNot, cB, cTru, cYes, mName, mNames, wipeM, mTup, mSub, eFrz, eAppend, eSlice, oNone, oSome, eChain, eLcG, finD, finM, iRange1, iRange2, iZip2, iSeq, bInt, bIntC, bCmp, bMulX, bAddM, eIsi, isTy, bAdd, bNeg, bIs, bIsN, isNone, bEq, bNe, bRepr, bLen, bIntOf, b2Int, bTuple, bList, bListM, bAll, bAny, tupOf, datOf, truV, okOf, bIx_tup, bIx_lst, bIx_set, lenV_set, ixN_21, ixN_20, set_1, sset_same, sset_sset, MO.lst.injEq, lenV_tup, lenV_lst, atI_0, atI_1, atI_2, atI_3, atI_4, lstOf, allD, allD_map, ex_eq_and, ex_eq_and', List.map_cons, List.map_nil, List.length_cons, List.length_nil, List.replicate, List.cons_append, List.nil_append, List.getElem?_cons_zero, List.getElem?_cons_succ, Option.some.injEq, Option.map_some, List.set, List.cons.injEq, and_true, true_and, MV.d.injEq, MV.m.injEq, PyData.int.injEq, PyData.bool.injEq, PyData.str.injEq, PyData.tuple.injEq, PyData.list.injEq, exists_and_left, exists_and_right, exists_eq_left', exists_eq_left, exists_eq_right, exists_eq', Nat.reduceAdd, Nat.reduceSub, Nat.reduceLT, Nat.reduceLeDiff, decide_eq_true_eq, Bool.not_eq_true', decide_eq_false_iff_not, reduceCtorEq, if_true, if_false, Bool.false_eq_true, ite_true, ite_false, not_true_eq_false, not_false_eq_true, Bool.not_true, Bool.not_false, reduceIte, and_self, or_true, true_or, or_false, false_or, and_false, false_and]
    exact ⟨by decide, q1 fun k => by rw [iff_.mpr k] at z; cases z⟩
  · rw [if_neg z]
    exact q (iff_.mp (by simpa using z))
theorem w_is_block {r : MV} {t : List Int} (h : IsSq S r t) (ht : t.length ≤ 4000) (q : ∀ k : Bool, (k = true ↔ Byt t) → Q (.d (.bool k)) S) : m_is_block [r] S Q X := by
  simp only [m_is_block, c_is_block, sq_len h, eq_ii, fnM, cNext, cSeq, cBrk, cCont, cDrop, cRet, cRetN, cIf, cNever, cAsg, cPar, cPar3, cAug, cFor, eC, eVar, eOp, eUn, eIf, aNil, aCons, eTup, eLst, eLstM, eCB, eFn, eAndV, eOrV, eNotV, cAnd, cOr, cNot, cB, cTru, cYes, mName, mNames, wipeM, mTup, mSub, eFrz, eAppend, eSlice, oNone, oSome, eChain, eLcG, finD, finM, iRange1, iRange2, iZip2, bInt, bIntC, bCmp, bMulX, bAddM, eIsi, isTy, bNeg, bIsN, bRepr, bLen, bIntOf, b2Int, bList, bListM, bAll, bAny, tupOf, datOf, truV, okOf, bIx_tup, bIx_lst, bIx_set, lenV_set, ixN_21, ixN_20, set_1, sset_same, sset_sset, MO.lst.injEq, lenV_tup, lenV_lst, atI_0, atI_1, atI_2, atI_3, atI_4, lstOf, allD, allD_map, ex_eq_and, ex_eq_and', List.map_cons, List.map_nil, List.length_cons, List.length_nil, List.cons_append, List.nil_append, List.getElem?_cons_zero, List.getElem?_cons_succ, Option.some.injEq, Option.map_some, List.set, List.cons.injEq, and_true, true_and, MV.d.injEq, MV.m.injEq, PyData.int.injEq, PyData.bool.injEq, PyData.str.injEq, PyData.tuple.injEq, PyData.list.injEq, exists_and_left, exists_and_right, exists_eq_left', exists_eq_left, exists_eq_right, exists_eq', Nat.reduceAdd, Nat.reduceSub, Nat.reduceLT, Nat.reduceLeDiff, decide_eq_true_eq, Bool.not_eq_true', decide_eq_false_iff_not, reduceCtorEq, if_true, if_false, Bool.false_eq_true, ite_true, ite_false, not_true_eq_false, not_false_eq_true, Bool.not_true, Bool.not_false, reduceIte, and_self, or_true, true_or, or_false, false_or, and_false, false_and]
  by_cases hl : t.length = 32
  case neg =>
    rw [if_neg (by omega)]
    exact q false ⟨fun z => (nomatch z), fun z => absurd z.1 hl⟩
  rw [if_pos (by omega)]
  refine iSeq_sq h (fun Q q => by simp only [fnM, cNext, cSeq, cBrk, cCont, cDrop, cRet, cRetN, cIf, cNever, cAsg, cPar, cPar3, cAug, cFor, eC, eVar, eOp, eUn, eIf, aNil, aCons, eTup, eLst, eLstM, eCB, eFn, eAndV, eOrV, eNotV, cAnd, cOr, cNot, cB, cTru, cYes, mName, mNames, wipeM, mTup, mSub, eFrz, eAppend, eSlice, oNone, oSome, eChain, eLcG, finD, finM, iRange1, iRange2, iZip2, iSeq, bInt, bIntC, bCmp, bMulX, bAddM, eIsi, isTy, bAdd, bNeg, bIs, bIsN, isNone, bEq, bNe, bRepr, bLen, bIntOf, b2Int, bTuple, bList, bListM, bAll, bAny, tupOf, datOf, truV, okOf, bIx_tup, bIx_lst, bIx_set, lenV_set, ixN_21, ixN_20, set_1, sset_same, sset_sset, MO.lst.injEq, lenV_tup, lenV_lst, atI_0, atI_1, atI_2, atI_3, atI_4, lstOf, allD, allD_map, ex_eq_and, ex_eq_and', List.map_cons, List.map_nil, List.length_cons, List.length_nil, List.replicate, List.cons_append, List.nil_append, List.getElem?_cons_zero, List.getElem?_cons_succ, Option.some.injEq, Option.map_some, List.set, List.cons.injEq, and_true, true_and, MV.d.injEq, MV.m.injEq, PyData.int.injEq, PyData.bool.injEq, PyData.str.injEq, PyData.tuple.injEq, PyData.list.injEq, exists_and_left, exists_and_right, exists_eq_left', exists_eq_left, exists_eq_right, exists_eq', Nat.reduceAdd, Nat.reduceSub, Nat.reduceLT, Nat.reduceLeDiff, decide_eq_true_eq, Bool.not_eq_true', decide_eq_false_iff_not, reduceCtorEq, if_true, if_false, Bool.false_eq_true, ite_true, ite_false, not_true_eq_false, not_false_eq_true, Bool.not_true, Bool.not_false, reduceIte, and_self, or_true, true_or, or_false, false_or, and_false, false_and]; exact q) ?_
  refine lcL_map (fun c : Int => .d (.int c)) (fun _ => true) (fun c => .d (.bool (decide (0 ≤ c) && decide (c ≤ 255)))) (seq_ok h) t [] (fun c hc N M hy hn => ?_) (by rw [List.length_nil, Nat.zero_add]; exact Nat.le_trans ht (by decide)) ?_
  · simp only [bCmp, fnM, cNext, cSeq, cBrk, cCont, cDrop, cRet, cRetN, cIf, cNever, cAsg, cPar, cPar3, cAug, cFor, eC, eVar, eOp, eUn, eIf, aNil, aCons, eTup, eLst, eLstM, eCB, eFn, eAndV, eOrV, eNotV, cAnd, cOr, cNot, cB, cTru, cYes, mName, mNames, wipeM, mTup, mSub, eFrz, eAppend, eSlice, oNone, oSome, eChain, eLcG, finD, finM, iRange1, iRange2, iZip2, iSeq, bInt, bIntC, bCmp, bMulX, bAddM, eIsi, isTy, bAdd, bNeg, bIs, bIsN, isNone, bEq, bNe, bRepr, bLen, bIntOf, b2Int, bTuple, bList, bListM, bAll, bAny, tupOf, datOf, truV, okOf, bIx_tup, bIx_lst, bIx_set, lenV_set, ixN_21, ixN_20, set_1, sset_same, sset_sset, MO.lst.injEq, lenV_tup, lenV_lst, atI_0, atI_1, atI_2, atI_3, atI_4, lstOf, allD, allD_map, ex_eq_and, ex_eq_and', List.map_cons, List.map_nil, List.length_cons, List.length_nil, List.replicate, List.cons_append, List.nil_append, List.getElem?_cons_zero, List.getElem?_cons_succ, Option.some.injEq, Option.map_some, List.set, List.cons.injEq, and_true, true_and, MV.d.injEq, MV.m.injEq, PyData.int.injEq, PyData.bool.injEq, PyData.str.injEq, PyData.tuple.injEq, PyData.list.injEq, exists_and_left, exists_and_right, exists_eq_left', exists_eq_left, exists_eq_right, exists_eq', Nat.reduceAdd, Nat.reduceSub, Nat.reduceLT, Nat.reduceLeDiff, decide_eq_true_eq, Bool.not_eq_true', decide_eq_false_iff_not, reduceCtorEq, if_true, if_false, Bool.false_eq_true, ite_true, ite_false, not_true_eq_false, not_false_eq_true, Bool.not_true, Bool.not_false, reduceIte, and_self, or_true, true_or, or_false, false_or, and_false, false_and]
    by_cases z : 0 ≤ c
    · rw [if_pos z]
      have := hy rfl
      rw [decide_eq_true z] at this
      exact this
    · rw [if_neg z]
      have := hy rfl
      rw [decide_eq_false z] at this
      exact this
  rw [filt_true, List.nil_append]
  refine ⟨_, allD_of (fun c : Int => PyData.bool (decide (0 ≤ c) && decide (c ≤ 255))) _, _, bools_of (fun c : Int => decide (0 ≤ c) && decide (c ≤ 255)) _, q _ ?_⟩
  rw [List.all_map, List.all_eq_true]
  constructor
  · intro z
    refine ⟨hl, fun x hx => ?_⟩
    have := z x hx
    simpa using this
  · intro z x hx
    have := z.2 x hx
    simpa using this
theorem disk_good (h : DiskOk κ S a d F) : DGood d := by
  obtain ⟨bA, wA, tt, _, _, _, _, _, _, _, g, _⟩ := h
  exact g
theorem disk_keep {S' : Sto} (h : DiskOk κ S a d F) (k : ∀ b ∈ F, S' b = S b) : DiskOk κ S' a d F := by
  obtain ⟨bA, wA, tt, rfl, n1, n2, n3, e1, e2, e3, g⟩ := h
  exact ⟨bA, wA, tt, rfl, n1, n2, n3, by rw [k a (by simp)]; exact e1, by rw [k bA (by simp)]; exact e2, by rw [k wA (by simp)]; exact e3, g⟩
theorem disk_there (h : DiskOk κ S a d F) : ∀ b ∈ F, ∃ o, S b = some o := by
  obtain ⟨bA, wA, tt, rfl, n1, n2, n3, e1, e2, e3, g⟩ := h
  intro b hb
  simp only [List.mem_cons, List.not_mem_nil, or_false] at hb
  rcases hb with rfl | rfl | rfl
  · exact ⟨_, e1⟩
  · exact ⟨_, e2⟩
  · exact ⟨_, e3⟩
theorem disk_new {p : Addr} {o : MO} (h : DiskOk κ S a d F) (n : S p = none) : DiskOk κ (sset S p o) a d F := disk_keep h fun c hc => by
  obtain ⟨u, e⟩ := disk_there h c hc
  exact sset_ne fun z => by rw [z, n] at e; cases e
theorem disk_ins (h : DiskOk κ S a d F) (m : Str) (hm : m = "write" ∨ m = "cut_power" ∨ m = "read" ∨ m = "flush" ∨ m = "pending_count" ∨ m = "cut_count" ∨ m = "size" ∨ m = "schedule_cut" ∨ m = "check_at" ∨ m = "count_down" ∨ m = "store") : ∃ fs, S a = some (.ins κ.Disk fs) ∧ fs.lookup m = none := by
  obtain ⟨bA, wA, tt, rfl, n1, n2, n3, e1, e2, e3, g⟩ := h
  refine ⟨_, e1, ?_⟩
  rcases hm with rfl | rfl | rfl | rfl | rfl | rfl | rfl | rfl | rfl | rfl | rfl <;> rfl
theorem w_count (h : DiskOk κ S a d F) (q : Q (.d (.int d.ps.length)) S) : m_Disk_pending_count κ [.m a] S Q X := by
  obtain ⟨bA, wA, tt, rfl, n1, n2, n3, e1, e2, e3, g⟩ := h
  simp only [m_Disk_pending_count, c_Disk_pending_count, df1, df2, df3, df4, df5, dp2, dp3, dp4, dp5, dfl, MO.ins.injEq, eFld, cFld, cFldAug, eMeth, cRaiseF, cRaiseT, exists_eq_left, and_assoc, e1, lenV_m e3, List.length_map, fnM, cNext, cSeq, cBrk, cCont, cDrop, cRet, cRetN, cIf, cNever, cAsg, cPar, cPar3, cAug, cFor, eC, eVar, eOp, eUn, eIf, aNil, aCons, eTup, eLst, eLstM, eCB, eFn, eAndV, eOrV, eNotV, cAnd, cOr, cNot, cB, cTru, cYes, mName, mNames, wipeM, mTup, mSub, eFrz, eAppend, eSlice, oNone, oSome, eChain, eLcG, finD, finM, iRange1, iRange2, iZip2, iSeq, bInt, bIntC, bCmp, bMulX, bAddM, eIsi, isTy, bAdd, bNeg, bIs, bIsN, isNone, bEq, bNe, bRepr, bLen, bIntOf, b2Int, bTuple, bList, bListM, bAll, bAny, tupOf, datOf, truV, okOf, bIx_tup, bIx_lst, bIx_set, lenV_set, ixN_21, ixN_20, set_1, sset_same, sset_sset, MO.lst.injEq, lenV_tup, lenV_lst, atI_0, atI_1, atI_2, atI_3, atI_4, lstOf, allD, allD_map, ex_eq_and, ex_eq_and', List.map_cons, List.map_nil, List.length_cons, List.length_nil, List.replicate, List.cons_append, List.nil_append, List.getElem?_cons_zero, List.getElem?_cons_succ, Option.some.injEq, Option.map_some, List.set, List.cons.injEq, and_true, true_and, MV.d.injEq, MV.m.injEq, PyData.int.injEq, PyData.bool.injEq, PyData.str.injEq, PyData.tuple.injEq, PyData.list.injEq, exists_and_left, exists_and_right, exists_eq_left', exists_eq_left, exists_eq_right, exists_eq', Nat.reduceAdd, Nat.reduceSub, Nat.reduceLT, Nat.reduceLeDiff, decide_eq_true_eq, Bool.not_eq_true', decide_eq_false_iff_not, reduceCtorEq, if_true, if_false, Bool.false_eq_true, ite_true, ite_false, not_true_eq_false, not_false_eq_true, Bool.not_true, Bool.not_false, reduceIte, and_self, or_true, true_or, or_false, false_or, and_false, false_and]
  exact q
theorem w_cuts (h : DiskOk κ S a d F) (q : Q (.d (.int d.cuts)) S) : m_Disk_cut_count κ [.m a] S Q X := by
  obtain ⟨bA, wA, tt, rfl, n1, n2, n3, e1, e2, e3, g⟩ := h
  simp only [m_Disk_cut_count, c_Disk_cut_count, df1, df2, df3, df4, df5, dp2, dp3, dp4, dp5, dfl, MO.ins.injEq, eFld, cFld, cFldAug, eMeth, cRaiseF, cRaiseT, exists_eq_left, and_assoc, e1, fnM, cNext, cSeq, cBrk, cCont, cDrop, cRet, cRetN, cIf, cNever, cAsg, cPar, cPar3, cAug, cFor, eC, eVar, eOp, eUn, eIf, aNil, aCons, eTup, eLst, eLstM, eCB, eFn, eAndV, eOrV, eNotV, cAnd, cOr, cNot, cB, cTru, cYes, mName, mNames, wipeM, mTup, mSub, eFrz, eAppend, eSlice, oNone, oSome, eChain, eLcG, finD, finM, iRange1, iRange2, iZip2, iSeq, bInt, bIntC, bCmp, bMulX, bAddM, eIsi, isTy, bAdd, bNeg, bIs, bIsN, isNone, bEq, bNe, bRepr, bLen, bIntOf, b2Int, bTuple, bList, bListM, bAll, bAny, tupOf, datOf, truV, okOf, bIx_tup, bIx_lst, bIx_set, lenV_set, ixN_21, ixN_20, set_1, sset_same, sset_sset, MO.lst.injEq, lenV_tup, lenV_lst, atI_0, atI_1, atI_2, atI_3, atI_4, lstOf, allD, allD_map, ex_eq_and, ex_eq_and', List.map_cons, List.map_nil, List.length_cons, List.length_nil, List.replicate, List.cons_append, List.nil_append, List.getElem?_cons_zero, List.getElem?_cons_succ, Option.some.injEq, Option.map_some, List.set, List.cons.injEq, and_true, true_and, MV.d.injEq, MV.m.injEq, PyData.int.injEq, PyData.bool.injEq, PyData.str.injEq, PyData.tuple.injEq, PyData.list.injEq, exists_and_left, exists_and_right, exists_eq_left', exists_eq_left, exists_eq_right, exists_eq', Nat.reduceAdd, Nat.reduceSub, Nat.reduceLT, Nat.reduceLeDiff, decide_eq_true_eq, Bool.not_eq_true', decide_eq_false_iff_not, reduceCtorEq, if_true, if_false, Bool.false_eq_true, ite_true, ite_false, not_true_eq_false, not_false_eq_true, Bool.not_true, Bool.not_false, reduceIte, and_self, or_true, true_or, or_false, false_or, and_false, false_and]
  exact q
theorem w_check_at {n : Int} (h : DiskOk κ S a d F) (q1 : ¬ (0 ≤ n ∧ n < d.bs.length) → X (.fd κ.OutOfRange [("name", .str "at")]) S) (q : 0 ≤ n → n < d.bs.length → Q (.d .none) S) : m_Disk_check_at κ [.m a, .d (.int n)] S Q X := by
  obtain ⟨bA, wA, tt, rfl, n1, n2, n3, e1, e2, e3, g⟩ := h
  simp only [m_Disk_check_at, c_Disk_check_at, df1, df2, df3, df4, df5, dp2, dp3, dp4, dp5, dfl, MO.ins.injEq, eFld, cFld, cFldAug, eMeth, cRaiseF, cRaiseT, exists_eq_left, and_assoc, e1, lenV_m e2, List.length_map, bCmp, fnM, cNext, cSeq, cBrk, cCont, cDrop, cRet, cRetN, cIf, cNever, cAsg, cPar, cPar3, cAug, cFor, eC, eVar, eOp, eUn, eIf, aNil, aCons, eTup, eLst, eLstM, eCB, eFn, eAndV, eOrV, eNotV, cAnd, cOr, cNot, cB, cTru, cYes, mName, mNames, wipeM, mTup, mSub, eFrz, eAppend, eSlice, oNone, oSome, eChain, eLcG, finD, finM, iRange1, iRange2, iZip2, iSeq, bInt, bIntC, bCmp, bMulX, bAddM, eIsi, isTy, bAdd, bNeg, bIs, bIsN, isNone, bEq, bNe, bRepr, bLen, bIntOf, b2Int, bTuple, bList, bListM, bAll, bAny, tupOf, datOf, truV, okOf, bIx_tup, bIx_lst, bIx_set, lenV_set, ixN_21, ixN_20, set_1, sset_same, sset_sset, MO.lst.injEq, lenV_tup, lenV_lst, atI_0, atI_1, atI_2, atI_3, atI_4, lstOf, allD, allD_map, ex_eq_and, ex_eq_and', List.map_cons, List.map_nil, List.length_cons, List.length_nil, List.replicate, List.cons_append, List.nil_append, List.getElem?_cons_zero, List.getElem?_cons_succ, Option.some.injEq, Option.map_some, List.set, List.cons.injEq, and_true, true_and, MV.d.injEq, MV.m.injEq, PyData.int.injEq, PyData.bool.injEq, PyData.str.injEq, PyData.tuple.injEq, PyData.list.injEq, exists_and_left, exists_and_right, exists_eq_left', exists_eq_left, exists_eq_right, exists_eq', Nat.reduceAdd, Nat.reduceSub, Nat.reduceLT, Nat.reduceLeDiff, decide_eq_true_eq, Bool.not_eq_true', decide_eq_false_iff_not, reduceCtorEq, if_true, if_false, Bool.false_eq_true, ite_true, ite_false, not_true_eq_false, not_false_eq_true, Bool.not_true, Bool.not_false, reduceIte, and_self, or_true, true_or, or_false, false_or, and_false, false_and]
  by_cases h0 : 0 ≤ n
  · rw [if_pos h0]
    by_cases h1 : n < d.bs.length
    · rw [if_neg (by simpa using h1)]
      exact q h0 h1
    · rw [if_pos h1]
      exact ⟨by decide, q1 fun z => h1 z.2⟩
  · rw [if_neg h0]
    exact ⟨by decide, q1 fun z => h0 z.1⟩
theorem rep_sing {α : Type} (x : α) (n : Nat) : (List.replicate n [x]).flatten = List.replicate n x := by
  induction n with
  | zero => rfl
  | succ n ih => rw [List.replicate_succ, List.flatten_cons, ih, List.replicate_succ]; rfl
theorem w_make {p : Addr} {n : Int} (np : S p = some (.ins κ.Disk [])) (q1 : ¬ (8 ≤ n ∧ n ≤ 400) → ∀ S', Ext S [p] S' [p] → X (.fd κ.OutOfRange [("name", .str "blocks")]) S')
    (q : 8 ≤ n → n ≤ 400 → ∀ S' F', Ext S [p] S' F' → p ∈ F' → DiskOk κ S' p ⟨List.replicate n.toNat (List.replicate 32 0), [], 0, none, []⟩ F' → Q (.d .none) S') : m_Disk___init__ κ [.m p, .d (.int n)] S Q X := by
  simp only [m_Disk___init__, c_Disk___init__, c_Disk___init___1, bCmp, fnM, cNext, cSeq, cBrk, cCont, cDrop, cRet, cRetN, cIf, cNever, cAsg, cPar, cPar3, cAug, cFor, eC, eVar, eOp, eUn, eIf, aNil, aCons, eTup, eLst, eLstM, eCB, eFn, eAndV, eOrV, eNotV, cAnd, cOr, cNot, cB, cTru, cYes, mName, mNames, wipeM, mTup, mSub, eFrz, eAppend, eSlice, oNone, oSome, eChain, eLcG, finD, finM, iRange1, iRange2, iZip2, iSeq, bInt, bIntC, bCmp, bMulX, bAddM, eIsi, isTy, bAdd, bNeg, bIs, bIsN, isNone, bEq, bNe, bRepr, bLen, bIntOf, b2Int, bTuple, bList, bListM, bAll, bAny, tupOf, datOf, truV, okOf, bIx_tup, bIx_lst, bIx_set, lenV_set, ixN_21, ixN_20, set_1, sset_same, sset_sset, MO.lst.injEq, lenV_tup, lenV_lst, atI_0, atI_1, atI_2, atI_3, atI_4, lstOf, allD, allD_map, ex_eq_and, ex_eq_and', List.map_cons, List.map_nil, List.length_cons, List.length_nil, List.replicate, List.cons_append, List.nil_append, List.getElem?_cons_zero, List.getElem?_cons_succ, Option.some.injEq, Option.map_some, List.set, List.cons.injEq, and_true, true_and, MV.d.injEq, MV.m.injEq, PyData.int.injEq, PyData.bool.injEq, PyData.str.injEq, PyData.tuple.injEq, PyData.list.injEq, exists_and_left, exists_and_right, exists_eq_left', exists_eq_left, exists_eq_right, exists_eq', Nat.reduceAdd, Nat.reduceSub, Nat.reduceLT, Nat.reduceLeDiff, decide_eq_true_eq, Bool.not_eq_true', decide_eq_false_iff_not, reduceCtorEq, if_true, if_false, Bool.false_eq_true, ite_true, ite_false, not_true_eq_false, not_false_eq_true, Bool.not_true, Bool.not_false, reduceIte, and_self, or_true, true_or, or_false, false_or, and_false, false_and]
  have refuse : ¬ (8 ≤ n ∧ n ≤ 400) → c_Disk___init___2 κ ⟨c_Disk___init___3 κ ⟨fun _ S' => Q (.d .none) S', Q, fun _ _ => False, fun _ _ => False, fun x _ S' => X x S'⟩, Q, fun _ _ => False, fun _ _ => False, fun x _ S' => X x S'⟩ [some (.m p), some (.d (.int n))] S := fun z => by
    simp only [c_Disk___init___2, cRaiseF, fnM, cNext, cSeq, cBrk, cCont, cDrop, cRet, cRetN, cIf, cNever, cAsg, cPar, cPar3, cAug, cFor, eC, eVar, eOp, eUn, eIf, aNil, aCons, eTup, eLst, eLstM, eCB, eFn, eAndV, eOrV, eNotV, cAnd, cOr, cNot, cB, cTru, cYes, mName, mNames, wipeM, mTup, mSub, eFrz, eAppend, eSlice, oNone, oSome, eChain, eLcG, finD, finM, iRange1, iRange2, iZip2, iSeq, bInt, bIntC, bCmp, bMulX, bAddM, eIsi, isTy, bAdd, bNeg, bIs, bIsN, isNone, bEq, bNe, bRepr, bLen, bIntOf, b2Int, bTuple, bList, bListM, bAll, bAny, tupOf, datOf, truV, okOf, bIx_tup, bIx_lst, bIx_set, lenV_set, ixN_21, ixN_20, set_1, sset_same, sset_sset, MO.lst.injEq, lenV_tup, lenV_lst, atI_0, atI_1, atI_2, atI_3, atI_4, lstOf, allD, allD_map, ex_eq_and, ex_eq_and', List.map_cons, List.map_nil, List.length_cons, List.length_nil, List.replicate, List.cons_append, List.nil_append, List.getElem?_cons_zero, List.getElem?_cons_succ, Option.some.injEq, Option.map_some, List.set, List.cons.injEq, and_true, true_and, MV.d.injEq, MV.m.injEq, PyData.int.injEq, PyData.bool.injEq, PyData.str.injEq, PyData.tuple.injEq, PyData.list.injEq, exists_and_left, exists_and_right, exists_eq_left', exists_eq_left, exists_eq_right, exists_eq', Nat.reduceAdd, Nat.reduceSub, Nat.reduceLT, Nat.reduceLeDiff, decide_eq_true_eq, Bool.not_eq_true', decide_eq_false_iff_not, reduceCtorEq, if_true, if_false, Bool.false_eq_true, ite_true, ite_false, not_true_eq_false, not_false_eq_true, Bool.not_true, Bool.not_false, reduceIte, and_self, or_true, true_or, or_false, false_or, and_false, false_and]
    exact ⟨by decide, q1 z S Ext.refl⟩
  by_cases h0 : 8 ≤ n
  case neg =>
    rw [if_neg h0]
    exact refuse fun z => h0 z.1
  rw [if_pos h0]
  by_cases h1 : n ≤ 400
  case neg =>
    rw [if_pos h1]
    exact refuse fun z => h1 z.2
  rw [if_neg (by simpa using h1)]
  clear refuse
  simp only [c_Disk___init___3, cFld, bRepT, bMulM, fnM, cNext, cSeq, cBrk, cCont, cDrop, cRet, cRetN, cIf, cNever, cAsg, cPar, cPar3, cAug, cFor, eC, eVar, eOp, eUn, eIf, aNil, aCons, eTup, eLst, eLstM, eCB, eFn, eAndV, eOrV, eNotV, cAnd, cOr, cNot, cB, cTru, cYes, mName, mNames, wipeM, mTup, mSub, eFrz, eAppend, eSlice, oNone, oSome, eChain, eLcG, finD, finM, iRange1, iRange2, iZip2, iSeq, bInt, bIntC, bCmp, bMulX, bAddM, eIsi, isTy, bAdd, bNeg, bIs, bIsN, isNone, bEq, bNe, bRepr, bLen, bIntOf, b2Int, bTuple, bList, bListM, bAll, bAny, tupOf, datOf, truV, okOf, bIx_tup, bIx_lst, bIx_set, lenV_set, ixN_21, ixN_20, set_1, sset_same, sset_sset, MO.lst.injEq, lenV_tup, lenV_lst, atI_0, atI_1, atI_2, atI_3, atI_4, lstOf, allD, allD_map, ex_eq_and, ex_eq_and', List.map_cons, List.map_nil, List.length_cons, List.length_nil, List.replicate, List.cons_append, List.nil_append, List.getElem?_cons_zero, List.getElem?_cons_succ, Option.some.injEq, Option.map_some, List.set, List.cons.injEq, and_true, true_and, MV.d.injEq, MV.m.injEq, PyData.int.injEq, PyData.bool.injEq, PyData.str.injEq, PyData.tuple.injEq, PyData.list.injEq, exists_and_left, exists_and_right, exists_eq_left', exists_eq_left, exists_eq_right, exists_eq', Nat.reduceAdd, Nat.reduceSub, Nat.reduceLT, Nat.reduceLeDiff, decide_eq_true_eq, Bool.not_eq_true', decide_eq_false_iff_not, reduceCtorEq, if_true, if_false, Bool.false_eq_true, ite_true, ite_false, not_true_eq_false, not_false_eq_true, Bool.not_true, Bool.not_false, reduceIte, and_self, or_true, true_or, or_false, false_or, and_false, false_and]
  refine ⟨by decide, by simp, by decide, by decide, by decide, fun p1 n1 => ?_⟩
  have np1 : p ≠ p1 := fun e => by rw [e, n1] at np; cases np
  refine ⟨by omega, by omega, fun p2 n2 => ?_⟩
  have e0 : sset S p1 (.lst [.d (.tuple (List.replicate (Int.toNat 32) [PyData.int 0]).flatten)]) p = some (.ins κ.Disk []) := by rw [sset_ne np1]; exact np
  have np2 : p ≠ p2 := fun e => by rw [e, n2] at e0; cases e0
  have e1 : ∀ o, sset (sset S p1 (.lst [.d (.tuple (List.replicate (Int.toNat 32) [PyData.int 0]).flatten)])) p2 o p = some (.ins κ.Disk []) := fun o => by rw [sset_ne np2]; exact e0
  refine ⟨[], e1 _, by decide, ?_⟩
  have erow : (List.replicate (Int.toNat 32) [PyData.int 0]).flatten = (List.replicate 32 (0 : Int)).map .int := rep_zero 32
  rw [erow, rep_sing]
  have s12 : p1 ≠ p2 := fun e => by rw [← e, sset_same] at n2; cases n2
  have n2' : S p2 = none := by rw [sset_ne s12.symm] at n2; exact n2
  obtain ⟨S2, eS2⟩ : ∃ S2, S2 = sset (sset (sset S p1 (.lst [.d (rowT (List.replicate 32 0))])) p2 (.lst (List.replicate n.toNat (.d (rowT (List.replicate 32 0)))))) p (.ins κ.Disk (putM "stored" (.m p2) [])) := ⟨_, rfl⟩
  have k2 : ∀ c o, c ≠ p → S c = some o → S2 c = some o := fun c o hc e => by
    have c1 : c ≠ p1 := fun z => by rw [z, n1] at e; cases e
    have c2 : c ≠ p2 := fun z => by rw [z, n2'] at e; cases e
    rw [eS2, sset_ne hc, sset_ne c2, sset_ne c1]
    exact e
  have g1 : S2 p = some (.ins κ.Disk (putM "stored" (.m p2) [])) := by rw [eS2, sset_same]
  have g2 : S2 p2 = some (.lst (List.replicate n.toNat (.d (rowT (List.replicate 32 0))))) := by rw [eS2, sset_ne np2.symm, sset_same]
  rw [← eS2]
  clear eS2
  simp only [c_Disk___init___4, cFld, fnM, cNext, cSeq, cBrk, cCont, cDrop, cRet, cRetN, cIf, cNever, cAsg, cPar, cPar3, cAug, cFor, eC, eVar, eOp, eUn, eIf, aNil, aCons, eTup, eLst, eLstM, eCB, eFn, eAndV, eOrV, eNotV, cAnd, cOr, cNot, cB, cTru, cYes, mName, mNames, wipeM, mTup, mSub, eFrz, eAppend, eSlice, oNone, oSome, eChain, eLcG, finD, finM, iRange1, iRange2, iZip2, iSeq, bInt, bIntC, bCmp, bMulX, bAddM, eIsi, isTy, bAdd, bNeg, bIs, bIsN, isNone, bEq, bNe, bRepr, bLen, bIntOf, b2Int, bTuple, bList, bListM, bAll, bAny, tupOf, datOf, truV, okOf, bIx_tup, bIx_lst, bIx_set, lenV_set, ixN_21, ixN_20, set_1, sset_same, sset_sset, MO.lst.injEq, lenV_tup, lenV_lst, atI_0, atI_1, atI_2, atI_3, atI_4, lstOf, allD, allD_map, ex_eq_and, ex_eq_and', List.map_cons, List.map_nil, List.length_cons, List.length_nil, List.replicate, List.cons_append, List.nil_append, List.getElem?_cons_zero, List.getElem?_cons_succ, Option.some.injEq, Option.map_some, List.set, List.cons.injEq, and_true, true_and, MV.d.injEq, MV.m.injEq, PyData.int.injEq, PyData.bool.injEq, PyData.str.injEq, PyData.tuple.injEq, PyData.list.injEq, exists_and_left, exists_and_right, exists_eq_left', exists_eq_left, exists_eq_right, exists_eq', Nat.reduceAdd, Nat.reduceSub, Nat.reduceLT, Nat.reduceLeDiff, decide_eq_true_eq, Bool.not_eq_true', decide_eq_false_iff_not, reduceCtorEq, if_true, if_false, Bool.false_eq_true, ite_true, ite_false, not_true_eq_false, not_false_eq_true, Bool.not_true, Bool.not_false, reduceIte, and_self, or_true, true_or, or_false, false_or, and_false, false_and]
  refine ⟨Nat.zero_le _, fun p3 n3 => ?_⟩
  have np3 : p ≠ p3 := fun e => by rw [e, n3] at g1; cases g1
  have s23 : p2 ≠ p3 := fun e => by rw [e, n3] at g2; cases g2
  have e3 : sset S2 p3 (.lst []) p = some (.ins κ.Disk (putM "stored" (.m p2) [])) := by rw [sset_ne np3]; exact g1
  refine ⟨_, e3, (show (1 : Nat) < 1000 by decide), ?_⟩
  simp only [c_Disk___init___5, c_Disk___init___6, c_Disk___init___7, cFld, sset_same, sset_sset, MO.ins.injEq, exists_eq_left', fnM, cNext, cSeq, cBrk, cCont, cDrop, cRet, cRetN, cIf, cNever, cAsg, cPar, cPar3, cAug, cFor, eC, eVar, eOp, eUn, eIf, aNil, aCons, eTup, eLst, eLstM, eCB, eFn, eAndV, eOrV, eNotV, cAnd, cOr, cNot, cB, cTru, cYes, mName, mNames, wipeM, mTup, mSub, eFrz, eAppend, eSlice, oNone, oSome, eChain, eLcG, finD, finM, iRange1, iRange2, iZip2, iSeq, bInt, bIntC, bCmp, bMulX, bAddM, eIsi, isTy, bAdd, bNeg, bIs, bIsN, isNone, bEq, bNe, bRepr, bLen, bIntOf, b2Int, bTuple, bList, bListM, bAll, bAny, tupOf, datOf, truV, okOf, bIx_tup, bIx_lst, bIx_set, lenV_set, ixN_21, ixN_20, set_1, sset_same, sset_sset, MO.lst.injEq, lenV_tup, lenV_lst, atI_0, atI_1, atI_2, atI_3, atI_4, lstOf, allD, allD_map, ex_eq_and, ex_eq_and', List.map_cons, List.map_nil, List.length_cons, List.length_nil, List.replicate, List.cons_append, List.nil_append, List.getElem?_cons_zero, List.getElem?_cons_succ, Option.some.injEq, Option.map_some, List.set, List.cons.injEq, and_true, true_and, MV.d.injEq, MV.m.injEq, PyData.int.injEq, PyData.bool.injEq, PyData.str.injEq, PyData.tuple.injEq, PyData.list.injEq, exists_and_left, exists_and_right, exists_eq_left', exists_eq_left, exists_eq_right, exists_eq', Nat.reduceAdd, Nat.reduceSub, Nat.reduceLT, Nat.reduceLeDiff, decide_eq_true_eq, Bool.not_eq_true', decide_eq_false_iff_not, reduceCtorEq, if_true, if_false, Bool.false_eq_true, ite_true, ite_false, not_true_eq_false, not_false_eq_true, Bool.not_true, Bool.not_false, reduceIte, and_self, or_true, true_or, or_false, false_or, and_false, false_and]
  refine ⟨(show (2 : Nat) < 1000 by decide), (show (3 : Nat) < 1000 by decide), Nat.zero_le _, (show (4 : Nat) < 1000 by decide), ?_⟩
  have n3' : ∀ c o, S c = some o → c ≠ p → c ≠ p3 := fun c o e hc z => by rw [z] at e hc; have := k2 _ _ hc e; rw [n3] at this; cases this
  refine q h0 h1 _ [p, p2, p3] ⟨fun c o hc e => ?_, fun c hc => ?_⟩ List.mem_cons_self ⟨p2, p3, .d (.tuple []), rfl, np2, np3, s23, sset_same, ?_, ?_, ⟨by simp; omega, by simp; omega, fun b hb => ?_, fun e he => (nomatch he), Nat.zero_le _⟩, fun z => absurd rfl z⟩
  · have hc' : c ≠ p := fun z => hc (by rw [z]; exact List.mem_singleton.mpr rfl)
    rw [sset_ne hc', sset_ne (n3' c o e hc')]
    exact k2 c o hc' e
  · simp only [List.mem_cons, List.not_mem_nil, or_false] at hc
    rcases hc with rfl | rfl | rfl
    · exact .inl List.mem_cons_self
    · exact .inr n2'
    · refine .inr ?_
      cases z : S c with
      | none => rfl
      | some o => have := k2 c o np3.symm z; rw [n3] at this; cases this
  · rw [sset_ne np2.symm, sset_ne s23, g2]
    simp
  · rw [sset_ne np3.symm, sset_same]
    rfl
  · rw [List.eq_of_mem_replicate hb]
    exact ⟨List.length_replicate, fun x hx => by rw [List.eq_of_mem_replicate hx]; decide⟩
/-- zeros at the end do nothing; whole blocks are written whole -/
theorem tear0 (b o : List Int) : tearB 0 b o = o := by unfold tearB; simp
theorem tear32 {b o : List Int} (hb : b.length = 32) (ho : o.length = 32) : tearB 32 b o = b := by
  unfold tearB
  rw [List.take_of_length_le (by rw [hb]; decide), List.drop_of_length_le (by rw [ho]; decide), List.append_nil]
theorem set_getD {bs : List (List Int)} {k : Nat} : bs.set k (bs.getD k []) = bs := by
  apply List.ext_getElem?
  intro i
  rw [List.getElem?_set]
  split
  · rename_i h
    subst h
    split
    · rename_i h
      rw [List.getD, List.getElem?_eq_getElem h]
      rfl
    · rename_i h
      exact (List.getElem?_eq_none (by omega)).symm
  · rfl
theorem cutB_zeros : ∀ (ps : List (Nat × List Int)) (bs : List (List Int)) (ts : List Int) (n : Nat), cutB bs ps (ts ++ List.replicate n 0) = cutB bs ps ts
  | [], bs, ts, n => by simp [cutB]
  | e :: ps, bs, [], 0 => by simp [cutB]
  | e :: ps, bs, [], n + 1 => by
    rw [List.nil_append, List.replicate_succ, cutB, tear0, set_getD]
    have := cutB_zeros ps bs [] n
    rw [List.nil_append] at this
    rw [this]
    cases ps <;> simp [cutB]
  | e :: ps, bs, t :: ts, n => by
    rw [List.cons_append, cutB, cutB, cutB_zeros ps]
theorem cutB_whole : ∀ (ps : List (Nat × List Int)) (bs : List (List Int)), (∀ b ∈ bs, Byt b) → (∀ e ∈ ps, e.1 < bs.length ∧ Byt e.2) → cutB bs ps (List.replicate ps.length 32) = flushB bs ps
  | [], bs, _, _ => by simp [cutB, flushB]
  | e :: ps, bs, hb, hp => by
    have h1 := hp e List.mem_cons_self
    rw [List.length_cons, List.replicate_succ, cutB, tear32 h1.2.1 (byt_getD hb h1.1).1, cutB_whole ps _ (set_byt hb h1.2) fun x hx => by rw [List.length_set]; exact hp x (List.mem_cons_of_mem _ hx)]
    rfl
theorem sset_self {S : Sto} {a : Addr} {o : MO} (h : S a = some o) : sset S a o = S := by
  funext b
  by_cases e : b = a
  · rw [e, sset_same, h]
  · rw [sset_ne e]
theorem cutB_nil (bs : List (List Int)) : cutB bs [] [] = bs := by simp [cutB]
theorem w_store {ts : List Int} (h : DiskOk κ S a d F) (ht : TornOk ts) (q : ∀ S' F', Ext S F S' F' → DiskOk κ S' a { d with bs := cutB d.bs d.ps ts, ps := [] } F' → Q (.d .none) S') : m_Disk_store κ [.m a, .d (rowD ts)] S Q X := by
  obtain ⟨bA, wA, tt, rfl, n1, n2, n3, e1, e2, e3, g, gl⟩ := h
  simp only [m_Disk_store, c_Disk_store, c_Disk_store_1, df1, df2, df3, df4, df5, dp2, dp3, dp4, dp5, dfl, MO.ins.injEq, eFld, cFld, cFldAug, eMeth, cRaiseF, cRaiseT, exists_eq_left, and_assoc, e1, iZipS, fnM, cNext, cSeq, cBrk, cCont, cDrop, cRet, cRetN, cIf, cNever, cAsg, cPar, cPar3, cAug, cFor, eC, eVar, eOp, eUn, eIf, aNil, aCons, eTup, eLst, eLstM, eCB, eFn, eAndV, eOrV, eNotV, cAnd, cOr, cNot, cB, cTru, cYes, mName, mNames, wipeM, mTup, mSub, eFrz, eAppend, eSlice, oNone, oSome, eChain, eLcG, finD, finM, iRange1, iRange2, iZip2, iSeq, bInt, bIntC, bCmp, bMulX, bAddM, eIsi, isTy, bAdd, bNeg, bIs, bIsN, isNone, bEq, bNe, bRepr, bLen, bIntOf, b2Int, bTuple, bList, bListM, bAll, bAny, tupOf, datOf, truV, okOf, bIx_tup, bIx_lst, bIx_set, lenV_set, ixN_21, ixN_20, set_1, sset_same, sset_sset, MO.lst.injEq, lenV_tup, lenV_lst, atI_0, atI_1, atI_2, atI_3, atI_4, lstOf, allD, allD_map, ex_eq_and, ex_eq_and', List.map_cons, List.map_nil, List.length_cons, List.length_nil, List.replicate, List.cons_append, List.nil_append, List.getElem?_cons_zero, List.getElem?_cons_succ, Option.some.injEq, Option.map_some, List.set, List.cons.injEq, and_true, true_and, MV.d.injEq, MV.m.injEq, PyData.int.injEq, PyData.bool.injEq, PyData.str.injEq, PyData.tuple.injEq, PyData.list.injEq, exists_and_left, exists_and_right, exists_eq_left', exists_eq_left, exists_eq_right, exists_eq', Nat.reduceAdd, Nat.reduceSub, Nat.reduceLT, Nat.reduceLeDiff, decide_eq_true_eq, Bool.not_eq_true', decide_eq_false_iff_not, reduceCtorEq, if_true, if_false, Bool.false_eq_true, ite_true, ite_false, not_true_eq_false, not_false_eq_true, Bool.not_true, Bool.not_false, reduceIte, and_self, or_true, true_or, or_false, false_or, and_false, false_and]
  refine ⟨d.ps.map fun e => .tuple [.int e.1, rowT e.2], by rw [e3, List.map_map]; rfl, ts.map .int, rfl, ?_⟩
  rw [zipD_map]
  obtain ⟨L, eL⟩ : ∃ L, L = List.map MV.d (d.ps.map fun e => PyData.tuple [.int e.1, rowT e.2]) := ⟨_, rfl⟩
  have e3' : S wA = some (.lst L) := by rw [e3, eL, List.map_map]; rfl
  rw [← eL]
  clear eL
  refine forL_inv (fun i ρ S' => (∃ a2 a3 a4, ρ = [some (.m a), some (.d (rowD ts)), a2, a3, a4]) ∧ S' = sset S bA (.lst ((cutB d.bs (d.ps.take i) (ts.take i)).map fun b => .d (rowT b)))) _ 0 _ _ ⟨⟨_, _, _, rfl⟩, ?_⟩ (fun i ρ S' h => ?_) ?_ ?_
  · rw [List.take_zero, List.take_zero, cutB_nil, sset_self e2]
  · rw [h.2, sset_ne n3.symm]
    exact e3'
  · rintro i x ρ S1 N ex ⟨⟨a2, a3, a4, rfl⟩, eS⟩ hN
    rw [Nat.zero_add] at eS hN
    rw [List.getElem?_map] at ex
    obtain ⟨p, hp, rfl⟩ := Option.map_eq_some_iff.mp ex
    obtain ⟨⟨k, b⟩, t⟩ := p
    obtain ⟨hp1, hp2⟩ := List.getElem?_zip_eq_some.mp hp
    obtain ⟨hk, hb⟩ := g.ps _ (List.mem_of_getElem? hp1)
    have ht' := ht t (List.mem_of_getElem? hp2)
    obtain ⟨C, eC⟩ : ∃ C, C = cutB d.bs (d.ps.take i) (ts.take i) := ⟨_, rfl⟩
    have lC : C.length = d.bs.length := by rw [eC, cutB_len]
    have bC : ∀ b ∈ C, Byt b := by
      rw [eC]
      exact cutB_byt _ _ _ g.bs (fun e he => g.ps e (List.mem_of_mem_take he)) fun x hx => ht x (List.mem_of_mem_take hx)
    have step := cutB_step d.ps d.bs ts i (k, b) t hp1 hp2
    rw [← eC] at eS step
    have f1 : S1 a = some (.ins κ.Disk (dfs (.m bA) (.m wA) (.d (.int d.cuts)) (lfM d.left) tt)) := by rw [eS, sset_ne n1]; exact e1
    have f2 : S1 bA = some (.lst (C.map fun b => .d (rowT b))) := by rw [eS, sset_same]
    have hkC : k < C.length := by rw [lC]; exact hk
    have gk : C.getD k [] = C[k] := by rw [List.getD, List.getElem?_eq_getElem hkC]; rfl
    have hx : atI (C.map fun b => MV.d (rowT b)) (k : Int) = some (.d (rowT (C.getD k []))) := by
      rw [atI_nat', List.getElem?_map, List.getElem?_eq_getElem hkC, gk]
      rfl
    have bo := byt_getD bC hkC
    clear eC
    simp only [mPairs, fnM, cNext, cSeq, cBrk, cCont, cDrop, cRet, cRetN, cIf, cNever, cAsg, cPar, cPar3, cAug, cFor, eC, eVar, eOp, eUn, eIf, aNil, aCons, eTup, eLst, eLstM, eCB, eFn, eAndV, eOrV, eNotV, cAnd, cOr, cNot, cB, cTru, cYes, mName, mNames, wipeM, mTup, mSub, eFrz, eAppend, eSlice, oNone, oSome, eChain, eLcG, finD, finM, iRange1, iRange2, iZip2, iSeq, bInt, bIntC, bCmp, bMulX, bAddM, eIsi, isTy, bAdd, bNeg, bIs, bIsN, isNone, bEq, bNe, bRepr, bLen, bIntOf, b2Int, bTuple, bList, bListM, bAll, bAny, tupOf, datOf, truV, okOf, bIx_tup, bIx_lst, bIx_set, lenV_set, ixN_21, ixN_20, set_1, sset_same, sset_sset, MO.lst.injEq, lenV_tup, lenV_lst, atI_0, atI_1, atI_2, atI_3, atI_4, lstOf, allD, allD_map, ex_eq_and, ex_eq_and', List.map_cons, List.map_nil, List.length_cons, List.length_nil, List.replicate, List.cons_append, List.nil_append, List.getElem?_cons_zero, List.getElem?_cons_succ, Option.some.injEq, Option.map_some, List.set, List.cons.injEq, and_true, true_and, MV.d.injEq, MV.m.injEq, PyData.int.injEq, PyData.bool.injEq, PyData.str.injEq, PyData.tuple.injEq, PyData.list.injEq, exists_and_left, exists_and_right, exists_eq_left', exists_eq_left, exists_eq_right, exists_eq', Nat.reduceAdd, Nat.reduceSub, Nat.reduceLT, Nat.reduceLeDiff, decide_eq_true_eq, Bool.not_eq_true', decide_eq_false_iff_not, reduceCtorEq, if_true, if_false, Bool.false_eq_true, ite_true, ite_false, not_true_eq_false, not_false_eq_true, Bool.not_true, Bool.not_false, reduceIte, and_self, or_true, true_or, or_false, false_or, and_false, false_and]
    simp only [c_Disk_store_2, df1, df2, df3, df4, df5, dp2, dp3, dp4, dp5, dfl, MO.ins.injEq, eFld, cFld, cFldAug, eMeth, cRaiseF, cRaiseT, exists_eq_left, and_assoc, f1, bIx_m f2, hx, bSlice, bAdd, List.length_map, ix_nat hkC, f2, fnM, cNext, cSeq, cBrk, cCont, cDrop, cRet, cRetN, cIf, cNever, cAsg, cPar, cPar3, cAug, cFor, eC, eVar, eOp, eUn, eIf, aNil, aCons, eTup, eLst, eLstM, eCB, eFn, eAndV, eOrV, eNotV, cAnd, cOr, cNot, cB, cTru, cYes, mName, mNames, wipeM, mTup, mSub, eFrz, eAppend, eSlice, oNone, oSome, eChain, eLcG, finD, finM, iRange1, iRange2, iZip2, iSeq, bInt, bIntC, bCmp, bMulX, bAddM, eIsi, isTy, bAdd, bNeg, bIs, bIsN, isNone, bEq, bNe, bRepr, bLen, bIntOf, b2Int, bTuple, bList, bListM, bAll, bAny, tupOf, datOf, truV, okOf, bIx_tup, bIx_lst, bIx_set, lenV_set, ixN_21, ixN_20, set_1, sset_same, sset_sset, MO.lst.injEq, lenV_tup, lenV_lst, atI_0, atI_1, atI_2, atI_3, atI_4, lstOf, allD, allD_map, ex_eq_and, ex_eq_and', List.map_cons, List.map_nil, List.length_cons, List.length_nil, List.replicate, List.cons_append, List.nil_append, List.getElem?_cons_zero, List.getElem?_cons_succ, Option.some.injEq, Option.map_some, List.set, List.cons.injEq, and_true, true_and, MV.d.injEq, MV.m.injEq, PyData.int.injEq, PyData.bool.injEq, PyData.str.injEq, PyData.tuple.injEq, PyData.list.injEq, exists_and_left, exists_and_right, exists_eq_left', exists_eq_left, exists_eq_right, exists_eq', Nat.reduceAdd, Nat.reduceSub, Nat.reduceLT, Nat.reduceLeDiff, decide_eq_true_eq, Bool.not_eq_true', decide_eq_false_iff_not, reduceCtorEq, if_true, if_false, Bool.false_eq_true, ite_true, ite_false, not_true_eq_false, not_false_eq_true, Bool.not_true, Bool.not_false, reduceIte, and_self, or_true, true_or, or_false, false_or, and_false, false_and]
    have c1 : cutL (b.map PyData.int) none (some t) ++ cutL ((C.getD k []).map PyData.int) (some t) none = (tearB t b (C.getD k [])).map .int := by
      rw [cutL_map, cutL_map, cut_to b ht'.1 (by rw [hb.1]; exact_mod_cast ht'.2), cut_from _ ht'.1 (by rw [bo.1]; exact_mod_cast ht'.2), ← List.map_append]
      rfl
    have c2 : ((C.map fun b => MV.d (rowT b)).set k (.d (rowT (tearB t b (C.getD k []))))) = (C.set k (tearB t b (C.getD k []))).map fun b => .d (rowT b) := by rw [List.map_set]
    refine ⟨?_, hN _ _ ⟨⟨_, _, _, rfl⟩, ?_⟩⟩
    · rw [cutL_map, cutL_map, List.length_map, List.length_map, cut_to b ht'.1 (by rw [hb.1]; exact_mod_cast ht'.2), cut_from _ ht'.1 (by rw [bo.1]; exact_mod_cast ht'.2), List.length_take, List.length_drop, hb.1, bo.1]
      exact Nat.le_of_lt (line_big (by omega))
    · rw [c1, eS, sset_sset, step]
      exact congrArg (fun l => sset S bA (.lst l)) c2
  · rintro ρ S2 ⟨⟨a2, a3, a4, rfl⟩, eS⟩
    rw [List.length_map, List.length_zip, Nat.zero_add, cutB_min d.ps d.bs ts _ (by omega)] at eS
    have f1 : S2 a = some (.ins κ.Disk (dfs (.m bA) (.m wA) (.d (.int d.cuts)) (lfM d.left) tt)) := by rw [eS, sset_ne n1]; exact e1
    have f2 : S2 bA = some (.lst ((cutB d.bs d.ps ts).map fun b => .d (rowT b))) := by rw [eS, sset_same]
    have k2 : ∀ c o, c ≠ bA → S c = some o → S2 c = some o := fun c o hc e => by rw [eS, sset_ne hc]; exact e
    have fr : ∀ c, S2 c = none → S c = none := fun c e => by
      cases z : S c with
      | none => rfl
      | some o =>
        by_cases hc : c = bA
        · rw [hc, f2] at e; cases e
        · rw [k2 c o hc z] at e; cases e
    clear eS
    simp only [c_Disk_store_3, df1, df2, df3, df4, df5, dp2, dp3, dp4, dp5, dfl, MO.ins.injEq, eFld, cFld, cFldAug, eMeth, cRaiseF, cRaiseT, exists_eq_left, and_assoc, fnM, cNext, cSeq, cBrk, cCont, cDrop, cRet, cRetN, cIf, cNever, cAsg, cPar, cPar3, cAug, cFor, eC, eVar, eOp, eUn, eIf, aNil, aCons, eTup, eLst, eLstM, eCB, eFn, eAndV, eOrV, eNotV, cAnd, cOr, cNot, cB, cTru, cYes, mName, mNames, wipeM, mTup, mSub, eFrz, eAppend, eSlice, oNone, oSome, eChain, eLcG, finD, finM, iRange1, iRange2, iZip2, iSeq, bInt, bIntC, bCmp, bMulX, bAddM, eIsi, isTy, bAdd, bNeg, bIs, bIsN, isNone, bEq, bNe, bRepr, bLen, bIntOf, b2Int, bTuple, bList, bListM, bAll, bAny, tupOf, datOf, truV, okOf, bIx_tup, bIx_lst, bIx_set, lenV_set, ixN_21, ixN_20, set_1, sset_same, sset_sset, MO.lst.injEq, lenV_tup, lenV_lst, atI_0, atI_1, atI_2, atI_3, atI_4, lstOf, allD, allD_map, ex_eq_and, ex_eq_and', List.map_cons, List.map_nil, List.length_cons, List.length_nil, List.replicate, List.cons_append, List.nil_append, List.getElem?_cons_zero, List.getElem?_cons_succ, Option.some.injEq, Option.map_some, List.set, List.cons.injEq, and_true, true_and, MV.d.injEq, MV.m.injEq, PyData.int.injEq, PyData.bool.injEq, PyData.str.injEq, PyData.tuple.injEq, PyData.list.injEq, exists_and_left, exists_and_right, exists_eq_left', exists_eq_left, exists_eq_right, exists_eq', Nat.reduceAdd, Nat.reduceSub, Nat.reduceLT, Nat.reduceLeDiff, decide_eq_true_eq, Bool.not_eq_true', decide_eq_false_iff_not, reduceCtorEq, if_true, if_false, Bool.false_eq_true, ite_true, ite_false, not_true_eq_false, not_false_eq_true, Bool.not_true, Bool.not_false, reduceIte, and_self, or_true, true_or, or_false, false_or, and_false, false_and]
    refine ⟨Nat.zero_le _, fun p np => ?_⟩
    have ap : a ≠ p := fun z => by rw [← z, f1] at np; cases np
    have bp : bA ≠ p := fun z => by rw [← z, f2] at np; cases np
    have f3 : sset S2 p (.lst []) a = some (.ins κ.Disk (dfs (.m bA) (.m wA) (.d (.int d.cuts)) (lfM d.left) tt)) := by rw [sset_ne ap]; exact f1
    simp only [f3, df1, df2, df3, df4, df5, dp2, dp3, dp4, dp5, dfl, MO.ins.injEq, eFld, cFld, cFldAug, eMeth, cRaiseF, cRaiseT, exists_eq_left, and_assoc, fnM, cNext, cSeq, cBrk, cCont, cDrop, cRet, cRetN, cIf, cNever, cAsg, cPar, cPar3, cAug, cFor, eC, eVar, eOp, eUn, eIf, aNil, aCons, eTup, eLst, eLstM, eCB, eFn, eAndV, eOrV, eNotV, cAnd, cOr, cNot, cB, cTru, cYes, mName, mNames, wipeM, mTup, mSub, eFrz, eAppend, eSlice, oNone, oSome, eChain, eLcG, finD, finM, iRange1, iRange2, iZip2, iSeq, bInt, bIntC, bCmp, bMulX, bAddM, eIsi, isTy, bAdd, bNeg, bIs, bIsN, isNone, bEq, bNe, bRepr, bLen, bIntOf, b2Int, bTuple, bList, bListM, bAll, bAny, tupOf, datOf, truV, okOf, bIx_tup, bIx_lst, bIx_set, lenV_set, ixN_21, ixN_20, set_1, sset_same, sset_sset, MO.lst.injEq, lenV_tup, lenV_lst, atI_0, atI_1, atI_2, atI_3, atI_4, lstOf, allD, allD_map, ex_eq_and, ex_eq_and', List.map_cons, List.map_nil, List.length_cons, List.length_nil, List.replicate, List.cons_append, List.nil_append, List.getElem?_cons_zero, List.getElem?_cons_succ, Option.some.injEq, Option.map_some, List.set, List.cons.injEq, and_true, true_and, MV.d.injEq, MV.m.injEq, PyData.int.injEq, PyData.bool.injEq, PyData.str.injEq, PyData.tuple.injEq, PyData.list.injEq, exists_and_left, exists_and_right, exists_eq_left', exists_eq_left, exists_eq_right, exists_eq', Nat.reduceAdd, Nat.reduceSub, Nat.reduceLT, Nat.reduceLeDiff, decide_eq_true_eq, Bool.not_eq_true', decide_eq_false_iff_not, reduceCtorEq, if_true, if_false, Bool.false_eq_true, ite_true, ite_false, not_true_eq_false, not_false_eq_true, Bool.not_true, Bool.not_false, reduceIte, and_self, or_true, true_or, or_false, false_or, and_false, false_and]
    refine q _ [a, bA, p] ⟨fun c o hc e => ?_, fun c hc => ?_⟩ ⟨bA, p, tt, rfl, n1, ap, bp, sset_same, by rw [sset_ne n1.symm, sset_ne bp]; exact f2, by rw [sset_ne ap.symm, sset_same]; rfl, ⟨by rw [cutB_len]; exact g.n0, by rw [cutB_len]; exact g.n1, cutB_byt _ _ _ g.bs g.ps ht, fun e he => (nomatch he), Nat.zero_le _⟩, gl⟩
    · simp only [List.mem_cons, List.not_mem_nil, or_false, not_or] at hc
      have hp : c ≠ p := fun z => by rw [z, fr p np] at e; cases e
      rw [sset_ne hc.1, sset_ne hp]
      exact k2 c o hc.2.1 e
    · simp only [List.mem_cons, List.not_mem_nil, or_false] at hc
      rcases hc with rfl | rfl | rfl
      · exact .inl (by simp)
      · exact .inl (by simp)
      · exact .inr (fr _ np)
theorem disk_in (h : DiskOk κ S a d F) : a ∈ F := by
  obtain ⟨bA, wA, tt, rfl, _⟩ := h
  exact List.mem_cons_self
theorem ext_new {p : Addr} {o : MO} (np : S p = none) : Ext S F (sset S p o) F := ⟨fun c u _ e => by
    have ne : c ≠ p := fun z => by rw [z, np] at e; cases e
    rw [sset_ne ne]; exact e, fun _ hc => .inl hc⟩
theorem ext_own {o : MO} (ha : a ∈ F) : Ext S F (sset S a o) F := ⟨fun c u hc e => by
    have ne : c ≠ a := fun z => hc (z ▸ ha)
    rw [sset_ne ne]; exact e, fun _ hc => .inl hc⟩
theorem neg_list (t : List Int) (n : Nat) : (t.map fun i => PyData.int i) ++ (List.replicate n [PyData.int 0]).flatten = (t ++ List.replicate n 0).map .int := by
  rw [rep_zero, List.map_append]
theorem w_cutG {r : MV} {t : List Int} (h : DiskOk κ S a d F) (hr : IsSq S r t) (htl : t.length ≤ 1000) (q1 : ¬ TornOk t → X (.fd κ.OutOfRange [("name", .str "torn")]) S)
    (q : TornOk t → ∀ S' F', Ext S F S' F' → DiskOk κ S' a ⟨cutB d.bs d.ps t, [], d.cuts + 1, none, []⟩ F' → Q (.d .none) S') : m_Disk_cut_power κ [.m a, r] S Q X := by
  simp only [m_Disk_cut_power, c_Disk_cut_power, c_Disk_cut_power_1, fnM, cNext, cSeq, cBrk, cCont, cDrop, cRet, cRetN, cIf, cNever, cAsg, cPar, cPar3, cAug, cFor, eC, eVar, eOp, eUn, eIf, aNil, aCons, eTup, eLst, eLstM, eCB, eFn, eAndV, eOrV, eNotV, cAnd, cOr, cNot, cB, cTru, cYes, mName, mNames, wipeM, mTup, mSub, eFrz, eAppend, eSlice, oNone, oSome, eChain, eLcG, finD, finM, iRange1, iRange2, iZip2, iSeq, bInt, bIntC, bCmp, bMulX, bAddM, eIsi, isTy, bAdd, bNeg, bIs, bIsN, isNone, bEq, bNe, bRepr, bLen, bIntOf, b2Int, bTuple, bList, bListM, bAll, bAny, tupOf, datOf, truV, okOf, bIx_tup, bIx_lst, bIx_set, lenV_set, ixN_21, ixN_20, set_1, sset_same, sset_sset, MO.lst.injEq, lenV_tup, lenV_lst, atI_0, atI_1, atI_2, atI_3, atI_4, lstOf, allD, allD_map, ex_eq_and, ex_eq_and', List.map_cons, List.map_nil, List.length_cons, List.length_nil, List.replicate, List.cons_append, List.nil_append, List.getElem?_cons_zero, List.getElem?_cons_succ, Option.some.injEq, Option.map_some, List.set, List.cons.injEq, and_true, true_and, MV.d.injEq, MV.m.injEq, PyData.int.injEq, PyData.bool.injEq, PyData.str.injEq, PyData.tuple.injEq, PyData.list.injEq, exists_and_left, exists_and_right, exists_eq_left', exists_eq_left, exists_eq_right, exists_eq', Nat.reduceAdd, Nat.reduceSub, Nat.reduceLT, Nat.reduceLeDiff, decide_eq_true_eq, Bool.not_eq_true', decide_eq_false_iff_not, reduceCtorEq, if_true, if_false, Bool.false_eq_true, ite_true, ite_false, not_true_eq_false, not_false_eq_true, Bool.not_true, Bool.not_false, reduceIte, and_self, or_true, true_or, or_false, false_or, and_false, false_and]
  refine w_check_torn hr (by omega) q1 fun ht => ?_
  have q := q ht
  have h0 := h
  obtain ⟨bA, wA, tt, eF, n1, n2, n3, e1, e2, e3, g, gl⟩ := h0
  have hp := g.pl
  simp only [c_Disk_cut_power_2, df1, df2, df3, df4, df5, dp2, dp3, dp4, dp5, dfl, MO.ins.injEq, eFld, cFld, cFldAug, eMeth, cRaiseF, cRaiseT, exists_eq_left, and_assoc, e1, lenV_m e3, sq_len hr, List.length_map, fnM, cNext, cSeq, cBrk, cCont, cDrop, cRet, cRetN, cIf, cNever, cAsg, cPar, cPar3, cAug, cFor, eC, eVar, eOp, eUn, eIf, aNil, aCons, eTup, eLst, eLstM, eCB, eFn, eAndV, eOrV, eNotV, cAnd, cOr, cNot, cB, cTru, cYes, mName, mNames, wipeM, mTup, mSub, eFrz, eAppend, eSlice, oNone, oSome, eChain, eLcG, finD, finM, iRange1, iRange2, iZip2, iSeq, bInt, bIntC, bCmp, bMulX, bAddM, eIsi, isTy, bAdd, bNeg, bIs, bIsN, isNone, bEq, bNe, bRepr, bLen, bIntOf, b2Int, bTuple, bList, bListM, bAll, bAny, tupOf, datOf, truV, okOf, bIx_tup, bIx_lst, bIx_set, lenV_set, ixN_21, ixN_20, set_1, sset_same, sset_sset, MO.lst.injEq, lenV_tup, lenV_lst, atI_0, atI_1, atI_2, atI_3, atI_4, lstOf, allD, allD_map, ex_eq_and, ex_eq_and', List.map_cons, List.map_nil, List.length_cons, List.length_nil, List.replicate, List.cons_append, List.nil_append, List.getElem?_cons_zero, List.getElem?_cons_succ, Option.some.injEq, Option.map_some, List.set, List.cons.injEq, and_true, true_and, MV.d.injEq, MV.m.injEq, PyData.int.injEq, PyData.bool.injEq, PyData.str.injEq, PyData.tuple.injEq, PyData.list.injEq, exists_and_left, exists_and_right, exists_eq_left', exists_eq_left, exists_eq_right, exists_eq', Nat.reduceAdd, Nat.reduceSub, Nat.reduceLT, Nat.reduceLeDiff, decide_eq_true_eq, Bool.not_eq_true', decide_eq_false_iff_not, reduceCtorEq, if_true, if_false, Bool.false_eq_true, ite_true, ite_false, not_true_eq_false, not_false_eq_true, Bool.not_true, Bool.not_false, reduceIte, and_self, or_true, true_or, or_false, false_or, and_false, false_and]
  have m1 : (dfs (.m bA) (.m wA) (.d (.int d.cuts)) (lfM d.left) tt).lookup ("store" : Str) = none := rfl
  simp only [c_Disk_cut_power_3, df1, df2, df3, df4, df5, dp2, dp3, dp4, dp5, dfl, MO.ins.injEq, eFld, cFld, cFldAug, eMeth, cRaiseF, cRaiseT, exists_eq_left, and_assoc, e1, m1, bList, bRepN, fnM, cNext, cSeq, cBrk, cCont, cDrop, cRet, cRetN, cIf, cNever, cAsg, cPar, cPar3, cAug, cFor, eC, eVar, eOp, eUn, eIf, aNil, aCons, eTup, eLst, eLstM, eCB, eFn, eAndV, eOrV, eNotV, cAnd, cOr, cNot, cB, cTru, cYes, mName, mNames, wipeM, mTup, mSub, eFrz, eAppend, eSlice, oNone, oSome, eChain, eLcG, finD, finM, iRange1, iRange2, iZip2, iSeq, bInt, bIntC, bCmp, bMulX, bAddM, eIsi, isTy, bAdd, bNeg, bIs, bIsN, isNone, bEq, bNe, bRepr, bLen, bIntOf, b2Int, bTuple, bList, bListM, bAll, bAny, tupOf, datOf, truV, okOf, bIx_tup, bIx_lst, bIx_set, lenV_set, ixN_21, ixN_20, set_1, sset_same, sset_sset, MO.lst.injEq, lenV_tup, lenV_lst, atI_0, atI_1, atI_2, atI_3, atI_4, lstOf, allD, allD_map, ex_eq_and, ex_eq_and', List.map_cons, List.map_nil, List.length_cons, List.length_nil, List.replicate, List.cons_append, List.nil_append, List.getElem?_cons_zero, List.getElem?_cons_succ, Option.some.injEq, Option.map_some, List.set, List.cons.injEq, and_true, true_and, MV.d.injEq, MV.m.injEq, PyData.int.injEq, PyData.bool.injEq, PyData.str.injEq, PyData.tuple.injEq, PyData.list.injEq, exists_and_left, exists_and_right, exists_eq_left', exists_eq_left, exists_eq_right, exists_eq', Nat.reduceAdd, Nat.reduceSub, Nat.reduceLT, Nat.reduceLeDiff, decide_eq_true_eq, Bool.not_eq_true', decide_eq_false_iff_not, reduceCtorEq, if_true, if_false, Bool.false_eq_true, ite_true, ite_false, not_true_eq_false, not_false_eq_true, Bool.not_true, Bool.not_false, reduceIte, and_self, or_true, true_or, or_false, false_or, and_false, false_and]
  refine ⟨_, hr, _, allD_of (fun i : Int => PyData.int i) t, by decide, fun p np => ⟨by omega, by omega, ?_⟩⟩
  obtain ⟨z, ez⟩ : ∃ z : Nat, z = ((d.ps.length : Int) - (t.length : Int)).toNat := ⟨_, rfl⟩
  rw [← ez]
  have hz : z ≤ 100000 := by omega
  have lz : ((List.replicate z [PyData.int 0]).flatten).length = z := by rw [rep_zero, List.length_map, List.length_replicate]
  refine ⟨by simp only [List.length_map]; rw [lz]; exact Nat.le_trans (show t.length + z ≤ 101000 by omega) (by decide), (t ++ List.replicate z 0).map .int, ?_, ?_⟩
  · rw [← List.map_append, neg_list]
    exact allD_map _
  refine w_store (X := noX) (disk_new h np) (fun x hx => ?_) fun S2 F2 x2 h2 => ?_
  · rcases List.mem_append.mp hx with hx | hx
    · exact ht x hx
    · rw [List.eq_of_mem_replicate hx]; decide
  have x2' := (ext_new (F := F) (o := MO.lst [.d (.int 0)]) np).tr x2
  rw [cutB_zeros] at h2
  have hF2 := disk_in h2
  obtain ⟨bA', wA', tt', eF', n1', n2', n3', e1', e2', e3', g', gl'⟩ := h2
  simp only [c_Disk_cut_power_4, df1, df2, df3, df4, df5, dp2, dp3, dp4, dp5, dfl, MO.ins.injEq, eFld, cFld, cFldAug, eMeth, cRaiseF, cRaiseT, exists_eq_left, and_assoc, e1', fnM, cNext, cSeq, cBrk, cCont, cDrop, cRet, cRetN, cIf, cNever, cAsg, cPar, cPar3, cAug, cFor, eC, eVar, eOp, eUn, eIf, aNil, aCons, eTup, eLst, eLstM, eCB, eFn, eAndV, eOrV, eNotV, cAnd, cOr, cNot, cB, cTru, cYes, mName, mNames, wipeM, mTup, mSub, eFrz, eAppend, eSlice, oNone, oSome, eChain, eLcG, finD, finM, iRange1, iRange2, iZip2, iSeq, bInt, bIntC, bCmp, bMulX, bAddM, eIsi, isTy, bAdd, bNeg, bIs, bIsN, isNone, bEq, bNe, bRepr, bLen, bIntOf, b2Int, bTuple, bList, bListM, bAll, bAny, tupOf, datOf, truV, okOf, bIx_tup, bIx_lst, bIx_set, lenV_set, ixN_21, ixN_20, set_1, sset_same, sset_sset, MO.lst.injEq, lenV_tup, lenV_lst, atI_0, atI_1, atI_2, atI_3, atI_4, lstOf, allD, allD_map, ex_eq_and, ex_eq_and', List.map_cons, List.map_nil, List.length_cons, List.length_nil, List.replicate, List.cons_append, List.nil_append, List.getElem?_cons_zero, List.getElem?_cons_succ, Option.some.injEq, Option.map_some, List.set, List.cons.injEq, and_true, true_and, MV.d.injEq, MV.m.injEq, PyData.int.injEq, PyData.bool.injEq, PyData.str.injEq, PyData.tuple.injEq, PyData.list.injEq, exists_and_left, exists_and_right, exists_eq_left', exists_eq_left, exists_eq_right, exists_eq', Nat.reduceAdd, Nat.reduceSub, Nat.reduceLT, Nat.reduceLeDiff, decide_eq_true_eq, Bool.not_eq_true', decide_eq_false_iff_not, reduceCtorEq, if_true, if_false, Bool.false_eq_true, ite_true, ite_false, not_true_eq_false, not_false_eq_true, Bool.not_true, Bool.not_false, reduceIte, and_self, or_true, true_or, or_false, false_or, and_false, false_and]
  have e4 : (sset S2 a (.ins κ.Disk (dfs (.m bA') (.m wA') (.d (.int ((d.cuts : Int) + 1))) (lfM d.left) tt'))) a = some (.ins κ.Disk (dfs (.m bA') (.m wA') (.d (.int ((d.cuts : Int) + 1))) (lfM d.left) tt')) := sset_same
  simp only [c_Disk_cut_power_5, df1, df2, df3, df4, df5, dp2, dp3, dp4, dp5, dfl, MO.ins.injEq, eFld, cFld, cFldAug, eMeth, cRaiseF, cRaiseT, exists_eq_left, and_assoc, e4, sset_sset, fnM, cNext, cSeq, cBrk, cCont, cDrop, cRet, cRetN, cIf, cNever, cAsg, cPar, cPar3, cAug, cFor, eC, eVar, eOp, eUn, eIf, aNil, aCons, eTup, eLst, eLstM, eCB, eFn, eAndV, eOrV, eNotV, cAnd, cOr, cNot, cB, cTru, cYes, mName, mNames, wipeM, mTup, mSub, eFrz, eAppend, eSlice, oNone, oSome, eChain, eLcG, finD, finM, iRange1, iRange2, iZip2, iSeq, bInt, bIntC, bCmp, bMulX, bAddM, eIsi, isTy, bAdd, bNeg, bIs, bIsN, isNone, bEq, bNe, bRepr, bLen, bIntOf, b2Int, bTuple, bList, bListM, bAll, bAny, tupOf, datOf, truV, okOf, bIx_tup, bIx_lst, bIx_set, lenV_set, ixN_21, ixN_20, set_1, sset_same, sset_sset, MO.lst.injEq, lenV_tup, lenV_lst, atI_0, atI_1, atI_2, atI_3, atI_4, lstOf, allD, allD_map, ex_eq_and, ex_eq_and', List.map_cons, List.map_nil, List.length_cons, List.length_nil, List.replicate, List.cons_append, List.nil_append, List.getElem?_cons_zero, List.getElem?_cons_succ, Option.some.injEq, Option.map_some, List.set, List.cons.injEq, and_true, true_and, MV.d.injEq, MV.m.injEq, PyData.int.injEq, PyData.bool.injEq, PyData.str.injEq, PyData.tuple.injEq, PyData.list.injEq, exists_and_left, exists_and_right, exists_eq_left', exists_eq_left, exists_eq_right, exists_eq', Nat.reduceAdd, Nat.reduceSub, Nat.reduceLT, Nat.reduceLeDiff, decide_eq_true_eq, Bool.not_eq_true', decide_eq_false_iff_not, reduceCtorEq, if_true, if_false, Bool.false_eq_true, ite_true, ite_false, not_true_eq_false, not_false_eq_true, Bool.not_true, Bool.not_false, reduceIte, and_self, or_true, true_or, or_false, false_or, and_false, false_and]
  refine q _ F2 (x2'.tr (ext_own hF2)) ⟨bA', wA', tt', eF', n1', n2', n3', ?_, ?_, ?_, ⟨g'.n0, g'.n1, g'.bs, g'.ps, g'.pl⟩, fun z => absurd rfl z⟩
  · rw [sset_same]
    rfl
  · rw [sset_ne n1'.symm]
    exact e2'
  · rw [sset_ne n2'.symm]
    exact e3'
/-- the schedule behind one more write or flush -/
def tick : Option Nat → Option Nat
  | some (k + 1) => some k
  | x => x
theorem w_count_down (h : DiskOk κ S a d F) (q3 : d.left = some 0 → ∀ S' F', Ext S F S' F' → DiskOk κ S' a ⟨cutB d.bs d.ps d.torn, [], d.cuts + 1, none, []⟩ F' → X (.pl κ.PowerCut) S')
    (q : d.left ≠ some 0 → ∀ S', Ext S F S' F → DiskOk κ S' a { d with left := tick d.left } F → Q (.d .none) S') : m_Disk_count_down κ [.m a] S Q X := by
  have h0 := h
  obtain ⟨bA, wA, tt, eF, n1, n2, n3, e1, e2, e3, g, gl⟩ := h0
  have hF := disk_in h
  simp only [m_Disk_count_down, c_Disk_count_down, c_Disk_count_down_1, df1, df2, df3, df4, df5, dp2, dp3, dp4, dp5, dfl, MO.ins.injEq, eFld, cFld, cFldAug, eMeth, cRaiseF, cRaiseT, exists_eq_left, and_assoc, e1, fnM, cNext, cSeq, cBrk, cCont, cDrop, cRet, cRetN, cIf, cNever, cAsg, cPar, cPar3, cAug, cFor, eC, eVar, eOp, eUn, eIf, aNil, aCons, eTup, eLst, eLstM, eCB, eFn, eAndV, eOrV, eNotV, cAnd, cOr, cNot, cB, cTru, cYes, mName, mNames, wipeM, mTup, mSub, eFrz, eAppend, eSlice, oNone, oSome, eChain, eLcG, finD, finM, iRange1, iRange2, iZip2, iSeq, bInt, bIntC, bCmp, bMulX, bAddM, eIsi, isTy, bNeg, bIsN, bRepr, bLen, bIntOf, b2Int, bTuple, bList, bListM, bAll, bAny, tupOf, datOf, truV, okOf, bIx_tup, bIx_lst, bIx_set, lenV_set, ixN_21, ixN_20, set_1, sset_same, sset_sset, MO.lst.injEq, lenV_tup, lenV_lst, atI_0, atI_1, atI_2, atI_3, atI_4, lstOf, allD, allD_map, ex_eq_and, ex_eq_and', List.map_cons, List.map_nil, List.length_cons, List.length_nil, List.cons_append, List.nil_append, List.getElem?_cons_zero, List.getElem?_cons_succ, Option.some.injEq, Option.map_some, List.set, List.cons.injEq, and_true, true_and, MV.d.injEq, MV.m.injEq, PyData.int.injEq, PyData.bool.injEq, PyData.str.injEq, PyData.tuple.injEq, PyData.list.injEq, exists_and_left, exists_and_right, exists_eq_left', exists_eq_left, exists_eq_right, exists_eq', Nat.reduceAdd, Nat.reduceSub, Nat.reduceLT, Nat.reduceLeDiff, decide_eq_true_eq, Bool.not_eq_true', decide_eq_false_iff_not, reduceCtorEq, if_true, if_false, Bool.false_eq_true, ite_true, ite_false, not_true_eq_false, not_false_eq_true, Bool.not_true, Bool.not_false, reduceIte, and_self, or_true, true_or, or_false, false_or, and_false, false_and]
  have m1 : (dfs (.m bA) (.m wA) (.d (.int d.cuts)) (lfM d.left) tt).lookup ("cut_power" : Str) = none := rfl
  cases hl : d.left with
  | none =>
    refine bEq_dd (x := .none) (y := .int 0) rfl rfl ?_
    rw [show PyData.eqv .none (.int 0) = false by simp [PyData.eqv]]
    refine ⟨false, rfl, ?_⟩
    rw [if_neg Bool.false_ne_true]
    have e1' := e1
    rw [hl] at e1'
    simp only [c_Disk_count_down_4, df1, df2, df3, df4, df5, dp2, dp3, dp4, dp5, dfl, MO.ins.injEq, eFld, cFld, cFldAug, eMeth, cRaiseF, cRaiseT, exists_eq_left, and_assoc, e1', bIsN, isNone, lfM, fnM, cNext, cSeq, cBrk, cCont, cDrop, cRet, cRetN, cIf, cNever, cAsg, cPar, cPar3, cAug, cFor, eC, eVar, eOp, eUn, eIf, aNil, aCons, eTup, eLst, eLstM, eCB, eFn, eAndV, eOrV, eNotV, cAnd, cOr, cNot, cB, cTru, cYes, mName, mNames, wipeM, mTup, mSub, eFrz, eAppend, eSlice, oNone, oSome, eChain, eLcG, finD, finM, iRange1, iRange2, iZip2, iSeq, bInt, bIntC, bCmp, bMulX, bAddM, eIsi, isTy, bNeg, bIsN, bRepr, bLen, bIntOf, b2Int, bTuple, bList, bListM, bAll, bAny, tupOf, datOf, truV, okOf, bIx_tup, bIx_lst, bIx_set, lenV_set, ixN_21, ixN_20, set_1, sset_same, sset_sset, MO.lst.injEq, lenV_tup, lenV_lst, atI_0, atI_1, atI_2, atI_3, atI_4, lstOf, allD, allD_map, ex_eq_and, ex_eq_and', List.map_cons, List.map_nil, List.length_cons, List.length_nil, List.cons_append, List.nil_append, List.getElem?_cons_zero, List.getElem?_cons_succ, Option.some.injEq, Option.map_some, List.set, List.cons.injEq, and_true, true_and, MV.d.injEq, MV.m.injEq, PyData.int.injEq, PyData.bool.injEq, PyData.str.injEq, PyData.tuple.injEq, PyData.list.injEq, exists_and_left, exists_and_right, exists_eq_left', exists_eq_left, exists_eq_right, exists_eq', Nat.reduceAdd, Nat.reduceSub, Nat.reduceLT, Nat.reduceLeDiff, decide_eq_true_eq, Bool.not_eq_true', decide_eq_false_iff_not, reduceCtorEq, if_true, if_false, Bool.false_eq_true, ite_true, ite_false, not_true_eq_false, not_false_eq_true, Bool.not_true, Bool.not_false, reduceIte, and_self, or_true, true_or, or_false, false_or, and_false, false_and]
    refine q (by rw [hl]; simp) S Ext.refl ?_
    rw [hl]
    have : ({ d with left := tick none } : DSt) = d := by
      cases d
      simp only at hl
      rw [hl]
      rfl
    rw [this]
    exact h
  | some n =>
    have gl' := gl (by rw [hl]; simp)
    cases n with
    | zero =>
      show bEq (.d (.int 0)) (.d (.int 0)) S _
      rw [eq_ii]
      refine ⟨true, rfl, ?_⟩
      rw [if_pos rfl]
      have e1' := e1
      rw [hl] at e1'
      simp only [c_Disk_count_down_2, df1, df2, df3, df4, df5, dp2, dp3, dp4, dp5, dfl, MO.ins.injEq, eFld, cFld, cFldAug, eMeth, cRaiseF, cRaiseT, exists_eq_left, and_assoc, e1', gl'.1, fnM, cNext, cSeq, cBrk, cCont, cDrop, cRet, cRetN, cIf, cNever, cAsg, cPar, cPar3, cAug, cFor, eC, eVar, eOp, eUn, eIf, aNil, aCons, eTup, eLst, eLstM, eCB, eFn, eAndV, eOrV, eNotV, cAnd, cOr, cNot, cB, cTru, cYes, mName, mNames, wipeM, mTup, mSub, eFrz, eAppend, eSlice, oNone, oSome, eChain, eLcG, finD, finM, iRange1, iRange2, iZip2, iSeq, bInt, bIntC, bCmp, bMulX, bAddM, eIsi, isTy, bNeg, bIsN, bRepr, bLen, bIntOf, b2Int, bTuple, bList, bListM, bAll, bAny, tupOf, datOf, truV, okOf, bIx_tup, bIx_lst, bIx_set, lenV_set, ixN_21, ixN_20, set_1, sset_same, sset_sset, MO.lst.injEq, lenV_tup, lenV_lst, atI_0, atI_1, atI_2, atI_3, atI_4, lstOf, allD, allD_map, ex_eq_and, ex_eq_and', List.map_cons, List.map_nil, List.length_cons, List.length_nil, List.cons_append, List.nil_append, List.getElem?_cons_zero, List.getElem?_cons_succ, Option.some.injEq, Option.map_some, List.set, List.cons.injEq, and_true, true_and, MV.d.injEq, MV.m.injEq, PyData.int.injEq, PyData.bool.injEq, PyData.str.injEq, PyData.tuple.injEq, PyData.list.injEq, exists_and_left, exists_and_right, exists_eq_left', exists_eq_left, exists_eq_right, exists_eq', Nat.reduceAdd, Nat.reduceSub, Nat.reduceLT, Nat.reduceLeDiff, decide_eq_true_eq, Bool.not_eq_true', decide_eq_false_iff_not, reduceCtorEq, if_true, if_false, Bool.false_eq_true, ite_true, ite_false, not_true_eq_false, not_false_eq_true, Bool.not_true, Bool.not_false, reduceIte, and_self, or_true, true_or, or_false, false_or, and_false, false_and]
      refine ⟨rfl, ?_⟩
      refine w_cutG h (sq_tup S d.torn) gl'.2.2 (fun z => absurd gl'.2.1 z) fun _ S2 F2 x2 h2 => ?_
      simp only [c_Disk_count_down_3, df1, df2, df3, df4, df5, dp2, dp3, dp4, dp5, dfl, MO.ins.injEq, eFld, cFld, cFldAug, eMeth, cRaiseF, cRaiseT, exists_eq_left, and_assoc, fnM, cNext, cSeq, cBrk, cCont, cDrop, cRet, cRetN, cIf, cNever, cAsg, cPar, cPar3, cAug, cFor, eC, eVar, eOp, eUn, eIf, aNil, aCons, eTup, eLst, eLstM, eCB, eFn, eAndV, eOrV, eNotV, cAnd, cOr, cNot, cB, cTru, cYes, mName, mNames, wipeM, mTup, mSub, eFrz, eAppend, eSlice, oNone, oSome, eChain, eLcG, finD, finM, iRange1, iRange2, iZip2, iSeq, bInt, bIntC, bCmp, bMulX, bAddM, eIsi, isTy, bNeg, bIsN, bRepr, bLen, bIntOf, b2Int, bTuple, bList, bListM, bAll, bAny, tupOf, datOf, truV, okOf, bIx_tup, bIx_lst, bIx_set, lenV_set, ixN_21, ixN_20, set_1, sset_same, sset_sset, MO.lst.injEq, lenV_tup, lenV_lst, atI_0, atI_1, atI_2, atI_3, atI_4, lstOf, allD, allD_map, ex_eq_and, ex_eq_and', List.map_cons, List.map_nil, List.length_cons, List.length_nil, List.cons_append, List.nil_append, List.getElem?_cons_zero, List.getElem?_cons_succ, Option.some.injEq, Option.map_some, List.set, List.cons.injEq, and_true, true_and, MV.d.injEq, MV.m.injEq, PyData.int.injEq, PyData.bool.injEq, PyData.str.injEq, PyData.tuple.injEq, PyData.list.injEq, exists_and_left, exists_and_right, exists_eq_left', exists_eq_left, exists_eq_right, exists_eq', Nat.reduceAdd, Nat.reduceSub, Nat.reduceLT, Nat.reduceLeDiff, decide_eq_true_eq, Bool.not_eq_true', decide_eq_false_iff_not, reduceCtorEq, if_true, if_false, Bool.false_eq_true, ite_true, ite_false, not_true_eq_false, not_false_eq_true, Bool.not_true, Bool.not_false, reduceIte, and_self, or_true, true_or, or_false, false_or, and_false, false_and]
      exact q3 hl S2 F2 x2 h2
    | succ n =>
      show bEq (.d (.int ((n + 1 : Nat) : Int))) (.d (.int 0)) S _
      rw [eq_ii, decide_eq_false (by omega)]
      refine ⟨false, rfl, ?_⟩
      rw [if_neg Bool.false_ne_true]
      have e1' := e1
      rw [hl] at e1'
      simp only [c_Disk_count_down_4, c_Disk_count_down_5, df1, df2, df3, df4, df5, dp2, dp3, dp4, dp5, dfl, MO.ins.injEq, eFld, cFld, cFldAug, eMeth, cRaiseF, cRaiseT, exists_eq_left, and_assoc, e1', bIsN, isNone, lfM, bInt, fnM, cNext, cSeq, cBrk, cCont, cDrop, cRet, cRetN, cIf, cNever, cAsg, cPar, cPar3, cAug, cFor, eC, eVar, eOp, eUn, eIf, aNil, aCons, eTup, eLst, eLstM, eCB, eFn, eAndV, eOrV, eNotV, cAnd, cOr, cNot, cB, cTru, cYes, mName, mNames, wipeM, mTup, mSub, eFrz, eAppend, eSlice, oNone, oSome, eChain, eLcG, finD, finM, iRange1, iRange2, iZip2, iSeq, bInt, bIntC, bCmp, bMulX, bAddM, eIsi, isTy, bNeg, bIsN, bRepr, bLen, bIntOf, b2Int, bTuple, bList, bListM, bAll, bAny, tupOf, datOf, truV, okOf, bIx_tup, bIx_lst, bIx_set, lenV_set, ixN_21, ixN_20, set_1, sset_same, sset_sset, MO.lst.injEq, lenV_tup, lenV_lst, atI_0, atI_1, atI_2, atI_3, atI_4, lstOf, allD, allD_map, ex_eq_and, ex_eq_and', List.map_cons, List.map_nil, List.length_cons, List.length_nil, List.cons_append, List.nil_append, List.getElem?_cons_zero, List.getElem?_cons_succ, Option.some.injEq, Option.map_some, List.set, List.cons.injEq, and_true, true_and, MV.d.injEq, MV.m.injEq, PyData.int.injEq, PyData.bool.injEq, PyData.str.injEq, PyData.tuple.injEq, PyData.list.injEq, exists_and_left, exists_and_right, exists_eq_left', exists_eq_left, exists_eq_right, exists_eq', Nat.reduceAdd, Nat.reduceSub, Nat.reduceLT, Nat.reduceLeDiff, decide_eq_true_eq, Bool.not_eq_true', decide_eq_false_iff_not, reduceCtorEq, if_true, if_false, Bool.false_eq_true, ite_true, ite_false, not_true_eq_false, not_false_eq_true, Bool.not_true, Bool.not_false, reduceIte, and_self, or_true, true_or, or_false, false_or, and_false, false_and]
      have ei : (((n + 1 : Nat) : Int) - 1) = (n : Int) := by omega
      rw [ei]
      refine q (by rw [hl]; intro z; cases z) _ (ext_own hF) ?_
      rw [hl]
      exact ⟨bA, wA, tt, eF, n1, n2, n3, sset_same, by rw [sset_ne n1.symm]; exact e2, by rw [sset_ne n2.symm]; exact e3, ⟨g.n0, g.n1, g.bs, g.ps, g.pl⟩, fun _ => gl'⟩
theorem w_writeG {n : Int} {r : MV} {b : List Int} (h : DiskOk κ S a d F) (hp : d.ps.length ≤ 99000) (hr : IsRow S r b) (hb : ∀ x ∈ b, Small x) (hbl : b.length ≤ 1000) (q1 : ¬ (0 ≤ n ∧ n < d.bs.length) → X (.fd κ.OutOfRange [("name", .str "at")]) S)
    (q2 : 0 ≤ n → n < d.bs.length → ¬ Byt b → X (.fd κ.OutOfRange [("name", .str "block")]) S)
    (q3 : 0 ≤ n → n < d.bs.length → Byt b → d.left = some 0 → ∀ S' F', Ext S F S' F' → DiskOk κ S' a ⟨cutB d.bs d.ps d.torn, [], d.cuts + 1, none, []⟩ F' → X (.pl κ.PowerCut) S')
    (q : 0 ≤ n → n < d.bs.length → Byt b → d.left ≠ some 0 → ∀ S' F', Ext S F S' F' → DiskOk κ S' a { d with ps := d.ps ++ [(n.toNat, b)], left := tick d.left } F' → Q (.d .none) S') : m_Disk_write κ [.m a, .d (.int n), r] S Q X := by
  have h0 := h
  obtain ⟨bA, wA, tt, eF, n1, n2, n3, e1, e2, e3, g, gl⟩ := h0
  have lk : ∀ (le : MV) (m : Str), m = "check_at" ∨ m = "count_down" → (dfs (.m bA) (.m wA) (.d (.int d.cuts)) le tt).lookup m = none := fun le m hm => by rcases hm with rfl | rfl <;> rfl
  simp only [m_Disk_write, c_Disk_write, c_Disk_write_1, df1, df2, df3, df4, df5, dp2, dp3, dp4, dp5, dfl, MO.ins.injEq, eFld, cFld, cFldAug, eMeth, cRaiseF, cRaiseT, exists_eq_left, and_assoc, e1, fnM, cNext, cSeq, cBrk, cCont, cDrop, cRet, cRetN, cIf, cNever, cAsg, cPar, cPar3, cAug, cFor, eC, eVar, eOp, eUn, eIf, aNil, aCons, eTup, eLst, eLstM, eCB, eFn, eAndV, eOrV, eNotV, cAnd, cOr, cNot, cB, cTru, cYes, mName, mNames, wipeM, mTup, mSub, eFrz, eAppend, eSlice, oNone, oSome, eChain, eLcG, finD, finM, iRange1, iRange2, iZip2, iSeq, bInt, bIntC, bCmp, bMulX, bAddM, eIsi, isTy, bNeg, bIsN, bRepr, bLen, bIntOf, b2Int, bTuple, bList, bListM, bAll, bAny, tupOf, datOf, truV, okOf, bIx_tup, bIx_lst, bIx_set, lenV_set, ixN_21, ixN_20, set_1, sset_same, sset_sset, MO.lst.injEq, lenV_tup, lenV_lst, atI_0, atI_1, atI_2, atI_3, atI_4, lstOf, allD, allD_map, ex_eq_and, ex_eq_and', List.map_cons, List.map_nil, List.length_cons, List.length_nil, List.cons_append, List.nil_append, List.getElem?_cons_zero, List.getElem?_cons_succ, Option.some.injEq, Option.map_some, List.set, List.cons.injEq, and_true, true_and, MV.d.injEq, MV.m.injEq, PyData.int.injEq, PyData.bool.injEq, PyData.str.injEq, PyData.tuple.injEq, PyData.list.injEq, exists_and_left, exists_and_right, exists_eq_left', exists_eq_left, exists_eq_right, exists_eq', Nat.reduceAdd, Nat.reduceSub, Nat.reduceLT, Nat.reduceLeDiff, decide_eq_true_eq, Bool.not_eq_true', decide_eq_false_iff_not, reduceCtorEq, if_true, if_false, Bool.false_eq_true, ite_true, ite_false, not_true_eq_false, not_false_eq_true, Bool.not_true, Bool.not_false, reduceIte, and_self, or_true, true_or, or_false, false_or, and_false, false_and]
  refine ⟨rfl, w_check_at h q1 fun i0 i1 => ?_⟩
  have q2 := q2 i0 i1
  have q3 := q3 i0 i1
  have q := q i0 i1
  simp only [c_Disk_write_2, fnM, cNext, cSeq, cBrk, cCont, cDrop, cRet, cRetN, cIf, cNever, cAsg, cPar, cPar3, cAug, cFor, eC, eVar, eOp, eUn, eIf, aNil, aCons, eTup, eLst, eLstM, eCB, eFn, eAndV, eOrV, eNotV, cAnd, cOr, cNot, cB, cTru, cYes, mName, mNames, wipeM, mTup, mSub, eFrz, eAppend, eSlice, oNone, oSome, eChain, eLcG, finD, finM, iRange1, iRange2, iZip2, iSeq, bInt, bIntC, bCmp, bMulX, bAddM, eIsi, isTy, bNeg, bIsN, bRepr, bLen, bIntOf, b2Int, bTuple, bList, bListM, bAll, bAny, tupOf, datOf, truV, okOf, bIx_tup, bIx_lst, bIx_set, lenV_set, ixN_21, ixN_20, set_1, sset_same, sset_sset, MO.lst.injEq, lenV_tup, lenV_lst, atI_0, atI_1, atI_2, atI_3, atI_4, lstOf, allD, allD_map, ex_eq_and, ex_eq_and', List.map_cons, List.map_nil, List.length_cons, List.length_nil, List.cons_append, List.nil_append, List.getElem?_cons_zero, List.getElem?_cons_succ, Option.some.injEq, Option.map_some, List.set, List.cons.injEq, and_true, true_and, MV.d.injEq, MV.m.injEq, PyData.int.injEq, PyData.bool.injEq, PyData.str.injEq, PyData.tuple.injEq, PyData.list.injEq, exists_and_left, exists_and_right, exists_eq_left', exists_eq_left, exists_eq_right, exists_eq', Nat.reduceAdd, Nat.reduceSub, Nat.reduceLT, Nat.reduceLeDiff, decide_eq_true_eq, Bool.not_eq_true', decide_eq_false_iff_not, reduceCtorEq, if_true, if_false, Bool.false_eq_true, ite_true, ite_false, not_true_eq_false, not_false_eq_true, Bool.not_true, Bool.not_false, reduceIte, and_self, or_true, true_or, or_false, false_or, and_false, false_and]
  refine w_is_block hr.sq (by omega) fun k hk => ?_
  refine ⟨k, rfl, ?_⟩
  cases k with
  | false =>
    rw [if_pos rfl]
    simp only [c_Disk_write_3, df1, df2, df3, df4, df5, dp2, dp3, dp4, dp5, dfl, MO.ins.injEq, eFld, cFld, cFldAug, eMeth, cRaiseF, cRaiseT, exists_eq_left, and_assoc, fnM, cNext, cSeq, cBrk, cCont, cDrop, cRet, cRetN, cIf, cNever, cAsg, cPar, cPar3, cAug, cFor, eC, eVar, eOp, eUn, eIf, aNil, aCons, eTup, eLst, eLstM, eCB, eFn, eAndV, eOrV, eNotV, cAnd, cOr, cNot, cB, cTru, cYes, mName, mNames, wipeM, mTup, mSub, eFrz, eAppend, eSlice, oNone, oSome, eChain, eLcG, finD, finM, iRange1, iRange2, iZip2, iSeq, bInt, bIntC, bCmp, bMulX, bAddM, eIsi, isTy, bNeg, bIsN, bRepr, bLen, bIntOf, b2Int, bTuple, bList, bListM, bAll, bAny, tupOf, datOf, truV, okOf, bIx_tup, bIx_lst, bIx_set, lenV_set, ixN_21, ixN_20, set_1, sset_same, sset_sset, MO.lst.injEq, lenV_tup, lenV_lst, atI_0, atI_1, atI_2, atI_3, atI_4, lstOf, allD, allD_map, ex_eq_and, ex_eq_and', List.map_cons, List.map_nil, List.length_cons, List.length_nil, List.cons_append, List.nil_append, List.getElem?_cons_zero, List.getElem?_cons_succ, Option.some.injEq, Option.map_some, List.set, List.cons.injEq, and_true, true_and, MV.d.injEq, MV.m.injEq, PyData.int.injEq, PyData.bool.injEq, PyData.str.injEq, PyData.tuple.injEq, PyData.list.injEq, exists_and_left, exists_and_right, exists_eq_left', exists_eq_left, exists_eq_right, exists_eq', Nat.reduceAdd, Nat.reduceSub, Nat.reduceLT, Nat.reduceLeDiff, decide_eq_true_eq, Bool.not_eq_true', decide_eq_false_iff_not, reduceCtorEq, if_true, if_false, Bool.false_eq_true, ite_true, ite_false, not_true_eq_false, not_false_eq_true, Bool.not_true, Bool.not_false, reduceIte, and_self, or_true, true_or, or_false, false_or, and_false, false_and]
    exact ⟨by decide, q2 fun z => nomatch hk.mpr z⟩
  | true =>
  have hB := hk.mp rfl
  have q3 := q3 hB
  have q := q hB
  rw [if_neg (by simp)]
  simp only [c_Disk_write_4, df1, df2, df3, df4, df5, dp2, dp3, dp4, dp5, dfl, MO.ins.injEq, eFld, cFld, cFldAug, eMeth, cRaiseF, cRaiseT, exists_eq_left, and_assoc, e1, fnM, cNext, cSeq, cBrk, cCont, cDrop, cRet, cRetN, cIf, cNever, cAsg, cPar, cPar3, cAug, cFor, eC, eVar, eOp, eUn, eIf, aNil, aCons, eTup, eLst, eLstM, eCB, eFn, eAndV, eOrV, eNotV, cAnd, cOr, cNot, cB, cTru, cYes, mName, mNames, wipeM, mTup, mSub, eFrz, eAppend, eSlice, oNone, oSome, eChain, eLcG, finD, finM, iRange1, iRange2, iZip2, iSeq, bInt, bIntC, bCmp, bMulX, bAddM, eIsi, isTy, bNeg, bIsN, bRepr, bLen, bIntOf, b2Int, bTuple, bList, bListM, bAll, bAny, tupOf, datOf, truV, okOf, bIx_tup, bIx_lst, bIx_set, lenV_set, ixN_21, ixN_20, set_1, sset_same, sset_sset, MO.lst.injEq, lenV_tup, lenV_lst, atI_0, atI_1, atI_2, atI_3, atI_4, lstOf, allD, allD_map, ex_eq_and, ex_eq_and', List.map_cons, List.map_nil, List.length_cons, List.length_nil, List.cons_append, List.nil_append, List.getElem?_cons_zero, List.getElem?_cons_succ, Option.some.injEq, Option.map_some, List.set, List.cons.injEq, and_true, true_and, MV.d.injEq, MV.m.injEq, PyData.int.injEq, PyData.bool.injEq, PyData.str.injEq, PyData.tuple.injEq, PyData.list.injEq, exists_and_left, exists_and_right, exists_eq_left', exists_eq_left, exists_eq_right, exists_eq', Nat.reduceAdd, Nat.reduceSub, Nat.reduceLT, Nat.reduceLeDiff, decide_eq_true_eq, Bool.not_eq_true', decide_eq_false_iff_not, reduceCtorEq, if_true, if_false, Bool.false_eq_true, ite_true, ite_false, not_true_eq_false, not_false_eq_true, Bool.not_true, Bool.not_false, reduceIte, and_self, or_true, true_or, or_false, false_or, and_false, false_and]
  refine ⟨rfl, ?_⟩
  refine w_count_down h q3 fun hl S1 x1 h1 => ?_
  have q := q hl
  have hr1 : IsRow S1 r b := by
    rcases hr with rfl | ⟨c, rfl, e⟩
    · exact .inl rfl
    · refine .inr ⟨c, rfl, x1.keep c _ (fun hc => ?_) e⟩
      obtain ⟨x, b', eb⟩ : ∃ x b', b = x :: b' := by
        cases b with
        | nil => exact absurd hB.1 (by decide)
        | cons x b' => exact ⟨x, b', rfl⟩
      rw [eF] at hc
      simp only [List.mem_cons, List.not_mem_nil, or_false] at hc
      rcases hc with rfl | rfl | rfl
      · rw [e1] at e; cases e
      · rw [e2, eb] at e
        cases hbs : d.bs with
        | nil => rw [hbs] at e; cases e
        | cons y ys => rw [hbs] at e; simp at e
      · rw [e3, eb] at e
        cases hbs : d.ps with
        | nil => rw [hbs] at e; cases e
        | cons y ys => rw [hbs] at e; simp at e
  have F1 := disk_in h1
  obtain ⟨bA', wA', tt', eF', n1', n2', n3', e1', e2', e3', g', gl'⟩ := h1
  have bt : ∀ Q : QE, Q (.d (rowT b)) S1 → bTuple [r] S1 Q := fun Q q => by
    rcases hr1 with rfl | ⟨c, rfl, e⟩
    · exact ⟨_, _, rfl, allD_map _, q⟩
    · exact ⟨_, _, lstOf_m e, allD_of (fun i : Int => PyData.int i) b, q⟩
  simp only at e1' e2' e3' g' gl'
  simp only [c_Disk_write_5, df1, df2, df3, df4, df5, dp2, dp3, dp4, dp5, dfl, MO.ins.injEq, eFld, cFld, cFldAug, eMeth, cRaiseF, cRaiseT, exists_eq_left, and_assoc, e1', e3', fnM, cNext, cSeq, cBrk, cCont, cDrop, cRet, cRetN, cIf, cNever, cAsg, cPar, cPar3, cAug, cFor, eC, eVar, eOp, eUn, eIf, aNil, aCons, eTup, eLst, eLstM, eCB, eFn, eAndV, eOrV, eNotV, cAnd, cOr, cNot, cB, cTru, cYes, mName, mNames, wipeM, mTup, mSub, eFrz, eAppend, eSlice, oNone, oSome, eChain, eLcG, finD, finM, iRange1, iRange2, iZip2, bInt, bIntC, bCmp, bMulX, bAddM, eIsi, isTy, bNeg, bIsN, bRepr, bLen, bIntOf, b2Int, bList, bListM, bAll, bAny, tupOf, datOf, truV, okOf, bIx_tup, bIx_lst, bIx_set, lenV_set, ixN_21, ixN_20, set_1, sset_same, sset_sset, MO.lst.injEq, lenV_tup, lenV_lst, atI_0, atI_1, atI_2, atI_3, atI_4, lstOf, allD, allD_map, ex_eq_and, ex_eq_and', List.map_cons, List.map_nil, List.length_cons, List.length_nil, List.cons_append, List.nil_append, List.getElem?_cons_zero, List.getElem?_cons_succ, Option.some.injEq, Option.map_some, List.set, List.cons.injEq, and_true, true_and, MV.d.injEq, MV.m.injEq, PyData.int.injEq, PyData.bool.injEq, PyData.str.injEq, PyData.tuple.injEq, PyData.list.injEq, exists_and_left, exists_and_right, exists_eq_left', exists_eq_left, exists_eq_right, exists_eq', Nat.reduceAdd, Nat.reduceSub, Nat.reduceLT, Nat.reduceLeDiff, decide_eq_true_eq, Bool.not_eq_true', decide_eq_false_iff_not, reduceCtorEq, if_true, if_false, Bool.false_eq_true, ite_true, ite_false, not_true_eq_false, not_false_eq_true, Bool.not_true, Bool.not_false, reduceIte, and_self, or_true, true_or, or_false, false_or, and_false, false_and]
  refine bt _ ?_
  simp only [e3', fnM, cNext, cSeq, cBrk, cCont, cDrop, cRet, cRetN, cIf, cNever, cAsg, cPar, cPar3, cAug, cFor, eC, eVar, eOp, eUn, eIf, aNil, aCons, eTup, eLst, eLstM, eCB, eFn, eAndV, eOrV, eNotV, cAnd, cOr, cNot, cB, cTru, cYes, mName, mNames, wipeM, mTup, mSub, eFrz, eAppend, eSlice, oNone, oSome, eChain, eLcG, finD, finM, iRange1, iRange2, iZip2, iSeq, bInt, bIntC, bCmp, bMulX, bAddM, eIsi, isTy, bAdd, bNeg, bIs, bIsN, isNone, bEq, bNe, bRepr, bLen, bIntOf, b2Int, bTuple, bList, bListM, bAll, bAny, tupOf, datOf, truV, okOf, bIx_tup, bIx_lst, bIx_set, lenV_set, ixN_21, ixN_20, set_1, sset_same, sset_sset, MO.lst.injEq, lenV_tup, lenV_lst, atI_0, atI_1, atI_2, atI_3, atI_4, lstOf, allD, allD_map, ex_eq_and, ex_eq_and', List.map_cons, List.map_nil, List.length_cons, List.length_nil, List.replicate, List.cons_append, List.nil_append, List.getElem?_cons_zero, List.getElem?_cons_succ, Option.some.injEq, Option.map_some, List.set, List.cons.injEq, and_true, true_and, MV.d.injEq, MV.m.injEq, PyData.int.injEq, PyData.bool.injEq, PyData.str.injEq, PyData.tuple.injEq, PyData.list.injEq, exists_and_left, exists_and_right, exists_eq_left', exists_eq_left, exists_eq_right, exists_eq', Nat.reduceAdd, Nat.reduceSub, Nat.reduceLT, Nat.reduceLeDiff, decide_eq_true_eq, Bool.not_eq_true', decide_eq_false_iff_not, reduceCtorEq, if_true, if_false, Bool.false_eq_true, ite_true, ite_false, not_true_eq_false, not_false_eq_true, Bool.not_true, Bool.not_false, reduceIte, and_self, or_true, true_or, or_false, false_or, and_false, false_and]
  refine ⟨by decide, ?_, ?_⟩
  · rw [List.length_map]
    exact Nat.lt_of_le_of_lt hp (by decide)
  rw [eF] at eF'
  refine q _ F (x1.tr (ext_own (a := wA') (by rw [eF, eF']; simp))) ⟨bA', wA', tt', eF.trans eF', n1', n2', n3', by rw [sset_ne n2']; exact e1', by rw [sset_ne n3']; exact e2', ?_, ⟨g'.n0, g'.n1, g'.bs, fun e he => ?_, ?_⟩, gl'⟩
  · rw [sset_same, List.map_append]
    have en : ((n.toNat : Nat) : Int) = n := Int.toNat_of_nonneg i0
    simp only [List.map_cons, List.map_nil, en]
  · rcases List.mem_append.mp he with he | he
    · exact g'.ps e he
    · rw [List.mem_singleton] at he
      rw [he]
      exact ⟨by show n.toNat < d.bs.length; omega, hB⟩
  · show (d.ps ++ [(n.toNat, b)]).length ≤ 100000
    rw [List.length_append, List.length_singleton]
    omega
theorem w_flushG (h : DiskOk κ S a d F) (q3 : d.left = some 0 → ∀ S' F', Ext S F S' F' → DiskOk κ S' a ⟨cutB d.bs d.ps d.torn, [], d.cuts + 1, none, []⟩ F' → X (.pl κ.PowerCut) S')
    (q : d.left ≠ some 0 → ∀ S' F', Ext S F S' F' → DiskOk κ S' a { d with bs := flushB d.bs d.ps, ps := [], left := tick d.left } F' → Q (.d .none) S') : m_Disk_flush κ [.m a] S Q X := by
  have h0 := h
  obtain ⟨bA, wA, tt, eF, n1, n2, n3, e1, e2, e3, g, gl⟩ := h0
  simp only [m_Disk_flush, c_Disk_flush, c_Disk_flush_1, df1, df2, df3, df4, df5, dp2, dp3, dp4, dp5, dfl, MO.ins.injEq, eFld, cFld, cFldAug, eMeth, cRaiseF, cRaiseT, exists_eq_left, and_assoc, e1, fnM, cNext, cSeq, cBrk, cCont, cDrop, cRet, cRetN, cIf, cNever, cAsg, cPar, cPar3, cAug, cFor, eC, eVar, eOp, eUn, eIf, aNil, aCons, eTup, eLst, eLstM, eCB, eFn, eAndV, eOrV, eNotV, cAnd, cOr, cNot, cB, cTru, cYes, mName, mNames, wipeM, mTup, mSub, eFrz, eAppend, eSlice, oNone, oSome, eChain, eLcG, finD, finM, iRange1, iRange2, iZip2, iSeq, bInt, bIntC, bCmp, bMulX, bAddM, eIsi, isTy, bNeg, bIsN, bRepr, bLen, bIntOf, b2Int, bTuple, bList, bListM, bAll, bAny, tupOf, datOf, truV, okOf, bIx_tup, bIx_lst, bIx_set, lenV_set, ixN_21, ixN_20, set_1, sset_same, sset_sset, MO.lst.injEq, lenV_tup, lenV_lst, atI_0, atI_1, atI_2, atI_3, atI_4, lstOf, allD, allD_map, ex_eq_and, ex_eq_and', List.map_cons, List.map_nil, List.length_cons, List.length_nil, List.cons_append, List.nil_append, List.getElem?_cons_zero, List.getElem?_cons_succ, Option.some.injEq, Option.map_some, List.set, List.cons.injEq, and_true, true_and, MV.d.injEq, MV.m.injEq, PyData.int.injEq, PyData.bool.injEq, PyData.str.injEq, PyData.tuple.injEq, PyData.list.injEq, exists_and_left, exists_and_right, exists_eq_left', exists_eq_left, exists_eq_right, exists_eq', Nat.reduceAdd, Nat.reduceSub, Nat.reduceLT, Nat.reduceLeDiff, decide_eq_true_eq, Bool.not_eq_true', decide_eq_false_iff_not, reduceCtorEq, if_true, if_false, Bool.false_eq_true, ite_true, ite_false, not_true_eq_false, not_false_eq_true, Bool.not_true, Bool.not_false, reduceIte, and_self, or_true, true_or, or_false, false_or, and_false, false_and]
  refine ⟨rfl, w_count_down h q3 fun hl S1 x1 h1 => ?_⟩
  have q := q hl
  have h10 := h1
  obtain ⟨bA', wA', tt', eF', n1', n2', n3', e1', e2', e3', g', gl'⟩ := h10
  simp only at e1' e2' e3' g' gl'
  simp only [c_Disk_flush_2, df1, df2, df3, df4, df5, dp2, dp3, dp4, dp5, dfl, MO.ins.injEq, eFld, cFld, cFldAug, eMeth, cRaiseF, cRaiseT, exists_eq_left, and_assoc, e1', bRepN, lenV_m e3', fnM, cNext, cSeq, cBrk, cCont, cDrop, cRet, cRetN, cIf, cNever, cAsg, cPar, cPar3, cAug, cFor, eC, eVar, eOp, eUn, eIf, aNil, aCons, eTup, eLst, eLstM, eCB, eFn, eAndV, eOrV, eNotV, cAnd, cOr, cNot, cB, cTru, cYes, mName, mNames, wipeM, mTup, mSub, eFrz, eAppend, eSlice, oNone, oSome, eChain, eLcG, finD, finM, iRange1, iRange2, iZip2, iSeq, bInt, bIntC, bCmp, bMulX, bAddM, eIsi, isTy, bNeg, bIsN, bRepr, bLen, bIntOf, b2Int, bTuple, bList, bListM, bAll, bAny, tupOf, datOf, truV, okOf, bIx_tup, bIx_lst, bIx_set, lenV_set, ixN_21, ixN_20, set_1, sset_same, sset_sset, MO.lst.injEq, lenV_tup, lenV_lst, atI_0, atI_1, atI_2, atI_3, atI_4, lstOf, allD, allD_map, ex_eq_and, ex_eq_and', List.map_cons, List.map_nil, List.length_cons, List.length_nil, List.cons_append, List.nil_append, List.getElem?_cons_zero, List.getElem?_cons_succ, Option.some.injEq, Option.map_some, List.set, List.cons.injEq, and_true, true_and, MV.d.injEq, MV.m.injEq, PyData.int.injEq, PyData.bool.injEq, PyData.str.injEq, PyData.tuple.injEq, PyData.list.injEq, exists_and_left, exists_and_right, exists_eq_left', exists_eq_left, exists_eq_right, exists_eq', Nat.reduceAdd, Nat.reduceSub, Nat.reduceLT, Nat.reduceLeDiff, decide_eq_true_eq, Bool.not_eq_true', decide_eq_false_iff_not, reduceCtorEq, if_true, if_false, Bool.false_eq_true, ite_true, ite_false, not_true_eq_false, not_false_eq_true, Bool.not_true, Bool.not_false, reduceIte, and_self, or_true, true_or, or_false, false_or, and_false, false_and]
  refine ⟨rfl, by decide, fun p np => ?_⟩
  have ap : a ≠ p := fun z => by rw [← z, e1'] at np; cases np
  have wp : wA' ≠ p := fun z => by rw [← z, e3'] at np; cases np
  have f1 : sset S1 p (.lst [.d (.int 32)]) a = some (.ins κ.Disk (dfs (.m bA') (.m wA') (.d (.int d.cuts)) (lfM (tick d.left)) tt')) := by rw [sset_ne ap]; exact e1'
  have f3 : sset S1 p (.lst [.d (.int 32)]) wA' = some (.lst (d.ps.map fun e => .d (.tuple [.int e.1, rowT e.2]))) := by rw [sset_ne wp]; exact e3'
  simp only [f1, lenV_m f3, df1, df2, df3, df4, df5, dp2, dp3, dp4, dp5, dfl, MO.ins.injEq, eFld, cFld, cFldAug, eMeth, cRaiseF, cRaiseT, exists_eq_left, and_assoc, fnM, cNext, cSeq, cBrk, cCont, cDrop, cRet, cRetN, cIf, cNever, cAsg, cPar, cPar3, cAug, cFor, eC, eVar, eOp, eUn, eIf, aNil, aCons, eTup, eLst, eLstM, eCB, eFn, eAndV, eOrV, eNotV, cAnd, cOr, cNot, cB, cTru, cYes, mName, mNames, wipeM, mTup, mSub, eFrz, eAppend, eSlice, oNone, oSome, eChain, eLcG, finD, finM, iRange1, iRange2, iZip2, iSeq, bInt, bIntC, bCmp, bMulX, bAddM, eIsi, isTy, bAdd, bNeg, bIs, bIsN, isNone, bEq, bNe, bRepr, bLen, bIntOf, b2Int, bTuple, bList, bListM, bAll, bAny, tupOf, datOf, truV, okOf, bIx_tup, bIx_lst, bIx_set, lenV_set, ixN_21, ixN_20, set_1, sset_same, sset_sset, MO.lst.injEq, lenV_tup, lenV_lst, atI_0, atI_1, atI_2, atI_3, atI_4, lstOf, allD, allD_map, ex_eq_and, ex_eq_and', List.map_cons, List.map_nil, List.length_cons, List.length_nil, List.replicate, List.cons_append, List.nil_append, List.getElem?_cons_zero, List.getElem?_cons_succ, Option.some.injEq, Option.map_some, List.set, List.cons.injEq, and_true, true_and, MV.d.injEq, MV.m.injEq, PyData.int.injEq, PyData.bool.injEq, PyData.str.injEq, PyData.tuple.injEq, PyData.list.injEq, exists_and_left, exists_and_right, exists_eq_left', exists_eq_left, exists_eq_right, exists_eq', Nat.reduceAdd, Nat.reduceSub, Nat.reduceLT, Nat.reduceLeDiff, decide_eq_true_eq, Bool.not_eq_true', decide_eq_false_iff_not, reduceCtorEq, if_true, if_false, Bool.false_eq_true, ite_true, ite_false, not_true_eq_false, not_false_eq_true, Bool.not_true, Bool.not_false, reduceIte, and_self, or_true, true_or, or_false, false_or, and_false, false_and]
  have hpl : d.ps.length ≤ 100000 := g'.pl
  refine ⟨by omega, by rw [List.length_map]; omega, ?_⟩
  have e32 : PyData.list (List.replicate ((((d.ps.map fun e => MV.d (.tuple [.int e.1, rowT e.2])).length : Nat) : Int)).toNat [PyData.int 32]).flatten = rowD (List.replicate d.ps.length 32) := by
    rw [Int.toNat_natCast, List.length_map, rep_sing]
    show PyData.list (List.replicate d.ps.length (PyData.int 32)) = PyData.list ((List.replicate d.ps.length (32 : Int)).map PyData.int)
    rw [List.map_replicate]
  rw [e32]
  refine w_store (X := noX) (disk_new h1 np) (fun x hx => by rw [List.eq_of_mem_replicate hx]; decide) fun S2 F2 x2 h2 => ?_
  rw [cutB_whole _ _ g'.bs g'.ps] at h2
  exact q S2 F2 ((x1.tr (ext_new (F := F) (o := MO.lst [.d (.int 32)]) np)).tr x2) h2
theorem w_write {n : Int} {r : MV} {b : List Int} (h : DiskOk κ S a d F) (hl : d.left = none) (hp : d.ps.length ≤ 1000) (hr : IsRow S r b) (hb : ∀ x ∈ b, Small x) (hbl : b.length ≤ 1000) (q1 : ¬ (0 ≤ n ∧ n < d.bs.length) → X (.fd κ.OutOfRange [("name", .str "at")]) S)
    (q2 : 0 ≤ n → n < d.bs.length → ¬ Byt b → X (.fd κ.OutOfRange [("name", .str "block")]) S)
    (q : 0 ≤ n → n < d.bs.length → Byt b → ∀ S' F', Ext S F S' F' → DiskOk κ S' a { d with ps := d.ps ++ [(n.toNat, b)] } F' → Q (.d .none) S') : m_Disk_write κ [.m a, .d (.int n), r] S Q X :=
  w_writeG h (by omega) hr hb hbl q1 q2 (fun _ _ _ z => by rw [hl] at z; cases z) fun z1 z2 z3 _ S' F' x h' => q z1 z2 z3 S' F' x (by
    have e : tick d.left = d.left := by rw [hl]; rfl
    rw [e] at h'
    exact h')
theorem w_flush (h : DiskOk κ S a d F) (hl : d.left = none) (q : ∀ S' F', Ext S F S' F' → DiskOk κ S' a { d with bs := flushB d.bs d.ps, ps := [] } F' → Q (.d .none) S') : m_Disk_flush κ [.m a] S Q X :=
  w_flushG h (fun z => by rw [hl] at z; cases z) fun _ S' F' x h' => q S' F' x (by
    have e : tick d.left = d.left := by rw [hl]; rfl
    rw [e] at h'
    exact h')
theorem w_cut {r : MV} {t : List Int} (h : DiskOk κ S a d F) (hr : IsRow S r t) (ht : ∀ x ∈ t, Small x) (htl : t.length ≤ 1000) (q1 : ¬ TornOk t → X (.fd κ.OutOfRange [("name", .str "torn")]) S)
    (q : TornOk t → ∀ S' F', Ext S F S' F' → DiskOk κ S' a ⟨cutB d.bs d.ps t, [], d.cuts + 1, none, []⟩ F' → Q (.d .none) S') : m_Disk_cut_power κ [.m a, r] S Q X := w_cutG h hr.sq htl q1 q
theorem read_loop {k : Nat} {D : ME} (h : DiskOk κ S a d F) (hk : k < d.bs.length) (q : ∀ a3 a4, c_Disk_read_6 κ D [some (.m a), some (.d (.int k)), some (.d (rowT (readD d.bs d.ps k))), a3, a4] S) :
    c_Disk_read_3 κ D [some (.m a), some (.d (.int k)), some (.d (rowT (d.bs.getD k []))), none, none] S := by
  obtain ⟨bA, wA, tt, eF, n1, n2, n3, e1, e2, e3, g, gl⟩ := h
  simp only [c_Disk_read_3, df1, df2, df3, df4, df5, dp2, dp3, dp4, dp5, dfl, MO.ins.injEq, eFld, cFld, cFldAug, eMeth, cRaiseF, cRaiseT, exists_eq_left, and_assoc, e1, fnM, cNext, cSeq, cBrk, cCont, cDrop, cRet, cRetN, cIf, cNever, cAsg, cPar, cPar3, cAug, cFor, eC, eVar, eOp, eUn, eIf, aNil, aCons, eTup, eLst, eLstM, eCB, eFn, eAndV, eOrV, eNotV, cAnd, cOr, cNot, cB, cTru, cYes, mName, mNames, wipeM, mTup, mSub, eFrz, eAppend, eSlice, oNone, oSome, eChain, eLcG, finD, finM, iRange1, iRange2, iZip2, iSeq, bInt, bIntC, bCmp, bMulX, bAddM, eIsi, isTy, bNeg, bIsN, bRepr, bLen, bIntOf, b2Int, bTuple, bList, bListM, bAll, bAny, tupOf, datOf, truV, okOf, bIx_tup, bIx_lst, bIx_set, lenV_set, ixN_21, ixN_20, set_1, sset_same, sset_sset, MO.lst.injEq, lenV_tup, lenV_lst, atI_0, atI_1, atI_2, atI_3, atI_4, lstOf, allD, allD_map, ex_eq_and, ex_eq_and', List.map_cons, List.map_nil, List.length_cons, List.length_nil, List.cons_append, List.nil_append, List.getElem?_cons_zero, List.getElem?_cons_succ, Option.some.injEq, Option.map_some, List.set, List.cons.injEq, and_true, true_and, MV.d.injEq, MV.m.injEq, PyData.int.injEq, PyData.bool.injEq, PyData.str.injEq, PyData.tuple.injEq, PyData.list.injEq, exists_and_left, exists_and_right, exists_eq_left', exists_eq_left, exists_eq_right, exists_eq', Nat.reduceAdd, Nat.reduceSub, Nat.reduceLT, Nat.reduceLeDiff, decide_eq_true_eq, Bool.not_eq_true', decide_eq_false_iff_not, reduceCtorEq, if_true, if_false, Bool.false_eq_true, ite_true, ite_false, not_true_eq_false, not_false_eq_true, Bool.not_true, Bool.not_false, reduceIte, and_self, or_true, true_or, or_false, false_or, and_false, false_and]
  obtain ⟨L, eL⟩ : ∃ L, L = d.ps.map (fun e => MV.d (.tuple [.int (e.1 : Int), rowT e.2])) := ⟨_, rfl⟩
  have e3' : S wA = some (.lst L) := by rw [e3, eL]
  refine ⟨L, by show (match S wA with | some (.lst xs) => some xs | _ => none) = _; rw [e3'], fun _ => ?_⟩
  refine forL_inv (fun i ρ S' => S' = S ∧ ∃ a3 a4, ρ = [some (.m a), some (.d (.int k)), some (.d (rowT (readD d.bs (d.ps.take i) k))), a3, a4]) _ 0 _ _ ⟨rfl, _, _, rfl⟩ (fun i ρ S' h => by rw [h.1]; exact e3') ?_ ?_
  · rintro i x ρ S' N ex ⟨rfl, a3, a4, rfl⟩ hN
    rw [Nat.zero_add] at hN ⊢
    rw [eL, List.getElem?_map] at ex
    obtain ⟨e, he, rfl⟩ := Option.map_eq_some_iff.mp ex
    obtain ⟨hj, hget⟩ := List.getElem?_eq_some_iff.mp he
    have et : readD d.bs (d.ps.take (i + 1)) k = if e.1 = k then e.2 else readD d.bs (d.ps.take i) k := by
      have : d.ps.take (i + 1) = d.ps.take i ++ [e] := by rw [← hget, List.take_append_getElem]
      unfold readD
      rw [this, List.foldl_append]
      rfl
    rw [et] at hN
    simp only [c_Disk_read_4, fnM, cNext, cSeq, cBrk, cCont, cDrop, cRet, cRetN, cIf, cNever, cAsg, cPar, cPar3, cAug, cFor, eC, eVar, eOp, eUn, eIf, aNil, aCons, eTup, eLst, eLstM, eCB, eFn, eAndV, eOrV, eNotV, cAnd, cOr, cNot, cB, cTru, cYes, mName, mNames, wipeM, mTup, mSub, eFrz, eAppend, eSlice, oNone, oSome, eChain, eLcG, finD, finM, iRange1, iRange2, iZip2, iSeq, bInt, bIntC, bCmp, bMulX, bAddM, eIsi, isTy, bAdd, bNeg, bIs, bIsN, isNone, bEq, bNe, bRepr, bLen, bIntOf, b2Int, bTuple, bList, bListM, bAll, bAny, tupOf, datOf, truV, okOf, bIx_tup, bIx_lst, bIx_set, lenV_set, ixN_21, ixN_20, set_1, sset_same, sset_sset, MO.lst.injEq, lenV_tup, lenV_lst, atI_0, atI_1, atI_2, atI_3, atI_4, lstOf, allD, allD_map, ex_eq_and, ex_eq_and', List.map_cons, List.map_nil, List.length_cons, List.length_nil, List.replicate, List.cons_append, List.nil_append, List.getElem?_cons_zero, List.getElem?_cons_succ, Option.some.injEq, Option.map_some, List.set, List.cons.injEq, and_true, true_and, MV.d.injEq, MV.m.injEq, PyData.int.injEq, PyData.bool.injEq, PyData.str.injEq, PyData.tuple.injEq, PyData.list.injEq, exists_and_left, exists_and_right, exists_eq_left', exists_eq_left, exists_eq_right, exists_eq', Nat.reduceAdd, Nat.reduceSub, Nat.reduceLT, Nat.reduceLeDiff, decide_eq_true_eq, Bool.not_eq_true', decide_eq_false_iff_not, reduceCtorEq, if_true, if_false, Bool.false_eq_true, ite_true, ite_false, not_true_eq_false, not_false_eq_true, Bool.not_true, Bool.not_false, reduceIte, and_self, or_true, true_or, or_false, false_or, and_false, false_and]
    by_cases z : e.1 = k
    · rw [if_pos (by omega)]
      rw [if_pos z] at hN
      simp only [c_Disk_read_5, fnM, cNext, cSeq, cBrk, cCont, cDrop, cRet, cRetN, cIf, cNever, cAsg, cPar, cPar3, cAug, cFor, eC, eVar, eOp, eUn, eIf, aNil, aCons, eTup, eLst, eLstM, eCB, eFn, eAndV, eOrV, eNotV, cAnd, cOr, cNot, cB, cTru, cYes, mName, mNames, wipeM, mTup, mSub, eFrz, eAppend, eSlice, oNone, oSome, eChain, eLcG, finD, finM, iRange1, iRange2, iZip2, iSeq, bInt, bIntC, bCmp, bMulX, bAddM, eIsi, isTy, bAdd, bNeg, bIs, bIsN, isNone, bEq, bNe, bRepr, bLen, bIntOf, b2Int, bTuple, bList, bListM, bAll, bAny, tupOf, datOf, truV, okOf, bIx_tup, bIx_lst, bIx_set, lenV_set, ixN_21, ixN_20, set_1, sset_same, sset_sset, MO.lst.injEq, lenV_tup, lenV_lst, atI_0, atI_1, atI_2, atI_3, atI_4, lstOf, allD, allD_map, ex_eq_and, ex_eq_and', List.map_cons, List.map_nil, List.length_cons, List.length_nil, List.replicate, List.cons_append, List.nil_append, List.getElem?_cons_zero, List.getElem?_cons_succ, Option.some.injEq, Option.map_some, List.set, List.cons.injEq, and_true, true_and, MV.d.injEq, MV.m.injEq, PyData.int.injEq, PyData.bool.injEq, PyData.str.injEq, PyData.tuple.injEq, PyData.list.injEq, exists_and_left, exists_and_right, exists_eq_left', exists_eq_left, exists_eq_right, exists_eq', Nat.reduceAdd, Nat.reduceSub, Nat.reduceLT, Nat.reduceLeDiff, decide_eq_true_eq, Bool.not_eq_true', decide_eq_false_iff_not, reduceCtorEq, if_true, if_false, Bool.false_eq_true, ite_true, ite_false, not_true_eq_false, not_false_eq_true, Bool.not_true, Bool.not_false, reduceIte, and_self, or_true, true_or, or_false, false_or, and_false, false_and]
      exact hN _ _ ⟨rfl, _, _, rfl⟩
    · rw [if_neg (by omega)]
      rw [if_neg z] at hN
      exact hN _ _ ⟨rfl, _, _, rfl⟩
  · rintro ρ S' ⟨rfl, a3, a4, rfl⟩
    have el : d.ps.take (0 + L.length) = d.ps := by rw [eL, List.length_map, Nat.zero_add, List.take_length]
    rw [el]
    exact q _ _
end

section
variable {κ : Kap} {S : Sto} {a : Addr} {d : DSt} {F : List Addr} {Q : QE} {X : QX}
theorem w_dread {n : Int} (h : DiskOk κ S a d F) (q1 : ¬ (0 ≤ n ∧ n < d.bs.length) → X (.fd κ.OutOfRange [("name", .str "at")]) S)
    (q : 0 ≤ n → n < d.bs.length → Q (.d (rowD (readD d.bs d.ps n.toNat))) S) : m_Disk_read κ [.m a, .d (.int n)] S Q X := by
  have h0 := h
  obtain ⟨bA, wA, tt, eF, n1, n2, n3, e1, e2, e3, g, gl⟩ := h0
  simp only [m_Disk_read, c_Disk_read, c_Disk_read_1, df1, df2, df3, df4, df5, dp2, dp3, dp4, dp5, dfl, MO.ins.injEq, eFld, cFld, cFldAug, eMeth, cRaiseF, cRaiseT, exists_eq_left, and_assoc, e1, fnM, cNext, cSeq, cBrk, cCont, cDrop, cRet, cRetN, cIf, cNever, cAsg, cPar, cPar3, cAug, cFor, eC, eVar, eOp, eUn, eIf, aNil, aCons, eTup, eLst, eLstM, eCB, eFn, eAndV, eOrV, eNotV, cAnd, cOr, cNot, cB, cTru, cYes, mName, mNames, wipeM, mTup, mSub, eFrz, eAppend, eSlice, oNone, oSome, eChain, eLcG, finD, finM, iRange1, iRange2, iZip2, iSeq, bInt, bIntC, bCmp, bMulX, bAddM, eIsi, isTy, bNeg, bIsN, bRepr, bLen, bIntOf, b2Int, bTuple, bList, bListM, bAll, bAny, tupOf, datOf, truV, okOf, bIx_tup, bIx_lst, bIx_set, lenV_set, ixN_21, ixN_20, set_1, sset_same, sset_sset, MO.lst.injEq, lenV_tup, lenV_lst, atI_0, atI_1, atI_2, atI_3, atI_4, lstOf, allD, allD_map, ex_eq_and, ex_eq_and', List.map_cons, List.map_nil, List.length_cons, List.length_nil, List.cons_append, List.nil_append, List.getElem?_cons_zero, List.getElem?_cons_succ, Option.some.injEq, Option.map_some, List.set, List.cons.injEq, and_true, true_and, MV.d.injEq, MV.m.injEq, PyData.int.injEq, PyData.bool.injEq, PyData.str.injEq, PyData.tuple.injEq, PyData.list.injEq, exists_and_left, exists_and_right, exists_eq_left', exists_eq_left, exists_eq_right, exists_eq', Nat.reduceAdd, Nat.reduceSub, Nat.reduceLT, Nat.reduceLeDiff, decide_eq_true_eq, Bool.not_eq_true', decide_eq_false_iff_not, reduceCtorEq, if_true, if_false, Bool.false_eq_true, ite_true, ite_false, not_true_eq_false, not_false_eq_true, Bool.not_true, Bool.not_false, reduceIte, and_self, or_true, true_or, or_false, false_or, and_false, false_and]
  refine ⟨rfl, w_check_at h q1 fun i0 i1 => ?_⟩
  have q := q i0 i1
  obtain ⟨k, rfl⟩ : ∃ k : Nat, n = k := ⟨n.toNat, by omega⟩
  rw [Int.toNat_natCast] at q
  have hk : k < d.bs.length := by omega
  have hx : atI (d.bs.map fun b => MV.d (rowT b)) (k : Int) = some (.d (rowT (d.bs.getD k []))) := by
    rw [atI_nat', List.getElem?_map, List.getElem?_eq_getElem hk, List.getD, List.getElem?_eq_getElem hk]
    rfl
  simp only [c_Disk_read_2, df1, df2, df3, df4, df5, dp2, dp3, dp4, dp5, dfl, MO.ins.injEq, eFld, cFld, cFldAug, eMeth, cRaiseF, cRaiseT, exists_eq_left, and_assoc, e1, bIx_m e2, hx, fnM, cNext, cSeq, cBrk, cCont, cDrop, cRet, cRetN, cIf, cNever, cAsg, cPar, cPar3, cAug, cFor, eC, eVar, eOp, eUn, eIf, aNil, aCons, eTup, eLst, eLstM, eCB, eFn, eAndV, eOrV, eNotV, cAnd, cOr, cNot, cB, cTru, cYes, mName, mNames, wipeM, mTup, mSub, eFrz, eAppend, eSlice, oNone, oSome, eChain, eLcG, finD, finM, iRange1, iRange2, iZip2, iSeq, bInt, bIntC, bCmp, bMulX, bAddM, eIsi, isTy, bNeg, bIsN, bRepr, bLen, bIntOf, b2Int, bTuple, bList, bListM, bAll, bAny, tupOf, datOf, truV, okOf, bIx_tup, bIx_lst, bIx_set, lenV_set, ixN_21, ixN_20, set_1, sset_same, sset_sset, MO.lst.injEq, lenV_tup, lenV_lst, atI_0, atI_1, atI_2, atI_3, atI_4, lstOf, allD, allD_map, ex_eq_and, ex_eq_and', List.map_cons, List.map_nil, List.length_cons, List.length_nil, List.cons_append, List.nil_append, List.getElem?_cons_zero, List.getElem?_cons_succ, Option.some.injEq, Option.map_some, List.set, List.cons.injEq, and_true, true_and, MV.d.injEq, MV.m.injEq, PyData.int.injEq, PyData.bool.injEq, PyData.str.injEq, PyData.tuple.injEq, PyData.list.injEq, exists_and_left, exists_and_right, exists_eq_left', exists_eq_left, exists_eq_right, exists_eq', Nat.reduceAdd, Nat.reduceSub, Nat.reduceLT, Nat.reduceLeDiff, decide_eq_true_eq, Bool.not_eq_true', decide_eq_false_iff_not, reduceCtorEq, if_true, if_false, Bool.false_eq_true, ite_true, ite_false, not_true_eq_false, not_false_eq_true, Bool.not_true, Bool.not_false, reduceIte, and_self, or_true, true_or, or_false, false_or, and_false, false_and]
  refine read_loop h hk fun a3 a4 => ?_
  simp only [c_Disk_read_6, bList, fnM, cNext, cSeq, cBrk, cCont, cDrop, cRet, cRetN, cIf, cNever, cAsg, cPar, cPar3, cAug, cFor, eC, eVar, eOp, eUn, eIf, aNil, aCons, eTup, eLst, eLstM, eCB, eFn, eAndV, eOrV, eNotV, cAnd, cOr, cNot, cB, cTru, cYes, mName, mNames, wipeM, mTup, mSub, eFrz, eAppend, eSlice, oNone, oSome, eChain, eLcG, finD, finM, iRange1, iRange2, iZip2, iSeq, bInt, bIntC, bCmp, bMulX, bAddM, eIsi, isTy, bAdd, bNeg, bIs, bIsN, isNone, bEq, bNe, bRepr, bLen, bIntOf, b2Int, bTuple, bList, bListM, bAll, bAny, tupOf, datOf, truV, okOf, bIx_tup, bIx_lst, bIx_set, lenV_set, ixN_21, ixN_20, set_1, sset_same, sset_sset, MO.lst.injEq, lenV_tup, lenV_lst, atI_0, atI_1, atI_2, atI_3, atI_4, lstOf, allD, allD_map, ex_eq_and, ex_eq_and', List.map_cons, List.map_nil, List.length_cons, List.length_nil, List.replicate, List.cons_append, List.nil_append, List.getElem?_cons_zero, List.getElem?_cons_succ, Option.some.injEq, Option.map_some, List.set, List.cons.injEq, and_true, true_and, MV.d.injEq, MV.m.injEq, PyData.int.injEq, PyData.bool.injEq, PyData.str.injEq, PyData.tuple.injEq, PyData.list.injEq, exists_and_left, exists_and_right, exists_eq_left', exists_eq_left, exists_eq_right, exists_eq', Nat.reduceAdd, Nat.reduceSub, Nat.reduceLT, Nat.reduceLeDiff, decide_eq_true_eq, Bool.not_eq_true', decide_eq_false_iff_not, reduceCtorEq, if_true, if_false, Bool.false_eq_true, ite_true, ite_false, not_true_eq_false, not_false_eq_true, Bool.not_true, Bool.not_false, reduceIte, and_self, or_true, true_or, or_false, false_or, and_false, false_and]
  exact ⟨_, rfl, _, allD_map _, q⟩
theorem w_sched {n : Int} {r : MV} {t : List Int} (h : DiskOk κ S a d F) (hr : IsRow S r t) (ht : ∀ x ∈ t, Small x) (htl : t.length ≤ 1000) (q1 : ¬ (0 ≤ n ∧ n ≤ 100000) → X (.fd κ.OutOfRange [("name", .str "many")]) S)
    (q2 : 0 ≤ n → n ≤ 100000 → ¬ TornOk t → X (.fd κ.OutOfRange [("name", .str "torn")]) S)
    (q : 0 ≤ n → n ≤ 100000 → TornOk t → ∀ S' F', Ext S F S' F' → DiskOk κ S' a { d with left := some n.toNat, torn := t } F' → Q (.d .none) S') : m_Disk_schedule_cut κ [.m a, .d (.int n), r] S Q X := by
  have hF := disk_in h
  obtain ⟨bA, wA, tt, eF, n1, n2, n3, e1, e2, e3, g, gl⟩ := h
  have refuse : ¬ (0 ≤ n ∧ n ≤ 100000) → c_Disk_schedule_cut_2 κ ⟨c_Disk_schedule_cut_3 κ ⟨fun _ S' => Q (.d .none) S', Q, fun _ _ => False, fun _ _ => False, fun x _ S' => X x S'⟩, Q, fun _ _ => False, fun _ _ => False, fun x _ S' => X x S'⟩ [some (.m a), some (.d (.int n)), some r] S := fun z => by
    simp only [c_Disk_schedule_cut_2, cRaiseF, fnM, cNext, cSeq, cBrk, cCont, cDrop, cRet, cRetN, cIf, cNever, cAsg, cPar, cPar3, cAug, cFor, eC, eVar, eOp, eUn, eIf, aNil, aCons, eTup, eLst, eLstM, eCB, eFn, eAndV, eOrV, eNotV, cAnd, cOr, cNot, cB, cTru, cYes, mName, mNames, wipeM, mTup, mSub, eFrz, eAppend, eSlice, oNone, oSome, eChain, eLcG, finD, finM, iRange1, iRange2, iZip2, iSeq, bInt, bIntC, bCmp, bMulX, bAddM, eIsi, isTy, bAdd, bNeg, bIs, bIsN, isNone, bEq, bNe, bRepr, bLen, bIntOf, b2Int, bTuple, bList, bListM, bAll, bAny, tupOf, datOf, truV, okOf, bIx_tup, bIx_lst, bIx_set, lenV_set, ixN_21, ixN_20, set_1, sset_same, sset_sset, MO.lst.injEq, lenV_tup, lenV_lst, atI_0, atI_1, atI_2, atI_3, atI_4, lstOf, allD, allD_map, ex_eq_and, ex_eq_and', List.map_cons, List.map_nil, List.length_cons, List.length_nil, List.replicate, List.cons_append, List.nil_append, List.getElem?_cons_zero, List.getElem?_cons_succ, Option.some.injEq, Option.map_some, List.set, List.cons.injEq, and_true, true_and, MV.d.injEq, MV.m.injEq, PyData.int.injEq, PyData.bool.injEq, PyData.str.injEq, PyData.tuple.injEq, PyData.list.injEq, exists_and_left, exists_and_right, exists_eq_left', exists_eq_left, exists_eq_right, exists_eq', Nat.reduceAdd, Nat.reduceSub, Nat.reduceLT, Nat.reduceLeDiff, decide_eq_true_eq, Bool.not_eq_true', decide_eq_false_iff_not, reduceCtorEq, if_true, if_false, Bool.false_eq_true, ite_true, ite_false, not_true_eq_false, not_false_eq_true, Bool.not_true, Bool.not_false, reduceIte, and_self, or_true, true_or, or_false, false_or, and_false, false_and]
    exact ⟨by decide, q1 z⟩
  simp only [m_Disk_schedule_cut, c_Disk_schedule_cut, c_Disk_schedule_cut_1, bCmp, fnM, cNext, cSeq, cBrk, cCont, cDrop, cRet, cRetN, cIf, cNever, cAsg, cPar, cPar3, cAug, cFor, eC, eVar, eOp, eUn, eIf, aNil, aCons, eTup, eLst, eLstM, eCB, eFn, eAndV, eOrV, eNotV, cAnd, cOr, cNot, cB, cTru, cYes, mName, mNames, wipeM, mTup, mSub, eFrz, eAppend, eSlice, oNone, oSome, eChain, eLcG, finD, finM, iRange1, iRange2, iZip2, iSeq, bInt, bIntC, bCmp, bMulX, bAddM, eIsi, isTy, bAdd, bNeg, bIs, bIsN, isNone, bEq, bNe, bRepr, bLen, bIntOf, b2Int, bTuple, bList, bListM, bAll, bAny, tupOf, datOf, truV, okOf, bIx_tup, bIx_lst, bIx_set, lenV_set, ixN_21, ixN_20, set_1, sset_same, sset_sset, MO.lst.injEq, lenV_tup, lenV_lst, atI_0, atI_1, atI_2, atI_3, atI_4, lstOf, allD, allD_map, ex_eq_and, ex_eq_and', List.map_cons, List.map_nil, List.length_cons, List.length_nil, List.replicate, List.cons_append, List.nil_append, List.getElem?_cons_zero, List.getElem?_cons_succ, Option.some.injEq, Option.map_some, List.set, List.cons.injEq, and_true, true_and, MV.d.injEq, MV.m.injEq, PyData.int.injEq, PyData.bool.injEq, PyData.str.injEq, PyData.tuple.injEq, PyData.list.injEq, exists_and_left, exists_and_right, exists_eq_left', exists_eq_left, exists_eq_right, exists_eq', Nat.reduceAdd, Nat.reduceSub, Nat.reduceLT, Nat.reduceLeDiff, decide_eq_true_eq, Bool.not_eq_true', decide_eq_false_iff_not, reduceCtorEq, if_true, if_false, Bool.false_eq_true, ite_true, ite_false, not_true_eq_false, not_false_eq_true, Bool.not_true, Bool.not_false, reduceIte, and_self, or_true, true_or, or_false, false_or, and_false, false_and]
  by_cases h0 : 0 ≤ n
  case neg =>
    rw [if_neg h0]
    exact refuse fun z => h0 z.1
  rw [if_pos h0]
  by_cases h1 : n ≤ 100000
  case neg =>
    rw [if_pos h1]
    exact refuse fun z => h1 z.2
  rw [if_neg (by simpa using h1)]
  clear refuse
  simp only [c_Disk_schedule_cut_3, fnM, cNext, cSeq, cBrk, cCont, cDrop, cRet, cRetN, cIf, cNever, cAsg, cPar, cPar3, cAug, cFor, eC, eVar, eOp, eUn, eIf, aNil, aCons, eTup, eLst, eLstM, eCB, eFn, eAndV, eOrV, eNotV, cAnd, cOr, cNot, cB, cTru, cYes, mName, mNames, wipeM, mTup, mSub, eFrz, eAppend, eSlice, oNone, oSome, eChain, eLcG, finD, finM, iRange1, iRange2, iZip2, iSeq, bInt, bIntC, bCmp, bMulX, bAddM, eIsi, isTy, bAdd, bNeg, bIs, bIsN, isNone, bEq, bNe, bRepr, bLen, bIntOf, b2Int, bTuple, bList, bListM, bAll, bAny, tupOf, datOf, truV, okOf, bIx_tup, bIx_lst, bIx_set, lenV_set, ixN_21, ixN_20, set_1, sset_same, sset_sset, MO.lst.injEq, lenV_tup, lenV_lst, atI_0, atI_1, atI_2, atI_3, atI_4, lstOf, allD, allD_map, ex_eq_and, ex_eq_and', List.map_cons, List.map_nil, List.length_cons, List.length_nil, List.replicate, List.cons_append, List.nil_append, List.getElem?_cons_zero, List.getElem?_cons_succ, Option.some.injEq, Option.map_some, List.set, List.cons.injEq, and_true, true_and, MV.d.injEq, MV.m.injEq, PyData.int.injEq, PyData.bool.injEq, PyData.str.injEq, PyData.tuple.injEq, PyData.list.injEq, exists_and_left, exists_and_right, exists_eq_left', exists_eq_left, exists_eq_right, exists_eq', Nat.reduceAdd, Nat.reduceSub, Nat.reduceLT, Nat.reduceLeDiff, decide_eq_true_eq, Bool.not_eq_true', decide_eq_false_iff_not, reduceCtorEq, if_true, if_false, Bool.false_eq_true, ite_true, ite_false, not_true_eq_false, not_false_eq_true, Bool.not_true, Bool.not_false, reduceIte, and_self, or_true, true_or, or_false, false_or, and_false, false_and]
  refine w_check_torn hr.sq (by omega) (q2 h0 h1) fun ht' => ?_
  have q := q h0 h1 ht'
  have f1 : ∀ o, sset S a o a = some o := fun o => sset_same
  simp only [c_Disk_schedule_cut_4, df1, df2, df3, df4, df5, dp2, dp3, dp4, dp5, dfl, MO.ins.injEq, eFld, cFld, cFldAug, eMeth, cRaiseF, cRaiseT, exists_eq_left, and_assoc, e1, fnM, cNext, cSeq, cBrk, cCont, cDrop, cRet, cRetN, cIf, cNever, cAsg, cPar, cPar3, cAug, cFor, eC, eVar, eOp, eUn, eIf, aNil, aCons, eTup, eLst, eLstM, eCB, eFn, eAndV, eOrV, eNotV, cAnd, cOr, cNot, cB, cTru, cYes, mName, mNames, wipeM, mTup, mSub, eFrz, eAppend, eSlice, oNone, oSome, eChain, eLcG, finD, finM, iRange1, iRange2, iZip2, bInt, bIntC, bCmp, bMulX, bAddM, eIsi, isTy, bNeg, bIsN, bRepr, bLen, bIntOf, b2Int, bList, bListM, bAll, bAny, tupOf, datOf, truV, okOf, bIx_tup, bIx_lst, bIx_set, lenV_set, ixN_21, ixN_20, set_1, sset_same, sset_sset, MO.lst.injEq, lenV_tup, lenV_lst, atI_0, atI_1, atI_2, atI_3, atI_4, lstOf, allD, allD_map, ex_eq_and, ex_eq_and', List.map_cons, List.map_nil, List.length_cons, List.length_nil, List.cons_append, List.nil_append, List.getElem?_cons_zero, List.getElem?_cons_succ, Option.some.injEq, Option.map_some, List.set, List.cons.injEq, and_true, true_and, MV.d.injEq, MV.m.injEq, PyData.int.injEq, PyData.bool.injEq, PyData.str.injEq, PyData.tuple.injEq, PyData.list.injEq, exists_and_left, exists_and_right, exists_eq_left', exists_eq_left, exists_eq_right, exists_eq', Nat.reduceAdd, Nat.reduceSub, Nat.reduceLT, Nat.reduceLeDiff, decide_eq_true_eq, Bool.not_eq_true', decide_eq_false_iff_not, reduceCtorEq, if_true, if_false, Bool.false_eq_true, ite_true, ite_false, not_true_eq_false, not_false_eq_true, Bool.not_true, Bool.not_false, reduceIte, and_self, or_true, true_or, or_false, false_or, and_false, false_and]
  have hr1 : ∀ o, IsRow (sset S a (.ins κ.Disk o)) r t := fun o => by
    rcases hr with rfl | ⟨c, rfl, e⟩
    · exact .inl rfl
    · exact .inr ⟨c, rfl, by rw [sset_ne (fun z => by rw [z, e1] at e; cases e)]; exact e⟩
  have bt : ∀ (o : Fs) (Q : QE), Q (.d (rowT t)) (sset S a (.ins κ.Disk o)) → bTuple [r] (sset S a (.ins κ.Disk o)) Q := fun o Q q => by
    rcases hr1 o with rfl | ⟨c, rfl, e⟩
    · exact ⟨_, _, rfl, allD_map _, q⟩
    · exact ⟨_, _, lstOf_m e, allD_of (fun i : Int => PyData.int i) t, q⟩
  simp only [c_Disk_schedule_cut_5, df1, df2, df3, df4, df5, dp2, dp3, dp4, dp5, dfl, MO.ins.injEq, eFld, cFld, cFldAug, eMeth, cRaiseF, cRaiseT, exists_eq_left, and_assoc, fnM, cNext, cSeq, cBrk, cCont, cDrop, cRet, cRetN, cIf, cNever, cAsg, cPar, cPar3, cAug, cFor, eC, eVar, eOp, eUn, eIf, aNil, aCons, eTup, eLst, eLstM, eCB, eFn, eAndV, eOrV, eNotV, cAnd, cOr, cNot, cB, cTru, cYes, mName, mNames, wipeM, mTup, mSub, eFrz, eAppend, eSlice, oNone, oSome, eChain, eLcG, finD, finM, iRange1, iRange2, iZip2, bInt, bIntC, bCmp, bMulX, bAddM, eIsi, isTy, bNeg, bIsN, bRepr, bLen, bIntOf, b2Int, bList, bListM, bAll, bAny, tupOf, datOf, truV, okOf, bIx_tup, bIx_lst, bIx_set, lenV_set, ixN_21, ixN_20, set_1, sset_same, sset_sset, MO.lst.injEq, lenV_tup, lenV_lst, atI_0, atI_1, atI_2, atI_3, atI_4, lstOf, allD, allD_map, ex_eq_and, ex_eq_and', List.map_cons, List.map_nil, List.length_cons, List.length_nil, List.cons_append, List.nil_append, List.getElem?_cons_zero, List.getElem?_cons_succ, Option.some.injEq, Option.map_some, List.set, List.cons.injEq, and_true, true_and, MV.d.injEq, MV.m.injEq, PyData.int.injEq, PyData.bool.injEq, PyData.str.injEq, PyData.tuple.injEq, PyData.list.injEq, exists_and_left, exists_and_right, exists_eq_left', exists_eq_left, exists_eq_right, exists_eq', Nat.reduceAdd, Nat.reduceSub, Nat.reduceLT, Nat.reduceLeDiff, decide_eq_true_eq, Bool.not_eq_true', decide_eq_false_iff_not, reduceCtorEq, if_true, if_false, Bool.false_eq_true, ite_true, ite_false, not_true_eq_false, not_false_eq_true, Bool.not_true, Bool.not_false, reduceIte, and_self, or_true, true_or, or_false, false_or, and_false, false_and]
  refine bt _ _ ?_
  simp only [f1, sset_sset, df1, df2, df3, df4, df5, dp2, dp3, dp4, dp5, dfl, MO.ins.injEq, eFld, cFld, cFldAug, eMeth, cRaiseF, cRaiseT, exists_eq_left, and_assoc, fnM, cNext, cSeq, cBrk, cCont, cDrop, cRet, cRetN, cIf, cNever, cAsg, cPar, cPar3, cAug, cFor, eC, eVar, eOp, eUn, eIf, aNil, aCons, eTup, eLst, eLstM, eCB, eFn, eAndV, eOrV, eNotV, cAnd, cOr, cNot, cB, cTru, cYes, mName, mNames, wipeM, mTup, mSub, eFrz, eAppend, eSlice, oNone, oSome, eChain, eLcG, finD, finM, iRange1, iRange2, iZip2, iSeq, bInt, bIntC, bCmp, bMulX, bAddM, eIsi, isTy, bAdd, bNeg, bIs, bIsN, isNone, bEq, bNe, bRepr, bLen, bIntOf, b2Int, bTuple, bList, bListM, bAll, bAny, tupOf, datOf, truV, okOf, bIx_tup, bIx_lst, bIx_set, lenV_set, ixN_21, ixN_20, set_1, sset_same, sset_sset, MO.lst.injEq, lenV_tup, lenV_lst, atI_0, atI_1, atI_2, atI_3, atI_4, lstOf, allD, allD_map, ex_eq_and, ex_eq_and', List.map_cons, List.map_nil, List.length_cons, List.length_nil, List.replicate, List.cons_append, List.nil_append, List.getElem?_cons_zero, List.getElem?_cons_succ, Option.some.injEq, Option.map_some, List.set, List.cons.injEq, and_true, true_and, MV.d.injEq, MV.m.injEq, PyData.int.injEq, PyData.bool.injEq, PyData.str.injEq, PyData.tuple.injEq, PyData.list.injEq, exists_and_left, exists_and_right, exists_eq_left', exists_eq_left, exists_eq_right, exists_eq', Nat.reduceAdd, Nat.reduceSub, Nat.reduceLT, Nat.reduceLeDiff, decide_eq_true_eq, Bool.not_eq_true', decide_eq_false_iff_not, reduceCtorEq, if_true, if_false, Bool.false_eq_true, ite_true, ite_false, not_true_eq_false, not_false_eq_true, Bool.not_true, Bool.not_false, reduceIte, and_self, or_true, true_or, or_false, false_or, and_false, false_and]
  have en : ((n.toNat : Nat) : Int) = n := Int.toNat_of_nonneg h0
  refine q _ F (ext_own hF) ⟨bA, wA, .d (rowT t), eF, n1, n2, n3, ?_, by rw [sset_ne n1.symm]; exact e2, by rw [sset_ne n2.symm]; exact e3, ⟨g.n0, g.n1, g.bs, g.ps, g.pl⟩, fun _ => ⟨rfl, ht', htl⟩⟩
  rw [sset_same]
  show some (MO.ins κ.Disk (dfs _ _ _ (.d (.int n)) _)) = some (MO.ins κ.Disk (dfs _ _ _ (.d (.int (n.toNat : Int))) _))
  rw [en]
end

end K42
namespace K42
open PySem PySem.Spec PyProof.Rows L2 Mi
/-- but for the box all stays -/
def Kb (b : Addr) (S S' : Sto) : Prop := ∀ c o, c ≠ b → S c = some o → S' c = some o
theorem Kb.tr {b : Addr} {S S1 S2 : Sto} (h : Kb b S S1) (k : Kb b S1 S2) : Kb b S S2 := fun c o n e => k c o n (h c o n e)
theorem Kb.rf {b : Addr} {S : Sto} : Kb b S S := fun _ _ _ e => e
theorem Kb.sm {b : Addr} {S S' : Sto} (h : ∀ c, c ≠ b → S' c = S c) : Kb b S S' := fun c o n e => (h c n).trans e
theorem Kb.new {b p : Addr} {S : Sto} {o : MO} (h : S p = none) : Kb b S (sset S p o) := fun c u n e => by
  have ne : c ≠ p := fun z => by rw [z, h] at e; cases e
  rw [sset_ne ne]
  exact e
theorem box_new {b p : Addr} {S : Sto} {o : MO} (hb : BoxOk S b) (h : S p = none) : BoxOk (sset S p o) b := by
  obtain ⟨ds, i, e1, e2⟩ := hb
  have ne : b ≠ p := fun z => by rw [z, h] at e1; cases e1
  exact ⟨ds, i, by rw [sset_ne ne]; exact e1, e2⟩
theorem allD_ints (row : List Int) : allD (row.map fun i => MV.d (.int i)) = some (row.map .int) := by
  rw [← allD_map, List.map_map]; rfl
theorem lc_draws {te : CE} {ρ : Ro} {b : Addr} {lo hi : Int} {n i : Nat} {S : Sto} {Qf : List MV → Sto → Prop} (hb : BoxOk S b) (hn : n ≤ 1000)
    (ht : ∀ (k : Nat) S M, k < n → BoxOk S b → (∀ v S', lo ≤ v → v ≤ hi → BoxOk S' b → Kb b S S' → M (.d (.int v)) S') → te (ρ.set i (some (.d (.int (0 + (k : Int)))))) S M noX)
    (q : ∀ (row : List Int) S', row.length = n → (∀ x ∈ row, lo ≤ x ∧ x ≤ hi) → BoxOk S' b → Kb b S S' → Qf (row.map fun i => .d (.int i)) S') : lcL (mName i) cYes te (fun _ => True) (rng 0 n) [] ρ S Qf := by
  refine lcL_inv (fun k acc S' => BoxOk S' b ∧ Kb b S S' ∧ ∃ row : List Int, acc = row.map (fun i => .d (.int i)) ∧ row.length = k ∧ ∀ x ∈ row, lo ≤ x ∧ x ≤ hi) _ 0 _ _ ⟨hb, Kb.rf, [], rfl, rfl, fun x hx => nomatch hx⟩ (fun _ _ _ _ => trivial) ?_ ?_
  · rintro k y acc S1 N ey ⟨hb1, k1, row, rfl, lr, br⟩ hN
    rw [Nat.zero_add] at lr hN
    obtain ⟨hk, rfl⟩ := rng_some ey
    simp only [fnM, cNext, cSeq, cBrk, cCont, cDrop, cRet, cRetN, cIf, cNever, cAsg, cPar, cPar3, cAug, cFor, eC, eVar, eOp, eUn, eIf, aNil, aCons, eTup, eLst, eLstM, eCB, eFn, eAndV, eOrV, eNotV, cAnd, cOr, cNot, cB, cTru, cYes, mName, mNames, wipeM, mTup, mSub, eFrz, eAppend, eSlice, oNone, oSome, eChain, eLcG, finD, finM, iRange1, iRange2, iZip2, iSeq, bInt, bIntC, bCmp, bMulX, bAddM, eIsi, isTy, bAdd, bNeg, bIs, bIsN, isNone, bEq, bNe, bRepr, bLen, bIntOf, b2Int, bTuple, bList, bListM, bAll, bAny, tupOf, datOf, truV, okOf, bIx_tup, bIx_lst, bIx_set, lenV_set, ixN_21, ixN_20, set_1, sset_same, sset_sset, MO.lst.injEq, lenV_tup, lenV_lst, atI_0, atI_1, atI_2, atI_3, atI_4, lstOf, allD, allD_map, ex_eq_and, ex_eq_and', List.map_cons, List.map_nil, List.length_cons, List.length_nil, List.replicate, List.cons_append, List.nil_append, List.getElem?_cons_zero, List.getElem?_cons_succ, Option.some.injEq, Option.map_some, List.set, List.cons.injEq, and_true, true_and, MV.d.injEq, MV.m.injEq, PyData.int.injEq, PyData.bool.injEq, PyData.str.injEq, PyData.tuple.injEq, PyData.list.injEq, exists_and_left, exists_and_right, exists_eq_left', exists_eq_left, exists_eq_right, exists_eq', Nat.reduceAdd, Nat.reduceSub, Nat.reduceLT, Nat.reduceLeDiff, decide_eq_true_eq, Bool.not_eq_true', decide_eq_false_iff_not, reduceCtorEq, if_true, if_false, Bool.false_eq_true, ite_true, ite_false, not_true_eq_false, not_false_eq_true, Bool.not_true, Bool.not_false, reduceIte, and_self, or_true, true_or, or_false, false_or, and_false, false_and]
    refine ht k S1 _ hk hb1 fun v S2 v0 v1 hb2 k2 => ?_
    refine ⟨by rw [List.length_map, lr]; exact line_big (by omega), hN _ _ ⟨hb2, k1.tr k2, row ++ [v], by rw [List.map_append]; rfl, by rw [List.length_append, lr]; rfl, fun x hx => ?_⟩⟩
    rcases List.mem_append.mp hx with hx | hx
    · exact br x hx
    · rw [List.mem_singleton] at hx
      rw [hx]
      exact ⟨v0, v1⟩
  · rintro acc S1 ⟨hb1, k1, row, rfl, lr, br⟩
    rw [rng_length, Nat.zero_add] at lr
    exact q row S1 lr br hb1 k1
section
variable {κ : Kap} {S : Sto} {a b : Addr} {d : DSt} {F : List Addr} {Q : QE} {X : QX}
/-- the law's own torn numbers -/
theorem w_torn {n : Nat} (hb : BoxOk S b) (hn : n ≤ 1000) (q : ∀ t S', TornOk t → t.length ≤ n → BoxOk S' b → Kb b S S' → Q (.d (.list (t.map .int))) S') : m__law_torn [.m b, .d (.int n)] S Q X := by
  simp only [m__law_torn, c__law_torn, c__law_torn_1, fnM, cNext, cSeq, cBrk, cCont, cDrop, cRet, cRetN, cIf, cNever, cAsg, cPar, cPar3, cAug, cFor, eC, eVar, eOp, eUn, eIf, aNil, aCons, eTup, eLst, eLstM, eCB, eFn, eAndV, eOrV, eNotV, cAnd, cOr, cNot, cB, cTru, cYes, mName, mNames, wipeM, mTup, mSub, eFrz, eAppend, eSlice, oNone, oSome, eChain, eLcG, finD, finM, iRange1, iRange2, iZip2, iSeq, bInt, bIntC, bCmp, bMulX, bAddM, eIsi, isTy, bAdd, bNeg, bIs, bIsN, isNone, bEq, bNe, bRepr, bLen, bIntOf, b2Int, bTuple, bList, bListM, bAll, bAny, tupOf, datOf, truV, okOf, bIx_tup, bIx_lst, bIx_set, lenV_set, ixN_21, ixN_20, set_1, sset_same, sset_sset, MO.lst.injEq, lenV_tup, lenV_lst, atI_0, atI_1, atI_2, atI_3, atI_4, lstOf, allD, allD_map, ex_eq_and, ex_eq_and', List.map_cons, List.map_nil, List.length_cons, List.length_nil, List.replicate, List.cons_append, List.nil_append, List.getElem?_cons_zero, List.getElem?_cons_succ, Option.some.injEq, Option.map_some, List.set, List.cons.injEq, and_true, true_and, MV.d.injEq, MV.m.injEq, PyData.int.injEq, PyData.bool.injEq, PyData.str.injEq, PyData.tuple.injEq, PyData.list.injEq, exists_and_left, exists_and_right, exists_eq_left', exists_eq_left, exists_eq_right, exists_eq', Nat.reduceAdd, Nat.reduceSub, Nat.reduceLT, Nat.reduceLeDiff, decide_eq_true_eq, Bool.not_eq_true', decide_eq_false_iff_not, reduceCtorEq, if_true, if_false, Bool.false_eq_true, ite_true, ite_false, not_true_eq_false, not_false_eq_true, Bool.not_true, Bool.not_false, reduceIte, and_self, or_true, true_or, or_false, false_or, and_false, false_and]
  refine w_draw hb (by decide) fun r S1 r0 r1 hb1 sm1 => ?_
  simp only [c__law_torn_2, fnM, cNext, cSeq, cBrk, cCont, cDrop, cRet, cRetN, cIf, cNever, cAsg, cPar, cPar3, cAug, cFor, eC, eVar, eOp, eUn, eIf, aNil, aCons, eTup, eLst, eLstM, eCB, eFn, eAndV, eOrV, eNotV, cAnd, cOr, cNot, cB, cTru, cYes, mName, mNames, wipeM, mTup, mSub, eFrz, eAppend, eSlice, oNone, oSome, eChain, eLcG, finD, finM, iRange1, iRange2, iZip2, iSeq, bInt, bIntC, bCmp, bMulX, bAddM, eIsi, isTy, bAdd, bNeg, bIs, bIsN, isNone, bEq, bNe, bRepr, bLen, bIntOf, b2Int, bTuple, bList, bListM, bAll, bAny, tupOf, datOf, truV, okOf, bIx_tup, bIx_lst, bIx_set, lenV_set, ixN_21, ixN_20, set_1, sset_same, sset_sset, MO.lst.injEq, lenV_tup, lenV_lst, atI_0, atI_1, atI_2, atI_3, atI_4, lstOf, allD, allD_map, ex_eq_and, ex_eq_and', List.map_cons, List.map_nil, List.length_cons, List.length_nil, List.replicate, List.cons_append, List.nil_append, List.getElem?_cons_zero, List.getElem?_cons_succ, Option.some.injEq, Option.map_some, List.set, List.cons.injEq, and_true, true_and, MV.d.injEq, MV.m.injEq, PyData.int.injEq, PyData.bool.injEq, PyData.str.injEq, PyData.tuple.injEq, PyData.list.injEq, exists_and_left, exists_and_right, exists_eq_left', exists_eq_left, exists_eq_right, exists_eq', Nat.reduceAdd, Nat.reduceSub, Nat.reduceLT, Nat.reduceLeDiff, decide_eq_true_eq, Bool.not_eq_true', decide_eq_false_iff_not, reduceCtorEq, if_true, if_false, Bool.false_eq_true, ite_true, ite_false, not_true_eq_false, not_false_eq_true, Bool.not_true, Bool.not_false, reduceIte, and_self, or_true, true_or, or_false, false_or, and_false, false_and]
  by_cases k0 : r = 0
  · rw [if_pos k0]
    simp only [c__law_torn_3, fnM, cNext, cSeq, cBrk, cCont, cDrop, cRet, cRetN, cIf, cNever, cAsg, cPar, cPar3, cAug, cFor, eC, eVar, eOp, eUn, eIf, aNil, aCons, eTup, eLst, eLstM, eCB, eFn, eAndV, eOrV, eNotV, cAnd, cOr, cNot, cB, cTru, cYes, mName, mNames, wipeM, mTup, mSub, eFrz, eAppend, eSlice, oNone, oSome, eChain, eLcG, finD, finM, iRange1, iRange2, iZip2, iSeq, bInt, bIntC, bCmp, bMulX, bAddM, eIsi, isTy, bAdd, bNeg, bIs, bIsN, isNone, bEq, bNe, bRepr, bLen, bIntOf, b2Int, bTuple, bList, bListM, bAll, bAny, tupOf, datOf, truV, okOf, bIx_tup, bIx_lst, bIx_set, lenV_set, ixN_21, ixN_20, set_1, sset_same, sset_sset, MO.lst.injEq, lenV_tup, lenV_lst, atI_0, atI_1, atI_2, atI_3, atI_4, lstOf, allD, allD_map, ex_eq_and, ex_eq_and', List.map_cons, List.map_nil, List.length_cons, List.length_nil, List.replicate, List.cons_append, List.nil_append, List.getElem?_cons_zero, List.getElem?_cons_succ, Option.some.injEq, Option.map_some, List.set, List.cons.injEq, and_true, true_and, MV.d.injEq, MV.m.injEq, PyData.int.injEq, PyData.bool.injEq, PyData.str.injEq, PyData.tuple.injEq, PyData.list.injEq, exists_and_left, exists_and_right, exists_eq_left', exists_eq_left, exists_eq_right, exists_eq', Nat.reduceAdd, Nat.reduceSub, Nat.reduceLT, Nat.reduceLeDiff, decide_eq_true_eq, Bool.not_eq_true', decide_eq_false_iff_not, reduceCtorEq, if_true, if_false, Bool.false_eq_true, ite_true, ite_false, not_true_eq_false, not_false_eq_true, Bool.not_true, Bool.not_false, reduceIte, and_self, or_true, true_or, or_false, false_or, and_false, false_and]
    exact ⟨Nat.zero_le _, q [] S1 (fun x hx => nomatch hx) (Nat.zero_le _) hb1 (Kb.sm sm1)⟩
  rw [if_neg k0]
  simp only [c__law_torn_4, fnM, cNext, cSeq, cBrk, cCont, cDrop, cRet, cRetN, cIf, cNever, cAsg, cPar, cPar3, cAug, cFor, eC, eVar, eOp, eUn, eIf, aNil, aCons, eTup, eLst, eLstM, eCB, eFn, eAndV, eOrV, eNotV, cAnd, cOr, cNot, cB, cTru, cYes, mName, mNames, wipeM, mTup, mSub, eFrz, eAppend, eSlice, oNone, oSome, eChain, eLcG, finD, finM, iRange1, iRange2, iZip2, iSeq, bInt, bIntC, bCmp, bMulX, bAddM, eIsi, isTy, bAdd, bNeg, bIs, bIsN, isNone, bEq, bNe, bRepr, bLen, bIntOf, b2Int, bTuple, bList, bListM, bAll, bAny, tupOf, datOf, truV, okOf, bIx_tup, bIx_lst, bIx_set, lenV_set, ixN_21, ixN_20, set_1, sset_same, sset_sset, MO.lst.injEq, lenV_tup, lenV_lst, atI_0, atI_1, atI_2, atI_3, atI_4, lstOf, allD, allD_map, ex_eq_and, ex_eq_and', List.map_cons, List.map_nil, List.length_cons, List.length_nil, List.replicate, List.cons_append, List.nil_append, List.getElem?_cons_zero, List.getElem?_cons_succ, Option.some.injEq, Option.map_some, List.set, List.cons.injEq, and_true, true_and, MV.d.injEq, MV.m.injEq, PyData.int.injEq, PyData.bool.injEq, PyData.str.injEq, PyData.tuple.injEq, PyData.list.injEq, exists_and_left, exists_and_right, exists_eq_left', exists_eq_left, exists_eq_right, exists_eq', Nat.reduceAdd, Nat.reduceSub, Nat.reduceLT, Nat.reduceLeDiff, decide_eq_true_eq, Bool.not_eq_true', decide_eq_false_iff_not, reduceCtorEq, if_true, if_false, Bool.false_eq_true, ite_true, ite_false, not_true_eq_false, not_false_eq_true, Bool.not_true, Bool.not_false, reduceIte, and_self, or_true, true_or, or_false, false_or, and_false, false_and]
  by_cases k1 : r = 1
  · rw [if_pos k1]
    simp only [c__law_torn_5, fnM, cNext, cSeq, cBrk, cCont, cDrop, cRet, cRetN, cIf, cNever, cAsg, cPar, cPar3, cAug, cFor, eC, eVar, eOp, eUn, eIf, aNil, aCons, eTup, eLst, eLstM, eCB, eFn, eAndV, eOrV, eNotV, cAnd, cOr, cNot, cB, cTru, cYes, mName, mNames, wipeM, mTup, mSub, eFrz, eAppend, eSlice, oNone, oSome, eChain, eLcG, finD, finM, iRange1, iRange2, iZip2, iSeq, bInt, bIntC, bCmp, bMulX, bAddM, eIsi, isTy, bAdd, bNeg, bIs, bIsN, isNone, bEq, bNe, bRepr, bLen, bIntOf, b2Int, bTuple, bList, bListM, bAll, bAny, tupOf, datOf, truV, okOf, bIx_tup, bIx_lst, bIx_set, lenV_set, ixN_21, ixN_20, set_1, sset_same, sset_sset, MO.lst.injEq, lenV_tup, lenV_lst, atI_0, atI_1, atI_2, atI_3, atI_4, lstOf, allD, allD_map, ex_eq_and, ex_eq_and', List.map_cons, List.map_nil, List.length_cons, List.length_nil, List.replicate, List.cons_append, List.nil_append, List.getElem?_cons_zero, List.getElem?_cons_succ, Option.some.injEq, Option.map_some, List.set, List.cons.injEq, and_true, true_and, MV.d.injEq, MV.m.injEq, PyData.int.injEq, PyData.bool.injEq, PyData.str.injEq, PyData.tuple.injEq, PyData.list.injEq, exists_and_left, exists_and_right, exists_eq_left', exists_eq_left, exists_eq_right, exists_eq', Nat.reduceAdd, Nat.reduceSub, Nat.reduceLT, Nat.reduceLeDiff, decide_eq_true_eq, Bool.not_eq_true', decide_eq_false_iff_not, reduceCtorEq, if_true, if_false, Bool.false_eq_true, ite_true, ite_false, not_true_eq_false, not_false_eq_true, Bool.not_true, Bool.not_false, reduceIte, and_self, or_true, true_or, or_false, false_or, and_false, false_and]
    refine ⟨by decide, fun p np => ⟨by omega, by omega, ?_⟩⟩
    have e : (List.replicate ((n : Int)).toNat ([PyData.int 32] : List PyData)).flatten = (List.replicate n (32 : Int)).map .int := by
      rw [Int.toNat_natCast]
      induction n with
      | zero => rfl
      | succ n ih => rw [List.replicate_succ, List.flatten_cons, ih (by omega) (fun t S' a b c d => q t S' a (by omega) c d), List.replicate_succ]; rfl
    rw [e]
    exact q _ _ (fun x hx => by rw [List.eq_of_mem_replicate hx]; decide) (by rw [List.length_replicate]; exact Nat.le_refl _) (box_new hb1 np) ((Kb.sm sm1).tr (Kb.new np))
  rw [if_neg k1]
  simp only [c__law_torn_6, fnM, cNext, cSeq, cBrk, cCont, cDrop, cRet, cRetN, cIf, cNever, cAsg, cPar, cPar3, cAug, cFor, eC, eVar, eOp, eUn, eIf, aNil, aCons, eTup, eLst, eLstM, eCB, eFn, eAndV, eOrV, eNotV, cAnd, cOr, cNot, cB, cTru, cYes, mName, mNames, wipeM, mTup, mSub, eFrz, eAppend, eSlice, oNone, oSome, eChain, eLcG, finD, finM, iRange1, iRange2, iZip2, iSeq, bInt, bIntC, bCmp, bMulX, bAddM, eIsi, isTy, bAdd, bNeg, bIs, bIsN, isNone, bEq, bNe, bRepr, bLen, bIntOf, b2Int, bTuple, bList, bListM, bAll, bAny, tupOf, datOf, truV, okOf, bIx_tup, bIx_lst, bIx_set, lenV_set, ixN_21, ixN_20, set_1, sset_same, sset_sset, MO.lst.injEq, lenV_tup, lenV_lst, atI_0, atI_1, atI_2, atI_3, atI_4, lstOf, allD, allD_map, ex_eq_and, ex_eq_and', List.map_cons, List.map_nil, List.length_cons, List.length_nil, List.replicate, List.cons_append, List.nil_append, List.getElem?_cons_zero, List.getElem?_cons_succ, Option.some.injEq, Option.map_some, List.set, List.cons.injEq, and_true, true_and, MV.d.injEq, MV.m.injEq, PyData.int.injEq, PyData.bool.injEq, PyData.str.injEq, PyData.tuple.injEq, PyData.list.injEq, exists_and_left, exists_and_right, exists_eq_left', exists_eq_left, exists_eq_right, exists_eq', Nat.reduceAdd, Nat.reduceSub, Nat.reduceLT, Nat.reduceLeDiff, decide_eq_true_eq, Bool.not_eq_true', decide_eq_false_iff_not, reduceCtorEq, if_true, if_false, Bool.false_eq_true, ite_true, ite_false, not_true_eq_false, not_false_eq_true, Bool.not_true, Bool.not_false, reduceIte, and_self, or_true, true_or, or_false, false_or, and_false, false_and]
  have nn : ((n : Int)).toNat = n := Int.toNat_natCast n
  by_cases k2 : r = 2
  · rw [if_pos k2]
    simp only [c__law_torn_7, fnM, cNext, cSeq, cBrk, cCont, cDrop, cRet, cRetN, cIf, cNever, cAsg, cPar, cPar3, cAug, cFor, eC, eVar, eOp, eUn, eIf, aNil, aCons, eTup, eLst, eLstM, eCB, eFn, eAndV, eOrV, eNotV, cAnd, cOr, cNot, cB, cTru, cYes, mName, mNames, wipeM, mTup, mSub, eFrz, eAppend, eSlice, oNone, oSome, eChain, eLcG, finD, finM, iRange1, iRange2, iZip2, iSeq, bInt, bIntC, bCmp, bMulX, bAddM, eIsi, isTy, bAdd, bNeg, bIs, bIsN, isNone, bEq, bNe, bRepr, bLen, bIntOf, b2Int, bTuple, bList, bListM, bAll, bAny, tupOf, datOf, truV, okOf, bIx_tup, bIx_lst, bIx_set, lenV_set, ixN_21, ixN_20, set_1, sset_same, sset_sset, MO.lst.injEq, lenV_tup, lenV_lst, atI_0, atI_1, atI_2, atI_3, atI_4, lstOf, allD, allD_map, ex_eq_and, ex_eq_and', List.map_cons, List.map_nil, List.length_cons, List.length_nil, List.replicate, List.cons_append, List.nil_append, List.getElem?_cons_zero, List.getElem?_cons_succ, Option.some.injEq, Option.map_some, List.set, List.cons.injEq, and_true, true_and, MV.d.injEq, MV.m.injEq, PyData.int.injEq, PyData.bool.injEq, PyData.str.injEq, PyData.tuple.injEq, PyData.list.injEq, exists_and_left, exists_and_right, exists_eq_left', exists_eq_left, exists_eq_right, exists_eq', Nat.reduceAdd, Nat.reduceSub, Nat.reduceLT, Nat.reduceLeDiff, decide_eq_true_eq, Bool.not_eq_true', decide_eq_false_iff_not, reduceCtorEq, if_true, if_false, Bool.false_eq_true, ite_true, ite_false, not_true_eq_false, not_false_eq_true, Bool.not_true, Bool.not_false, reduceIte, and_self, or_true, true_or, or_false, false_or, and_false, false_and]
    refine ⟨by omega, by omega, ?_⟩
    rw [nn]
    refine lc_draws (lo := 0) (hi := 32) hb1 hn (fun k S2 M hk hb2 hM => ?_) fun row S2 hl hr hb2 k2 => ⟨_, allD_ints row, q row S2 hr (Nat.le_of_eq hl) hb2 ((Kb.sm sm1).tr k2)⟩
    simp only [fnM, cNext, cSeq, cBrk, cCont, cDrop, cRet, cRetN, cIf, cNever, cAsg, cPar, cPar3, cAug, cFor, eC, eVar, eOp, eUn, eIf, aNil, aCons, eTup, eLst, eLstM, eCB, eFn, eAndV, eOrV, eNotV, cAnd, cOr, cNot, cB, cTru, cYes, mName, mNames, wipeM, mTup, mSub, eFrz, eAppend, eSlice, oNone, oSome, eChain, eLcG, finD, finM, iRange1, iRange2, iZip2, iSeq, bInt, bIntC, bCmp, bMulX, bAddM, eIsi, isTy, bAdd, bNeg, bIs, bIsN, isNone, bEq, bNe, bRepr, bLen, bIntOf, b2Int, bTuple, bList, bListM, bAll, bAny, tupOf, datOf, truV, okOf, bIx_tup, bIx_lst, bIx_set, lenV_set, ixN_21, ixN_20, set_1, sset_same, sset_sset, MO.lst.injEq, lenV_tup, lenV_lst, atI_0, atI_1, atI_2, atI_3, atI_4, lstOf, allD, allD_map, ex_eq_and, ex_eq_and', List.map_cons, List.map_nil, List.length_cons, List.length_nil, List.replicate, List.cons_append, List.nil_append, List.getElem?_cons_zero, List.getElem?_cons_succ, Option.some.injEq, Option.map_some, List.set, List.cons.injEq, and_true, true_and, MV.d.injEq, MV.m.injEq, PyData.int.injEq, PyData.bool.injEq, PyData.str.injEq, PyData.tuple.injEq, PyData.list.injEq, exists_and_left, exists_and_right, exists_eq_left', exists_eq_left, exists_eq_right, exists_eq', Nat.reduceAdd, Nat.reduceSub, Nat.reduceLT, Nat.reduceLeDiff, decide_eq_true_eq, Bool.not_eq_true', decide_eq_false_iff_not, reduceCtorEq, if_true, if_false, Bool.false_eq_true, ite_true, ite_false, not_true_eq_false, not_false_eq_true, Bool.not_true, Bool.not_false, reduceIte, and_self, or_true, true_or, or_false, false_or, and_false, false_and]
    refine w_draw hb2 (by decide) fun r2 S3 r2a r2b hb3 sm3 => ⟨.inl ⟨by decide, by decide⟩, hM _ _ (by omega) (by omega) hb3 (Kb.sm sm3)⟩
  rw [if_neg k2]
  simp only [c__law_torn_8, fnM, cNext, cSeq, cBrk, cCont, cDrop, cRet, cRetN, cIf, cNever, cAsg, cPar, cPar3, cAug, cFor, eC, eVar, eOp, eUn, eIf, aNil, aCons, eTup, eLst, eLstM, eCB, eFn, eAndV, eOrV, eNotV, cAnd, cOr, cNot, cB, cTru, cYes, mName, mNames, wipeM, mTup, mSub, eFrz, eAppend, eSlice, oNone, oSome, eChain, eLcG, finD, finM, iRange1, iRange2, iZip2, iSeq, bInt, bIntC, bCmp, bMulX, bAddM, eIsi, isTy, bAdd, bNeg, bIs, bIsN, isNone, bEq, bNe, bRepr, bLen, bIntOf, b2Int, bTuple, bList, bListM, bAll, bAny, tupOf, datOf, truV, okOf, bIx_tup, bIx_lst, bIx_set, lenV_set, ixN_21, ixN_20, set_1, sset_same, sset_sset, MO.lst.injEq, lenV_tup, lenV_lst, atI_0, atI_1, atI_2, atI_3, atI_4, lstOf, allD, allD_map, ex_eq_and, ex_eq_and', List.map_cons, List.map_nil, List.length_cons, List.length_nil, List.replicate, List.cons_append, List.nil_append, List.getElem?_cons_zero, List.getElem?_cons_succ, Option.some.injEq, Option.map_some, List.set, List.cons.injEq, and_true, true_and, MV.d.injEq, MV.m.injEq, PyData.int.injEq, PyData.bool.injEq, PyData.str.injEq, PyData.tuple.injEq, PyData.list.injEq, exists_and_left, exists_and_right, exists_eq_left', exists_eq_left, exists_eq_right, exists_eq', Nat.reduceAdd, Nat.reduceSub, Nat.reduceLT, Nat.reduceLeDiff, decide_eq_true_eq, Bool.not_eq_true', decide_eq_false_iff_not, reduceCtorEq, if_true, if_false, Bool.false_eq_true, ite_true, ite_false, not_true_eq_false, not_false_eq_true, Bool.not_true, Bool.not_false, reduceIte, and_self, or_true, true_or, or_false, false_or, and_false, false_and]
  refine ⟨by omega, by omega, ?_⟩
  rw [nn]
  refine lc_draws (lo := 0) (hi := 32) hb1 hn (fun k S2 M hk hb2 hM => ?_) fun row S2 hl hr hb2 k2 => ⟨_, allD_ints row, q row S2 hr (Nat.le_of_eq hl) hb2 ((Kb.sm sm1).tr k2)⟩
  simp only [fnM, cNext, cSeq, cBrk, cCont, cDrop, cRet, cRetN, cIf, cNever, cAsg, cPar, cPar3, cAug, cFor, eC, eVar, eOp, eUn, eIf, aNil, aCons, eTup, eLst, eLstM, eCB, eFn, eAndV, eOrV, eNotV, cAnd, cOr, cNot, cB, cTru, cYes, mName, mNames, wipeM, mTup, mSub, eFrz, eAppend, eSlice, oNone, oSome, eChain, eLcG, finD, finM, iRange1, iRange2, iZip2, iSeq, bInt, bIntC, bCmp, bMulX, bAddM, eIsi, isTy, bAdd, bNeg, bIs, bIsN, isNone, bEq, bNe, bRepr, bLen, bIntOf, b2Int, bTuple, bList, bListM, bAll, bAny, tupOf, datOf, truV, okOf, bIx_tup, bIx_lst, bIx_set, lenV_set, ixN_21, ixN_20, set_1, sset_same, sset_sset, MO.lst.injEq, lenV_tup, lenV_lst, atI_0, atI_1, atI_2, atI_3, atI_4, lstOf, allD, allD_map, ex_eq_and, ex_eq_and', List.map_cons, List.map_nil, List.length_cons, List.length_nil, List.replicate, List.cons_append, List.nil_append, List.getElem?_cons_zero, List.getElem?_cons_succ, Option.some.injEq, Option.map_some, List.set, List.cons.injEq, and_true, true_and, MV.d.injEq, MV.m.injEq, PyData.int.injEq, PyData.bool.injEq, PyData.str.injEq, PyData.tuple.injEq, PyData.list.injEq, exists_and_left, exists_and_right, exists_eq_left', exists_eq_left, exists_eq_right, exists_eq', Nat.reduceAdd, Nat.reduceSub, Nat.reduceLT, Nat.reduceLeDiff, decide_eq_true_eq, Bool.not_eq_true', decide_eq_false_iff_not, reduceCtorEq, if_true, if_false, Bool.false_eq_true, ite_true, ite_false, not_true_eq_false, not_false_eq_true, Bool.not_true, Bool.not_false, reduceIte, and_self, or_true, true_or, or_false, false_or, and_false, false_and]
  exact w_draw hb2 (by decide) fun r2 S3 r2a r2b hb3 sm3 => hM _ _ r2a (by omega) hb3 (Kb.sm sm3)
end

def pendM (ps : List (Nat × List Int)) : List MV := ps.map fun e => .d (.list [.int (e.1 : Int), rowD e.2])
section
variable {κ : Kap} {S : Sto} {a b : Addr} {d : DSt} {F : List Addr} {Q : QE} {X : QX}
theorem w_lsched {n : Int} {r : MV} {t : List Int} (hk : KapOk κ) (h : DiskOk κ S a d F) (hr : IsRow S r t) (ht : ∀ x ∈ t, Small x) (htl : t.length ≤ 1000) (q1 : ¬ (0 ≤ n ∧ n ≤ 100000) → Q (.d (.tuple [.str "refused", .str "many"])) S)
    (q2 : 0 ≤ n → n ≤ 100000 → ¬ TornOk t → Q (.d (.tuple [.str "refused", .str "torn"])) S)
    (q : 0 ≤ n → n ≤ 100000 → TornOk t → ∀ S' F', Ext S F S' F' → DiskOk κ S' a { d with left := some n.toNat, torn := t } F' → Q (.d .none) S') : m__law_schedule κ [.m a, .d (.int n), r] S Q X := by
  obtain ⟨fs, e, l⟩ := disk_ins h "schedule_cut" (by simp)
  simp only [m__law_schedule, c__law_schedule, c__law_schedule_1, c__law_schedule_2, cTry, exMix, atM, calmM, freedM, clsM, uTup, uFld, eMeth, fnM, cNext, cSeq, cBrk, cCont, cDrop, cRet, cRetN, cIf, cNever, cAsg, cPar, cPar3, cAug, cFor, eC, eVar, eOp, eUn, eIf, aNil, aCons, eTup, eLst, eLstM, eCB, eFn, eAndV, eOrV, eNotV, cAnd, cOr, cNot, cB, cTru, cYes, mName, mNames, wipeM, mTup, mSub, eFrz, eAppend, eSlice, oNone, oSome, eChain, eLcG, finD, finM, iRange1, iRange2, iZip2, iSeq, bInt, bIntC, bCmp, bMulX, bAddM, eIsi, isTy, bAdd, bNeg, bIs, bIsN, isNone, bEq, bNe, bRepr, bLen, bIntOf, b2Int, bTuple, bList, bListM, bAll, bAny, tupOf, datOf, truV, okOf, bIx_tup, bIx_lst, bIx_set, lenV_set, ixN_21, ixN_20, set_1, sset_same, sset_sset, MO.lst.injEq, lenV_tup, lenV_lst, atI_0, atI_1, atI_2, atI_3, atI_4, lstOf, allD, allD_map, ex_eq_and, ex_eq_and', List.map_cons, List.map_nil, List.length_cons, List.length_nil, List.replicate, List.cons_append, List.nil_append, List.getElem?_cons_zero, List.getElem?_cons_succ, Option.some.injEq, Option.map_some, List.set, List.cons.injEq, and_true, true_and, MV.d.injEq, MV.m.injEq, PyData.int.injEq, PyData.bool.injEq, PyData.str.injEq, PyData.tuple.injEq, PyData.list.injEq, exists_and_left, exists_and_right, exists_eq_left', exists_eq_left, exists_eq_right, exists_eq', Nat.reduceAdd, Nat.reduceSub, Nat.reduceLT, Nat.reduceLeDiff, decide_eq_true_eq, Bool.not_eq_true', decide_eq_false_iff_not, reduceCtorEq, if_true, if_false, Bool.false_eq_true, ite_true, ite_false, not_true_eq_false, not_false_eq_true, Bool.not_true, Bool.not_false, reduceIte, and_self, or_true, true_or, or_false, false_or, and_false, false_and]
  refine ⟨fs, e, l, w_sched h hr ht htl (fun z => ?_) (fun z1 z2 z3 => ?_) q⟩
  · exact ⟨true, hk.h_OutOfRange_OutOfRange, fun _ _ => ⟨"many", rfl, q1 z⟩, fun e => nomatch e⟩
  · exact ⟨true, hk.h_OutOfRange_OutOfRange, fun _ _ => ⟨"torn", rfl, q2 z1 z2 z3⟩, fun e => nomatch e⟩
theorem w_ldo {n : Int} {r : MV} {v : List Int} (hk : KapOk κ) (h : DiskOk κ S a d F) (hp : d.ps.length ≤ 1000) (hr : IsRow S r v) (hb : ∀ x ∈ v, Small x) (hbl : v.length ≤ 1000) (hn : n ≠ 0 - 1)
    (q1 : ¬ (0 ≤ n ∧ n < d.bs.length) → Q (.d (.tuple [.str "refused", .str "at"])) S) (q2 : 0 ≤ n → n < d.bs.length → ¬ Byt v → Q (.d (.tuple [.str "refused", .str "block"])) S)
    (q3 : 0 ≤ n → n < d.bs.length → Byt v → d.left = some 0 → ∀ S' F', Ext S F S' F' → DiskOk κ S' a ⟨cutB d.bs d.ps d.torn, [], d.cuts + 1, none, []⟩ F' → Q (.d (.tuple [.str "refused", .str "cut"])) S')
    (q : 0 ≤ n → n < d.bs.length → Byt v → d.left ≠ some 0 → ∀ S' F', Ext S F S' F' → DiskOk κ S' a { d with ps := d.ps ++ [(n.toNat, v)], left := tick d.left } F' → Q (.d .none) S') : m__law_do κ [.m a, .d (.int n), r] S Q X := by
  obtain ⟨fs, e, l⟩ := disk_ins h "write" (by simp)
  simp only [m__law_do, c__law_do, c__law_do_1, c__law_do_2, cTry, exMix, atM, calmM, freedM, clsM, uTup, uFld, eIsX, fnM, cNext, cSeq, cBrk, cCont, cDrop, cRet, cRetN, cIf, cNever, cAsg, cPar, cPar3, cAug, cFor, eC, eVar, eOp, eUn, eIf, aNil, aCons, eTup, eLst, eLstM, eCB, eFn, eAndV, eOrV, eNotV, cAnd, cOr, cNot, cB, cTru, cYes, mName, mNames, wipeM, mTup, mSub, eFrz, eAppend, eSlice, oNone, oSome, eChain, eLcG, finD, finM, iRange1, iRange2, iZip2, iSeq, bInt, bIntC, bCmp, bMulX, bAddM, eIsi, isTy, bAdd, bNeg, bIs, bIsN, isNone, bEq, bNe, bRepr, bLen, bIntOf, b2Int, bTuple, bList, bListM, bAll, bAny, tupOf, datOf, truV, okOf, bIx_tup, bIx_lst, bIx_set, lenV_set, ixN_21, ixN_20, set_1, sset_same, sset_sset, MO.lst.injEq, lenV_tup, lenV_lst, atI_0, atI_1, atI_2, atI_3, atI_4, lstOf, allD, allD_map, ex_eq_and, ex_eq_and', List.map_cons, List.map_nil, List.length_cons, List.length_nil, List.replicate, List.cons_append, List.nil_append, List.getElem?_cons_zero, List.getElem?_cons_succ, Option.some.injEq, Option.map_some, List.set, List.cons.injEq, and_true, true_and, MV.d.injEq, MV.m.injEq, PyData.int.injEq, PyData.bool.injEq, PyData.str.injEq, PyData.tuple.injEq, PyData.list.injEq, exists_and_left, exists_and_right, exists_eq_left', exists_eq_left, exists_eq_right, exists_eq', Nat.reduceAdd, Nat.reduceSub, Nat.reduceLT, Nat.reduceLeDiff, decide_eq_true_eq, Bool.not_eq_true', decide_eq_false_iff_not, reduceCtorEq, if_true, if_false, Bool.false_eq_true, ite_true, ite_false, not_true_eq_false, not_false_eq_true, Bool.not_true, Bool.not_false, reduceIte, and_self, or_true, true_or, or_false, false_or, and_false, false_and]
  simp only [m__law_do_raw, c__law_do_raw, c__law_do_raw_1, c__law_do_raw_2, c__law_do_raw_3, eMeth, fnM, cNext, cSeq, cBrk, cCont, cDrop, cRet, cRetN, cIf, cNever, cAsg, cPar, cPar3, cAug, cFor, eC, eVar, eOp, eUn, eIf, aNil, aCons, eTup, eLst, eLstM, eCB, eFn, eAndV, eOrV, eNotV, cAnd, cOr, cNot, cB, cTru, cYes, mName, mNames, wipeM, mTup, mSub, eFrz, eAppend, eSlice, oNone, oSome, eChain, eLcG, finD, finM, iRange1, iRange2, iZip2, iSeq, bInt, bIntC, bCmp, bMulX, bAddM, eIsi, isTy, bAdd, bNeg, bIs, bIsN, isNone, bEq, bNe, bRepr, bLen, bIntOf, b2Int, bTuple, bList, bListM, bAll, bAny, tupOf, datOf, truV, okOf, bIx_tup, bIx_lst, bIx_set, lenV_set, ixN_21, ixN_20, set_1, sset_same, sset_sset, MO.lst.injEq, lenV_tup, lenV_lst, atI_0, atI_1, atI_2, atI_3, atI_4, lstOf, allD, allD_map, ex_eq_and, ex_eq_and', List.map_cons, List.map_nil, List.length_cons, List.length_nil, List.replicate, List.cons_append, List.nil_append, List.getElem?_cons_zero, List.getElem?_cons_succ, Option.some.injEq, Option.map_some, List.set, List.cons.injEq, and_true, true_and, MV.d.injEq, MV.m.injEq, PyData.int.injEq, PyData.bool.injEq, PyData.str.injEq, PyData.tuple.injEq, PyData.list.injEq, exists_and_left, exists_and_right, exists_eq_left', exists_eq_left, exists_eq_right, exists_eq', Nat.reduceAdd, Nat.reduceSub, Nat.reduceLT, Nat.reduceLeDiff, decide_eq_true_eq, Bool.not_eq_true', decide_eq_false_iff_not, reduceCtorEq, if_true, if_false, Bool.false_eq_true, ite_true, ite_false, not_true_eq_false, not_false_eq_true, Bool.not_true, Bool.not_false, reduceIte, and_self, or_true, true_or, or_false, false_or, and_false, false_and]
  rw [if_neg hn]
  refine ⟨fs, e, l, w_writeG h (by omega) hr hb hbl (fun z => ?_) (fun z1 z2 z3 => ?_) (fun z1 z2 z3 z4 S' F' x1 x2 => ?_) fun z1 z2 z3 z4 S' F' x1 x2 => ?_⟩
  · exact ⟨false, hk.h_OutOfRange_PowerCut, (fun e => nomatch e), fun _ => ⟨true, hk.h_OutOfRange_OutOfRange, fun _ _ => ⟨"at", rfl, q1 z⟩, fun e => nomatch e⟩⟩
  · exact ⟨false, hk.h_OutOfRange_PowerCut, (fun e => nomatch e), fun _ => ⟨true, hk.h_OutOfRange_OutOfRange, fun _ _ => ⟨"block", rfl, q2 z1 z2 z3⟩, fun e => nomatch e⟩⟩
  · refine ⟨true, hk.h_PowerCut_PowerCut, fun _ _ => ⟨rfl, true, hk.i_PowerCut_RestError, ?_⟩, fun e => nomatch e⟩
    rw [if_pos rfl]
    refine ⟨rfl, false, hk.i_PowerCut_OutOfRange, ?_⟩
    rw [if_pos rfl]
    exact ⟨by decide, q3 z1 z2 z3 z4 S' F' x1 x2⟩
  · simp only [c__law_do_9, fnM, cNext, cSeq, cBrk, cCont, cDrop, cRet, cRetN, cIf, cNever, cAsg, cPar, cPar3, cAug, cFor, eC, eVar, eOp, eUn, eIf, aNil, aCons, eTup, eLst, eLstM, eCB, eFn, eAndV, eOrV, eNotV, cAnd, cOr, cNot, cB, cTru, cYes, mName, mNames, wipeM, mTup, mSub, eFrz, eAppend, eSlice, oNone, oSome, eChain, eLcG, finD, finM, iRange1, iRange2, iZip2, iSeq, bInt, bIntC, bCmp, bMulX, bAddM, eIsi, isTy, bAdd, bNeg, bIs, bIsN, isNone, bEq, bNe, bRepr, bLen, bIntOf, b2Int, bTuple, bList, bListM, bAll, bAny, tupOf, datOf, truV, okOf, bIx_tup, bIx_lst, bIx_set, lenV_set, ixN_21, ixN_20, set_1, sset_same, sset_sset, MO.lst.injEq, lenV_tup, lenV_lst, atI_0, atI_1, atI_2, atI_3, atI_4, lstOf, allD, allD_map, ex_eq_and, ex_eq_and', List.map_cons, List.map_nil, List.length_cons, List.length_nil, List.replicate, List.cons_append, List.nil_append, List.getElem?_cons_zero, List.getElem?_cons_succ, Option.some.injEq, Option.map_some, List.set, List.cons.injEq, and_true, true_and, MV.d.injEq, MV.m.injEq, PyData.int.injEq, PyData.bool.injEq, PyData.str.injEq, PyData.tuple.injEq, PyData.list.injEq, exists_and_left, exists_and_right, exists_eq_left', exists_eq_left, exists_eq_right, exists_eq', Nat.reduceAdd, Nat.reduceSub, Nat.reduceLT, Nat.reduceLeDiff, decide_eq_true_eq, Bool.not_eq_true', decide_eq_false_iff_not, reduceCtorEq, if_true, if_false, Bool.false_eq_true, ite_true, ite_false, not_true_eq_false, not_false_eq_true, Bool.not_true, Bool.not_false, reduceIte, and_self, or_true, true_or, or_false, false_or, and_false, false_and]
    exact q z1 z2 z3 z4 S' F' x1 x2
theorem w_lflush {r : MV} (hk : KapOk κ) (h : DiskOk κ S a d F) (q3 : d.left = some 0 → ∀ S' F', Ext S F S' F' → DiskOk κ S' a ⟨cutB d.bs d.ps d.torn, [], d.cuts + 1, none, []⟩ F' → Q (.d (.tuple [.str "refused", .str "cut"])) S')
    (q : d.left ≠ some 0 → ∀ S' F', Ext S F S' F' → DiskOk κ S' a { d with bs := flushB d.bs d.ps, ps := [], left := tick d.left } F' → Q (.d .none) S') : m__law_do κ [.m a, .d (.int (0 - 1)), r] S Q X := by
  obtain ⟨fs, e, l⟩ := disk_ins h "flush" (by simp)
  simp only [m__law_do, c__law_do, c__law_do_1, c__law_do_2, cTry, exMix, atM, calmM, freedM, clsM, uTup, uFld, eIsX, fnM, cNext, cSeq, cBrk, cCont, cDrop, cRet, cRetN, cIf, cNever, cAsg, cPar, cPar3, cAug, cFor, eC, eVar, eOp, eUn, eIf, aNil, aCons, eTup, eLst, eLstM, eCB, eFn, eAndV, eOrV, eNotV, cAnd, cOr, cNot, cB, cTru, cYes, mName, mNames, wipeM, mTup, mSub, eFrz, eAppend, eSlice, oNone, oSome, eChain, eLcG, finD, finM, iRange1, iRange2, iZip2, iSeq, bInt, bIntC, bCmp, bMulX, bAddM, eIsi, isTy, bAdd, bNeg, bIs, bIsN, isNone, bEq, bNe, bRepr, bLen, bIntOf, b2Int, bTuple, bList, bListM, bAll, bAny, tupOf, datOf, truV, okOf, bIx_tup, bIx_lst, bIx_set, lenV_set, ixN_21, ixN_20, set_1, sset_same, sset_sset, MO.lst.injEq, lenV_tup, lenV_lst, atI_0, atI_1, atI_2, atI_3, atI_4, lstOf, allD, allD_map, ex_eq_and, ex_eq_and', List.map_cons, List.map_nil, List.length_cons, List.length_nil, List.replicate, List.cons_append, List.nil_append, List.getElem?_cons_zero, List.getElem?_cons_succ, Option.some.injEq, Option.map_some, List.set, List.cons.injEq, and_true, true_and, MV.d.injEq, MV.m.injEq, PyData.int.injEq, PyData.bool.injEq, PyData.str.injEq, PyData.tuple.injEq, PyData.list.injEq, exists_and_left, exists_and_right, exists_eq_left', exists_eq_left, exists_eq_right, exists_eq', Nat.reduceAdd, Nat.reduceSub, Nat.reduceLT, Nat.reduceLeDiff, decide_eq_true_eq, Bool.not_eq_true', decide_eq_false_iff_not, reduceCtorEq, if_true, if_false, Bool.false_eq_true, ite_true, ite_false, not_true_eq_false, not_false_eq_true, Bool.not_true, Bool.not_false, reduceIte, and_self, or_true, true_or, or_false, false_or, and_false, false_and]
  simp only [m__law_do_raw, c__law_do_raw, c__law_do_raw_1, c__law_do_raw_2, c__law_do_raw_3, eMeth, fnM, cNext, cSeq, cBrk, cCont, cDrop, cRet, cRetN, cIf, cNever, cAsg, cPar, cPar3, cAug, cFor, eC, eVar, eOp, eUn, eIf, aNil, aCons, eTup, eLst, eLstM, eCB, eFn, eAndV, eOrV, eNotV, cAnd, cOr, cNot, cB, cTru, cYes, mName, mNames, wipeM, mTup, mSub, eFrz, eAppend, eSlice, oNone, oSome, eChain, eLcG, finD, finM, iRange1, iRange2, iZip2, iSeq, bInt, bIntC, bCmp, bMulX, bAddM, eIsi, isTy, bAdd, bNeg, bIs, bIsN, isNone, bEq, bNe, bRepr, bLen, bIntOf, b2Int, bTuple, bList, bListM, bAll, bAny, tupOf, datOf, truV, okOf, bIx_tup, bIx_lst, bIx_set, lenV_set, ixN_21, ixN_20, set_1, sset_same, sset_sset, MO.lst.injEq, lenV_tup, lenV_lst, atI_0, atI_1, atI_2, atI_3, atI_4, lstOf, allD, allD_map, ex_eq_and, ex_eq_and', List.map_cons, List.map_nil, List.length_cons, List.length_nil, List.replicate, List.cons_append, List.nil_append, List.getElem?_cons_zero, List.getElem?_cons_succ, Option.some.injEq, Option.map_some, List.set, List.cons.injEq, and_true, true_and, MV.d.injEq, MV.m.injEq, PyData.int.injEq, PyData.bool.injEq, PyData.str.injEq, PyData.tuple.injEq, PyData.list.injEq, exists_and_left, exists_and_right, exists_eq_left', exists_eq_left, exists_eq_right, exists_eq', Nat.reduceAdd, Nat.reduceSub, Nat.reduceLT, Nat.reduceLeDiff, decide_eq_true_eq, Bool.not_eq_true', decide_eq_false_iff_not, reduceCtorEq, if_true, if_false, Bool.false_eq_true, ite_true, ite_false, not_true_eq_false, not_false_eq_true, Bool.not_true, Bool.not_false, reduceIte, and_self, or_true, true_or, or_false, false_or, and_false, false_and]
  refine ⟨fs, e, l, w_flushG h (fun z4 S' F' x1 x2 => ?_) fun z4 S' F' x1 x2 => ?_⟩
  · refine ⟨true, hk.h_PowerCut_PowerCut, fun _ _ => ⟨rfl, true, hk.i_PowerCut_RestError, ?_⟩, fun e => nomatch e⟩
    rw [if_pos rfl]
    refine ⟨rfl, false, hk.i_PowerCut_OutOfRange, ?_⟩
    rw [if_pos rfl]
    exact ⟨by decide, q3 z4 S' F' x1 x2⟩
  · simp only [c__law_do_9, fnM, cNext, cSeq, cBrk, cCont, cDrop, cRet, cRetN, cIf, cNever, cAsg, cPar, cPar3, cAug, cFor, eC, eVar, eOp, eUn, eIf, aNil, aCons, eTup, eLst, eLstM, eCB, eFn, eAndV, eOrV, eNotV, cAnd, cOr, cNot, cB, cTru, cYes, mName, mNames, wipeM, mTup, mSub, eFrz, eAppend, eSlice, oNone, oSome, eChain, eLcG, finD, finM, iRange1, iRange2, iZip2, iSeq, bInt, bIntC, bCmp, bMulX, bAddM, eIsi, isTy, bAdd, bNeg, bIs, bIsN, isNone, bEq, bNe, bRepr, bLen, bIntOf, b2Int, bTuple, bList, bListM, bAll, bAny, tupOf, datOf, truV, okOf, bIx_tup, bIx_lst, bIx_set, lenV_set, ixN_21, ixN_20, set_1, sset_same, sset_sset, MO.lst.injEq, lenV_tup, lenV_lst, atI_0, atI_1, atI_2, atI_3, atI_4, lstOf, allD, allD_map, ex_eq_and, ex_eq_and', List.map_cons, List.map_nil, List.length_cons, List.length_nil, List.replicate, List.cons_append, List.nil_append, List.getElem?_cons_zero, List.getElem?_cons_succ, Option.some.injEq, Option.map_some, List.set, List.cons.injEq, and_true, true_and, MV.d.injEq, MV.m.injEq, PyData.int.injEq, PyData.bool.injEq, PyData.str.injEq, PyData.tuple.injEq, PyData.list.injEq, exists_and_left, exists_and_right, exists_eq_left', exists_eq_left, exists_eq_right, exists_eq', Nat.reduceAdd, Nat.reduceSub, Nat.reduceLT, Nat.reduceLeDiff, decide_eq_true_eq, Bool.not_eq_true', decide_eq_false_iff_not, reduceCtorEq, if_true, if_false, Bool.false_eq_true, ite_true, ite_false, not_true_eq_false, not_false_eq_true, Bool.not_true, Bool.not_false, reduceIte, and_self, or_true, true_or, or_false, false_or, and_false, false_and]
    exact q z4 S' F' x1 x2
end

end K42
namespace K42
open PySem PySem.Spec PyProof.Rows L2 Mi
/-- what stands between the turns -/
structure LInv (κ : Kap) (b a pB pW : Addr) (n : Nat) (i : Nat) (S : Sto) (d : DSt) (F : List Addr) : Prop where
  box : BoxOk S b
  disk : DiskOk κ S a d F
  bl : S pB = some (.lst (d.bs.map fun r => .d (rowD r)))
  pe : S pW = some (.lst (pendM d.ps))
  nb : b ∉ F
  nB : pB ∉ F
  nW : pW ∉ F
  bB : pB ≠ b
  bW : pW ≠ b
  BW : pB ≠ pW
  len : d.bs.length = n
  few : d.ps.length ≤ i
theorem LInv.move {κ : Kap} {b a pB pW : Addr} {n i : Nat} {S S' : Sto} {d : DSt} {F : List Addr} (h : LInv κ b a pB pW n i S d F) (hb : BoxOk S' b) (k : Kb b S S') : LInv κ b a pB pW n i S' d F :=
  { h with box := hb, disk := disk_keep h.disk (fun c hc => by
      obtain ⟨o, e⟩ := disk_there h.disk c hc
      rw [e]
      exact k c o (fun z => h.nb (z ▸ hc)) e), bl := k _ _ h.bB h.bl, pe := k _ _ h.bW h.pe }
theorem LInv.ext {κ : Kap} {b a pB pW : Addr} {n i : Nat} {S S' : Sto} {d d' : DSt} {F F' : List Addr} (h : LInv κ b a pB pW n i S d F) (e : Ext S F S' F') (hd : DiskOk κ S' a d' F') (eb : d'.bs = d.bs) (ep : d'.ps = d.ps) : LInv κ b a pB pW n i S' d' F' := by
  obtain ⟨ds, z, e1, e2⟩ := h.box
  exact ⟨⟨ds, z, e.keep b _ h.nb e1, e2⟩, hd, by rw [eb]; exact e.keep _ _ h.nB h.bl, by rw [ep]; exact e.keep _ _ h.nW h.pe, e.out h.nb e1, e.out h.nB h.bl, e.out h.nW h.pe, h.bB, h.bW, h.BW, by rw [eb]; exact h.len, by rw [ep]; exact h.few⟩
theorem box_put {b p : Addr} {S : Sto} {o : MO} (hb : BoxOk S b) (h : p ≠ b) : BoxOk (sset S p o) b := by
  obtain ⟨ds, i, e1, e2⟩ := hb
  exact ⟨ds, i, by rw [sset_ne h.symm]; exact e1, e2⟩
theorem disk_put {κ : Kap} {S : Sto} {a p : Addr} {d : DSt} {F : List Addr} {o : MO} (h : DiskOk κ S a d F) (n : p ∉ F) : DiskOk κ (sset S p o) a d F := disk_keep h fun c hc => sset_ne fun z => n (z ▸ hc)
theorem LInv.put {κ : Kap} {b a pB pW p : Addr} {n i : Nat} {S : Sto} {d : DSt} {F : List Addr} {o : MO} (h : LInv κ b a pB pW n i S d F) (h1 : p ≠ b) (h2 : p ≠ pB) (h3 : p ≠ pW) (h4 : p ∉ F) : LInv κ b a pB pW n i (sset S p o) d F :=
  { h with box := box_put h.box h1, disk := disk_put h.disk h4, bl := by rw [sset_ne h2.symm]; exact h.bl, pe := by rw [sset_ne h3.symm]; exact h.pe }
theorem LInv.clear {κ : Kap} {b a pB pW pW2 : Addr} {n i : Nat} {S S1 : Sto} {d d1 : DSt} {F F1 : List Addr} (h : LInv κ b a pB pW n i S d F) (hb : BoxOk S1 b) (hd : DiskOk κ S1 a d1 F1) (eB : S1 pB = some (.lst (d1.bs.map fun r => .d (rowD r)))) (nb : b ∉ F1) (nB : pB ∉ F1) (l : d1.bs.length = n) (p : d1.ps = []) (nW : S1 pW2 = none) :
    LInv κ b a pB pW2 n (i + 1) (sset S1 pW2 (.lst [])) d1 F1 := by
  have WB : pB ≠ pW2 := fun z => by rw [z, nW] at eB; cases eB
  refine ⟨box_new hb nW, disk_new hd nW, by rw [sset_ne WB]; exact eB, by rw [sset_same, p]; rfl, nb, nB, fun z => ?_, h.bB, fun z => ?_, WB, l, by rw [p]; exact Nat.zero_le _⟩
  · obtain ⟨o, e⟩ := disk_there hd pW2 z
    rw [nW] at e
    cases e
  · obtain ⟨d0, i0, z1, _⟩ := hb
    rw [← z, nW] at z1
    cases z1
theorem LInv.up {κ : Kap} {b a pB pW : Addr} {n i : Nat} {S : Sto} {d : DSt} {F : List Addr} (h : LInv κ b a pB pW n i S d F) : LInv κ b a pB pW n (i + 1) S d F := { h with few := Nat.le_succ_of_le h.few }
/-- what the law knows of the schedule -/
def leftI (d : DSt) : Int := match d.left with
  | none => 0 - 1
  | some k => (k : Int)
structure LeftOk (d : DSt) (tn : List Int) : Prop where
  ok : TornOk tn
  len : tn.length ≤ 9
  same : d.left ≠ none → d.torn = tn
theorem law_ok (κ : Kap) (hk : KapOk κ) : LawOk (m_law κ) := by
  intro ns hl
  simp only [m_law, c_law, c_law_1, fnM, cNext, cSeq, cBrk, cCont, cDrop, cRet, cRetN, cIf, cNever, cAsg, cPar, cPar3, cAug, cFor, eC, eVar, eOp, eUn, eIf, aNil, aCons, eTup, eLst, eLstM, eCB, eFn, eAndV, eOrV, eNotV, cAnd, cOr, cNot, cB, cTru, cYes, mName, mNames, wipeM, mTup, mSub, eFrz, eAppend, eSlice, oNone, oSome, eChain, eLcG, finD, finM, iRange1, iRange2, iZip2, iSeq, bInt, bIntC, bCmp, bMulX, bAddM, eIsi, isTy, bAdd, bNeg, bIs, bIsN, isNone, bEq, bNe, bRepr, bLen, bIntOf, b2Int, bTuple, bList, bListM, bAll, bAny, tupOf, datOf, truV, okOf, bIx_tup, bIx_lst, bIx_set, lenV_set, ixN_21, ixN_20, set_1, sset_same, sset_sset, MO.lst.injEq, lenV_tup, lenV_lst, atI_0, atI_1, atI_2, atI_3, atI_4, lstOf, allD, allD_map, ex_eq_and, ex_eq_and', List.map_cons, List.map_nil, List.length_cons, List.length_nil, List.replicate, List.cons_append, List.nil_append, List.getElem?_cons_zero, List.getElem?_cons_succ, Option.some.injEq, Option.map_some, List.set, List.cons.injEq, and_true, true_and, MV.d.injEq, MV.m.injEq, PyData.int.injEq, PyData.bool.injEq, PyData.str.injEq, PyData.tuple.injEq, PyData.list.injEq, exists_and_left, exists_and_right, exists_eq_left', exists_eq_left, exists_eq_right, exists_eq', Nat.reduceAdd, Nat.reduceSub, Nat.reduceLT, Nat.reduceLeDiff, decide_eq_true_eq, Bool.not_eq_true', decide_eq_false_iff_not, reduceCtorEq, if_true, if_false, Bool.false_eq_true, ite_true, ite_false, not_true_eq_false, not_false_eq_true, Bool.not_true, Bool.not_false, reduceIte, and_self, or_true, true_or, or_false, false_or, and_false, false_and]
  refine w_digits fun ds => ?_
  simp only [fnM, cNext, cSeq, cBrk, cCont, cDrop, cRet, cRetN, cIf, cNever, cAsg, cPar, cPar3, cAug, cFor, eC, eVar, eOp, eUn, eIf, aNil, aCons, eTup, eLst, eLstM, eCB, eFn, eAndV, eOrV, eNotV, cAnd, cOr, cNot, cB, cTru, cYes, mName, mNames, wipeM, mTup, mSub, eFrz, eAppend, eSlice, oNone, oSome, eChain, eLcG, finD, finM, iRange1, iRange2, iZip2, iSeq, bInt, bIntC, bCmp, bMulX, bAddM, eIsi, isTy, bAdd, bNeg, bIs, bIsN, isNone, bEq, bNe, bRepr, bLen, bIntOf, b2Int, bTuple, bList, bListM, bAll, bAny, tupOf, datOf, truV, okOf, bIx_tup, bIx_lst, bIx_set, lenV_set, ixN_21, ixN_20, set_1, sset_same, sset_sset, MO.lst.injEq, lenV_tup, lenV_lst, atI_0, atI_1, atI_2, atI_3, atI_4, lstOf, allD, allD_map, ex_eq_and, ex_eq_and', List.map_cons, List.map_nil, List.length_cons, List.length_nil, List.replicate, List.cons_append, List.nil_append, List.getElem?_cons_zero, List.getElem?_cons_succ, Option.some.injEq, Option.map_some, List.set, List.cons.injEq, and_true, true_and, MV.d.injEq, MV.m.injEq, PyData.int.injEq, PyData.bool.injEq, PyData.str.injEq, PyData.tuple.injEq, PyData.list.injEq, exists_and_left, exists_and_right, exists_eq_left', exists_eq_left, exists_eq_right, exists_eq', Nat.reduceAdd, Nat.reduceSub, Nat.reduceLT, Nat.reduceLeDiff, decide_eq_true_eq, Bool.not_eq_true', decide_eq_false_iff_not, reduceCtorEq, if_true, if_false, Bool.false_eq_true, ite_true, ite_false, not_true_eq_false, not_false_eq_true, Bool.not_true, Bool.not_false, reduceIte, and_self, or_true, true_or, or_false, false_or, and_false, false_and]
  refine ⟨by decide, fun b _ => ?_⟩
  have hb0 : BoxOk (sset (fun _ => none) b (.lst [.d (.list (ds.map .int)), .d (.int 0)])) b := ⟨ds, 0, sset_same, by decide⟩
  generalize (sset (fun _ => none) b (.lst [.d (.list (ds.map .int)), .d (.int 0)])) = S0 at hb0
  simp only [c_law_2, fnM, cNext, cSeq, cBrk, cCont, cDrop, cRet, cRetN, cIf, cNever, cAsg, cPar, cPar3, cAug, cFor, eC, eVar, eOp, eUn, eIf, aNil, aCons, eTup, eLst, eLstM, eCB, eFn, eAndV, eOrV, eNotV, cAnd, cOr, cNot, cB, cTru, cYes, mName, mNames, wipeM, mTup, mSub, eFrz, eAppend, eSlice, oNone, oSome, eChain, eLcG, finD, finM, iRange1, iRange2, iZip2, iSeq, bInt, bIntC, bCmp, bMulX, bAddM, eIsi, isTy, bAdd, bNeg, bIs, bIsN, isNone, bEq, bNe, bRepr, bLen, bIntOf, b2Int, bTuple, bList, bListM, bAll, bAny, tupOf, datOf, truV, okOf, bIx_tup, bIx_lst, bIx_set, lenV_set, ixN_21, ixN_20, set_1, sset_same, sset_sset, MO.lst.injEq, lenV_tup, lenV_lst, atI_0, atI_1, atI_2, atI_3, atI_4, lstOf, allD, allD_map, ex_eq_and, ex_eq_and', List.map_cons, List.map_nil, List.length_cons, List.length_nil, List.replicate, List.cons_append, List.nil_append, List.getElem?_cons_zero, List.getElem?_cons_succ, Option.some.injEq, Option.map_some, List.set, List.cons.injEq, and_true, true_and, MV.d.injEq, MV.m.injEq, PyData.int.injEq, PyData.bool.injEq, PyData.str.injEq, PyData.tuple.injEq, PyData.list.injEq, exists_and_left, exists_and_right, exists_eq_left', exists_eq_left, exists_eq_right, exists_eq', Nat.reduceAdd, Nat.reduceSub, Nat.reduceLT, Nat.reduceLeDiff, decide_eq_true_eq, Bool.not_eq_true', decide_eq_false_iff_not, reduceCtorEq, if_true, if_false, Bool.false_eq_true, ite_true, ite_false, not_true_eq_false, not_false_eq_true, Bool.not_true, Bool.not_false, reduceIte, and_self, or_true, true_or, or_false, false_or, and_false, false_and]
  refine w_draw hb0 (by decide) fun r1 S2 r1a r1b hb2 _ => ?_
  obtain ⟨m, em, m0, m1⟩ : ∃ m : Nat, 8 + r1 = m ∧ 8 ≤ m ∧ m ≤ 11 := ⟨(8 + r1).toNat, by omega, by omega, by omega⟩
  simp only [fnM, cNext, cSeq, cBrk, cCont, cDrop, cRet, cRetN, cIf, cNever, cAsg, cPar, cPar3, cAug, cFor, eC, eVar, eOp, eUn, eIf, aNil, aCons, eTup, eLst, eLstM, eCB, eFn, eAndV, eOrV, eNotV, cAnd, cOr, cNot, cB, cTru, cYes, mName, mNames, wipeM, mTup, mSub, eFrz, eAppend, eSlice, oNone, oSome, eChain, eLcG, finD, finM, iRange1, iRange2, iZip2, iSeq, bInt, bIntC, bCmp, bMulX, bAddM, eIsi, isTy, bAdd, bNeg, bIs, bIsN, isNone, bEq, bNe, bRepr, bLen, bIntOf, b2Int, bTuple, bList, bListM, bAll, bAny, tupOf, datOf, truV, okOf, bIx_tup, bIx_lst, bIx_set, lenV_set, ixN_21, ixN_20, set_1, sset_same, sset_sset, MO.lst.injEq, lenV_tup, lenV_lst, atI_0, atI_1, atI_2, atI_3, atI_4, lstOf, allD, allD_map, ex_eq_and, ex_eq_and', List.map_cons, List.map_nil, List.length_cons, List.length_nil, List.replicate, List.cons_append, List.nil_append, List.getElem?_cons_zero, List.getElem?_cons_succ, Option.some.injEq, Option.map_some, List.set, List.cons.injEq, and_true, true_and, MV.d.injEq, MV.m.injEq, PyData.int.injEq, PyData.bool.injEq, PyData.str.injEq, PyData.tuple.injEq, PyData.list.injEq, exists_and_left, exists_and_right, exists_eq_left', exists_eq_left, exists_eq_right, exists_eq', Nat.reduceAdd, Nat.reduceSub, Nat.reduceLT, Nat.reduceLeDiff, decide_eq_true_eq, Bool.not_eq_true', decide_eq_false_iff_not, reduceCtorEq, if_true, if_false, Bool.false_eq_true, ite_true, ite_false, not_true_eq_false, not_false_eq_true, Bool.not_true, Bool.not_false, reduceIte, and_self, or_true, true_or, or_false, false_or, and_false, false_and]
  rw [em]
  simp only [c_law_3, eMake, fnM, cNext, cSeq, cBrk, cCont, cDrop, cRet, cRetN, cIf, cNever, cAsg, cPar, cPar3, cAug, cFor, eC, eVar, eOp, eUn, eIf, aNil, aCons, eTup, eLst, eLstM, eCB, eFn, eAndV, eOrV, eNotV, cAnd, cOr, cNot, cB, cTru, cYes, mName, mNames, wipeM, mTup, mSub, eFrz, eAppend, eSlice, oNone, oSome, eChain, eLcG, finD, finM, iRange1, iRange2, iZip2, iSeq, bInt, bIntC, bCmp, bMulX, bAddM, eIsi, isTy, bAdd, bNeg, bIs, bIsN, isNone, bEq, bNe, bRepr, bLen, bIntOf, b2Int, bTuple, bList, bListM, bAll, bAny, tupOf, datOf, truV, okOf, bIx_tup, bIx_lst, bIx_set, lenV_set, ixN_21, ixN_20, set_1, sset_same, sset_sset, MO.lst.injEq, lenV_tup, lenV_lst, atI_0, atI_1, atI_2, atI_3, atI_4, lstOf, allD, allD_map, ex_eq_and, ex_eq_and', List.map_cons, List.map_nil, List.length_cons, List.length_nil, List.replicate, List.cons_append, List.nil_append, List.getElem?_cons_zero, List.getElem?_cons_succ, Option.some.injEq, Option.map_some, List.set, List.cons.injEq, and_true, true_and, MV.d.injEq, MV.m.injEq, PyData.int.injEq, PyData.bool.injEq, PyData.str.injEq, PyData.tuple.injEq, PyData.list.injEq, exists_and_left, exists_and_right, exists_eq_left', exists_eq_left, exists_eq_right, exists_eq', Nat.reduceAdd, Nat.reduceSub, Nat.reduceLT, Nat.reduceLeDiff, decide_eq_true_eq, Bool.not_eq_true', decide_eq_false_iff_not, reduceCtorEq, if_true, if_false, Bool.false_eq_true, ite_true, ite_false, not_true_eq_false, not_false_eq_true, Bool.not_true, Bool.not_false, reduceIte, and_self, or_true, true_or, or_false, false_or, and_false, false_and]
  intro a na
  have ba : b ≠ a := fun z => by obtain ⟨d0, i0, z1, _⟩ := hb2; rw [z, na] at z1; cases z1
  refine w_make sset_same (fun z => absurd ⟨by omega, by omega⟩ z) fun _ _ S3 F3 x3 a3 h3 => ⟨rfl, ?_⟩
  have hb3 : BoxOk S3 b := by
    obtain ⟨d0, i0, z1, z2⟩ := hb2
    exact ⟨d0, i0, x3.keep b _ (by simpa using ba) (by rw [sset_ne ba]; exact z1), z2⟩
  have nb3 : b ∉ F3 := fun z => by
    rcases x3.fresh b z with z | z
    · exact ba (by simpa using z)
    · obtain ⟨d0, i0, z1, _⟩ := hb2
      rw [sset_ne ba, z1] at z
      cases z
  rw [Int.toNat_natCast] at h3
  have e32 : (List.replicate (Int.toNat 32) ([PyData.int 0] : List PyData)).flatten = (List.replicate 32 (0 : Int)).map .int := rep_zero 32
  obtain ⟨z32, d32⟩ : ∃ z, z = List.replicate 32 (0 : Int) := ⟨_, rfl⟩
  have b32 : Byt z32 := by rw [d32]; exact ⟨List.length_replicate, fun x hx => by rw [List.eq_of_mem_replicate hx]; decide⟩
  rw [← d32] at e32 h3
  obtain ⟨d3, ed3⟩ : ∃ d3, d3 = DSt.mk (List.replicate m z32) [] 0 none [] := ⟨_, rfl⟩
  rw [← ed3] at h3
  simp only [c_law_4, fnM, cNext, cSeq, cBrk, cCont, cDrop, cRet, cRetN, cIf, cNever, cAsg, cPar, cPar3, cAug, cFor, eC, eVar, eOp, eUn, eIf, aNil, aCons, eTup, eLst, eLstM, eCB, eFn, eAndV, eOrV, eNotV, cAnd, cOr, cNot, cB, cTru, cYes, mName, mNames, wipeM, mTup, mSub, eFrz, eAppend, eSlice, oNone, oSome, eChain, eLcG, finD, finM, iRange1, iRange2, iZip2, iSeq, bInt, bIntC, bCmp, bMulX, bAddM, eIsi, isTy, bAdd, bNeg, bIs, bIsN, isNone, bEq, bNe, bRepr, bLen, bIntOf, b2Int, bTuple, bList, bListM, bAll, bAny, tupOf, datOf, truV, okOf, bIx_tup, bIx_lst, bIx_set, lenV_set, ixN_21, ixN_20, set_1, sset_same, sset_sset, MO.lst.injEq, lenV_tup, lenV_lst, atI_0, atI_1, atI_2, atI_3, atI_4, lstOf, allD, allD_map, ex_eq_and, ex_eq_and', List.map_cons, List.map_nil, List.length_cons, List.length_nil, List.replicate, List.cons_append, List.nil_append, List.getElem?_cons_zero, List.getElem?_cons_succ, Option.some.injEq, Option.map_some, List.set, List.cons.injEq, and_true, true_and, MV.d.injEq, MV.m.injEq, PyData.int.injEq, PyData.bool.injEq, PyData.str.injEq, PyData.tuple.injEq, PyData.list.injEq, exists_and_left, exists_and_right, exists_eq_left', exists_eq_left, exists_eq_right, exists_eq', Nat.reduceAdd, Nat.reduceSub, Nat.reduceLT, Nat.reduceLeDiff, decide_eq_true_eq, Bool.not_eq_true', decide_eq_false_iff_not, reduceCtorEq, if_true, if_false, Bool.false_eq_true, ite_true, ite_false, not_true_eq_false, not_false_eq_true, Bool.not_true, Bool.not_false, reduceIte, and_self, or_true, true_or, or_false, false_or, and_false, false_and]
  refine ⟨by omega, by omega, ?_⟩
  rw [Int.toNat_natCast]
  refine lcL_inv (fun k acc S' => BoxOk S' b ∧ DiskOk κ S' a d3 F3 ∧ acc = (List.replicate k z32).map (fun r => .d (rowD r))) _ 0 _ _ ⟨hb3, h3, rfl⟩ (fun _ _ _ _ => trivial) ?_ ?_
  · rintro k y acc S4 N ey ⟨hb4, h4, rfl⟩ hN
    rw [Nat.zero_add] at hN
    obtain ⟨hk4, rfl⟩ := rng_some ey
    simp only [e32, fnM, cNext, cSeq, cBrk, cCont, cDrop, cRet, cRetN, cIf, cNever, cAsg, cPar, cPar3, cAug, cFor, eC, eVar, eOp, eUn, eIf, aNil, aCons, eTup, eLst, eLstM, eCB, eFn, eAndV, eOrV, eNotV, cAnd, cOr, cNot, cB, cTru, cYes, mName, mNames, wipeM, mTup, mSub, eFrz, eAppend, eSlice, oNone, oSome, eChain, eLcG, finD, finM, iRange1, iRange2, iZip2, iSeq, bInt, bIntC, bCmp, bMulX, bAddM, eIsi, isTy, bAdd, bNeg, bIs, bIsN, isNone, bEq, bNe, bRepr, bLen, bIntOf, b2Int, bTuple, bList, bListM, bAll, bAny, tupOf, datOf, truV, okOf, bIx_tup, bIx_lst, bIx_set, lenV_set, ixN_21, ixN_20, set_1, sset_same, sset_sset, MO.lst.injEq, lenV_tup, lenV_lst, atI_0, atI_1, atI_2, atI_3, atI_4, lstOf, allD, allD_map, ex_eq_and, ex_eq_and', List.map_cons, List.map_nil, List.length_cons, List.length_nil, List.replicate, List.cons_append, List.nil_append, List.getElem?_cons_zero, List.getElem?_cons_succ, Option.some.injEq, Option.map_some, List.set, List.cons.injEq, and_true, true_and, MV.d.injEq, MV.m.injEq, PyData.int.injEq, PyData.bool.injEq, PyData.str.injEq, PyData.tuple.injEq, PyData.list.injEq, exists_and_left, exists_and_right, exists_eq_left', exists_eq_left, exists_eq_right, exists_eq', Nat.reduceAdd, Nat.reduceSub, Nat.reduceLT, Nat.reduceLeDiff, decide_eq_true_eq, Bool.not_eq_true', decide_eq_false_iff_not, reduceCtorEq, if_true, if_false, Bool.false_eq_true, ite_true, ite_false, not_true_eq_false, not_false_eq_true, Bool.not_true, Bool.not_false, reduceIte, and_self, or_true, true_or, or_false, false_or, and_false, false_and]
    refine ⟨by decide, fun p np => ⟨by decide, by decide, ?_, hN _ _ ⟨box_new hb4 np, disk_new h4 np, ?_⟩⟩⟩
    · rw [List.length_map, List.length_replicate]
      exact line_big (by omega)
    · rw [Nat.zero_add, List.replicate_succ', List.map_append]
      rfl
  · rintro acc S4 ⟨hb4, h4, rfl⟩ pB nB
    rw [rng_length, Nat.zero_add]
    have bB : b ≠ pB := fun z => by obtain ⟨d0, i0, z1, _⟩ := hb4; rw [z, nB] at z1; cases z1
    have hb5 := box_new (o := .lst ((List.replicate m z32).map fun r => .d (rowD r))) hb4 nB
    have h5 := disk_new (o := .lst ((List.replicate m z32).map fun r => .d (rowD r))) h4 nB
    have nBF : pB ∉ F3 := fun z => by obtain ⟨o, e⟩ := disk_there h4 pB z; rw [nB] at e; cases e
    have e5 : (sset S4 pB (.lst ((List.replicate m z32).map fun r => .d (rowD r)))) pB = some (.lst ((List.replicate m z32).map fun r => .d (rowD r))) := sset_same
    generalize (sset S4 pB (.lst ((List.replicate m z32).map fun r => .d (rowD r)))) = S5 at hb5 h5 e5
    simp only [c_law_5, fnM, cNext, cSeq, cBrk, cCont, cDrop, cRet, cRetN, cIf, cNever, cAsg, cPar, cPar3, cAug, cFor, eC, eVar, eOp, eUn, eIf, aNil, aCons, eTup, eLst, eLstM, eCB, eFn, eAndV, eOrV, eNotV, cAnd, cOr, cNot, cB, cTru, cYes, mName, mNames, wipeM, mTup, mSub, eFrz, eAppend, eSlice, oNone, oSome, eChain, eLcG, finD, finM, iRange1, iRange2, iZip2, iSeq, bInt, bIntC, bCmp, bMulX, bAddM, eIsi, isTy, bAdd, bNeg, bIs, bIsN, isNone, bEq, bNe, bRepr, bLen, bIntOf, b2Int, bTuple, bList, bListM, bAll, bAny, tupOf, datOf, truV, okOf, bIx_tup, bIx_lst, bIx_set, lenV_set, ixN_21, ixN_20, set_1, sset_same, sset_sset, MO.lst.injEq, lenV_tup, lenV_lst, atI_0, atI_1, atI_2, atI_3, atI_4, lstOf, allD, allD_map, ex_eq_and, ex_eq_and', List.map_cons, List.map_nil, List.length_cons, List.length_nil, List.replicate, List.cons_append, List.nil_append, List.getElem?_cons_zero, List.getElem?_cons_succ, Option.some.injEq, Option.map_some, List.set, List.cons.injEq, and_true, true_and, MV.d.injEq, MV.m.injEq, PyData.int.injEq, PyData.bool.injEq, PyData.str.injEq, PyData.tuple.injEq, PyData.list.injEq, exists_and_left, exists_and_right, exists_eq_left', exists_eq_left, exists_eq_right, exists_eq', Nat.reduceAdd, Nat.reduceSub, Nat.reduceLT, Nat.reduceLeDiff, decide_eq_true_eq, Bool.not_eq_true', decide_eq_false_iff_not, reduceCtorEq, if_true, if_false, Bool.false_eq_true, ite_true, ite_false, not_true_eq_false, not_false_eq_true, Bool.not_true, Bool.not_false, reduceIte, and_self, or_true, true_or, or_false, false_or, and_false, false_and]
    refine ⟨Nat.zero_le _, fun pW nW => ?_⟩
    have WB : pB ≠ pW := fun z => by rw [z, nW] at e5; cases e5
    have start : LInv κ b a pB pW m 0 (sset S5 pW (.lst [])) d3 F3 := by
      refine ⟨box_new hb5 nW, disk_new h5 nW, by rw [sset_ne WB, ed3]; exact e5, by rw [sset_same, ed3]; rfl, nb3, nBF, fun z => ?_, bB.symm, fun z => ?_, WB, by rw [ed3, List.length_replicate], by rw [ed3]; exact Nat.le_refl _⟩
      · obtain ⟨o, e⟩ := disk_there h5 pW z
        rw [nW] at e
        cases e
      · obtain ⟨d0, i0, z1, _⟩ := hb5
        rw [← z, nW] at z1
        cases z1
    have c3 : d3.cuts = 0 := by rw [ed3]
    have f3 : d3.left = none := by rw [ed3]
    generalize (sset S5 pW (.lst [])) = S6 at start
    simp only [c_law_6, fnM, cNext, cSeq, cBrk, cCont, cDrop, cRet, cRetN, cIf, cNever, cAsg, cPar, cPar3, cAug, cFor, eC, eVar, eOp, eUn, eIf, aNil, aCons, eTup, eLst, eLstM, eCB, eFn, eAndV, eOrV, eNotV, cAnd, cOr, cNot, cB, cTru, cYes, mName, mNames, wipeM, mTup, mSub, eFrz, eAppend, eSlice, oNone, oSome, eChain, eLcG, finD, finM, iRange1, iRange2, iZip2, iSeq, bInt, bIntC, bCmp, bMulX, bAddM, eIsi, isTy, bAdd, bNeg, bIs, bIsN, isNone, bEq, bNe, bRepr, bLen, bIntOf, b2Int, bTuple, bList, bListM, bAll, bAny, tupOf, datOf, truV, okOf, bIx_tup, bIx_lst, bIx_set, lenV_set, ixN_21, ixN_20, set_1, sset_same, sset_sset, MO.lst.injEq, lenV_tup, lenV_lst, atI_0, atI_1, atI_2, atI_3, atI_4, lstOf, allD, allD_map, ex_eq_and, ex_eq_and', List.map_cons, List.map_nil, List.length_cons, List.length_nil, List.replicate, List.cons_append, List.nil_append, List.getElem?_cons_zero, List.getElem?_cons_succ, Option.some.injEq, Option.map_some, List.set, List.cons.injEq, and_true, true_and, MV.d.injEq, MV.m.injEq, PyData.int.injEq, PyData.bool.injEq, PyData.str.injEq, PyData.tuple.injEq, PyData.list.injEq, exists_and_left, exists_and_right, exists_eq_left', exists_eq_left, exists_eq_right, exists_eq', Nat.reduceAdd, Nat.reduceSub, Nat.reduceLT, Nat.reduceLeDiff, decide_eq_true_eq, Bool.not_eq_true', decide_eq_false_iff_not, reduceCtorEq, if_true, if_false, Bool.false_eq_true, ite_true, ite_false, not_true_eq_false, not_false_eq_true, Bool.not_true, Bool.not_false, reduceIte, and_self, or_true, true_or, or_false, false_or, and_false, false_and]
    simp only [c_law_7, fnM, cNext, cSeq, cBrk, cCont, cDrop, cRet, cRetN, cIf, cNever, cAsg, cPar, cPar3, cAug, cFor, eC, eVar, eOp, eUn, eIf, aNil, aCons, eTup, eLst, eLstM, eCB, eFn, eAndV, eOrV, eNotV, cAnd, cOr, cNot, cB, cTru, cYes, mName, mNames, wipeM, mTup, mSub, eFrz, eAppend, eSlice, oNone, oSome, eChain, eLcG, finD, finM, iRange1, iRange2, iZip2, iSeq, bInt, bIntC, bCmp, bMulX, bAddM, eIsi, isTy, bAdd, bNeg, bIs, bIsN, isNone, bEq, bNe, bRepr, bLen, bIntOf, b2Int, bTuple, bList, bListM, bAll, bAny, tupOf, datOf, truV, okOf, bIx_tup, bIx_lst, bIx_set, lenV_set, ixN_21, ixN_20, set_1, sset_same, sset_sset, MO.lst.injEq, lenV_tup, lenV_lst, atI_0, atI_1, atI_2, atI_3, atI_4, lstOf, allD, allD_map, ex_eq_and, ex_eq_and', List.map_cons, List.map_nil, List.length_cons, List.length_nil, List.replicate, List.cons_append, List.nil_append, List.getElem?_cons_zero, List.getElem?_cons_succ, Option.some.injEq, Option.map_some, List.set, List.cons.injEq, and_true, true_and, MV.d.injEq, MV.m.injEq, PyData.int.injEq, PyData.bool.injEq, PyData.str.injEq, PyData.tuple.injEq, PyData.list.injEq, exists_and_left, exists_and_right, exists_eq_left', exists_eq_left, exists_eq_right, exists_eq', Nat.reduceAdd, Nat.reduceSub, Nat.reduceLT, Nat.reduceLeDiff, decide_eq_true_eq, Bool.not_eq_true', decide_eq_false_iff_not, reduceCtorEq, if_true, if_false, Bool.false_eq_true, ite_true, ite_false, not_true_eq_false, not_false_eq_true, Bool.not_true, Bool.not_false, reduceIte, and_self, or_true, true_or, or_false, false_or, and_false, false_and]
    refine ⟨Nat.zero_le _, ?_⟩
    simp only [c_law_8, fnM, cNext, cSeq, cBrk, cCont, cDrop, cRet, cRetN, cIf, cNever, cAsg, cPar, cPar3, cAug, cFor, eC, eVar, eOp, eUn, eIf, aNil, aCons, eTup, eLst, eLstM, eCB, eFn, eAndV, eOrV, eNotV, cAnd, cOr, cNot, cB, cTru, cYes, mName, mNames, wipeM, mTup, mSub, eFrz, eAppend, eSlice, oNone, oSome, eChain, eLcG, finD, finM, iRange1, iRange2, iZip2, iSeq, bInt, bIntC, bCmp, bMulX, bAddM, eIsi, isTy, bAdd, bNeg, bIs, bIsN, isNone, bEq, bNe, bRepr, bLen, bIntOf, b2Int, bTuple, bList, bListM, bAll, bAny, tupOf, datOf, truV, okOf, bIx_tup, bIx_lst, bIx_set, lenV_set, ixN_21, ixN_20, set_1, sset_same, sset_sset, MO.lst.injEq, lenV_tup, lenV_lst, atI_0, atI_1, atI_2, atI_3, atI_4, lstOf, allD, allD_map, ex_eq_and, ex_eq_and', List.map_cons, List.map_nil, List.length_cons, List.length_nil, List.replicate, List.cons_append, List.nil_append, List.getElem?_cons_zero, List.getElem?_cons_succ, Option.some.injEq, Option.map_some, List.set, List.cons.injEq, and_true, true_and, MV.d.injEq, MV.m.injEq, PyData.int.injEq, PyData.bool.injEq, PyData.str.injEq, PyData.tuple.injEq, PyData.list.injEq, exists_and_left, exists_and_right, exists_eq_left', exists_eq_left, exists_eq_right, exists_eq', Nat.reduceAdd, Nat.reduceSub, Nat.reduceLT, Nat.reduceLeDiff, decide_eq_true_eq, Bool.not_eq_true', decide_eq_false_iff_not, reduceCtorEq, if_true, if_false, Bool.false_eq_true, ite_true, ite_false, not_true_eq_false, not_false_eq_true, Bool.not_true, Bool.not_false, reduceIte, and_self, or_true, true_or, or_false, false_or, and_false, false_and]
    simp only [c_law_9, fnM, cNext, cSeq, cBrk, cCont, cDrop, cRet, cRetN, cIf, cNever, cAsg, cPar, cPar3, cAug, cFor, eC, eVar, eOp, eUn, eIf, aNil, aCons, eTup, eLst, eLstM, eCB, eFn, eAndV, eOrV, eNotV, cAnd, cOr, cNot, cB, cTru, cYes, mName, mNames, wipeM, mTup, mSub, eFrz, eAppend, eSlice, oNone, oSome, eChain, eLcG, finD, finM, iRange1, iRange2, iZip2, iSeq, bInt, bIntC, bCmp, bMulX, bAddM, eIsi, isTy, bAdd, bNeg, bIs, bIsN, isNone, bEq, bNe, bRepr, bLen, bIntOf, b2Int, bTuple, bList, bListM, bAll, bAny, tupOf, datOf, truV, okOf, bIx_tup, bIx_lst, bIx_set, lenV_set, ixN_21, ixN_20, set_1, sset_same, sset_sset, MO.lst.injEq, lenV_tup, lenV_lst, atI_0, atI_1, atI_2, atI_3, atI_4, lstOf, allD, allD_map, ex_eq_and, ex_eq_and', List.map_cons, List.map_nil, List.length_cons, List.length_nil, List.replicate, List.cons_append, List.nil_append, List.getElem?_cons_zero, List.getElem?_cons_succ, Option.some.injEq, Option.map_some, List.set, List.cons.injEq, and_true, true_and, MV.d.injEq, MV.m.injEq, PyData.int.injEq, PyData.bool.injEq, PyData.str.injEq, PyData.tuple.injEq, PyData.list.injEq, exists_and_left, exists_and_right, exists_eq_left', exists_eq_left, exists_eq_right, exists_eq', Nat.reduceAdd, Nat.reduceSub, Nat.reduceLT, Nat.reduceLeDiff, decide_eq_true_eq, Bool.not_eq_true', decide_eq_false_iff_not, reduceCtorEq, if_true, if_false, Bool.false_eq_true, ite_true, ite_false, not_true_eq_false, not_false_eq_true, Bool.not_true, Bool.not_false, reduceIte, and_self, or_true, true_or, or_false, false_or, and_false, false_and]
    refine ⟨by decide, by decide, ?_⟩
    refine forL_inv (fun k ρ S' => ∃ d F pW tn s9 s10 s11 s12 s13 s14 s15 s16 s17, LInv κ b a pB pW m k S' d F ∧ LeftOk d tn ∧
      ρ = [some (.d (.list (ns.map .int))), some (.m b), some (.d (.int m)), some (.m a), some (.m pB), some (.m pW), some (.d (.int (leftI d))), some (.d (.list (tn.map .int))), some (.d (.int d.cuts)), s9, s10, s11, s12, s13, s14, s15, s16, s17]) _ 0 _ _
      ⟨d3, F3, pW, [], _, _, _, _, _, _, _, _, _, start, ⟨(fun x hx => nomatch hx), Nat.zero_le _, fun z => absurd f3 z⟩, by rw [c3]; unfold leftI; rw [f3]; rfl⟩ (fun _ _ _ _ => trivial) ?_ ?_
    · rintro i y ρ S7 N ey ⟨d, F, pW, tn, s9, s10, s11, s12, s13, s14, s15, s16, s17, L, lo, rfl⟩ hN
      rw [Nat.zero_add] at L hN
      obtain ⟨hi, rfl⟩ := rng_some ey
      have hi : i < 40 := hi
      have rest : ∀ (d : DSt) (F : List Addr) (pW : Addr) (tn : List Int) (S : Sto) (s9 s10 s11 s12 s13 s14 s15 s16 s17 : Option MV), LInv κ b a pB pW m (i + 1) S d F → LeftOk d tn → c_law_56 κ { nx := N, rt := fun r _ => r = MV.d (PyData.bool true), bk := c_law_58 κ { nx := fun _ _ => False, rt := fun r _ => r = MV.d (PyData.bool true), bk := fun _ _ => False, ct := fun _ _ => False, ex := fun x _ S' => noX x S' }, ct := N, ex := fun x _ S' => noX x S' }
          [some (.d (.list (ns.map .int))), some (.m b), some (.d (.int m)), some (.m a), some (.m pB), some (.m pW), some (.d (.int (leftI d))), some (.d (.list (tn.map .int))), some (.d (.int d.cuts)), s9, s10, s11, s12, s13, s14, s15, s16, s17] S := by
        intro d F pW tn S s9 s10 s11 s12 s13 s14 s15 s16 s17 L2 lo
        obtain ⟨f1, e1, l1⟩ := disk_ins L2.disk "pending_count" (.inr (.inr (.inr (.inr (.inl rfl)))))
        obtain ⟨f2, e2, l2⟩ := disk_ins L2.disk "cut_count" (.inr (.inr (.inr (.inr (.inr (.inl rfl))))))
        simp only [c_law_56, eMeth, fnM, cNext, cSeq, cBrk, cCont, cDrop, cRet, cRetN, cIf, cNever, cAsg, cPar, cPar3, cAug, cFor, eC, eVar, eOp, eUn, eIf, aNil, aCons, eTup, eLst, eLstM, eCB, eFn, eAndV, eOrV, eNotV, cAnd, cOr, cNot, cB, cTru, cYes, mName, mNames, wipeM, mTup, mSub, eFrz, eAppend, eSlice, oNone, oSome, eChain, eLcG, finD, finM, iRange1, iRange2, iZip2, iSeq, bInt, bIntC, bCmp, bMulX, bAddM, eIsi, isTy, bNeg, bIsN, bRepr, bLen, bIntOf, b2Int, bTuple, bList, bListM, bAll, bAny, tupOf, datOf, truV, okOf, bIx_tup, bIx_lst, bIx_set, lenV_set, ixN_21, ixN_20, set_1, sset_same, sset_sset, MO.lst.injEq, lenV_tup, lenV_lst, atI_0, atI_1, atI_2, atI_3, atI_4, lstOf, allD, allD_map, ex_eq_and, ex_eq_and', List.map_cons, List.map_nil, List.length_cons, List.length_nil, List.cons_append, List.nil_append, List.getElem?_cons_zero, List.getElem?_cons_succ, Option.some.injEq, Option.map_some, List.set, List.cons.injEq, and_true, true_and, MV.d.injEq, MV.m.injEq, PyData.int.injEq, PyData.bool.injEq, PyData.str.injEq, PyData.tuple.injEq, PyData.list.injEq, exists_and_left, exists_and_right, exists_eq_left', exists_eq_left, exists_eq_right, exists_eq', Nat.reduceAdd, Nat.reduceSub, Nat.reduceLT, Nat.reduceLeDiff, decide_eq_true_eq, Bool.not_eq_true', decide_eq_false_iff_not, reduceCtorEq, if_true, if_false, Bool.false_eq_true, ite_true, ite_false, not_true_eq_false, not_false_eq_true, Bool.not_true, Bool.not_false, reduceIte, and_self, or_true, true_or, or_false, false_or, and_false, false_and]
        refine ⟨f1, e1, l1, w_count L2.disk ⟨d.ps.length, ⟨pendM d.ps, by show (match S pW with | some (.lst xs) => some xs | _ => none) = _; rw [L2.pe], by unfold pendM; rw [List.length_map]⟩, ?_⟩⟩
        have ne_ii : ∀ {i : Int} {S : Sto} {Q : QE}, Q (.d (.bool false)) S → bNe (.d (.int i)) (.d (.int i)) S Q := fun {i S Q} q => by
          show Q (.d (.bool (!decide (i = i)))) S
          simpa using q
        refine ne_ii ⟨false, rfl, ?_⟩
        rw [if_neg (by decide)]
        refine ⟨f2, e2, l2, w_cuts L2.disk (ne_ii ⟨false, rfl, ?_⟩)⟩
        rw [if_neg (by decide)]
        exact hN _ _ ⟨d, F, pW, tn, _, _, _, _, _, _, _, _, _, L2, lo, rfl⟩
      simp only [c_law_10, fnM, cNext, cSeq, cBrk, cCont, cDrop, cRet, cRetN, cIf, cNever, cAsg, cPar, cPar3, cAug, cFor, eC, eVar, eOp, eUn, eIf, aNil, aCons, eTup, eLst, eLstM, eCB, eFn, eAndV, eOrV, eNotV, cAnd, cOr, cNot, cB, cTru, cYes, mName, mNames, wipeM, mTup, mSub, eFrz, eAppend, eSlice, oNone, oSome, eChain, eLcG, finD, finM, iRange1, iRange2, iZip2, iSeq, bInt, bIntC, bCmp, bMulX, bAddM, eIsi, isTy, bAdd, bNeg, bIs, bIsN, isNone, bEq, bNe, bRepr, bLen, bIntOf, b2Int, bTuple, bList, bListM, bAll, bAny, tupOf, datOf, truV, okOf, bIx_tup, bIx_lst, bIx_set, lenV_set, ixN_21, ixN_20, set_1, sset_same, sset_sset, MO.lst.injEq, lenV_tup, lenV_lst, atI_0, atI_1, atI_2, atI_3, atI_4, lstOf, allD, allD_map, ex_eq_and, ex_eq_and', List.map_cons, List.map_nil, List.length_cons, List.length_nil, List.replicate, List.cons_append, List.nil_append, List.getElem?_cons_zero, List.getElem?_cons_succ, Option.some.injEq, Option.map_some, List.set, List.cons.injEq, and_true, true_and, MV.d.injEq, MV.m.injEq, PyData.int.injEq, PyData.bool.injEq, PyData.str.injEq, PyData.tuple.injEq, PyData.list.injEq, exists_and_left, exists_and_right, exists_eq_left', exists_eq_left, exists_eq_right, exists_eq', Nat.reduceAdd, Nat.reduceSub, Nat.reduceLT, Nat.reduceLeDiff, decide_eq_true_eq, Bool.not_eq_true', decide_eq_false_iff_not, reduceCtorEq, if_true, if_false, Bool.false_eq_true, ite_true, ite_false, not_true_eq_false, not_false_eq_true, Bool.not_true, Bool.not_false, reduceIte, and_self, or_true, true_or, or_false, false_or, and_false, false_and]
      refine w_draw L.box (by decide) fun r9 S8 r9a r9b hb8 sm8 => ?_
      have L8 := L.move hb8 (Kb.sm sm8)
      simp only [c_law_11, fnM, cNext, cSeq, cBrk, cCont, cDrop, cRet, cRetN, cIf, cNever, cAsg, cPar, cPar3, cAug, cFor, eC, eVar, eOp, eUn, eIf, aNil, aCons, eTup, eLst, eLstM, eCB, eFn, eAndV, eOrV, eNotV, cAnd, cOr, cNot, cB, cTru, cYes, mName, mNames, wipeM, mTup, mSub, eFrz, eAppend, eSlice, oNone, oSome, eChain, eLcG, finD, finM, iRange1, iRange2, iZip2, iSeq, bInt, bIntC, bCmp, bMulX, bAddM, eIsi, isTy, bAdd, bNeg, bIs, bIsN, isNone, bEq, bNe, bRepr, bLen, bIntOf, b2Int, bTuple, bList, bListM, bAll, bAny, tupOf, datOf, truV, okOf, bIx_tup, bIx_lst, bIx_set, lenV_set, ixN_21, ixN_20, set_1, sset_same, sset_sset, MO.lst.injEq, lenV_tup, lenV_lst, atI_0, atI_1, atI_2, atI_3, atI_4, lstOf, allD, allD_map, ex_eq_and, ex_eq_and', List.map_cons, List.map_nil, List.length_cons, List.length_nil, List.replicate, List.cons_append, List.nil_append, List.getElem?_cons_zero, List.getElem?_cons_succ, Option.some.injEq, Option.map_some, List.set, List.cons.injEq, and_true, true_and, MV.d.injEq, MV.m.injEq, PyData.int.injEq, PyData.bool.injEq, PyData.str.injEq, PyData.tuple.injEq, PyData.list.injEq, exists_and_left, exists_and_right, exists_eq_left', exists_eq_left, exists_eq_right, exists_eq', Nat.reduceAdd, Nat.reduceSub, Nat.reduceLT, Nat.reduceLeDiff, decide_eq_true_eq, Bool.not_eq_true', decide_eq_false_iff_not, reduceCtorEq, if_true, if_false, Bool.false_eq_true, ite_true, ite_false, not_true_eq_false, not_false_eq_true, Bool.not_true, Bool.not_false, reduceIte, and_self, or_true, true_or, or_false, false_or, and_false, false_and]
      have tsh : ∀ z : Str, z = "at" ∨ z = "block" ∨ z = "torn" ∨ z = "many" ∨ z = "cut" → SeqAt.shaped (.tuple [.str "refused", .str z]) = true := fun z hz => by
        rcases hz with rfl | rfl | rfl | rfl | rfl <;> decide +kernel
      have teq : ∀ z : Str, PyData.eqv (.tuple [.str "refused", .str z]) (.tuple [.str "refused", .str z]) = true := fun z => eqv_refl _ rfl
      have schedA : c_law_12 κ { nx := c_law_56 κ { nx := N, rt := fun r _ => r = MV.d (PyData.bool true), bk := c_law_58 κ { nx := fun _ _ => False, rt := fun r _ => r = MV.d (PyData.bool true), bk := fun _ _ => False, ct := fun _ _ => False, ex := fun x _ S' => noX x S' }, ct := N, ex := fun x _ S' => noX x S' }, rt := fun r _ => r = MV.d (PyData.bool true), bk := c_law_58 κ { nx := fun _ _ => False, rt := fun r _ => r = MV.d (PyData.bool true), bk := fun _ _ => False, ct := fun _ _ => False, ex := fun x _ S' => noX x S' }, ct := N, ex := fun x _ S' => noX x S' } [some (.d (.list (ns.map .int))), some (.m b), some (.d (.int m)), some (.m a), some (.m pB), some (.m pW), some (.d (.int (leftI d))), some (.d (.list (tn.map .int))), some (.d (.int d.cuts)), some (.d (.int (0 + (i : Int)))), some (.d (.int r9)), s11, s12, s13, s14, s15, s16, s17] S8 := by
        simp only [c_law_12, fnM, cNext, cSeq, cBrk, cCont, cDrop, cRet, cRetN, cIf, cNever, cAsg, cPar, cPar3, cAug, cFor, eC, eVar, eOp, eUn, eIf, aNil, aCons, eTup, eLst, eLstM, eCB, eFn, eAndV, eOrV, eNotV, cAnd, cOr, cNot, cB, cTru, cYes, mName, mNames, wipeM, mTup, mSub, eFrz, eAppend, eSlice, oNone, oSome, eChain, eLcG, finD, finM, iRange1, iRange2, iZip2, iSeq, bInt, bIntC, bCmp, bMulX, bAddM, eIsi, isTy, bAdd, bNeg, bIs, bIsN, isNone, bEq, bNe, bRepr, bLen, bIntOf, b2Int, bTuple, bList, bListM, bAll, bAny, tupOf, datOf, truV, okOf, bIx_tup, bIx_lst, bIx_set, lenV_set, ixN_21, ixN_20, set_1, sset_same, sset_sset, MO.lst.injEq, lenV_tup, lenV_lst, atI_0, atI_1, atI_2, atI_3, atI_4, lstOf, allD, allD_map, ex_eq_and, ex_eq_and', List.map_cons, List.map_nil, List.length_cons, List.length_nil, List.replicate, List.cons_append, List.nil_append, List.getElem?_cons_zero, List.getElem?_cons_succ, Option.some.injEq, Option.map_some, List.set, List.cons.injEq, and_true, true_and, MV.d.injEq, MV.m.injEq, PyData.int.injEq, PyData.bool.injEq, PyData.str.injEq, PyData.tuple.injEq, PyData.list.injEq, exists_and_left, exists_and_right, exists_eq_left', exists_eq_left, exists_eq_right, exists_eq', Nat.reduceAdd, Nat.reduceSub, Nat.reduceLT, Nat.reduceLeDiff, decide_eq_true_eq, Bool.not_eq_true', decide_eq_false_iff_not, reduceCtorEq, if_true, if_false, Bool.false_eq_true, ite_true, ite_false, not_true_eq_false, not_false_eq_true, Bool.not_true, Bool.not_false, reduceIte, and_self, or_true, true_or, or_false, false_or, and_false, false_and]
        refine w_draw L8.box (by decide) fun r6 S9 r6a r6b hb9 sm9 => ?_
        have L9 := L8.move hb9 (Kb.sm sm9)
        simp only [c_law_13, fnM, cNext, cSeq, cBrk, cCont, cDrop, cRet, cRetN, cIf, cNever, cAsg, cPar, cPar3, cAug, cFor, eC, eVar, eOp, eUn, eIf, aNil, aCons, eTup, eLst, eLstM, eCB, eFn, eAndV, eOrV, eNotV, cAnd, cOr, cNot, cB, cTru, cYes, mName, mNames, wipeM, mTup, mSub, eFrz, eAppend, eSlice, oNone, oSome, eChain, eLcG, finD, finM, iRange1, iRange2, iZip2, iSeq, bInt, bIntC, bCmp, bMulX, bAddM, eIsi, isTy, bAdd, bNeg, bIs, bIsN, isNone, bEq, bNe, bRepr, bLen, bIntOf, b2Int, bTuple, bList, bListM, bAll, bAny, tupOf, datOf, truV, okOf, bIx_tup, bIx_lst, bIx_set, lenV_set, ixN_21, ixN_20, set_1, sset_same, sset_sset, MO.lst.injEq, lenV_tup, lenV_lst, atI_0, atI_1, atI_2, atI_3, atI_4, lstOf, allD, allD_map, ex_eq_and, ex_eq_and', List.map_cons, List.map_nil, List.length_cons, List.length_nil, List.replicate, List.cons_append, List.nil_append, List.getElem?_cons_zero, List.getElem?_cons_succ, Option.some.injEq, Option.map_some, List.set, List.cons.injEq, and_true, true_and, MV.d.injEq, MV.m.injEq, PyData.int.injEq, PyData.bool.injEq, PyData.str.injEq, PyData.tuple.injEq, PyData.list.injEq, exists_and_left, exists_and_right, exists_eq_left', exists_eq_left, exists_eq_right, exists_eq', Nat.reduceAdd, Nat.reduceSub, Nat.reduceLT, Nat.reduceLeDiff, decide_eq_true_eq, Bool.not_eq_true', decide_eq_false_iff_not, reduceCtorEq, if_true, if_false, Bool.false_eq_true, ite_true, ite_false, not_true_eq_false, not_false_eq_true, Bool.not_true, Bool.not_false, reduceIte, and_self, or_true, true_or, or_false, false_or, and_false, false_and]
        refine w_torn (n := 9) L9.box (by decide) fun t1 S10 tok tl hb10 k10 => ?_
        have L10 := L9.move hb10 k10
        simp only [c_law_14, fnM, cNext, cSeq, cBrk, cCont, cDrop, cRet, cRetN, cIf, cNever, cAsg, cPar, cPar3, cAug, cFor, eC, eVar, eOp, eUn, eIf, aNil, aCons, eTup, eLst, eLstM, eCB, eFn, eAndV, eOrV, eNotV, cAnd, cOr, cNot, cB, cTru, cYes, mName, mNames, wipeM, mTup, mSub, eFrz, eAppend, eSlice, oNone, oSome, eChain, eLcG, finD, finM, iRange1, iRange2, iZip2, iSeq, bInt, bIntC, bCmp, bMulX, bAddM, eIsi, isTy, bAdd, bNeg, bIs, bIsN, isNone, bEq, bNe, bRepr, bLen, bIntOf, b2Int, bTuple, bList, bListM, bAll, bAny, tupOf, datOf, truV, okOf, bIx_tup, bIx_lst, bIx_set, lenV_set, ixN_21, ixN_20, set_1, sset_same, sset_sset, MO.lst.injEq, lenV_tup, lenV_lst, atI_0, atI_1, atI_2, atI_3, atI_4, lstOf, allD, allD_map, ex_eq_and, ex_eq_and', List.map_cons, List.map_nil, List.length_cons, List.length_nil, List.replicate, List.cons_append, List.nil_append, List.getElem?_cons_zero, List.getElem?_cons_succ, Option.some.injEq, Option.map_some, List.set, List.cons.injEq, and_true, true_and, MV.d.injEq, MV.m.injEq, PyData.int.injEq, PyData.bool.injEq, PyData.str.injEq, PyData.tuple.injEq, PyData.list.injEq, exists_and_left, exists_and_right, exists_eq_left', exists_eq_left, exists_eq_right, exists_eq', Nat.reduceAdd, Nat.reduceSub, Nat.reduceLT, Nat.reduceLeDiff, decide_eq_true_eq, Bool.not_eq_true', decide_eq_false_iff_not, reduceCtorEq, if_true, if_false, Bool.false_eq_true, ite_true, ite_false, not_true_eq_false, not_false_eq_true, Bool.not_true, Bool.not_false, reduceIte, and_self, or_true, true_or, or_false, false_or, and_false, false_and]
        refine ⟨_, rfl, fun p np => ?_⟩
        have L11 := L10.move (box_new (o := .lst ((t1.map PyData.int).map .d)) L10.box np) (Kb.new np)
        have ep : (sset S10 p (.lst ((t1.map PyData.int).map .d))) p = some (.lst (t1.map fun i => .d (.int i))) := by rw [sset_same, List.map_map]; rfl
        have bp : p ≠ b := fun z => by obtain ⟨d0, i0, z1, _⟩ := L10.box; rw [← z, np] at z1; cases z1
        have Bp : p ≠ pB := fun z => by have := L10.bl; rw [← z, np] at this; cases this
        have Wp : p ≠ pW := fun z => by have := L10.pe; rw [← z, np] at this; cases this
        have Fp : p ∉ F := fun z => by obtain ⟨o, e⟩ := disk_there L10.disk p z; rw [np] at e; cases e
        generalize (sset S10 p (.lst ((t1.map PyData.int).map .d))) = S11 at L11 ep
        have t1s : ∀ x ∈ t1, Small x := fun x hx => by have := tok x hx; exact ⟨by omega, by omega⟩
        have s1 : ∀ n : Int, 0 ≤ n → n ≤ 33 → ∀ x ∈ [n], Small x := fun n n0 n1 x hx => by rw [List.mem_singleton] at hx; rw [hx]; exact ⟨by omega, by omega⟩
        simp only [c_law_15, fnM, cNext, cSeq, cBrk, cCont, cDrop, cRet, cRetN, cIf, cNever, cAsg, cPar, cPar3, cAug, cFor, eC, eVar, eOp, eUn, eIf, aNil, aCons, eTup, eLst, eLstM, eCB, eFn, eAndV, eOrV, eNotV, cAnd, cOr, cNot, cB, cTru, cYes, mName, mNames, wipeM, mTup, mSub, eFrz, eAppend, eSlice, oNone, oSome, eChain, eLcG, finD, finM, iRange1, iRange2, iZip2, iSeq, bInt, bIntC, bCmp, bMulX, bAddM, eIsi, isTy, bNeg, bIsN, bRepr, bLen, bIntOf, b2Int, bTuple, bList, bListM, bAll, bAny, tupOf, datOf, truV, okOf, bIx_tup, bIx_lst, bIx_set, lenV_set, ixN_21, ixN_20, set_1, sset_same, sset_sset, MO.lst.injEq, lenV_tup, lenV_lst, atI_0, atI_1, atI_2, atI_3, atI_4, lstOf, allD, allD_map, ex_eq_and, ex_eq_and', List.map_cons, List.map_nil, List.length_cons, List.length_nil, List.cons_append, List.nil_append, List.getElem?_cons_zero, List.getElem?_cons_succ, Option.some.injEq, Option.map_some, List.set, List.cons.injEq, and_true, true_and, MV.d.injEq, MV.m.injEq, PyData.int.injEq, PyData.bool.injEq, PyData.str.injEq, PyData.tuple.injEq, PyData.list.injEq, exists_and_left, exists_and_right, exists_eq_left', exists_eq_left, exists_eq_right, exists_eq', Nat.reduceAdd, Nat.reduceSub, Nat.reduceLT, Nat.reduceLeDiff, decide_eq_true_eq, Bool.not_eq_true', decide_eq_false_iff_not, reduceCtorEq, if_true, if_false, Bool.false_eq_true, ite_true, ite_false, not_true_eq_false, not_false_eq_true, Bool.not_true, Bool.not_false, reduceIte, and_self, or_true, true_or, or_false, false_or, and_false, false_and]
        refine ⟨by decide, w_lsched (t := [32]) hk L11.disk (.inl rfl) (s1 32 (by decide) (by decide)) (by decide) (fun z => absurd ⟨by decide, by decide⟩ z) (fun _ _ z => absurd (fun x hx => by rw [List.mem_singleton] at hx; rw [hx]; decide) z) fun _ _ _ S12 F12 x12 h12 => ?_⟩
        rw [show isNone (.d .none) = true from rfl, if_neg (by decide)]
        have L12 := L11.ext x12 h12 rfl rfl
        have ep12 := x12.keep p _ Fp ep
        have fp12 := x12.out Fp ep
        refine w_lsched (t := t1) hk L12.disk (.inr ⟨p, rfl, ep12⟩) t1s (by omega) (fun z => absurd ⟨r6a, by omega⟩ z) (fun _ _ z => absurd tok z) fun _ _ _ S13 F13 x13 h13 => ?_
        rw [show isNone (.d .none) = true from rfl, if_neg (by decide)]
        have L13 := L12.ext x13 h13 rfl rfl
        have ep13 := x13.keep p _ fp12 ep12
        have fp13 := x13.out fp12 ep12
        simp only [c_law_17, ep13, fnM, cNext, cSeq, cBrk, cCont, cDrop, cRet, cRetN, cIf, cNever, cAsg, cPar, cPar3, cAug, cFor, eC, eVar, eOp, eUn, eIf, aNil, aCons, eTup, eLst, eLstM, eCB, eFn, eAndV, eOrV, eNotV, cAnd, cOr, cNot, cB, cTru, cYes, mName, mNames, wipeM, mTup, mSub, eFrz, eAppend, eSlice, oNone, oSome, eChain, eLcG, finD, finM, iRange1, iRange2, iZip2, iSeq, bInt, bIntC, bCmp, bMulX, bAddM, eIsi, isTy, bAdd, bNeg, bIs, bIsN, isNone, bEq, bNe, bRepr, bLen, bIntOf, b2Int, bTuple, bList, bListM, bAll, bAny, tupOf, datOf, truV, okOf, bIx_tup, bIx_lst, bIx_set, lenV_set, ixN_21, ixN_20, set_1, sset_same, sset_sset, MO.lst.injEq, lenV_tup, lenV_lst, atI_0, atI_1, atI_2, atI_3, atI_4, lstOf, allD, allD_map, ex_eq_and, ex_eq_and', List.map_cons, List.map_nil, List.length_cons, List.length_nil, List.replicate, List.cons_append, List.nil_append, List.getElem?_cons_zero, List.getElem?_cons_succ, Option.some.injEq, Option.map_some, List.set, List.cons.injEq, and_true, true_and, MV.d.injEq, MV.m.injEq, PyData.int.injEq, PyData.bool.injEq, PyData.str.injEq, PyData.tuple.injEq, PyData.list.injEq, exists_and_left, exists_and_right, exists_eq_left', exists_eq_left, exists_eq_right, exists_eq', Nat.reduceAdd, Nat.reduceSub, Nat.reduceLT, Nat.reduceLeDiff, decide_eq_true_eq, Bool.not_eq_true', decide_eq_false_iff_not, reduceCtorEq, if_true, if_false, Bool.false_eq_true, ite_true, ite_false, not_true_eq_false, not_false_eq_true, Bool.not_true, Bool.not_false, reduceIte, and_self, or_true, true_or, or_false, false_or, and_false, false_and]
        refine ⟨by rw [List.length_map]; exact line_big (by omega), ?_⟩
        have L14 := L13.put (o := .lst ((t1.map fun i => MV.d (.int i)) ++ [.d (.int 1)])) bp Bp Wp fp13
        generalize (sset S13 p (.lst ((t1.map fun i => MV.d (.int i)) ++ [.d (.int 1)]))) = S14 at L14
        simp only [c_law_18, fnM, cNext, cSeq, cBrk, cCont, cDrop, cRet, cRetN, cIf, cNever, cAsg, cPar, cPar3, cAug, cFor, eC, eVar, eOp, eUn, eIf, aNil, aCons, eTup, eLst, eLstM, eCB, eFn, eAndV, eOrV, eNotV, cAnd, cOr, cNot, cB, cTru, cYes, mName, mNames, wipeM, mTup, mSub, eFrz, eAppend, eSlice, oNone, oSome, eChain, eLcG, finD, finM, iRange1, iRange2, iZip2, iSeq, bInt, bIntC, bCmp, bMulX, bAddM, eIsi, isTy, bNeg, bIsN, bRepr, bLen, bIntOf, b2Int, bTuple, bList, bListM, bAll, bAny, tupOf, datOf, truV, okOf, bIx_tup, bIx_lst, bIx_set, lenV_set, ixN_21, ixN_20, set_1, sset_same, sset_sset, MO.lst.injEq, lenV_tup, lenV_lst, atI_0, atI_1, atI_2, atI_3, atI_4, lstOf, allD, allD_map, ex_eq_and, ex_eq_and', List.map_cons, List.map_nil, List.length_cons, List.length_nil, List.cons_append, List.nil_append, List.getElem?_cons_zero, List.getElem?_cons_succ, Option.some.injEq, Option.map_some, List.set, List.cons.injEq, and_true, true_and, MV.d.injEq, MV.m.injEq, PyData.int.injEq, PyData.bool.injEq, PyData.str.injEq, PyData.tuple.injEq, PyData.list.injEq, exists_and_left, exists_and_right, exists_eq_left', exists_eq_left, exists_eq_right, exists_eq', Nat.reduceAdd, Nat.reduceSub, Nat.reduceLT, Nat.reduceLeDiff, decide_eq_true_eq, Bool.not_eq_true', decide_eq_false_iff_not, reduceCtorEq, if_true, if_false, Bool.false_eq_true, ite_true, ite_false, not_true_eq_false, not_false_eq_true, Bool.not_true, Bool.not_false, reduceIte, and_self, or_true, true_or, or_false, false_or, and_false, false_and]
        refine ⟨by decide, w_draw L14.box (by decide) fun r7 S15 r7a r7b hb15 sm15 => ?_⟩
        have L15 := L14.move hb15 (Kb.sm sm15)
        rw [bIx_lst]
        obtain ⟨n7, e7, w7⟩ : ∃ n : Int, atI [PyData.int (0 - 1), PyData.int 100001] r7 = some (.int n) ∧ ¬ (0 ≤ n ∧ n ≤ 100000) := by
          rcases (show r7 = 0 ∨ r7 = 1 by omega) with rfl | rfl
          · exact ⟨_, rfl, by omega⟩
          · exact ⟨_, rfl, by omega⟩
        have no33 : ¬ TornOk [33] := fun z => absurd (z 33 (by simp)) (by decide)
        refine ⟨_, e7, by decide, w_lsched (t := [33]) hk L15.disk (.inl rfl) (s1 33 (by decide) (by decide)) (by decide) (fun _ => ⟨by decide, ne_dd (tsh _ (.inr (.inr (.inr (.inl rfl))))) (teq _) ⟨false, rfl, ?_⟩⟩) (fun z1 z2 => absurd ⟨z1, z2⟩ w7) fun z1 z2 => absurd ⟨z1, z2⟩ w7⟩
        rw [if_neg (by decide)]
        simp only [c_law_20, fnM, cNext, cSeq, cBrk, cCont, cDrop, cRet, cRetN, cIf, cNever, cAsg, cPar, cPar3, cAug, cFor, eC, eVar, eOp, eUn, eIf, aNil, aCons, eTup, eLst, eLstM, eCB, eFn, eAndV, eOrV, eNotV, cAnd, cOr, cNot, cB, cTru, cYes, mName, mNames, wipeM, mTup, mSub, eFrz, eAppend, eSlice, oNone, oSome, eChain, eLcG, finD, finM, iRange1, iRange2, iZip2, iSeq, bInt, bIntC, bCmp, bMulX, bAddM, eIsi, isTy, bNeg, bIsN, bRepr, bLen, bIntOf, b2Int, bTuple, bList, bListM, bAll, bAny, tupOf, datOf, truV, okOf, bIx_tup, bIx_lst, bIx_set, lenV_set, ixN_21, ixN_20, set_1, sset_same, sset_sset, MO.lst.injEq, lenV_tup, lenV_lst, atI_0, atI_1, atI_2, atI_3, atI_4, lstOf, allD, allD_map, ex_eq_and, ex_eq_and', List.map_cons, List.map_nil, List.length_cons, List.length_nil, List.cons_append, List.nil_append, List.getElem?_cons_zero, List.getElem?_cons_succ, Option.some.injEq, Option.map_some, List.set, List.cons.injEq, and_true, true_and, MV.d.injEq, MV.m.injEq, PyData.int.injEq, PyData.bool.injEq, PyData.str.injEq, PyData.tuple.injEq, PyData.list.injEq, exists_and_left, exists_and_right, exists_eq_left', exists_eq_left, exists_eq_right, exists_eq', Nat.reduceAdd, Nat.reduceSub, Nat.reduceLT, Nat.reduceLeDiff, decide_eq_true_eq, Bool.not_eq_true', decide_eq_false_iff_not, reduceCtorEq, if_true, if_false, Bool.false_eq_true, ite_true, ite_false, not_true_eq_false, not_false_eq_true, Bool.not_true, Bool.not_false, reduceIte, and_self, or_true, true_or, or_false, false_or, and_false, false_and]
        refine ⟨by decide, w_lsched (t := [33]) hk L15.disk (.inl rfl) (s1 33 (by decide) (by decide)) (by decide) (fun z => absurd ⟨by decide, by decide⟩ z) (fun _ _ _ => ⟨by decide, ne_dd (tsh _ (.inr (.inr (.inl rfl)))) (teq _) ⟨false, rfl, ?_⟩⟩) fun _ _ z => absurd z no33⟩
        rw [if_neg (by decide)]
        have el : ((r6.toNat : Nat) : Int) = r6 := by omega
        have go := rest { d with left := some r6.toNat, torn := t1 } F13 pW t1 S15 (some (.d (.int (0 + (i : Int))))) (some (.d (.int r9))) s11 (some (.m p)) s13 s14 s15 s16 s17 L15.up ⟨tok, tl, fun _ => rfl⟩
        unfold leftI at go
        simp only [el] at go
        exact go
      by_cases q0 : r9 = 0
      · rw [if_pos q0]
        exact schedA
      rw [if_neg q0]
      by_cases q1 : (0 + (i : Int)) = 0
      · rw [if_pos q1]
        exact schedA
      rw [if_neg q1]
      clear schedA
      have tl27 : ∀ S, LInv κ b a pB pW m i S d F → c_law_27 κ { nx := c_law_56 κ { nx := N, rt := fun r _ => r = MV.d (PyData.bool true), bk := c_law_58 κ { nx := fun _ _ => False, rt := fun r _ => r = MV.d (PyData.bool true), bk := fun _ _ => False, ct := fun _ _ => False, ex := fun x _ S' => noX x S' }, ct := N, ex := fun x _ S' => noX x S' }, rt := fun r _ => r = MV.d (PyData.bool true), bk := c_law_58 κ { nx := fun _ _ => False, rt := fun r _ => r = MV.d (PyData.bool true), bk := fun _ _ => False, ct := fun _ _ => False, ex := fun x _ S' => noX x S' }, ct := N, ex := fun x _ S' => noX x S' } [some (.d (.list (ns.map .int))), some (.m b), some (.d (.int m)), some (.m a), some (.m pB), some (.m pW), some (.d (.int (leftI d))), some (.d (.list (tn.map .int))), some (.d (.int d.cuts)), some (.d (.int (0 + (i : Int)))), some (.d (.int r9)), s11, s12, s13, s14, s15, s16, s17] S := by
        intro S L
        have few := L.few
        simp only [c_law_27, fnM, cNext, cSeq, cBrk, cCont, cDrop, cRet, cRetN, cIf, cNever, cAsg, cPar, cPar3, cAug, cFor, eC, eVar, eOp, eUn, eIf, aNil, aCons, eTup, eLst, eLstM, eCB, eFn, eAndV, eOrV, eNotV, cAnd, cOr, cNot, cB, cTru, cYes, mName, mNames, wipeM, mTup, mSub, eFrz, eAppend, eSlice, oNone, oSome, eChain, eLcG, finD, finM, iRange1, iRange2, iZip2, iSeq, bInt, bIntC, bCmp, bMulX, bAddM, eIsi, isTy, bAdd, bNeg, bIs, bIsN, isNone, bEq, bNe, bRepr, bLen, bIntOf, b2Int, bTuple, bList, bListM, bAll, bAny, tupOf, datOf, truV, okOf, bIx_tup, bIx_lst, bIx_set, lenV_set, ixN_21, ixN_20, set_1, sset_same, sset_sset, MO.lst.injEq, lenV_tup, lenV_lst, atI_0, atI_1, atI_2, atI_3, atI_4, lstOf, allD, allD_map, ex_eq_and, ex_eq_and', List.map_cons, List.map_nil, List.length_cons, List.length_nil, List.replicate, List.cons_append, List.nil_append, List.getElem?_cons_zero, List.getElem?_cons_succ, Option.some.injEq, Option.map_some, List.set, List.cons.injEq, and_true, true_and, MV.d.injEq, MV.m.injEq, PyData.int.injEq, PyData.bool.injEq, PyData.str.injEq, PyData.tuple.injEq, PyData.list.injEq, exists_and_left, exists_and_right, exists_eq_left', exists_eq_left, exists_eq_right, exists_eq', Nat.reduceAdd, Nat.reduceSub, Nat.reduceLT, Nat.reduceLeDiff, decide_eq_true_eq, Bool.not_eq_true', decide_eq_false_iff_not, reduceCtorEq, if_true, if_false, Bool.false_eq_true, ite_true, ite_false, not_true_eq_false, not_false_eq_true, Bool.not_true, Bool.not_false, reduceIte, and_self, or_true, true_or, or_false, false_or, and_false, false_and]
        by_cases q2 : r9 = 2
        · rw [if_pos q2]
          obtain ⟨z31, d31⟩ : ∃ z, z = List.replicate 31 (0 : Int) := ⟨_, rfl⟩
          have l31 : z31.length = 31 := by rw [d31]; exact List.length_replicate
          have s31 : ∀ x ∈ z31, Small x := fun x hx => by rw [d31] at hx; rw [List.eq_of_mem_replicate hx]; exact ⟨by decide, by decide⟩
          have e31 : (List.replicate (Int.toNat 31) ([PyData.int 0] : List PyData)).flatten = z31.map .int := by rw [d31]; exact rep_zero 31
          simp only [c_law_28, e32, e31, fnM, cNext, cSeq, cBrk, cCont, cDrop, cRet, cRetN, cIf, cNever, cAsg, cPar, cPar3, cAug, cFor, eC, eVar, eOp, eUn, eIf, aNil, aCons, eTup, eLst, eLstM, eCB, eFn, eAndV, eOrV, eNotV, cAnd, cOr, cNot, cB, cTru, cYes, mName, mNames, wipeM, mTup, mSub, eFrz, eAppend, eSlice, oNone, oSome, eChain, eLcG, finD, finM, iRange1, iRange2, iZip2, iSeq, bInt, bIntC, bCmp, bMulX, bAddM, eIsi, isTy, bNeg, bIsN, bRepr, bLen, bIntOf, b2Int, bTuple, bList, bListM, bAll, bAny, tupOf, datOf, truV, okOf, bIx_tup, bIx_lst, bIx_set, lenV_set, ixN_21, ixN_20, set_1, sset_same, sset_sset, MO.lst.injEq, lenV_tup, lenV_lst, atI_0, atI_1, atI_2, atI_3, atI_4, lstOf, allD, allD_map, ex_eq_and, ex_eq_and', List.map_cons, List.map_nil, List.length_cons, List.length_nil, List.cons_append, List.nil_append, List.getElem?_cons_zero, List.getElem?_cons_succ, Option.some.injEq, Option.map_some, List.set, List.cons.injEq, and_true, true_and, MV.d.injEq, MV.m.injEq, PyData.int.injEq, PyData.bool.injEq, PyData.str.injEq, PyData.tuple.injEq, PyData.list.injEq, exists_and_left, exists_and_right, exists_eq_left', exists_eq_left, exists_eq_right, exists_eq', Nat.reduceAdd, Nat.reduceSub, Nat.reduceLT, Nat.reduceLeDiff, decide_eq_true_eq, Bool.not_eq_true', decide_eq_false_iff_not, reduceCtorEq, if_true, if_false, Bool.false_eq_true, ite_true, ite_false, not_true_eq_false, not_false_eq_true, Bool.not_true, Bool.not_false, reduceIte, and_self, or_true, true_or, or_false, false_or, and_false, false_and]
          refine ⟨by decide, fun p np => ⟨by decide, by decide, ?_⟩⟩
          have L1 := L.move (box_new (o := .lst [.d (.int 0)]) L.box np) (Kb.new np)
          generalize (sset S p (.lst [.d (.int 0)])) = S1 at L1
          refine w_ldo (n := (m : Int)) (v := z32) hk L1.disk (by omega) (.inl rfl) (byt_small b32) (by rw [b32.1]; decide) (by omega) (fun _ => ⟨by decide, ne_dd (tsh _ (.inl rfl)) (teq _) ⟨false, rfl, ?_⟩⟩) (fun _ z => absurd z (by rw [L1.len]; omega)) (fun _ z => absurd z (by rw [L1.len]; omega)) fun _ z => absurd z (by rw [L1.len]; omega)
          rw [if_neg (by decide)]
          refine ⟨by decide, fun p2 np2 => ⟨by decide, by decide, ?_⟩⟩
          have L2 := L1.move (box_new (o := .lst [.d (.int 0)]) L1.box np2) (Kb.new np2)
          generalize (sset S1 p2 (.lst [.d (.int 0)])) = S2 at L2
          have nb31 : ¬ Byt z31 := fun h => by have := h.1; omega
          refine w_ldo (n := 0) (v := z31) hk L2.disk (by omega) (.inl rfl) s31 (by omega) (by decide) (fun z => absurd ⟨by decide, by rw [L2.len]; omega⟩ z) (fun _ _ _ => ⟨by decide, ne_dd (tsh _ (.inr (.inl rfl))) (teq _) ⟨false, rfl, ?_⟩⟩) (fun _ _ z => absurd z nb31) fun _ _ z => absurd z nb31
          rw [if_neg (by decide)]
          exact rest d F pW tn S2 _ _ _ _ _ _ _ _ _ L2.up lo
        rw [if_neg q2]
        simp only [c_law_31, fnM, cNext, cSeq, cBrk, cCont, cDrop, cRet, cRetN, cIf, cNever, cAsg, cPar, cPar3, cAug, cFor, eC, eVar, eOp, eUn, eIf, aNil, aCons, eTup, eLst, eLstM, eCB, eFn, eAndV, eOrV, eNotV, cAnd, cOr, cNot, cB, cTru, cYes, mName, mNames, wipeM, mTup, mSub, eFrz, eAppend, eSlice, oNone, oSome, eChain, eLcG, finD, finM, iRange1, iRange2, iZip2, iSeq, bInt, bIntC, bCmp, bMulX, bAddM, eIsi, isTy, bAdd, bNeg, bIs, bIsN, isNone, bEq, bNe, bRepr, bLen, bIntOf, b2Int, bTuple, bList, bListM, bAll, bAny, tupOf, datOf, truV, okOf, bIx_tup, bIx_lst, bIx_set, lenV_set, ixN_21, ixN_20, set_1, sset_same, sset_sset, MO.lst.injEq, lenV_tup, lenV_lst, atI_0, atI_1, atI_2, atI_3, atI_4, lstOf, allD, allD_map, ex_eq_and, ex_eq_and', List.map_cons, List.map_nil, List.length_cons, List.length_nil, List.replicate, List.cons_append, List.nil_append, List.getElem?_cons_zero, List.getElem?_cons_succ, Option.some.injEq, Option.map_some, List.set, List.cons.injEq, and_true, true_and, MV.d.injEq, MV.m.injEq, PyData.int.injEq, PyData.bool.injEq, PyData.str.injEq, PyData.tuple.injEq, PyData.list.injEq, exists_and_left, exists_and_right, exists_eq_left', exists_eq_left, exists_eq_right, exists_eq', Nat.reduceAdd, Nat.reduceSub, Nat.reduceLT, Nat.reduceLeDiff, decide_eq_true_eq, Bool.not_eq_true', decide_eq_false_iff_not, reduceCtorEq, if_true, if_false, Bool.false_eq_true, ite_true, ite_false, not_true_eq_false, not_false_eq_true, Bool.not_true, Bool.not_false, reduceIte, and_self, or_true, true_or, or_false, false_or, and_false, false_and]
        have tl34 : ∀ (n : Int) S, (n = 0 - 1 ∨ (0 ≤ n ∧ n < m)) → LInv κ b a pB pW m i S d F → c_law_34 κ { nx := c_law_56 κ { nx := N, rt := fun r _ => r = MV.d (PyData.bool true), bk := c_law_58 κ { nx := fun _ _ => False, rt := fun r _ => r = MV.d (PyData.bool true), bk := fun _ _ => False, ct := fun _ _ => False, ex := fun x _ S' => noX x S' }, ct := N, ex := fun x _ S' => noX x S' }, rt := fun r _ => r = MV.d (PyData.bool true), bk := c_law_58 κ { nx := fun _ _ => False, rt := fun r _ => r = MV.d (PyData.bool true), bk := fun _ _ => False, ct := fun _ _ => False, ex := fun x _ S' => noX x S' }, ct := N, ex := fun x _ S' => noX x S' } [some (.d (.list (ns.map .int))), some (.m b), some (.d (.int m)), some (.m a), some (.m pB), some (.m pW), some (.d (.int (leftI d))), some (.d (.list (tn.map .int))), some (.d (.int d.cuts)), some (.d (.int (0 + (i : Int)))), some (.d (.int r9)), s11, s12, some (.d (.int n)), s14, s15, s16, s17] S := by
          intro n S hn L
          have few := L.few
          simp only [c_law_34, fnM, cNext, cSeq, cBrk, cCont, cDrop, cRet, cRetN, cIf, cNever, cAsg, cPar, cPar3, cAug, cFor, eC, eVar, eOp, eUn, eIf, aNil, aCons, eTup, eLst, eLstM, eCB, eFn, eAndV, eOrV, eNotV, cAnd, cOr, cNot, cB, cTru, cYes, mName, mNames, wipeM, mTup, mSub, eFrz, eAppend, eSlice, oNone, oSome, eChain, eLcG, finD, finM, iRange1, iRange2, iZip2, iSeq, bInt, bIntC, bCmp, bMulX, bAddM, eIsi, isTy, bAdd, bNeg, bIs, bIsN, isNone, bEq, bNe, bRepr, bLen, bIntOf, b2Int, bTuple, bList, bListM, bAll, bAny, tupOf, datOf, truV, okOf, bIx_tup, bIx_lst, bIx_set, lenV_set, ixN_21, ixN_20, set_1, sset_same, sset_sset, MO.lst.injEq, lenV_tup, lenV_lst, atI_0, atI_1, atI_2, atI_3, atI_4, lstOf, allD, allD_map, ex_eq_and, ex_eq_and', List.map_cons, List.map_nil, List.length_cons, List.length_nil, List.replicate, List.cons_append, List.nil_append, List.getElem?_cons_zero, List.getElem?_cons_succ, Option.some.injEq, Option.map_some, List.set, List.cons.injEq, and_true, true_and, MV.d.injEq, MV.m.injEq, PyData.int.injEq, PyData.bool.injEq, PyData.str.injEq, PyData.tuple.injEq, PyData.list.injEq, exists_and_left, exists_and_right, exists_eq_left', exists_eq_left, exists_eq_right, exists_eq', Nat.reduceAdd, Nat.reduceSub, Nat.reduceLT, Nat.reduceLeDiff, decide_eq_true_eq, Bool.not_eq_true', decide_eq_false_iff_not, reduceCtorEq, if_true, if_false, Bool.false_eq_true, ite_true, ite_false, not_true_eq_false, not_false_eq_true, Bool.not_true, Bool.not_false, reduceIte, and_self, or_true, true_or, or_false, false_or, and_false, false_and]
          refine ⟨by decide, by decide, ?_⟩
          refine lc_draws (lo := 1) (hi := 255) L.box (by decide) (fun k S2 M hk hb2 hM => ?_) fun v S2 vl vr hb2 k2 => ⟨_, allD_ints v, ?_⟩
          · simp only [fnM, cNext, cSeq, cBrk, cCont, cDrop, cRet, cRetN, cIf, cNever, cAsg, cPar, cPar3, cAug, cFor, eC, eVar, eOp, eUn, eIf, aNil, aCons, eTup, eLst, eLstM, eCB, eFn, eAndV, eOrV, eNotV, cAnd, cOr, cNot, cB, cTru, cYes, mName, mNames, wipeM, mTup, mSub, eFrz, eAppend, eSlice, oNone, oSome, eChain, eLcG, finD, finM, iRange1, iRange2, iZip2, iSeq, bInt, bIntC, bCmp, bMulX, bAddM, eIsi, isTy, bAdd, bNeg, bIs, bIsN, isNone, bEq, bNe, bRepr, bLen, bIntOf, b2Int, bTuple, bList, bListM, bAll, bAny, tupOf, datOf, truV, okOf, bIx_tup, bIx_lst, bIx_set, lenV_set, ixN_21, ixN_20, set_1, sset_same, sset_sset, MO.lst.injEq, lenV_tup, lenV_lst, atI_0, atI_1, atI_2, atI_3, atI_4, lstOf, allD, allD_map, ex_eq_and, ex_eq_and', List.map_cons, List.map_nil, List.length_cons, List.length_nil, List.replicate, List.cons_append, List.nil_append, List.getElem?_cons_zero, List.getElem?_cons_succ, Option.some.injEq, Option.map_some, List.set, List.cons.injEq, and_true, true_and, MV.d.injEq, MV.m.injEq, PyData.int.injEq, PyData.bool.injEq, PyData.str.injEq, PyData.tuple.injEq, PyData.list.injEq, exists_and_left, exists_and_right, exists_eq_left', exists_eq_left, exists_eq_right, exists_eq', Nat.reduceAdd, Nat.reduceSub, Nat.reduceLT, Nat.reduceLeDiff, decide_eq_true_eq, Bool.not_eq_true', decide_eq_false_iff_not, reduceCtorEq, if_true, if_false, Bool.false_eq_true, ite_true, ite_false, not_true_eq_false, not_false_eq_true, Bool.not_true, Bool.not_false, reduceIte, and_self, or_true, true_or, or_false, false_or, and_false, false_and]
            refine w_draw hb2 (by decide) fun r2 S3 r2a r2b hb3 sm3 => ?_
            simp only [fnM, cNext, cSeq, cBrk, cCont, cDrop, cRet, cRetN, cIf, cNever, cAsg, cPar, cPar3, cAug, cFor, eC, eVar, eOp, eUn, eIf, aNil, aCons, eTup, eLst, eLstM, eCB, eFn, eAndV, eOrV, eNotV, cAnd, cOr, cNot, cB, cTru, cYes, mName, mNames, wipeM, mTup, mSub, eFrz, eAppend, eSlice, oNone, oSome, eChain, eLcG, finD, finM, iRange1, iRange2, iZip2, iSeq, bInt, bIntC, bCmp, bMulX, bAddM, eIsi, isTy, bAdd, bNeg, bIs, bIsN, isNone, bEq, bNe, bRepr, bLen, bIntOf, b2Int, bTuple, bList, bListM, bAll, bAny, tupOf, datOf, truV, okOf, bIx_tup, bIx_lst, bIx_set, lenV_set, ixN_21, ixN_20, set_1, sset_same, sset_sset, MO.lst.injEq, lenV_tup, lenV_lst, atI_0, atI_1, atI_2, atI_3, atI_4, lstOf, allD, allD_map, ex_eq_and, ex_eq_and', List.map_cons, List.map_nil, List.length_cons, List.length_nil, List.replicate, List.cons_append, List.nil_append, List.getElem?_cons_zero, List.getElem?_cons_succ, Option.some.injEq, Option.map_some, List.set, List.cons.injEq, and_true, true_and, MV.d.injEq, MV.m.injEq, PyData.int.injEq, PyData.bool.injEq, PyData.str.injEq, PyData.tuple.injEq, PyData.list.injEq, exists_and_left, exists_and_right, exists_eq_left', exists_eq_left, exists_eq_right, exists_eq', Nat.reduceAdd, Nat.reduceSub, Nat.reduceLT, Nat.reduceLeDiff, decide_eq_true_eq, Bool.not_eq_true', decide_eq_false_iff_not, reduceCtorEq, if_true, if_false, Bool.false_eq_true, ite_true, ite_false, not_true_eq_false, not_false_eq_true, Bool.not_true, Bool.not_false, reduceIte, and_self, or_true, true_or, or_false, false_or, and_false, false_and]
            exact hM _ _ (by omega) (by omega) hb3 (Kb.sm sm3)
          have bv : Byt v := ⟨vl, fun x hx => by have := vr x hx; omega⟩
          have L2 := L.move hb2 k2
          simp only [c_law_35, fnM, cNext, cSeq, cBrk, cCont, cDrop, cRet, cRetN, cIf, cNever, cAsg, cPar, cPar3, cAug, cFor, eC, eVar, eOp, eUn, eIf, aNil, aCons, eTup, eLst, eLstM, eCB, eFn, eAndV, eOrV, eNotV, cAnd, cOr, cNot, cB, cTru, cYes, mName, mNames, wipeM, mTup, mSub, eFrz, eAppend, eSlice, oNone, oSome, eChain, eLcG, finD, finM, iRange1, iRange2, iZip2, iSeq, bInt, bIntC, bCmp, bMulX, bAddM, eIsi, isTy, bAdd, bNeg, bIs, bIsN, isNone, bEq, bNe, bRepr, bLen, bIntOf, b2Int, bTuple, bList, bListM, bAll, bAny, tupOf, datOf, truV, okOf, bIx_tup, bIx_lst, bIx_set, lenV_set, ixN_21, ixN_20, set_1, sset_same, sset_sset, MO.lst.injEq, lenV_tup, lenV_lst, atI_0, atI_1, atI_2, atI_3, atI_4, lstOf, allD, allD_map, ex_eq_and, ex_eq_and', List.map_cons, List.map_nil, List.length_cons, List.length_nil, List.replicate, List.cons_append, List.nil_append, List.getElem?_cons_zero, List.getElem?_cons_succ, Option.some.injEq, Option.map_some, List.set, List.cons.injEq, and_true, true_and, MV.d.injEq, MV.m.injEq, PyData.int.injEq, PyData.bool.injEq, PyData.str.injEq, PyData.tuple.injEq, PyData.list.injEq, exists_and_left, exists_and_right, exists_eq_left', exists_eq_left, exists_eq_right, exists_eq', Nat.reduceAdd, Nat.reduceSub, Nat.reduceLT, Nat.reduceLeDiff, decide_eq_true_eq, Bool.not_eq_true', decide_eq_false_iff_not, reduceCtorEq, if_true, if_false, Bool.false_eq_true, ite_true, ite_false, not_true_eq_false, not_false_eq_true, Bool.not_true, Bool.not_false, reduceIte, and_self, or_true, true_or, or_false, false_or, and_false, false_and]
          refine ⟨_, rfl, v.map .int, allD_map _, ?_⟩
          have tcut : ∀ S3 F3, d.left = some 0 → Ext S2 F S3 F3 → DiskOk κ S3 a ⟨cutB d.bs d.ps d.torn, [], d.cuts + 1, none, []⟩ F3 → c_law_36 κ { nx := c_law_56 κ { nx := N, rt := fun r _ => r = MV.d (PyData.bool true), bk := c_law_58 κ { nx := fun _ _ => False, rt := fun r _ => r = MV.d (PyData.bool true), bk := fun _ _ => False, ct := fun _ _ => False, ex := fun x _ S' => noX x S' }, ct := N, ex := fun x _ S' => noX x S' }, rt := fun r _ => r = MV.d (PyData.bool true), bk := c_law_58 κ { nx := fun _ _ => False, rt := fun r _ => r = MV.d (PyData.bool true), bk := fun _ _ => False, ct := fun _ _ => False, ex := fun x _ S' => noX x S' }, ct := N, ex := fun x _ S' => noX x S' } [some (.d (.list (ns.map .int))), some (.m b), some (.d (.int m)), some (.m a), some (.m pB), some (.m pW), some (.d (.int (leftI d))), some (.d (.list (tn.map .int))), some (.d (.int d.cuts)), some (.d (.int (0 + (i : Int)))), some (.d (.int r9)), s11, s12, some (.d (.int n)), some (.d (rowD v)), some (.d (.tuple [.str "refused", .str "cut"])), s16, s17] S3 := by
            intro S3 F3 z4 x3 h3
            have el : leftI d = 0 := by unfold leftI; rw [z4]; rfl
            rw [lo.same (by rw [z4]; exact fun z => nomatch z)] at h3
            simp only [c_law_36, el, fnM, cNext, cSeq, cBrk, cCont, cDrop, cRet, cRetN, cIf, cNever, cAsg, cPar, cPar3, cAug, cFor, eC, eVar, eOp, eUn, eIf, aNil, aCons, eTup, eLst, eLstM, eCB, eFn, eAndV, eOrV, eNotV, cAnd, cOr, cNot, cB, cTru, cYes, mName, mNames, wipeM, mTup, mSub, eFrz, eAppend, eSlice, oNone, oSome, eChain, eLcG, finD, finM, iRange1, iRange2, iZip2, iSeq, bInt, bIntC, bCmp, bMulX, bAddM, eIsi, isTy, bAdd, bNeg, bIs, bIsN, isNone, bEq, bNe, bRepr, bLen, bIntOf, b2Int, bTuple, bList, bListM, bAll, bAny, tupOf, datOf, truV, okOf, bIx_tup, bIx_lst, bIx_set, lenV_set, ixN_21, ixN_20, set_1, sset_same, sset_sset, MO.lst.injEq, lenV_tup, lenV_lst, atI_0, atI_1, atI_2, atI_3, atI_4, lstOf, allD, allD_map, ex_eq_and, ex_eq_and', List.map_cons, List.map_nil, List.length_cons, List.length_nil, List.replicate, List.cons_append, List.nil_append, List.getElem?_cons_zero, List.getElem?_cons_succ, Option.some.injEq, Option.map_some, List.set, List.cons.injEq, and_true, true_and, MV.d.injEq, MV.m.injEq, PyData.int.injEq, PyData.bool.injEq, PyData.str.injEq, PyData.tuple.injEq, PyData.list.injEq, exists_and_left, exists_and_right, exists_eq_left', exists_eq_left, exists_eq_right, exists_eq', Nat.reduceAdd, Nat.reduceSub, Nat.reduceLT, Nat.reduceLeDiff, decide_eq_true_eq, Bool.not_eq_true', decide_eq_false_iff_not, reduceCtorEq, if_true, if_false, Bool.false_eq_true, ite_true, ite_false, not_true_eq_false, not_false_eq_true, Bool.not_true, Bool.not_false, reduceIte, and_self, or_true, true_or, or_false, false_or, and_false, false_and]
            simp only [c_law_37, fnM, cNext, cSeq, cBrk, cCont, cDrop, cRet, cRetN, cIf, cNever, cAsg, cPar, cPar3, cAug, cFor, eC, eVar, eOp, eUn, eIf, aNil, aCons, eTup, eLst, eLstM, eCB, eFn, eAndV, eOrV, eNotV, cAnd, cOr, cNot, cB, cTru, cYes, mName, mNames, wipeM, mTup, mSub, eFrz, eAppend, eSlice, oNone, oSome, eChain, eLcG, finD, finM, iRange1, iRange2, iZip2, iSeq, bInt, bIntC, bCmp, bMulX, bAddM, eIsi, isTy, bNeg, bIsN, bRepr, bLen, bIntOf, b2Int, bTuple, bList, bListM, bAll, bAny, tupOf, datOf, truV, okOf, bIx_tup, bIx_lst, bIx_set, lenV_set, ixN_21, ixN_20, set_1, sset_same, sset_sset, MO.lst.injEq, lenV_tup, lenV_lst, atI_0, atI_1, atI_2, atI_3, atI_4, lstOf, allD, allD_map, ex_eq_and, ex_eq_and', List.map_cons, List.map_nil, List.length_cons, List.length_nil, List.cons_append, List.nil_append, List.getElem?_cons_zero, List.getElem?_cons_succ, Option.some.injEq, Option.map_some, List.set, List.cons.injEq, and_true, true_and, MV.d.injEq, MV.m.injEq, PyData.int.injEq, PyData.bool.injEq, PyData.str.injEq, PyData.tuple.injEq, PyData.list.injEq, exists_and_left, exists_and_right, exists_eq_left', exists_eq_left, exists_eq_right, exists_eq', Nat.reduceAdd, Nat.reduceSub, Nat.reduceLT, Nat.reduceLeDiff, decide_eq_true_eq, Bool.not_eq_true', decide_eq_false_iff_not, reduceCtorEq, if_true, if_false, Bool.false_eq_true, ite_true, ite_false, not_true_eq_false, not_false_eq_true, Bool.not_true, Bool.not_false, reduceIte, and_self, or_true, true_or, or_false, false_or, and_false, false_and]
            refine ⟨by decide, ne_dd (tsh _ (.inr (.inr (.inr (.inr rfl))))) (teq _) ⟨false, rfl, ?_⟩⟩
            rw [if_neg (by decide)]
            have hb11 : BoxOk S3 b := by
              obtain ⟨d0, i0, z1, z2⟩ := L2.box
              exact ⟨d0, i0, x3.keep b _ L2.nb z1, z2⟩
            have eB11 := x3.keep _ _ L2.nB L2.bl
            have eW11 := x3.keep _ _ L2.nW L2.pe
            have g10 := disk_good L2.disk
            have nb11 : b ∉ F3 := by
              obtain ⟨d0, i0, z1, z2⟩ := L2.box
              exact x3.out L2.nb z1
            have nB11 := x3.out L2.nB L2.bl
            simp only [c_law_39, lenV, fnM, cNext, cSeq, cBrk, cCont, cDrop, cRet, cRetN, cIf, cNever, cAsg, cPar, cPar3, cAug, cFor, eC, eVar, eOp, eUn, eIf, aNil, aCons, eTup, eLst, eLstM, eCB, eFn, eAndV, eOrV, eNotV, cAnd, cOr, cNot, cB, cTru, cYes, mName, mNames, wipeM, mTup, mSub, eFrz, eAppend, eSlice, oNone, oSome, eChain, eLcG, finD, finM, iRange1, iRange2, iZip2, iSeq, bInt, bIntC, bCmp, bMulX, bAddM, eIsi, isTy, bAdd, bNeg, bIs, bIsN, isNone, bEq, bNe, bRepr, bLen, bIntOf, b2Int, bTuple, bList, bListM, bAll, bAny, tupOf, datOf, truV, okOf, bIx_tup, bIx_lst, bIx_set, lenV_set, ixN_21, ixN_20, set_1, sset_same, sset_sset, MO.lst.injEq, lenV_tup, lenV_lst, atI_0, atI_1, atI_2, atI_3, atI_4, lstOf, allD, allD_map, ex_eq_and, ex_eq_and', List.map_cons, List.map_nil, List.length_cons, List.length_nil, List.replicate, List.cons_append, List.nil_append, List.getElem?_cons_zero, List.getElem?_cons_succ, Option.some.injEq, Option.map_some, List.set, List.cons.injEq, and_true, true_and, MV.d.injEq, MV.m.injEq, PyData.int.injEq, PyData.bool.injEq, PyData.str.injEq, PyData.tuple.injEq, PyData.list.injEq, exists_and_left, exists_and_right, exists_eq_left', exists_eq_left, exists_eq_right, exists_eq', Nat.reduceAdd, Nat.reduceSub, Nat.reduceLT, Nat.reduceLeDiff, decide_eq_true_eq, Bool.not_eq_true', decide_eq_false_iff_not, reduceCtorEq, if_true, if_false, Bool.false_eq_true, ite_true, ite_false, not_true_eq_false, not_false_eq_true, Bool.not_true, Bool.not_false, reduceIte, and_self, or_true, true_or, or_false, false_or, and_false, false_and]
            have lpp : (pendM d.ps).length = d.ps.length := by unfold pendM; rw [List.length_map]
            have tl := lo.len
            have tok := lo.ok
            refine ⟨tn.length, ⟨_, rfl, by rw [List.length_map, List.length_map]⟩, d.ps.length, ⟨pendM d.ps, by show (match S3 pW with | some (.lst xs) => some xs | _ => none) = _; rw [eW11], lpp.symm⟩, by split <;> omega, by split <;> omega, ?_⟩
            obtain ⟨mi, emi, hmi⟩ : ∃ mi : Nat, (if (d.ps.length : Int) < (tn.length : Int) then (d.ps.length : Int) else (tn.length : Int)).toNat = mi ∧ mi = min tn.length d.ps.length := ⟨_, rfl, by split <;> omega⟩
            rw [emi]
            refine forL_inv (fun k ρ S' => BoxOk S' b ∧ DiskOk κ S' a ⟨cutB d.bs d.ps tn, [], d.cuts + 1, none, []⟩ F3 ∧ S' pB = some (.lst ((cutB d.bs (d.ps.take k) (tn.take k)).map fun r => .d (rowD r))) ∧ S' pW = some (.lst (pendM d.ps)) ∧ ∃ t11 t16, ρ = [some (.d (.list (ns.map .int))), some (.m b), some (.d (.int m)), some (.m a), some (.m pB), some (.m pW), some (.d (.int (0))), some (.d (.list (tn.map .int))), some (.d (.int d.cuts)), some (.d (.int (0 + (i : Int)))), some (.d (.int r9)), t11, s12, some (.d (.int n)), some (.d (rowD v)), some (.d (.tuple [.str "refused", .str "cut"])), t16, s17]) _ 0 _ _
              ⟨hb11, h3, by simpa [cutB] using eB11, eW11, _, _, rfl⟩ (fun _ _ _ _ => trivial) ?_ ?_
            · rintro k y ρ S12 N2 ey ⟨hb12, h12, eB, eW, t11, t16, rfl⟩ hN2
              rw [Nat.zero_add] at eB hN2
              obtain ⟨hk2, rfl⟩ := rng_some ey
              have k1 : k < d.ps.length := by omega
              have k2 : k < tn.length := by omega
              obtain ⟨e, he⟩ : ∃ e, d.ps[k]? = some e := ⟨_, List.getElem?_eq_getElem k1⟩
              obtain ⟨u, hu⟩ : ∃ u, tn[k]? = some u := ⟨_, List.getElem?_eq_getElem k2⟩
              have et := cutB_step d.ps d.bs tn k e u he hu
              rw [et] at hN2
              obtain ⟨cb, ecb⟩ : ∃ cb, cb = cutB d.bs (d.ps.take k) (tn.take k) := ⟨_, rfl⟩
              rw [← ecb] at eB hN2
              have lcb : cb.length = d.bs.length := by rw [ecb, cutB_len]
              have hge := g10.ps e (List.mem_of_getElem? he)
              have hgu := tok u (List.mem_of_getElem? hu)
              have bycb : ∀ r ∈ cb, Byt r := by
                rw [ecb]
                exact cutB_byt _ _ _ g10.bs (fun x hx => g10.ps x (List.mem_of_mem_take hx)) fun x hx => tok x (List.mem_of_mem_take hx)
              have bo := byt_getD bycb (k := e.1) (by rw [lcb]; exact hge.1)
              have pe : atI (pendM d.ps) (0 + (k : Int)) = some (.d (.list [.int (e.1 : Int), rowD e.2])) := by
                rw [Int.zero_add, atI_nat']
                unfold pendM
                rw [List.getElem?_map, he]
                rfl
              have te : atI (tn.map PyData.int) (0 + (k : Int)) = some (.int u) := by
                rw [Int.zero_add, atI_nat', List.getElem?_map, hu]
                rfl
              have be : atI (cb.map fun r => MV.d (rowD r)) (e.1 : Int) = some (.d (rowD (cb.getD e.1 []))) := by
                rw [atI_nat', List.getElem?_map, List.getElem?_eq_getElem (by rw [lcb]; exact hge.1), List.getD, List.getElem?_eq_getElem (by rw [lcb]; exact hge.1)]
                rfl
              simp only [c_law_40, bIx_m eW, pe, fnM, cNext, cSeq, cBrk, cCont, cDrop, cRet, cRetN, cIf, cNever, cAsg, cPar, cPar3, cAug, cFor, eC, eVar, eOp, eUn, eIf, aNil, aCons, eTup, eLst, eLstM, eCB, eFn, eAndV, eOrV, eNotV, cAnd, cOr, cNot, cB, cTru, cYes, mName, mNames, wipeM, mTup, mSub, eFrz, eAppend, eSlice, oNone, oSome, eChain, eLcG, finD, finM, iRange1, iRange2, iZip2, iSeq, bInt, bIntC, bCmp, bMulX, bAddM, eIsi, isTy, bNeg, bIsN, bRepr, bLen, bIntOf, b2Int, bTuple, bList, bListM, bAll, bAny, tupOf, datOf, truV, okOf, bIx_tup, bIx_lst, bIx_set, lenV_set, ixN_21, ixN_20, set_1, sset_same, sset_sset, MO.lst.injEq, lenV_tup, lenV_lst, atI_0, atI_1, atI_2, atI_3, atI_4, lstOf, allD, allD_map, ex_eq_and, ex_eq_and', List.map_cons, List.map_nil, List.length_cons, List.length_nil, List.cons_append, List.nil_append, List.getElem?_cons_zero, List.getElem?_cons_succ, Option.some.injEq, Option.map_some, List.set, List.cons.injEq, and_true, true_and, MV.d.injEq, MV.m.injEq, PyData.int.injEq, PyData.bool.injEq, PyData.str.injEq, PyData.tuple.injEq, PyData.list.injEq, exists_and_left, exists_and_right, exists_eq_left', exists_eq_left, exists_eq_right, exists_eq', Nat.reduceAdd, Nat.reduceSub, Nat.reduceLT, Nat.reduceLeDiff, decide_eq_true_eq, Bool.not_eq_true', decide_eq_false_iff_not, reduceCtorEq, if_true, if_false, Bool.false_eq_true, ite_true, ite_false, not_true_eq_false, not_false_eq_true, Bool.not_true, Bool.not_false, reduceIte, and_self, or_true, true_or, or_false, false_or, and_false, false_and]
              simp only [c_law_41, bIx_m eW, bIx_m eB, pe, te, be, fnM, cNext, cSeq, cBrk, cCont, cDrop, cRet, cRetN, cIf, cNever, cAsg, cPar, cPar3, cAug, cFor, eC, eVar, eOp, eUn, eIf, aNil, aCons, eTup, eLst, eLstM, eCB, eFn, eAndV, eOrV, eNotV, cAnd, cOr, cNot, cB, cTru, cYes, mName, mNames, wipeM, mTup, mSub, eFrz, eAppend, eSlice, oNone, oSome, eChain, eLcG, finD, finM, iRange1, iRange2, iZip2, iSeq, bInt, bIntC, bCmp, bMulX, bAddM, eIsi, isTy, bNeg, bIsN, bRepr, bLen, bIntOf, b2Int, bTuple, bList, bListM, bAll, bAny, tupOf, datOf, truV, okOf, bIx_tup, bIx_lst, bIx_set, lenV_set, ixN_21, ixN_20, set_1, sset_same, sset_sset, MO.lst.injEq, lenV_tup, lenV_lst, atI_0, atI_1, atI_2, atI_3, atI_4, lstOf, allD, allD_map, ex_eq_and, ex_eq_and', List.map_cons, List.map_nil, List.length_cons, List.length_nil, List.cons_append, List.nil_append, List.getElem?_cons_zero, List.getElem?_cons_succ, Option.some.injEq, Option.map_some, List.set, List.cons.injEq, and_true, true_and, MV.d.injEq, MV.m.injEq, PyData.int.injEq, PyData.bool.injEq, PyData.str.injEq, PyData.tuple.injEq, PyData.list.injEq, exists_and_left, exists_and_right, exists_eq_left', exists_eq_left, exists_eq_right, exists_eq', Nat.reduceAdd, Nat.reduceSub, Nat.reduceLT, Nat.reduceLeDiff, decide_eq_true_eq, Bool.not_eq_true', decide_eq_false_iff_not, reduceCtorEq, if_true, if_false, Bool.false_eq_true, ite_true, ite_false, not_true_eq_false, not_false_eq_true, Bool.not_true, Bool.not_false, reduceIte, and_self, or_true, true_or, or_false, false_or, and_false, false_and]
              rw [sl_row (.inl rfl), bIx_m eB]
              refine ⟨_, be, ?_⟩
              rw [sl_row (.inl rfl), add_rows (by unfold cutL; rw [List.length_take, List.length_take, List.length_drop, List.length_drop, hge.2.1, bo.1]; omega), cut_to _ hgu.1 (by rw [hge.2.1]; omega), cut_from _ hgu.1 (by rw [bo.1]; omega)]
              refine ⟨_, eB, e.1, by rw [List.length_map, lcb]; exact ix_nat hge.1, hN2 _ _ ⟨box_put hb12 L2.bB, disk_put h12 nB11, ?_, by rw [sset_ne L2.BW.symm]; exact eW, _, _, rfl⟩⟩
              rw [sset_same, List.map_set]
              rfl
            · rintro ρ S12 ⟨hb12, h12, eB, eW, t11, t16, rfl⟩
              rw [rng_length, Nat.zero_add, cutB_min _ _ _ _ (by omega)] at eB
              simp only [c_law_42, fnM, cNext, cSeq, cBrk, cCont, cDrop, cRet, cRetN, cIf, cNever, cAsg, cPar, cPar3, cAug, cFor, eC, eVar, eOp, eUn, eIf, aNil, aCons, eTup, eLst, eLstM, eCB, eFn, eAndV, eOrV, eNotV, cAnd, cOr, cNot, cB, cTru, cYes, mName, mNames, wipeM, mTup, mSub, eFrz, eAppend, eSlice, oNone, oSome, eChain, eLcG, finD, finM, iRange1, iRange2, iZip2, iSeq, bInt, bIntC, bCmp, bMulX, bAddM, eIsi, isTy, bAdd, bNeg, bIs, bIsN, isNone, bEq, bNe, bRepr, bLen, bIntOf, b2Int, bTuple, bList, bListM, bAll, bAny, tupOf, datOf, truV, okOf, bIx_tup, bIx_lst, bIx_set, lenV_set, ixN_21, ixN_20, set_1, sset_same, sset_sset, MO.lst.injEq, lenV_tup, lenV_lst, atI_0, atI_1, atI_2, atI_3, atI_4, lstOf, allD, allD_map, ex_eq_and, ex_eq_and', List.map_cons, List.map_nil, List.length_cons, List.length_nil, List.replicate, List.cons_append, List.nil_append, List.getElem?_cons_zero, List.getElem?_cons_succ, Option.some.injEq, Option.map_some, List.set, List.cons.injEq, and_true, true_and, MV.d.injEq, MV.m.injEq, PyData.int.injEq, PyData.bool.injEq, PyData.str.injEq, PyData.tuple.injEq, PyData.list.injEq, exists_and_left, exists_and_right, exists_eq_left', exists_eq_left, exists_eq_right, exists_eq', Nat.reduceAdd, Nat.reduceSub, Nat.reduceLT, Nat.reduceLeDiff, decide_eq_true_eq, Bool.not_eq_true', decide_eq_false_iff_not, reduceCtorEq, if_true, if_false, Bool.false_eq_true, ite_true, ite_false, not_true_eq_false, not_false_eq_true, Bool.not_true, Bool.not_false, reduceIte, and_self, or_true, true_or, or_false, false_or, and_false, false_and]
              refine ⟨Nat.zero_le _, fun pW2 nW2 => ?_⟩
              simp only [c_law_43, fnM, cNext, cSeq, cBrk, cCont, cDrop, cRet, cRetN, cIf, cNever, cAsg, cPar, cPar3, cAug, cFor, eC, eVar, eOp, eUn, eIf, aNil, aCons, eTup, eLst, eLstM, eCB, eFn, eAndV, eOrV, eNotV, cAnd, cOr, cNot, cB, cTru, cYes, mName, mNames, wipeM, mTup, mSub, eFrz, eAppend, eSlice, oNone, oSome, eChain, eLcG, finD, finM, iRange1, iRange2, iZip2, iSeq, bInt, bIntC, bCmp, bMulX, bAddM, eIsi, isTy, bAdd, bNeg, bIs, bIsN, isNone, bEq, bNe, bRepr, bLen, bIntOf, b2Int, bTuple, bList, bListM, bAll, bAny, tupOf, datOf, truV, okOf, bIx_tup, bIx_lst, bIx_set, lenV_set, ixN_21, ixN_20, set_1, sset_same, sset_sset, MO.lst.injEq, lenV_tup, lenV_lst, atI_0, atI_1, atI_2, atI_3, atI_4, lstOf, allD, allD_map, ex_eq_and, ex_eq_and', List.map_cons, List.map_nil, List.length_cons, List.length_nil, List.replicate, List.cons_append, List.nil_append, List.getElem?_cons_zero, List.getElem?_cons_succ, Option.some.injEq, Option.map_some, List.set, List.cons.injEq, and_true, true_and, MV.d.injEq, MV.m.injEq, PyData.int.injEq, PyData.bool.injEq, PyData.str.injEq, PyData.tuple.injEq, PyData.list.injEq, exists_and_left, exists_and_right, exists_eq_left', exists_eq_left, exists_eq_right, exists_eq', Nat.reduceAdd, Nat.reduceSub, Nat.reduceLT, Nat.reduceLeDiff, decide_eq_true_eq, Bool.not_eq_true', decide_eq_false_iff_not, reduceCtorEq, if_true, if_false, Bool.false_eq_true, ite_true, ite_false, not_true_eq_false, not_false_eq_true, Bool.not_true, Bool.not_false, reduceIte, and_self, or_true, true_or, or_false, false_or, and_false, false_and]
              simp only [c_law_44, fnM, cNext, cSeq, cBrk, cCont, cDrop, cRet, cRetN, cIf, cNever, cAsg, cPar, cPar3, cAug, cFor, eC, eVar, eOp, eUn, eIf, aNil, aCons, eTup, eLst, eLstM, eCB, eFn, eAndV, eOrV, eNotV, cAnd, cOr, cNot, cB, cTru, cYes, mName, mNames, wipeM, mTup, mSub, eFrz, eAppend, eSlice, oNone, oSome, eChain, eLcG, finD, finM, iRange1, iRange2, iZip2, iSeq, bInt, bIntC, bCmp, bMulX, bAddM, eIsi, isTy, bAdd, bNeg, bIs, bIsN, isNone, bEq, bNe, bRepr, bLen, bIntOf, b2Int, bTuple, bList, bListM, bAll, bAny, tupOf, datOf, truV, okOf, bIx_tup, bIx_lst, bIx_set, lenV_set, ixN_21, ixN_20, set_1, sset_same, sset_sset, MO.lst.injEq, lenV_tup, lenV_lst, atI_0, atI_1, atI_2, atI_3, atI_4, lstOf, allD, allD_map, ex_eq_and, ex_eq_and', List.map_cons, List.map_nil, List.length_cons, List.length_nil, List.replicate, List.cons_append, List.nil_append, List.getElem?_cons_zero, List.getElem?_cons_succ, Option.some.injEq, Option.map_some, List.set, List.cons.injEq, and_true, true_and, MV.d.injEq, MV.m.injEq, PyData.int.injEq, PyData.bool.injEq, PyData.str.injEq, PyData.tuple.injEq, PyData.list.injEq, exists_and_left, exists_and_right, exists_eq_left', exists_eq_left, exists_eq_right, exists_eq', Nat.reduceAdd, Nat.reduceSub, Nat.reduceLT, Nat.reduceLeDiff, decide_eq_true_eq, Bool.not_eq_true', decide_eq_false_iff_not, reduceCtorEq, if_true, if_false, Bool.false_eq_true, ite_true, ite_false, not_true_eq_false, not_false_eq_true, Bool.not_true, Bool.not_false, reduceIte, and_self, or_true, true_or, or_false, false_or, and_false, false_and]
              exact rest ⟨cutB d.bs d.ps tn, [], d.cuts + 1, none, []⟩ F3 pW2 tn _ _ _ _ _ _ _ _ _ _ (L2.clear hb12 h12 eB nb11 nB11 (by show (cutB d.bs d.ps tn).length = m; rw [cutB_len]; exact L2.len) rfl nW2) ⟨lo.ok, lo.len, fun z => absurd rfl z⟩
          have tok46 : ∀ S3 F3, d.left ≠ some 0 → Ext S2 F S3 F3 → (n = 0 - 1 → DiskOk κ S3 a { d with bs := flushB d.bs d.ps, ps := [], left := tick d.left } F3) → (0 ≤ n → DiskOk κ S3 a { d with ps := d.ps ++ [(n.toNat, v)], left := tick d.left } F3) → c_law_36 κ { nx := c_law_56 κ { nx := N, rt := fun r _ => r = MV.d (PyData.bool true), bk := c_law_58 κ { nx := fun _ _ => False, rt := fun r _ => r = MV.d (PyData.bool true), bk := fun _ _ => False, ct := fun _ _ => False, ex := fun x _ S' => noX x S' }, ct := N, ex := fun x _ S' => noX x S' }, rt := fun r _ => r = MV.d (PyData.bool true), bk := c_law_58 κ { nx := fun _ _ => False, rt := fun r _ => r = MV.d (PyData.bool true), bk := fun _ _ => False, ct := fun _ _ => False, ex := fun x _ S' => noX x S' }, ct := N, ex := fun x _ S' => noX x S' } [some (.d (.list (ns.map .int))), some (.m b), some (.d (.int m)), some (.m a), some (.m pB), some (.m pW), some (.d (.int (leftI d))), some (.d (.list (tn.map .int))), some (.d (.int d.cuts)), some (.d (.int (0 + (i : Int)))), some (.d (.int r9)), s11, s12, some (.d (.int n)), some (.d (rowD v)), some (.d .none), s16, s17] S3 := by
            intro S3 F3 z4 x3 hf hw
            have el : ¬ leftI d = 0 := by
              unfold leftI
              cases e : d.left with
              | none => decide
              | some k => cases k with
                | zero => exact absurd e z4
                | succ k => show ¬ ((k + 1 : Nat) : Int) = 0; omega
            simp only [c_law_36, fnM, cNext, cSeq, cBrk, cCont, cDrop, cRet, cRetN, cIf, cNever, cAsg, cPar, cPar3, cAug, cFor, eC, eVar, eOp, eUn, eIf, aNil, aCons, eTup, eLst, eLstM, eCB, eFn, eAndV, eOrV, eNotV, cAnd, cOr, cNot, cB, cTru, cYes, mName, mNames, wipeM, mTup, mSub, eFrz, eAppend, eSlice, oNone, oSome, eChain, eLcG, finD, finM, iRange1, iRange2, iZip2, iSeq, bInt, bIntC, bCmp, bMulX, bAddM, eIsi, isTy, bAdd, bNeg, bIs, bIsN, isNone, bEq, bNe, bRepr, bLen, bIntOf, b2Int, bTuple, bList, bListM, bAll, bAny, tupOf, datOf, truV, okOf, bIx_tup, bIx_lst, bIx_set, lenV_set, ixN_21, ixN_20, set_1, sset_same, sset_sset, MO.lst.injEq, lenV_tup, lenV_lst, atI_0, atI_1, atI_2, atI_3, atI_4, lstOf, allD, allD_map, ex_eq_and, ex_eq_and', List.map_cons, List.map_nil, List.length_cons, List.length_nil, List.replicate, List.cons_append, List.nil_append, List.getElem?_cons_zero, List.getElem?_cons_succ, Option.some.injEq, Option.map_some, List.set, List.cons.injEq, and_true, true_and, MV.d.injEq, MV.m.injEq, PyData.int.injEq, PyData.bool.injEq, PyData.str.injEq, PyData.tuple.injEq, PyData.list.injEq, exists_and_left, exists_and_right, exists_eq_left', exists_eq_left, exists_eq_right, exists_eq', Nat.reduceAdd, Nat.reduceSub, Nat.reduceLT, Nat.reduceLeDiff, decide_eq_true_eq, Bool.not_eq_true', decide_eq_false_iff_not, reduceCtorEq, if_true, if_false, Bool.false_eq_true, ite_true, ite_false, not_true_eq_false, not_false_eq_true, Bool.not_true, Bool.not_false, reduceIte, and_self, or_true, true_or, or_false, false_or, and_false, false_and]
            rw [if_neg el]
            simp only [c_law_46, fnM, cNext, cSeq, cBrk, cCont, cDrop, cRet, cRetN, cIf, cNever, cAsg, cPar, cPar3, cAug, cFor, eC, eVar, eOp, eUn, eIf, aNil, aCons, eTup, eLst, eLstM, eCB, eFn, eAndV, eOrV, eNotV, cAnd, cOr, cNot, cB, cTru, cYes, mName, mNames, wipeM, mTup, mSub, eFrz, eAppend, eSlice, oNone, oSome, eChain, eLcG, finD, finM, iRange1, iRange2, iZip2, iSeq, bInt, bIntC, bCmp, bMulX, bAddM, eIsi, isTy, bAdd, bNeg, bIs, bIsN, isNone, bEq, bNe, bRepr, bLen, bIntOf, b2Int, bTuple, bList, bListM, bAll, bAny, tupOf, datOf, truV, okOf, bIx_tup, bIx_lst, bIx_set, lenV_set, ixN_21, ixN_20, set_1, sset_same, sset_sset, MO.lst.injEq, lenV_tup, lenV_lst, atI_0, atI_1, atI_2, atI_3, atI_4, lstOf, allD, allD_map, ex_eq_and, ex_eq_and', List.map_cons, List.map_nil, List.length_cons, List.length_nil, List.replicate, List.cons_append, List.nil_append, List.getElem?_cons_zero, List.getElem?_cons_succ, Option.some.injEq, Option.map_some, List.set, List.cons.injEq, and_true, true_and, MV.d.injEq, MV.m.injEq, PyData.int.injEq, PyData.bool.injEq, PyData.str.injEq, PyData.tuple.injEq, PyData.list.injEq, exists_and_left, exists_and_right, exists_eq_left', exists_eq_left, exists_eq_right, exists_eq', Nat.reduceAdd, Nat.reduceSub, Nat.reduceLT, Nat.reduceLeDiff, decide_eq_true_eq, Bool.not_eq_true', decide_eq_false_iff_not, reduceCtorEq, if_true, if_false, Bool.false_eq_true, ite_true, ite_false, not_true_eq_false, not_false_eq_true, Bool.not_true, Bool.not_false, reduceIte, and_self, or_true, true_or, or_false, false_or, and_false, false_and]
            simp only [c_law_48, bCmp, fnM, cNext, cSeq, cBrk, cCont, cDrop, cRet, cRetN, cIf, cNever, cAsg, cPar, cPar3, cAug, cFor, eC, eVar, eOp, eUn, eIf, aNil, aCons, eTup, eLst, eLstM, eCB, eFn, eAndV, eOrV, eNotV, cAnd, cOr, cNot, cB, cTru, cYes, mName, mNames, wipeM, mTup, mSub, eFrz, eAppend, eSlice, oNone, oSome, eChain, eLcG, finD, finM, iRange1, iRange2, iZip2, iSeq, bInt, bIntC, bCmp, bMulX, bAddM, eIsi, isTy, bAdd, bNeg, bIs, bIsN, isNone, bEq, bNe, bRepr, bLen, bIntOf, b2Int, bTuple, bList, bListM, bAll, bAny, tupOf, datOf, truV, okOf, bIx_tup, bIx_lst, bIx_set, lenV_set, ixN_21, ixN_20, set_1, sset_same, sset_sset, MO.lst.injEq, lenV_tup, lenV_lst, atI_0, atI_1, atI_2, atI_3, atI_4, lstOf, allD, allD_map, ex_eq_and, ex_eq_and', List.map_cons, List.map_nil, List.length_cons, List.length_nil, List.replicate, List.cons_append, List.nil_append, List.getElem?_cons_zero, List.getElem?_cons_succ, Option.some.injEq, Option.map_some, List.set, List.cons.injEq, and_true, true_and, MV.d.injEq, MV.m.injEq, PyData.int.injEq, PyData.bool.injEq, PyData.str.injEq, PyData.tuple.injEq, PyData.list.injEq, exists_and_left, exists_and_right, exists_eq_left', exists_eq_left, exists_eq_right, exists_eq', Nat.reduceAdd, Nat.reduceSub, Nat.reduceLT, Nat.reduceLeDiff, decide_eq_true_eq, Bool.not_eq_true', decide_eq_false_iff_not, reduceCtorEq, if_true, if_false, Bool.false_eq_true, ite_true, ite_false, not_true_eq_false, not_false_eq_true, Bool.not_true, Bool.not_false, reduceIte, and_self, or_true, true_or, or_false, false_or, and_false, false_and]
            have hb3 : BoxOk S3 b := by
              obtain ⟨d0, i0, z1, z2⟩ := L2.box
              exact ⟨d0, i0, x3.keep b _ L2.nb z1, z2⟩
            have eB3 := x3.keep _ _ L2.nB L2.bl
            have eW3 := x3.keep _ _ L2.nW L2.pe
            have g2 := disk_good L2.disk
            have nb3' : b ∉ F3 := by
              obtain ⟨d0, i0, z1, z2⟩ := L2.box
              exact x3.out L2.nb z1
            have nB3 := x3.out L2.nB L2.bl
            have nW3 := x3.out L2.nW L2.pe
            have lp : (pendM d.ps).length = d.ps.length := by unfold pendM; rw [List.length_map]
            obtain ⟨lt, elt⟩ : ∃ lt, lt = leftI { d with left := tick d.left } := ⟨_, rfl⟩
            have lok : LeftOk { d with left := tick d.left } tn := ⟨lo.ok, lo.len, fun z => lo.same fun y => z (by show tick d.left = none; rw [y]; rfl)⟩
            have tl50 : c_law_50 κ { nx := c_law_56 κ { nx := N, rt := fun r _ => r = MV.d (PyData.bool true), bk := c_law_58 κ { nx := fun _ _ => False, rt := fun r _ => r = MV.d (PyData.bool true), bk := fun _ _ => False, ct := fun _ _ => False, ex := fun x _ S' => noX x S' }, ct := N, ex := fun x _ S' => noX x S' }, rt := fun r _ => r = MV.d (PyData.bool true), bk := c_law_58 κ { nx := fun _ _ => False, rt := fun r _ => r = MV.d (PyData.bool true), bk := fun _ _ => False, ct := fun _ _ => False, ex := fun x _ S' => noX x S' }, ct := N, ex := fun x _ S' => noX x S' } [some (.d (.list (ns.map .int))), some (.m b), some (.d (.int m)), some (.m a), some (.m pB), some (.m pW), some (.d (.int (lt))), some (.d (.list (tn.map .int))), some (.d (.int d.cuts)), some (.d (.int (0 + (i : Int)))), some (.d (.int r9)), s11, s12, some (.d (.int n)), some (.d (rowD v)), some (.d .none), s16, s17] S3 := by
              simp only [c_law_50, fnM, cNext, cSeq, cBrk, cCont, cDrop, cRet, cRetN, cIf, cNever, cAsg, cPar, cPar3, cAug, cFor, eC, eVar, eOp, eUn, eIf, aNil, aCons, eTup, eLst, eLstM, eCB, eFn, eAndV, eOrV, eNotV, cAnd, cOr, cNot, cB, cTru, cYes, mName, mNames, wipeM, mTup, mSub, eFrz, eAppend, eSlice, oNone, oSome, eChain, eLcG, finD, finM, iRange1, iRange2, iZip2, iSeq, bInt, bIntC, bCmp, bMulX, bAddM, eIsi, isTy, bAdd, bNeg, bIs, bIsN, isNone, bEq, bNe, bRepr, bLen, bIntOf, b2Int, bTuple, bList, bListM, bAll, bAny, tupOf, datOf, truV, okOf, bIx_tup, bIx_lst, bIx_set, lenV_set, ixN_21, ixN_20, set_1, sset_same, sset_sset, MO.lst.injEq, lenV_tup, lenV_lst, atI_0, atI_1, atI_2, atI_3, atI_4, lstOf, allD, allD_map, ex_eq_and, ex_eq_and', List.map_cons, List.map_nil, List.length_cons, List.length_nil, List.replicate, List.cons_append, List.nil_append, List.getElem?_cons_zero, List.getElem?_cons_succ, Option.some.injEq, Option.map_some, List.set, List.cons.injEq, and_true, true_and, MV.d.injEq, MV.m.injEq, PyData.int.injEq, PyData.bool.injEq, PyData.str.injEq, PyData.tuple.injEq, PyData.list.injEq, exists_and_left, exists_and_right, exists_eq_left', exists_eq_left, exists_eq_right, exists_eq', Nat.reduceAdd, Nat.reduceSub, Nat.reduceLT, Nat.reduceLeDiff, decide_eq_true_eq, Bool.not_eq_true', decide_eq_false_iff_not, reduceCtorEq, if_true, if_false, Bool.false_eq_true, ite_true, ite_false, not_true_eq_false, not_false_eq_true, Bool.not_true, Bool.not_false, reduceIte, and_self, or_true, true_or, or_false, false_or, and_false, false_and]
              by_cases q7 : n = 0 - 1
              · rw [if_pos q7]
                have h3 := hf q7
                simp only [c_law_51, fnM, cNext, cSeq, cBrk, cCont, cDrop, cRet, cRetN, cIf, cNever, cAsg, cPar, cPar3, cAug, cFor, eC, eVar, eOp, eUn, eIf, aNil, aCons, eTup, eLst, eLstM, eCB, eFn, eAndV, eOrV, eNotV, cAnd, cOr, cNot, cB, cTru, cYes, mName, mNames, wipeM, mTup, mSub, eFrz, eAppend, eSlice, oNone, oSome, eChain, eLcG, finD, finM, iRange1, iRange2, iZip2, iSeq, bInt, bIntC, bCmp, bMulX, bAddM, eIsi, isTy, bAdd, bNeg, bIs, bIsN, isNone, bEq, bNe, bRepr, bLen, bIntOf, b2Int, bTuple, bList, bListM, bAll, bAny, tupOf, datOf, truV, okOf, bIx_tup, bIx_lst, bIx_set, lenV_set, ixN_21, ixN_20, set_1, sset_same, sset_sset, MO.lst.injEq, lenV_tup, lenV_lst, atI_0, atI_1, atI_2, atI_3, atI_4, lstOf, allD, allD_map, ex_eq_and, ex_eq_and', List.map_cons, List.map_nil, List.length_cons, List.length_nil, List.replicate, List.cons_append, List.nil_append, List.getElem?_cons_zero, List.getElem?_cons_succ, Option.some.injEq, Option.map_some, List.set, List.cons.injEq, and_true, true_and, MV.d.injEq, MV.m.injEq, PyData.int.injEq, PyData.bool.injEq, PyData.str.injEq, PyData.tuple.injEq, PyData.list.injEq, exists_and_left, exists_and_right, exists_eq_left', exists_eq_left, exists_eq_right, exists_eq', Nat.reduceAdd, Nat.reduceSub, Nat.reduceLT, Nat.reduceLeDiff, decide_eq_true_eq, Bool.not_eq_true', decide_eq_false_iff_not, reduceCtorEq, if_true, if_false, Bool.false_eq_true, ite_true, ite_false, not_true_eq_false, not_false_eq_true, Bool.not_true, Bool.not_false, reduceIte, and_self, or_true, true_or, or_false, false_or, and_false, false_and]
                refine ⟨pendM d.ps, by show (match S3 pW with | some (.lst xs) => some xs | _ => none) = _; rw [eW3], fun _ => ?_⟩
                refine forL_inv (fun k ρ S' => BoxOk S' b ∧ DiskOk κ S' a { d with bs := flushB d.bs d.ps, ps := [], left := tick d.left } F3 ∧ S' pB = some (.lst ((flushB d.bs (d.ps.take k)).map fun r => .d (rowD r))) ∧ S' pW = some (.lst (pendM d.ps)) ∧ ∃ t17, ρ = [some (.d (.list (ns.map .int))), some (.m b), some (.d (.int m)), some (.m a), some (.m pB), some (.m pW), some (.d (.int (lt))), some (.d (.list (tn.map .int))), some (.d (.int d.cuts)), some (.d (.int (0 + (i : Int)))), some (.d (.int r9)), s11, s12, some (.d (.int n)), some (.d (rowD v)), some (.d .none), s16, t17]) _ 0 _ _
                  ⟨hb3, h3, eB3, eW3, _, rfl⟩ (fun _ _ _ h => h.2.2.2.1) ?_ ?_
                · rintro k y ρ S10 N2 ey ⟨hb10, h10, eB, eW, t17, rfl⟩ hN2
                  rw [Nat.zero_add] at eB hN2
                  unfold pendM at ey
                  rw [List.getElem?_map] at ey
                  cases hc : d.ps[k]? with
                  | none => rw [hc] at ey; cases ey
                  | some e =>
                    rw [hc] at ey
                    cases ey
                    obtain ⟨hj, hget⟩ := List.getElem?_eq_some_iff.mp hc
                    have et : flushB d.bs (d.ps.take (k + 1)) = (flushB d.bs (d.ps.take k)).set e.1 e.2 := by
                      rw [show d.ps.take (k + 1) = d.ps.take k ++ [e] by rw [← hget, List.take_append_getElem], flushB_snoc]
                    have he := g2.ps e (hget ▸ List.getElem_mem hj)
                    rw [et] at hN2
                    simp only [c_law_52, fnM, cNext, cSeq, cBrk, cCont, cDrop, cRet, cRetN, cIf, cNever, cAsg, cPar, cPar3, cAug, cFor, eC, eVar, eOp, eUn, eIf, aNil, aCons, eTup, eLst, eLstM, eCB, eFn, eAndV, eOrV, eNotV, cAnd, cOr, cNot, cB, cTru, cYes, mName, mNames, wipeM, mTup, mSub, eFrz, eAppend, eSlice, oNone, oSome, eChain, eLcG, finD, finM, iRange1, iRange2, iZip2, iSeq, bInt, bIntC, bCmp, bMulX, bAddM, eIsi, isTy, bAdd, bNeg, bIs, bIsN, isNone, bEq, bNe, bRepr, bLen, bIntOf, b2Int, bTuple, bList, bListM, bAll, bAny, tupOf, datOf, truV, okOf, bIx_tup, bIx_lst, bIx_set, lenV_set, ixN_21, ixN_20, set_1, sset_same, sset_sset, MO.lst.injEq, lenV_tup, lenV_lst, atI_0, atI_1, atI_2, atI_3, atI_4, lstOf, allD, allD_map, ex_eq_and, ex_eq_and', List.map_cons, List.map_nil, List.length_cons, List.length_nil, List.replicate, List.cons_append, List.nil_append, List.getElem?_cons_zero, List.getElem?_cons_succ, Option.some.injEq, Option.map_some, List.set, List.cons.injEq, and_true, true_and, MV.d.injEq, MV.m.injEq, PyData.int.injEq, PyData.bool.injEq, PyData.str.injEq, PyData.tuple.injEq, PyData.list.injEq, exists_and_left, exists_and_right, exists_eq_left', exists_eq_left, exists_eq_right, exists_eq', Nat.reduceAdd, Nat.reduceSub, Nat.reduceLT, Nat.reduceLeDiff, decide_eq_true_eq, Bool.not_eq_true', decide_eq_false_iff_not, reduceCtorEq, if_true, if_false, Bool.false_eq_true, ite_true, ite_false, not_true_eq_false, not_false_eq_true, Bool.not_true, Bool.not_false, reduceIte, and_self, or_true, true_or, or_false, false_or, and_false, false_and]
                    refine ⟨_, eB, e.1, by rw [List.length_map, flushB_len]; exact ix_nat he.1, hN2 _ _ ⟨box_put hb10 L2.bB, disk_put h10 nB3, ?_, by rw [sset_ne L2.BW.symm]; exact eW, _, rfl⟩⟩
                    rw [sset_same, List.map_set]
                · rintro ρ S10 ⟨hb10, h10, eB, eW, t17, rfl⟩
                  rw [lp, Nat.zero_add, List.take_length] at eB
                  simp only [c_law_53, fnM, cNext, cSeq, cBrk, cCont, cDrop, cRet, cRetN, cIf, cNever, cAsg, cPar, cPar3, cAug, cFor, eC, eVar, eOp, eUn, eIf, aNil, aCons, eTup, eLst, eLstM, eCB, eFn, eAndV, eOrV, eNotV, cAnd, cOr, cNot, cB, cTru, cYes, mName, mNames, wipeM, mTup, mSub, eFrz, eAppend, eSlice, oNone, oSome, eChain, eLcG, finD, finM, iRange1, iRange2, iZip2, iSeq, bInt, bIntC, bCmp, bMulX, bAddM, eIsi, isTy, bAdd, bNeg, bIs, bIsN, isNone, bEq, bNe, bRepr, bLen, bIntOf, b2Int, bTuple, bList, bListM, bAll, bAny, tupOf, datOf, truV, okOf, bIx_tup, bIx_lst, bIx_set, lenV_set, ixN_21, ixN_20, set_1, sset_same, sset_sset, MO.lst.injEq, lenV_tup, lenV_lst, atI_0, atI_1, atI_2, atI_3, atI_4, lstOf, allD, allD_map, ex_eq_and, ex_eq_and', List.map_cons, List.map_nil, List.length_cons, List.length_nil, List.replicate, List.cons_append, List.nil_append, List.getElem?_cons_zero, List.getElem?_cons_succ, Option.some.injEq, Option.map_some, List.set, List.cons.injEq, and_true, true_and, MV.d.injEq, MV.m.injEq, PyData.int.injEq, PyData.bool.injEq, PyData.str.injEq, PyData.tuple.injEq, PyData.list.injEq, exists_and_left, exists_and_right, exists_eq_left', exists_eq_left, exists_eq_right, exists_eq', Nat.reduceAdd, Nat.reduceSub, Nat.reduceLT, Nat.reduceLeDiff, decide_eq_true_eq, Bool.not_eq_true', decide_eq_false_iff_not, reduceCtorEq, if_true, if_false, Bool.false_eq_true, ite_true, ite_false, not_true_eq_false, not_false_eq_true, Bool.not_true, Bool.not_false, reduceIte, and_self, or_true, true_or, or_false, false_or, and_false, false_and]
                  refine ⟨Nat.zero_le _, fun pW2 nW2 => ?_⟩
                  rw [elt]
                  exact rest { d with bs := flushB d.bs d.ps, ps := [], left := tick d.left } F3 pW2 tn _ _ _ _ _ _ _ _ _ _ (L2.clear hb10 h10 eB nb3' nB3 (by show (flushB d.bs d.ps).length = m; rw [flushB_len]; exact L2.len) rfl nW2) ⟨lok.ok, lok.len, lok.same⟩
              · rw [if_neg q7]
                have hn2 : 0 ≤ n ∧ n < m := by
                  rcases hn with z | z
                  · exact absurd z q7
                  · exact z
                have h3 := hw hn2.1
                simp only [c_law_55, eW3, fnM, cNext, cSeq, cBrk, cCont, cDrop, cRet, cRetN, cIf, cNever, cAsg, cPar, cPar3, cAug, cFor, eC, eVar, eOp, eUn, eIf, aNil, aCons, eTup, eLst, eLstM, eCB, eFn, eAndV, eOrV, eNotV, cAnd, cOr, cNot, cB, cTru, cYes, mName, mNames, wipeM, mTup, mSub, eFrz, eAppend, eSlice, oNone, oSome, eChain, eLcG, finD, finM, iRange1, iRange2, iZip2, iSeq, bInt, bIntC, bCmp, bMulX, bAddM, eIsi, isTy, bAdd, bNeg, bIs, bIsN, isNone, bEq, bNe, bRepr, bLen, bIntOf, b2Int, bTuple, bList, bListM, bAll, bAny, tupOf, datOf, truV, okOf, bIx_tup, bIx_lst, bIx_set, lenV_set, ixN_21, ixN_20, set_1, sset_same, sset_sset, MO.lst.injEq, lenV_tup, lenV_lst, atI_0, atI_1, atI_2, atI_3, atI_4, lstOf, allD, allD_map, ex_eq_and, ex_eq_and', List.map_cons, List.map_nil, List.length_cons, List.length_nil, List.replicate, List.cons_append, List.nil_append, List.getElem?_cons_zero, List.getElem?_cons_succ, Option.some.injEq, Option.map_some, List.set, List.cons.injEq, and_true, true_and, MV.d.injEq, MV.m.injEq, PyData.int.injEq, PyData.bool.injEq, PyData.str.injEq, PyData.tuple.injEq, PyData.list.injEq, exists_and_left, exists_and_right, exists_eq_left', exists_eq_left, exists_eq_right, exists_eq', Nat.reduceAdd, Nat.reduceSub, Nat.reduceLT, Nat.reduceLeDiff, decide_eq_true_eq, Bool.not_eq_true', decide_eq_false_iff_not, reduceCtorEq, if_true, if_false, Bool.false_eq_true, ite_true, ite_false, not_true_eq_false, not_false_eq_true, Bool.not_true, Bool.not_false, reduceIte, and_self, or_true, true_or, or_false, false_or, and_false, false_and]
                refine ⟨by decide, by rw [lp]; exact line_big (by have := L2.few; omega), ?_⟩
                rw [elt]
                refine rest { d with ps := d.ps ++ [(n.toNat, v)], left := tick d.left } F3 pW tn _ _ _ _ _ _ _ _ _ _ ?_ ⟨lok.ok, lok.len, lok.same⟩
                refine ⟨box_put hb3 L2.bW, disk_put h3 nW3, by rw [sset_ne L2.BW]; exact eB3, ?_, nb3', nB3, nW3, L2.bB, L2.bW, L2.BW, L2.len, ?_⟩
                · rw [sset_same]
                  unfold pendM
                  rw [List.map_append]
                  have er : ((n.toNat : Nat) : Int) = n := by omega
                  simp only [List.map_cons, List.map_nil, er]
                · show (d.ps ++ [(n.toNat, v)]).length ≤ i + 1
                  rw [List.length_append]
                  have := L2.few
                  show d.ps.length + 1 ≤ i + 1
                  omega
            by_cases q6 : 0 < leftI d
            · rw [if_pos q6]
              simp only [c_law_49, fnM, cNext, cSeq, cBrk, cCont, cDrop, cRet, cRetN, cIf, cNever, cAsg, cPar, cPar3, cAug, cFor, eC, eVar, eOp, eUn, eIf, aNil, aCons, eTup, eLst, eLstM, eCB, eFn, eAndV, eOrV, eNotV, cAnd, cOr, cNot, cB, cTru, cYes, mName, mNames, wipeM, mTup, mSub, eFrz, eAppend, eSlice, oNone, oSome, eChain, eLcG, finD, finM, iRange1, iRange2, iZip2, iSeq, bInt, bIntC, bCmp, bMulX, bAddM, eIsi, isTy, bAdd, bNeg, bIs, bIsN, isNone, bEq, bNe, bRepr, bLen, bIntOf, b2Int, bTuple, bList, bListM, bAll, bAny, tupOf, datOf, truV, okOf, bIx_tup, bIx_lst, bIx_set, lenV_set, ixN_21, ixN_20, set_1, sset_same, sset_sset, MO.lst.injEq, lenV_tup, lenV_lst, atI_0, atI_1, atI_2, atI_3, atI_4, lstOf, allD, allD_map, ex_eq_and, ex_eq_and', List.map_cons, List.map_nil, List.length_cons, List.length_nil, List.replicate, List.cons_append, List.nil_append, List.getElem?_cons_zero, List.getElem?_cons_succ, Option.some.injEq, Option.map_some, List.set, List.cons.injEq, and_true, true_and, MV.d.injEq, MV.m.injEq, PyData.int.injEq, PyData.bool.injEq, PyData.str.injEq, PyData.tuple.injEq, PyData.list.injEq, exists_and_left, exists_and_right, exists_eq_left', exists_eq_left, exists_eq_right, exists_eq', Nat.reduceAdd, Nat.reduceSub, Nat.reduceLT, Nat.reduceLeDiff, decide_eq_true_eq, Bool.not_eq_true', decide_eq_false_iff_not, reduceCtorEq, if_true, if_false, Bool.false_eq_true, ite_true, ite_false, not_true_eq_false, not_false_eq_true, Bool.not_true, Bool.not_false, reduceIte, and_self, or_true, true_or, or_false, false_or, and_false, false_and]
              have e6 : leftI d - 1 = lt := by
                rw [elt]
                unfold leftI at q6 ⊢
                cases e : d.left with
                | none => rw [e] at q6; exact absurd q6 (by decide)
                | some k => cases k with
                  | zero => exact absurd e z4
                  | succ k => show ((k + 1 : Nat) : Int) - 1 = (k : Int); omega
              rw [e6]
              exact tl50
            · rw [if_neg q6]
              have e6 : leftI d = lt := by
                rw [elt]
                unfold leftI at q6 ⊢
                cases e : d.left with
                | none => rfl
                | some k => cases k with
                  | zero => exact absurd e z4
                  | succ k => rw [e] at q6; exact absurd (show (0 : Int) < ((k + 1 : Nat) : Int) by omega) q6
              rw [e6]
              exact tl50
          rcases hn with rfl | hn
          · exact w_lflush hk L2.disk (fun z4 S3 F3 x3 h3 => tcut S3 F3 z4 x3 h3) fun z4 S3 F3 x3 h3 => tok46 S3 F3 z4 x3 (fun _ => h3) fun z => absurd z (by decide)
          · exact w_ldo (n := n) hk L2.disk (by omega) (.inl rfl) (byt_small bv) (by rw [bv.1]; decide) (by omega) (fun z => absurd ⟨hn.1, by rw [L2.len]; exact hn.2⟩ z) (fun _ _ z => absurd bv z) (fun _ _ _ z4 S3 F3 x3 h3 => tcut S3 F3 z4 x3 h3) fun _ _ _ z4 S3 F3 x3 h3 => tok46 S3 F3 z4 x3 (fun z => by omega) fun _ => h3
        simp only [c_law_32, bCmp, fnM, cNext, cSeq, cBrk, cCont, cDrop, cRet, cRetN, cIf, cNever, cAsg, cPar, cPar3, cAug, cFor, eC, eVar, eOp, eUn, eIf, aNil, aCons, eTup, eLst, eLstM, eCB, eFn, eAndV, eOrV, eNotV, cAnd, cOr, cNot, cB, cTru, cYes, mName, mNames, wipeM, mTup, mSub, eFrz, eAppend, eSlice, oNone, oSome, eChain, eLcG, finD, finM, iRange1, iRange2, iZip2, iSeq, bInt, bIntC, bCmp, bMulX, bAddM, eIsi, isTy, bAdd, bNeg, bIs, bIsN, isNone, bEq, bNe, bRepr, bLen, bIntOf, b2Int, bTuple, bList, bListM, bAll, bAny, tupOf, datOf, truV, okOf, bIx_tup, bIx_lst, bIx_set, lenV_set, ixN_21, ixN_20, set_1, sset_same, sset_sset, MO.lst.injEq, lenV_tup, lenV_lst, atI_0, atI_1, atI_2, atI_3, atI_4, lstOf, allD, allD_map, ex_eq_and, ex_eq_and', List.map_cons, List.map_nil, List.length_cons, List.length_nil, List.replicate, List.cons_append, List.nil_append, List.getElem?_cons_zero, List.getElem?_cons_succ, Option.some.injEq, Option.map_some, List.set, List.cons.injEq, and_true, true_and, MV.d.injEq, MV.m.injEq, PyData.int.injEq, PyData.bool.injEq, PyData.str.injEq, PyData.tuple.injEq, PyData.list.injEq, exists_and_left, exists_and_right, exists_eq_left', exists_eq_left, exists_eq_right, exists_eq', Nat.reduceAdd, Nat.reduceSub, Nat.reduceLT, Nat.reduceLeDiff, decide_eq_true_eq, Bool.not_eq_true', decide_eq_false_iff_not, reduceCtorEq, if_true, if_false, Bool.false_eq_true, ite_true, ite_false, not_true_eq_false, not_false_eq_true, Bool.not_true, Bool.not_false, reduceIte, and_self, or_true, true_or, or_false, false_or, and_false, false_and]
        by_cases q5 : (4 : Int) < r9
        · rw [if_pos q5]
          simp only [c_law_33, fnM, cNext, cSeq, cBrk, cCont, cDrop, cRet, cRetN, cIf, cNever, cAsg, cPar, cPar3, cAug, cFor, eC, eVar, eOp, eUn, eIf, aNil, aCons, eTup, eLst, eLstM, eCB, eFn, eAndV, eOrV, eNotV, cAnd, cOr, cNot, cB, cTru, cYes, mName, mNames, wipeM, mTup, mSub, eFrz, eAppend, eSlice, oNone, oSome, eChain, eLcG, finD, finM, iRange1, iRange2, iZip2, iSeq, bInt, bIntC, bCmp, bMulX, bAddM, eIsi, isTy, bAdd, bNeg, bIs, bIsN, isNone, bEq, bNe, bRepr, bLen, bIntOf, b2Int, bTuple, bList, bListM, bAll, bAny, tupOf, datOf, truV, okOf, bIx_tup, bIx_lst, bIx_set, lenV_set, ixN_21, ixN_20, set_1, sset_same, sset_sset, MO.lst.injEq, lenV_tup, lenV_lst, atI_0, atI_1, atI_2, atI_3, atI_4, lstOf, allD, allD_map, ex_eq_and, ex_eq_and', List.map_cons, List.map_nil, List.length_cons, List.length_nil, List.replicate, List.cons_append, List.nil_append, List.getElem?_cons_zero, List.getElem?_cons_succ, Option.some.injEq, Option.map_some, List.set, List.cons.injEq, and_true, true_and, MV.d.injEq, MV.m.injEq, PyData.int.injEq, PyData.bool.injEq, PyData.str.injEq, PyData.tuple.injEq, PyData.list.injEq, exists_and_left, exists_and_right, exists_eq_left', exists_eq_left, exists_eq_right, exists_eq', Nat.reduceAdd, Nat.reduceSub, Nat.reduceLT, Nat.reduceLeDiff, decide_eq_true_eq, Bool.not_eq_true', decide_eq_false_iff_not, reduceCtorEq, if_true, if_false, Bool.false_eq_true, ite_true, ite_false, not_true_eq_false, not_false_eq_true, Bool.not_true, Bool.not_false, reduceIte, and_self, or_true, true_or, or_false, false_or, and_false, false_and]
          refine w_draw L.box (by omega) fun r4 S9 r4a r4b hb9 sm9 => ?_
          exact tl34 r4 S9 (.inr ⟨r4a, r4b⟩) (L.move hb9 (Kb.sm sm9))
        · rw [if_neg q5]
          exact tl34 (0 - 1) S (.inl rfl) L
      simp only [c_law_22, fnM, cNext, cSeq, cBrk, cCont, cDrop, cRet, cRetN, cIf, cNever, cAsg, cPar, cPar3, cAug, cFor, eC, eVar, eOp, eUn, eIf, aNil, aCons, eTup, eLst, eLstM, eCB, eFn, eAndV, eOrV, eNotV, cAnd, cOr, cNot, cB, cTru, cYes, mName, mNames, wipeM, mTup, mSub, eFrz, eAppend, eSlice, oNone, oSome, eChain, eLcG, finD, finM, iRange1, iRange2, iZip2, iSeq, bInt, bIntC, bCmp, bMulX, bAddM, eIsi, isTy, bAdd, bNeg, bIs, bIsN, isNone, bEq, bNe, bRepr, bLen, bIntOf, b2Int, bTuple, bList, bListM, bAll, bAny, tupOf, datOf, truV, okOf, bIx_tup, bIx_lst, bIx_set, lenV_set, ixN_21, ixN_20, set_1, sset_same, sset_sset, MO.lst.injEq, lenV_tup, lenV_lst, atI_0, atI_1, atI_2, atI_3, atI_4, lstOf, allD, allD_map, ex_eq_and, ex_eq_and', List.map_cons, List.map_nil, List.length_cons, List.length_nil, List.replicate, List.cons_append, List.nil_append, List.getElem?_cons_zero, List.getElem?_cons_succ, Option.some.injEq, Option.map_some, List.set, List.cons.injEq, and_true, true_and, MV.d.injEq, MV.m.injEq, PyData.int.injEq, PyData.bool.injEq, PyData.str.injEq, PyData.tuple.injEq, PyData.list.injEq, exists_and_left, exists_and_right, exists_eq_left', exists_eq_left, exists_eq_right, exists_eq', Nat.reduceAdd, Nat.reduceSub, Nat.reduceLT, Nat.reduceLeDiff, decide_eq_true_eq, Bool.not_eq_true', decide_eq_false_iff_not, reduceCtorEq, if_true, if_false, Bool.false_eq_true, ite_true, ite_false, not_true_eq_false, not_false_eq_true, Bool.not_true, Bool.not_false, reduceIte, and_self, or_true, true_or, or_false, false_or, and_false, false_and]
      by_cases q3 : r9 = 1
      · rw [if_pos q3]
        refine w_draw L8.box (by decide) fun r4 S9 r4a r4b hb9 sm9 => ?_
        have L9 := L8.move hb9 (Kb.sm sm9)
        simp only [fnM, cNext, cSeq, cBrk, cCont, cDrop, cRet, cRetN, cIf, cNever, cAsg, cPar, cPar3, cAug, cFor, eC, eVar, eOp, eUn, eIf, aNil, aCons, eTup, eLst, eLstM, eCB, eFn, eAndV, eOrV, eNotV, cAnd, cOr, cNot, cB, cTru, cYes, mName, mNames, wipeM, mTup, mSub, eFrz, eAppend, eSlice, oNone, oSome, eChain, eLcG, finD, finM, iRange1, iRange2, iZip2, iSeq, bInt, bIntC, bCmp, bMulX, bAddM, eIsi, isTy, bAdd, bNeg, bIs, bIsN, isNone, bEq, bNe, bRepr, bLen, bIntOf, b2Int, bTuple, bList, bListM, bAll, bAny, tupOf, datOf, truV, okOf, bIx_tup, bIx_lst, bIx_set, lenV_set, ixN_21, ixN_20, set_1, sset_same, sset_sset, MO.lst.injEq, lenV_tup, lenV_lst, atI_0, atI_1, atI_2, atI_3, atI_4, lstOf, allD, allD_map, ex_eq_and, ex_eq_and', List.map_cons, List.map_nil, List.length_cons, List.length_nil, List.replicate, List.cons_append, List.nil_append, List.getElem?_cons_zero, List.getElem?_cons_succ, Option.some.injEq, Option.map_some, List.set, List.cons.injEq, and_true, true_and, MV.d.injEq, MV.m.injEq, PyData.int.injEq, PyData.bool.injEq, PyData.str.injEq, PyData.tuple.injEq, PyData.list.injEq, exists_and_left, exists_and_right, exists_eq_left', exists_eq_left, exists_eq_right, exists_eq', Nat.reduceAdd, Nat.reduceSub, Nat.reduceLT, Nat.reduceLeDiff, decide_eq_true_eq, Bool.not_eq_true', decide_eq_false_iff_not, reduceCtorEq, if_true, if_false, Bool.false_eq_true, ite_true, ite_false, not_true_eq_false, not_false_eq_true, Bool.not_true, Bool.not_false, reduceIte, and_self, or_true, true_or, or_false, false_or, and_false, false_and]
        by_cases q4 : r4 = 0
        · rw [if_pos q4]
          obtain ⟨fs, e, l⟩ := disk_ins L9.disk "cut_power" (.inr (.inl rfl))
          simp only [c_law_23, eMeth, fnM, cNext, cSeq, cBrk, cCont, cDrop, cRet, cRetN, cIf, cNever, cAsg, cPar, cPar3, cAug, cFor, eC, eVar, eOp, eUn, eIf, aNil, aCons, eTup, eLst, eLstM, eCB, eFn, eAndV, eOrV, eNotV, cAnd, cOr, cNot, cB, cTru, cYes, mName, mNames, wipeM, mTup, mSub, eFrz, eAppend, eSlice, oNone, oSome, eChain, eLcG, finD, finM, iRange1, iRange2, iZip2, iSeq, bInt, bIntC, bCmp, bMulX, bAddM, eIsi, isTy, bAdd, bNeg, bIs, bIsN, isNone, bEq, bNe, bRepr, bLen, bIntOf, b2Int, bTuple, bList, bListM, bAll, bAny, tupOf, datOf, truV, okOf, bIx_tup, bIx_lst, bIx_set, lenV_set, ixN_21, ixN_20, set_1, sset_same, sset_sset, MO.lst.injEq, lenV_tup, lenV_lst, atI_0, atI_1, atI_2, atI_3, atI_4, lstOf, allD, allD_map, ex_eq_and, ex_eq_and', List.map_cons, List.map_nil, List.length_cons, List.length_nil, List.replicate, List.cons_append, List.nil_append, List.getElem?_cons_zero, List.getElem?_cons_succ, Option.some.injEq, Option.map_some, List.set, List.cons.injEq, and_true, true_and, MV.d.injEq, MV.m.injEq, PyData.int.injEq, PyData.bool.injEq, PyData.str.injEq, PyData.tuple.injEq, PyData.list.injEq, exists_and_left, exists_and_right, exists_eq_left', exists_eq_left, exists_eq_right, exists_eq', Nat.reduceAdd, Nat.reduceSub, Nat.reduceLT, Nat.reduceLeDiff, decide_eq_true_eq, Bool.not_eq_true', decide_eq_false_iff_not, reduceCtorEq, if_true, if_false, Bool.false_eq_true, ite_true, ite_false, not_true_eq_false, not_false_eq_true, Bool.not_true, Bool.not_false, reduceIte, and_self, or_true, true_or, or_false, false_or, and_false, false_and]
          refine ⟨fs, e, l, Nat.zero_le _, w_cut (t := []) L9.disk (.inl rfl) (fun x hx => nomatch hx) (by decide) (fun z => absurd (fun x hx => nomatch hx) z) fun _ S10 F10 x10 h10 => ?_⟩
          have cb0 : cutB d.bs d.ps [] = d.bs := by cases d.ps <;> simp [cutB]
          rw [cb0] at h10
          have hb10 : BoxOk S10 b := by
            obtain ⟨d0, i0, z1, z2⟩ := L9.box
            exact ⟨d0, i0, x10.keep b _ L9.nb z1, z2⟩
          have nb10 : b ∉ F10 := by
            obtain ⟨d0, i0, z1, z2⟩ := L9.box
            exact x10.out L9.nb z1
          simp only [c_law_24, fnM, cNext, cSeq, cBrk, cCont, cDrop, cRet, cRetN, cIf, cNever, cAsg, cPar, cPar3, cAug, cFor, eC, eVar, eOp, eUn, eIf, aNil, aCons, eTup, eLst, eLstM, eCB, eFn, eAndV, eOrV, eNotV, cAnd, cOr, cNot, cB, cTru, cYes, mName, mNames, wipeM, mTup, mSub, eFrz, eAppend, eSlice, oNone, oSome, eChain, eLcG, finD, finM, iRange1, iRange2, iZip2, iSeq, bInt, bIntC, bCmp, bMulX, bAddM, eIsi, isTy, bAdd, bNeg, bIs, bIsN, isNone, bEq, bNe, bRepr, bLen, bIntOf, b2Int, bTuple, bList, bListM, bAll, bAny, tupOf, datOf, truV, okOf, bIx_tup, bIx_lst, bIx_set, lenV_set, ixN_21, ixN_20, set_1, sset_same, sset_sset, MO.lst.injEq, lenV_tup, lenV_lst, atI_0, atI_1, atI_2, atI_3, atI_4, lstOf, allD, allD_map, ex_eq_and, ex_eq_and', List.map_cons, List.map_nil, List.length_cons, List.length_nil, List.replicate, List.cons_append, List.nil_append, List.getElem?_cons_zero, List.getElem?_cons_succ, Option.some.injEq, Option.map_some, List.set, List.cons.injEq, and_true, true_and, MV.d.injEq, MV.m.injEq, PyData.int.injEq, PyData.bool.injEq, PyData.str.injEq, PyData.tuple.injEq, PyData.list.injEq, exists_and_left, exists_and_right, exists_eq_left', exists_eq_left, exists_eq_right, exists_eq', Nat.reduceAdd, Nat.reduceSub, Nat.reduceLT, Nat.reduceLeDiff, decide_eq_true_eq, Bool.not_eq_true', decide_eq_false_iff_not, reduceCtorEq, if_true, if_false, Bool.false_eq_true, ite_true, ite_false, not_true_eq_false, not_false_eq_true, Bool.not_true, Bool.not_false, reduceIte, and_self, or_true, true_or, or_false, false_or, and_false, false_and]
          refine ⟨Nat.zero_le _, fun pW2 nW2 => ?_⟩
          simp only [c_law_25, fnM, cNext, cSeq, cBrk, cCont, cDrop, cRet, cRetN, cIf, cNever, cAsg, cPar, cPar3, cAug, cFor, eC, eVar, eOp, eUn, eIf, aNil, aCons, eTup, eLst, eLstM, eCB, eFn, eAndV, eOrV, eNotV, cAnd, cOr, cNot, cB, cTru, cYes, mName, mNames, wipeM, mTup, mSub, eFrz, eAppend, eSlice, oNone, oSome, eChain, eLcG, finD, finM, iRange1, iRange2, iZip2, iSeq, bInt, bIntC, bCmp, bMulX, bAddM, eIsi, isTy, bAdd, bNeg, bIs, bIsN, isNone, bEq, bNe, bRepr, bLen, bIntOf, b2Int, bTuple, bList, bListM, bAll, bAny, tupOf, datOf, truV, okOf, bIx_tup, bIx_lst, bIx_set, lenV_set, ixN_21, ixN_20, set_1, sset_same, sset_sset, MO.lst.injEq, lenV_tup, lenV_lst, atI_0, atI_1, atI_2, atI_3, atI_4, lstOf, allD, allD_map, ex_eq_and, ex_eq_and', List.map_cons, List.map_nil, List.length_cons, List.length_nil, List.replicate, List.cons_append, List.nil_append, List.getElem?_cons_zero, List.getElem?_cons_succ, Option.some.injEq, Option.map_some, List.set, List.cons.injEq, and_true, true_and, MV.d.injEq, MV.m.injEq, PyData.int.injEq, PyData.bool.injEq, PyData.str.injEq, PyData.tuple.injEq, PyData.list.injEq, exists_and_left, exists_and_right, exists_eq_left', exists_eq_left, exists_eq_right, exists_eq', Nat.reduceAdd, Nat.reduceSub, Nat.reduceLT, Nat.reduceLeDiff, decide_eq_true_eq, Bool.not_eq_true', decide_eq_false_iff_not, reduceCtorEq, if_true, if_false, Bool.false_eq_true, ite_true, ite_false, not_true_eq_false, not_false_eq_true, Bool.not_true, Bool.not_false, reduceIte, and_self, or_true, true_or, or_false, false_or, and_false, false_and]
          simp only [c_law_26, fnM, cNext, cSeq, cBrk, cCont, cDrop, cRet, cRetN, cIf, cNever, cAsg, cPar, cPar3, cAug, cFor, eC, eVar, eOp, eUn, eIf, aNil, aCons, eTup, eLst, eLstM, eCB, eFn, eAndV, eOrV, eNotV, cAnd, cOr, cNot, cB, cTru, cYes, mName, mNames, wipeM, mTup, mSub, eFrz, eAppend, eSlice, oNone, oSome, eChain, eLcG, finD, finM, iRange1, iRange2, iZip2, iSeq, bInt, bIntC, bCmp, bMulX, bAddM, eIsi, isTy, bAdd, bNeg, bIs, bIsN, isNone, bEq, bNe, bRepr, bLen, bIntOf, b2Int, bTuple, bList, bListM, bAll, bAny, tupOf, datOf, truV, okOf, bIx_tup, bIx_lst, bIx_set, lenV_set, ixN_21, ixN_20, set_1, sset_same, sset_sset, MO.lst.injEq, lenV_tup, lenV_lst, atI_0, atI_1, atI_2, atI_3, atI_4, lstOf, allD, allD_map, ex_eq_and, ex_eq_and', List.map_cons, List.map_nil, List.length_cons, List.length_nil, List.replicate, List.cons_append, List.nil_append, List.getElem?_cons_zero, List.getElem?_cons_succ, Option.some.injEq, Option.map_some, List.set, List.cons.injEq, and_true, true_and, MV.d.injEq, MV.m.injEq, PyData.int.injEq, PyData.bool.injEq, PyData.str.injEq, PyData.tuple.injEq, PyData.list.injEq, exists_and_left, exists_and_right, exists_eq_left', exists_eq_left, exists_eq_right, exists_eq', Nat.reduceAdd, Nat.reduceSub, Nat.reduceLT, Nat.reduceLeDiff, decide_eq_true_eq, Bool.not_eq_true', decide_eq_false_iff_not, reduceCtorEq, if_true, if_false, Bool.false_eq_true, ite_true, ite_false, not_true_eq_false, not_false_eq_true, Bool.not_true, Bool.not_false, reduceIte, and_self, or_true, true_or, or_false, false_or, and_false, false_and]
          exact rest ⟨d.bs, [], d.cuts + 1, none, []⟩ F10 pW2 tn _ _ _ _ _ _ _ _ _ _ (L9.clear hb10 h10 (x10.keep _ _ L9.nB L9.bl) nb10 (x10.out L9.nB L9.bl) L9.len rfl nW2) ⟨lo.ok, lo.len, fun z => absurd rfl z⟩
        · rw [if_neg q4]
          exact tl27 S9 L9
      · rw [if_neg q3]
        exact tl27 S8 L8
    · rintro ρ S7 ⟨d, F, pW, tn, s9, s10, s11, s12, s13, s14, s15, s16, s17, L, lo, rfl⟩
      obtain ⟨fs, e, l⟩ := disk_ins L.disk "cut_power" (.inr (.inl rfl))
      simp only [c_law_58, eMeth, fnM, cNext, cSeq, cBrk, cCont, cDrop, cRet, cRetN, cIf, cNever, cAsg, cPar, cPar3, cAug, cFor, eC, eVar, eOp, eUn, eIf, aNil, aCons, eTup, eLst, eLstM, eCB, eFn, eAndV, eOrV, eNotV, cAnd, cOr, cNot, cB, cTru, cYes, mName, mNames, wipeM, mTup, mSub, eFrz, eAppend, eSlice, oNone, oSome, eChain, eLcG, finD, finM, iRange1, iRange2, iZip2, iSeq, bInt, bIntC, bCmp, bMulX, bAddM, eIsi, isTy, bAdd, bNeg, bIs, bIsN, isNone, bEq, bNe, bRepr, bLen, bIntOf, b2Int, bTuple, bList, bListM, bAll, bAny, tupOf, datOf, truV, okOf, bIx_tup, bIx_lst, bIx_set, lenV_set, ixN_21, ixN_20, set_1, sset_same, sset_sset, MO.lst.injEq, lenV_tup, lenV_lst, atI_0, atI_1, atI_2, atI_3, atI_4, lstOf, allD, allD_map, ex_eq_and, ex_eq_and', List.map_cons, List.map_nil, List.length_cons, List.length_nil, List.replicate, List.cons_append, List.nil_append, List.getElem?_cons_zero, List.getElem?_cons_succ, Option.some.injEq, Option.map_some, List.set, List.cons.injEq, and_true, true_and, MV.d.injEq, MV.m.injEq, PyData.int.injEq, PyData.bool.injEq, PyData.str.injEq, PyData.tuple.injEq, PyData.list.injEq, exists_and_left, exists_and_right, exists_eq_left', exists_eq_left, exists_eq_right, exists_eq', Nat.reduceAdd, Nat.reduceSub, Nat.reduceLT, Nat.reduceLeDiff, decide_eq_true_eq, Bool.not_eq_true', decide_eq_false_iff_not, reduceCtorEq, if_true, if_false, Bool.false_eq_true, ite_true, ite_false, not_true_eq_false, not_false_eq_true, Bool.not_true, Bool.not_false, reduceIte, and_self, or_true, true_or, or_false, false_or, and_false, false_and]
      refine ⟨fs, e, l, Nat.zero_le _, w_cut (t := []) L.disk (.inl rfl) (fun x hx => nomatch hx) (by decide) (fun z => absurd (fun x hx => nomatch hx) z) fun _ S10 F10 x10 h10 => ?_⟩
      have cb0 : cutB d.bs d.ps [] = d.bs := by cases d.ps <;> simp [cutB]
      rw [cb0] at h10
      have eB := x10.keep _ _ L.nB L.bl
      have g := disk_good L.disk
      simp only [c_law_59, fnM, cNext, cSeq, cBrk, cCont, cDrop, cRet, cRetN, cIf, cNever, cAsg, cPar, cPar3, cAug, cFor, eC, eVar, eOp, eUn, eIf, aNil, aCons, eTup, eLst, eLstM, eCB, eFn, eAndV, eOrV, eNotV, cAnd, cOr, cNot, cB, cTru, cYes, mName, mNames, wipeM, mTup, mSub, eFrz, eAppend, eSlice, oNone, oSome, eChain, eLcG, finD, finM, iRange1, iRange2, iZip2, iSeq, bInt, bIntC, bCmp, bMulX, bAddM, eIsi, isTy, bNeg, bIsN, bRepr, bLen, bIntOf, b2Int, bTuple, bList, bListM, bAll, bAny, tupOf, datOf, truV, okOf, bIx_tup, bIx_lst, bIx_set, lenV_set, ixN_21, ixN_20, set_1, sset_same, sset_sset, MO.lst.injEq, lenV_tup, lenV_lst, atI_0, atI_1, atI_2, atI_3, atI_4, lstOf, allD, allD_map, ex_eq_and, ex_eq_and', List.map_cons, List.map_nil, List.length_cons, List.length_nil, List.cons_append, List.nil_append, List.getElem?_cons_zero, List.getElem?_cons_succ, Option.some.injEq, Option.map_some, List.set, List.cons.injEq, and_true, true_and, MV.d.injEq, MV.m.injEq, PyData.int.injEq, PyData.bool.injEq, PyData.str.injEq, PyData.tuple.injEq, PyData.list.injEq, exists_and_left, exists_and_right, exists_eq_left', exists_eq_left, exists_eq_right, exists_eq', Nat.reduceAdd, Nat.reduceSub, Nat.reduceLT, Nat.reduceLeDiff, decide_eq_true_eq, Bool.not_eq_true', decide_eq_false_iff_not, reduceCtorEq, if_true, if_false, Bool.false_eq_true, ite_true, ite_false, not_true_eq_false, not_false_eq_true, Bool.not_true, Bool.not_false, reduceIte, and_self, or_true, true_or, or_false, false_or, and_false, false_and]
      refine ⟨by omega, by omega, ?_⟩
      rw [Int.toNat_natCast]
      refine lcL_inv (fun k acc S' => S' = S10 ∧ acc = (d.bs.take k).map (fun r => .d (rowD r))) _ 0 _ _ ⟨rfl, rfl⟩ (fun _ _ _ _ => trivial) ?_ ?_
      · rintro k y acc S11 N ey ⟨rfl, rfl⟩ hN
        rw [Nat.zero_add] at hN ⊢
        obtain ⟨hk1, rfl⟩ := rng_some ey
        have hk2 : k < d.bs.length := by rw [L.len]; exact hk1
        obtain ⟨f1, e1, l1⟩ := disk_ins h10 "read" (.inr (.inr (.inl rfl)))
        simp only [eMeth, fnM, cNext, cSeq, cBrk, cCont, cDrop, cRet, cRetN, cIf, cNever, cAsg, cPar, cPar3, cAug, cFor, eC, eVar, eOp, eUn, eIf, aNil, aCons, eTup, eLst, eLstM, eCB, eFn, eAndV, eOrV, eNotV, cAnd, cOr, cNot, cB, cTru, cYes, mName, mNames, wipeM, mTup, mSub, eFrz, eAppend, eSlice, oNone, oSome, eChain, eLcG, finD, finM, iRange1, iRange2, iZip2, iSeq, bInt, bIntC, bCmp, bMulX, bAddM, eIsi, isTy, bAdd, bNeg, bIs, bIsN, isNone, bEq, bNe, bRepr, bLen, bIntOf, b2Int, bTuple, bList, bListM, bAll, bAny, tupOf, datOf, truV, okOf, bIx_tup, bIx_lst, bIx_set, lenV_set, ixN_21, ixN_20, set_1, sset_same, sset_sset, MO.lst.injEq, lenV_tup, lenV_lst, atI_0, atI_1, atI_2, atI_3, atI_4, lstOf, allD, allD_map, ex_eq_and, ex_eq_and', List.map_cons, List.map_nil, List.length_cons, List.length_nil, List.replicate, List.cons_append, List.nil_append, List.getElem?_cons_zero, List.getElem?_cons_succ, Option.some.injEq, Option.map_some, List.set, List.cons.injEq, and_true, true_and, MV.d.injEq, MV.m.injEq, PyData.int.injEq, PyData.bool.injEq, PyData.str.injEq, PyData.tuple.injEq, PyData.list.injEq, exists_and_left, exists_and_right, exists_eq_left', exists_eq_left, exists_eq_right, exists_eq', Nat.reduceAdd, Nat.reduceSub, Nat.reduceLT, Nat.reduceLeDiff, decide_eq_true_eq, Bool.not_eq_true', decide_eq_false_iff_not, reduceCtorEq, if_true, if_false, Bool.false_eq_true, ite_true, ite_false, not_true_eq_false, not_false_eq_true, Bool.not_true, Bool.not_false, reduceIte, and_self, or_true, true_or, or_false, false_or, and_false, false_and]
        refine ⟨f1, e1, l1, w_dread h10 (fun z => absurd ⟨by omega, by show (0 : Int) + (k : Int) < (d.bs.length : Int); omega⟩ z) fun z1 z2 => ⟨by rw [List.length_map, List.length_take]; exact line_big (by have := g.n1; omega), hN _ _ ⟨rfl, ?_⟩⟩⟩
        have ek : ((0 : Int) + (k : Int)).toNat = k := by omega
        rw [ek, List.take_succ_eq_append_getElem hk2, List.map_append]
        show _ = _ ++ [MV.d (rowD d.bs[k])]
        rw [show readD d.bs [] k = d.bs[k] by unfold readD; rw [List.getD, List.getElem?_eq_getElem hk2]; rfl]
      · rintro acc S11 ⟨rfl, rfl⟩
        rw [rng_length, Nat.zero_add, ← L.len, List.take_length]
        have sh : SeqAt.shaped (.list (d.bs.map rowD)) = true := rows_shaped fun r hr => byt_small (g.bs r hr)
        refine ⟨d.bs.map rowD, allD_of rowD d.bs, ?_⟩
        refine ⟨_, .list (d.bs.map rowD), rfl, ?_, sh, sh, ?_⟩
        · show (match S11 pB with | some (.lst xs) => (allD xs).map PyData.list | _ => none) = _
          rw [eB]
          show (allD (d.bs.map fun r => .d (rowD r))).map PyData.list = _
          rw [allD_of rowD d.bs]
          rfl
        · rw [eqv_refl _ (rows_nodict _)]

end K42
open PySem PySem.W PyProof.Rows
set_option maxRecDepth 100000 in
set_option maxHeartbeats 0 in
theorem PySem.Challenge.cw_textatrest_k42_cut_on_schedule_holds : PySem.Challenge.rw_textatrest_k42_cut_on_schedule.Holds := by
  w_on; o_law; k_head; (case hw => w_witness2)
  k_fill
  refine Mi.walk_ofG (l := PySem.Challenge.rw_textatrest_k42_cut_on_schedule) (k := 9) (x := "script") (C := fun _ => L2.CX0) (g := (fun rs S Q X => ∀ κ, K42.KapOk κ → K42.m_law κ rs S Q X)) rfl rfl ⟨rfl, by decide, by decide⟩ (fun w h Y => PySem.W.kIn_of Y) ?F (fun ns hl κ hk => K42.law_ok κ hk ns hl) (fun _ _ _ _ _ h => h)
  case F =>
    intro w mg fa h KX G hmg
    obtain ⟨CT⟩ : Nonempty (K42.ClsTx PySem.Challenge.rw_textatrest_k42_cut_on_schedule.prog (L2.KOf KX) mg) := by
      unfold L2.KOf
      refine' ⟨⟨_, PySem.W.mg_of KX G ?g_Disk_A, _, PySem.W.mg_of KX G ?g_OutOfRange_A, _, PySem.W.mg_of KX G ?g_PowerCut_A, _, PySem.W.mg_of KX G ?g_RestError_A, ⟨?cl_Disk_A, ?cl_Disk_B, ?cl_Disk_C, ?cl_Disk_D⟩, _, _, Mi.meth_at ?d_Disk_pending_count_A ?d_Disk_pending_count_B ?d_Disk_pending_count_C ?d_Disk_pending_count_D ?d_Disk_pending_count_E fun _ _ _ _ _ _ us hl => match us, hl with | [_], _ => rfl, _, _, Mi.meth_at ?d_Disk_cut_count_A ?d_Disk_cut_count_B ?d_Disk_cut_count_C ?d_Disk_cut_count_D ?d_Disk_cut_count_E fun _ _ _ _ _ _ us hl => match us, hl with | [_], _ => rfl, _, _, Mi.meth_at ?d_Disk_store_A ?d_Disk_store_B ?d_Disk_store_C ?d_Disk_store_D ?d_Disk_store_E fun _ _ _ _ _ _ us hl => match us, hl with | [_, _], _ => rfl, _, _, Mi.meth_at ?d_Disk___init___A ?d_Disk___init___B ?d_Disk___init___C ?d_Disk___init___D ?d_Disk___init___E fun _ _ _ _ _ _ us hl => match us, hl with | [_, _], _ => rfl, ⟨?mk_Disk_A, ?mk_Disk_B, ?mk_Disk_C, ?mk_Disk_D⟩, _, _, Mi.meth_at ?d_Disk_check_at_A ?d_Disk_check_at_B ?d_Disk_check_at_C ?d_Disk_check_at_D ?d_Disk_check_at_E fun _ _ _ _ _ _ us hl => match us, hl with | [_, _], _ => rfl, _, _, Mi.meth_at ?d_Disk_read_A ?d_Disk_read_B ?d_Disk_read_C ?d_Disk_read_D ?d_Disk_read_E fun _ _ _ _ _ _ us hl => match us, hl with | [_, _], _ => rfl, _, _, Mi.meth_at ?d_Disk_cut_power_A ?d_Disk_cut_power_B ?d_Disk_cut_power_C ?d_Disk_cut_power_D ?d_Disk_cut_power_E fun _ _ _ _ _ _ us hl => match us, hl with | [_, _], _ => rfl, _, _, Mi.meth_at ?d_Disk_schedule_cut_A ?d_Disk_schedule_cut_B ?d_Disk_schedule_cut_C ?d_Disk_schedule_cut_D ?d_Disk_schedule_cut_E fun _ _ _ _ _ _ us hl => match us, hl with | [_, _, _], _ => rfl, _, _, Mi.meth_at ?d_Disk_count_down_A ?d_Disk_count_down_B ?d_Disk_count_down_C ?d_Disk_count_down_D ?d_Disk_count_down_E fun _ _ _ _ _ _ us hl => match us, hl with | [_], _ => rfl, _, _, Mi.meth_at ?d_Disk_write_A ?d_Disk_write_B ?d_Disk_write_C ?d_Disk_write_D ?d_Disk_write_E fun _ _ _ _ _ _ us hl => match us, hl with | [_, _, _], _ => rfl, _, _, Mi.meth_at ?d_Disk_flush_A ?d_Disk_flush_B ?d_Disk_flush_C ?d_Disk_flush_D ?d_Disk_flush_E fun _ _ _ _ _ _ us hl => match us, hl with | [_], _ => rfl, ⟨?ec_PowerCut_A, ?ec_PowerCut_B, ?ec_PowerCut_C, ?ec_PowerCut_D, ?ec_PowerCut_E, ?ec_PowerCut_F, ?ec_PowerCut_G, ?ec_PowerCut_H⟩, ⟨?ef_OutOfRange_name_A, ?ef_OutOfRange_name_B, ?ef_OutOfRange_name_C, ?ef_OutOfRange_name_D, ?ef_OutOfRange_name_E⟩, ?nf_Disk_cuts_A, ?nf_Disk_stored_A, ?nf_Disk_torn_then_A, ?nf_Disk_unflushed_A, ?nf_Disk_until_cut_A, _, _, ⟨Mi.sup_mk ?xf_OutOfRange_xL ?xf_OutOfRange_rv ?xf_OutOfRange_sa ?xf_OutOfRange_exC ?xf_OutOfRange_tyC ?xf_OutOfRange_kC ?xf_OutOfRange_nof ?xf_OutOfRange_sup ?xf_OutOfRange_subV ?xf_OutOfRange_mro ?xf_OutOfRange_thp ?xf_OutOfRange_gS ?xf_OutOfRange_top ?xf_OutOfRange_lk ?xf_OutOfRange_hcd ?xf_OutOfRange_S ?xf_OutOfRange_hag ?xf_OutOfRange_eag ?xf_OutOfRange_lda ?xf_OutOfRange_hvs ?xf_OutOfRange_hfile ?xf_OutOfRange_lcc ?xf_OutOfRange_hpos ?xf_OutOfRange_hz, ?xf_OutOfRange_i, ?xf_OutOfRange_t, ?xf_OutOfRange_b⟩, ⟨?xt_PowerCut_X, ?xt_PowerCut_A, ?xt_PowerCut_B, ?xt_PowerCut_C⟩, PySem.W.exm_ref ?h_OutOfRange_OutOfRange_A ?h_OutOfRange_OutOfRange_B ?h_OutOfRange_OutOfRange_C ?h_OutOfRange_OutOfRange_D, PySem.W.exm_ref ?h_OutOfRange_PowerCut_A ?h_OutOfRange_PowerCut_B ?h_OutOfRange_PowerCut_C ?h_OutOfRange_PowerCut_D, PySem.W.exm_ref ?h_PowerCut_OutOfRange_A ?h_PowerCut_OutOfRange_B ?h_PowerCut_OutOfRange_C ?h_PowerCut_OutOfRange_D, PySem.W.exm_ref ?h_PowerCut_PowerCut_A ?h_PowerCut_PowerCut_B ?h_PowerCut_PowerCut_C ?h_PowerCut_PowerCut_D, Mi.kit_ref ?i_PowerCut_OutOfRange_A ?i_PowerCut_OutOfRange_B ?i_PowerCut_OutOfRange_C ?i_PowerCut_OutOfRange_N, Mi.kit_ref ?i_PowerCut_RestError_A ?i_PowerCut_RestError_B ?i_PowerCut_RestError_C ?i_PowerCut_RestError_N⟩⟩
      case g_Disk_A => (k_is)
      case g_OutOfRange_A => (k_is)
      case g_PowerCut_A => (k_is)
      case g_RestError_A => (k_is)
      case cl_Disk_A => (k_is)
      case cl_Disk_B => (k_is)
      case cl_Disk_C => (k_is)
      case cl_Disk_D => (k_is)
      case d_Disk_pending_count_A => (k_is)
      case d_Disk_pending_count_B => (k_is)
      case d_Disk_pending_count_C => (k_is)
      case d_Disk_pending_count_D => (k_is)
      case d_Disk_pending_count_E => (k_is)
      case d_Disk_cut_count_A => (k_is)
      case d_Disk_cut_count_B => (k_is)
      case d_Disk_cut_count_C => (k_is)
      case d_Disk_cut_count_D => (k_is)
      case d_Disk_cut_count_E => (k_is)
      case d_Disk_store_A => (k_is)
      case d_Disk_store_B => (k_is)
      case d_Disk_store_C => (k_is)
      case d_Disk_store_D => (k_is)
      case d_Disk_store_E => (k_is)
      case d_Disk___init___A => (k_is)
      case d_Disk___init___B => (k_is)
      case d_Disk___init___C => (k_is)
      case d_Disk___init___D => (k_is)
      case d_Disk___init___E => (k_is)
      case mk_Disk_A => (k_is)
      case mk_Disk_B => (k_is)
      case mk_Disk_C => (k_is)
      case mk_Disk_D => (k_is)
      case d_Disk_check_at_A => (k_is)
      case d_Disk_check_at_B => (k_is)
      case d_Disk_check_at_C => (k_is)
      case d_Disk_check_at_D => (k_is)
      case d_Disk_check_at_E => (k_is)
      case d_Disk_read_A => (k_is)
      case d_Disk_read_B => (k_is)
      case d_Disk_read_C => (k_is)
      case d_Disk_read_D => (k_is)
      case d_Disk_read_E => (k_is)
      case d_Disk_cut_power_A => (k_is)
      case d_Disk_cut_power_B => (k_is)
      case d_Disk_cut_power_C => (k_is)
      case d_Disk_cut_power_D => (k_is)
      case d_Disk_cut_power_E => (k_is)
      case d_Disk_schedule_cut_A => (k_is)
      case d_Disk_schedule_cut_B => (k_is)
      case d_Disk_schedule_cut_C => (k_is)
      case d_Disk_schedule_cut_D => (k_is)
      case d_Disk_schedule_cut_E => (k_is)
      case d_Disk_count_down_A => (k_is)
      case d_Disk_count_down_B => (k_is)
      case d_Disk_count_down_C => (k_is)
      case d_Disk_count_down_D => (k_is)
      case d_Disk_count_down_E => (k_is)
      case d_Disk_write_A => (k_is)
      case d_Disk_write_B => (k_is)
      case d_Disk_write_C => (k_is)
      case d_Disk_write_D => (k_is)
      case d_Disk_write_E => (k_is)
      case d_Disk_flush_A => (k_is)
      case d_Disk_flush_B => (k_is)
      case d_Disk_flush_C => (k_is)
      case d_Disk_flush_D => (k_is)
      case d_Disk_flush_E => (k_is)
      case ec_PowerCut_A => (k_is)
      case ec_PowerCut_B => (k_is)
      case ec_PowerCut_C => (k_is)
      case ec_PowerCut_D => (k_is)
      case ec_PowerCut_E => (k_is)
      case ec_PowerCut_F => (k_is)
      case ec_PowerCut_G => (k_is)
      case ec_PowerCut_H => (k_is)
      case ef_OutOfRange_name_A => (k_is)
      case ef_OutOfRange_name_B => (k_is)
      case ef_OutOfRange_name_C => (k_is)
      case ef_OutOfRange_name_D => (k_is)
      case ef_OutOfRange_name_E => (k_is)
      case nf_Disk_cuts_A => (unfold L2.NoAttr; k_is)
      case nf_Disk_stored_A => (unfold L2.NoAttr; k_is)
      case nf_Disk_torn_then_A => (unfold L2.NoAttr; k_is)
      case nf_Disk_unflushed_A => (unfold L2.NoAttr; k_is)
      case nf_Disk_until_cut_A => (unfold L2.NoAttr; k_is)
      case xf_OutOfRange_i => (k_is)
      case xf_OutOfRange_xL => (k_is)
      case xf_OutOfRange_rv => (decide +kernel)
      case xf_OutOfRange_sa => (k_is)
      case xf_OutOfRange_exC => (k_is)
      case xf_OutOfRange_tyC => (k_is)
      case xf_OutOfRange_kC => (k_is)
      case xf_OutOfRange_nof => (k_is)
      case xf_OutOfRange_sup => (first | ks_is | rfl | k_is)
      case xf_OutOfRange_subV => (k_is)
      case xf_OutOfRange_mro => (k_is)
      case xf_OutOfRange_thp => (k_is)
      case xf_OutOfRange_gS => (exact PySem.W.mg_none_of KX G (by k_is))
      case xf_OutOfRange_top => (first | rfl | decide +kernel)
      case xf_OutOfRange_lk => (k_is)
      case xf_OutOfRange_hcd => (k_is)
      case xf_OutOfRange_S => (exact ⟨rfl, rfl, rfl, by decide +kernel, by decide +kernel, by decide +kernel, by decide +kernel, by decide +kernel, by decide +kernel, by decide +kernel, by decide +kernel, by decide +kernel⟩)
      case xf_OutOfRange_hag => (rfl)
      case xf_OutOfRange_eag => (rfl)
      case xf_OutOfRange_lda => (k_is)
      case xf_OutOfRange_hvs => (rfl)
      case xf_OutOfRange_hfile => (first | rfl | decide +kernel)
      case xf_OutOfRange_lcc => (k_is)
      case xf_OutOfRange_hpos => (first | rfl | decide +kernel)
      case xf_OutOfRange_hz => (decide +kernel)
      case xf_OutOfRange_t => (k_is)
      case xf_OutOfRange_b => (exact L2.Binds.all fun us hl => match us, hl with | [_, _], _ => rfl)
      case xt_PowerCut_X => (k_exc)
      case xt_PowerCut_A => (k_is)
      case xt_PowerCut_B => (k_is)
      case xt_PowerCut_C => (k_is)
      case h_OutOfRange_OutOfRange_A => (k_is)
      case h_OutOfRange_OutOfRange_B => (k_is)
      case h_OutOfRange_OutOfRange_C => (k_is)
      case h_OutOfRange_OutOfRange_D => (k_is)
      case h_OutOfRange_PowerCut_A => (k_is)
      case h_OutOfRange_PowerCut_B => (k_is)
      case h_OutOfRange_PowerCut_C => (k_is)
      case h_OutOfRange_PowerCut_D => (k_is)
      case h_PowerCut_OutOfRange_A => (k_is)
      case h_PowerCut_OutOfRange_B => (k_is)
      case h_PowerCut_OutOfRange_C => (k_is)
      case h_PowerCut_OutOfRange_D => (k_is)
      case h_PowerCut_PowerCut_A => (k_is)
      case h_PowerCut_PowerCut_B => (k_is)
      case h_PowerCut_PowerCut_C => (k_is)
      case h_PowerCut_PowerCut_D => (k_is)
      case i_PowerCut_OutOfRange_A => (k_is)
      case i_PowerCut_OutOfRange_B => (k_is)
      case i_PowerCut_OutOfRange_C => (k_is)
      case i_PowerCut_OutOfRange_N => (first | exact .inl rfl | exact .inr (by decide))
      case i_PowerCut_RestError_A => (k_is)
      case i_PowerCut_RestError_B => (k_is)
      case i_PowerCut_RestError_C => (k_is)
      case i_PowerCut_RestError_N => (first | exact .inl rfl | exact .inr (by decide))
    obtain ⟨f_is_block, x_is_block, d_is_block⟩ : ∃ f x, Mi.DefAt (L2.KOf KX) mg "is_block" K42.s_is_block ["block"] f x := by
      refine' ⟨_, _, Mi.def_at KX G ?a ?l ?c ?k fun _ _ _ _ _ _ us hl => match us, hl with | [_], _ => rfl⟩
      (case a => k_is); (case l => k_is); (case c => k_is); (case k => k_is)
    obtain ⟨f__law_cell, x__law_cell, d__law_cell⟩ : ∃ f x, Mi.DefAt (L2.KOf KX) mg "_law_cell" K42.s__law_cell ["script", "k"] f x := by
      refine' ⟨_, _, Mi.def_at KX G ?a ?l ?c ?k fun _ _ _ _ _ _ us hl => match us, hl with | [_, _], _ => rfl⟩
      (case a => k_is); (case l => k_is); (case c => k_is); (case k => k_is)
    obtain ⟨f__law_draw, x__law_draw, d__law_draw⟩ : ∃ f x, Mi.DefAt (L2.KOf KX) mg "_law_draw" K42.s__law_draw ["box", "many"] f x := by
      refine' ⟨_, _, Mi.def_at KX G ?a ?l ?c ?k fun _ _ _ _ _ _ us hl => match us, hl with | [_, _], _ => rfl⟩
      (case a => k_is); (case l => k_is); (case c => k_is); (case k => k_is)
    obtain ⟨f__law_digits, x__law_digits, d__law_digits⟩ : ∃ f x, Mi.DefAt (L2.KOf KX) mg "_law_digits" K42.s__law_digits ["script", "first", "last"] f x := by
      refine' ⟨_, _, Mi.def_at KX G ?a ?l ?c ?k fun _ _ _ _ _ _ us hl => match us, hl with | [_, _, _], _ => rfl⟩
      (case a => k_is); (case l => k_is); (case c => k_is); (case k => k_is)
    obtain ⟨f__law_torn, x__law_torn, d__law_torn⟩ : ∃ f x, Mi.DefAt (L2.KOf KX) mg "_law_torn" K42.s__law_torn ["box", "many"] f x := by
      refine' ⟨_, _, Mi.def_at KX G ?a ?l ?c ?k fun _ _ _ _ _ _ us hl => match us, hl with | [_, _], _ => rfl⟩
      (case a => k_is); (case l => k_is); (case c => k_is); (case k => k_is)
    obtain ⟨f_check_torn, x_check_torn, d_check_torn⟩ : ∃ f x, Mi.DefAt (L2.KOf KX) mg "check_torn" K42.s_check_torn ["torn"] f x := by
      refine' ⟨_, _, Mi.def_at KX G ?a ?l ?c ?k fun _ _ _ _ _ _ us hl => match us, hl with | [_], _ => rfl⟩
      (case a => k_is); (case l => k_is); (case c => k_is); (case k => k_is)
    obtain ⟨f__law_schedule, x__law_schedule, d__law_schedule⟩ : ∃ f x, Mi.DefAt (L2.KOf KX) mg "_law_schedule" K42.s__law_schedule ["disk", "count", "torn"] f x := by
      refine' ⟨_, _, Mi.def_at KX G ?a ?l ?c ?k fun _ _ _ _ _ _ us hl => match us, hl with | [_, _, _], _ => rfl⟩
      (case a => k_is); (case l => k_is); (case c => k_is); (case k => k_is)
    obtain ⟨f__law_do_raw, x__law_do_raw, d__law_do_raw⟩ : ∃ f x, Mi.DefAt (L2.KOf KX) mg "_law_do_raw" K42.s__law_do_raw ["disk", "at", "block"] f x := by
      refine' ⟨_, _, Mi.def_at KX G ?a ?l ?c ?k fun _ _ _ _ _ _ us hl => match us, hl with | [_, _, _], _ => rfl⟩
      (case a => k_is); (case l => k_is); (case c => k_is); (case k => k_is)
    obtain ⟨f__law_do, x__law_do, d__law_do⟩ : ∃ f x, Mi.DefAt (L2.KOf KX) mg "_law_do" K42.s__law_do ["disk", "at", "block"] f x := by
      refine' ⟨_, _, Mi.def_at KX G ?a ?l ?c ?k fun _ _ _ _ _ _ us hl => match us, hl with | [_, _, _], _ => rfl⟩
      (case a => k_is); (case l => k_is); (case c => k_is); (case k => k_is)
    obtain ⟨f_law, x_law, d_law⟩ : ∃ f x, Mi.DefAt (L2.KOf KX) mg "law" K42.s_law ["script"] f x := by
      refine' ⟨_, _, Mi.def_at KX G ?a ?l ?c ?k fun _ _ _ _ _ _ us hl => match us, hl with | [_], _ => rfl⟩
      (case a => k_is); (case l => k_is); (case c => k_is); (case k => k_is)
    have b_all : mg "all" = none := PySem.W.mg_none_of KX G (by k_is)
    have b_int : mg "int" = none := PySem.W.mg_none_of KX G (by k_is)
    have b_isinstance : mg "isinstance" = none := PySem.W.mg_none_of KX G (by k_is)
    have b_len : mg "len" = none := PySem.W.mg_none_of KX G (by k_is)
    have b_list : mg "list" = none := PySem.W.mg_none_of KX G (by k_is)
    have b_min : mg "min" = none := PySem.W.mg_none_of KX G (by k_is)
    have b_range : mg "range" = none := PySem.W.mg_none_of KX G (by k_is)
    have b_tuple : mg "tuple" = none := PySem.W.mg_none_of KX G (by k_is)
    have b_zip : mg "zip" = none := PySem.W.mg_none_of KX G (by k_is)
    have e_BLOCK : mg "BLOCK" = some _ := PySem.W.mg_of KX G (by k_is)
    obtain ⟨t_BLOCK, c_BLOCK⟩ : ∃ t, mg "BLOCK" = some (.int 32 t) := ⟨_, e_BLOCK⟩
    have e_BLOCKS_LEAST : mg "BLOCKS_LEAST" = some _ := PySem.W.mg_of KX G (by k_is)
    obtain ⟨t_BLOCKS_LEAST, c_BLOCKS_LEAST⟩ : ∃ t, mg "BLOCKS_LEAST" = some (.int 8 t) := ⟨_, e_BLOCKS_LEAST⟩
    have e_BLOCKS_MOST : mg "BLOCKS_MOST" = some _ := PySem.W.mg_of KX G (by k_is)
    obtain ⟨t_BLOCKS_MOST, c_BLOCKS_MOST⟩ : ∃ t, mg "BLOCKS_MOST" = some (.int 400 t) := ⟨_, e_BLOCKS_MOST⟩
    have e_BYTE_MOST : mg "BYTE_MOST" = some _ := PySem.W.mg_of KX G (by k_is)
    obtain ⟨t_BYTE_MOST, c_BYTE_MOST⟩ : ∃ t, mg "BYTE_MOST" = some (.int 255 t) := ⟨_, e_BYTE_MOST⟩
    have e_SCHEDULE_MOST : mg "SCHEDULE_MOST" = some _ := PySem.W.mg_of KX G (by k_is)
    obtain ⟨t_SCHEDULE_MOST, c_SCHEDULE_MOST⟩ : ∃ t, mg "SCHEDULE_MOST" = some (.int 100000 t) := ⟨_, e_SCHEDULE_MOST⟩
    have e := hmg.symm.trans d_law.at_
    cases e
    refine ⟨x_law, fun s v => d_law.bb s [v] rfl, fun base _ _ => ?_⟩
    exact Mi.FnG.by (K42.ok_law ⟨CT, _, _, d_is_block, _, _, d__law_cell, _, _, d__law_draw, _, _, d__law_digits, _, _, d__law_torn, _, _, d_check_torn, _, _, d__law_schedule, _, _, d__law_do_raw, _, _, d__law_do, _, _, d_law, b_all, b_int, b_isinstance, b_len, b_list, b_min, b_range, b_tuple, b_zip, t_BLOCK, c_BLOCK, t_BLOCKS_LEAST, c_BLOCKS_LEAST, t_BLOCKS_MOST, c_BLOCKS_MOST, t_BYTE_MOST, c_BYTE_MOST, t_SCHEDULE_MOST, c_SCHEDULE_MOST⟩) fun rs S Q X _ hh => hh _ (K42.Tops.kap _)
