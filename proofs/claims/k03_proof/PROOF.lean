import PyProof.Rows.All
import Wide.All
import OpenK.AllK
import Wide.FinOn
import HandS.ForMost
import HandS.ForExc
import HandS.Walk
import HandS.Zip
import HandS.TupAny
import HandS.Style
import HandS.Deep
import HandS.Conv
import HandS.Flow
import KE.DataCmp
import PySem.Challenge.RW_textatrest_k03_order_of_paths
set_option Elab.async false
set_option linter.all false
set_option maxRecDepth 100000
set_option maxHeartbeats 4000000
/-! Mi: a mirror over the hand layer: data as PyData, a small store for what is changed in place. Own work. -/
namespace Mi
open PySem PySem.Spec PyProof.Rows L2

/-! ### values and the store -/
inductive MV where
  | d (x : PyData)
  | m (a : Addr)
inductive MO where
  | lst (xs : List MV)
  | ins (C : Addr) (fs : List (Str × MV))
abbrev Sto := Addr → Option MO
def sset (S : Sto) (a : Addr) (o : MO) : Sto := fun b => if b = a then some o else S b
def sdel (S : Sto) (a : Addr) : Sto := fun b => if b = a then none else S b
def cat (S T : Sto) : Sto := fun b => match T b with | some o => some o | none => S b
theorem sset_same {S : Sto} {a : Addr} {o : MO} : sset S a o a = some o := if_pos rfl
theorem sset_ne {S : Sto} {a b : Addr} {o : MO} (h : b ≠ a) : sset S a o b = S b := if_neg h
theorem sdel_same {S : Sto} {a : Addr} : sdel S a a = none := if_pos rfl
theorem sdel_ne {S : Sto} {a b : Addr} (h : b ≠ a) : sdel S a b = S b := if_neg h
theorem sset_sset {S : Sto} {a : Addr} {o u : MO} : sset (sset S a o) a u = sset S a u := by
  funext b; unfold sset; split <;> rfl
theorem sset_comm {S : Sto} {a b : Addr} {o u : MO} (h : a ≠ b) : sset (sset S a o) b u = sset (sset S b u) a o := by
  funext c
  unfold sset
  by_cases h1 : c = b
  · have h2 : c ≠ a := fun e => h (e.symm.trans h1)
    rw [if_pos h1, if_neg h2, if_pos h1]
  · rw [if_neg h1]
    by_cases h2 : c = a
    · rw [if_pos h2, if_pos h2]
    · rw [if_neg h2, if_neg h2, if_neg h1]
theorem sdel_sset {S : Sto} {a : Addr} {o : MO} (h : S a = none) : sdel (sset S a o) a = S := by
  funext b
  by_cases e : b = a
  · rw [e, sdel_same, h]
  · rw [sdel_ne e, sset_ne e]
theorem sdel_none {S : Sto} {a : Addr} (h : S a = none) : sdel S a = S := by
  funext b
  by_cases e : b = a
  · rw [e, sdel_same, h]
  · rw [sdel_ne e]
theorem cat_none {S T : Sto} {a : Addr} (h : T a = none) : cat S T a = S a := by unfold cat; rw [h]
theorem cat_some {S T : Sto} {a : Addr} {o : MO} (h : T a = some o) : cat S T a = some o := by unfold cat; rw [h]
theorem cat_of {S T : Sto} {a : Addr} {o : MO} (h : cat S T a = some o) : T a = some o ∨ (T a = none ∧ S a = some o) := by
  unfold cat at h
  cases e : T a with
  | none => rw [e] at h; exact .inr ⟨rfl, h⟩
  | some u => rw [e] at h; exact .inl h
theorem cat_left {S T : Sto} {a : Addr} (h : cat S T a = none) : S a = none ∧ T a = none := by
  unfold cat at h
  cases e : T a with
  | none => rw [e] at h; exact ⟨h, rfl⟩
  | some u => rw [e] at h; cases h
theorem cat_free {S T : Sto} {a : Addr} (h : S a = none) (h' : T a = none) : cat S T a = none := by unfold cat; rw [h']; exact h
theorem cat_sset {S T : Sto} {a : Addr} {o : MO} (h : T a = none) : cat (sset S a o) T = sset (cat S T) a o := by
  funext b
  by_cases e : b = a
  · rw [e, cat_none h, sset_same, sset_same]
  · rw [sset_ne e]
    unfold cat
    rw [sset_ne e]
theorem cat_sdel {S T : Sto} {a : Addr} (h : T a = none) : cat (sdel S a) T = sdel (cat S T) a := by
  funext b
  by_cases e : b = a
  · rw [e, cat_none h, sdel_same, sdel_same]
  · rw [sdel_ne e]
    unfold cat
    rw [sdel_ne e]
/-- a thing of the store, into the frame -/
theorem cat_move {S T : Sto} {a : Addr} {o : MO} (h : S a = none) : cat S (sset T a o) = sset (cat S T) a o := by
  funext b
  by_cases e : b = a
  · rw [e, sset_same]
    exact cat_some sset_same
  · rw [sset_ne e]
    unfold cat
    rw [sset_ne e]

/-- the heap without what the store holds -/
def Fz (U : Sto) (H : Hp) : Hp := fun a => match U a with | none => H a | some _ => none
theorem fz_free {U : Sto} {H : Hp} {a : Addr} (h : U a = none) : Fz U H a = H a := by unfold Fz; rw [h]
theorem fz_of {U : Sto} {H : Hp} {a : Addr} {o : HO} (h : Fz U H a = some o) : U a = none ∧ H a = some o := by
  unfold Fz at h
  cases e : U a with
  | none => rw [e] at h; exact ⟨rfl, h⟩
  | some u => rw [e] at h; cases h
theorem fz_same {U : Sto} {H : Hp} : Same (Fz U H) H := fun _ _ h => (fz_of h).2

mutual
theorem dp_mono {K : PySem.W.Frag} {H H' : Hp} (e : Same H H') : ∀ (x : PyData) (v : V), Dp K H v x → Dp K H' v x
  | .none, _, h => by cases h; exact .non
  | .bool _, _, h => by cases h; exact .bl _
  | .int _, _, h => by cases h; exact .int _
  | .str _, _, h => by cases h; exact .str _
  | .list xs, _, h => by
    cases h with
    | lst hs ha => exact .lst (e.seq hs) (dpAll_mono e xs _ ha)
  | .tuple xs, _, h => by
    cases h with
    | tup hs ha =>
      refine .tup ?_ (dpAll_mono e xs _ ha)
      rcases hs with (hs | ⟨o, hs⟩) | hs
      · exact .inl (.inl (e _ _ hs))
      · exact .inl (.inr ⟨o, e _ _ hs⟩)
      · exact .inr hs
  | .dict _, _, h => by cases h
theorem dpAll_mono {K : PySem.W.Frag} {H H' : Hp} (e : Same H H') : ∀ (xs : List PyData) (vs : List V), DpAll K H vs xs → DpAll K H' vs xs
  | [], _, h => by cases h; exact .nil
  | x :: xs, _, h => by
    cases h with
    | cons h1 h2 => exact .cons (dp_mono e x _ h1) (dpAll_mono e xs _ h2)
end

/-- a mirror's value and a value of the layer -/
def RV (K : PySem.W.Frag) (U : Sto) (H : Hp) : MV → V → Prop
  | .d x, v => Dp K (Fz U H) v x
  | .m a, v => v = .ref a
abbrev RVs (K : PySem.W.Frag) (U : Sto) (H : Hp) : List MV → List V → Prop := Paired (RV K U H)
def Ev (U : Sto) (H : Hp) (U' : Sto) (H' : Hp) : Prop := Same (Fz U H) (Fz U' H')
theorem Ev.rfl' {U : Sto} {H : Hp} : Ev U H U H := Same.refl _
theorem Ev.trans {U U1 U2 : Sto} {H H1 H2 : Hp} (a : Ev U H U1 H1) (b : Ev U1 H1 U2 H2) : Ev U H U2 H2 := Same.trans a b
section
variable {K : PySem.W.Frag} {U U' : Sto} {H H' : Hp}
theorem RV.ev (e : Ev U H U' H') : ∀ {r : MV} {v : V}, RV K U H r v → RV K U' H' r v
  | .d x, v, h => dp_mono e x v h
  | .m _, _, h => h
theorem RVs.ev (e : Ev U H U' H') : ∀ {rs : List MV} {vs : List V}, RVs K U H rs vs → RVs K U' H' rs vs
  | _, _, .nil => .nil
  | _, _, .cons h t => .cons (h.ev e) (RVs.ev e t)
theorem RVs.get : ∀ {rs : List MV} {vs : List V} {i : Nat} {r : MV}, RVs K U H rs vs → rs[i]? = some r → ∃ v, vs[i]? = some v ∧ RV K U H r v
  | _, _, _, _, .nil, e => by simp at e
  | _, _, 0, _, .cons r _, e => by simp at e; subst e; exact ⟨_, rfl, r⟩
  | _, _, i + 1, x, .cons _ t, e => by
    obtain ⟨u, h1, h2⟩ := RVs.get (i := i) (r := x) t (by simpa using e)
    exact ⟨u, by simpa using h1, h2⟩
theorem RVs.get' : ∀ {rs : List MV} {vs : List V} {i : Nat} {v : V}, RVs K U H rs vs → vs[i]? = some v → ∃ r, rs[i]? = some r ∧ RV K U H r v
  | _, _, _, _, .nil, e => by simp at e
  | _, _, 0, _, .cons r _, e => by simp at e; subst e; exact ⟨_, rfl, r⟩
  | _, _, i + 1, x, .cons _ t, e => by
    obtain ⟨u, h1, h2⟩ := RVs.get' (i := i) (v := x) t (by simpa using e)
    exact ⟨u, by simpa using h1, h2⟩
theorem RVs.append : ∀ {rs ss : List MV} {vs ws : List V}, RVs K U H rs vs → RVs K U H ss ws → RVs K U H (rs ++ ss) (vs ++ ws)
  | _, _, _, _, .nil, s => s
  | _, _, _, _, .cons r t, s => .cons r (RVs.append t s)
theorem RVs.take : ∀ {rs : List MV} {vs : List V} (n : Nat), RVs K U H rs vs → RVs K U H (rs.take n) (vs.take n)
  | _, _, 0, _ => .nil
  | _, _, _ + 1, .nil => .nil
  | _, _, n + 1, .cons r t => .cons r (RVs.take n t)
theorem RVs.drop : ∀ {rs : List MV} {vs : List V} (n : Nat), RVs K U H rs vs → RVs K U H (rs.drop n) (vs.drop n)
  | _, _, 0, r => r
  | _, _, _ + 1, .nil => .nil
  | _, _, n + 1, .cons _ t => RVs.drop n t
theorem RVs.set {r : MV} {v : V} (h : RV K U H r v) : ∀ {rs : List MV} {vs : List V} (i : Nat), RVs K U H rs vs → RVs K U H (rs.set i r) (vs.set i v)
  | _, _, _, .nil => .nil
  | _, _, 0, .cons _ t => .cons h t
  | _, _, i + 1, .cons q t => .cons q (RVs.set h i t)
theorem RVs.length {rs : List MV} {vs : List V} (h : RVs K U H rs vs) : rs.length = vs.length := Paired.length h
/-- items that are data -/
theorem RVs.data : ∀ {xs : List PyData} {vs : List V}, RVs K U H (xs.map .d) vs → DpAll K (Fz U H) vs xs
  | [], _, h => by cases h; exact .nil
  | x :: xs, _, h => by
    cases h with
    | cons h1 h2 => exact .cons h1 (RVs.data h2)
theorem RVs.of : ∀ {xs : List PyData} {vs : List V}, DpAll K (Fz U H) vs xs → RVs K U H (xs.map .d) vs
  | [], _, h => by cases h; exact .nil
  | x :: xs, _, h => by
    cases h with
    | cons h1 h2 => exact .cons h1 (RVs.of h2)
end

/-- the store tells what the heap holds -/
structure Rp (K : PySem.W.Frag) (U : Sto) (H : Hp) : Prop where
  lst : ∀ a xs, U a = some (.lst xs) → ∃ vs, H a = some (.lst vs) ∧ RVs K U H xs vs
  ins : ∀ a C fs, U a = some (.ins C fs) → ∃ dx gs, H a = some (.ins C dx gs) ∧ Paired (fun (p : Str × MV) (q : Str × V) => p.1 = q.1 ∧ RV K U H p.2 q.2) fs gs
structure Ok (K : PySem.W.Frag) (S T : Sto) (H : Hp) : Prop where
  rp : Rp K (cat S T) H
  dj : ∀ a o, T a = some o → S a = none
abbrev Ro := List (Option MV)
structure En (K : PySem.W.Frag) (U : Sto) (H : Hp) (ρ : Ro) (σ : L2.St) : Prop where
  len : ρ.length = σ.length
  get : ∀ (i : Nat) (r : MV), ρ[i]? = some (some r) → ∃ v, σ[i]? = some (some v) ∧ RV K U H r v
theorem paired_imp {α β : Type} {F G : α → β → Prop} (f : ∀ a b, F a b → G a b) : ∀ {l : List α} {l' : List β}, Paired F l l' → Paired G l l'
  | _, _, .nil => .nil
  | _, _, .cons h t => .cons (f _ _ h) (paired_imp f t)

section
variable {K : PySem.W.Frag} {U U' S T : Sto} {H H' : Hp} {ρ : Ro} {σ : L2.St}
theorem En.ev (n : En K U H ρ σ) (e : Ev U H U' H') : En K U' H' ρ σ := ⟨n.len, fun i r h => by
  obtain ⟨v, h1, h2⟩ := n.get i r h
  exact ⟨v, h1, h2.ev e⟩⟩
theorem En.set (n : En K U H ρ σ) {r : MV} {v : V} (h : RV K U H r v) (i : Nat) : En K U H (ρ.set i (some r)) (σ.set i (some v)) := by
  refine ⟨by rw [List.length_set, List.length_set]; exact n.len, fun j q e => ?_⟩
  by_cases hj : i = j
  · subst hj
    by_cases hl : i < ρ.length
    · rw [List.getElem?_set_self hl] at e
      cases e
      exact ⟨v, by rw [List.getElem?_set_self (by rw [← n.len]; exact hl)], h⟩
    · rw [List.getElem?_eq_none (by simpa using hl)] at e; cases e
  · rw [List.getElem?_set_ne hj] at e
    obtain ⟨w, h1, h2⟩ := n.get j q e
    exact ⟨w, by rw [List.getElem?_set_ne hj]; exact h1, h2⟩
def wipeM (ρ : Ro) : List Nat → Ro
  | [] => ρ
  | v :: vs => (wipeM ρ vs).set v none
theorem En.unset (n : En K U H ρ σ) (i : Nat) : En K U H (ρ.set i none) (σ.set i none) := by
  refine ⟨by rw [List.length_set, List.length_set]; exact n.len, fun j q e => ?_⟩
  by_cases hj : i = j
  · subst hj
    by_cases hl : i < ρ.length
    · rw [List.getElem?_set_self hl] at e; cases e
    · rw [List.getElem?_eq_none (by simpa using hl)] at e; cases e
  · rw [List.getElem?_set_ne hj] at e
    obtain ⟨w, h1, h2⟩ := n.get j q e
    exact ⟨w, by rw [List.getElem?_set_ne hj]; exact h1, h2⟩
theorem En.wipe (n : En K U H ρ σ) : ∀ vs : List Nat, En K U H (wipeM ρ vs) (wipe σ vs)
  | [] => n
  | v :: vs => (En.wipe n vs).unset v
theorem En.start {rs : List MV} {vs : List V} (h : RVs K U H rs vs) (N : List Str) : En K U H (rs.map some ++ List.replicate (N.length - rs.length) none) (start N vs) := by
  have hl := h.length
  refine ⟨by unfold L2.start; simp [hl], fun i r e => ?_⟩
  by_cases hi : i < rs.length
  · rw [List.getElem?_append_left (by simpa using hi), List.getElem?_map] at e
    cases q : rs[i]? with
    | none => rw [q] at e; cases e
    | some r' =>
      rw [q] at e
      cases e
      obtain ⟨v, h1, h2⟩ := h.get q
      refine ⟨v, ?_, h2⟩
      unfold L2.start
      rw [List.getElem?_append_left (by simpa [hl] using hi), List.getElem?_map, h1]
      rfl
  · rw [List.getElem?_append_right (by simpa using hi), List.getElem?_replicate] at e
    split at e <;> cases e

/-! ### the heap moves -/
/-- a new object, of which the store knows nothing -/
theorem ev_new {p : Addr} {o : HO} (n : H p = none) : Ev U H U (upd H p o) := fun a u e => by
  obtain ⟨h1, h2⟩ := fz_of e
  have ne : a ≠ p := fun z => by rw [z, n] at h2; cases h2
  rw [fz_free h1, upd_ne ne]
  exact h2
theorem Rp.free (r : Rp K U H) {p : Addr} (n : H p = none) : U p = none := by
  cases e : U p with
  | none => rfl
  | some o =>
    cases o with
    | lst xs =>
      obtain ⟨vs, h, _⟩ := r.lst p xs e
      rw [n] at h; cases h
    | ins C fs =>
      obtain ⟨dx, gs, h, _⟩ := r.ins p C fs e
      rw [n] at h; cases h
theorem Ok.free (k : Ok K S T H) {p : Addr} (n : H p = none) : S p = none ∧ T p = none := cat_left (k.rp.free n)
theorem Rp.new (r : Rp K U H) {p : Addr} {o : HO} (n : H p = none) : Rp K U (upd H p o) := by
  have ev : Ev U H U (upd H p o) := ev_new n
  refine ⟨fun a xs e => ?_, fun a C fs e => ?_⟩
  · obtain ⟨vs, h1, h2⟩ := r.lst a xs e
    exact ⟨vs, by rw [upd_ne (ne_of_none h1 n)]; exact h1, h2.ev ev⟩
  · obtain ⟨dx, gs, h1, h2⟩ := r.ins a C fs e
    exact ⟨dx, gs, by rw [upd_ne (ne_of_none h1 n)]; exact h1, paired_imp (fun _ _ z => ⟨z.1, z.2.ev ev⟩) h2⟩
theorem Ok.new (k : Ok K S T H) {p : Addr} {o : HO} (n : H p = none) : Ok K S T (upd H p o) := ⟨k.rp.new n, k.dj⟩
/-- a new object, into the store -/
theorem ev_newS {p : Addr} {o : HO} {q : MO} (n : H p = none) : Ev U H (sset U p q) (upd H p o) := fun a u e => by
  obtain ⟨h1, h2⟩ := fz_of e
  have ne : a ≠ p := fun z => by rw [z, n] at h2; cases h2
  rw [fz_free (by rw [sset_ne ne]; exact h1), upd_ne ne]
  exact h2
theorem Rp.newL (r : Rp K U H) {p : Addr} {xs : List MV} {vs : List V} (n : H p = none) (h : RVs K U H xs vs) : Rp K (sset U p (.lst xs)) (upd H p (.lst vs)) := by
  have ev : Ev U H (sset U p (.lst xs)) (upd H p (.lst vs)) := ev_newS n
  refine ⟨fun a ys e => ?_, fun a C fs e => ?_⟩
  · by_cases ha : a = p
    · subst ha
      rw [sset_same] at e
      cases e
      exact ⟨vs, upd_same, h.ev ev⟩
    · rw [sset_ne ha] at e
      obtain ⟨ws, h1, h2⟩ := r.lst a ys e
      exact ⟨ws, by rw [upd_ne ha]; exact h1, h2.ev ev⟩
  · by_cases ha : a = p
    · subst ha
      rw [sset_same] at e
      cases e
    · rw [sset_ne ha] at e
      obtain ⟨dx, gs, h1, h2⟩ := r.ins a C fs e
      exact ⟨dx, gs, by rw [upd_ne ha]; exact h1, paired_imp (fun _ _ z => ⟨z.1, z.2.ev ev⟩) h2⟩
/-- a thing of the store is changed -/
theorem ev_set {p : Addr} {o : HO} {q q' : MO} (h : U p = some q) : Ev U H (sset U p q') (upd H p o) := fun a u e => by
  obtain ⟨h1, h2⟩ := fz_of e
  have ne : a ≠ p := fun z => by rw [z, h] at h1; cases h1
  rw [fz_free (by rw [sset_ne ne]; exact h1), upd_ne ne]
  exact h2
theorem Rp.setL (r : Rp K U H) {p : Addr} {q : MO} {xs : List MV} {vs : List V} (hp : U p = some q) (h : RVs K U H xs vs) : Rp K (sset U p (.lst xs)) (upd H p (.lst vs)) := by
  have ev : Ev U H (sset U p (.lst xs)) (upd H p (.lst vs)) := ev_set hp
  refine ⟨fun a ys e => ?_, fun a C fs e => ?_⟩
  · by_cases ha : a = p
    · subst ha
      rw [sset_same] at e
      cases e
      exact ⟨vs, upd_same, h.ev ev⟩
    · rw [sset_ne ha] at e
      obtain ⟨ws, h1, h2⟩ := r.lst a ys e
      exact ⟨ws, by rw [upd_ne ha]; exact h1, h2.ev ev⟩
  · by_cases ha : a = p
    · subst ha
      rw [sset_same] at e
      cases e
    · rw [sset_ne ha] at e
      obtain ⟨dx, gs, h1, h2⟩ := r.ins a C fs e
      exact ⟨dx, gs, by rw [upd_ne ha]; exact h1, paired_imp (fun _ _ z => ⟨z.1, z.2.ev ev⟩) h2⟩
/-- a thing of the store is let go: it will change no more -/
theorem ev_del {p : Addr} : Ev U H (sdel U p) H := fun a u e => by
  obtain ⟨h1, h2⟩ := fz_of e
  have h3 : sdel U p a = none := by
    by_cases ha : a = p
    · rw [ha, sdel_same]
    · rw [sdel_ne ha]; exact h1
  rw [fz_free h3]
  exact h2
theorem Rp.del (r : Rp K U H) {p : Addr} : Rp K (sdel U p) H := by
  have ev : Ev U H (sdel U p) H := ev_del
  refine ⟨fun a ys e => ?_, fun a C fs e => ?_⟩
  · by_cases ha : a = p
    · rw [ha, sdel_same] at e; cases e
    · rw [sdel_ne ha] at e
      obtain ⟨ws, h1, h2⟩ := r.lst a ys e
      exact ⟨ws, h1, h2.ev ev⟩
  · by_cases ha : a = p
    · rw [ha, sdel_same] at e; cases e
    · rw [sdel_ne ha] at e
      obtain ⟨dx, gs, h1, h2⟩ := r.ins a C fs e
      exact ⟨dx, gs, h1, paired_imp (fun _ _ z => ⟨z.1, z.2.ev ev⟩) h2⟩
end
end Mi
namespace Mi
open PySem PySem.Spec PyProof.Rows L2

/-! ### what is wanted behind a step -/
inductive MX where
  | pl (C : Addr)
  | fd (C : Addr) (fs : List (Str × PyData))
def RX (K : PySem.W.Frag) (U : Sto) (H : Hp) : MX → Value → Option Addr → Prop
  | .pl C, c, d => c = .ref C ∧ d = none
  | .fd C fs, c, d => c = .ref C ∧ ∃ a gs, d = some a ∧ H a = some (.xd gs) ∧ Paired (fun (p : Str × PyData) (q : Str × V) => p.1 = q.1 ∧ Dp K (Fz U H) q.2 p.2) fs gs
abbrev QE := MV → Sto → Prop
abbrev QX := MX → Sto → Prop
abbrev CE := Ro → Sto → QE → QX → Prop
abbrev CT := Ro → Sto → (Bool → Sto → Prop) → QX → Prop
abbrev CA := Ro → Sto → (List MV → Sto → Prop) → QX → Prop
structure ME where
  nx : Ro → Sto → Prop
  rt : QE
  bk : Ro → Sto → Prop
  ct : Ro → Sto → Prop
  ex : MX → Ro → Sto → Prop
abbrev CS := ME → Ro → Sto → Prop

def Out (K : PySem.W.Frag) (S T : Sto) (H : Hp) (Qm : QE) (Q : VK) : Prop :=
  ∀ r v S' H', Ev (cat S T) H (cat S' T) H' → Ok K S' T H' → RV K (cat S' T) H' r v → Qm r S' → Q v H'
def OutB (K : PySem.W.Frag) (S T : Sto) (H : Hp) (Qm : Bool → Sto → Prop) (Q : Bool → Hp → Prop) : Prop :=
  ∀ b S' H', Ev (cat S T) H (cat S' T) H' → Ok K S' T H' → Qm b S' → Q b H'
def OutL (K : PySem.W.Frag) (S T : Sto) (H : Hp) (Qm : List MV → Sto → Prop) (Q : List V → Hp → Prop) : Prop :=
  ∀ rs vs S' H', Ev (cat S T) H (cat S' T) H' → Ok K S' T H' → RVs K (cat S' T) H' rs vs → Qm rs S' → Q vs H'
def OutX (K : PySem.W.Frag) (S T : Sto) (H : Hp) (xm : QX) (E : XK) : Prop :=
  ∀ x c d S' H', Ev (cat S T) H (cat S' T) H' → Ok K S' T H' → RX K (cat S' T) H' x c d → xm x S' → E c d H'
def OutN (K : PySem.W.Frag) (S T : Sto) (H : Hp) (nm : Ro → Sto → Prop) (N : L2.St → Hp → Prop) : Prop :=
  ∀ ρ σ S' H', Ev (cat S T) H (cat S' T) H' → Ok K S' T H' → En K (cat S' T) H' ρ σ → nm ρ S' → N σ H'
structure OutD (K : PySem.W.Frag) (W : WX) (S T : Sto) (H : Hp) (Dm : ME) (D : Ends) : Prop where
  nx : OutN K S T H Dm.nx D.nx
  rt : Out K S T H Dm.rt D.rt
  bk : OutN K S T H Dm.bk D.bk
  ct : OutN K S T H Dm.ct D.ct
  ex : ∀ x c d ρ σ S' H', Ev (cat S T) H (cat S' T) H' → Ok K S' T H' → En K (cat S' T) H' ρ σ → RX K (cat S' T) H' x c d → Dm.ex x ρ S' → W c d σ H'
section
variable {K : PySem.W.Frag} {S S1 T : Sto} {H H1 : Hp}
theorem Out.go {Qm : QE} {Q : VK} (o : Out K S T H Qm Q) (e : Ev (cat S T) H (cat S1 T) H1) : Out K S1 T H1 Qm Q := fun r v S' H' e' => o r v S' H' (e.trans e')
theorem OutB.go {Qm : Bool → Sto → Prop} {Q : Bool → Hp → Prop} (o : OutB K S T H Qm Q) (e : Ev (cat S T) H (cat S1 T) H1) : OutB K S1 T H1 Qm Q := fun r S' H' e' => o r S' H' (e.trans e')
theorem OutL.go {Qm : List MV → Sto → Prop} {Q : List V → Hp → Prop} (o : OutL K S T H Qm Q) (e : Ev (cat S T) H (cat S1 T) H1) : OutL K S1 T H1 Qm Q := fun r v S' H' e' => o r v S' H' (e.trans e')
theorem OutX.go {xm : QX} {E : XK} (o : OutX K S T H xm E) (e : Ev (cat S T) H (cat S1 T) H1) : OutX K S1 T H1 xm E := fun x c d S' H' e' => o x c d S' H' (e.trans e')
theorem OutN.go {nm : Ro → Sto → Prop} {N : L2.St → Hp → Prop} (o : OutN K S T H nm N) (e : Ev (cat S T) H (cat S1 T) H1) : OutN K S1 T H1 nm N := fun ρ σ S' H' e' => o ρ σ S' H' (e.trans e')
theorem OutD.go {W : WX} {Dm : ME} {D : Ends} (o : OutD K W S T H Dm D) (e : Ev (cat S T) H (cat S1 T) H1) : OutD K W S1 T H1 Dm D :=
  ⟨o.nx.go e, o.rt.go e, o.bk.go e, o.ct.go e, fun x c d ρ σ S' H' e' => o.ex x c d ρ σ S' H' (e.trans e')⟩
/-- an expression's raise, within a statement at ρ -/
theorem OutD.xe {W : WX} {Dm : ME} {D : Ends} {ρ : Ro} {σ : L2.St} (o : OutD K W S T H Dm D) (n : En K (cat S T) H ρ σ) : OutX K S T H (fun x S' => Dm.ex x ρ S') (fun c d H' => W c d σ H') :=
  fun x c d S' H' e k r h => o.ex x c d ρ σ S' H' e k (n.ev e) r h
end

/-! ### the mirror of a reading -/
def SimE (K : PySem.W.Frag) (W : WX) (t : TE) (m : CE) : Prop := ∀ ρ σ S T H Qm xm Q, En K (cat S T) H ρ σ → Ok K S T H → Out K S T H Qm Q → OutX K S T H xm (fun c d H' => W c d σ H') → m ρ S Qm xm → t σ H Q
def SimT (K : PySem.W.Frag) (W : WX) (t : TT) (m : CT) : Prop := ∀ ρ σ S T H Qm xm Q, En K (cat S T) H ρ σ → Ok K S T H → OutB K S T H Qm Q → OutX K S T H xm (fun c d H' => W c d σ H') → m ρ S Qm xm → t σ H Q
def SimA (K : PySem.W.Frag) (W : WX) (t : TA) (m : CA) : Prop := ∀ ρ σ S T H Qm xm Q, En K (cat S T) H ρ σ → Ok K S T H → OutL K S T H Qm Q → OutX K S T H xm (fun c d H' => W c d σ H') → m ρ S Qm xm → t σ H Q
def SimS (K : PySem.W.Frag) (W : WX) (t : TS) (m : CS) : Prop := ∀ ρ σ S T H Dm D, En K (cat S T) H ρ σ → Ok K S T H → OutD K W S T H Dm D → m Dm ρ S → t D σ H
/-- by values -/
abbrev B1 := MV → Sto → QE → Prop
abbrev B2 := MV → MV → Sto → QE → Prop
abbrev BL := List MV → Sto → QE → Prop
def SimR1 (K : PySem.W.Frag) (r : V → Hp → VK → Prop) (b : B1) : Prop := ∀ x vx S T H Qm Q, Ok K S T H → RV K (cat S T) H x vx → Out K S T H Qm Q → b x S Qm → r vx H Q
def SimR2 (K : PySem.W.Frag) (r : R2) (b : B2) : Prop := ∀ x y vx vy S T H Qm Q, Ok K S T H → RV K (cat S T) H x vx → RV K (cat S T) H y vy → Out K S T H Qm Q → b x y S Qm → r vx vy H Q
def SimRL (K : PySem.W.Frag) (r : List V → Hp → VK → Prop) (b : BL) : Prop := ∀ xs vs S T H Qm Q, Ok K S T H → RVs K (cat S T) H xs vs → Out K S T H Qm Q → b xs S Qm → r vs H Q

/-! ### expressions -/
def eC (x : PyData) : CE := fun _ S Q _ => Q (.d x) S
def eVar (i : Nat) : CE := fun ρ S Q _ => ∃ r, ρ[i]? = some (some r) ∧ Q r S
def eOp (b : B2) (ma mb : CE) : CE := fun ρ S Q X => ma ρ S (fun x S1 => mb ρ S1 (fun y S2 => b x y S2 Q) X) X
def eUn (b : B1) (ma : CE) : CE := fun ρ S Q X => ma ρ S (fun x S1 => b x S1 Q) X
def eIf (c : CT) (ma mb : CE) : CE := fun ρ S Q X => c ρ S (fun k S1 => if k = true then ma ρ S1 Q X else mb ρ S1 Q X) X
def aNil : CA := fun _ S Q _ => Q [] S
def aCons (ma : CE) (mr : CA) : CA := fun ρ S Q X => ma ρ S (fun x S1 => mr ρ S1 (fun xs S2 => Q (x :: xs) S2) X) X
/-- data alone -/
def allD : List MV → Option (List PyData)
  | [] => some []
  | .d x :: r => (allD r).map (x :: ·)
  | .m _ :: _ => none
theorem allD_map : ∀ xs : List PyData, allD (xs.map .d) = some xs
  | [] => rfl
  | x :: xs => by show (allD (xs.map .d)).map (x :: ·) = _; rw [allD_map xs]; rfl
theorem allD_some : ∀ {rs : List MV} {xs : List PyData}, allD rs = some xs → rs = xs.map .d
  | [], xs, h => by cases h; rfl
  | .d x :: r, xs, h => by
    have h' : (allD r).map (x :: ·) = some xs := h
    cases e : allD r with
    | none => rw [e] at h'; cases h'
    | some ys => rw [e] at h'; cases h'; rw [allD_some e]; rfl
  | .m _ :: _, xs, h => by cases h
def eTup (ma : CA) : CE := fun ρ S Q X => ma ρ S (fun rs S1 => ∃ xs, allD rs = some xs ∧ xs.length ≤ sizeLine ∧ Q (.d (.tuple xs)) S1) X
/-- a list that is never changed -/
def eLst (ma : CA) : CE := fun ρ S Q X => ma ρ S (fun rs S1 => ∃ xs, allD rs = some xs ∧ xs.length ≤ sizeLine ∧ Q (.d (.list xs)) S1) X
/-- a list that will be changed -/
def eLstM (ma : CA) : CE := fun ρ S Q X => ma ρ S (fun rs S1 => rs.length ≤ sizeLine ∧ ∀ p, S1 p = none → Q (.m p) (sset S1 p (.lst rs))) X
def eCB (b : BL) (ma : CA) : CE := fun ρ S Q X => ma ρ S (fun rs S1 => b rs S1 Q) X
abbrev Fm := List MV → Sto → QE → QX → Prop
def eAndV (ma mb : CE) : CE := fun ρ S Q X => ma ρ S (fun x S1 => ∃ c, x = .d (.bool c) ∧ if c = true then mb ρ S1 Q X else Q (.d (.bool false)) S1) X
def eOrV (ma mb : CE) : CE := fun ρ S Q X => ma ρ S (fun x S1 => ∃ c, x = .d (.bool c) ∧ if c = true then Q (.d (.bool true)) S1 else mb ρ S1 Q X) X
def eNotV (ma : CE) : CE := fun ρ S Q X => ma ρ S (fun x S1 => ∃ c, x = .d (.bool c) ∧ Q (.d (.bool (!c))) S1) X
def cAnd (c d : CT) : CT := fun ρ S Q X => c ρ S (fun k S1 => if k = true then d ρ S1 Q X else Q false S1) X
def cOr (c d : CT) : CT := fun ρ S Q X => c ρ S (fun k S1 => if k = true then Q true S1 else d ρ S1 Q X) X
def cNot (c : CT) : CT := fun ρ S Q X => c ρ S (fun k S1 => Q (!k) S1) X
/-- an expression that gives True or False -/
def cB (ma : CE) : CT := fun ρ S Q X => ma ρ S (fun x S1 => ∃ k, x = .d (.bool k) ∧ Q k S1) X
def seqOf (S : Sto) : MV → Option (List MV)
  | .d (.list xs) => some (xs.map .d)
  | .d (.tuple xs) => some (xs.map .d)
  | .m a => match S a with | some (.lst xs) => some xs | _ => none
  | _ => none
def truV (S : Sto) : MV → Bool → Prop
  | .d .none, k => k = false
  | .d (.bool b), k => k = b
  | .d (.int i), k => k = (i != 0)
  | .d (.str y), k => y.length ≤ sizeLine ∧ k = ((y.length : Int) != 0)
  | r, k => ∃ xs, seqOf S r = some xs ∧ k = !xs.isEmpty
def cTru (ma : CE) : CT := fun ρ S Q X => ma ρ S (fun x S1 => ∃ k, truV S1 x k ∧ Q k S1) X

section
variable {K : PySem.W.Frag} {W : WX} {ta tb te : TE} {ma mb me : CE} {t : TA} {m : CA} {tA tB' : TT} {c d : CT}
theorem sim_var (i : Nat) : SimE K W (tVar i) (eVar i) := fun ρ σ S T H Qm xm Q n k o ox h => by
  obtain ⟨r, e, q⟩ := h
  obtain ⟨v, e2, rv⟩ := n.get i r e
  exact ⟨v, e2, o r v S H Ev.rfl' k rv q⟩
theorem sim_const {v : V} {x : PyData} (h : ∀ H, Dp K H v x) : SimE K W (tC v) (eC x) := fun ρ σ S T H Qm xm Q n k o ox q => o (.d x) v S H Ev.rfl' k (h _) q
theorem sim_int {i : Int} : SimE K W (tC (.int i)) (eC (.int i)) := sim_const fun _ => .int i
theorem sim_str {x : Str} : SimE K W (tC (.str x)) (eC (.str x)) := sim_const fun _ => .str x
theorem sim_bl {b : Bool} : SimE K W (tC (.bl b)) (eC (.bool b)) := sim_const fun _ => .bl b
theorem sim_non : SimE K W (tC .non) (eC .none) := sim_const fun _ => .non
theorem sim_op {r : R2} {b : B2} (hr : SimR2 K r b) (ha : SimE K W ta ma) (hb : SimE K W tb mb) : SimE K W (tOp r ta tb) (eOp b ma mb) := fun ρ σ S T H Qm xm Q n k o ox h =>
  ha ρ σ S T H _ xm _ n k (fun x vx S1 H1 e1 k1 rx h1 => hb ρ σ S1 T H1 _ xm _ (n.ev e1) k1 (fun y vy S2 H2 e2 k2 ry h2 => hr x y vx vy S2 T H2 Qm Q k2 (rx.ev e2) ry (o.go (e1.trans e2)) h2) (ox.go e1) h1) ox h
theorem sim_un {r : V → Hp → VK → Prop} {b : B1} (hr : SimR1 K r b) (ha : SimE K W ta ma) : SimE K W (tUn r ta) (eUn b ma) := fun ρ σ S T H Qm xm Q n k o ox h =>
  ha ρ σ S T H _ xm _ n k (fun x vx S1 H1 e1 k1 rx h1 => hr x vx S1 T H1 Qm Q k1 rx (o.go e1) h1) ox h
theorem sim_if (hc : SimT K W tA c) (ha : SimE K W ta ma) (hb : SimE K W tb mb) : SimE K W (tIf tA ta tb) (eIf c ma mb) := fun ρ σ S T H Qm xm Q n k o ox h =>
  hc ρ σ S T H _ xm _ n k (fun b S1 H1 e1 k1 h1 => by
    cases b with
    | true => exact iteT (ha ρ σ S1 T H1 Qm xm Q (n.ev e1) k1 (o.go e1) (ox.go e1) (by simpa using h1))
    | false => exact iteF (hb ρ σ S1 T H1 Qm xm Q (n.ev e1) k1 (o.go e1) (ox.go e1) (by simpa using h1))) ox h
theorem sim_nil : SimA K W tNil aNil := fun ρ σ S T H Qm xm Q n k o ox h => o [] [] S H Ev.rfl' k .nil h
theorem sim_cons (ha : SimE K W ta ma) (hr : SimA K W t m) : SimA K W (tCons ta t) (aCons ma m) := fun ρ σ S T H Qm xm Q n k o ox h =>
  ha ρ σ S T H _ xm _ n k (fun x vx S1 H1 e1 k1 rx h1 => hr ρ σ S1 T H1 _ xm _ (n.ev e1) k1 (fun rs vs S2 H2 e2 k2 rr h2 => o (x :: rs) (vx :: vs) S2 H2 (e1.trans e2) k2 (.cons (rx.ev e2) rr) h2) (ox.go e1) h1) ox h
theorem RVs.all {U : Sto} {H : Hp} {rs : List MV} {vs : List V} {xs : List PyData} (h : RVs K U H rs vs) (e : allD rs = some xs) : DpAll K (Fz U H) vs xs := by
  rw [allD_some e] at h
  exact h.data
theorem dpAll_len {H : Hp} : ∀ {vs : List V} {xs : List PyData}, DpAll K H vs xs → vs.length = xs.length
  | _, [], h => by cases h; rfl
  | _, x :: xs, h => by cases h with | cons _ t => exact congrArg (· + 1) (dpAll_len t)
/-- a new tuple, a new list of data -/
theorem new_tup {S T : Sto} {H : Hp} {p : Addr} {vs : List V} {xs : List PyData} (k : Ok K S T H) (n : H p = none) (h : DpAll K (Fz (cat S T) H) vs xs) : RV K (cat S T) (upd H p (.tup vs)) (.d (.tuple xs)) (.ref p) := by
  have u := k.rp.free n
  refine .tup (xs := vs) (.inl (.inl ?_)) (dpAll_mono (ev_new n) xs vs h)
  rw [fz_free u, upd_same]
theorem new_lst {S T : Sto} {H : Hp} {p : Addr} {vs : List V} {xs : List PyData} (k : Ok K S T H) (n : H p = none) (h : DpAll K (Fz (cat S T) H) vs xs) : RV K (cat S T) (upd H p (.lst vs)) (.d (.list xs)) (.ref p) := by
  have u := k.rp.free n
  refine .lst (xs := vs) (.inl (.inl ?_)) (dpAll_mono (ev_new n) xs vs h)
  rw [fz_free u, upd_same]
theorem Ok.newL {S T : Sto} {H : Hp} {p : Addr} {rs : List MV} {vs : List V} (k : Ok K S T H) (n : H p = none) (h : RVs K (cat S T) H rs vs) : Ok K (sset S p (.lst rs)) T (upd H p (.lst vs)) ∧ Ev (cat S T) H (cat (sset S p (.lst rs)) T) (upd H p (.lst vs)) := by
  obtain ⟨h1, h2⟩ := k.free n
  rw [cat_sset h2]
  refine ⟨⟨by rw [cat_sset h2]; exact k.rp.newL n h, fun a o e => ?_⟩, ev_newS n⟩
  have ne : a ≠ p := fun z => by rw [z, h2] at e; cases e
  rw [sset_ne ne]
  exact k.dj a o e
theorem sim_tup (h : SimA K W t m) : SimE K W (tTup t) (eTup m) := fun ρ σ S T H Qm xm Q n k o ox q =>
  h ρ σ S T H _ xm _ n k (fun rs vs S1 H1 e1 k1 rr ⟨xs, ea, hl, hq⟩ => by
    have da := rr.all ea
    refine ⟨by rw [dpAll_len da]; exact hl, fun p np => ?_⟩
    exact o _ _ S1 _ (e1.trans (ev_new np)) (k1.new np) (new_tup k1 np da) hq) ox q
theorem sim_lst (h : SimA K W t m) : SimE K W (tLst t) (eLst m) := fun ρ σ S T H Qm xm Q n k o ox q =>
  h ρ σ S T H _ xm _ n k (fun rs vs S1 H1 e1 k1 rr ⟨xs, ea, hl, hq⟩ => by
    have da := rr.all ea
    refine ⟨by rw [dpAll_len da]; exact hl, fun p np => ?_⟩
    exact o _ _ S1 _ (e1.trans (ev_new np)) (k1.new np) (new_lst k1 np da) hq) ox q
theorem sim_lstM (h : SimA K W t m) : SimE K W (tLst t) (eLstM m) := fun ρ σ S T H Qm xm Q n k o ox q =>
  h ρ σ S T H _ xm _ n k (fun rs vs S1 H1 e1 k1 rr ⟨hl, hq⟩ => by
    refine ⟨by rw [← rr.length]; exact hl, fun p np => ?_⟩
    obtain ⟨k2, e2⟩ := k1.newL np rr
    exact o (.m p) _ _ _ (e1.trans e2) k2 rfl (hq p (k1.free np).1)) ox q
theorem sim_cb {r : List V → Hp → VK → Prop} {b : BL} (hr : SimRL K r b) (h : SimA K W t m) : SimE K W (tCB r t) (eCB b m) := fun ρ σ S T H Qm xm Q n k o ox q =>
  h ρ σ S T H _ xm _ n k (fun rs vs S1 H1 e1 k1 rr h1 => hr rs vs S1 T H1 Qm Q k1 rr (o.go e1) h1) ox q
theorem sim_andV (ha : SimE K W ta ma) (hb : SimE K W tb mb) : SimE K W (tAndV ta tb) (eAndV ma mb) := fun ρ σ S T H Qm xm Q n k o ox h =>
  ha ρ σ S T H _ xm _ n k (fun x vx S1 H1 e1 k1 rx ⟨b, ex, h1⟩ => by
    subst ex
    cases rx
    refine ⟨b, rfl, ?_⟩
    cases b with
    | true => exact iteT (hb ρ σ S1 T H1 Qm xm Q (n.ev e1) k1 (o.go e1) (ox.go e1) (by simpa using h1))
    | false => exact iteF (o (.d (.bool false)) _ S1 H1 e1 k1 (Dp.bl false) (by simpa using h1))) ox h
theorem sim_orV (ha : SimE K W ta ma) (hb : SimE K W tb mb) : SimE K W (tOrV ta tb) (eOrV ma mb) := fun ρ σ S T H Qm xm Q n k o ox h =>
  ha ρ σ S T H _ xm _ n k (fun x vx S1 H1 e1 k1 rx ⟨b, ex, h1⟩ => by
    subst ex
    cases rx
    refine ⟨b, rfl, ?_⟩
    cases b with
    | true => exact iteT (o (.d (.bool true)) _ S1 H1 e1 k1 (Dp.bl true) (by simpa using h1))
    | false => exact iteF (hb ρ σ S1 T H1 Qm xm Q (n.ev e1) k1 (o.go e1) (ox.go e1) (by simpa using h1))) ox h
theorem sim_notV (ha : SimE K W ta ma) : SimE K W (tNotV ta) (eNotV ma) := fun ρ σ S T H Qm xm Q n k o ox h =>
  ha ρ σ S T H _ xm _ n k (fun x vx S1 H1 e1 k1 rx ⟨b, ex, h1⟩ => by
    subst ex
    cases rx
    exact ⟨b, rfl, o (.d (.bool (!b))) _ S1 H1 e1 k1 (Dp.bl _) h1⟩) ox h
/-! ### tests -/
theorem sim_and (hc : SimT K W tA c) (hd : SimT K W tB' d) : SimT K W (tAnd tA tB') (cAnd c d) := fun ρ σ S T H Qm xm Q n k o ox h =>
  hc ρ σ S T H _ xm _ n k (fun b S1 H1 e1 k1 h1 => by
    cases b with
    | true => exact iteT (hd ρ σ S1 T H1 Qm xm Q (n.ev e1) k1 (o.go e1) (ox.go e1) (by simpa using h1))
    | false => exact iteF (o false S1 H1 e1 k1 (by simpa using h1))) ox h
theorem sim_or (hc : SimT K W tA c) (hd : SimT K W tB' d) : SimT K W (tOr tA tB') (cOr c d) := fun ρ σ S T H Qm xm Q n k o ox h =>
  hc ρ σ S T H _ xm _ n k (fun b S1 H1 e1 k1 h1 => by
    cases b with
    | true => exact iteT (o true S1 H1 e1 k1 (by simpa using h1))
    | false => exact iteF (hd ρ σ S1 T H1 Qm xm Q (n.ev e1) k1 (o.go e1) (ox.go e1) (by simpa using h1))) ox h
theorem sim_not (hc : SimT K W tA c) : SimT K W (tNot tA) (cNot c) := fun ρ σ S T H Qm xm Q n k o ox h =>
  hc ρ σ S T H _ xm _ n k (fun b S1 H1 e1 k1 h1 => o _ S1 H1 e1 k1 h1) ox h
theorem sim_test (ha : SimE K W ta ma) : SimT K W (tTest ta) (cB ma) := fun ρ σ S T H Qm xm Q n k o ox h =>
  ha ρ σ S T H _ xm _ n k (fun x vx S1 H1 e1 k1 rx ⟨b, ex, h1⟩ => by
    subst ex
    cases rx
    exact ⟨b, rfl, o b S1 H1 e1 k1 h1⟩) ox h
theorem sim_tB (ha : SimE K W ta ma) : SimT K W (L2.tB ta) (cB ma) := sim_test ha
theorem rv_seq {S T : Sto} {H : Hp} {x : MV} {v : V} {rs : List MV} (k : Ok K S T H) (r : RV K (cat S T) H x v) (e : seqOf S x = some rs) :
    ∃ a vs, v = .ref a ∧ (SqL K H a vs ∨ SqT K H a vs) ∧ RVs K (cat S T) H rs vs := by
  cases x with
  | d x =>
    cases x with
    | list xs =>
      cases e
      cases r with
      | lst hs ha => exact ⟨_, _, rfl, .inl (fz_same.seq hs), RVs.of ha⟩
    | tuple xs =>
      cases e
      cases r with
      | tup hs ha => exact ⟨_, _, rfl, .inr (by
          rcases hs with (hs | ⟨o, hs⟩) | hs
          · exact .inl (.inl (fz_same _ _ hs))
          · exact .inl (.inr ⟨o, fz_same _ _ hs⟩)
          · exact .inr hs), RVs.of ha⟩
    | _ => cases e
  | m a =>
    cases r
    have e' : (match S a with | some (.lst xs) => some xs | _ => none) = some rs := e
    cases es : S a with
    | none => rw [es] at e'; cases e'
    | some o =>
      cases o with
      | ins C fs => rw [es] at e'; cases e'
      | lst xs =>
        rw [es] at e'
        cases e'
        have hT : T a = none := by
          cases q : T a with
          | none => rfl
          | some u => have := k.dj a u q; rw [es] at this; cases this
        obtain ⟨vs, h1, h2⟩ := k.rp.lst a _ (by rw [cat_none hT]; exact es)
        exact ⟨a, vs, rfl, .inl (.inl (.inl h1)), h2⟩
theorem empty_eq {U : Sto} {H : Hp} {rs : List MV} {vs : List V} (h : RVs K U H rs vs) : (!vs.isEmpty) = !rs.isEmpty := by
  cases h <;> rfl
theorem rv_tru {S T : Sto} {H : Hp} {x : MV} {v : V} {b : Bool} (k : Ok K S T H) (r : RV K (cat S T) H x v) (e : truV S x b) : TruV K v H b := by
  have seq : ∀ {x : MV}, RV K (cat S T) H x v → (∃ xs, seqOf S x = some xs ∧ b = !xs.isEmpty) → TruV K v H b := fun {x} r ⟨xs, e1, e2⟩ => by
    obtain ⟨a, vs, rfl, h, rr⟩ := rv_seq k r e1
    have ee := empty_eq rr
    rcases h with h | h
    · exact .inl ⟨vs, h, by rw [e2, ee]⟩
    · exact .inr (.inl ⟨vs, h, by rw [e2, ee]⟩)
  cases x with
  | m a => exact seq r e
  | d x =>
    cases x with
    | none => cases r; exact e
    | bool b' => cases r; exact e
    | int i => cases r; exact e
    | str y => cases r; exact e
    | list xs => exact seq r e
    | tuple xs => exact seq r e
    | dict kv => cases r
theorem sim_tru (ha : SimE K W ta ma) : SimT K W (fun σ H Q => ta σ H fun x H' => ∃ k, TruV K x H' k ∧ Q k H') (cTru ma) := fun ρ σ S T H Qm xm Q n k o ox h =>
  ha ρ σ S T H _ xm _ n k (fun x vx S1 H1 e1 k1 rx ⟨b, eb, h1⟩ => ⟨b, rv_tru k1 rx eb, o b S1 H1 e1 k1 h1⟩) ox h
end
end Mi
namespace Mi
open PySem PySem.Spec PyProof.Rows L2

/-! ### operators, by values -/
def lstOf (S : Sto) : MV → Option (List MV)
  | .d (.list xs) => some (xs.map .d)
  | .m a => match S a with | some (.lst xs) => some xs | _ => none
  | _ => none
/-- a value as data -/
def datOf (S : Sto) : MV → Option PyData
  | .d x => some x
  | .m a => match S a with | some (.lst xs) => (allD xs).map .list | _ => none
def bAdd : B2 := fun x y S Q => match x, y with
  | .d (.int i), .d (.int j) => Q (.d (.int (i + j))) S
  | .d (.str a), .d (.str b) => a.length + b.length ≤ sizeLine ∧ Q (.d (.str (a ++ b))) S
  | .d (.tuple a), .d (.tuple b) => a.length + b.length ≤ sizeLine ∧ Q (.d (.tuple (a ++ b))) S
  | x, y => ∃ a b c, lstOf S x = some a ∧ lstOf S y = some b ∧ a.length + b.length ≤ sizeLine ∧ allD (a ++ b) = some c ∧ Q (.d (.list c)) S
def bInt (f : Int → Int → PyData) : B2 := fun x y S Q => match x, y with
  | .d (.int i), .d (.int j) => Q (.d (f i j)) S
  | _, _ => False
def bIntC (C : Int → Int → Prop) (f : Int → Int → PyData) : B2 := fun x y S Q => match x, y with
  | .d (.int i), .d (.int j) => C i j ∧ Q (.d (f i j)) S
  | _, _ => False
abbrev bSub : B2 := bInt fun i j => .int (i - j)
abbrev bMul : B2 := bIntC CMul fun i j => .int (i * j)
abbrev bFdiv : B2 := bIntC CDiv fun i j => .int (i / j)
abbrev bMod : B2 := bIntC (fun _ j => 0 < j) fun i j => .int (i % j)
abbrev bLt : B2 := bInt fun i j => .bool (decide (i < j))
abbrev bLe : B2 := bInt fun i j => .bool (decide (i ≤ j))
abbrev bGt : B2 := bInt fun i j => .bool (decide (j < i))
abbrev bGe : B2 := bInt fun i j => .bool (decide (j ≤ i))
def bEq : B2 := fun x y S Q => match x, y with
  | .d (.str z), .d (.str w) => Q (.d (.bool (decide (z = w)))) S
  | .d (.int i), .d (.int j) => Q (.d (.bool (decide (i = j)))) S
  | x, y => ∃ a b, datOf S x = some a ∧ datOf S y = some b ∧ SeqAt.shaped a = true ∧ SeqAt.shaped b = true ∧ Q (.d (.bool (PyData.eqv a b))) S
def bNe : B2 := fun x y S Q => match x, y with
  | .d (.str z), .d (.str w) => Q (.d (.bool (!decide (z = w)))) S
  | .d (.int i), .d (.int j) => Q (.d (.bool (!decide (i = j)))) S
  | x, y => ∃ a b, datOf S x = some a ∧ datOf S y = some b ∧ SeqAt.shaped a = true ∧ SeqAt.shaped b = true ∧ Q (.d (.bool (!PyData.eqv a b))) S
def isNone : MV → Bool
  | .d .none => true
  | _ => false
def bIs : B2 := fun x y S Q => match y with
  | .d .none => Q (.d (.bool (isNone x))) S
  | .d (.bool b) => ∃ a, x = .d (.bool a) ∧ Q (.d (.bool (decide (a = b)))) S
  | _ => False
def bIsN : B2 := fun x y S Q => match y with
  | .d .none => Q (.d (.bool (!isNone x))) S
  | .d (.bool b) => ∃ a, x = .d (.bool a) ∧ Q (.d (.bool (!decide (a = b)))) S
  | _ => False
def bIx : B2 := fun x y S Q => match x, y with
  | .d (.str z), .d (.int i) => z.length ≤ sizeLine ∧ ∃ c, atI z.cps.toList i = some c ∧ Q (.d (.str ⟨#[c]⟩)) S
  | x, .d (.int i) => ∃ xs v, seqOf S x = some xs ∧ atI xs i = some v ∧ Q v S
  | _, _ => False
def bNeg : B1 := fun x S Q => match x with
  | .d (.int i) => Q (.d (.int (-i))) S
  | _ => False

section
variable {K : PySem.W.Frag}
theorem fz_dp {U : Sto} {H : Hp} {x : PyData} {v : V} (h : Dp K (Fz U H) v x) : Dp K H v x := dp_mono fz_same x v h
theorem rv_lst {S T : Sto} {H : Hp} {x : MV} {v : V} {rs : List MV} (k : Ok K S T H) (r : RV K (cat S T) H x v) (e : lstOf S x = some rs) :
    ∃ a vs, v = .ref a ∧ SqL K H a vs ∧ RVs K (cat S T) H rs vs := by
  cases x with
  | d x =>
    cases x with
    | list xs =>
      cases e
      cases r with
      | lst hs ha => exact ⟨_, _, rfl, fz_same.seq hs, RVs.of ha⟩
    | _ => cases e
  | m a =>
    cases r
    have e' : (match S a with | some (.lst xs) => some xs | _ => none) = some rs := e
    cases es : S a with
    | none => rw [es] at e'; cases e'
    | some o =>
      cases o with
      | ins C fs => rw [es] at e'; cases e'
      | lst xs =>
        rw [es] at e'
        cases e'
        have hT : T a = none := by
          cases q : T a with
          | none => rfl
          | some u => have := k.dj a u q; rw [es] at this; cases this
        obtain ⟨vs, h1, h2⟩ := k.rp.lst a _ (by rw [cat_none hT]; exact es)
        exact ⟨a, vs, rfl, .inl (.inl h1), h2⟩
theorem rv_dat {S T : Sto} {H : Hp} {x : MV} {v : V} {c : PyData} (k : Ok K S T H) (r : RV K (cat S T) H x v) (e : datOf S x = some c) : Dp K H v c := by
  cases x with
  | d x =>
    cases e
    exact fz_dp r
  | m a =>
    cases r
    have e' : (match S a with | some (.lst xs) => (allD xs).map .list | _ => none) = some c := e
    cases es : S a with
    | none => rw [es] at e'; cases e'
    | some o =>
      cases o with
      | ins C fs => rw [es] at e'; cases e'
      | lst xs =>
        rw [es] at e'
        have e2 : (allD xs).map PyData.list = some c := e'
        cases ea : allD xs with
        | none => rw [ea] at e2; cases e2
        | some ys =>
          rw [ea] at e2
          cases e2
          have hT : T a = none := by
            cases q : T a with
            | none => rfl
            | some u => have := k.dj a u q; rw [es] at this; cases this
          obtain ⟨vs, h1, h2⟩ := k.rp.lst a _ (by rw [cat_none hT]; exact es)
          exact .lst (.inl (.inl h1)) (dpAll_mono fz_same ys vs (h2.all ea))
theorem sim_int0 {g : Int → Int → V} {f : Int → Int → PyData} (h : ∀ i j H, Dp K H (g i j) (f i j)) : SimR2 K (rI0 g) (bInt f) := fun x y vx vy S T H Qm Q k rx ry o q => by
  unfold bInt at q
  split at q
  · cases rx; cases ry
    exact ⟨_, _, rfl, rfl, o (.d _) _ S H Ev.rfl' k (h _ _ _) q⟩
  · exact q.elim
theorem sim_intC {C : Int → Int → Prop} {g : Int → Int → V} {f : Int → Int → PyData} (h : ∀ i j H, Dp K H (g i j) (f i j)) : SimR2 K (rI C g) (bIntC C f) := fun x y vx vy S T H Qm Q k rx ry o q => by
  unfold bIntC at q
  split at q
  · cases rx; cases ry
    exact ⟨_, _, rfl, rfl, q.1, o (.d _) _ S H Ev.rfl' k (h _ _ _) q.2⟩
  · exact q.elim
theorem sim_sub : SimR2 K (rI0 fun i j => .int (i - j)) bSub := sim_int0 fun _ _ _ => .int _
theorem sim_mul : SimR2 K (rI CMul fun i j => .int (i * j)) bMul := sim_intC fun _ _ _ => .int _
theorem sim_fdiv : SimR2 K (rI CDiv fun i j => .int (i / j)) bFdiv := sim_intC fun _ _ _ => .int _
theorem sim_mod : SimR2 K (rI (fun _ j => 0 < j) fun i j => .int (i % j)) bMod := sim_intC fun _ _ _ => .int _
theorem sim_lt : SimR2 K (rI0 fun i j => .bl (decide (i < j))) bLt := sim_int0 fun _ _ _ => .bl _
theorem sim_le : SimR2 K (rI0 fun i j => .bl (decide (i ≤ j))) bLe := sim_int0 fun _ _ _ => .bl _
theorem sim_gt : SimR2 K (rI0 fun i j => .bl (decide (j < i))) bGt := sim_int0 fun _ _ _ => .bl _
theorem sim_ge : SimR2 K (rI0 fun i j => .bl (decide (j ≤ i))) bGe := sim_int0 fun _ _ _ => .bl _
def rEqA (K : PySem.W.Frag) : R2 := fun x y H Q => rEq x y H Q ∨ rEqD K x y H Q
def rNeA (K : PySem.W.Frag) : R2 := fun x y H Q => rNe x y H Q ∨ rNeD K x y H Q
theorem op_eqA {X : Cx} (hu : X.A.units + 64 < cLine) : OpR X (compareOp .Eq) (rEqA X.K) := op_eq.or (op_eqD hu)
theorem op_neA {X : Cx} (hu : X.A.units + 64 < cLine) : OpR X (compareOp .NotEq) (rNeA X.K) := op_ne.or (op_neD hu)
theorem v_str {z w : Str} : decide (V.str z = V.str w) = decide (z = w) := decide_eq_decide.mpr ⟨fun e => V.str.inj e, fun e => by rw [e]⟩
theorem v_int {i j : Int} : decide (V.int i = V.int j) = decide (i = j) := decide_eq_decide.mpr ⟨fun e => V.int.inj e, fun e => by rw [e]⟩
theorem sim_eq : SimR2 K (rEqA K) bEq := fun x y vx vy S T H Qm Q k rx ry o q => by
  unfold bEq at q
  split at q
  · cases rx; cases ry
    refine .inl ⟨rfl, ?_⟩
    rw [v_str]
    exact o (.d (.bool _)) _ S H Ev.rfl' k (Dp.bl _) q
  · cases rx; cases ry
    refine .inl ⟨rfl, ?_⟩
    rw [v_int]
    exact o (.d (.bool _)) _ S H Ev.rfl' k (Dp.bl _) q
  · obtain ⟨a, b, ea, eb, sa, sb, q⟩ := q
    exact .inr ⟨a, b, rv_dat k rx ea, rv_dat k ry eb, sa, sb, o (.d (.bool _)) _ S H Ev.rfl' k (Dp.bl _) q⟩
theorem sim_ne : SimR2 K (rNeA K) bNe := fun x y vx vy S T H Qm Q k rx ry o q => by
  unfold bNe at q
  split at q
  · cases rx; cases ry
    refine .inl ⟨rfl, ?_⟩
    rw [v_str]
    exact o (.d (.bool _)) _ S H Ev.rfl' k (Dp.bl _) q
  · cases rx; cases ry
    refine .inl ⟨rfl, ?_⟩
    rw [v_int]
    exact o (.d (.bool _)) _ S H Ev.rfl' k (Dp.bl _) q
  · obtain ⟨a, b, ea, eb, sa, sb, q⟩ := q
    exact .inr ⟨a, b, rv_dat k rx ea, rv_dat k ry eb, sa, sb, o (.d (.bool _)) _ S H Ev.rfl' k (Dp.bl _) q⟩
theorem rv_none {U : Sto} {H : Hp} {x : MV} {v : V} (r : RV K U H x v) : decide (v = .non) = isNone x := by
  cases x with
  | m a => cases r; rfl
  | d x =>
    cases x <;> cases r <;> rfl
def rIsA : R2 := fun x y H Q => (y = .non ∧ Q (.bl (decide (x = .non))) H) ∨ ∃ a b, x = .bl a ∧ y = .bl b ∧ Q (.bl (decide (a = b))) H
def rIsNA : R2 := fun x y H Q => (y = .non ∧ Q (.bl (!decide (x = .non))) H) ∨ ∃ a b, x = .bl a ∧ y = .bl b ∧ Q (.bl (!decide (a = b))) H
theorem op_isA {X : Cx} : OpR X (compareOp .Is) rIsA := op_isN.or op_isBl
theorem op_isNA {X : Cx} : OpR X (compareOp .IsNot) rIsNA := op_notN.or op_notBl
theorem sim_is : SimR2 K rIsA bIs := fun x y vx vy S T H Qm Q k rx ry o q => by
  unfold bIs at q
  split at q
  · cases ry
    refine .inl ⟨rfl, ?_⟩
    rw [rv_none rx]
    exact o (.d (.bool _)) _ S H Ev.rfl' k (Dp.bl _) q
  · obtain ⟨a, rfl, q⟩ := q
    cases rx; cases ry
    exact .inr ⟨_, _, rfl, rfl, o (.d (.bool _)) _ S H Ev.rfl' k (Dp.bl _) q⟩
  · exact q.elim
theorem sim_isN : SimR2 K rIsNA bIsN := fun x y vx vy S T H Qm Q k rx ry o q => by
  unfold bIsN at q
  split at q
  · cases ry
    refine .inl ⟨rfl, ?_⟩
    rw [rv_none rx]
    exact o (.d (.bool _)) _ S H Ev.rfl' k (Dp.bl _) q
  · obtain ⟨a, rfl, q⟩ := q
    cases rx; cases ry
    exact .inr ⟨_, _, rfl, rfl, o (.d (.bool _)) _ S H Ev.rfl' k (Dp.bl _) q⟩
  · exact q.elim

/-! ### + -/
def rCatL (K : PySem.W.Frag) : R2 := fun x y H Q => ∃ l b xs zs, x = .ref l ∧ y = .ref b ∧ SqL K H l xs ∧ SqL K H b zs ∧ xs.length + zs.length ≤ sizeLine ∧ ∀ p, H p = none → Q (.ref p) (upd H p (.lst (xs ++ zs)))
theorem op_catL {X : Cx} : OpR X (binaryOp .Add) (rCatL X.K) := by
  intro pins s σ H x y v u Q I rx ry h
  obtain ⟨l, b, xs, zs, rfl, rfl, hl, hb, hz, q⟩ := h
  cases rx
  cases ry
  obtain ⟨its, r1, p1, _⟩ := I.list hl
  obtain ⟨its2, r2, p2, _⟩ := I.list hb
  obtain ⟨⟨c1, d1, t1, s1⟩, n1, g1, e1, _, e2⟩ := p1
  obtain ⟨⟨c2, d2, t2, s2⟩, n2, g2, e3, _, e4⟩ := p2
  simp only at e1 e2 e3 e4
  subst e1 e2 e3 e4
  have h1 := r1.length
  have h2 := r2.length
  refine concat_meets ⟨_, g1, rfl⟩ ⟨_, g2, rfl⟩ noFill_list_add seq_list_add PySem.F.slot_list_add PySem.F.entry_list_add (PySem.F.args_list_add_2 _ _)
    (list_addW l b its.toArray its2.toArray n1 n2 d1 d2 s1 s2 (by rw [List.size_toArray, List.size_toArray]; omega)) ⟨g1, g2, ?_⟩
  rw [show its.toArray ++ its2.toArray = (its ++ its2).toArray by simp]
  exact ⟨.ref _, _, I.lnew (t' := s.toks) (r1.append r2) (by rw [List.length_append]; omega), rfl, q _ I.fresh⟩
def rAddA (K : PySem.W.Frag) : R2 := fun x y H Q => rI0 (fun i j => .int (i + j)) x y H Q ∨
  ((∃ i j, x = .str i ∧ y = .str j ∧ i.length + j.length ≤ sizeLine ∧ Q (.str (i ++ j)) H) ∨ (rCatL K x y H Q ∨ rCatA K x y H Q))
theorem op_addA {X : Cx} : OpR X (binaryOp .Add) (rAddA X.K) := op_add.or (op_add_str.or (op_catL.or op_catA))
theorem dpAll_append {H : Hp} : ∀ {vs ws : List V} {xs ys : List PyData}, DpAll K H vs xs → DpAll K H ws ys → DpAll K H (vs ++ ws) (xs ++ ys)
  | _, _, [], _, h, h' => by cases h; exact h'
  | _, _, x :: xs, _, h, h' => by cases h with | cons a b => exact .cons a (dpAll_append b h')
theorem fz_tup {U : Sto} {H : Hp} {a : Addr} {xs : List V} (h : SqT K (Fz U H) a xs) : SqT K H a xs := by
  rcases h with (h | ⟨o, h⟩) | h
  · exact .inl (.inl (fz_same _ _ h))
  · exact .inl (.inr ⟨o, fz_same _ _ h⟩)
  · exact .inr h
theorem sim_addA : SimR2 K (rAddA K) bAdd := fun x y vx vy S T H Qm Q k rx ry o q => by
  unfold bAdd at q
  split at q
  · cases rx; cases ry
    exact .inl ⟨_, _, rfl, rfl, o (.d (.int _)) _ S H Ev.rfl' k (Dp.int _) q⟩
  · cases rx; cases ry
    exact .inr (.inl ⟨_, _, rfl, rfl, q.1, o (.d (.str _)) _ S H Ev.rfl' k (Dp.str _) q.2⟩)
  · rename_i a b
    obtain ⟨hz, q⟩ := q
    cases rx with
    | tup h1 a1 =>
      cases ry with
      | tup h2 a2 =>
        have l1 := dpAll_len a1
        have l2 := dpAll_len a2
        refine .inr (.inr (.inr ⟨_, _, _, _, rfl, rfl, fz_tup h1, fz_tup h2, by omega, fun e => ?_, fun _ e => ?_, fun _ _ p np => ?_⟩))
        · subst e
          cases a1
          exact o (.d _) _ S H Ev.rfl' k (Dp.tup h2 a2) q
        · subst e
          cases a2
          rw [List.append_nil] at q
          exact o (.d _) _ S H Ev.rfl' k (Dp.tup h1 a1) q
        · exact o _ _ S _ (ev_new np) (k.new np) (new_tup k np (dpAll_append a1 a2)) q
  · obtain ⟨a, b, c, ea, eb, hz, ec, q⟩ := q
    obtain ⟨p1, v1, rfl, h1, r1⟩ := rv_lst k rx ea
    obtain ⟨p2, v2, rfl, h2, r2⟩ := rv_lst k ry eb
    have l1 := r1.length
    have l2 := r2.length
    refine .inr (.inr (.inl ⟨p1, p2, v1, v2, rfl, rfl, h1, h2, by omega, fun p np => ?_⟩))
    exact o _ _ S _ (ev_new np) (k.new np) (new_lst k np ((r1.append r2).all ec)) q

/-! ### subscripts -/
theorem rvs_at {U : Sto} {H : Hp} {rs : List MV} {vs : List V} {i : Int} {r : MV} (h : RVs K U H rs vs) (e : atI rs i = some r) : ∃ v, atI vs i = some v ∧ RV K U H r v := by
  unfold atI at e ⊢
  rw [← h.length]
  cases q : ixN rs.length i with
  | none => rw [q] at e; cases e
  | some j =>
    rw [q] at e
    exact h.get e
theorem sim_ix : SimR2 K (rIx K) bIx := fun x y vx vy S T H Qm Q k rx ry o q => by
  unfold bIx at q
  split at q
  · cases rx; cases ry
    obtain ⟨hz, c, hc, q⟩ := q
    exact .inr (.inr ⟨_, _, c, rfl, rfl, hz, hc, o (.d (.str _)) _ S H Ev.rfl' k (Dp.str _) q⟩)
  · cases ry
    obtain ⟨xs, r, e, ea, q⟩ := q
    obtain ⟨a, vs, rfl, h, rr⟩ := rv_seq k rx e
    obtain ⟨v, ev, rv⟩ := rvs_at rr ea
    rcases h with h | h
    · exact .inl ⟨a, vs, _, v, rfl, rfl, h, ev, o r v S H Ev.rfl' k rv q⟩
    · exact .inr (.inl ⟨a, vs, _, v, rfl, rfl, h, ev, o r v S H Ev.rfl' k rv q⟩)
  · exact q.elim

/-! ### built-ins -/
def lenV (S : Sto) : MV → Nat → Prop
  | .d (.str z), n => z.length ≤ sizeLine ∧ n = z.length
  | x, n => ∃ xs, seqOf S x = some xs ∧ n = xs.length
def bLen : BL := fun xs S Q => match xs with
  | [x] => ∃ n : Nat, lenV S x n ∧ Q (.d (.int n)) S
  | _ => False
theorem sim_len : SimRL K (fun xs H Q => ∃ x n, xs = [x] ∧ LenV K x H n ∧ Q (.int n) H) bLen := fun xs vs S T H Qm Q k r o q => by
  unfold bLen at q
  split at q
  · obtain ⟨n, hn, q⟩ := q
    cases r with
    | cons rx rt =>
      cases rt
      refine ⟨_, n, rfl, ?_, o (.d (.int n)) _ S H Ev.rfl' k (Dp.int n) q⟩
      rename_i x v
      have seq : (∃ ys, seqOf S x = some ys ∧ n = ys.length) → LenV K v H n := fun ⟨ys, e, en⟩ => by
        obtain ⟨a, ws, rfl, h, rr⟩ := rv_seq k rx e
        rcases h with h | h
        · exact .inl ⟨ws, h, by rw [en, rr.length]⟩
        · exact .inr ⟨ws, h, by rw [en, rr.length]⟩
      cases x with
      | m a => exact seq hn
      | d x =>
        cases x with
        | str z => cases rx; exact hn
        | none => exact seq hn
        | bool _ => exact seq hn
        | int _ => exact seq hn
        | list _ => exact seq hn
        | tuple _ => exact seq hn
        | dict _ => exact seq hn
  · exact q.elim
def bIntOf : BL := fun xs S Q => match xs with
  | [.d (.int i)] => Q (.d (.int i)) S
  | [.d (.bool b)] => Q (.d (.int (if b then 1 else 0))) S
  | _ => False
theorem sim_intOf : SimRL K (fun xs H Q => (∃ i, xs = [.int i] ∧ Q (.int i) H) ∨ ∃ k, xs = [.bl k] ∧ Q (.int (if k then 1 else 0)) H) bIntOf := fun xs vs S T H Qm Q k r o q => by
  unfold bIntOf at q
  split at q
  · cases r with
    | cons rx rt => cases rt; cases rx; exact .inl ⟨_, rfl, o (.d (.int _)) _ S H Ev.rfl' k (Dp.int _) q⟩
  · cases r with
    | cons rx rt => cases rt; cases rx; exact .inr ⟨_, rfl, o (.d (.int _)) _ S H Ev.rfl' k (Dp.int _) q⟩
  · exact q.elim
def b2Int (f : Int → Int → Int) : BL := fun xs S Q => match xs with
  | [.d (.int i), .d (.int j)] => Q (.d (.int (f i j))) S
  | _ => False
theorem sim_b2 {f : Int → Int → Int} : SimRL K (fun xs H Q => ∃ i j, xs = [.int i, .int j] ∧ Q (.int (f i j)) H) (b2Int f) := fun xs vs S T H Qm Q k r o q => by
  unfold b2Int at q
  split at q
  · cases r with
    | cons rx rt => cases rt with | cons ry rt => cases rt; cases rx; cases ry; exact ⟨_, _, rfl, o (.d (.int _)) _ S H Ev.rfl' k (Dp.int _) q⟩
  · exact q.elim
def bools : List MV → Option (List Bool)
  | [] => some []
  | .d (.bool b) :: r => (bools r).map (b :: ·)
  | _ => none
theorem bools_map : ∀ bs : List Bool, bools (bs.map fun b => MV.d (.bool b)) = some bs
  | [] => rfl
  | b :: bs => by show (bools (bs.map fun b => MV.d (.bool b))).map (b :: ·) = _; rw [bools_map bs]; rfl
theorem bools_rv {U : Sto} {H : Hp} : ∀ {rs : List MV} {bs : List Bool} {vs : List V}, bools rs = some bs → RVs K U H rs vs → vs = bs.map V.bl
  | [], bs, _, e, h => by cases e; cases h; rfl
  | .m _ :: _, _, _, e, h => by cases e
  | .d x :: r, bs, _, e, h => by
    cases x with
    | bool b =>
      have e' : (bools r).map (b :: ·) = some bs := e
      cases q : bools r with
      | none => rw [q] at e'; cases e'
      | some cs =>
        rw [q] at e'
        cases e'
        cases h with
        | cons h1 h2 => cases h1; rw [bools_rv q h2]; rfl
    | _ => cases e
def bAll : BL := fun xs S Q => match xs with
  | [x] => ∃ rs bs, lstOf S x = some rs ∧ bools rs = some bs ∧ Q (.d (.bool (bs.all id))) S
  | _ => False
theorem sim_all : SimRL K (rAll K) bAll := fun xs vs S T H Qm Q k r o q => by
  unfold bAll at q
  split at q
  · obtain ⟨rs, bs, e, eb, q⟩ := q
    cases r with
    | cons rx rt =>
      cases rt
      obtain ⟨a, ws, rfl, h, rr⟩ := rv_lst k rx e
      have ew := bools_rv eb rr
      subst ew
      exact ⟨a, bs, rfl, h, o (.d (.bool _)) _ S H Ev.rfl' k (Dp.bl _) q⟩
  · exact q.elim
def bAny : BL := fun xs S Q => match xs with
  | [x] => ∃ rs bs, lstOf S x = some rs ∧ bools rs = some bs ∧ Q (.d (.bool (bs.any id))) S
  | _ => False
theorem sim_any : SimRL K (rAny K) bAny := fun xs vs S T H Qm Q k r o q => by
  unfold bAny at q
  split at q
  · obtain ⟨rs, bs, e, eb, q⟩ := q
    cases r with
    | cons rx rt =>
      cases rt
      obtain ⟨a, ws, rfl, h, rr⟩ := rv_lst k rx e
      have ew := bools_rv eb rr
      subst ew
      exact ⟨a, bs, rfl, h, o (.d (.bool _)) _ S H Ev.rfl' k (Dp.bl _) q⟩
  · exact q.elim
def tupOf : MV → Option (List PyData)
  | .d (.tuple xs) => some xs
  | _ => none
/-- tuple(x) -/
def bTuple : BL := fun xs S Q => match xs with
  | [.d (.tuple ys)] => Q (.d (.tuple ys)) S
  | [x] => ∃ rs ys, lstOf S x = some rs ∧ allD rs = some ys ∧ Q (.d (.tuple ys)) S
  | _ => False
theorem sim_tuple : SimRL K (fun xs H Q => ∃ p ys, xs = [.ref p] ∧ ((SqL K H p ys ∧ ∀ l, H l = none → Q (.ref l) (upd H l (.tup ys))) ∨ (SqT K H p ys ∧ Q (.ref p) H))) bTuple := fun xs vs S T H Qm Q k r o q => by
  unfold bTuple at q
  split at q
  · cases r with
    | cons rx rt =>
      cases rt
      cases rx with
      | tup h1 a1 => exact ⟨_, _, rfl, .inr ⟨fz_tup h1, o (.d _) _ S H Ev.rfl' k (Dp.tup h1 a1) q⟩⟩
  · obtain ⟨rs, ys, e, ea, q⟩ := q
    cases r with
    | cons rx rt =>
      cases rt
      obtain ⟨a, ws, rfl, h, rr⟩ := rv_lst k rx e
      exact ⟨a, ws, rfl, .inl ⟨h, fun l nl => o _ _ S _ (ev_new nl) (k.new nl) (new_tup k nl (rr.all ea)) q⟩⟩
  · exact q.elim
/-- list(x): a new list, never changed; one that will be -/
def bList : BL := fun xs S Q => match xs with
  | [x] => ∃ rs ys, seqOf S x = some rs ∧ allD rs = some ys ∧ Q (.d (.list ys)) S
  | _ => False
def bListM : BL := fun xs S Q => match xs with
  | [x] => ∃ rs, seqOf S x = some rs ∧ ∀ p, S p = none → Q (.m p) (sset S p (.lst rs))
  | _ => False
theorem sim_list : SimRL K (fun xs H Q => ∃ p ys, xs = [.ref p] ∧ (SqL K H p ys ∨ SqT K H p ys) ∧ ∀ l, H l = none → Q (.ref l) (upd H l (.lst ys))) bList := fun xs vs S T H Qm Q k r o q => by
  unfold bList at q
  split at q
  · obtain ⟨rs, ys, e, ea, q⟩ := q
    cases r with
    | cons rx rt =>
      cases rt
      obtain ⟨a, ws, rfl, h, rr⟩ := rv_seq k rx e
      exact ⟨a, ws, rfl, h, fun l nl => o _ _ S _ (ev_new nl) (k.new nl) (new_lst k nl (rr.all ea)) q⟩
  · exact q.elim
theorem sim_listM : SimRL K (fun xs H Q => ∃ p ys, xs = [.ref p] ∧ (SqL K H p ys ∨ SqT K H p ys) ∧ ∀ l, H l = none → Q (.ref l) (upd H l (.lst ys))) bListM := fun xs vs S T H Qm Q k r o q => by
  unfold bListM at q
  split at q
  · obtain ⟨rs, e, q⟩ := q
    cases r with
    | cons rx rt =>
      cases rt
      obtain ⟨a, ws, rfl, h, rr⟩ := rv_seq k rx e
      refine ⟨a, ws, rfl, h, fun l nl => ?_⟩
      obtain ⟨k2, e2⟩ := k.newL nl rr
      exact o (.m l) _ _ _ e2 k2 rfl (q l (k.free nl).1)
  · exact q.elim
end

/-! ### repr of data: where no repr is under way -/
def Fine (x : PyData) : Prop := x.canLay0 = true ∧ x.depth ≤ 64 ∧ x.showable = true ∧ x.shown.length ≤ sizeLine
def rRepr (K : PySem.W.Frag) : List V → Hp → VK → Prop := fun xs H Q => ∃ v x, xs = [v] ∧ Dp K H v x ∧ Fine x ∧ Q (.str x.shown) H
theorem call_repr {X : Cx} (hg : X.A.guards = some []) (hu : X.A.units + 70 < cLine) : CallR X (.builtin "repr") (rRepr X.K) := by
  intro pins s σ H xs us Q I r h
  obtain ⟨v, x, rfl, hd, ⟨f1, f2, f3, f4⟩, q⟩ := h
  obtain ⟨u, rfl, rv⟩ := vals1 r
  obtain ⟨as, rd⟩ := Dp.reads I x v u hd rv
  have far : ∀ {a : Addr}, Reads s.heap (.ref a) x as → wpAny (model X.prog X.w) X.A (call (.builtin "repr") [.ref a]) (EP X pins σ Q) X.xe s := fun rd =>
    repr_of_reads' rd f3 (PyData.noDict_hsm (PyData.hasDict_of_canLay x f1)) hg (by omega) (fun _ _ e => e)
      (fun h' u tk hk => ⟨.str x.shown, H, I.kept (t' := tk) hk, ⟨_, rfl⟩, q⟩) f4
  cases x with
  | none => cases hd; cases rv; exact PySem.P.repr_of_none ⟨.str _, H, I.tok _, ⟨_, rfl⟩, q⟩
  | bool b => cases hd; cases rv; exact PySem.P.repr_of_bool ⟨.str _, H, I.tok _, ⟨_, rfl⟩, q⟩
  | int i => cases hd; obtain ⟨t, rfl⟩ := rv; exact PySem.P.repr_of_int (of_decide_eq_true f3) ⟨.str _, H, I.tok _, ⟨_, rfl⟩, q⟩
  | str z => cases hd; obtain ⟨t, rfl⟩ := rv; exact PySem.P.repr_of_str ⟨.str _, H, I.tok _, ⟨_, rfl⟩, q⟩ f4
  | list ys => cases hd; cases rv; exact far rd
  | tuple ys => cases hd; cases rv; exact far rd
  | dict _ => cases hd
def bRepr : BL := fun xs S Q => match xs with
  | [v] => ∃ x, datOf S v = some x ∧ Fine x ∧ Q (.d (.str x.shown)) S
  | _ => False
theorem sim_repr {K : PySem.W.Frag} : SimRL K (rRepr K) bRepr := fun xs vs S T H Qm Q k r o q => by
  unfold bRepr at q
  split at q
  · obtain ⟨x, e, f, q⟩ := q
    cases r with
    | cons rx rt =>
      cases rt
      exact ⟨_, x, rfl, rv_dat k rx e, f, o (.d (.str _)) _ S H Ev.rfl' k (Dp.str _) q⟩
  · exact q.elim
end Mi
namespace Mi
open PySem PySem.Spec PyProof.Rows L2

/-! ### what is walked -/
structure MIt where
  items : List MV
  ok : Sto → Prop
abbrev CI := Ro → Sto → (MIt → Sto → Prop) → QX → Prop
def Wk (K : PySem.W.Frag) (it : MIt) (J : It) (U0 : Sto) (H0 : Hp) : Prop := ∃ G Y, Walk J it.items.length G Y ∧
  (∀ S T H, Ev U0 H0 (cat S T) H → Ok K S T H → it.ok S → G H) ∧
  ∀ S T H i x H', Ev U0 H0 (cat S T) H → Ok K S T H → it.ok S → i < it.items.length → Y i H x H' →
    Ev (cat S T) H (cat S T) H' ∧ Ok K S T H' ∧ (∀ a o, H a = some o → H' a = some o) ∧ ∃ r, it.items[i]? = some r ∧ RV K (cat S T) H' r x
def SimI (K : PySem.W.Frag) (W : WX) (wi : TI) (mi : CI) : Prop := ∀ ρ σ S T H (Qm : MIt → Sto → Prop) xm R, En K (cat S T) H ρ σ → Ok K S T H →
  (∀ it J S' H', Ev (cat S T) H (cat S' T) H' → Ok K S' T H' → Wk K it J (cat S' T) H' → Qm it S' → R J H') → OutX K S T H xm (fun c d H' => W c d σ H') → mi ρ S Qm xm → wi σ H R
def okOf (r : MV) (xs : List MV) : Sto → Prop := match r with
  | .m a => fun S => S a = some (.lst xs)
  | _ => fun _ => True
def iSeq (me : CE) : CI := fun ρ S Q X => me ρ S (fun r S1 => match r with
  | .d (.str z) => Q ⟨z.cps.toList.map fun c => .d (.str ⟨#[c]⟩), fun _ => True⟩ S1
  | r => ∃ xs, seqOf S1 r = some xs ∧ (xs.length ≤ sizeLine → Q ⟨xs, okOf r xs⟩ S1)) X
def rng (lo : Int) (n : Nat) : List MV := (List.range n).map fun i => .d (.int (lo + (i : Nat)))
theorem rng_length (lo : Int) (n : Nat) : (rng lo n).length = n := by unfold rng; rw [List.length_map, List.length_range]
theorem rng_get {lo : Int} {n i : Nat} (h : i < n) : (rng lo n)[i]? = some (.d (.int (lo + i))) := by
  unfold rng
  rw [List.getElem?_map, List.getElem?_range h]
  rfl
def iRange1 (ma : CA) : CI := fun ρ S Q X => ma ρ S (fun rs S1 => match rs with
  | [.d (.int j)] => -(2 ^ 62) ≤ j ∧ j < 2 ^ 62 ∧ Q ⟨rng 0 j.toNat, fun _ => True⟩ S1
  | _ => False) X
def iRange2 (ma : CA) : CI := fun ρ S Q X => ma ρ S (fun rs S1 => match rs with
  | [.d (.int i), .d (.int j)] => (-(2 ^ 62) ≤ i ∧ i < 2 ^ 62 ∧ -(2 ^ 62) ≤ j ∧ j < 2 ^ 62) ∧ Q ⟨rng i (j - i).toNat, fun _ => True⟩ S1
  | _ => False) X
def zipD (xs ys : List PyData) : List MV := (List.zip xs ys).map fun p => .d (.tuple [p.1, p.2])
/-- zip of two lists, or of two tuples, of data -/
def iZip2 (ma : CA) : CI := fun ρ S Q X => ma ρ S (fun rs S1 => match rs with
  | [.d (.tuple xs), .d (.tuple ys)] => Q ⟨zipD xs ys, fun _ => True⟩ S1
  | [.d (.list xs), .d (.list ys)] => Q ⟨zipD xs ys, fun _ => True⟩ S1
  | _ => False) X

def iSeqA (K : PySem.W.Frag) (tl : TE) : TI := fun σ H R => tl σ H fun x H1 => (∃ a xs, x = .ref a ∧ SqL K H1 a xs ∧ (xs.length ≤ sizeLine → R (Itl K a) H1)) ∨ (∃ a xs, x = .ref a ∧ SqT K H1 a xs ∧ (xs.length ≤ sizeLine → R (Itt K a) H1)) ∨ ∃ z, x = .str z ∧ R (Its z) H1
theorem pi_seqA {X : Cx} {tg l : Expr} {tl : TE} (hl : PE X l tl) : PI X tg l (iSeqA X.K tl) := by
  constructor
  intro pins s σ H R I h
  refine thn (hl.run pins s σ H _ I h) ?_
  rintro v s1 ⟨x, H1, I1, r1, q1⟩
  rcases q1 with ⟨a, xs, rfl, hq, q⟩ | ⟨a, xs, rfl, hq, q⟩ | ⟨z, rfl, q⟩
  · cases r1
    obtain ⟨its, _, p, hz⟩ := I1.list hq
    exact wpAny_pyIter_list p.isList (pi_one (tk := s1.toks) I1 _ (turn_list a _) ⟨_, Heap.get?_push_size _ rfl, rfl, rfl⟩ (q hz))
  · cases r1
    obtain ⟨its, _, p, hz⟩ := I1.tuple hq
    exact wpAny_pyIter_tuple (show s1.heap.IsTuple a its.toArray from p) (pi_one (tk := s1.toks) I1 _ (turn_tuple a _) ⟨_, Heap.get?_push_size _ rfl, rfl, rfl⟩ (q hz))
  · obtain ⟨t, rfl⟩ := r1
    cases ha : z.cps.all (· < 128) with
    | false => exact wpAny_pyIter_wide ha (pi_one (tk := s1.toks) I1 _ (turn_str _ z t "str_iterator" (.inr rfl)) ⟨_, Heap.get?_push_size _ rfl, rfl, rfl⟩ q)
    | true => exact wpAny_pyIter_ascii ha (pi_one (tk := s1.toks) I1 _ (turn_str _ z t "str_ascii_iterator" (.inl rfl)) ⟨_, Heap.get?_push_size _ rfl, rfl, rfl⟩ q)

section
variable {K : PySem.W.Frag} {W : WX}
/-- the walk of a sequence of the mirror -/
theorem wk_seq {S T : Sto} {H : Hp} {r : MV} {v : V} {rs : List MV} (k : Ok K S T H) (rv : RV K (cat S T) H r v) (e : seqOf S r = some rs) :
    ∃ a vs, v = .ref a ∧ vs.length = rs.length ∧ ((SqL K H a vs ∧ Wk K ⟨rs, okOf r rs⟩ (Itl K a) (cat S T) H) ∨ (SqT K H a vs ∧ Wk K ⟨rs, okOf r rs⟩ (Itt K a) (cat S T) H)) := by
  have stay : ∀ {U : Sto} {H' : Hp} {vs : List V} {i : Nat} {x : V}, RVs K (cat S T) H rs vs → Ev (cat S T) H U H' → vs[i]? = some x → ∃ r, rs[i]? = some r ∧ RV K U H' r x := fun {U H' vs i x} h ev hx => by
    obtain ⟨r, h1, h2⟩ := h.get' hx
    exact ⟨r, h1, h2.ev ev⟩
  cases r with
  | d x =>
    cases x with
    | list xs =>
      cases e
      cases rv with
      | lst hs ha =>
        rename_i a vs
        have rr := RVs.of ha
        refine ⟨a, vs, rfl, rr.length.symm, .inl ⟨fz_same.seq hs, fun H => SqL K H a vs, YAt vs, ?_, fun S' T' H' ev _ _ => fz_same.seq (Same.seq ev hs), fun S' T' H' i x H2 ev ok _ hi y => ?_⟩⟩
        · rw [rr.length]; exact walk_list
        · obtain ⟨rfl, hx⟩ := y
          obtain ⟨r, h1, h2⟩ := stay rr ev hx
          exact ⟨Ev.rfl', ok, fun _ _ z => z, r, h1, h2⟩
    | tuple xs =>
      cases e
      cases rv with
      | tup hs ha =>
        rename_i a vs
        have rr := RVs.of ha
        have mono : ∀ {U : Sto} {H' : Hp}, Ev (cat S T) H U H' → SqT K H' a vs := fun {U H'} ev => by
          rcases hs with (h | ⟨o, h⟩) | h
          · exact .inl (.inl (fz_same _ _ (ev _ _ h)))
          · exact .inl (.inr ⟨o, fz_same _ _ (ev _ _ h)⟩)
          · exact .inr h
        refine ⟨a, vs, rfl, rr.length.symm, .inr ⟨fz_tup hs, fun H => SqT K H a vs, YAt vs, ?_, fun S' T' H' ev _ _ => mono ev, fun S' T' H' i x H2 ev ok _ hi y => ?_⟩⟩
        · rw [rr.length]; exact walk_tup
        · obtain ⟨rfl, hx⟩ := y
          obtain ⟨r, h1, h2⟩ := stay rr ev hx
          exact ⟨Ev.rfl', ok, fun _ _ z => z, r, h1, h2⟩
    | _ => cases e
  | m a =>
    cases rv
    have e' : (match S a with | some (.lst xs) => some xs | _ => none) = some rs := e
    have at_ : ∀ {S' T' : Sto} {H' : Hp}, Ok K S' T' H' → S' a = some (.lst rs) → ∃ vs, H' a = some (.lst vs) ∧ RVs K (cat S' T') H' rs vs := fun {S' T' H'} ok es => by
      have hT : T' a = none := by
        cases q : T' a with
        | none => rfl
        | some u => have := ok.dj a u q; rw [es] at this; cases this
      exact ok.rp.lst a _ (by rw [cat_none hT]; exact es)
    have es : S a = some (.lst rs) := by
      cases es : S a with
      | none => rw [es] at e'; cases e'
      | some o =>
        cases o with
        | ins C fs => rw [es] at e'; cases e'
        | lst xs => rw [es] at e'; cases e'; rfl
    obtain ⟨vs, h1, h2⟩ := at_ k es
    refine ⟨a, vs, rfl, h2.length.symm, .inl ⟨.inl (.inl h1), fun H => ∃ ws, ws.length = rs.length ∧ H a = some (.lst ws), fun i H x H' => H' = H ∧ ∃ ws, H a = some (.lst ws) ∧ ws[i]? = some x, ?_, fun S' T' H' _ ok o => ?_, fun S' T' H' i x H2 ev ok o hi y => ?_⟩⟩
    · refine ⟨fun i H' hi ⟨ws, hl, hw⟩ => ?_, fun H' ⟨ws, hl, hw⟩ => ⟨ws, .inl (.inl hw), by rw [hl]; exact Nat.le_refl _⟩, fun i H' x H2 hi ⟨ws, hl, hw⟩ y => ⟨y.1, ws, hw, y.2 ws (.inl (.inl hw))⟩⟩
      have hi' : i < ws.length := by rw [hl]; exact hi
      exact ⟨ws, ws[i], .inl (.inl hw), by simp [hi']⟩
    · obtain ⟨ws, g1, g2⟩ := at_ ok o
      exact ⟨ws, g2.length.symm, g1⟩
    · obtain ⟨rfl, ws, hw, hx⟩ := y
      obtain ⟨us, g1, g2⟩ := at_ ok o
      rw [g1] at hw
      cases hw
      obtain ⟨r, h3, h4⟩ := g2.get' hx
      exact ⟨Ev.rfl', ok, fun _ _ z => z, r, h3, h4⟩
end
end Mi
namespace Mi
open PySem PySem.Spec PyProof.Rows L2

section
variable {K : PySem.W.Frag} {W : WX} {te : TE} {me : CE} {t : TA} {m : CA}
theorem sim_iSeq (h : SimE K W te me) : SimI K W (iSeqA K te) (iSeq me) := fun ρ σ S T H Qm xm R n k o ox q =>
  h ρ σ S T H _ xm _ n k (fun r v S1 H1 e1 k1 rv h1 => by
    have seq : (∃ xs, seqOf S1 r = some xs ∧ (xs.length ≤ sizeLine → Qm ⟨xs, okOf r xs⟩ S1)) → (∃ a xs, v = .ref a ∧ SqL K H1 a xs ∧ (xs.length ≤ sizeLine → R (Itl K a) H1)) ∨ (∃ a xs, v = .ref a ∧ SqT K H1 a xs ∧ (xs.length ≤ sizeLine → R (Itt K a) H1)) ∨ ∃ z, v = .str z ∧ R (Its z) H1 := by
      rintro ⟨xs, e, q⟩
      obtain ⟨a, vs, rfl, hl, w⟩ := wk_seq k1 rv e
      rcases w with ⟨hs, w⟩ | ⟨hs, w⟩
      · exact .inl ⟨a, vs, rfl, hs, fun z => o _ _ S1 H1 e1 k1 w (q (by rw [← hl]; exact z))⟩
      · exact .inr (.inl ⟨a, vs, rfl, hs, fun z => o _ _ S1 H1 e1 k1 w (q (by rw [← hl]; exact z))⟩)
    cases r with
    | m a => exact seq h1
    | d x =>
      cases x with
      | str z =>
        cases rv
        refine .inr (.inr ⟨z, rfl, o _ _ S1 H1 e1 k1 ⟨fun _ => True, fun i H v H' => H' = H ∧ ∃ c, z.cps[i]? = some c ∧ v = .str ⟨#[c]⟩, ?_, fun _ _ _ _ _ _ => trivial, ?_⟩ h1⟩)
        · rw [show (List.map (fun c => MV.d (PyData.str ⟨#[c]⟩)) z.cps.toList).length = z.cps.size by simp]
          exact walk_str
        · rintro S' T' H' i x H2 ev ok _ hi ⟨rfl, c, hc, rfl⟩
          refine ⟨Ev.rfl', ok, fun _ _ z => z, .d (.str ⟨#[c]⟩), ?_, Dp.str _⟩
          show (List.map (fun c => MV.d (PyData.str ⟨#[c]⟩)) z.cps.toList)[i]? = _
          rw [List.getElem?_map, Array.getElem?_toList, hc]
          rfl
      | none => exact seq h1
      | bool _ => exact seq h1
      | int _ => exact seq h1
      | list _ => exact seq h1
      | tuple _ => exact seq h1
      | dict _ => exact seq h1) ox q
theorem wk_rng {lo : Int} {n : Nat} {U : Sto} {H : Hp} : Wk K ⟨rng lo n, fun _ => True⟩ (Itr lo n) U H := by
  refine ⟨fun _ => True, YFn fun i => .int (lo + i), ?_, fun _ _ _ _ _ _ => trivial, ?_⟩
  · show Walk _ (rng lo n).length _ _
    rw [rng_length]
    exact walk_range
  · rintro S' T' H' i x H2 ev ok _ hi ⟨rfl, rfl⟩
    have hi' : i < n := by rw [← rng_length lo n]; exact hi
    exact ⟨Ev.rfl', ok, fun _ _ z => z, _, rng_get hi', Dp.int _⟩
theorem sim_range1 (h : SimA K W t m) : SimI K W (iRng1 t) (iRange1 m) := fun ρ σ S T H Qm xm R n k o ox q =>
  h ρ σ S T H _ xm _ n k (fun rs vs S1 H1 e1 k1 rr q => by
    split at q
    · obtain ⟨h1, h2, q⟩ := q
      cases rr with
      | cons r rt =>
        cases rt
        cases r
        exact ⟨_, rfl, h1, h2, o _ _ S1 H1 e1 k1 wk_rng q⟩
    · exact q.elim) ox q
theorem sim_range2 (h : SimA K W t m) : SimI K W (iRng2 t) (iRange2 m) := fun ρ σ S T H Qm xm R n k o ox q =>
  h ρ σ S T H _ xm _ n k (fun rs vs S1 H1 e1 k1 rr q => by
    split at q
    · obtain ⟨h1, q⟩ := q
      cases rr with
      | cons r rt =>
        cases rt with
        | cons r2 rt =>
          cases rt
          cases r
          cases r2
          exact ⟨_, _, rfl, h1, o _ _ S1 H1 e1 k1 wk_rng q⟩
    · exact q.elim) ox q
theorem dpAll_get {H : Hp} : ∀ {vs : List V} {xs : List PyData} {i : Nat} {v : V}, DpAll K H vs xs → vs[i]? = some v → ∃ x, xs[i]? = some x ∧ Dp K H v x
  | [], _, _, _, h, e => by simp at e
  | _ :: _, _, 0, _, .cons r _, e => by simp at e; subst e; exact ⟨_, rfl, r⟩
  | _ :: _, _, i + 1, v, .cons _ t, e => by
    obtain ⟨u, h1, h2⟩ := dpAll_get (i := i) (v := v) t (by simpa using e)
    exact ⟨u, by simpa using h1, h2⟩
theorem zipD_get {xs ys : List PyData} {i : Nat} {x y : PyData} (h1 : xs[i]? = some x) (h2 : ys[i]? = some y) : (zipD xs ys)[i]? = some (.d (.tuple [x, y])) := by
  unfold zipD
  have e : (List.zip xs ys)[i]? = some (x, y) := List.getElem?_zip_eq_some.mpr ⟨h1, h2⟩
  rw [List.getElem?_map, e]
  rfl
theorem zipD_length (xs ys : List PyData) : (zipD xs ys).length = min xs.length ys.length := by unfold zipD; rw [List.length_map, List.length_zip]
theorem walk_zipT {a b : Addr} {xs ys : List V} {n : Nat} (hn : n = min xs.length ys.length) : Walk (RZ.ItzT K a b) n (fun H => SqT K H a xs ∧ SqT K H b ys) (YPair (fun i => xs[i]?) (fun i => ys[i]?)) := by
  subst hn
  constructor
  · rintro i H hi ⟨q1, q2⟩
    have h1 : i < xs.length := by omega
    have h2 : i < ys.length := by omega
    exact ⟨xs, ys, xs[i], ys[i], q1, q2, by simp [h1], by simp [h2]⟩
  · rintro H ⟨q1, q2⟩
    exact ⟨xs, ys, q1, q2, by omega⟩
  · rintro i H v H' _ ⟨q1, q2⟩ ⟨T, x, z, h1, h2, h3, h4, h5⟩
    exact ⟨T, x, z, h1, h2, h3, h4 xs q1, h5 ys q2⟩
/-- pairs of data, each a new tuple -/
theorem wk_pair {J : It} {U0 : Sto} {H0 : Hp} {us vs : List V} {xs ys : List PyData} {G : Hp → Prop} (ha : DpAll K (Fz U0 H0) us xs) (hb : DpAll K (Fz U0 H0) vs ys)
    (w : Walk J (min us.length vs.length) G (YPair (fun i => us[i]?) (fun i => vs[i]?))) (hG : ∀ U H, Ev U0 H0 U H → G H) : Wk K ⟨zipD xs ys, fun _ => True⟩ J U0 H0 := by
  have l1 := dpAll_len ha
  have l2 := dpAll_len hb
  refine ⟨G, YPair (fun i => us[i]?) (fun i => vs[i]?), ?_, fun S T H ev _ _ => hG _ H ev, ?_⟩
  · show Walk J (zipD xs ys).length G _
    rw [zipD_length, ← l1, ← l2]
    exact w
  · rintro S T H i x H' ev ok _ hi ⟨P, u, v, rfl, nP, rfl, hu, hv⟩
    obtain ⟨c, hc, dc⟩ := dpAll_get ha hu
    obtain ⟨d, hd, dd⟩ := dpAll_get hb hv
    refine ⟨ev_new nP, ok.new nP, fun a o z => by rw [upd_ne (ne_of_none z nP)]; exact z, _, zipD_get hc hd, ?_⟩
    exact new_tup ok nP (.cons (dp_mono ev _ _ dc) (.cons (dp_mono ev _ _ dd) .nil))
theorem sim_zip2 (h : SimA K W t m) : SimI K W (RZ.iZipA K t) (iZip2 m) := fun ρ σ S T H Qm xm R n k o ox q =>
  h ρ σ S T H _ xm _ n k (fun rs vs S1 H1 e1 k1 rr q => by
    split at q
    · cases rr with
      | cons r rt =>
        cases rt with
        | cons r2 rt =>
          cases rt
          cases r with
          | tup h1 a1 =>
            cases r2 with
            | tup h2 a2 =>
              refine ⟨_, _, _, _, rfl, .inr ⟨fz_tup h1, fz_tup h2, o _ _ S1 H1 e1 k1 (wk_pair a1 a2 (walk_zipT rfl) fun U H ev => ?_) q⟩⟩
              have tm : ∀ {a : Addr} {xs : List V}, SqT K (Fz (cat S1 T) H1) a xs → SqT K H a xs := fun {a xs} hs => by
                rcases hs with (h | ⟨o, h⟩) | h
                · exact .inl (.inl (fz_same _ _ (ev _ _ h)))
                · exact .inl (.inr ⟨o, fz_same _ _ (ev _ _ h)⟩)
                · exact .inr h
              exact ⟨tm h1, tm h2⟩
    · cases rr with
      | cons r rt =>
        cases rt with
        | cons r2 rt =>
          cases rt
          cases r with
          | lst h1 a1 =>
            cases r2 with
            | lst h2 a2 =>
              exact ⟨_, _, _, _, rfl, .inl ⟨fz_same.seq h1, fz_same.seq h2, o _ _ S1 H1 e1 k1 (wk_pair a1 a2 (walk_zip rfl) fun U H ev => ⟨fz_same.seq (Same.seq ev h1), fz_same.seq (Same.seq ev h2)⟩) q⟩⟩
    · exact q.elim) ox q
end

/-! ### targets -/
abbrev MG := MV → Ro → Sto → (Ro → Sto → Prop) → QX → Prop
abbrev MGs := List MV → Ro → Sto → (Ro → Sto → Prop) → QX → Prop
def SimG (K : PySem.W.Frag) (W : WX) (g : TG) (mg : MG) : Prop := ∀ r v ρ σ S T H Nm xm N, RV K (cat S T) H r v → En K (cat S T) H ρ σ → Ok K S T H → OutN K S T H Nm N → OutX K S T H xm (fun c d H' => W c d σ H') → mg r ρ S Nm xm → g v σ H N
def SimGs (K : PySem.W.Frag) (W : WX) (g : TGs) (mg : MGs) : Prop := ∀ rs vs ρ σ S T H Nm xm N, RVs K (cat S T) H rs vs → En K (cat S T) H ρ σ → Ok K S T H → OutN K S T H Nm N → (∀ σ', OutX K S T H xm (fun c d H' => W c d σ' H')) → mg rs ρ S Nm xm → g vs σ H N
def mName (i : Nat) : MG := fun r ρ S N _ => N (ρ.set i (some r)) S
/-- names alone: a, b, .. -/
def mNames : List Nat → MGs
  | [], [], ρ, S, N, _ => N ρ S
  | i :: is, r :: rest, ρ, S, N, X => mNames is rest (ρ.set i (some r)) S N X
  | _, _, _, _, _, _ => False
def mTup (n : Nat) (ms : MGs) : MG := fun r ρ S N X => ∃ xs, tupOf r = some xs ∧ xs.length = n ∧ ms (xs.map .d) ρ S N X
def mSub (mo mi : CE) : MG := fun r ρ S N X => mo ρ S (fun o S1 => mi ρ S1 (fun i S2 => ∃ a xs k j, o = .m a ∧ i = .d (.int k) ∧ S2 a = some (.lst xs) ∧ ixN xs.length k = some j ∧ N ρ (sset S2 a (.lst (xs.set j r)))) X) X
def gNames : List Nat → TGs
  | [] => gNil
  | i :: is => gCons (gName i) (gNames is)
section
variable {K : PySem.W.Frag} {W : WX}
theorem sim_name (i : Nat) : SimG K W (gName i) (mName i) := fun r v ρ σ S T H Nm xm N rv n k o ox h => o _ _ S H Ev.rfl' k (n.set rv i) h
theorem sim_names : ∀ is : List Nat, SimGs K W (gNames is) (mNames is)
  | [] => fun rs vs ρ σ S T H Nm xm N rr n k o ox h => by
    cases rs with
    | nil => cases rr; exact ⟨rfl, o _ _ S H Ev.rfl' k n h⟩
    | cons r rt => exact h.elim
  | i :: is => fun rs vs ρ σ S T H Nm xm N rr n k o ox h => by
    cases rs with
    | nil => exact h.elim
    | cons r rest =>
      cases rr with
      | cons r1 rt => exact ⟨_, _, rfl, sim_names is _ _ _ _ S T H Nm xm N rt (n.set r1 i) k o ox h⟩
theorem sim_tupG {n : Nat} {g : TGs} {mg : MGs} (h : ∀ rs vs ρ σ S T H Nm N, RVs K (cat S T) H rs vs → En K (cat S T) H ρ σ → Ok K S T H → OutN K S T H Nm N → mg rs ρ S Nm (fun _ _ => False) → g vs σ H N)
    (hx : ∀ rs ρ S Nm xm, mg rs ρ S Nm xm → mg rs ρ S Nm fun _ _ => False) : SimG K W (gTup K n g) (mTup n mg) := fun r v ρ σ S T H Nm xm N rv nn k o ox ⟨xs, e, hl, q⟩ => by
  cases r with
  | m a => cases e
  | d x =>
    cases x with
    | tuple ys =>
      cases e
      cases rv with
      | tup hs ha => exact ⟨_, _, rfl, fz_tup hs, (dpAll_len ha).trans hl, h _ _ ρ σ S T H Nm N (RVs.of ha) nn k o (hx _ _ _ _ _ q)⟩
    | _ => cases e
theorem mNames_x : ∀ (is : List Nat) rs ρ S Nm xm, mNames is rs ρ S Nm xm → mNames is rs ρ S Nm fun _ _ => False
  | [], [], ρ, S, Nm, xm, h => h
  | [], _ :: _, ρ, S, Nm, xm, h => h.elim
  | _ :: _, [], ρ, S, Nm, xm, h => h.elim
  | i :: is, r :: rest, ρ, S, Nm, xm, h => mNames_x is rest _ _ _ _ h
theorem sim_tupN (is : List Nat) (n : Nat) : SimG K W (gTup K n (gNames is)) (mTup n (mNames is)) :=
  sim_tupG (fun rs vs ρ σ S T H Nm N rr n k o h => sim_names (W := fun _ _ _ _ => True) is rs vs ρ σ S T H Nm (fun _ _ => False) N rr n k o (fun _ _ _ _ _ _ _ _ _ z => z.elim) h) (mNames_x is)
/-- a list of the store is written -/
theorem Ok.setL {S T : Sto} {H : Hp} {a : Addr} {xs ys : List MV} {ws : List V} (k : Ok K S T H) (e : S a = some (.lst xs)) (h : RVs K (cat S T) H ys ws) :
    T a = none ∧ Ok K (sset S a (.lst ys)) T (upd H a (.lst ws)) ∧ Ev (cat S T) H (cat (sset S a (.lst ys)) T) (upd H a (.lst ws)) := by
  have hT : T a = none := by
    cases q : T a with
    | none => rfl
    | some u => have := k.dj a u q; rw [e] at this; cases this
  have hc : cat S T a = some (.lst xs) := by rw [cat_none hT]; exact e
  rw [cat_sset hT]
  refine ⟨hT, ⟨by rw [cat_sset hT]; exact k.rp.setL hc h, fun b o q => ?_⟩, ev_set hc⟩
  have ne : b ≠ a := fun z => by rw [z, hT] at q; cases q
  rw [sset_ne ne]
  exact k.dj b o q
theorem Ok.lst {S T : Sto} {H : Hp} {a : Addr} {xs : List MV} (k : Ok K S T H) (e : S a = some (.lst xs)) : ∃ vs, H a = some (.lst vs) ∧ RVs K (cat S T) H xs vs := by
  have hT : T a = none := by
    cases q : T a with
    | none => rfl
    | some u => have := k.dj a u q; rw [e] at this; cases this
  exact k.rp.lst a xs (by rw [cat_none hT]; exact e)
theorem sim_subG {to ti : TE} {mo mi : CE} (ho : SimE K W to mo) (hi : SimE K W ti mi) : SimG K W (gSub to ti rSetL) (mSub mo mi) := fun r v ρ σ S T H Nm xm N rv n k o ox h =>
  ho ρ σ S T H _ xm _ n k (fun x vx S1 H1 e1 k1 rx h1 => hi ρ σ S1 T H1 _ xm _ (n.ev e1) k1 (fun y vy S2 H2 e2 k2 ry h2 => by
    obtain ⟨a, xs, i, j, rfl, rfl, es, ej, q⟩ := h2
    cases rx
    cases ry
    obtain ⟨vs, hv, rr⟩ := k2.lst es
    have e12 := e1.trans e2
    obtain ⟨_, k3, e3⟩ := k2.setL es (rr.set (rv.ev e12) j)
    exact ⟨a, vs, i, j, rfl, rfl, hv, by rw [← rr.length]; exact ej, o _ _ _ _ (e12.trans e3) k3 (n.ev (e12.trans e3)) q⟩) (ox.go e1) h1) ox h
end

/-! ### statements -/
def cNext : CS := fun D ρ S => D.nx ρ S
def cSeq (a b : CS) : CS := fun D ρ S => a { D with nx := b D } ρ S
def cBrk : CS := fun D ρ S => D.bk ρ S
def cCont : CS := fun D ρ S => D.ct ρ S
def cDrop (me : CE) : CS := fun D ρ S => me ρ S (fun _ S1 => D.nx ρ S1) (fun x S' => D.ex x ρ S')
def cRet (me : CE) : CS := fun D ρ S => me ρ S D.rt (fun x S' => D.ex x ρ S')
def cRetN : CS := fun D _ S => D.rt (.d .none) S
def cIf (c : CT) (a b : CS) : CS := fun D ρ S => c ρ S (fun k S1 => if k = true then a D ρ S1 else b D ρ S1) (fun x S' => D.ex x ρ S')
def cNever : CS := fun _ _ _ => False
def cAsg (me : CE) (g : MG) : CS := fun D ρ S => me ρ S (fun r S1 => g r ρ S1 D.nx (fun x S' => D.ex x ρ S')) (fun x S' => D.ex x ρ S')
def cPar (i j : Nat) (ma : CA) : CS := fun D ρ S => ma ρ S (fun rs S1 => match rs with
  | [x, y] => D.nx ((ρ.set i (some x)).set j (some y)) S1
  | _ => False) (fun x S' => D.ex x ρ S')
def cAug (i : Nat) (b : B2) (me : CE) : CS := fun D ρ S => ∃ r, ρ[i]? = some (some r) ∧ me ρ S (fun y S1 => b r y S1 fun z S2 => D.nx (ρ.set i (some z)) S2) (fun x S' => D.ex x ρ S')
def forL (g : MG) (b : CS) (ok : Sto → Prop) : List MV → CS
  | [], D, ρ, S => ok S ∧ D.nx ρ S
  | x :: xs, D, ρ, S => ok S ∧ g x ρ S (fun ρ1 S1 => b { D with nx := forL g b ok xs D, ct := forL g b ok xs D, bk := D.nx } ρ1 S1) (fun x S' => D.ex x ρ S')
def cFor (mi : CI) (g : MG) (b : CS) : CS := fun D ρ S => mi ρ S (fun it S1 => forL g b it.ok it.items D ρ S1) (fun x S' => D.ex x ρ S')
def cWhile (c : CT) (b : CS) : CS := fun D ρ S => ∃ V : Nat → Ro → Sto → Prop, (∃ n, V n ρ S) ∧ ∀ n ρ S, V n ρ S → c ρ S (fun k S1 => if k = true then
  b { D with nx := fun ρ' S' => ∃ n', n' < n ∧ V n' ρ' S', ct := fun ρ' S' => ∃ n', n' < n ∧ V n' ρ' S', bk := D.nx } ρ S1 else D.nx ρ S1) (fun x S' => D.ex x ρ S')
section
variable {K : PySem.W.Frag} {W : WX} {te : TE} {me : CE} {t u : TS} {a b : CS} {ta : TA} {ma : CA}
theorem sim_next : SimS K W tNext cNext := fun ρ σ S T H Dm D n k o h => o.nx ρ σ S H Ev.rfl' k n h
theorem sim_brk : SimS K W tBreak cBrk := fun ρ σ S T H Dm D n k o h => o.bk ρ σ S H Ev.rfl' k n h
theorem sim_cont : SimS K W tCont cCont := fun ρ σ S T H Dm D n k o h => o.ct ρ σ S H Ev.rfl' k n h
theorem sim_seq (ha : SimS K W t a) (hb : SimS K W u b) : SimS K W (tSeq t u) (cSeq a b) := fun ρ σ S T H Dm D n k o h =>
  ha ρ σ S T H { Dm with nx := b Dm } _ n k ⟨fun ρ' σ' S' H' e' k' n' h' => hb ρ' σ' S' T H' Dm D n' k' (o.go e') h', o.rt, o.bk, o.ct, o.ex⟩ h
theorem sim_drop (he : SimE K W te me) : SimS K W (tDrop te) (cDrop me) := fun ρ σ S T H Dm D n k o h =>
  he ρ σ S T H _ _ _ n k (fun r v S1 H1 e1 k1 rv h1 => o.nx ρ σ S1 H1 e1 k1 (n.ev e1) h1) (o.xe n) h
theorem sim_ret (he : SimE K W te me) : SimS K W (tRet te) (cRet me) := fun ρ σ S T H Dm D n k o h => he ρ σ S T H _ _ _ n k o.rt (o.xe n) h
theorem sim_retN : SimS K W tRetN cRetN := fun ρ σ S T H Dm D n k o h => o.rt (.d .none) _ S H Ev.rfl' k Dp.non h
theorem sim_ifS {tc : TT} {c : CT} (hc : SimT K W tc c) (ha : SimS K W t a) (hb : SimS K W u b) : SimS K W (tIfS tc t u) (cIf c a b) := fun ρ σ S T H Dm D n k o h =>
  hc ρ σ S T H _ _ _ n k (fun x S1 H1 e1 k1 h1 => by
    cases x with
    | true => exact iteT (ha ρ σ S1 T H1 Dm D (n.ev e1) k1 (o.go e1) (by simpa using h1))
    | false => exact iteF (hb ρ σ S1 T H1 Dm D (n.ev e1) k1 (o.go e1) (by simpa using h1))) (o.xe n) h
theorem sim_never : SimS K W tNever cNever := fun ρ σ S T H Dm D n k o h => h.elim
theorem sim_asg {g : TG} {mg : MG} (he : SimE K W te me) (hg : SimG K W g mg) : SimS K W (tAsg te g) (cAsg me mg) := fun ρ σ S T H Dm D n k o h =>
  he ρ σ S T H _ _ _ n k (fun r v S1 H1 e1 k1 rv h1 => hg r v ρ σ S1 T H1 Dm.nx _ D.nx rv (n.ev e1) k1 (o.nx.go e1) ((o.xe n).go e1) h1) (o.xe n) h
theorem sim_par {i j : Nat} (ha : SimA K W ta ma) : SimS K W (tPar i j ta) (cPar i j ma) := fun ρ σ S T H Dm D n k o h =>
  ha ρ σ S T H _ _ _ n k (fun rs vs S1 H1 e1 k1 rr h1 => by
    split at h1
    · cases rr with
      | cons r1 rt =>
        cases rt with
        | cons r2 rt =>
          cases rt
          exact ⟨_, _, rfl, o.nx _ _ S1 H1 e1 k1 (((n.ev e1).set r1 i).set r2 j) h1⟩
    · exact h1.elim) (o.xe n) h
theorem sim_aug {i : Nat} {r : TIp} {b : B2} (hr : SimR2 K r b) (he : SimE K W te me) : SimS K W (tAug i te r) (cAug i b me) := fun ρ σ S T H Dm D n k o ⟨x, ex, h⟩ => by
  obtain ⟨v, e2, rv⟩ := n.get i x ex
  exact ⟨v, e2, he ρ σ S T H _ _ _ n k (fun y vy S1 H1 e1 k1 ry h1 => hr x y v vy S1 T H1 _ _ k1 (rv.ev e1) ry (fun z vz S2 H2 e3 k2 rz h2 => o.nx _ _ S2 H2 (e1.trans e3) k2 ((n.ev (e1.trans e3)).set rz i) h2) h1) (o.xe n) h⟩
theorem drop_at {α : Type} {xs : List α} {i : Nat} {x : α} (h : xs[i]? = some x) : xs.drop i = x :: xs.drop (i + 1) := by
  obtain ⟨hi, e⟩ := List.getElem?_eq_some_iff.mp h
  rw [← e]
  exact List.drop_eq_getElem_cons hi
theorem forL_ok {g : MG} {b : CS} {ok : Sto → Prop} {xs : List MV} {D : ME} {ρ : Ro} {S : Sto} (h : forL g b ok xs D ρ S) : ok S := by
  cases xs <;> exact h.1
theorem sim_for {wi : TI} {mi : CI} {g : TG} {mg : MG} (hi : SimI K W wi mi) (hg : SimG K W g mg) (hb : SimS K W t b) : SimS K W (tFor wi g t) (cFor mi mg b) := fun ρ σ S T H Dm D n k o h =>
  hi ρ σ S T H _ _ _ n k (fun it J S1 H1 e1 k1 ⟨G, Y, w, hG, hY⟩ h1 => by
    have o1 := o.go e1
    refine for_it w (fun i σ' H' => ∃ ρ' S', Ev (cat S1 T) H1 (cat S' T) H' ∧ Ok K S' T H' ∧ En K (cat S' T) H' ρ' σ' ∧ forL mg b it.ok (it.items.drop i) Dm ρ' S') ⟨ρ, S1, Ev.rfl', k1, n.ev e1, h1⟩ ?_ ?_ ?_
    · rintro i σ' H' _ ⟨ρ', S', ev, ok, en, f⟩
      exact hG S' T H' ev ok (forL_ok f)
    · rintro i x σ' H' H2 hlt ⟨ρ', S', ev, ok, en, f⟩ y
      obtain ⟨ev2, ok2, _, r, er, rv⟩ := hY S' T H' i x H2 ev ok (forL_ok f) hlt y
      rw [drop_at er] at f
      have o2 := (o1.go ev).go ev2
      refine hg r x ρ' σ' S' T H2 _ _ _ rv (en.ev ev2) ok2 ?_ (o2.xe (en.ev ev2)) f.2
      intro ρ3 σ3 S3 H3 ev3 ok3 en3 f3
      refine hb ρ3 σ3 S3 T H3 _ _ en3 ok3 ?_ f3
      have ev13 := (ev.trans ev2).trans ev3
      refine ⟨?_, (o2.go ev3).rt, (o2.go ev3).nx, ?_, (o2.go ev3).ex⟩
      · intro ρ4 σ4 S4 H4 ev4 ok4 en4 f4
        exact ⟨ρ4, S4, ev13.trans ev4, ok4, en4, f4⟩
      · intro ρ4 σ4 S4 H4 ev4 ok4 en4 f4
        exact ⟨ρ4, S4, ev13.trans ev4, ok4, en4, f4⟩
    · rintro σ' H' ⟨ρ', S', ev, ok, en, f⟩
      rw [List.drop_length] at f
      exact o1.nx ρ' σ' S' H' ev ok en f.2) (o.xe n) h
theorem sim_while {tc : TT} {c : CT} (hc : SimT K W tc c) (hb : SimS K W t b) : SimS K W (tWhile tc t) (cWhile c b) := fun ρ σ S T H Dm D n k o ⟨V, ⟨n0, v0⟩, hv⟩ => by
  refine ⟨fun i σ' H' => ∃ ρ' S', Ev (cat S T) H (cat S' T) H' ∧ Ok K S' T H' ∧ En K (cat S' T) H' ρ' σ' ∧ V i ρ' S', ⟨n0, ρ, S, Ev.rfl', k, n, v0⟩, ?_⟩
  rintro i σ' H' ⟨ρ', S', ev, ok, en, v⟩
  have o1 := o.go ev
  refine hc ρ' σ' S' T H' _ _ _ en ok ?_ (o1.xe en) (hv i ρ' S' v)
  intro x S2 H2 ev2 ok2 h2
  cases x with
  | false => exact iteF (o1.nx ρ' σ' S2 H2 ev2 ok2 (en.ev ev2) (by simpa using h2))
  | true =>
    refine iteT ⟨fun σ4 H4 => ∃ m, m < i ∧ ∃ ρ' S', Ev (cat S T) H (cat S' T) H4 ∧ Ok K S' T H4 ∧ En K (cat S' T) H4 ρ' σ4 ∧ V m ρ' S', fun σ4 H4 ⟨m, hm, z⟩ => ⟨m, hm, z⟩, ?_⟩
    refine hb ρ' σ' S2 T H2 _ _ (en.ev ev2) ok2 ?_ (by simpa using h2)
    have o2 := o1.go ev2
    have e12 := ev.trans ev2
    refine ⟨?_, o2.rt, o2.nx, ?_, o2.ex⟩
    · rintro ρ4 σ4 S4 H4 ev4 ok4 en4 ⟨m, hm, z⟩
      exact ⟨m, hm, ρ4, S4, e12.trans ev4, ok4, en4, z⟩
    · rintro ρ4 σ4 S4 H4 ev4 ok4 en4 ⟨m, hm, z⟩
      exact ⟨m, hm, ρ4, S4, e12.trans ev4, ok4, en4, z⟩
end
end Mi
namespace Mi
open PySem PySem.Spec PyProof.Rows L2

/-! ### comprehensions -/
abbrev noX : QX := fun _ _ => False
abbrev W0 : WX := fun _ _ _ _ => False
def lcL (g : MG) (tt : CT) (te : CE) (ok : Sto → Prop) : List MV → List MV → Ro → Sto → (List MV → Sto → Prop) → Prop
  | [], acc, ρ, S, Q => ok S ∧ Q acc S
  | x :: xs, acc, ρ, S, Q => ok S ∧ g x ρ S (fun ρ1 S1 => tt ρ1 S1 (fun b S2 => if b = true then te ρ1 S2 (fun y S3 => acc.length < sizeLine ∧ lcL g tt te ok xs (acc ++ [y]) ρ S3 Q) noX else lcL g tt te ok xs acc ρ S2 Q) noX) noX
/-- never changed -/
def finD : List MV → Sto → QE → Prop := fun acc S Q => ∃ xs, allD acc = some xs ∧ Q (.d (.list xs)) S
/-- to be changed -/
def finM : List MV → Sto → QE → Prop := fun acc S Q => ∀ p, S p = none → Q (.m p) (sset S p (.lst acc))
def eLcG (fin : List MV → Sto → QE → Prop) (mi : CI) (g : MG) (tt : CT) (te : CE) (vs : List Nat) : CE := fun ρ S Q X => mi ρ S (fun it S1 => lcL g tt te it.ok it.items [] (wipeM ρ vs) S1 (fun acc S2 => fin acc S2 Q)) X
abbrev eLc := eLcG finD
abbrev eLcM := eLcG finM
def cYes : CT := fun _ S Q _ => Q true S

theorem wipe_at (σ : L2.St) : ∀ (vs : List Nat) (j : Nat), (wipe σ vs)[j]? = if j ∈ vs then σ[j]?.map (fun _ => none) else σ[j]?
  | [], j => by simp [wipe]
  | v :: vs, j => by
    have ih := wipe_at σ vs j
    unfold wipe
    by_cases e : v = j
    · subst e
      rw [if_pos List.mem_cons_self]
      by_cases hl : v < σ.length
      · rw [List.getElem?_set_self (by rw [wipe_length]; exact hl), List.getElem?_eq_getElem hl]
        rfl
      · rw [List.getElem?_eq_none (by rw [List.length_set, wipe_length]; omega), List.getElem?_eq_none (by omega)]
        rfl
    · rw [List.getElem?_set_ne e, ih]
      have : (j ∈ v :: vs) ↔ j ∈ vs := by
        rw [List.mem_cons]
        exact ⟨fun z => z.elim (fun z => absurd z.symm e) id, .inr⟩
      by_cases hj : j ∈ vs
      · rw [if_pos hj, if_pos (this.mpr hj)]
      · rw [if_neg hj, if_neg (fun z => hj (this.mp z))]
theorem wipe_wipe (σ : L2.St) (vs : List Nat) : wipe (wipe σ vs) vs = wipe σ vs := by
  apply List.ext_getElem?
  intro j
  rw [wipe_at, wipe_at]
  by_cases h : j ∈ vs
  · rw [if_pos h, if_pos h]
    cases σ[j]? <;> rfl
  · rw [if_neg h, if_neg h]
theorem wipe_set (σ : L2.St) {vs : List Nat} {i : Nat} (hi : i ∈ vs) (v : Option V) : wipe (σ.set i v) vs = wipe σ vs := by
  apply List.ext_getElem?
  intro j
  rw [wipe_at, wipe_at]
  by_cases h : j ∈ vs
  · rw [if_pos h, if_pos h]
    by_cases e : i = j
    · subst e
      by_cases hl : i < σ.length
      · rw [List.getElem?_set_self hl, List.getElem?_eq_getElem hl]; rfl
      · rw [List.getElem?_eq_none (by rw [List.length_set]; omega), List.getElem?_eq_none (by omega)]
    · rw [List.getElem?_set_ne e]
  · rw [if_neg h, if_neg h, List.getElem?_set_ne (fun z => h (by rw [← z]; exact hi))]
/-- a comprehension's target: it stores at vs alone -/
def Kps (g : TG) (vs : List Nat) : Prop := ∀ v σ H Q, g v σ H Q → g v σ H fun σ2 H2 => wipe σ2 vs = wipe σ vs ∧ Q σ2 H2
theorem kps_name {i : Nat} {vs : List Nat} (h : i ∈ vs) : Kps (gName i) vs := fun v σ H Q q => ⟨wipe_set σ h _, q⟩
def KpsS (g : TGs) (vs : List Nat) : Prop := ∀ us σ H Q, g us σ H Q → g us σ H fun σ2 H2 => wipe σ2 vs = wipe σ vs ∧ Q σ2 H2
theorem kps_names {vs : List Nat} : ∀ is : List Nat, (∀ i ∈ is, i ∈ vs) → KpsS (gNames is) vs
  | [], _ => fun us σ H Q q => ⟨q.1, rfl, q.2⟩
  | i :: is, h => fun us σ H Q q => by
    obtain ⟨v, r, e, q⟩ := q
    refine ⟨v, r, e, ?_⟩
    have q2 := kps_names is (fun j hj => h j (List.mem_cons_of_mem _ hj)) _ _ _ _ q
    show gNames is r (σ.set i (some v)) H _
    rw [← wipe_set σ (h i List.mem_cons_self) (some v)]
    exact q2
theorem kps_tup {K : PySem.W.Frag} {n : Nat} {g : TGs} {vs : List Nat} (h : KpsS g vs) : Kps (gTup K n g) vs := fun v σ H Q ⟨a, xs, e, hs, hl, q⟩ => ⟨a, xs, e, hs, hl, h _ _ _ _ q⟩

section
variable {K : PySem.W.Frag} {W : WX}
theorem sim_yes : SimT K W tYes cYes := fun ρ σ S T H Qm xm Q n k o ox h => o true S H Ev.rfl' k h
theorem lcL_ok {g : MG} {tt : CT} {te : CE} {ok : Sto → Prop} {xs acc : List MV} {ρ : Ro} {S : Sto} {Q : List MV → Sto → Prop} (h : lcL g tt te ok xs acc ρ S Q) : ok S := by
  cases xs <;> exact h.1
/-- how a new list of the frame comes out -/
def FinOk (K : PySem.W.Frag) (fin : List MV → Sto → QE → Prop) : Prop := ∀ acc S T H D Qm Q, T D = none → Ok K S (sset T D (.lst acc)) H → fin acc S Qm →
  Out K S T H Qm Q → (∃ r S', Qm r S' ∧ Ok K S' T H ∧ RV K (cat S' T) H r (.ref D) ∧ Ev (cat S (sset T D (.lst acc))) H (cat S' T) H)
theorem frame_lst {S T : Sto} {H : Hp} {D : Addr} {acc : List MV} (k : Ok K S (sset T D (.lst acc)) H) : S D = none ∧ ∃ vs, H D = some (.lst vs) ∧ RVs K (cat S (sset T D (.lst acc))) H acc vs :=
  ⟨k.dj D _ sset_same, k.rp.lst D acc (cat_some sset_same)⟩
theorem fin_D : FinOk K finD := fun acc S T H D Qm Q hT k ⟨xs, ea, q⟩ o => by
  obtain ⟨hS, vs, hv, rr⟩ := frame_lst k
  have eU : cat S T = sdel (cat S (sset T D (.lst acc))) D := by rw [cat_move hS, sdel_sset (cat_free hS hT)]
  have ev : Ev (cat S (sset T D (.lst acc))) H (cat S T) H := by rw [eU]; exact ev_del
  refine ⟨_, S, q, ⟨by rw [eU]; exact k.rp.del, fun a u e => ?_⟩, ?_, ev⟩
  · have ne : a ≠ D := fun z => by rw [z, hT] at e; cases e
    exact k.dj a u (by rw [sset_ne ne]; exact e)
  · refine Dp.lst (xs := vs) (.inl (.inl ?_)) ((rr.ev ev).all ea)
    rw [fz_free (cat_free hS hT)]
    exact hv
theorem fin_M : FinOk K finM := fun acc S T H D Qm Q hT k q o => by
  obtain ⟨hS, vs, hv, rr⟩ := frame_lst k
  have eU : cat (sset S D (.lst acc)) T = cat S (sset T D (.lst acc)) := by rw [cat_sset hT, cat_move hS]
  refine ⟨.m D, sset S D (.lst acc), q D hS, ⟨by rw [eU]; exact k.rp, fun a u e => ?_⟩, rfl, by rw [eU]; exact Ev.rfl'⟩
  have ne : a ≠ D := fun z => by rw [z, hT] at e; cases e
  rw [sset_ne ne]
  exact k.dj a u (by rw [sset_ne ne]; exact e)
theorem sim_lc {fin : List MV → Sto → QE → Prop} {wi : TI} {mi : CI} {g : TG} {mg : MG} {tt : TT} {ct : CT} {te : TE} {ce : CE} {vs : List Nat} (hf : FinOk K fin) (hk : Kps g vs) (hi : SimI K W wi mi) (hg : SimG K W0 g mg) (ht : SimT K W0 tt ct) (he : SimE K W0 te ce) :
    SimE K W (tLc wi g tt te vs) (eLcG fin mi mg ct ce vs) := fun ρ σ S T H Qm xm Q n k o ox h =>
  hi ρ σ S T H _ _ _ n k (fun it J S1 H1 e1 k1 ⟨G, Y, w, hG, hY⟩ h1 => by
    intro D nD
    have fr := k1.free nD
    have u1 := cat_free fr.1 fr.2
    have nw := (n.ev e1).wipe vs
    let st : Nat → Hp → Prop := fun i H' => ∃ S' acc, Ev (cat S1 T) H1 (cat S' (sset T D (.lst acc))) H' ∧ Ok K S' (sset T D (.lst acc)) H' ∧ lcL mg ct ce it.ok (it.items.drop i) acc (wipeM ρ vs) S' (fun acc S2 => fin acc S2 Qm)
    show ∃ V : Nat → Nat → Hp → Prop, _
    refine lc_it (Qd := fun H' => Q (.ref D) H') w st ?_ ?_ ?_ ?_
    · refine ⟨S1, [], ?_, ⟨?_, fun a u e => ?_⟩, h1⟩
      · rw [cat_move fr.1]; exact ev_newS nD
      · rw [cat_move fr.1]; exact k1.rp.newL nD .nil
      · by_cases z : a = D
        · rw [z]; exact fr.1
        · rw [sset_ne z] at e; exact k1.dj a u e
    · rintro i H' _ ⟨S', acc, ev, ok, f⟩
      exact hG _ _ H' ev ok (lcL_ok f)
    · rintro i x H' H2 hlt ⟨S', acc, ev, ok, f⟩ y
      obtain ⟨ev2, ok2, _, r, er, rv⟩ := hY _ _ H' i x H2 ev ok (lcL_ok f) hlt y
      rw [drop_at er] at f
      have n2 := (nw.ev ev).ev ev2
      have kk := hk x (wipe σ vs) H2 (fun σ2 H2 => tt σ2 H2 fun b H3 => if b = true then te σ2 H3 fun y H4 => ∃ acc, H4 D = some (.lst acc) ∧ acc.length < sizeLine ∧ st (i + 1) (upd H4 D (.lst (acc ++ [y]))) else st (i + 1) H3)
      rw [wipe_wipe] at kk
      refine kk (hg r x _ _ S' _ H2 _ noX _ rv n2 ok2 ?_ (fun _ _ _ _ _ _ _ _ z => z.elim) f.2)
      intro ρ3 σ3 S3 H3 ev3 ok3 en3 f3
      refine ht ρ3 σ3 S3 _ H3 _ noX _ en3 ok3 ?_ (fun _ _ _ _ _ _ _ _ z => z.elim) f3
      intro b S4 H4 ev4 ok4 f4
      have ev14 := ((ev.trans ev2).trans ev3).trans ev4
      cases b with
      | false => exact iteF ⟨S4, acc, ev14, ok4, by simpa using f4⟩
      | true =>
        refine iteT (he ρ3 σ3 S4 _ H4 _ noX _ (en3.ev ev4) ok4 ?_ (fun _ _ _ _ _ _ _ _ z => z.elim) (by simpa using f4))
        intro z vz S5 H5 ev5 ok5 rz f5
        obtain ⟨hS, us, hu, rr⟩ := frame_lst ok5
        refine ⟨us, hu, by rw [← rr.length]; exact f5.1, S5, acc ++ [z], ?_, ⟨?_, ?_⟩, f5.2⟩
        · have eU : cat S5 (sset T D (.lst (acc ++ [z]))) = sset (cat S5 (sset T D (.lst acc))) D (.lst (acc ++ [z])) := by rw [cat_move hS, cat_move hS, sset_sset]
          rw [eU]
          exact (ev14.trans ev5).trans (ev_set (cat_some sset_same))
        · have eU : cat S5 (sset T D (.lst (acc ++ [z]))) = sset (cat S5 (sset T D (.lst acc))) D (.lst (acc ++ [z])) := by rw [cat_move hS, cat_move hS, sset_sset]
          rw [eU]
          exact ok5.rp.setL (cat_some sset_same) (rr.append (.cons rz .nil))
        · intro a u e
          by_cases q : a = D
          · rw [q]; exact hS
          · rw [sset_ne q] at e; exact ok5.dj a u (by rw [sset_ne q]; exact e)
    · rintro H' ⟨S', acc, ev, ok, f⟩
      rw [List.drop_length] at f
      obtain ⟨hS, us, hu, rr⟩ := frame_lst ok
      obtain ⟨r, S6, q, ok6, rv6, ev6⟩ := hf acc S' T H' D Qm (fun _ _ => True) fr.2 ok f.2 (fun _ _ _ _ _ _ _ _ => trivial)
      exact o r _ S6 H' (e1.trans (ev.trans ev6)) ok6 rv6 q) ox h
end
end Mi
namespace Mi
open PySem PySem.Spec PyProof.Rows L2

/-! ### defs: as the layer's FnOk, where no repr is under way -/
structure FnG (P : Program) (w : World) (K : PySem.W.Frag) (mg : Str → Option Value) (base : Heap) (C : CXT) (k : Nat) (f : Addr) (fd : FuncData) (ps : List Str) (sp : Sp) : Prop where
  len : ∀ vs H Q E, sp vs H Q E → vs.length = ps.length
  run : ∀ (A : Around) (l : List Env) (s : Shared) (H : Hp) (g : Args) (us : List Value) (vs : List V) (Q : VK) (E : XK), A.guards = some [] → Room k A → Env0 P w K mg base A l s H →
    BindsTo s fd g (ps.zip us) → Vals vs us → sp vs H Q E → codeAny (model P w) A (.call (.ref f) g) (CR C l P w H s Q E) s
theorem FnG.of {P : Program} {w : World} {K : PySem.W.Frag} {mg : Str → Option Value} {base : Heap} {C : CXT} {k : Nat} {f : Addr} {fd : FuncData} {ps : List Str} {sp : Sp}
    (F : FnOk P w K mg base C k f fd ps sp) : FnG P w K mg base C k f fd ps sp := ⟨F.len, fun A l s H g us vs Q E _ => F.run A l s H g us vs Q E⟩
theorem FnG.up {P : Program} {w : World} {K : PySem.W.Frag} {mg : Str → Option Value} {base : Heap} {C : CXT} {j k : Nat} {f : Addr} {fd : FuncData} {ps : List Str} {sp : Sp}
    (F : FnG P w K mg base C j f fd ps sp) (h : j ≤ k) : FnG P w K mg base C k f fd ps sp := ⟨F.len, fun A l s H g us vs Q E hg hr => F.run A l s H g us vs Q E hg (hr.mono h)⟩

section
variable {P : Program} {w : World} {K : PySem.W.Frag} {mg : Str → Option Value} {base : Heap} {C : CXT}
/-- a def by its body -/
theorem fun_okG {k : Nat} {f : Addr} {x q : Str} {st : Stmt} {fd : FuncData} {N ps : List Str} {sp : Sp} (F : Fun K x q st f fd) (S : FnScope N ps (defScope st)) (len : ∀ vs H Q E, sp vs H Q E → vs.length = ps.length)
    (hb : ∀ (cd : Value) (A : Around) (l : List Env) (s : Shared) (H : Hp) (vs : List V) (Q : VK) (E : XK), A.guards = some [] → Room k (A.deeper (envOfC q (defScope st) s.heap.objs.size f cd)) → sp vs H Q E →
      ∃ t, PSs (cxOf C P w K mg base N q (defScope st) f cd A l s H E) (defBody st) t ∧ t { nx := fun _ H' => Q .non H', rt := Q } (start N vs) H) :
    FnG P w K mg base C (k + 1) f fd ps sp := by
  obtain ⟨oc, od, kV, doc, pm, an, cd, ct, osl, rfl, lk, hcd⟩ := F.ex
  constructor
  · exact len
  · intro A l s H g us vs Q E hg hr e0 bd rv hsp
    have hlen := len vs H Q E hsp
    have hK : K.In s.heap := e0.mod.kin.keeps fun b o z => (e0.bs b o z).1
    have hL : s.heap.NoLimit := e0.mod.nolimit.keeps fun b o z => (e0.bs b o z).1
    have kinds : ∀ y ∈ ps.zip us, (defScope st).names.lookup y.1 = some .local ∨ ((defScope st).names.lookup y.1 = some .cell ∧ ((cellsFrom (s.heap.objs.size + 1) (defScope st).names []).lookup y.1).isSome = true) := by
      rintro ⟨n, v⟩ hy
      rcases S.par n (List.of_mem_zip hy).1 with z | z
      · exact Or.inl z
      · exact Or.inr ⟨z, PySem.W.cellsFrom_some _ _ _ (Or.inl z)⟩
    refine codeAny_call_function hr.depth (hK _ _ lk) rfl S.co S.gen rfl (PySem.W.codeRec_of hK hcd) (bd _ _ _ _ ?_)
    refine wpAny_newFunctionEnv_cells S.kind kinds ?_
    intro env he s1 ic
    subst he
    refine ⟨hL.keeps ic.toInCall.keep, codeAny_func ?_⟩
    obtain ⟨t, ht, hq⟩ := hb cd A l s H vs Q E hg (hr.deeper _) hsp
    have I := inv_start (CX := C) (E := E) S hr.hd e0 hlen rv ic
    refine wpAny_mono (ht.run [] s1 (start N vs) H _ I hq) ?_ fun e s' z => z
    intro fl s' z
    have done : ∀ {σ' : L2.St} {H' : Hp} {v : V} {u : Value}, Inv (cxOf C P w K mg base N q (defScope st) f cd A l s H E) [] σ' H' s' → RelV v u → Q v H' → L2.CE l P w H s Q u s' :=
      fun {σ' H' v u} J rr z => ⟨v, H', J.os, J.bare, J.base, J.hok, rr, z⟩
    cases fl with
    | next => obtain ⟨σ', H', J, z⟩ := z; exact done (v := V.non) (u := Value.none) J rfl z
    | ret u => obtain ⟨v, σ', H', J, rr, z⟩ := z; exact done J rr z
    | brk => obtain ⟨_, _, _, z⟩ := z; exact z.elim
    | cont => obtain ⟨_, _, _, z⟩ := z; exact z.elim
end

/-- the promise of a mirror -/
def spOf (K : PySem.W.Frag) (n : Nat) (g : Fm) : Sp := fun vs H Q E => ∃ rs S T Qm xm, rs.length = n ∧ RVs K (cat S T) H rs vs ∧ Ok K S T H ∧ Out K S T H Qm Q ∧ OutX K S T H xm E ∧ g rs S Qm xm
theorem spOf_len {K : PySem.W.Frag} {n : Nat} {g : Fm} : ∀ vs H Q E, spOf K n g vs H Q E → vs.length = n := by
  rintro vs H Q E ⟨rs, S, T, Qm, xm, hl, rr, _⟩
  rw [← rr.length]; exact hl
abbrev FnD (P : Program) (w : World) (K : PySem.W.Frag) (mg : Str → Option Value) (base : Heap) (C : CXT) (k : Nat) (f : Addr) (fd : FuncData) (ps : List Str) (g : Fm) : Prop := FnG P w K mg base C k f fd ps (spOf K ps.length g)
/-- a body, as a def's mirror; n its slots -/
def fnM (n : Nat) (b : CS) : Fm := fun rs S Q X => b ⟨fun _ S' => Q (.d .none) S', Q, fun _ _ => False, fun _ _ => False, fun x _ S' => X x S'⟩ (rs.map some ++ List.replicate (n - rs.length) none) S
section
variable {P : Program} {w : World} {K : PySem.W.Frag} {mg : Str → Option Value} {base : Heap}
/-- a def that lets no exception out -/
theorem fnD {k : Nat} {f : Addr} {x q : Str} {st : Stmt} {fd : FuncData} {N ps : List Str} {b : CS} (F : Fun K x q st f fd) (S : FnScope N ps (defScope st))
    (hb : ∀ (cd : Value) (A : Around) (l : List Env) (s : Shared) (H : Hp) (E : XK), A.guards = some [] → Room k (A.deeper (envOfC q (defScope st) s.heap.objs.size f cd)) →
      ∃ t, PSs (cxOf CX0 P w K mg base N q (defScope st) f cd A l s H E).nox (defBody st) t ∧ SimS K W0 t b) :
    FnD P w K mg base CX0 (k + 1) f fd ps fun rs S Q _ => fnM N.length b rs S Q noX := by
  refine fun_okG F S spOf_len ?_
  rintro cd A l s H vs Q E hg hr ⟨rs, S1, T, Qm, xm, hl, rr, k1, o, ox, hh⟩
  obtain ⟨t, ht, hs⟩ := hb cd A l s H E hg hr
  refine ⟨t, ht.nox, hs _ _ S1 T H _ _ (En.start rr N) k1 ?_ hh⟩
  refine ⟨fun ρ σ S' H' e k z q => o (.d .none) .non S' H' e k Dp.non q, o, fun ρ σ S' H' e k z q => q.elim, fun ρ σ S' H' e k z q => q.elim, fun x c d ρ σ S' H' e k z r q => q.elim⟩
/-- a def that may raise -/
theorem fnDX {k : Nat} {f : Addr} {x q : Str} {st : Stmt} {fd : FuncData} {N ps : List Str} {b : CS} (F : Fun K x q st f fd) (S : FnScope N ps (defScope st))
    (hb : ∀ (cd : Value) (A : Around) (l : List Env) (s : Shared) (H : Hp) (E : XK), A.guards = some [] → Room k (A.deeper (envOfC q (defScope st) s.heap.objs.size f cd)) →
      ∃ t, PSs (cxOf (L2.CX P w) P w K mg base N q (defScope st) f cd A l s H E) (defBody st) t ∧ SimS K (fun c d _ H' => E c d H') t b) :
    FnD P w K mg base (L2.CX P w) (k + 1) f fd ps (fnM N.length b) := by
  refine fun_okG F S spOf_len ?_
  rintro cd A l s H vs Q E hg hr ⟨rs, S1, T, Qm, xm, hl, rr, k1, o, ox, hh⟩
  obtain ⟨t, ht, hs⟩ := hb cd A l s H E hg hr
  refine ⟨t, ht, hs _ _ S1 T H _ _ (En.start rr N) k1 ?_ hh⟩
  exact ⟨fun ρ σ S' H' e k z q => o (.d .none) .non S' H' e k Dp.non q, o, fun ρ σ S' H' e k z q => q.elim, fun ρ σ S' H' e k z q => q.elim, fun x c d ρ σ S' H' e k z r q => ox x c d S' H' e k r q⟩
theorem FnG.imp {C : CXT} {k : Nat} {f : Addr} {fd : FuncData} {ps : List Str} {sp sp' : Sp} (F : FnG P w K mg base C k f fd ps sp) (h : ∀ vs H Q E, sp' vs H Q E → sp vs H Q E) : FnG P w K mg base C k f fd ps sp' :=
  ⟨fun vs H Q E z => F.len vs H Q E (h _ _ _ _ z), fun A l s H g us vs Q E hg hr e bd rv z => F.run A l s H g us vs Q E hg hr e bd rv (h _ _ _ _ z)⟩
/-- what a mirror is worth -/
theorem FnG.by {C : CXT} {k : Nat} {f : Addr} {fd : FuncData} {ps : List Str} {g g' : Fm} (F : FnD P w K mg base C k f fd ps g) (h : ∀ rs S Q X, rs.length = ps.length → g' rs S Q X → g rs S Q X) : FnD P w K mg base C k f fd ps g' :=
  F.imp fun vs H Q E ⟨rs, S, T, Qm, xm, hl, rr, k1, o, ox, hh⟩ => ⟨rs, S, T, Qm, xm, hl, rr, k1, o, ox, h _ _ _ _ hl hh⟩
end

/-! ### calls -/
section
variable {X : Cx} {C : CXT} {k : Nat} {f : Addr} {fd : FuncData} {ps : List Str} {sp : Sp} {E : L2.St → XK} {x : Str} {p pos : Pos} {e : Expr} {es : List Expr} {t : TA}
theorem run_fnG {pins : List (Addr × Obj)} {σ : L2.St} {H : Hp} {s : Shared} {Q : VK} {us : List Value} {vs : List V} (F : FnG X.prog X.w X.K X.mg X.base C k f fd ps sp) (hg : X.A.guards = some []) (hr : Room k X.A) (hb : Binds X.K fd ps [])
    (hx : PassesAt C X σ (E σ)) (I : Inv X pins σ H s) (r : Vals vs us) (h : sp vs H Q (E σ)) : wpAny (model X.prog X.w) X.A (call (.ref f) us) (EP X pins σ Q) X.xe s := by
  have hl : us.length = ps.length := r.length.symm.trans (F.len _ _ _ _ h)
  have bd := hb s us I.kIn (by rw [List.append_nil]; exact hl)
  rw [List.append_nil] at bd
  have c := F.run X.A X.stack s H ⟨us, []⟩ us vs Q (E σ) hg hr I.env0 bd r h
  refine wpAny_call (codeAny_mono c ?_)
  intro z s' hq
  match z, hq with
  | .error e, hq => exact hx pins H s e s' I hq
  | .ok (.ret u), hq => exact I.after hq
  | .ok .next, hq => exact hq.elim
  | .ok .brk, hq => exact hq.elim
  | .ok .cont, hq => exact hq.elim
theorem pe_callG (F : FnG X.prog X.w X.K X.mg X.base C k f fd ps sp) (hg : X.A.guards = some []) (hr : Room k X.A) (hgl : Gl X x) (hm : X.mg x = some (.ref f)) (hk : PySem.W.keepIn X.K (.ref f) = true) (hb : Binds X.K fd ps [])
    (hx : ∀ σ, PassesAt C X σ (E σ)) (ha : PA X (e :: es) t) (hdb : (x == ("__debug__" : Str)) = false := by decide)
    (he : starEach (e :: es) X.env = (false, eval e X.env) :: starEach es X.env := by rfl) (hpl : (backTo pos (starEach es X.env)).any (·.1) = false := by rfl) : PE X (.Call (.Name x p) (e :: es) [] pos) (tCallS sp E t) := by
  constructor
  intro pins s σ H Q I h
  refine wpAny_Call_Name_kw (ld_glob I hgl hm ?_ hdb)
  refine PySem.W.callWith_K (h₀ := X.base) I.ok.mod.kin hk (thn (ha.run pos pins s σ H _ I h) ?_) he hpl
  rintro us s1 ⟨vs, H1, I1, r, q⟩
  exact ⟨I1.kIn, run_fnG F hg hr hb (hx σ) I1 r q⟩
theorem pe_callG0 (F : FnG X.prog X.w X.K X.mg X.base C k f fd ps sp) (hg : X.A.guards = some []) (hr : Room k X.A) (hgl : Gl X x) (hm : X.mg x = some (.ref f)) (hk : PySem.W.keepIn X.K (.ref f) = true) (hb : Binds X.K fd ps [])
    (hx : ∀ σ, PassesAt C X σ (E σ)) (hdb : (x == ("__debug__" : Str)) = false := by decide) : PE X (.Call (.Name x p) [] [] pos) (tCallS sp E tNil) := by
  constructor
  intro pins s σ H Q I h
  refine wpAny_Call_Name_kw (ld_glob I hgl hm ?_ hdb)
  exact PySem.W.callWith_K0 I.kIn hk (run_fnG (us := []) F hg hr hb (hx σ) I .nil h)
theorem pass0S {E : L2.St → XK} : ∀ σ, PassesAt CX0 X σ (E σ) := fun _ _ _ _ _ _ _ h => h.elim
def eFn (n : Nat) (g : Fm) (ma : CA) : CE := fun ρ S Q X => ma ρ S (fun rs S1 => rs.length = n ∧ g rs S1 Q X) X
theorem sim_call {K : PySem.W.Frag} {W : WX} {n : Nat} {g : Fm} {t : TA} {m : CA} (h : SimA K W t m) : SimE K W (tCallS (spOf K n g) (WE W) t) (eFn n g m) := fun ρ σ S T H Qm xm Q nn k o ox q =>
  h ρ σ S T H _ xm _ nn k (fun rs vs S1 H1 e1 k1 rr h1 => ⟨rs, S1, T, Qm, xm, h1.1, rr, k1, o.go e1, ox.go e1, h1.2⟩) ox q
end
end Mi
namespace Mi
open PySem PySem.Spec PyProof.Rows L2

/-! ### the law's end -/
/-- the law of a mirror is True at every script -/
def LawOk (g : Fm) : Prop := ∀ ns : List Int, ns.length ≤ 63 → g [.d (.list (ns.map .int))] (fun _ => none) (fun r _ => r = .d (.bool true)) fun _ _ => False
theorem dp_ints {K : PySem.W.Frag} {H : Hp} : ∀ ns : List Int, DpAll K H (ns.map V.int) (ns.map PyData.int)
  | [] => .nil
  | n :: ns => .cons (.int n) (dp_ints ns)
theorem law_sp {K : PySem.W.Frag} {g : Fm} (h : LawOk g) {H : Hp} {a : Addr} {ns : List Int} (hl : ns.length ≤ 63) (hs : SqL K H a (ns.map V.int)) :
    spOf K 1 g [.ref a] H (fun v _ => v = .bl true) fun _ _ _ => False := by
  have hF : Fz (cat (fun _ => none) fun _ => none) H = H := rfl
  refine ⟨[.d (.list (ns.map .int))], fun _ => none, fun _ => none, fun r _ => r = .d (.bool true), fun _ _ => False, rfl, .cons ?_ .nil, ⟨⟨fun _ _ e => (nomatch e), fun _ _ _ e => (nomatch e)⟩, fun _ _ e => (nomatch e)⟩, ?_, ?_, h ns hl⟩
  · show Dp K (Fz _ H) (.ref a) _
    rw [hF]
    exact .lst hs (dp_ints ns)
  · rintro r v S' H' _ _ rv rfl
    cases rv
    rfl
  · rintro x c d S' H' _ _ _ z
    exact z.elim
/-- from a def's promise to the call at the heap behind the top -/
theorem law_run {P : Program} {w : World} {K : PySem.W.Frag} {mg mb : Str → Option Value} {C : CXT} {k : Nat} {f a : Addr} {fd : FuncData} {x : Str} {sp : Sp} {s : Shared} {us : List Value} {ns : List Int}
    (hK : K.In s.heap) (h1 : s.heap.Ns mainGlobals mg) (h2 : s.heap.Ns builtinsNs mb) (h3 : ∀ y : Str, y ≠ "__name__" → mb y = bootBuiltins y) (h4 : s.heap.NoLimit) (h5 : s.gens = #[])
    (ha : s.heap.get? a = some { cls := .type "list", data := .seq us.toArray }) (hu : IntsAre us ns) (hl : ns.length ≤ sizeLine) (hr : Room k callerA)
    (F : ∀ base : Heap, K.In base → base.Ns mainGlobals mg → FnG P w K mg base C k f fd [x] sp) (bd : ∀ (s : Shared) (u : Value), BindsTo s fd ⟨[u], []⟩ [(x, u)])
    (hsp : ∀ H : Hp, SqL K H a (ns.map V.int) → sp [.ref a] H (fun v _ => v = .bl true) fun _ _ _ => False) (hC : ∀ H e s', C [] H s (fun _ _ _ => False) e s' → False) :
    codeAny (model P w) callerA (.call (.ref f) ⟨[.ref a], []⟩) (fun r s' => r = .ok (.ret (.bool true)) ∧ OldK s.heap s'.heap ∧ s'.os = s.os ∧ AllBare s'.gens) s := by
  have rv := vals_ints hu
  have key : ∀ H : Hp, (∀ b u, H b = some u → b = a ∧ ∃ o xs, u = .frz o (.lst xs)) → SqL K H a (ns.map V.int) → HOk P w H s.heap → (H a ≠ none → K.lookup a = none) →
      codeAny (model P w) callerA (.call (.ref f) ⟨[.ref a], []⟩) (fun r s' => r = .ok (.ret (.bool true)) ∧ OldK s.heap s'.heap ∧ s'.os = s.os ∧ AllBare s'.gens) s := by
    intro H only hs ok hKa
    have isDict : ∀ {b : Addr} {o : Obj} {es : Array DictEntry} {ep : Nat}, s.heap.get? b = some o → o.data = .dict es ep → H b = none := by
      intro b o es ep e d
      cases q : H b with
      | none => rfl
      | some u =>
        obtain ⟨rfl, _⟩ := only b u q
        rw [ha] at e
        cases e
        have d' : Data.seq us.toArray _ = Data.dict es ep := d
        cases d'
    have ns' : ∀ {b : Addr} {m : Str → Option Value}, s.heap.Ns b m → (hidT s.heap H).Ns b m := by
      rintro b m ⟨o, es, ep, e, d, r⟩
      exact ⟨o, es, ep, hidT_get e (isDict e d), d, r⟩
    have inK : K.In (hidT s.heap H) := by
      intro b o e
      refine hidT_get (hK b o e) ?_
      cases q : H b with
      | none => rfl
      | some u =>
        obtain ⟨rfl, _⟩ := only b u q
        have z := hKa (by rw [q]; exact Option.some_ne_none u)
        have e' : K.lookup b = some o := e
        rw [z] at e'
        cases e'
    have md : Mod K mg (hidT s.heap H) := by
      refine ⟨inK, ns' h1, ⟨mb, ns' h2, h3⟩, ?_⟩
      obtain ⟨mc, z1, z2⟩ := h4
      exact ⟨mc, ns' z1, z2⟩
    have e0 : Env0 P w K mg (hidT s.heap H) callerA [] s H := ⟨rfl, md, fun b o e => of_hidT e, Nat.le_of_eq (hidT_size _ _), trivial, fun b z => absurd (show b ∈ ([] : List Addr) from z) (by simp), ok, .of_eq h5⟩
    have run := (F _ inK (ns' h1)).run callerA [] s H ⟨[.ref a], []⟩ [.ref a] [.ref a] _ _ rfl hr e0 (bd s (.ref a)) (.cons rfl .nil) (hsp H hs)
    refine codeAny_mono run ?_
    intro z s' q
    match z, q with
    | .error e, q => exact (hC H e s' q).elim
    | .ok .next, q => exact q.elim
    | .ok .brk, q => exact q.elim
    | .ok .cont, q => exact q.elim
    | .ok (.ret u), q =>
      obtain ⟨v, H', os, bare, un, ok', rv', e⟩ := q
      have e' : v = .bl true := e
      subst e'
      obtain rfl : u = Value.bool true := rv'
      refine ⟨rfl, OldK.of_keep ?_, os, bare⟩
      intro b o e
      cases q : H b with
      | none => exact un.keep b o e q (fun z => absurd (show b ∈ ([] : List Addr) from z) (by simp)) (by simp)
      | some u =>
        obtain ⟨rfl, ob, xs, rfl⟩ := only b u q
        have g1 := (ok b _ q).1
        have g2 := (ok' b _ (un.frzs b ob _ q)).1
        rw [e] at g1
        cases g1
        exact g2
  cases hk : K.lookup a with
  | some o =>
    have e := hK a o hk
    rw [ha] at e
    cases e
    exact key (fun _ => none) (fun b u z => by cases z) (.inr ⟨_, us.toArray, _, hk, rfl, rfl, rfl, by rw [List.size_toArray, hu.length]; exact hl, by simpa using rv⟩) (fun b u z => by cases z) (fun z => absurd rfl z)
  | none =>
    let o : Obj := { cls := .type "list", data := .seq us.toArray }
    refine key (fun b => if b = a then some (.frz o (.lst (ns.map V.int))) else none) ?_ (.inl (.inr ⟨o, if_pos rfl⟩)) ?_ (fun _ => hk)
    · intro b u z
      by_cases e : b = a
      · rw [if_pos e] at z
        cases z
        exact ⟨e, _, _, rfl⟩
      · rw [if_neg e] at z; cases z
    · intro b u z
      by_cases e : b = a
      · have z' := (if_pos e).symm.trans z
        cases z'
        subst e
        exact ⟨ha, by rw [List.length_map]; exact hl, us, _, rv, ha⟩
      · have z' := (if_neg e).symm.trans z
        cases z'
theorem walk_ofG {l : PySem.W.OpenLaw} {k : Nat} {q : Program} {loose : List Str} {XP : (Str → Option Value) → Heap → Prop} {YP : World → Heap → Prop} {d : DefRec} {K : Params → PySem.W.Frag} {C : World → CXT} {g : Fm} {x : Str}
    (hn : l.most = some 63) (hdf : d.params.defaults = []) (hr : Room k callerA) (hY : ∀ (w : World) (h : Heap), YP w h → (K w.params).In h)
    (F : ∀ (w : World) (mg : Str → Option Value) (fa : Addr) (h : Heap), (K w.params).In h → h.Ns mainGlobals mg → mg d.name = some (.ref fa) →
      ∃ fd : FuncData, (∀ (s : Shared) (u : Value), BindsTo s fd ⟨[u], []⟩ [(x, u)]) ∧
        ∀ base : Heap, (K w.params).In base → base.Ns mainGlobals mg → FnD l.prog w (K w.params) mg base (C w) k fa fd [x] g)
    (hg : LawOk g) (hC : ∀ (w : World) (H : Hp) (s : Shared) (e : Value) (s' : Shared), C w [] H s (fun _ _ _ => False) e s' → False) :
    PySem.W.WalkO q loose XP YP l.row.toRowW d [] (fun f vs => PySem.call f vs) := by
  refine Att.attach_call hn hdf ?_
  intro w s₀ s₁ mg mb fa o pm cd doc a us ns G Y ho hd hcd hmg hobj hints hlen hgs
  have hK := hY w _ Y
  obtain ⟨fd, hb, hF⟩ := F w mg fa _ hK G.T.g hmg
  exact law_run hK G.T.g G.T.b G.T.builtins G.T.nolimit hgs hobj hints (Nat.le_trans hlen (by decide)) hr hF hb (fun H hs => law_sp hg hlen hs) fun H e s' => hC w H s₁ e s'
end Mi
namespace Mi
open PySem PySem.Spec PyProof.Rows L2

/-! ### further rules -/
theorem rep_room {k : Nat} {A : Around} (hr : Room k A) : A.units + 70 < cLine := by
  have := hr.un
  omega
section
variable {K : PySem.W.Frag} {W : WX} {te to : TE} {me mo : CE} {t : TA} {m : CA}
abbrev bMulA : B2 := bMul
theorem sim_mulA : SimR2 K (rI CMul fun i j => .int (i * j)) bMulA := sim_mul
theorem op_mulA {X : Cx} : OpR X (binaryOp .Mult) (rI CMul fun i j => .int (i * j)) := op_mul
theorem sim_neg : SimR1 K (rU fun i => .int (-i)) bNeg := fun x vx S T H Qm Q k rx o q => by
  unfold bNeg at q
  split at q
  · cases rx
    exact ⟨_, rfl, o (.d (.int _)) _ S H Ev.rfl' k (Dp.int _) q⟩
  · exact q.elim
/-- a list of the store, from here on never changed -/
def eFrz (me : CE) : CE := fun ρ S Q X => me ρ S (fun r S1 => ∃ a xs ys, r = .m a ∧ S1 a = some (.lst xs) ∧ allD xs = some ys ∧ Q (.d (.list ys)) (sdel S1 a)) X
theorem sim_frz (h : SimE K W te me) : SimE K W te (eFrz me) := fun ρ σ S T H Qm xm Q n k o ox q =>
  h ρ σ S T H _ xm _ n k (fun r v S1 H1 e1 k1 rv ⟨a, xs, ys, er, es, ea, hq⟩ => by
    subst er
    cases rv
    have hT : T a = none := by
      cases q : T a with
      | none => rfl
      | some u => have := k1.dj a u q; rw [es] at this; cases this
    have eU : cat (sdel S1 a) T = sdel (cat S1 T) a := cat_sdel hT
    have ev : Ev (cat S1 T) H1 (cat (sdel S1 a) T) H1 := by rw [eU]; exact ev_del
    obtain ⟨vs, hv, rr⟩ := k1.lst es
    refine o (.d (.list ys)) _ (sdel S1 a) H1 (e1.trans ev) ⟨by rw [eU]; exact k1.rp.del, fun b u z => ?_⟩ ?_ hq
    · have ne : b ≠ a := fun z' => by rw [z', hT] at z; cases z
      rw [sdel_ne ne]
      exact k1.dj b u z
    · refine Dp.lst (xs := vs) (.inl (.inl ?_)) ((rr.ev ev).all ea)
      rw [fz_free (cat_free sdel_same hT)]
      exact hv) ox q
/-- xs.append(e) -/
def eAppend (mo : CE) (ma : CA) : CE := fun ρ S Q X => mo ρ S (fun r S1 => match r with
  | .m a => (∃ zs, S1 a = some (.lst zs)) ∧ ma ρ S1 (fun rs S2 => match rs with
    | [y] => ∃ xs, S2 a = some (.lst xs) ∧ xs.length < sizeLine ∧ Q (.d .none) (sset S2 a (.lst (xs ++ [y])))
    | _ => False) X
  | _ => False) X
theorem sim_append (ho : SimE K W to mo) (ha : SimA K W t m) : SimE K W (tBM K "list" rAppend to t) (eAppend mo m) := fun ρ σ S T H Qm xm Q n k o ox q =>
  ho ρ σ S T H _ xm _ n k (fun r v S1 H1 e1 k1 rv q => by
    split at q
    · obtain ⟨⟨zs, hz⟩, hq⟩ := q
      cases rv
      obtain ⟨v0, h0, _⟩ := k1.lst hz
      refine ⟨.inl ⟨rfl, _, .inl (.inl h0)⟩, ha ρ σ S1 T H1 _ xm _ (n.ev e1) k1 ?_ (ox.go e1) hq⟩
      intro rs vs S2 H2 e2 k2 rr q
      split at q
      · obtain ⟨xs, es, hl, hq2⟩ := q
        cases rr with
        | cons ry rt =>
          cases rt
          obtain ⟨ws, hv, rw'⟩ := k2.lst es
          obtain ⟨_, k3, e3⟩ := k2.setL es (rw'.append (.cons ry .nil))
          exact ⟨_, ws, _, rfl, rfl, hv, by rw [← rw'.length]; exact hl, o (.d .none) _ _ _ ((e1.trans e2).trans e3) k3 Dp.non hq2⟩
      · exact q.elim
    · exact q.elim) ox q
theorem sim_cut {t : TS} {a b : CS} (e : a = b) (h : SimS K W t b) : SimS K W t a := by
  rw [e]
  exact h
/-! ### slices -/
abbrev MO' := Ro → Sto → (Option Int → Sto → Prop) → QX → Prop
def SimO (K : PySem.W.Frag) (W : WX) (t : TO) (m : MO') : Prop := ∀ ρ σ S T H Qm xm Q, En K (cat S T) H ρ σ → Ok K S T H → (∀ b S' H', Ev (cat S T) H (cat S' T) H' → Ok K S' T H' → Qm b S' → Q b H') → OutX K S T H xm (fun c d H' => W c d σ H') → m ρ S Qm xm → t σ H Q
def oNone : MO' := fun _ S Q _ => Q none S
def oSome (me : CE) : MO' := fun ρ S Q X => me ρ S (fun r S1 => ∃ i, r = .d (.int i) ∧ Q (some i) S1) X
theorem simO_none : SimO K W tNoPart oNone := fun ρ σ S T H Qm xm Q n k o ox h => o none S H Ev.rfl' k h
theorem simO_some (h : SimE K W te me) : SimO K W (tPart te) (oSome me) := fun ρ σ S T H Qm xm Q n k o ox q =>
  h ρ σ S T H _ xm _ n k (fun r v S1 H1 e1 k1 rv ⟨i, er, hq⟩ => by
    subst er
    cases rv
    exact ⟨i, rfl, o (some i) S1 H1 e1 k1 hq⟩) ox q
def cutL {α : Type} (xs : List α) (lo hi : Option Int) : List α := (xs.drop (HT.sIx xs.length 0 lo)).take (HT.sIx xs.length xs.length hi - HT.sIx xs.length 0 lo)
def bSlice : MV → Option Int → Option Int → Sto → QE → Prop := fun x lo hi S Q => match x with
  | .d (.str z) => z.length ≤ sizeLine ∧ Q (.d (.str (cutS z lo hi))) S
  | .d (.tuple xs) => Q (.d (.tuple (cutL xs lo hi))) S
  | x => ∃ xs ys, lstOf S x = some xs ∧ allD (cutL xs lo hi) = some ys ∧ Q (.d (.list ys)) S
def eSlice (me : CE) (ml mh : MO') : CE := fun ρ S Q X => me ρ S (fun x S1 => ml ρ S1 (fun l S2 => mh ρ S2 (fun u S3 => bSlice x l u S3 Q) X) X) X
def rSlAny (K : PySem.W.Frag) : V → Option Int → Option Int → Hp → VK → Prop := fun x lo hi H Q => rSlS x lo hi H Q ∨ (rSlA K x lo hi H Q ∨ rSlL K x lo hi H Q)
theorem sl_any {X : Cx} : SlR X (rSlAny X.K) := sl_str.or (sl_tupA.or sl_list)
theorem dpAll_take {H : Hp} : ∀ {vs : List V} {xs : List PyData} (n : Nat), DpAll K H vs xs → DpAll K H (vs.take n) (xs.take n)
  | _, [], n, h => by cases h; cases n <;> exact .nil
  | _, x :: xs, 0, h => .nil
  | _, x :: xs, n + 1, h => by cases h with | cons a b => exact .cons a (dpAll_take n b)
theorem dpAll_drop {H : Hp} : ∀ {vs : List V} {xs : List PyData} (n : Nat), DpAll K H vs xs → DpAll K H (vs.drop n) (xs.drop n)
  | _, [], n, h => by cases h; cases n <;> exact .nil
  | _, x :: xs, 0, h => h
  | _, x :: xs, n + 1, h => by cases h with | cons a b => exact dpAll_drop n b
theorem cut_whole {α : Type} {xs : List α} {lo hi : Option Int} (h : HT.sIx xs.length 0 lo = 0 ∧ HT.sIx xs.length xs.length hi = xs.length) : cutL xs lo hi = xs := by
  unfold cutL
  rw [h.1, h.2]
  simp
theorem sim_bSlice {x : MV} {v : V} {lo hi : Option Int} {S T : Sto} {H : Hp} {Qm : QE} {Q : VK} (k : Ok K S T H) (rv : RV K (cat S T) H x v) (o : Out K S T H Qm Q) (q : bSlice x lo hi S Qm) : rSlAny K v lo hi H Q := by
  unfold bSlice at q
  split at q
  · cases rv
    exact .inl ⟨_, rfl, q.1, o (.d (.str _)) _ S H Ev.rfl' k (Dp.str _) q.2⟩
  · cases rv with
    | tup hs ha =>
      have hl := dpAll_len ha
      refine .inr (.inl ⟨_, _, rfl, fz_tup hs, fun w => ?_, fun _ p np => ?_⟩)
      · rw [hl] at w
        rw [cut_whole w] at q
        exact o (.d _) _ S H Ev.rfl' k (Dp.tup hs ha) q
      · refine o _ _ S _ (ev_new np) (k.new np) (new_tup k np ?_) q
        unfold cutL cutV
        rw [hl]
        exact dpAll_take _ (dpAll_drop _ ha)
  · obtain ⟨xs, ys, e, ea, q⟩ := q
    obtain ⟨a, vs, rfl, hs, rr⟩ := rv_lst k rv e
    refine .inr (.inr ⟨a, vs, rfl, hs, fun p np => ?_⟩)
    refine o _ _ S _ (ev_new np) (k.new np) (new_lst k np ?_) q
    have h : RVs K (cat S T) H (cutL xs lo hi) (cutV vs lo hi) := by
      unfold cutL cutV
      rw [← rr.length]
      exact (rr.drop _).take _
    exact h.all ea
theorem sim_slice {tl th : TO} {ml mh : MO'} (he : SimE K W te me) (hl : SimO K W tl ml) (hh : SimO K W th mh) : SimE K W (tSl (rSlAny K) te tl th) (eSlice me ml mh) := fun ρ σ S T H Qm xm Q n k o ox q =>
  he ρ σ S T H _ xm _ n k (fun x vx S1 H1 e1 k1 rx h1 => hl ρ σ S1 T H1 _ xm _ (n.ev e1) k1 (fun l S2 H2 e2 k2 h2 => hh ρ σ S2 T H2 _ xm _ (n.ev (e1.trans e2)) k2 (fun u S3 H3 e3 k3 h3 =>
    sim_bSlice k3 (rx.ev (e2.trans e3)) (o.go ((e1.trans e2).trans e3)) h3) (ox.go (e1.trans e2)) h2) (ox.go e1) h1) ox q
/-! ### chains -/
def eChain (b b' : B2) (ma mb mc : CE) : CE := fun ρ S Q X => ma ρ S (fun x S1 => mb ρ S1 (fun y S2 => b x y S2 fun z S3 => ∃ k, z = .d (.bool k) ∧ (if k = true then mc ρ S3 (fun w S4 => b' y w S4 Q) X else Q (.d (.bool false)) S3)) X) X
theorem sim_chain {r r' : R2} {b b' : B2} {ta tb tc : TE} {ma mb mc : CE} (hr : SimR2 K r b) (hr' : SimR2 K r' b') (ha : SimE K W ta ma) (hb : SimE K W tb mb) (hc : SimE K W tc mc) : SimE K W (tChain r r' ta tb tc) (eChain b b' ma mb mc) := fun ρ σ S T H Qm xm Q n k o ox h =>
  ha ρ σ S T H _ xm _ n k (fun x vx S1 H1 e1 k1 rx h1 => hb ρ σ S1 T H1 _ xm _ (n.ev e1) k1 (fun y vy S2 H2 e2 k2 ry h2 => hr x y vx vy S2 T H2 _ _ k2 (rx.ev e2) ry (fun z vz S3 H3 e3 k3 rz ⟨c, ec, h3⟩ => by
    subst ec
    cases rz
    refine ⟨c, rfl, ?_⟩
    have e12 := e1.trans e2
    cases c with
    | false => exact iteF (o (.d (.bool false)) _ S3 H3 (e12.trans e3) k3 (Dp.bl _) (by simpa using h3))
    | true =>
      refine iteT (hc ρ σ S3 T H3 _ xm _ (n.ev (e12.trans e3)) k3 ?_ (ox.go (e12.trans e3)) (by simpa using h3))
      intro w vw S4 H4 e4 k4 rw' h4
      exact hr' y w vy vw S4 T H4 Qm Q k4 (ry.ev (e3.trans e4)) rw' (o.go ((e12.trans e3).trans e4)) h4) h2) (ox.go e1) h1) ox h
/-! ### in -/
def bIn : B2 := fun x y S Q => ∃ c ds, datOf S x = some c ∧ (datOf S y = some (.list ds) ∨ y = .d (.tuple ds)) ∧ SeqAt.shaped c = true ∧ SeqAt.shaped (.list ds) = true ∧ Q (.d (.bool (ds.any fun z => PyData.eqv z c))) S
def bNotIn : B2 := fun x y S Q => ∃ c ds, datOf S x = some c ∧ datOf S y = some (.list ds) ∧ SeqAt.shaped c = true ∧ SeqAt.shaped (.list ds) = true ∧ Q (.d (.bool (!ds.any fun z => PyData.eqv z c))) S
def rInT (K : PySem.W.Frag) : R2 := fun x y H Q => ∃ d ds, Dp K H x d ∧ Dp K H y (.tuple ds) ∧ SeqAt.shaped d = true ∧ SeqAt.shaped (.list ds) = true ∧ Q (.bl (ds.any fun z => PyData.eqv z d)) H
theorem op_inT {X : Cx} (hu : X.A.units + 65 < cLine) : OpR X (compareOp .In) (rInT X.K) := by
  intro pins s σ H x y v u Q I rx ry h
  obtain ⟨d, ds, hd, he, sd, se, q⟩ := h
  obtain ⟨as, r1⟩ := Dp.reads I d x v hd rx
  obtain ⟨bs, r2⟩ := Dp.reads I (.tuple ds) y u he ry
  exact SeqAt.in_tuple_reads r2 r1 (SeqAt.canLay_of_shaped se) (SeqAt.canLay_of_shaped sd) (room_in_shaped sd hu) ⟨.bl _, H, I, rfl, q⟩
def rInA (K : PySem.W.Frag) : R2 := fun x y H Q => rInD K x y H Q ∨ rInT K x y H Q
theorem op_inA {X : Cx} (hu : X.A.units + 65 < cLine) : OpR X (compareOp .In) (rInA X.K) := (op_inD hu).or (op_inT hu)
theorem op_notInA {X : Cx} (hu : X.A.units + 65 < cLine) : OpR X (compareOp .NotIn) (rNotInD X.K) := op_notInD hu
theorem sim_in : SimR2 K (rInA K) bIn := fun x y vx vy S T H Qm Q k rx ry o ⟨c, ds, ec, ed, sc, sd, q⟩ => by
  rcases ed with ed | ed
  · exact .inl ⟨c, ds, rv_dat k rx ec, rv_dat k ry ed, sc, sd, o (.d (.bool _)) _ S H Ev.rfl' k (Dp.bl _) q⟩
  · subst ed
    exact .inr ⟨c, ds, rv_dat k rx ec, fz_dp ry, sc, sd, o (.d (.bool _)) _ S H Ev.rfl' k (Dp.bl _) q⟩
theorem sim_notIn : SimR2 K (rNotInD K) bNotIn := fun x y vx vy S T H Qm Q k rx ry o ⟨c, ds, ec, ed, sc, sd, q⟩ =>
  ⟨c, ds, rv_dat k rx ec, rv_dat k ry ed, sc, sd, o (.d (.bool _)) _ S H Ev.rfl' k (Dp.bl _) q⟩
theorem sim_ipAdd : SimR2 K (ipI fun i j => i + j) (bInt fun i j => .int (i + j)) := fun x y vx vy S T H Qm Q k rx ry o q => by
  unfold bInt at q
  split at q
  · cases rx; cases ry
    exact ⟨_, _, rfl, rfl, o (.d (.int _)) _ S H Ev.rfl' k (Dp.int _) q⟩
  · exact q.elim
end
theorem in_room {k : Nat} {A : Around} (hr : Room k A) : A.units + 65 < cLine := by
  have := hr.un
  omega

/-! ### a def of the text, as the top has left it -/
structure DefAt (K : PySem.W.Frag) (mg : Str → Option Value) (x : Str) (st : Stmt) (ps : List Str) (f : Addr) (fd : FuncData) : Prop where
  fn : Fun K x x st f fd
  at_ : mg x = some (.ref f)
  bb : ∀ (s : Shared) (us : List Value), us.length = ps.length → BindsTo s fd ⟨us, []⟩ (ps.zip us)
theorem DefAt.bd {K : PySem.W.Frag} {mg : Str → Option Value} {x : Str} {st : Stmt} {ps : List Str} {f : Addr} {fd : FuncData} (D : DefAt K mg x st ps f fd) : Binds K fd ps [] := fun s us _ hl => by
  rw [List.append_nil] at hl ⊢
  exact D.bb s us hl
theorem def_at {K : PySem.W.Frag} {mg : Str → Option Value} {h : Heap} {x : Str} {st : Stmt} {ps : List Str} {f : Addr} (X : K.In h) (G : h.Ns mainGlobals mg) {od an : Option Addr} {sl : Array (Option Value)} {oc kV doc pm cd ct : Value}
    (a : PySem.W.nsIn K mainGlobals x = some (some (.ref f))) (l : K.lookup f = some ⟨oc, od, .func (PySem.W.fnOf x x (defArgs st) (defBody st) (defScope st) .none kV doc pm an cd ct), sl⟩)
    (c : PySem.W.codeIn K cd x = true) (kp : PySem.W.keepIn K (.ref f) = true)
    (b : ∀ (kV doc pm : Value) (an : Option Addr) (cd ct : Value) (us : List Value), us.length = ps.length → bindArgs (PySem.W.fnOf x x (defArgs st) (defBody st) (defScope st) .none kV doc pm an cd ct) ⟨us, []⟩ = pure (ps.zip us)) :
    DefAt K mg x st ps f (PySem.W.fnOf x x (defArgs st) (defBody st) (defScope st) .none kV doc pm an cd ct) :=
  ⟨fun_mk (st := st) l c kp, PySem.W.mg_of X G a, fun s us hl => .of_eq (b kV doc pm an cd ct us hl)⟩
end Mi
namespace Mi
open PySem PySem.Spec PyProof.Rows L2

/-! ### reading the mirror -/
theorem atI_nat' {α : Type} (xs : List α) (n : Nat) : atI xs (n : Int) = xs[n]? := by
  unfold atI ixN
  rw [if_pos (Int.natCast_nonneg n)]
  by_cases h : (n : Int) < xs.length
  · rw [if_pos h]
    rfl
  · rw [if_neg h]
    exact (List.getElem?_eq_none (by omega)).symm
theorem atI_0 {α : Type} (xs : List α) : atI xs 0 = xs[0]? := atI_nat' xs 0
theorem atI_1 {α : Type} (xs : List α) : atI xs 1 = xs[1]? := atI_nat' xs 1
theorem atI_2 {α : Type} (xs : List α) : atI xs 2 = xs[2]? := atI_nat' xs 2
theorem atI_3 {α : Type} (xs : List α) : atI xs 3 = xs[3]? := atI_nat' xs 3
theorem atI_4 {α : Type} (xs : List α) : atI xs 4 = xs[4]? := atI_nat' xs 4
theorem atI_int {α : Type} {xs : List α} {i : Int} (h : 0 ≤ i) : atI xs i = xs[i.toNat]? := by
  have e : i = ((i.toNat : Nat) : Int) := by omega
  rw [e, atI_nat']
  rfl
theorem atI_map {α β : Type} (f : α → β) (xs : List α) (i : Int) : atI (xs.map f) i = (atI xs i).map f := by
  unfold atI
  rw [List.length_map]
  cases ixN xs.length i with
  | none => rfl
  | some j => exact List.getElem?_map
theorem bIx_tup (xs : List PyData) (i : Int) (S : Sto) (Q : QE) : bIx (.d (.tuple xs)) (.d (.int i)) S Q = ∃ v, atI xs i = some v ∧ Q (.d v) S := by
  unfold bIx seqOf
  simp only [Option.some.injEq, exists_eq_left', atI_map, Option.map_eq_some_iff]
  apply propext
  constructor
  · rintro ⟨_, v, rfl, h, q⟩
    rw [atI_map] at h
    obtain ⟨w, h1, h2⟩ := Option.map_eq_some_iff.mp h
    exact ⟨w, h1, by rw [h2]; exact q⟩
  · rintro ⟨v, h, q⟩
    exact ⟨_, .d v, rfl, by rw [atI_map, h]; rfl, q⟩
theorem bIx_lst (xs : List PyData) (i : Int) (S : Sto) (Q : QE) : bIx (.d (.list xs)) (.d (.int i)) S Q = ∃ v, atI xs i = some v ∧ Q (.d v) S := by
  unfold bIx seqOf
  apply propext
  constructor
  · rintro ⟨_, v, e, h, q⟩
    cases e
    rw [atI_map] at h
    obtain ⟨w, h1, h2⟩ := Option.map_eq_some_iff.mp h
    exact ⟨w, h1, by rw [h2]; exact q⟩
  · rintro ⟨v, h, q⟩
    exact ⟨_, .d v, rfl, by rw [atI_map, h]; rfl, q⟩
theorem seqOf_m {S : Sto} {a : Addr} {xs : List MV} (h : S a = some (.lst xs)) : seqOf S (.m a) = some xs := by
  show (match S a with | some (.lst xs) => some xs | _ => none) = some xs
  rw [h]
theorem lstOf_m {S : Sto} {a : Addr} {xs : List MV} (h : S a = some (.lst xs)) : lstOf S (.m a) = some xs := by
  show (match S a with | some (.lst xs) => some xs | _ => none) = some xs
  rw [h]
theorem bIx_m {xs : List MV} {a : Addr} {i : Int} {S : Sto} {Q : QE} (h : S a = some (.lst xs)) : bIx (.m a) (.d (.int i)) S Q = ∃ v, atI xs i = some v ∧ Q v S := by
  show (∃ xs v, seqOf S (.m a) = some xs ∧ atI xs i = some v ∧ Q v S) = _
  rw [seqOf_m h]
  apply propext
  constructor
  · rintro ⟨_, v, e, h, q⟩
    cases e
    exact ⟨v, h, q⟩
  · rintro ⟨v, h, q⟩
    exact ⟨_, v, rfl, h, q⟩
theorem lenV_tup (xs : List PyData) (S : Sto) (n : Nat) : lenV S (.d (.tuple xs)) n = (n = xs.length) := by
  unfold lenV seqOf
  apply propext
  constructor
  · rintro ⟨ys, e, h⟩
    cases e
    rw [h, List.length_map]
  · intro h
    exact ⟨_, rfl, by rw [h, List.length_map]⟩
theorem lenV_lst (xs : List PyData) (S : Sto) (n : Nat) : lenV S (.d (.list xs)) n = (n = xs.length) := by
  unfold lenV seqOf
  apply propext
  constructor
  · rintro ⟨ys, e, h⟩
    cases e
    rw [h, List.length_map]
  · intro h
    exact ⟨_, rfl, by rw [h, List.length_map]⟩
theorem lenV_m {S : Sto} {a : Addr} {xs : List MV} (h : S a = some (.lst xs)) (n : Nat) : lenV S (.m a) n = (n = xs.length) := by
  show (∃ xs, seqOf S (.m a) = some xs ∧ n = xs.length) = _
  rw [seqOf_m h]
  apply propext
  constructor
  · rintro ⟨ys, e, h⟩
    cases e
    exact h
  · intro h
    exact ⟨_, rfl, h⟩
theorem ex_eq_and {α : Type} {a : α} {p : α → Prop} : (∃ x, x = a ∧ p x) = p a := propext ⟨fun ⟨_, e, h⟩ => e ▸ h, fun h => ⟨a, rfl, h⟩⟩
theorem ex_eq_and' {α : Type} {a : α} {p : α → Prop} : (∃ x, a = x ∧ p x) = p a := propext ⟨fun ⟨_, e, h⟩ => e ▸ h, fun h => ⟨a, rfl, h⟩⟩

/-- a for, by what holds ahead of each turn -/
theorem forL_inv {g : MG} {b : CS} {ok : Sto → Prop} {D : ME} (I : Nat → Ro → Sto → Prop) : ∀ (xs : List MV) (k : Nat) (ρ : Ro) (S : Sto), I k ρ S → (∀ i ρ S, I i ρ S → ok S) →
    (∀ i x ρ S (N : Ro → Sto → Prop), xs[i]? = some x → I (k + i) ρ S → (∀ ρ' S', I (k + i + 1) ρ' S' → N ρ' S') → g x ρ S (fun ρ1 S1 => b { D with nx := N, ct := N, bk := D.nx } ρ1 S1) (fun x S' => D.ex x ρ S')) →
    (∀ ρ S, I (k + xs.length) ρ S → D.nx ρ S) → forL g b ok xs D ρ S
  | [], k, ρ, S, h0, hok, hs, hd => ⟨hok _ _ _ h0, hd ρ S h0⟩
  | x :: xs, k, ρ, S, h0, hok, hs, hd => by
    refine ⟨hok _ _ _ h0, hs 0 x ρ S _ rfl h0 ?_⟩
    intro ρ' S' h
    refine forL_inv I xs (k + 1) ρ' S' h hok ?_ ?_
    · intro i y ρ2 S2 N e hI hN
      refine hs (i + 1) y ρ2 S2 N e ?_ ?_
      · rw [show k + (i + 1) = k + 1 + i by omega]; exact hI
      · intro ρ3 S3 h3
        exact hN ρ3 S3 (by rw [show k + 1 + i + 1 = k + (i + 1) + 1 by omega]; exact h3)
    · intro ρ2 S2 h2
      exact hd ρ2 S2 (by rw [List.length_cons, show k + (xs.length + 1) = k + 1 + xs.length by omega]; exact h2)
/-- a comprehension whose turns leave the store as it is -/
theorem lcL_map {g : MG} {tt : CT} {te : CE} {ok : Sto → Prop} {ρ : Ro} {S : Sto} {α : Type} (e : α → MV) (p : α → Bool) (h : α → MV) {Q : List MV → Sto → Prop} (hok : ok S) : ∀ (xs : List α) (acc : List MV),
    (∀ a ∈ xs, ∀ (N : Sto → Prop) (M : MV → Sto → Prop), (p a = true → M (h a) S) → (p a = false → N S) → g (e a) ρ S (fun ρ1 S1 => tt ρ1 S1 (fun b S2 => if b = true then te ρ1 S2 M noX else N S2) noX) noX) →
    acc.length + xs.length ≤ sizeLine → Q (acc ++ (xs.filter p).map h) S → lcL g tt te ok (xs.map e) acc ρ S Q
  | [], acc, hs, hl, hq => by
    refine ⟨hok, ?_⟩
    rw [List.filter_nil, List.map_nil, List.append_nil] at hq
    exact hq
  | x :: xs, acc, hs, hl, hq => by
    rw [List.length_cons] at hl
    refine ⟨hok, hs x List.mem_cons_self _ _ ?_ ?_⟩
    · intro hp
      refine ⟨by omega, lcL_map e p h hok xs (acc ++ [h x]) (fun a ha => hs a (List.mem_cons_of_mem _ ha)) ?_ ?_⟩
      · rw [List.length_append, List.length_cons, List.length_nil]; omega
      · rw [List.filter_cons, if_pos hp, List.map_cons] at hq
        rw [List.append_assoc]
        exact hq
    · intro hp
      refine lcL_map e p h hok xs acc (fun a ha => hs a (List.mem_cons_of_mem _ ha)) (by omega) ?_
      rw [List.filter_cons, if_neg (by rw [hp]; exact Bool.false_ne_true)] at hq
      exact hq
/-- a comprehension by what holds ahead of each turn: for one whose turns draw -/
theorem lcL_inv {g : MG} {tt : CT} {te : CE} {ok : Sto → Prop} {ρ : Ro} {Q : List MV → Sto → Prop} (I : Nat → List MV → Sto → Prop) : ∀ (xs : List MV) (k : Nat) (acc : List MV) (S : Sto), I k acc S → (∀ i acc S, I i acc S → ok S) →
    (∀ i x acc S (N : List MV → Sto → Prop), xs[i]? = some x → I (k + i) acc S → (∀ acc' S', I (k + i + 1) acc' S' → N acc' S') →
      g x ρ S (fun ρ1 S1 => tt ρ1 S1 (fun b S2 => if b = true then te ρ1 S2 (fun y S3 => acc.length < sizeLine ∧ N (acc ++ [y]) S3) noX else N acc S2) noX) noX) →
    (∀ acc S, I (k + xs.length) acc S → Q acc S) → lcL g tt te ok xs acc ρ S Q
  | [], k, acc, S, h0, hok, hs, hd => ⟨hok _ _ _ h0, hd acc S h0⟩
  | x :: xs, k, acc, S, h0, hok, hs, hd => by
    refine ⟨hok _ _ _ h0, hs 0 x acc S (fun acc' S' => lcL g tt te ok xs acc' ρ S' Q) rfl h0 ?_⟩
    intro acc' S' h
    refine lcL_inv I xs (k + 1) acc' S' h hok ?_ ?_
    · intro i y acc2 S2 N e hI hN
      refine hs (i + 1) y acc2 S2 N e ?_ ?_
      · rw [show k + (i + 1) = k + 1 + i by omega]; exact hI
      · intro acc3 S3 h3
        exact hN acc3 S3 (by rw [show k + 1 + i + 1 = k + (i + 1) + 1 by omega]; exact h3)
    · intro acc2 S2 h2
      exact hd acc2 S2 (by rw [List.length_cons, show k + (xs.length + 1) = k + 1 + xs.length by omega]; exact h2)
end Mi
namespace Mi
open PySem PySem.Spec PyProof.Rows L2
theorem bIx_set {xs : List MV} {a : Addr} {i : Int} {S : Sto} {Q : QE} : bIx (.m a) (.d (.int i)) (sset S a (.lst xs)) Q = ∃ v, atI xs i = some v ∧ Q v (sset S a (.lst xs)) := bIx_m sset_same
theorem lenV_set {S : Sto} {a : Addr} {xs : List MV} (n : Nat) : lenV (sset S a (.lst xs)) (.m a) n = (n = xs.length) := lenV_m sset_same n
theorem ixN_21 : ixN 2 1 = some 1 := rfl
theorem ixN_20 : ixN 2 0 = some 0 := rfl
theorem atI_some {α : Type} {xs : List α} {i : Int} (h0 : 0 ≤ i) (h : i < xs.length) : atI xs i = some (xs[i.toNat]'(by omega)) := by
  rw [atI_int h0, List.getElem?_eq_getElem]
theorem atI_lt {α : Type} {xs : List α} {i : Int} (h0 : 0 ≤ i) (h : i < xs.length) : ∃ v, v ∈ xs ∧ atI xs i = some v := ⟨_, List.getElem_mem _, atI_some h0 h⟩
theorem set_1 {α : Type} {a b c : α} : [a, b].set 1 c = [a, c] := rfl
end Mi
namespace Mi
open PySem PySem.Spec PyProof.Rows L2
theorem rng_some {lo : Int} {n i : Nat} {x : MV} (h : (rng lo n)[i]? = some x) : i < n ∧ x = .d (.int (lo + (i : Nat))) := by
  have hi : i < n := by
    have := (List.getElem?_eq_some_iff.mp h).1
    rwa [rng_length] at this
  rw [rng_get hi] at h
  cases h
  exact ⟨hi, rfl⟩
end Mi
namespace Mi
open PySem PySem.Spec PyProof.Rows L2

/-! ### small data: how deep, how large -/
structure Sm (D B : Nat) (x : PyData) : Prop where
  lay : x.canLay0 = true
  deep : x.depth ≤ D
  show' : x.showable = true
  short : x.leavesShort 13 = true
  bulk : x.bulk ≤ B
theorem Sm.mono {D B D' B' : Nat} {x : PyData} (h : Sm D B x) (h1 : D ≤ D') (h2 : B ≤ B') : Sm D' B' x := ⟨h.lay, Nat.le_trans h.deep h1, h.show', h.short, Nat.le_trans h.bulk h2⟩
theorem Sm.fine {D B : Nat} {x : PyData} (h : Sm D B x) (h1 : D ≤ 64) (h2 : B ≤ 2 ^ 20) : Fine x :=
  ⟨h.lay, Nat.le_trans h.deep h1, h.show', PyData.shown_fits_bulk (B := 13) (by decide) (by decide) h.short (Nat.le_trans h.bulk h2)⟩
theorem Sm.shaped {D B : Nat} {x : PyData} (h : Sm D B x) (h1 : D ≤ 64) : SeqAt.shaped x = true := by
  unfold SeqAt.shaped
  rw [h.lay, decide_eq_true (Nat.le_trans h.deep h1)]
  rfl
theorem sm_none : Sm 0 0 .none := ⟨by simp [PyData.canLay0], by simp [PyData.depth], by simp [PyData.showable], by simp [PyData.leavesShort], by simp [PyData.bulk]⟩
theorem sm_bool (b : Bool) : Sm 0 0 (.bool b) := ⟨by simp [PyData.canLay0], by simp [PyData.depth], by simp [PyData.showable], by simp [PyData.leavesShort], by simp [PyData.bulk]⟩
theorem sm_int {i : Int} (h1 : -999999999999 ≤ i) (h2 : i ≤ 999999999999) : Sm 0 0 (.int i) := by
  refine ⟨by simp [PyData.canLay0], by simp [PyData.depth], ?_, ?_, by simp [PyData.bulk]⟩
  · unfold PyData.showable
    exact decide_eq_true (log2_small (Nat.lt_of_lt_of_le (show i.natAbs < 2 ^ 40 by omega) (Nat.pow_le_pow_right (by decide) (by decide))))
  · unfold PyData.leavesShort
    exact decide_eq_true (PyData.shown_int_le2 h1 h2)
theorem sm_str {z : Str} (h : z.cps.all (· < 0x110000) = true) : Sm 0 z.cps.size (.str z) := by
  refine ⟨?_, by simp [PyData.depth], by simp [PyData.showable], ?_, by simp [PyData.bulk]⟩
  · unfold PyData.canLay0
    exact h
  · unfold PyData.leavesShort
    rw [List.all_eq_true]
    intro c hc
    have hm : c ∈ z.cps := by simpa using hc
    have := (Array.all_eq_true_iff_forall_mem.mp h) c hm
    have h2 : c < 0x110000 := of_decide_eq_true this
    exact decide_eq_true (by omega)
theorem sm_all {D B : Nat} : ∀ {xs : List PyData}, (∀ x ∈ xs, Sm D B x) → PyData.canLayAll0 xs = true ∧ PyData.depthAll xs ≤ D ∧ PyData.showableAll xs = true ∧ PyData.leavesShortAll 13 xs = true ∧ PyData.bulkAll xs ≤ xs.length * (B + 1)
  | [], _ => by simp [PyData.canLayAll0, PyData.depthAll, PyData.showableAll, PyData.leavesShortAll, PyData.bulkAll]
  | x :: xs, h => by
    obtain ⟨h1, h2, h3, h4, h5⟩ := sm_all (xs := xs) fun y hy => h y (List.mem_cons_of_mem _ hy)
    have hx := h x List.mem_cons_self
    refine ⟨?_, ?_, ?_, ?_, ?_⟩
    · unfold PyData.canLayAll0; rw [hx.lay, h1]; rfl
    · unfold PyData.depthAll; have := hx.deep; omega
    · unfold PyData.showableAll; rw [hx.show', h3]; rfl
    · unfold PyData.leavesShortAll; rw [hx.short, h4]; rfl
    · unfold PyData.bulkAll
      rw [List.length_cons, Nat.succ_mul]
      have := hx.bulk
      omega
theorem sm_tuple {D B : Nat} {xs : List PyData} (h : ∀ x ∈ xs, Sm D B x) : Sm (D + 1) (xs.length * (B + 1)) (.tuple xs) := by
  obtain ⟨h1, h2, h3, h4, h5⟩ := sm_all h
  exact ⟨by unfold PyData.canLay0; exact h1, by unfold PyData.depth; omega, by unfold PyData.showable; exact h3, by unfold PyData.leavesShort; exact h4, by unfold PyData.bulk; exact h5⟩
theorem sm_list {D B : Nat} {xs : List PyData} (h : ∀ x ∈ xs, Sm D B x) : Sm (D + 1) (xs.length * (B + 1)) (.list xs) := by
  obtain ⟨h1, h2, h3, h4, h5⟩ := sm_all h
  exact ⟨by unfold PyData.canLay0; exact h1, by unfold PyData.depth; omega, by unfold PyData.showable; exact h3, by unfold PyData.leavesShort; exact h4, by unfold PyData.bulk; exact h5⟩
/-- of so many items at most -/
theorem sm_tupleN {D B n : Nat} {xs : List PyData} (h : ∀ x ∈ xs, Sm D B x) (hn : xs.length ≤ n) : Sm (D + 1) (n * (B + 1)) (.tuple xs) := (sm_tuple h).mono (Nat.le_refl _) (Nat.mul_le_mul_right _ hn)
theorem sm_listN {D B n : Nat} {xs : List PyData} (h : ∀ x ∈ xs, Sm D B x) (hn : xs.length ≤ n) : Sm (D + 1) (n * (B + 1)) (.list xs) := (sm_list h).mono (Nat.le_refl _) (Nat.mul_le_mul_right _ hn)
theorem sm_ints {xs : List Int} (h : ∀ i ∈ xs, -999999999999 ≤ i ∧ i ≤ 999999999999) : ∀ x ∈ xs.map PyData.int, Sm 0 0 x := by
  intro x hx
  obtain ⟨i, hi, rfl⟩ := List.mem_map.mp hx
  exact sm_int (h i hi).1 (h i hi).2

/-! ### == of data: at data without bools it is equality -/
mutual
theorem eqv_refl : ∀ x : PyData, x.hasDict = false → PyData.eqv x x = true
  | .none, _ => by simp [PyData.eqv]
  | .bool b, _ => by simp [PyData.eqv]
  | .int i, _ => by simp [PyData.eqv]
  | .str z, _ => by simp [PyData.eqv]
  | .list xs, h => by
    unfold PyData.eqv
    exact eqv_reflAll xs (by simpa [PyData.hasDict] using h)
  | .tuple xs, h => by
    unfold PyData.eqv
    exact eqv_reflAll xs (by simpa [PyData.hasDict] using h)
  | .dict _, h => by simp [PyData.hasDict] at h
theorem eqv_reflAll : ∀ xs : List PyData, PyData.hasDictAll xs = false → PyData.eqvAll xs xs = true
  | [], _ => by simp [PyData.eqvAll]
  | x :: xs, h => by
    have h' : x.hasDict = false ∧ PyData.hasDictAll xs = false := by simpa [PyData.hasDictAll] using h
    unfold PyData.eqvAll
    rw [eqv_refl x h'.1, eqv_reflAll xs h'.2]
    rfl
end
end Mi
namespace Mi
open PySem PySem.Spec PyProof.Rows L2
theorem zipD_map {α β : Type} (f : α → PyData) (g : β → PyData) : ∀ (xs : List α) (ys : List β), zipD (xs.map f) (ys.map g) = (List.zip xs ys).map fun p => .d (.tuple [f p.1, g p.2])
  | [], ys => by cases ys <;> rfl
  | x :: xs, [] => rfl
  | x :: xs, y :: ys => by
    have ih := zipD_map f g xs ys
    unfold zipD at ih ⊢
    rw [List.map_cons, List.map_cons, List.zip_cons_cons, List.map_cons, ih]
    rfl
theorem allD_of {α : Type} (f : α → PyData) (xs : List α) : allD (xs.map fun x => .d (f x)) = some (xs.map f) := by
  rw [← allD_map (xs.map f), List.map_map]
  rfl
theorem bools_of {α : Type} (f : α → Bool) (xs : List α) : bools ((xs.map fun x => PyData.bool (f x)).map .d) = some (xs.map f) := by
  rw [← bools_map (xs.map f), List.map_map, List.map_map]
  rfl
theorem filt_true {α : Type} (xs : List α) : xs.filter (fun _ => true) = xs := List.filter_eq_self.mpr fun _ _ => rfl
theorem rng_map (lo : Int) (n : Nat) : rng lo n = (List.range n).map fun i => .d (.int (lo + (i : Nat))) := rfl
end Mi
namespace Mi
open PySem PySem.Spec PyProof.Rows L2
theorem zip_range {α β : Type} (a : α) (b : β) (xs : List α) (ys : List β) (h : xs.length = ys.length) : List.zip xs ys = (List.range xs.length).map fun i => (xs.getD i a, ys.getD i b) := by
  apply List.ext_getElem?
  intro i
  by_cases hi : i < xs.length
  · have hj : i < ys.length := by omega
    have e : (List.zip xs ys)[i]? = some (xs[i], ys[i]) := List.getElem?_zip_eq_some.mpr ⟨by simp [hi], by simp [hj]⟩
    rw [e, List.getElem?_map, List.getElem?_range hi]
    simp [List.getD, hi, hj]
  · exact (List.getElem?_eq_none (by rw [List.length_zip]; exact Nat.le_trans (Nat.min_le_left _ _) (by omega))).trans (List.getElem?_eq_none (by rw [List.length_map, List.length_range]; omega)).symm
theorem map_range {α : Type} (a : α) (xs : List α) : (List.range xs.length).map (fun i => xs.getD i a) = xs := by
  apply List.ext_getElem?
  intro i
  by_cases hi : i < xs.length
  · rw [List.getElem?_map, List.getElem?_range hi]
    simp [List.getD, hi]
  · exact (List.getElem?_eq_none (by rw [List.length_map, List.length_range]; omega)).trans (List.getElem?_eq_none (by omega)).symm
theorem atI_getD {xs : List Int} {i : Nat} (h : i < xs.length) : atI xs (0 + (i : Int)) = some (xs.getD i 0) := by
  rw [Int.zero_add, atI_nat']
  simp [List.getD, h]
theorem isEmpty_filter {α : Type} (p : α → Bool) : ∀ xs : List α, (xs.filter p).isEmpty = xs.all fun x => !p x
  | [] => rfl
  | x :: xs => by
    rw [List.filter_cons, List.all_cons, ← isEmpty_filter p xs]
    cases p x <;> rfl
theorem eqv_nil (xs : List PyData) : PyData.eqv (.list xs) (.list []) = xs.isEmpty := by
  cases xs <;> simp [PyData.eqv, PyData.eqvAll]
end Mi
namespace Mi
theorem getD_mem {xs : List Int} {i : Nat} (h : i < xs.length) : xs.getD i 0 ∈ xs := by
  simp [List.getD, h]
end Mi
namespace Mi
open PySem PySem.Spec PyProof.Rows L2

/-! ### < <= > >= of data that are alike -/
def okLt (a b : PyData) : Prop := PySem.W.alike a b = true ∧ a ≠ .none ∧ SeqAt.shaped a = true ∧ SeqAt.shaped b = true
def bCmp (fi : Int → Int → Bool) (fd : PyData → PyData → Bool) : B2 := fun x y S Q => match x, y with
  | .d (.int i), .d (.int j) => Q (.d (.bool (fi i j))) S
  | x, y => ∃ a b, datOf S x = some a ∧ datOf S y = some b ∧ okLt a b ∧ Q (.d (.bool (fd a b))) S
abbrev bLtA : B2 := bCmp (fun i j => decide (i < j)) fun a b => PySem.W.dataLt a b
abbrev bLeA : B2 := bCmp (fun i j => decide (i ≤ j)) fun a b => !PySem.W.dataLt b a
abbrev bGtA : B2 := bCmp (fun i j => decide (j < i)) fun a b => PySem.W.dataLt b a
abbrev bGeA : B2 := bCmp (fun i j => decide (j ≤ i)) fun a b => !PySem.W.dataLt a b
def rCmpD (K : PySem.W.Frag) (f : PyData → PyData → Bool) : R2 := fun x y H Q => ∃ d e, Dp K H x d ∧ Dp K H y e ∧ okLt d e ∧ Q (.bl (f d e)) H
theorem deep_of {x : PyData} (h : SeqAt.shaped x = true) : x.depth ≤ 64 := by
  unfold SeqAt.shaped at h
  rw [Bool.and_eq_true] at h
  exact of_decide_eq_true h.2
theorem op_ltD {X : Cx} (hu : X.A.units + 64 < cLine) : OpR X (compareOp .Lt) (rCmpD X.K fun a b => PySem.W.dataLt a b) := by
  intro pins s σ H x y v u Q I rx ry h
  obtain ⟨d, e, hd, he, ⟨o1, o2, o3, o4⟩, q⟩ := h
  obtain ⟨as, r1⟩ := Dp.reads I d x v hd rx
  obtain ⟨bs, r2⟩ := Dp.reads I e y u he ry
  exact PySem.W.lt_data r1 r2 o1 o2 (by have := deep_of o3; omega) ⟨.bl _, H, I, rfl, q⟩
theorem op_gtD {X : Cx} (hu : X.A.units + 64 < cLine) : OpR X (compareOp .Gt) (rCmpD X.K fun a b => PySem.W.dataLt b a) := by
  intro pins s σ H x y v u Q I rx ry h
  obtain ⟨d, e, hd, he, ⟨o1, o2, o3, o4⟩, q⟩ := h
  obtain ⟨as, r1⟩ := Dp.reads I d x v hd rx
  obtain ⟨bs, r2⟩ := Dp.reads I e y u he ry
  exact PySem.W.gt_data r1 r2 o1 o2 (by have := deep_of o3; omega) ⟨.bl _, H, I, rfl, q⟩
theorem op_leD {X : Cx} (hu : X.A.units + 64 < cLine) : OpR X (compareOp .LtE) (rCmpD X.K fun a b => !PySem.W.dataLt b a) := by
  intro pins s σ H x y v u Q I rx ry h
  obtain ⟨d, e, hd, he, ⟨o1, o2, o3, o4⟩, q⟩ := h
  obtain ⟨as, r1⟩ := Dp.reads I d x v hd rx
  obtain ⟨bs, r2⟩ := Dp.reads I e y u he ry
  exact PySem.W.le_data r1 r2 o1 o2 (by have := deep_of o3; omega) ⟨.bl _, H, I, rfl, q⟩
theorem op_geD {X : Cx} (hu : X.A.units + 64 < cLine) : OpR X (compareOp .GtE) (rCmpD X.K fun a b => !PySem.W.dataLt a b) := by
  intro pins s σ H x y v u Q I rx ry h
  obtain ⟨d, e, hd, he, ⟨o1, o2, o3, o4⟩, q⟩ := h
  obtain ⟨as, r1⟩ := Dp.reads I d x v hd rx
  obtain ⟨bs, r2⟩ := Dp.reads I e y u he ry
  exact PySem.W.ge_data r1 r2 o1 o2 (by have := deep_of o3; omega) ⟨.bl _, H, I, rfl, q⟩
def rCmpA (K : PySem.W.Frag) (g : Int → Int → V) (f : PyData → PyData → Bool) : R2 := fun x y H Q => rI0 g x y H Q ∨ rCmpD K f x y H Q
theorem op_ltA {X : Cx} (hu : X.A.units + 64 < cLine) : OpR X (compareOp .Lt) (rCmpA X.K (fun i j => .bl (decide (i < j))) fun a b => PySem.W.dataLt a b) := op_lt.or (op_ltD hu)
theorem op_leA {X : Cx} (hu : X.A.units + 64 < cLine) : OpR X (compareOp .LtE) (rCmpA X.K (fun i j => .bl (decide (i ≤ j))) fun a b => !PySem.W.dataLt b a) := op_le.or (op_leD hu)
theorem op_gtA {X : Cx} (hu : X.A.units + 64 < cLine) : OpR X (compareOp .Gt) (rCmpA X.K (fun i j => .bl (decide (j < i))) fun a b => PySem.W.dataLt b a) := op_gt.or (op_gtD hu)
theorem op_geA {X : Cx} (hu : X.A.units + 64 < cLine) : OpR X (compareOp .GtE) (rCmpA X.K (fun i j => .bl (decide (j ≤ i))) fun a b => !PySem.W.dataLt a b) := op_ge.or (op_geD hu)
section
variable {K : PySem.W.Frag}
theorem sim_cmpA {fi : Int → Int → Bool} {f : PyData → PyData → Bool} : SimR2 K (rCmpA K (fun i j => .bl (fi i j)) f) (bCmp fi f) := fun x y vx vy S T H Qm Q k rx ry o q => by
  unfold bCmp at q
  split at q
  · cases rx; cases ry
    exact .inl ⟨_, _, rfl, rfl, o (.d (.bool _)) _ S H Ev.rfl' k (Dp.bl _) q⟩
  · obtain ⟨a, b, ea, eb, ok, q⟩ := q
    exact .inr ⟨a, b, rv_dat k rx ea, rv_dat k ry eb, ok, o (.d (.bool _)) _ S H Ev.rfl' k (Dp.bl _) q⟩
theorem sim_ltA : SimR2 K (rCmpA K (fun i j => .bl (decide (i < j))) fun a b => PySem.W.dataLt a b) bLtA := sim_cmpA
theorem sim_leA : SimR2 K (rCmpA K (fun i j => .bl (decide (i ≤ j))) fun a b => !PySem.W.dataLt b a) bLeA := sim_cmpA
theorem sim_gtA : SimR2 K (rCmpA K (fun i j => .bl (decide (j < i))) fun a b => PySem.W.dataLt b a) bGtA := sim_cmpA
theorem sim_geA : SimR2 K (rCmpA K (fun i j => .bl (decide (j ≤ i))) fun a b => !PySem.W.dataLt a b) bGeA := sim_cmpA
end
/-! what the order of tuples is -/
theorem lt_nil_nil : PySem.W.dataLt (.tuple []) (.tuple []) = false := by
  rw [PySem.W.dataLt_tuple]; rfl
theorem lt_nil_cons (y : PyData) (ys : List PyData) : PySem.W.dataLt (.tuple []) (.tuple (y :: ys)) = true := by
  rw [PySem.W.dataLt_tuple, PySem.W.toks_all_cons, PySem.W.keyToksAll]
  exact (PySem.W.lex_atom (by simp) _ _).trans (by decide)
theorem lt_cons_nil (x : PyData) (xs : List PyData) : PySem.W.dataLt (.tuple (x :: xs)) (.tuple []) = false := by
  rw [PySem.W.dataLt_tuple, PySem.W.toks_all_cons, PySem.W.keyToksAll]
  exact (PySem.W.lex_atom (by simp) _ _).trans (by decide)
theorem lt_cons {x y : PyData} (h : PySem.W.alike x y = true) (xs ys : List PyData) : PySem.W.dataLt (.tuple (x :: xs)) (.tuple (y :: ys)) = if PyData.eqv x y = true then PySem.W.dataLt (.tuple xs) (.tuple ys) else PySem.W.dataLt x y := by
  rw [PySem.W.dataLt_tuple, PySem.W.dataLt_tuple]
  cases e : PyData.eqv x y with
  | true => rw [PySem.W.dataLt_all_yes h e]; rfl
  | false => rw [PySem.W.dataLt_all_no h e]; rfl
end Mi
namespace K03
open PySem PySem.Spec PyProof.Rows L2 Mi
def topS (i : Nat) : Stmt := PySem.Challenge.pw_textatrest_k03_order_of_paths.main.body.getD i (.Pass ⟨0, 0, 0, 0⟩)
abbrev s_step_of : Stmt := topS 1
abbrev N_step_of : List Str := ["deed", "index"]
theorem sc_step_of : FnScope N_step_of ["deed", "index"] (defScope s_step_of) := ⟨rfl, rfl, rfl, by decide +kernel, rfl, by decide +kernel, by decide +kernel⟩
abbrev s_rank_of : Stmt := topS 3
abbrev N_rank_of : List Str := ["path", "clock", "hand", "index"]
theorem sc_rank_of : FnScope N_rank_of ["path"] (defScope s_rank_of) := ⟨rfl, rfl, rfl, by decide +kernel, rfl, by decide +kernel, by decide +kernel⟩
abbrev s__law_cell : Stmt := topS 5
abbrev N__law_cell : List Str := ["script", "k"]
theorem sc__law_cell : FnScope N__law_cell ["script", "k"] (defScope s__law_cell) := ⟨rfl, rfl, rfl, by decide +kernel, rfl, by decide +kernel, by decide +kernel⟩
abbrev s__law_first : Stmt := topS 22
abbrev N__law_first : List Str := ["one", "other", "k"]
theorem sc__law_first : FnScope N__law_first ["one", "other"] (defScope s__law_first) := ⟨rfl, rfl, rfl, by decide +kernel, rfl, by decide +kernel, by decide +kernel⟩
abbrev s__law_draw : Stmt := topS 27
abbrev N__law_draw : List Str := ["box", "many", "at"]
theorem sc__law_draw : FnScope N__law_draw ["box", "many"] (defScope s__law_draw) := ⟨rfl, rfl, rfl, by decide +kernel, rfl, by decide +kernel, by decide +kernel⟩
abbrev s__law_alike : Stmt := topS 28
abbrev N__law_alike : List Str := ["one", "two"]
theorem sc__law_alike : FnScope N__law_alike ["one", "two"] (defScope s__law_alike) := ⟨rfl, rfl, rfl, by decide +kernel, rfl, by decide +kernel, by decide +kernel⟩
abbrev s_comes_before : Stmt := topS 2
abbrev N_comes_before : List Str := ["one", "other"]
theorem sc_comes_before : FnScope N_comes_before ["one", "other"] (defScope s_comes_before) := ⟨rfl, rfl, rfl, by decide +kernel, rfl, by decide +kernel, by decide +kernel⟩
abbrev s__law_digits : Stmt := topS 6
abbrev N__law_digits : List Str := ["script", "first", "last", "digits", "k", "cell", "turn", "seed"]
theorem sc__law_digits : FnScope N__law_digits ["script", "first", "last"] (defScope s__law_digits) := ⟨rfl, rfl, rfl, by decide +kernel, rfl, by decide +kernel, by decide +kernel⟩
abbrev s__law_some_path : Stmt := topS 29
abbrev N__law_some_path : List Str := ["box", "paths", "path", "turn"]
theorem sc__law_some_path : FnScope N__law_some_path ["box", "paths"] (defScope s__law_some_path) := ⟨rfl, rfl, rfl, by decide +kernel, rfl, by decide +kernel, by decide +kernel⟩
abbrev s_law : Stmt := topS 30
abbrev N_law : List Str := ["script", "box", "paths", "turn", "one", "deed", "other"]
theorem sc_law : FnScope N_law ["script"] (defScope s_law) := ⟨rfl, rfl, rfl, by decide +kernel, rfl, by decide +kernel, by decide +kernel⟩
/-! the mirrors -/
def c_step_of : CS := (cRet (eTup (aCons (eOp bIx (eVar 0) (eC (.int 2))) (aCons (eOp bIx (eVar 0) (eC (.int 0))) (aCons (eVar 1) aNil)))))
def m_step_of : Fm := fun rs S Q _ => fnM 2 c_step_of rs S Q noX
def c_rank_of : CS := (cRet (eCB bTuple (aCons (eLc (iSeq (eVar 0)) (mTup 3 (mNames [1, 2, 3])) cYes (eTup (aCons (eUn bNeg (eVar 1)) (aCons (eUn bNeg (eVar 2)) (aCons (eVar 3) aNil)))) [1, 2, 3]) aNil)))
def m_rank_of : Fm := fun rs S Q _ => fnM 4 c_rank_of rs S Q noX
def c__law_cell : CS := (cSeq (cIf (cB (eOp bLtA (eVar 1) (eCB bLen (aCons (eVar 0) aNil)))) (cRet (eOp bIx (eVar 0) (eVar 1))) cNext) (cRet (eC (.int 0))))
def m__law_cell : Fm := fun rs S Q _ => fnM 2 c__law_cell rs S Q noX
def c__law_first_6 : CS := (cRet (eOp bLtA (eCB bLen (aCons (eVar 0) aNil)) (eCB bLen (aCons (eVar 1) aNil))))
def c__law_first_5 : CS := (cRet (eOp bGtA (eSlice (eOp bIx (eVar 0) (eVar 2)) oNone (oSome (eC (.int 2)))) (eSlice (eOp bIx (eVar 1) (eVar 2)) oNone (oSome (eC (.int 2))))))
def c__law_first_4 : CS := (cRet (eOp bLtA (eOp bIx (eOp bIx (eVar 0) (eVar 2)) (eC (.int 2))) (eOp bIx (eOp bIx (eVar 1) (eVar 2)) (eC (.int 2)))))
def c__law_first_3 : CS := (cSeq (cIf (cB (eOp bEq (eSlice (eOp bIx (eVar 0) (eVar 2)) oNone (oSome (eC (.int 2)))) (eSlice (eOp bIx (eVar 1) (eVar 2)) oNone (oSome (eC (.int 2)))))) c__law_first_4 cNext) c__law_first_5)
def c__law_first_2 : CS := (cIf (cB (eOp bNe (eOp bIx (eVar 0) (eVar 2)) (eOp bIx (eVar 1) (eVar 2)))) c__law_first_3 cNext)
def c__law_first_1 : CS := (cSeq (cFor (iRange1 (aCons (eCB (b2Int fun i j => if j < i then j else i) (aCons (eCB bLen (aCons (eVar 0) aNil)) (aCons (eCB bLen (aCons (eVar 1) aNil)) aNil))) aNil)) (mName 2) c__law_first_2) c__law_first_6)
abbrev c__law_first : CS := c__law_first_1
def m__law_first : Fm := fun rs S Q _ => fnM 3 c__law_first rs S Q noX
def c__law_draw : CS := (cSeq (cAsg (eOp bIx (eVar 0) (eC (.int 1))) (mName 2)) (cSeq (cAsg (eOp bAdd (eVar 2) (eC (.int 1))) (mSub (eVar 0) (eC (.int 1)))) (cSeq (cIf (cB (eOp bLtA (eVar 2) (eCB bLen (aCons (eOp bIx (eVar 0) (eC (.int 0))) aNil)))) (cRet (eOp bMod (eCB bIntOf (aCons (eOp bIx (eOp bIx (eVar 0) (eC (.int 0))) (eVar 2)) aNil)) (eVar 1))) cNext) (cRet (eOp bMod (eCB bIntOf (aCons (eOp bAdd (eOp bMulA (eVar 2) (eC (.int 7))) (eC (.int 3))) aNil)) (eVar 1))))))
def m__law_draw : Fm := fun rs S Q _ => fnM 3 c__law_draw rs S Q noX
def c__law_alike : CS := (cRet (eOp bEq (eCB bRepr (aCons (eVar 0) aNil)) (eCB bRepr (aCons (eVar 1) aNil))))
def m__law_alike : Fm := fun rs S Q _ => fnM 2 c__law_alike rs S Q noX
def c_comes_before : CS := (cRet (eOp bLtA (eFn 1 m_rank_of (aCons (eVar 0) aNil)) (eFn 1 m_rank_of (aCons (eVar 1) aNil))))
def m_comes_before : Fm := fun rs S Q _ => fnM 2 c_comes_before rs S Q noX
def c__law_digits_16 : CS := (cRet (eFrz (eVar 3)))
def c__law_digits_10 : CS := (cAsg (eOp bFdiv (eVar 5) (eC (.int 1000))) (mName 5))
def c__law_digits_9 : CS := (cSeq (cDrop (eAppend (eVar 3) (aCons (eOp bMod (eCB bIntOf (aCons (eVar 5) aNil)) (eC (.int 1000))) aNil))) c__law_digits_10)
def c__law_digits_8 : CS := (cIf (cB (eOp bGtA (eVar 5) (eC (.int 0)))) c__law_digits_9 cNext)
def c__law_digits_7 : CS := (cFor (iRange1 (aCons (eC (.int 60)) aNil)) (mName 6) c__law_digits_8)
def c__law_digits_15 : CS := (cDrop (eAppend (eVar 3) (aCons (eOp bMod (eCB bIntOf (aCons (eOp bFdiv (eVar 7) (eC (.int 1009))) aNil)) (eC (.int 1000))) aNil)))
def c__law_digits_14 : CS := (cSeq (cAsg (eOp bMod (eCB bIntOf (aCons (eOp bAdd (eOp bAdd (eOp bMulA (eVar 7) (eC (.int 40014))) (eOp bMulA (eC (.int 5)) (eVar 6))) (eC (.int 3))) aNil)) (eC (.int 2147483563))) (mName 7)) c__law_digits_15)
def c__law_digits_13 : CS := (cFor (iRange1 (aCons (eC (.int 12)) aNil)) (mName 6) c__law_digits_14)
def c__law_digits_12 : CS := (cSeq (cAsg (eOp bMod (eCB bIntOf (aCons (eOp bAdd (eOp bAdd (eOp bMulA (eVar 5) (eC (.int 40692))) (eOp bMulA (eVar 4) (eC (.int 52774)))) (eC (.int 17))) aNil)) (eC (.int 2147483399))) (mName 7)) c__law_digits_13)
def c__law_digits_6 : CS := (cIf (cB (eOp bGeA (eVar 5) (eC (.int 1000000000000000000)))) c__law_digits_7 c__law_digits_12)
def c__law_digits_5 : CS := (cAsg (eOp bSub (eC (.int 1)) (eOp bMulA (eC (.int 2)) (eVar 5))) (mName 5))
def c__law_digits_4 : CS := (cSeq (cIf (cB (eOp bLtA (eVar 5) (eC (.int 0)))) c__law_digits_5 cNext) c__law_digits_6)
def c__law_digits_3 : CS := (cSeq (cAsg (eFn 2 m__law_cell (aCons (eVar 0) (aCons (eVar 4) aNil))) (mName 5)) c__law_digits_4)
def c__law_digits_2 : CS := (cSeq (cFor (iRange2 (aCons (eVar 1) (aCons (eVar 2) aNil))) (mName 4) c__law_digits_3) c__law_digits_16)
def c__law_digits_1 : CS := (cSeq (cAsg (eLstM aNil) (mName 3)) c__law_digits_2)
abbrev c__law_digits : CS := c__law_digits_1
def m__law_digits : Fm := fun rs S Q _ => fnM 8 c__law_digits rs S Q noX
def c__law_some_path_7 : CS := (cRet (eSlice (eVar 2) oNone (oSome (eC (.int 4)))))
def c__law_some_path_6 : CS := (cAsg (eOp bAdd (eVar 2) (eTup (aCons (eTup (aCons (eOp bAdd (eC (.int 1)) (eFn 2 m__law_draw (aCons (eVar 0) (aCons (eC (.int 3)) aNil)))) (aCons (eFn 2 m__law_draw (aCons (eVar 0) (aCons (eC (.int 2)) aNil))) (aCons (eFn 2 m__law_draw (aCons (eVar 0) (aCons (eC (.int 3)) aNil))) aNil)))) aNil))) (mName 2))
def c__law_some_path_5 : CS := (cSeq (cFor (iRange1 (aCons (eOp bAdd (eC (.int 1)) (eFn 2 m__law_draw (aCons (eVar 0) (aCons (eC (.int 2)) aNil)))) aNil)) (mName 3) c__law_some_path_6) c__law_some_path_7)
def c__law_some_path_4 : CS := (cAsg (eSlice (eVar 2) oNone (oSome (eFn 2 m__law_draw (aCons (eVar 0) (aCons (eOp bAdd (eCB bLen (aCons (eVar 2) aNil)) (eC (.int 1))) aNil))))) (mName 2))
def c__law_some_path_3 : CS := (cSeq (cAsg (eOp bIx (eVar 1) (eFn 2 m__law_draw (aCons (eVar 0) (aCons (eCB bLen (aCons (eVar 1) aNil)) aNil)))) (mName 2)) c__law_some_path_4)
def c__law_some_path_2 : CS := (cSeq (cIf (cAnd (cB (eOp bNe (eVar 1) (eLst aNil))) (cB (eOp bEq (eFn 2 m__law_draw (aCons (eVar 0) (aCons (eC (.int 2)) aNil))) (eC (.int 0))))) c__law_some_path_3 cNext) c__law_some_path_5)
def c__law_some_path_1 : CS := (cSeq (cAsg (eTup aNil) (mName 2)) c__law_some_path_2)
abbrev c__law_some_path : CS := c__law_some_path_1
def m__law_some_path : Fm := fun rs S Q _ => fnM 4 c__law_some_path rs S Q noX
def c_law_12 : CS := (cRet (eOp bEq (eFn 2 m_step_of (aCons (eVar 5) (aCons (eC (.int 2)) aNil))) (eTup (aCons (eC (.int 7)) (aCons (eC (.int 1)) (aCons (eC (.int 2)) aNil))))))
def c_law_11 : CS := (cSeq (cAsg (eTup (aCons (eC (.int 1)) (aCons (eC (.int 0)) (aCons (eC (.int 7)) (aCons (eTup (aCons (eC (.int 0)) (aCons (eC (.int 0)) aNil))) (aCons (eTup (aCons (eC (.str "put")) (aCons (eC .none) (aCons (eC (.str "abc")) aNil)))) aNil)))))) (mName 5)) c_law_12)
def c_law_10 : CS := (cRet (eC (.bool false)))
def c_law_9 : CS := (cIf (cAnd (cB (eOp bNe (eVar 4) (eVar 6))) (cB (eOp bEq (eFn 2 m_comes_before (aCons (eVar 4) (aCons (eVar 6) aNil))) (eFn 2 m_comes_before (aCons (eVar 6) (aCons (eVar 4) aNil)))))) c_law_10 cNext)
def c_law_8 : CS := (cRet (eC (.bool false)))
def c_law_7 : CS := (cSeq (cIf (cNot (cTru (eFn 2 m__law_alike (aCons (eFn 2 m_comes_before (aCons (eVar 4) (aCons (eVar 6) aNil))) (aCons (eFn 2 m__law_first (aCons (eVar 4) (aCons (eVar 6) aNil))) aNil))))) c_law_8 cNext) c_law_9)
def c_law_6 : CS := (cFor (iSeq (eVar 2)) (mName 6) c_law_7)
def c_law_5 : CS := (cSeq (cFor (iSeq (eVar 2)) (mName 4) c_law_6) c_law_11)
def c_law_4 : CS := (cDrop (eAppend (eVar 2) (aCons (eFn 2 m__law_some_path (aCons (eVar 1) (aCons (eVar 2) aNil))) aNil)))
def c_law_3 : CS := (cSeq (cFor (iRange1 (aCons (eC (.int 8)) aNil)) (mName 3) c_law_4) c_law_5)
def c_law_2 : CS := (cSeq (cAsg (eLstM aNil) (mName 2)) c_law_3)
def c_law_1 : CS := (cSeq (cAsg (eLstM (aCons (eFn 3 m__law_digits (aCons (eVar 0) (aCons (eC (.int 0)) (aCons (eC (.int 63)) aNil)))) (aCons (eC (.int 0)) aNil))) (mName 1)) c_law_2)
abbrev c_law : CS := c_law_1
def m_law : Fm := fun rs S Q _ => fnM 7 c_law rs S Q noX
/-! what the top holds -/
structure Tops (K : PySem.W.Frag) (mg : Str → Option Value) where
  f_step_of : Addr
  x_step_of : FuncData
  d_step_of : DefAt K mg "step_of" s_step_of ["deed", "index"] f_step_of x_step_of
  f_rank_of : Addr
  x_rank_of : FuncData
  d_rank_of : DefAt K mg "rank_of" s_rank_of ["path"] f_rank_of x_rank_of
  f__law_cell : Addr
  x__law_cell : FuncData
  d__law_cell : DefAt K mg "_law_cell" s__law_cell ["script", "k"] f__law_cell x__law_cell
  f__law_first : Addr
  x__law_first : FuncData
  d__law_first : DefAt K mg "_law_first" s__law_first ["one", "other"] f__law_first x__law_first
  f__law_draw : Addr
  x__law_draw : FuncData
  d__law_draw : DefAt K mg "_law_draw" s__law_draw ["box", "many"] f__law_draw x__law_draw
  f__law_alike : Addr
  x__law_alike : FuncData
  d__law_alike : DefAt K mg "_law_alike" s__law_alike ["one", "two"] f__law_alike x__law_alike
  f_comes_before : Addr
  x_comes_before : FuncData
  d_comes_before : DefAt K mg "comes_before" s_comes_before ["one", "other"] f_comes_before x_comes_before
  f__law_digits : Addr
  x__law_digits : FuncData
  d__law_digits : DefAt K mg "_law_digits" s__law_digits ["script", "first", "last"] f__law_digits x__law_digits
  f__law_some_path : Addr
  x__law_some_path : FuncData
  d__law_some_path : DefAt K mg "_law_some_path" s__law_some_path ["box", "paths"] f__law_some_path x__law_some_path
  f_law : Addr
  x_law : FuncData
  d_law : DefAt K mg "law" s_law ["script"] f_law x_law
  b_int : mg "int" = none
  b_len : mg "len" = none
  b_min : mg "min" = none
  b_range : mg "range" = none
  b_repr : mg "repr" = none
  b_tuple : mg "tuple" = none
section
variable {P : Program} {w : World} {K : PySem.W.Frag} {mg : Str → Option Value} {base : Heap}
theorem ok_step_of (T : Tops K mg) : FnD P w K mg base CX0 1 T.f_step_of T.x_step_of ["deed", "index"] m_step_of := by
  refine fnD T.d_step_of.fn sc_step_of fun cd A l s H E hg hr => ?_
  exact ⟨_, (pss_one (ps_ret (pe_tup (pa_cons (pe_ix ix_seq (pv 0) pe_int (fun _ _ => rfl)) (pa_cons (pe_ix ix_seq (pv 0) pe_int (fun _ _ => rfl)) (pa_cons (pv 1) pa_nil)))))), (sim_ret (sim_tup (sim_cons (sim_op sim_ix (sim_var 0) sim_int) (sim_cons (sim_op sim_ix (sim_var 0) sim_int) (sim_cons (sim_var 1) sim_nil)))))⟩
theorem ok_rank_of (T : Tops K mg) : FnD P w K mg base CX0 1 T.f_rank_of T.x_rank_of ["path"] m_rank_of := by
  refine fnD T.d_rank_of.fn sc_rank_of fun cd A l s H E hg hr => ?_
  exact ⟨_, (pss_one (ps_ret (pe_callTy call_tuple_of (by rfl) T.b_tuple (by decide +kernel) (pa_cons (pe_lc (own := [("clock", 1), ("hand", 2), ("index", 3)]) (by rfl) sc_rank_of.nd (pi_seqA (pv 0)) (blkOk_by (own := [("clock", 1), ("hand", 2), ("index", 3)]) (N := N_rank_of) (sc := defScope s_rank_of) (by decide +kernel)) (fun _ _ _ _ _ => (pg_tup (by rfl) (pgs_cons (pg_name (i := 1) sc_rank_of.nd rfl (by first | exact Or.inl rfl | exact Or.inr rfl)) (pgs_cons (pg_name (i := 2) sc_rank_of.nd rfl (by first | exact Or.inl rfl | exact Or.inr rfl)) (pgs_cons (pg_name (i := 3) sc_rank_of.nd rfl (by first | exact Or.inl rfl | exact Or.inr rfl)) pgs_nil))))) (fun _ _ _ _ _ => pts_nil) (fun _ _ _ _ _ => (pe_tup (pa_cons (pe_un un_neg (pv 1)) (pa_cons (pe_un un_neg (pv 2)) (pa_cons (pv 3) pa_nil)))))) pa_nil)))), (sim_ret (sim_cb sim_tuple (sim_cons (sim_lc fin_D (kps_tup (kps_names [1, 2, 3] (by decide))) (sim_iSeq (sim_var 0)) (sim_tupN [1, 2, 3] 3) sim_yes (sim_tup (sim_cons (sim_un sim_neg (sim_var 1)) (sim_cons (sim_un sim_neg (sim_var 2)) (sim_cons (sim_var 3) sim_nil))))) sim_nil)))⟩
theorem ok__law_cell (T : Tops K mg) : FnD P w K mg base CX0 1 T.f__law_cell T.x__law_cell ["script", "k"] m__law_cell := by
  refine fnD T.d__law_cell.fn sc__law_cell fun cd A l s H E hg hr => ?_
  exact ⟨_, (pss_cons (ps_if (pt_cmpR (op_ltA hr.units) (pv 1) (pe_callB call_len (by rfl) T.b_len (by decide +kernel) (pa_cons (pv 0) pa_nil)) (nomark _)) (pss_one (ps_ret (pe_ix ix_seq (pv 0) (pv 1) (fun _ _ => rfl)))) pss_nil) (pss_one (ps_ret pe_int))), (sim_seq (sim_ifS (sim_test (sim_op sim_ltA (sim_var 1) (sim_cb sim_len (sim_cons (sim_var 0) sim_nil)))) (sim_ret (sim_op sim_ix (sim_var 0) (sim_var 1))) sim_next) (sim_ret sim_int))⟩
theorem ok__law_first (T : Tops K mg) : FnD P w K mg base CX0 1 T.f__law_first T.x__law_first ["one", "other"] m__law_first := by
  refine fnD T.d__law_first.fn sc__law_first fun cd A l s H E hg hr => ?_
  exact ⟨_, (pss_cons (ps_for PassesOwn.never (by rfl) (pi_range1 (by rfl) T.b_range (pa_cons (pe_callB (call_min2 (by rfl)) (by rfl) T.b_min (by decide +kernel) (pa_cons (pe_callB call_len (by rfl) T.b_len (by decide +kernel) (pa_cons (pv 0) pa_nil)) (pa_cons (pe_callB call_len (by rfl) T.b_len (by decide +kernel) (pa_cons (pv 1) pa_nil)) pa_nil))) pa_nil)) (pg_name (i := 2) sc__law_first.nd rfl (by first | exact Or.inl rfl | exact Or.inr rfl)) (pss_one (ps_if (pt_cmpR (op_neA hr.units) (pe_ix ix_seq (pv 0) (pv 2) (fun _ _ => rfl)) (pe_ix ix_seq (pv 1) (pv 2) (fun _ _ => rfl)) (nomark _)) (pss_cons (ps_if (pt_cmpR (op_eqA hr.units) (pe_slice sl_any (pe_ix ix_seq (pv 0) (pv 2) (fun _ _ => rfl)) po_none (po_some pe_int)) (pe_slice sl_any (pe_ix ix_seq (pv 1) (pv 2) (fun _ _ => rfl)) po_none (po_some pe_int)) (nomark _)) (pss_one (ps_ret (pe_cmpR (op_ltA hr.units) (pe_ix ix_seq (pe_ix ix_seq (pv 0) (pv 2) (fun _ _ => rfl)) pe_int (fun _ _ => rfl)) (pe_ix ix_seq (pe_ix ix_seq (pv 1) (pv 2) (fun _ _ => rfl)) pe_int (fun _ _ => rfl)) (nomark _)))) pss_nil) (pss_one (ps_ret (pe_cmpR (op_gtA hr.units) (pe_slice sl_any (pe_ix ix_seq (pv 0) (pv 2) (fun _ _ => rfl)) po_none (po_some pe_int)) (pe_slice sl_any (pe_ix ix_seq (pv 1) (pv 2) (fun _ _ => rfl)) po_none (po_some pe_int)) (nomark _))))) pss_nil))) (pss_one (ps_ret (pe_cmpR (op_ltA hr.units) (pe_callB call_len (by rfl) T.b_len (by decide +kernel) (pa_cons (pv 0) pa_nil)) (pe_callB call_len (by rfl) T.b_len (by decide +kernel) (pa_cons (pv 1) pa_nil)) (nomark _))))), (sim_cut c__law_first_1.eq_1 (sim_seq (sim_for (sim_range1 (sim_cons (sim_cb sim_b2 (sim_cons (sim_cb sim_len (sim_cons (sim_var 0) sim_nil)) (sim_cons (sim_cb sim_len (sim_cons (sim_var 1) sim_nil)) sim_nil))) sim_nil)) (sim_name 2) (sim_cut c__law_first_2.eq_1 (sim_ifS (sim_test (sim_op sim_ne (sim_op sim_ix (sim_var 0) (sim_var 2)) (sim_op sim_ix (sim_var 1) (sim_var 2)))) (sim_cut c__law_first_3.eq_1 (sim_seq (sim_ifS (sim_test (sim_op sim_eq (sim_slice (sim_op sim_ix (sim_var 0) (sim_var 2)) simO_none (simO_some sim_int)) (sim_slice (sim_op sim_ix (sim_var 1) (sim_var 2)) simO_none (simO_some sim_int)))) (sim_cut c__law_first_4.eq_1 (sim_ret (sim_op sim_ltA (sim_op sim_ix (sim_op sim_ix (sim_var 0) (sim_var 2)) sim_int) (sim_op sim_ix (sim_op sim_ix (sim_var 1) (sim_var 2)) sim_int)))) sim_next) (sim_cut c__law_first_5.eq_1 (sim_ret (sim_op sim_gtA (sim_slice (sim_op sim_ix (sim_var 0) (sim_var 2)) simO_none (simO_some sim_int)) (sim_slice (sim_op sim_ix (sim_var 1) (sim_var 2)) simO_none (simO_some sim_int))))))) sim_next))) (sim_cut c__law_first_6.eq_1 (sim_ret (sim_op sim_ltA (sim_cb sim_len (sim_cons (sim_var 0) sim_nil)) (sim_cb sim_len (sim_cons (sim_var 1) sim_nil)))))))⟩
theorem ok__law_draw (T : Tops K mg) : FnD P w K mg base CX0 1 T.f__law_draw T.x__law_draw ["box", "many"] m__law_draw := by
  refine fnD T.d__law_draw.fn sc__law_draw fun cd A l s H E hg hr => ?_
  exact ⟨_, (pss_cons (ps_set (i := 2) sc__law_draw.nd rfl (by first | exact Or.inl rfl | exact Or.inr rfl) (pe_ix ix_seq (pv 0) pe_int (fun _ _ => rfl))) (pss_cons (ps_asg (pe_op op_addA (pv 2) pe_int) (pg_sub (pv 0) pe_int set_list)) (pss_cons (ps_if (pt_cmpR (op_ltA hr.units) (pv 2) (pe_callB call_len (by rfl) T.b_len (by decide +kernel) (pa_cons (pe_ix ix_seq (pv 0) pe_int (fun _ _ => rfl)) pa_nil)) (nomark _)) (pss_one (ps_ret (pe_op op_mod (pe_callTy call_int1 (by rfl) T.b_int (by decide +kernel) (pa_cons (pe_ix ix_seq (pe_ix ix_seq (pv 0) pe_int (fun _ _ => rfl)) (pv 2) (fun _ _ => rfl)) pa_nil)) (pv 1)))) pss_nil) (pss_one (ps_ret (pe_op op_mod (pe_callTy call_int1 (by rfl) T.b_int (by decide +kernel) (pa_cons (pe_op op_addA (pe_op op_mulA (pv 2) pe_int) pe_int) pa_nil)) (pv 1))))))), (sim_seq (sim_asg (sim_op sim_ix (sim_var 0) sim_int) (sim_name 2)) (sim_seq (sim_asg (sim_op sim_addA (sim_var 2) sim_int) (sim_subG (sim_var 0) sim_int)) (sim_seq (sim_ifS (sim_test (sim_op sim_ltA (sim_var 2) (sim_cb sim_len (sim_cons (sim_op sim_ix (sim_var 0) sim_int) sim_nil)))) (sim_ret (sim_op sim_mod (sim_cb sim_intOf (sim_cons (sim_op sim_ix (sim_op sim_ix (sim_var 0) sim_int) (sim_var 2)) sim_nil)) (sim_var 1))) sim_next) (sim_ret (sim_op sim_mod (sim_cb sim_intOf (sim_cons (sim_op sim_addA (sim_op sim_mulA (sim_var 2) sim_int) sim_int) sim_nil)) (sim_var 1))))))⟩
theorem ok__law_alike (T : Tops K mg) : FnD P w K mg base CX0 1 T.f__law_alike T.x__law_alike ["one", "two"] m__law_alike := by
  refine fnD T.d__law_alike.fn sc__law_alike fun cd A l s H E hg hr => ?_
  exact ⟨_, (pss_one (ps_ret (pe_cmpR (op_eqA hr.units) (pe_callB (call_repr hg (rep_room hr)) (by rfl) T.b_repr (by decide +kernel) (pa_cons (pv 0) pa_nil)) (pe_callB (call_repr hg (rep_room hr)) (by rfl) T.b_repr (by decide +kernel) (pa_cons (pv 1) pa_nil)) (nomark _)))), (sim_ret (sim_op sim_eq (sim_cb sim_repr (sim_cons (sim_var 0) sim_nil)) (sim_cb sim_repr (sim_cons (sim_var 1) sim_nil))))⟩
theorem ok_comes_before (T : Tops K mg) : FnD P w K mg base CX0 2 T.f_comes_before T.x_comes_before ["one", "other"] m_comes_before := by
  refine fnD T.d_comes_before.fn sc_comes_before fun cd A l s H E hg hr => ?_
  exact ⟨_, (pss_one (ps_ret (pe_cmpR (op_ltA hr.units) (pe_callG (ok_rank_of T) hg (hr.mono (by decide)) (by rfl) T.d_rank_of.at_ T.d_rank_of.fn.kp T.d_rank_of.bd pass0S (pa_cons (pv 0) pa_nil)) (pe_callG (ok_rank_of T) hg (hr.mono (by decide)) (by rfl) T.d_rank_of.at_ T.d_rank_of.fn.kp T.d_rank_of.bd pass0S (pa_cons (pv 1) pa_nil)) (nomark _)))), (sim_ret (sim_op sim_ltA (sim_call (sim_cons (sim_var 0) sim_nil)) (sim_call (sim_cons (sim_var 1) sim_nil))))⟩
theorem ok__law_digits (T : Tops K mg) : FnD P w K mg base CX0 2 T.f__law_digits T.x__law_digits ["script", "first", "last"] m__law_digits := by
  refine fnD T.d__law_digits.fn sc__law_digits fun cd A l s H E hg hr => ?_
  exact ⟨_, (pss_cons (ps_set (i := 3) sc__law_digits.nd rfl (by first | exact Or.inl rfl | exact Or.inr rfl) (pe_lst pa_nil)) (pss_cons (ps_for PassesOwn.never (by rfl) (pi_range2 (by rfl) T.b_range (pa_cons (pv 1) (pa_cons (pv 2) pa_nil))) (pg_name (i := 4) sc__law_digits.nd rfl (by first | exact Or.inl rfl | exact Or.inr rfl)) (pss_cons (ps_set (i := 5) sc__law_digits.nd rfl (by first | exact Or.inl rfl | exact Or.inr rfl) (pe_callG (ok__law_cell T) hg (hr.mono (by decide)) (by rfl) T.d__law_cell.at_ T.d__law_cell.fn.kp T.d__law_cell.bd pass0S (pa_cons (pv 0) (pa_cons (pv 4) pa_nil)))) (pss_cons (ps_if (pt_cmpR (op_ltA hr.units) (pv 5) pe_int (nomark _)) (pss_one (ps_set (i := 5) sc__law_digits.nd rfl (by first | exact Or.inl rfl | exact Or.inr rfl) (pe_op op_sub pe_int (pe_op op_mulA pe_int (pv 5))))) pss_nil) (pss_one (ps_if (pt_cmpR (op_geA hr.units) (pv 5) pe_int (nomark _)) (pss_one (ps_for PassesOwn.never (by rfl) (pi_range1 (by rfl) T.b_range (pa_cons pe_int pa_nil)) (pg_name (i := 6) sc__law_digits.nd rfl (by first | exact Or.inl rfl | exact Or.inr rfl)) (pss_one (ps_if (pt_cmpR (op_gtA hr.units) (pv 5) pe_int (nomark _)) (pss_cons (ps_expr (pe_bm PySem.F.plainAttrs_list PySem.F.slot_list_append PySem.F.type_list_append mt_append (pv 3) (pa_cons (pe_op op_mod (pe_callTy call_int1 (by rfl) T.b_int (by decide +kernel) (pa_cons (pv 5) pa_nil)) pe_int) pa_nil))) (pss_one (ps_set (i := 5) sc__law_digits.nd rfl (by first | exact Or.inl rfl | exact Or.inr rfl) (pe_op op_fdiv (pv 5) pe_int)))) pss_nil)))) (pss_cons (ps_set (i := 7) sc__law_digits.nd rfl (by first | exact Or.inl rfl | exact Or.inr rfl) (pe_op op_mod (pe_callTy call_int1 (by rfl) T.b_int (by decide +kernel) (pa_cons (pe_op op_addA (pe_op op_addA (pe_op op_mulA (pv 5) pe_int) (pe_op op_mulA (pv 4) pe_int)) pe_int) pa_nil)) pe_int)) (pss_one (ps_for PassesOwn.never (by rfl) (pi_range1 (by rfl) T.b_range (pa_cons pe_int pa_nil)) (pg_name (i := 6) sc__law_digits.nd rfl (by first | exact Or.inl rfl | exact Or.inr rfl)) (pss_cons (ps_set (i := 7) sc__law_digits.nd rfl (by first | exact Or.inl rfl | exact Or.inr rfl) (pe_op op_mod (pe_callTy call_int1 (by rfl) T.b_int (by decide +kernel) (pa_cons (pe_op op_addA (pe_op op_addA (pe_op op_mulA (pv 7) pe_int) (pe_op op_mulA pe_int (pv 6))) pe_int) pa_nil)) pe_int)) (pss_one (ps_expr (pe_bm PySem.F.plainAttrs_list PySem.F.slot_list_append PySem.F.type_list_append mt_append (pv 3) (pa_cons (pe_op op_mod (pe_callTy call_int1 (by rfl) T.b_int (by decide +kernel) (pa_cons (pe_op op_fdiv (pv 7) pe_int) pa_nil)) pe_int) pa_nil))))))))))))) (pss_one (ps_ret (pv 3))))), (sim_cut c__law_digits_1.eq_1 (sim_seq (sim_asg (sim_lstM sim_nil) (sim_name 3)) (sim_cut c__law_digits_2.eq_1 (sim_seq (sim_for (sim_range2 (sim_cons (sim_var 1) (sim_cons (sim_var 2) sim_nil))) (sim_name 4) (sim_cut c__law_digits_3.eq_1 (sim_seq (sim_asg (sim_call (sim_cons (sim_var 0) (sim_cons (sim_var 4) sim_nil))) (sim_name 5)) (sim_cut c__law_digits_4.eq_1 (sim_seq (sim_ifS (sim_test (sim_op sim_ltA (sim_var 5) sim_int)) (sim_cut c__law_digits_5.eq_1 (sim_asg (sim_op sim_sub sim_int (sim_op sim_mulA sim_int (sim_var 5))) (sim_name 5))) sim_next) (sim_cut c__law_digits_6.eq_1 (sim_ifS (sim_test (sim_op sim_geA (sim_var 5) sim_int)) (sim_cut c__law_digits_7.eq_1 (sim_for (sim_range1 (sim_cons sim_int sim_nil)) (sim_name 6) (sim_cut c__law_digits_8.eq_1 (sim_ifS (sim_test (sim_op sim_gtA (sim_var 5) sim_int)) (sim_cut c__law_digits_9.eq_1 (sim_seq (sim_drop (sim_append (sim_var 3) (sim_cons (sim_op sim_mod (sim_cb sim_intOf (sim_cons (sim_var 5) sim_nil)) sim_int) sim_nil))) (sim_cut c__law_digits_10.eq_1 (sim_asg (sim_op sim_fdiv (sim_var 5) sim_int) (sim_name 5))))) sim_next)))) (sim_cut c__law_digits_12.eq_1 (sim_seq (sim_asg (sim_op sim_mod (sim_cb sim_intOf (sim_cons (sim_op sim_addA (sim_op sim_addA (sim_op sim_mulA (sim_var 5) sim_int) (sim_op sim_mulA (sim_var 4) sim_int)) sim_int) sim_nil)) sim_int) (sim_name 7)) (sim_cut c__law_digits_13.eq_1 (sim_for (sim_range1 (sim_cons sim_int sim_nil)) (sim_name 6) (sim_cut c__law_digits_14.eq_1 (sim_seq (sim_asg (sim_op sim_mod (sim_cb sim_intOf (sim_cons (sim_op sim_addA (sim_op sim_addA (sim_op sim_mulA (sim_var 7) sim_int) (sim_op sim_mulA sim_int (sim_var 6))) sim_int) sim_nil)) sim_int) (sim_name 7)) (sim_cut c__law_digits_15.eq_1 (sim_drop (sim_append (sim_var 3) (sim_cons (sim_op sim_mod (sim_cb sim_intOf (sim_cons (sim_op sim_fdiv (sim_var 7) sim_int) sim_nil)) sim_int) sim_nil))))))))))))))))) (sim_cut c__law_digits_16.eq_1 (sim_ret (sim_frz (sim_var 3))))))))⟩
theorem ok__law_some_path (T : Tops K mg) : FnD P w K mg base CX0 2 T.f__law_some_path T.x__law_some_path ["box", "paths"] m__law_some_path := by
  refine fnD T.d__law_some_path.fn sc__law_some_path fun cd A l s H E hg hr => ?_
  exact ⟨_, (pss_cons (ps_set (i := 2) sc__law_some_path.nd rfl (by first | exact Or.inl rfl | exact Or.inr rfl) (pe_tup pa_nil)) (pss_cons (ps_if (PW.pt (pw_and (pt_cmpR (op_neA hr.units) (pv 1) (pe_lst pa_nil) (nomark _)) (pw_and1 (pt_cmpR (op_eqA hr.units) (pe_callG (ok__law_draw T) hg (hr.mono (by decide)) (by rfl) T.d__law_draw.at_ T.d__law_draw.fn.kp T.d__law_draw.bd pass0S (pa_cons (pv 0) (pa_cons pe_int pa_nil))) pe_int (nomark _))))) (pss_cons (ps_set (i := 2) sc__law_some_path.nd rfl (by first | exact Or.inl rfl | exact Or.inr rfl) (pe_ix ix_seq (pv 1) (pe_callG (ok__law_draw T) hg (hr.mono (by decide)) (by rfl) T.d__law_draw.at_ T.d__law_draw.fn.kp T.d__law_draw.bd pass0S (pa_cons (pv 0) (pa_cons (pe_callB call_len (by rfl) T.b_len (by decide +kernel) (pa_cons (pv 1) pa_nil)) pa_nil))) (fun _ _ => rfl))) (pss_one (ps_set (i := 2) sc__law_some_path.nd rfl (by first | exact Or.inl rfl | exact Or.inr rfl) (pe_slice sl_any (pv 2) po_none (po_some (pe_callG (ok__law_draw T) hg (hr.mono (by decide)) (by rfl) T.d__law_draw.at_ T.d__law_draw.fn.kp T.d__law_draw.bd pass0S (pa_cons (pv 0) (pa_cons (pe_op op_addA (pe_callB call_len (by rfl) T.b_len (by decide +kernel) (pa_cons (pv 2) pa_nil)) pe_int) pa_nil)))))))) pss_nil) (pss_cons (ps_for PassesOwn.never (by rfl) (pi_range1 (by rfl) T.b_range (pa_cons (pe_op op_addA pe_int (pe_callG (ok__law_draw T) hg (hr.mono (by decide)) (by rfl) T.d__law_draw.at_ T.d__law_draw.fn.kp T.d__law_draw.bd pass0S (pa_cons (pv 0) (pa_cons pe_int pa_nil)))) pa_nil)) (pg_name (i := 3) sc__law_some_path.nd rfl (by first | exact Or.inl rfl | exact Or.inr rfl)) (pss_one (ps_set (i := 2) sc__law_some_path.nd rfl (by first | exact Or.inl rfl | exact Or.inr rfl) (pe_op op_addA (pv 2) (pe_tup (pa_cons (pe_tup (pa_cons (pe_op op_addA pe_int (pe_callG (ok__law_draw T) hg (hr.mono (by decide)) (by rfl) T.d__law_draw.at_ T.d__law_draw.fn.kp T.d__law_draw.bd pass0S (pa_cons (pv 0) (pa_cons pe_int pa_nil)))) (pa_cons (pe_callG (ok__law_draw T) hg (hr.mono (by decide)) (by rfl) T.d__law_draw.at_ T.d__law_draw.fn.kp T.d__law_draw.bd pass0S (pa_cons (pv 0) (pa_cons pe_int pa_nil))) (pa_cons (pe_callG (ok__law_draw T) hg (hr.mono (by decide)) (by rfl) T.d__law_draw.at_ T.d__law_draw.fn.kp T.d__law_draw.bd pass0S (pa_cons (pv 0) (pa_cons pe_int pa_nil))) pa_nil)))) pa_nil)))))) (pss_one (ps_ret (pe_slice sl_any (pv 2) po_none (po_some pe_int))))))), (sim_cut c__law_some_path_1.eq_1 (sim_seq (sim_asg (sim_tup sim_nil) (sim_name 2)) (sim_cut c__law_some_path_2.eq_1 (sim_seq (sim_ifS (sim_and (sim_test (sim_op sim_ne (sim_var 1) (sim_lst sim_nil))) (sim_test (sim_op sim_eq (sim_call (sim_cons (sim_var 0) (sim_cons sim_int sim_nil))) sim_int))) (sim_cut c__law_some_path_3.eq_1 (sim_seq (sim_asg (sim_op sim_ix (sim_var 1) (sim_call (sim_cons (sim_var 0) (sim_cons (sim_cb sim_len (sim_cons (sim_var 1) sim_nil)) sim_nil)))) (sim_name 2)) (sim_cut c__law_some_path_4.eq_1 (sim_asg (sim_slice (sim_var 2) simO_none (simO_some (sim_call (sim_cons (sim_var 0) (sim_cons (sim_op sim_addA (sim_cb sim_len (sim_cons (sim_var 2) sim_nil)) sim_int) sim_nil))))) (sim_name 2))))) sim_next) (sim_cut c__law_some_path_5.eq_1 (sim_seq (sim_for (sim_range1 (sim_cons (sim_op sim_addA sim_int (sim_call (sim_cons (sim_var 0) (sim_cons sim_int sim_nil)))) sim_nil)) (sim_name 3) (sim_cut c__law_some_path_6.eq_1 (sim_asg (sim_op sim_addA (sim_var 2) (sim_tup (sim_cons (sim_tup (sim_cons (sim_op sim_addA sim_int (sim_call (sim_cons (sim_var 0) (sim_cons sim_int sim_nil)))) (sim_cons (sim_call (sim_cons (sim_var 0) (sim_cons sim_int sim_nil))) (sim_cons (sim_call (sim_cons (sim_var 0) (sim_cons sim_int sim_nil))) sim_nil)))) sim_nil))) (sim_name 2)))) (sim_cut c__law_some_path_7.eq_1 (sim_ret (sim_slice (sim_var 2) simO_none (simO_some sim_int))))))))))⟩
theorem ok_law (T : Tops K mg) : FnD P w K mg base CX0 3 T.f_law T.x_law ["script"] m_law := by
  refine fnD T.d_law.fn sc_law fun cd A l s H E hg hr => ?_
  exact ⟨_, (pss_cons (ps_set (i := 1) sc_law.nd rfl (by first | exact Or.inl rfl | exact Or.inr rfl) (pe_lst (pa_cons (pe_callG (ok__law_digits T) hg (hr.mono (by decide)) (by rfl) T.d__law_digits.at_ T.d__law_digits.fn.kp T.d__law_digits.bd pass0S (pa_cons (pv 0) (pa_cons pe_int (pa_cons pe_int pa_nil)))) (pa_cons pe_int pa_nil)))) (pss_cons (ps_set (i := 2) sc_law.nd rfl (by first | exact Or.inl rfl | exact Or.inr rfl) (pe_lst pa_nil)) (pss_cons (ps_for PassesOwn.never (by rfl) (pi_range1 (by rfl) T.b_range (pa_cons pe_int pa_nil)) (pg_name (i := 3) sc_law.nd rfl (by first | exact Or.inl rfl | exact Or.inr rfl)) (pss_one (ps_expr (pe_bm PySem.F.plainAttrs_list PySem.F.slot_list_append PySem.F.type_list_append mt_append (pv 2) (pa_cons (pe_callG (ok__law_some_path T) hg (hr.mono (by decide)) (by rfl) T.d__law_some_path.at_ T.d__law_some_path.fn.kp T.d__law_some_path.bd pass0S (pa_cons (pv 1) (pa_cons (pv 2) pa_nil))) pa_nil))))) (pss_cons (ps_for PassesOwn.never (by rfl) (pi_seqA (pv 2)) (pg_name (i := 4) sc_law.nd rfl (by first | exact Or.inl rfl | exact Or.inr rfl)) (pss_one (ps_for PassesOwn.never (by rfl) (pi_seqA (pv 2)) (pg_name (i := 6) sc_law.nd rfl (by first | exact Or.inl rfl | exact Or.inr rfl)) (pss_cons (ps_if (pt_not (pt_truth (pe_callG (ok__law_alike T) hg (hr.mono (by decide)) (by rfl) T.d__law_alike.at_ T.d__law_alike.fn.kp T.d__law_alike.bd pass0S (pa_cons (pe_callG (ok_comes_before T) hg (hr.mono (by decide)) (by rfl) T.d_comes_before.at_ T.d_comes_before.fn.kp T.d_comes_before.bd pass0S (pa_cons (pv 4) (pa_cons (pv 6) pa_nil))) (pa_cons (pe_callG (ok__law_first T) hg (hr.mono (by decide)) (by rfl) T.d__law_first.at_ T.d__law_first.fn.kp T.d__law_first.bd pass0S (pa_cons (pv 4) (pa_cons (pv 6) pa_nil))) pa_nil))) (fun _ => rfl))) (pss_one (ps_ret pe_bl)) pss_nil) (pss_one (ps_if (PW.pt (pw_and (pt_cmpR (op_neA hr.units) (pv 4) (pv 6) (nomark _)) (pw_and1 (pt_cmpR (op_eqA hr.units) (pe_callG (ok_comes_before T) hg (hr.mono (by decide)) (by rfl) T.d_comes_before.at_ T.d_comes_before.fn.kp T.d_comes_before.bd pass0S (pa_cons (pv 4) (pa_cons (pv 6) pa_nil))) (pe_callG (ok_comes_before T) hg (hr.mono (by decide)) (by rfl) T.d_comes_before.at_ T.d_comes_before.fn.kp T.d_comes_before.bd pass0S (pa_cons (pv 6) (pa_cons (pv 4) pa_nil))) (nomark _))))) (pss_one (ps_ret pe_bl)) pss_nil)))))) (pss_cons (ps_set (i := 5) sc_law.nd rfl (by first | exact Or.inl rfl | exact Or.inr rfl) (pe_tup (pa_cons pe_int (pa_cons pe_int (pa_cons pe_int (pa_cons (pe_tup (pa_cons pe_int (pa_cons pe_int pa_nil))) (pa_cons (pe_tup (pa_cons pe_str (pa_cons pe_non (pa_cons pe_str pa_nil)))) pa_nil))))))) (pss_one (ps_ret (pe_cmpR (op_eqA hr.units) (pe_callG (ok_step_of T) hg (hr.mono (by decide)) (by rfl) T.d_step_of.at_ T.d_step_of.fn.kp T.d_step_of.bd pass0S (pa_cons (pv 5) (pa_cons pe_int pa_nil))) (pe_tup (pa_cons pe_int (pa_cons pe_int (pa_cons pe_int pa_nil)))) (nomark _))))))))), (sim_cut c_law_1.eq_1 (sim_seq (sim_asg (sim_lstM (sim_cons (sim_call (sim_cons (sim_var 0) (sim_cons sim_int (sim_cons sim_int sim_nil)))) (sim_cons sim_int sim_nil))) (sim_name 1)) (sim_cut c_law_2.eq_1 (sim_seq (sim_asg (sim_lstM sim_nil) (sim_name 2)) (sim_cut c_law_3.eq_1 (sim_seq (sim_for (sim_range1 (sim_cons sim_int sim_nil)) (sim_name 3) (sim_cut c_law_4.eq_1 (sim_drop (sim_append (sim_var 2) (sim_cons (sim_call (sim_cons (sim_var 1) (sim_cons (sim_var 2) sim_nil))) sim_nil))))) (sim_cut c_law_5.eq_1 (sim_seq (sim_for (sim_iSeq (sim_var 2)) (sim_name 4) (sim_cut c_law_6.eq_1 (sim_for (sim_iSeq (sim_var 2)) (sim_name 6) (sim_cut c_law_7.eq_1 (sim_seq (sim_ifS (sim_not (sim_tru (sim_call (sim_cons (sim_call (sim_cons (sim_var 4) (sim_cons (sim_var 6) sim_nil))) (sim_cons (sim_call (sim_cons (sim_var 4) (sim_cons (sim_var 6) sim_nil))) sim_nil))))) (sim_cut c_law_8.eq_1 (sim_ret sim_bl)) sim_next) (sim_cut c_law_9.eq_1 (sim_ifS (sim_and (sim_test (sim_op sim_ne (sim_var 4) (sim_var 6))) (sim_test (sim_op sim_eq (sim_call (sim_cons (sim_var 4) (sim_cons (sim_var 6) sim_nil))) (sim_call (sim_cons (sim_var 6) (sim_cons (sim_var 4) sim_nil)))))) (sim_cut c_law_10.eq_1 (sim_ret sim_bl)) sim_next))))))) (sim_cut c_law_11.eq_1 (sim_seq (sim_asg (sim_tup (sim_cons sim_int (sim_cons sim_int (sim_cons sim_int (sim_cons (sim_tup (sim_cons sim_int (sim_cons sim_int sim_nil))) (sim_cons (sim_tup (sim_cons sim_str (sim_cons sim_non (sim_cons sim_str sim_nil)))) sim_nil)))))) (sim_name 5)) (sim_cut c_law_12.eq_1 (sim_ret (sim_op sim_eq (sim_call (sim_cons (sim_var 5) (sim_cons sim_int sim_nil))) (sim_tup (sim_cons sim_int (sim_cons sim_int (sim_cons sim_int sim_nil)))))))))))))))))⟩
end
end K03
namespace K03
open PySem PySem.Spec PyProof.Rows L2 Mi
/-- the box of draws -/
def BoxOk (S : Sto) (b : Addr) : Prop := ∃ (ds : List Int) (i : Int), S b = some (.lst [.d (.list (ds.map .int)), .d (.int i)]) ∧ 0 ≤ i
theorem w_draw {S : Sto} {b : Addr} {n : Int} {Q : QE} {X : QX} (hb : BoxOk S b) (hn : 0 < n) (h : ∀ r S', 0 ≤ r → r < n → BoxOk S' b → (∀ a, a ≠ b → S' a = S a) → Q (.d (.int r)) S') : m__law_draw [.m b, .d (.int n)] S Q X := by
  obtain ⟨ds, i, es, hi⟩ := hb
  have fin : ∀ r : Int, Q (.d (.int (r % n))) (sset S b (.lst [.d (.list (ds.map .int)), .d (.int (i + 1))])) := fun r =>
    h _ _ (Int.emod_nonneg _ (by omega)) (Int.emod_lt_of_pos _ hn) ⟨ds, i + 1, sset_same, by omega⟩ fun a ha => sset_ne ha
  simp only [m__law_draw, c__law_draw, fnM, cNext, cSeq, cBrk, cCont, cDrop, cRet, cRetN, cIf, cNever, cAsg, cPar, cAug, cFor, eC, eVar, eOp, eUn, eIf, aNil, aCons, eTup, eLst, eLstM, eCB, eFn, eAndV, eOrV, eNotV, cAnd, cOr, cNot, cB, cTru, cYes, mName, mNames, wipeM, mTup, mSub, eFrz, eAppend, eSlice, oNone, oSome, eChain, eLcG, finD, finM, iRange1, iRange2, iZip2, iSeq, bInt, bIntC, bCmp, bAdd, bNeg, bIs, bIsN, isNone, bEq, bNe, bRepr, bLen, bIntOf, b2Int, bTuple, bList, bListM, bAll, bAny, tupOf, datOf, truV, okOf, bIx_tup, bIx_lst, bIx_set, lenV_set, ixN_21, ixN_20, set_1, sset_same, sset_sset, MO.lst.injEq, lenV_tup, lenV_lst, atI_0, atI_1, atI_2, atI_3, atI_4, lstOf, allD, allD_map, ex_eq_and, ex_eq_and', List.map_cons, List.map_nil, List.length_cons, List.length_nil, List.replicate, List.cons_append, List.nil_append, List.getElem?_cons_zero, List.getElem?_cons_succ, Option.some.injEq, Option.map_some, List.set, List.cons.injEq, and_true, true_and, MV.d.injEq, MV.m.injEq, PyData.int.injEq, PyData.bool.injEq, PyData.str.injEq, PyData.tuple.injEq, PyData.list.injEq, exists_and_left, exists_and_right, exists_eq_left', exists_eq_left, exists_eq_right, exists_eq', Nat.reduceAdd, Nat.reduceSub, Nat.reduceLT, Nat.reduceLeDiff, decide_eq_true_eq, Bool.not_eq_true', decide_eq_false_iff_not, reduceCtorEq, if_true, if_false, Bool.false_eq_true, ite_true, ite_false, not_true_eq_false, not_false_eq_true, Bool.not_true, Bool.not_false, reduceIte, and_self, or_true, true_or, or_false, false_or, and_false, false_and, bIx_m es, es]
  by_cases hl : i < ((ds.map PyData.int).length : Int)
  · obtain ⟨v, hv, e⟩ := atI_lt hi hl
    obtain ⟨r, _, rfl⟩ := List.mem_map.mp hv
    rw [if_pos hl]
    simp only [fnM, cNext, cSeq, cBrk, cCont, cDrop, cRet, cRetN, cIf, cNever, cAsg, cPar, cAug, cFor, eC, eVar, eOp, eUn, eIf, aNil, aCons, eTup, eLst, eLstM, eCB, eFn, eAndV, eOrV, eNotV, cAnd, cOr, cNot, cB, cTru, cYes, mName, mNames, wipeM, mTup, mSub, eFrz, eAppend, eSlice, oNone, oSome, eChain, eLcG, finD, finM, iRange1, iRange2, iZip2, iSeq, bInt, bIntC, bCmp, bAdd, bNeg, bIs, bIsN, isNone, bEq, bNe, bRepr, bLen, bIntOf, b2Int, bTuple, bList, bListM, bAll, bAny, tupOf, datOf, truV, okOf, bIx_tup, bIx_lst, bIx_set, lenV_set, ixN_21, ixN_20, set_1, sset_same, sset_sset, MO.lst.injEq, lenV_tup, lenV_lst, atI_0, atI_1, atI_2, atI_3, atI_4, lstOf, allD, allD_map, ex_eq_and, ex_eq_and', List.map_cons, List.map_nil, List.length_cons, List.length_nil, List.replicate, List.cons_append, List.nil_append, List.getElem?_cons_zero, List.getElem?_cons_succ, Option.some.injEq, Option.map_some, List.set, List.cons.injEq, and_true, true_and, MV.d.injEq, MV.m.injEq, PyData.int.injEq, PyData.bool.injEq, PyData.str.injEq, PyData.tuple.injEq, PyData.list.injEq, exists_and_left, exists_and_right, exists_eq_left', exists_eq_left, exists_eq_right, exists_eq', Nat.reduceAdd, Nat.reduceSub, Nat.reduceLT, Nat.reduceLeDiff, decide_eq_true_eq, Bool.not_eq_true', decide_eq_false_iff_not, reduceCtorEq, if_true, if_false, Bool.false_eq_true, ite_true, ite_false, not_true_eq_false, not_false_eq_true, Bool.not_true, Bool.not_false, reduceIte, and_self, or_true, true_or, or_false, false_or, and_false, false_and, e]
    exact ⟨hn, fin r⟩
  · rw [if_neg hl]
    exact ⟨.inr (by decide), hn, fin _⟩
theorem w_cell {ns : List Int} {k : Int} {S : Sto} {Q : QE} {X : QX} (hk : 0 ≤ k) (h : ∀ r : Int, Q (.d (.int r)) S) : m__law_cell [.d (.list (ns.map .int)), .d (.int k)] S Q X := by
  simp only [m__law_cell, c__law_cell, fnM, cNext, cSeq, cBrk, cCont, cDrop, cRet, cRetN, cIf, cNever, cAsg, cPar, cAug, cFor, eC, eVar, eOp, eUn, eIf, aNil, aCons, eTup, eLst, eLstM, eCB, eFn, eAndV, eOrV, eNotV, cAnd, cOr, cNot, cB, cTru, cYes, mName, mNames, wipeM, mTup, mSub, eFrz, eAppend, eSlice, oNone, oSome, eChain, eLcG, finD, finM, iRange1, iRange2, iZip2, iSeq, bInt, bIntC, bCmp, bAdd, bNeg, bIs, bIsN, isNone, bEq, bNe, bRepr, bLen, bIntOf, b2Int, bTuple, bList, bListM, bAll, bAny, tupOf, datOf, truV, okOf, bIx_tup, bIx_lst, bIx_set, lenV_set, ixN_21, ixN_20, set_1, sset_same, sset_sset, MO.lst.injEq, lenV_tup, lenV_lst, atI_0, atI_1, atI_2, atI_3, atI_4, lstOf, allD, allD_map, ex_eq_and, ex_eq_and', List.map_cons, List.map_nil, List.length_cons, List.length_nil, List.replicate, List.cons_append, List.nil_append, List.getElem?_cons_zero, List.getElem?_cons_succ, Option.some.injEq, Option.map_some, List.set, List.cons.injEq, and_true, true_and, MV.d.injEq, MV.m.injEq, PyData.int.injEq, PyData.bool.injEq, PyData.str.injEq, PyData.tuple.injEq, PyData.list.injEq, exists_and_left, exists_and_right, exists_eq_left', exists_eq_left, exists_eq_right, exists_eq', Nat.reduceAdd, Nat.reduceSub, Nat.reduceLT, Nat.reduceLeDiff, decide_eq_true_eq, Bool.not_eq_true', decide_eq_false_iff_not, reduceCtorEq, if_true, if_false, Bool.false_eq_true, ite_true, ite_false, not_true_eq_false, not_false_eq_true, Bool.not_true, Bool.not_false, reduceIte, and_self, or_true, true_or, or_false, false_or, and_false, false_and]
  by_cases hl : k < ((ns.map PyData.int).length : Int)
  · obtain ⟨v, hv, e⟩ := atI_lt hk hl
    obtain ⟨r, _, rfl⟩ := List.mem_map.mp hv
    rw [if_pos hl]
    simp only [fnM, cNext, cSeq, cBrk, cCont, cDrop, cRet, cRetN, cIf, cNever, cAsg, cPar, cAug, cFor, eC, eVar, eOp, eUn, eIf, aNil, aCons, eTup, eLst, eLstM, eCB, eFn, eAndV, eOrV, eNotV, cAnd, cOr, cNot, cB, cTru, cYes, mName, mNames, wipeM, mTup, mSub, eFrz, eAppend, eSlice, oNone, oSome, eChain, eLcG, finD, finM, iRange1, iRange2, iZip2, iSeq, bInt, bIntC, bCmp, bAdd, bNeg, bIs, bIsN, isNone, bEq, bNe, bRepr, bLen, bIntOf, b2Int, bTuple, bList, bListM, bAll, bAny, tupOf, datOf, truV, okOf, bIx_tup, bIx_lst, bIx_set, lenV_set, ixN_21, ixN_20, set_1, sset_same, sset_sset, MO.lst.injEq, lenV_tup, lenV_lst, atI_0, atI_1, atI_2, atI_3, atI_4, lstOf, allD, allD_map, ex_eq_and, ex_eq_and', List.map_cons, List.map_nil, List.length_cons, List.length_nil, List.replicate, List.cons_append, List.nil_append, List.getElem?_cons_zero, List.getElem?_cons_succ, Option.some.injEq, Option.map_some, List.set, List.cons.injEq, and_true, true_and, MV.d.injEq, MV.m.injEq, PyData.int.injEq, PyData.bool.injEq, PyData.str.injEq, PyData.tuple.injEq, PyData.list.injEq, exists_and_left, exists_and_right, exists_eq_left', exists_eq_left, exists_eq_right, exists_eq', Nat.reduceAdd, Nat.reduceSub, Nat.reduceLT, Nat.reduceLeDiff, decide_eq_true_eq, Bool.not_eq_true', decide_eq_false_iff_not, reduceCtorEq, if_true, if_false, Bool.false_eq_true, ite_true, ite_false, not_true_eq_false, not_false_eq_true, Bool.not_true, Bool.not_false, reduceIte, and_self, or_true, true_or, or_false, false_or, and_false, false_and, e]
    exact h r
  · rw [if_neg hl]
    exact h 0
/-- what the loops over digits keep: the list of ints at p -/
def DigOk (S : Sto) (p : Addr) (ns : List Int) (z : Nat) (ρ : Ro) (S' : Sto) : Prop := ∃ (xs : List Int) (a b c d : Option MV), ρ = [some (.d (.list (ns.map .int))), some (.d (.int 0)), some (.d (.int 63)), some (.m p), a, b, c, d] ∧
  S' = sset S p (.lst (xs.map fun i => .d (.int i))) ∧ xs.length ≤ z
theorem dig_add (xs : List Int) (r : Int) : xs.map (fun i => MV.d (.int i)) ++ [MV.d (.int r)] = (xs ++ [r]).map (fun i => MV.d (.int i)) := by
  rw [List.map_append]
  rfl
theorem dig_all : ∀ xs : List Int, allD (xs.map fun i => MV.d (.int i)) = some (xs.map .int)
  | [] => rfl
  | x :: xs => by
    show (allD (xs.map fun i => MV.d (.int i))).map (PyData.int x :: ·) = _
    rw [dig_all xs]
    rfl
theorem line_big {n : Nat} (h : n ≤ 4000) : n < sizeLine := Nat.lt_of_le_of_lt h (by decide)
theorem w_dig_body {ns : List Int} {S : Sto} {p : Addr} {i : Nat} {c0 : Int} {xs : List Int} {c d : Option MV} {N : Ro → Sto → Prop} {D : ME} (hi : i < 63) (hl : xs.length ≤ 60 * i) (hN : ∀ ρ' S', i + 1 ≤ 63 ∧ DigOk S p ns (60 * (i + 1)) ρ' S' → N ρ' S') (hD : D.nx = N) :
    c__law_digits_6 D [some (.d (.list (ns.map .int))), some (.d (.int 0)), some (.d (.int 63)), some (.m p), some (.d (.int (0 + (i : Int)))), some (.d (.int c0)), c, d] (sset S p (.lst (xs.map fun i => .d (.int i)))) := by
  simp only [c__law_digits_6, fnM, cNext, cSeq, cBrk, cCont, cDrop, cRet, cRetN, cIf, cNever, cAsg, cPar, cAug, cFor, eC, eVar, eOp, eUn, eIf, aNil, aCons, eTup, eLst, eLstM, eCB, eFn, eAndV, eOrV, eNotV, cAnd, cOr, cNot, cB, cTru, cYes, mName, mNames, wipeM, mTup, mSub, eFrz, eAppend, eSlice, oNone, oSome, eChain, eLcG, finD, finM, iRange1, iRange2, iZip2, iSeq, bInt, bIntC, bCmp, bAdd, bNeg, bIs, bIsN, isNone, bEq, bNe, bRepr, bLen, bIntOf, b2Int, bTuple, bList, bListM, bAll, bAny, tupOf, datOf, truV, okOf, bIx_tup, bIx_lst, bIx_set, lenV_set, ixN_21, ixN_20, set_1, sset_same, sset_sset, MO.lst.injEq, lenV_tup, lenV_lst, atI_0, atI_1, atI_2, atI_3, atI_4, lstOf, allD, allD_map, ex_eq_and, ex_eq_and', List.map_cons, List.map_nil, List.length_cons, List.length_nil, List.replicate, List.cons_append, List.nil_append, List.getElem?_cons_zero, List.getElem?_cons_succ, Option.some.injEq, Option.map_some, List.set, List.cons.injEq, and_true, true_and, MV.d.injEq, MV.m.injEq, PyData.int.injEq, PyData.bool.injEq, PyData.str.injEq, PyData.tuple.injEq, PyData.list.injEq, exists_and_left, exists_and_right, exists_eq_left', exists_eq_left, exists_eq_right, exists_eq', Nat.reduceAdd, Nat.reduceSub, Nat.reduceLT, Nat.reduceLeDiff, decide_eq_true_eq, Bool.not_eq_true', decide_eq_false_iff_not, reduceCtorEq, if_true, if_false, Bool.false_eq_true, ite_true, ite_false, not_true_eq_false, not_false_eq_true, Bool.not_true, Bool.not_false, reduceIte, and_self, or_true, true_or, or_false, false_or, and_false, false_and]
  by_cases hc : 1000000000000000000 ≤ c0
  · rw [if_pos hc]
    simp only [c__law_digits_7, fnM, cNext, cSeq, cBrk, cCont, cDrop, cRet, cRetN, cIf, cNever, cAsg, cPar, cAug, cFor, eC, eVar, eOp, eUn, eIf, aNil, aCons, eTup, eLst, eLstM, eCB, eFn, eAndV, eOrV, eNotV, cAnd, cOr, cNot, cB, cTru, cYes, mName, mNames, wipeM, mTup, mSub, eFrz, eAppend, eSlice, oNone, oSome, eChain, eLcG, finD, finM, iRange1, iRange2, iZip2, iSeq, bInt, bIntC, bCmp, bAdd, bNeg, bIs, bIsN, isNone, bEq, bNe, bRepr, bLen, bIntOf, b2Int, bTuple, bList, bListM, bAll, bAny, tupOf, datOf, truV, okOf, bIx_tup, bIx_lst, bIx_set, lenV_set, ixN_21, ixN_20, set_1, sset_same, sset_sset, MO.lst.injEq, lenV_tup, lenV_lst, atI_0, atI_1, atI_2, atI_3, atI_4, lstOf, allD, allD_map, ex_eq_and, ex_eq_and', List.map_cons, List.map_nil, List.length_cons, List.length_nil, List.replicate, List.cons_append, List.nil_append, List.getElem?_cons_zero, List.getElem?_cons_succ, Option.some.injEq, Option.map_some, List.set, List.cons.injEq, and_true, true_and, MV.d.injEq, MV.m.injEq, PyData.int.injEq, PyData.bool.injEq, PyData.str.injEq, PyData.tuple.injEq, PyData.list.injEq, exists_and_left, exists_and_right, exists_eq_left', exists_eq_left, exists_eq_right, exists_eq', Nat.reduceAdd, Nat.reduceSub, Nat.reduceLT, Nat.reduceLeDiff, decide_eq_true_eq, Bool.not_eq_true', decide_eq_false_iff_not, reduceCtorEq, if_true, if_false, Bool.false_eq_true, ite_true, ite_false, not_true_eq_false, not_false_eq_true, Bool.not_true, Bool.not_false, reduceIte, and_self, or_true, true_or, or_false, false_or, and_false, false_and]
    refine ⟨by decide, by decide, ?_⟩
    refine forL_inv (fun j ρ S' => j ≤ 60 ∧ ∃ (ys : List Int) (c' : Int) (d6 d7 : Option MV), ρ = [some (.d (.list (ns.map .int))), some (.d (.int 0)), some (.d (.int 63)), some (.m p), some (.d (.int (0 + (i : Int)))), some (.d (.int c')), d6, d7] ∧
      S' = sset S p (.lst (ys.map fun i => .d (.int i))) ∧ ys.length ≤ 60 * i + j) _ 0 _ _ ⟨by omega, xs, c0, _, _, rfl, rfl, by omega⟩ (fun _ _ _ _ => trivial) ?_ ?_
    · rintro j y ρ S2 N2 ey ⟨hj, ys, c', d6, d7, rfl, rfl, hy⟩ hN2
      obtain ⟨hj2, rfl⟩ := rng_some ey
      have hj3 : j < 60 := hj2
      simp only [c__law_digits_8, c__law_digits_9, c__law_digits_10, fnM, cNext, cSeq, cBrk, cCont, cDrop, cRet, cRetN, cIf, cNever, cAsg, cPar, cAug, cFor, eC, eVar, eOp, eUn, eIf, aNil, aCons, eTup, eLst, eLstM, eCB, eFn, eAndV, eOrV, eNotV, cAnd, cOr, cNot, cB, cTru, cYes, mName, mNames, wipeM, mTup, mSub, eFrz, eAppend, eSlice, oNone, oSome, eChain, eLcG, finD, finM, iRange1, iRange2, iZip2, iSeq, bInt, bIntC, bCmp, bAdd, bNeg, bIs, bIsN, isNone, bEq, bNe, bRepr, bLen, bIntOf, b2Int, bTuple, bList, bListM, bAll, bAny, tupOf, datOf, truV, okOf, bIx_tup, bIx_lst, bIx_set, lenV_set, ixN_21, ixN_20, set_1, sset_same, sset_sset, MO.lst.injEq, lenV_tup, lenV_lst, atI_0, atI_1, atI_2, atI_3, atI_4, lstOf, allD, allD_map, ex_eq_and, ex_eq_and', List.map_cons, List.map_nil, List.length_cons, List.length_nil, List.replicate, List.cons_append, List.nil_append, List.getElem?_cons_zero, List.getElem?_cons_succ, Option.some.injEq, Option.map_some, List.set, List.cons.injEq, and_true, true_and, MV.d.injEq, MV.m.injEq, PyData.int.injEq, PyData.bool.injEq, PyData.str.injEq, PyData.tuple.injEq, PyData.list.injEq, exists_and_left, exists_and_right, exists_eq_left', exists_eq_left, exists_eq_right, exists_eq', Nat.reduceAdd, Nat.reduceSub, Nat.reduceLT, Nat.reduceLeDiff, decide_eq_true_eq, Bool.not_eq_true', decide_eq_false_iff_not, reduceCtorEq, if_true, if_false, Bool.false_eq_true, ite_true, ite_false, not_true_eq_false, not_false_eq_true, Bool.not_true, Bool.not_false, reduceIte, and_self, or_true, true_or, or_false, false_or, and_false, false_and]
      by_cases hp : 0 < c'
      · rw [if_pos hp]
        refine ⟨by decide, by rw [List.length_map]; exact line_big (by omega), ⟨by decide, by decide⟩, ?_⟩
        rw [dig_add]
        exact hN2 _ _ ⟨by omega, _, _, _, _, rfl, rfl, by rw [List.length_append, List.length_cons, List.length_nil]; omega⟩
      · rw [if_neg hp]
        exact hN2 _ _ ⟨by omega, _, _, _, _, rfl, rfl, by omega⟩
    · rintro ρ S2 ⟨_, ys, c', d6, d7, rfl, rfl, hy⟩
      rw [rng_length] at hy
      have hy' : ys.length ≤ 60 * i + (0 + 60) := hy
      rw [hD]
      exact hN _ _ ⟨by omega, ys, _, _, _, _, rfl, rfl, by omega⟩
  · rw [if_neg hc]
    simp only [c__law_digits_12, c__law_digits_13, fnM, cNext, cSeq, cBrk, cCont, cDrop, cRet, cRetN, cIf, cNever, cAsg, cPar, cAug, cFor, eC, eVar, eOp, eUn, eIf, aNil, aCons, eTup, eLst, eLstM, eCB, eFn, eAndV, eOrV, eNotV, cAnd, cOr, cNot, cB, cTru, cYes, mName, mNames, wipeM, mTup, mSub, eFrz, eAppend, eSlice, oNone, oSome, eChain, eLcG, finD, finM, iRange1, iRange2, iZip2, iSeq, bInt, bIntC, bCmp, bAdd, bNeg, bIs, bIsN, isNone, bEq, bNe, bRepr, bLen, bIntOf, b2Int, bTuple, bList, bListM, bAll, bAny, tupOf, datOf, truV, okOf, bIx_tup, bIx_lst, bIx_set, lenV_set, ixN_21, ixN_20, set_1, sset_same, sset_sset, MO.lst.injEq, lenV_tup, lenV_lst, atI_0, atI_1, atI_2, atI_3, atI_4, lstOf, allD, allD_map, ex_eq_and, ex_eq_and', List.map_cons, List.map_nil, List.length_cons, List.length_nil, List.replicate, List.cons_append, List.nil_append, List.getElem?_cons_zero, List.getElem?_cons_succ, Option.some.injEq, Option.map_some, List.set, List.cons.injEq, and_true, true_and, MV.d.injEq, MV.m.injEq, PyData.int.injEq, PyData.bool.injEq, PyData.str.injEq, PyData.tuple.injEq, PyData.list.injEq, exists_and_left, exists_and_right, exists_eq_left', exists_eq_left, exists_eq_right, exists_eq', Nat.reduceAdd, Nat.reduceSub, Nat.reduceLT, Nat.reduceLeDiff, decide_eq_true_eq, Bool.not_eq_true', decide_eq_false_iff_not, reduceCtorEq, if_true, if_false, Bool.false_eq_true, ite_true, ite_false, not_true_eq_false, not_false_eq_true, Bool.not_true, Bool.not_false, reduceIte, and_self, or_true, true_or, or_false, false_or, and_false, false_and]
    refine ⟨.inr (by decide), .inr (by decide), by decide, by decide, by decide, ?_⟩
    refine forL_inv (fun j ρ S' => j ≤ 12 ∧ ∃ (ys : List Int) (c' : Int) (d6 : Option MV), ρ = [some (.d (.list (ns.map .int))), some (.d (.int 0)), some (.d (.int 63)), some (.m p), some (.d (.int (0 + (i : Int)))), some (.d (.int c0)), d6, some (.d (.int c'))] ∧
      S' = sset S p (.lst (ys.map fun i => .d (.int i))) ∧ ys.length ≤ 60 * i + j) _ 0 _ _ ⟨by omega, xs, _, _, rfl, rfl, by omega⟩ (fun _ _ _ _ => trivial) ?_ ?_
    · rintro j y ρ S2 N2 ey ⟨hj, ys, c', d6, rfl, rfl, hy⟩ hN2
      obtain ⟨hj2, rfl⟩ := rng_some ey
      have hj3 : j < 12 := hj2
      simp only [c__law_digits_14, c__law_digits_15, fnM, cNext, cSeq, cBrk, cCont, cDrop, cRet, cRetN, cIf, cNever, cAsg, cPar, cAug, cFor, eC, eVar, eOp, eUn, eIf, aNil, aCons, eTup, eLst, eLstM, eCB, eFn, eAndV, eOrV, eNotV, cAnd, cOr, cNot, cB, cTru, cYes, mName, mNames, wipeM, mTup, mSub, eFrz, eAppend, eSlice, oNone, oSome, eChain, eLcG, finD, finM, iRange1, iRange2, iZip2, iSeq, bInt, bIntC, bCmp, bAdd, bNeg, bIs, bIsN, isNone, bEq, bNe, bRepr, bLen, bIntOf, b2Int, bTuple, bList, bListM, bAll, bAny, tupOf, datOf, truV, okOf, bIx_tup, bIx_lst, bIx_set, lenV_set, ixN_21, ixN_20, set_1, sset_same, sset_sset, MO.lst.injEq, lenV_tup, lenV_lst, atI_0, atI_1, atI_2, atI_3, atI_4, lstOf, allD, allD_map, ex_eq_and, ex_eq_and', List.map_cons, List.map_nil, List.length_cons, List.length_nil, List.replicate, List.cons_append, List.nil_append, List.getElem?_cons_zero, List.getElem?_cons_succ, Option.some.injEq, Option.map_some, List.set, List.cons.injEq, and_true, true_and, MV.d.injEq, MV.m.injEq, PyData.int.injEq, PyData.bool.injEq, PyData.str.injEq, PyData.tuple.injEq, PyData.list.injEq, exists_and_left, exists_and_right, exists_eq_left', exists_eq_left, exists_eq_right, exists_eq', Nat.reduceAdd, Nat.reduceSub, Nat.reduceLT, Nat.reduceLeDiff, decide_eq_true_eq, Bool.not_eq_true', decide_eq_false_iff_not, reduceCtorEq, if_true, if_false, Bool.false_eq_true, ite_true, ite_false, not_true_eq_false, not_false_eq_true, Bool.not_true, Bool.not_false, reduceIte, and_self, or_true, true_or, or_false, false_or, and_false, false_and]
      refine ⟨.inr (by decide), .inl (by decide), by decide, ⟨by decide, by decide⟩, by decide, by rw [List.length_map]; exact line_big (by omega), ?_⟩
      rw [dig_add]
      exact hN2 _ _ ⟨by omega, _, _, _, rfl, rfl, by rw [List.length_append, List.length_cons, List.length_nil]; omega⟩
    · rintro ρ S2 ⟨_, ys, c', d6, rfl, rfl, hy⟩
      rw [rng_length] at hy
      have hy' : ys.length ≤ 60 * i + (0 + 12) := hy
      rw [hD]
      exact hN _ _ ⟨by omega, ys, _, _, _, _, rfl, rfl, by omega⟩
theorem w_digits {ns : List Int} {S : Sto} {Q : QE} {X : QX} (h : ∀ ds : List Int, Q (.d (.list (ds.map .int))) S) : m__law_digits [.d (.list (ns.map .int)), .d (.int 0), .d (.int 63)] S Q X := by
  simp only [m__law_digits, c__law_digits, c__law_digits_1, c__law_digits_2, fnM, cNext, cSeq, cBrk, cCont, cDrop, cRet, cRetN, cIf, cNever, cAsg, cPar, cAug, cFor, eC, eVar, eOp, eUn, eIf, aNil, aCons, eTup, eLst, eLstM, eCB, eFn, eAndV, eOrV, eNotV, cAnd, cOr, cNot, cB, cTru, cYes, mName, mNames, wipeM, mTup, mSub, eFrz, eAppend, eSlice, oNone, oSome, eChain, eLcG, finD, finM, iRange1, iRange2, iZip2, iSeq, bInt, bIntC, bCmp, bAdd, bNeg, bIs, bIsN, isNone, bEq, bNe, bRepr, bLen, bIntOf, b2Int, bTuple, bList, bListM, bAll, bAny, tupOf, datOf, truV, okOf, bIx_tup, bIx_lst, bIx_set, lenV_set, ixN_21, ixN_20, set_1, sset_same, sset_sset, MO.lst.injEq, lenV_tup, lenV_lst, atI_0, atI_1, atI_2, atI_3, atI_4, lstOf, allD, allD_map, ex_eq_and, ex_eq_and', List.map_cons, List.map_nil, List.length_cons, List.length_nil, List.replicate, List.cons_append, List.nil_append, List.getElem?_cons_zero, List.getElem?_cons_succ, Option.some.injEq, Option.map_some, List.set, List.cons.injEq, and_true, true_and, MV.d.injEq, MV.m.injEq, PyData.int.injEq, PyData.bool.injEq, PyData.str.injEq, PyData.tuple.injEq, PyData.list.injEq, exists_and_left, exists_and_right, exists_eq_left', exists_eq_left, exists_eq_right, exists_eq', Nat.reduceAdd, Nat.reduceSub, Nat.reduceLT, Nat.reduceLeDiff, decide_eq_true_eq, Bool.not_eq_true', decide_eq_false_iff_not, reduceCtorEq, if_true, if_false, Bool.false_eq_true, ite_true, ite_false, not_true_eq_false, not_false_eq_true, Bool.not_true, Bool.not_false, reduceIte, and_self, or_true, true_or, or_false, false_or, and_false, false_and]
  refine ⟨Nat.zero_le _, fun p np => ⟨by decide, ?_⟩⟩
  refine forL_inv (fun i ρ S' => i ≤ 63 ∧ DigOk S p ns (60 * i) ρ S') _ 0 _ _ ⟨by omega, [], none, none, none, none, rfl, rfl, by simp⟩ (fun _ _ _ _ => trivial) ?_ ?_
  · rintro i x ρ S1 N ex ⟨hk, xs, a, b, c, d, rfl, rfl, hl⟩ hN
    obtain ⟨hi, rfl⟩ := rng_some ex
    have hi' : i < 63 := hi
    rw [Nat.zero_add] at hl hN
    simp only [c__law_digits_3, fnM, cNext, cSeq, cBrk, cCont, cDrop, cRet, cRetN, cIf, cNever, cAsg, cPar, cAug, cFor, eC, eVar, eOp, eUn, eIf, aNil, aCons, eTup, eLst, eLstM, eCB, eFn, eAndV, eOrV, eNotV, cAnd, cOr, cNot, cB, cTru, cYes, mName, mNames, wipeM, mTup, mSub, eFrz, eAppend, eSlice, oNone, oSome, eChain, eLcG, finD, finM, iRange1, iRange2, iZip2, iSeq, bInt, bIntC, bCmp, bAdd, bNeg, bIs, bIsN, isNone, bEq, bNe, bRepr, bLen, bIntOf, b2Int, bTuple, bList, bListM, bAll, bAny, tupOf, datOf, truV, okOf, bIx_tup, bIx_lst, bIx_set, lenV_set, ixN_21, ixN_20, set_1, sset_same, sset_sset, MO.lst.injEq, lenV_tup, lenV_lst, atI_0, atI_1, atI_2, atI_3, atI_4, lstOf, allD, allD_map, ex_eq_and, ex_eq_and', List.map_cons, List.map_nil, List.length_cons, List.length_nil, List.replicate, List.cons_append, List.nil_append, List.getElem?_cons_zero, List.getElem?_cons_succ, Option.some.injEq, Option.map_some, List.set, List.cons.injEq, and_true, true_and, MV.d.injEq, MV.m.injEq, PyData.int.injEq, PyData.bool.injEq, PyData.str.injEq, PyData.tuple.injEq, PyData.list.injEq, exists_and_left, exists_and_right, exists_eq_left', exists_eq_left, exists_eq_right, exists_eq', Nat.reduceAdd, Nat.reduceSub, Nat.reduceLT, Nat.reduceLeDiff, decide_eq_true_eq, Bool.not_eq_true', decide_eq_false_iff_not, reduceCtorEq, if_true, if_false, Bool.false_eq_true, ite_true, ite_false, not_true_eq_false, not_false_eq_true, Bool.not_true, Bool.not_false, reduceIte, and_self, or_true, true_or, or_false, false_or, and_false, false_and]
    refine w_cell (by omega) fun c0 => ?_
    simp only [c__law_digits_4, fnM, cNext, cSeq, cBrk, cCont, cDrop, cRet, cRetN, cIf, cNever, cAsg, cPar, cAug, cFor, eC, eVar, eOp, eUn, eIf, aNil, aCons, eTup, eLst, eLstM, eCB, eFn, eAndV, eOrV, eNotV, cAnd, cOr, cNot, cB, cTru, cYes, mName, mNames, wipeM, mTup, mSub, eFrz, eAppend, eSlice, oNone, oSome, eChain, eLcG, finD, finM, iRange1, iRange2, iZip2, iSeq, bInt, bIntC, bCmp, bAdd, bNeg, bIs, bIsN, isNone, bEq, bNe, bRepr, bLen, bIntOf, b2Int, bTuple, bList, bListM, bAll, bAny, tupOf, datOf, truV, okOf, bIx_tup, bIx_lst, bIx_set, lenV_set, ixN_21, ixN_20, set_1, sset_same, sset_sset, MO.lst.injEq, lenV_tup, lenV_lst, atI_0, atI_1, atI_2, atI_3, atI_4, lstOf, allD, allD_map, ex_eq_and, ex_eq_and', List.map_cons, List.map_nil, List.length_cons, List.length_nil, List.replicate, List.cons_append, List.nil_append, List.getElem?_cons_zero, List.getElem?_cons_succ, Option.some.injEq, Option.map_some, List.set, List.cons.injEq, and_true, true_and, MV.d.injEq, MV.m.injEq, PyData.int.injEq, PyData.bool.injEq, PyData.str.injEq, PyData.tuple.injEq, PyData.list.injEq, exists_and_left, exists_and_right, exists_eq_left', exists_eq_left, exists_eq_right, exists_eq', Nat.reduceAdd, Nat.reduceSub, Nat.reduceLT, Nat.reduceLeDiff, decide_eq_true_eq, Bool.not_eq_true', decide_eq_false_iff_not, reduceCtorEq, if_true, if_false, Bool.false_eq_true, ite_true, ite_false, not_true_eq_false, not_false_eq_true, Bool.not_true, Bool.not_false, reduceIte, and_self, or_true, true_or, or_false, false_or, and_false, false_and]
    have cm : CMul 2 c0 := .inl (by decide)
    by_cases hr : c0 < 0
    · rw [if_pos hr]
      simp only [c__law_digits_5, fnM, cNext, cSeq, cBrk, cCont, cDrop, cRet, cRetN, cIf, cNever, cAsg, cPar, cAug, cFor, eC, eVar, eOp, eUn, eIf, aNil, aCons, eTup, eLst, eLstM, eCB, eFn, eAndV, eOrV, eNotV, cAnd, cOr, cNot, cB, cTru, cYes, mName, mNames, wipeM, mTup, mSub, eFrz, eAppend, eSlice, oNone, oSome, eChain, eLcG, finD, finM, iRange1, iRange2, iZip2, iSeq, bInt, bIntC, bCmp, bAdd, bNeg, bIs, bIsN, isNone, bEq, bNe, bRepr, bLen, bIntOf, b2Int, bTuple, bList, bListM, bAll, bAny, tupOf, datOf, truV, okOf, bIx_tup, bIx_lst, bIx_set, lenV_set, ixN_21, ixN_20, set_1, sset_same, sset_sset, MO.lst.injEq, lenV_tup, lenV_lst, atI_0, atI_1, atI_2, atI_3, atI_4, lstOf, allD, allD_map, ex_eq_and, ex_eq_and', List.map_cons, List.map_nil, List.length_cons, List.length_nil, List.replicate, List.cons_append, List.nil_append, List.getElem?_cons_zero, List.getElem?_cons_succ, Option.some.injEq, Option.map_some, List.set, List.cons.injEq, and_true, true_and, MV.d.injEq, MV.m.injEq, PyData.int.injEq, PyData.bool.injEq, PyData.str.injEq, PyData.tuple.injEq, PyData.list.injEq, exists_and_left, exists_and_right, exists_eq_left', exists_eq_left, exists_eq_right, exists_eq', Nat.reduceAdd, Nat.reduceSub, Nat.reduceLT, Nat.reduceLeDiff, decide_eq_true_eq, Bool.not_eq_true', decide_eq_false_iff_not, reduceCtorEq, if_true, if_false, Bool.false_eq_true, ite_true, ite_false, not_true_eq_false, not_false_eq_true, Bool.not_true, Bool.not_false, reduceIte, and_self, or_true, true_or, or_false, false_or, and_false, false_and]
      exact ⟨cm, w_dig_body hi' hl hN rfl⟩
    · rw [if_neg hr]
      exact w_dig_body hi' hl hN rfl
  · rintro ρ S2 ⟨_, ys, a, b, c, d, rfl, rfl, hy⟩
    simp only [c__law_digits_16, fnM, cNext, cSeq, cBrk, cCont, cDrop, cRet, cRetN, cIf, cNever, cAsg, cPar, cAug, cFor, eC, eVar, eOp, eUn, eIf, aNil, aCons, eTup, eLst, eLstM, eCB, eFn, eAndV, eOrV, eNotV, cAnd, cOr, cNot, cB, cTru, cYes, mName, mNames, wipeM, mTup, mSub, eFrz, eAppend, eSlice, oNone, oSome, eChain, eLcG, finD, finM, iRange1, iRange2, iZip2, iSeq, bInt, bIntC, bCmp, bAdd, bNeg, bIs, bIsN, isNone, bEq, bNe, bRepr, bLen, bIntOf, b2Int, bTuple, bList, bListM, bAll, bAny, tupOf, datOf, truV, okOf, bIx_tup, bIx_lst, bIx_set, lenV_set, ixN_21, ixN_20, set_1, sset_same, sset_sset, MO.lst.injEq, lenV_tup, lenV_lst, atI_0, atI_1, atI_2, atI_3, atI_4, lstOf, allD, allD_map, ex_eq_and, ex_eq_and', List.map_cons, List.map_nil, List.length_cons, List.length_nil, List.replicate, List.cons_append, List.nil_append, List.getElem?_cons_zero, List.getElem?_cons_succ, Option.some.injEq, Option.map_some, List.set, List.cons.injEq, and_true, true_and, MV.d.injEq, MV.m.injEq, PyData.int.injEq, PyData.bool.injEq, PyData.str.injEq, PyData.tuple.injEq, PyData.list.injEq, exists_and_left, exists_and_right, exists_eq_left', exists_eq_left, exists_eq_right, exists_eq', Nat.reduceAdd, Nat.reduceSub, Nat.reduceLT, Nat.reduceLeDiff, decide_eq_true_eq, Bool.not_eq_true', decide_eq_false_iff_not, reduceCtorEq, if_true, if_false, Bool.false_eq_true, ite_true, ite_false, not_true_eq_false, not_false_eq_true, Bool.not_true, Bool.not_false, reduceIte, and_self, or_true, true_or, or_false, false_or, and_false, false_and]
    refine ⟨_, dig_all ys, ?_⟩
    rw [sdel_sset np]
    exact h ys
/-- two data that are one -/
theorem w_alike {x : PyData} {S : Sto} {Q : QE} {X : QX} (f : Fine x) (h : Q (.d (.bool true)) S) : m__law_alike [.d x, .d x] S Q X := by
  simp only [m__law_alike, c__law_alike, fnM, cNext, cSeq, cBrk, cCont, cDrop, cRet, cRetN, cIf, cNever, cAsg, cPar, cAug, cFor, eC, eVar, eOp, eUn, eIf, aNil, aCons, eTup, eLst, eLstM, eCB, eFn, eAndV, eOrV, eNotV, cAnd, cOr, cNot, cB, cTru, cYes, mName, mNames, wipeM, mTup, mSub, eFrz, eAppend, eSlice, oNone, oSome, eChain, eLcG, finD, finM, iRange1, iRange2, iZip2, iSeq, bInt, bIntC, bCmp, bAdd, bNeg, bIs, bIsN, isNone, bEq, bNe, bRepr, bLen, bIntOf, b2Int, bTuple, bList, bListM, bAll, bAny, tupOf, datOf, truV, okOf, bIx_tup, bIx_lst, bIx_set, lenV_set, ixN_21, ixN_20, set_1, sset_same, sset_sset, MO.lst.injEq, lenV_tup, lenV_lst, atI_0, atI_1, atI_2, atI_3, atI_4, lstOf, allD, allD_map, ex_eq_and, ex_eq_and', List.map_cons, List.map_nil, List.length_cons, List.length_nil, List.replicate, List.cons_append, List.nil_append, List.getElem?_cons_zero, List.getElem?_cons_succ, Option.some.injEq, Option.map_some, List.set, List.cons.injEq, and_true, true_and, MV.d.injEq, MV.m.injEq, PyData.int.injEq, PyData.bool.injEq, PyData.str.injEq, PyData.tuple.injEq, PyData.list.injEq, exists_and_left, exists_and_right, exists_eq_left', exists_eq_left, exists_eq_right, exists_eq', Nat.reduceAdd, Nat.reduceSub, Nat.reduceLT, Nat.reduceLeDiff, decide_eq_true_eq, Bool.not_eq_true', decide_eq_false_iff_not, reduceCtorEq, if_true, if_false, Bool.false_eq_true, ite_true, ite_false, not_true_eq_false, not_false_eq_true, Bool.not_true, Bool.not_false, reduceIte, and_self, or_true, true_or, or_false, false_or, and_false, false_and]
  exact ⟨f, f, h⟩

/-! ### steps and paths -/
structure Step where
  c : Int
  h : Int
  i : Int
def stD (x : Step) : PyData := .tuple [.int x.c, .int x.h, .int x.i]
abbrev paD (xs : List Step) : PyData := .tuple (xs.map stD)
def Step.ok (x : Step) : Prop := -99 ≤ x.c ∧ x.c ≤ 99 ∧ -99 ≤ x.h ∧ x.h ≤ 99 ∧ -99 ≤ x.i ∧ x.i ≤ 99
def seq (x y : Step) : Bool := decide (x.c = y.c) && (decide (x.h = y.h) && decide (x.i = y.i))
theorem st_eqv (x y : Step) : PyData.eqv (stD x) (stD y) = seq x y := by
  simp [stD, seq, PyData.eqv, PyData.eqvAll]
  rfl
theorem seq_iff (x y : Step) : seq x y = true ↔ x = y := by
  cases x; cases y
  simp [seq]
theorem st_sm {x : Step} (h : x.ok) : Sm 1 3 (stD x) := by
  obtain ⟨h1, h2, h3, h4, h5, h6⟩ := h
  refine sm_tupleN (D := 0) (B := 0) (n := 3) ?_ (Nat.le_refl _)
  intro y hy
  simp at hy
  rcases hy with rfl | rfl | rfl
  · exact sm_int (by omega) (by omega)
  · exact sm_int (by omega) (by omega)
  · exact sm_int (by omega) (by omega)
theorem pa_sm {xs : List Step} (h : ∀ x ∈ xs, x.ok) (hl : xs.length ≤ 8) : Sm 2 32 (paD xs) := by
  refine sm_tupleN (D := 1) (B := 3) (n := 8) ?_ (by rw [List.length_map]; exact hl)
  intro y hy
  obtain ⟨x, hx, rfl⟩ := List.mem_map.mp hy
  exact st_sm (h x hx)
/-- the order -/
def before (x y : Step) : Bool := if x.c = y.c ∧ x.h = y.h then decide (x.i < y.i) else if x.c = y.c then decide (y.h < x.h) else decide (y.c < x.c)
def first : List Step → List Step → Bool
  | [], [] => false
  | [], _ :: _ => true
  | _ :: _, [] => false
  | x :: xs, y :: ys => if seq x y = true then first xs ys else before x y
theorem before_ne {x y : Step} (h : seq x y = false) : before x y ≠ before y x := by
  obtain ⟨a, b, c⟩ := x
  obtain ⟨a', b', c'⟩ := y
  unfold before
  simp only
  by_cases h1 : a = a'
  · subst h1
    by_cases h2 : b = b'
    · subst h2
      have h3 : c ≠ c' := fun e => by subst e; simp [seq] at h
      simp only [and_self, if_true]
      intro e
      rw [decide_eq_decide] at e
      omega
    · have h2' : ¬ b' = b := fun e => h2 e.symm
      simp only [h2, h2', and_false, if_false, if_true]
      intro e
      rw [decide_eq_decide] at e
      omega
  · have h1' : ¬ a' = a := fun e => h1 e.symm
    simp only [h1, h1', false_and, if_false]
    intro e
    rw [decide_eq_decide] at e
    omega
theorem seq_comm (x y : Step) : seq x y = seq y x := by
  rw [Bool.eq_iff_iff, seq_iff, seq_iff]
  exact eq_comm
theorem first_ne : ∀ xs ys : List Step, xs ≠ ys → first xs ys ≠ first ys xs
  | [], [], h => absurd rfl h
  | [], _ :: _, _ => by simp [first]
  | _ :: _, [], _ => by simp [first]
  | x :: xs, y :: ys, h => by
    unfold first
    rw [seq_comm y x]
    by_cases e : seq x y = true
    · rw [if_pos e, if_pos e]
      have e' := (seq_iff x y).mp e
      exact first_ne xs ys fun z => h (by rw [e', z])
    · rw [if_neg e, if_neg e]
      exact before_ne (by simpa using e)
/-! ### the program -/
def rkD (x : Step) : PyData := .tuple [.int (-x.c), .int (-x.h), .int x.i]
abbrev raD (xs : List Step) : PyData := .tuple (xs.map rkD)
theorem rk_alike (x y : Step) : PySem.W.alike (rkD x) (rkD y) = true := by simp [rkD, PySem.W.alike, PySem.W.alikeAll]
theorem ra_alike : ∀ xs ys : List Step, PySem.W.alikeAll (xs.map rkD) (ys.map rkD) = true
  | [], _ => by simp [PySem.W.alikeAll]
  | _ :: _, [] => by simp [PySem.W.alikeAll]
  | x :: xs, y :: ys => by
    have := ra_alike xs ys
    simp [PySem.W.alikeAll, rk_alike, this]
theorem al_int (i j : Int) : PySem.W.alike (.int i) (.int j) = true := by simp [PySem.W.alike]
theorem eqv_int (i j : Int) : PyData.eqv (.int i) (.int j) = decide (i = j) := by
  simp [PyData.eqv]
  rfl
theorem rk_eqv (x y : Step) : PyData.eqv (rkD x) (rkD y) = seq x y := by
  simp only [rkD, PyData.eqv, PyData.eqvAll, Bool.and_true, seq]
  have e : ∀ i j : Int, (-i == -j) = decide (i = j) := fun i j => by
    rw [Bool.eq_iff_iff, beq_iff_eq, decide_eq_true_eq]
    omega
  have e2 : ∀ i j : Int, (i == j) = decide (i = j) := fun i j => by
    rw [Bool.eq_iff_iff, beq_iff_eq, decide_eq_true_eq]
  rw [e, e, e2]
theorem rk_lt {x y : Step} (h : seq x y = false) : PySem.W.dataLt (rkD x) (rkD y) = before x y := by
  unfold rkD
  rw [lt_cons (al_int _ _), lt_cons (al_int _ _), lt_cons (al_int _ _), lt_nil_nil, PySem.W.dataLt_int, PySem.W.dataLt_int, PySem.W.dataLt_int, eqv_int, eqv_int, eqv_int]
  unfold before
  simp only [decide_eq_true_eq]
  by_cases h1 : x.c = y.c
  · by_cases h2 : x.h = y.h
    · have h3 : ¬ x.i = y.i := fun h3 => by
        rw [seq, h1, h2, h3] at h
        simp at h
      rw [if_pos (by omega), if_pos (by omega), if_neg h3, if_pos ⟨h1, h2⟩]
    · rw [if_pos (by omega), if_neg (by omega), if_neg (fun z => h2 z.2), if_pos h1]
      exact decide_eq_decide.mpr (by omega)
  · rw [if_neg (by omega), if_neg (fun z => h1 z.1), if_neg h1]
    exact decide_eq_decide.mpr (by omega)
theorem ra_lt : ∀ xs ys : List Step, PySem.W.dataLt (raD xs) (raD ys) = first xs ys
  | [], [] => lt_nil_nil
  | [], _ :: _ => lt_nil_cons _ _
  | _ :: _, [] => lt_cons_nil _ _
  | x :: xs, y :: ys => by
    show PySem.W.dataLt (.tuple (rkD x :: xs.map rkD)) (.tuple (rkD y :: ys.map rkD)) = _
    rw [lt_cons (rk_alike x y), rk_eqv, ra_lt xs ys]
    show _ = if seq x y = true then first xs ys else before x y
    by_cases e : seq x y = true
    · rw [if_pos e, if_pos e]
    · rw [if_neg e, if_neg e]
      exact rk_lt (by simpa using e)
theorem w_rank {xs : List Step} {S : Sto} {Q : QE} {X : QX} (hl : xs.length ≤ 8) (h : Q (.d (raD xs)) S) : m_rank_of [.d (paD xs)] S Q X := by
  simp only [m_rank_of, c_rank_of, fnM, cNext, cSeq, cBrk, cCont, cDrop, cRet, cRetN, cIf, cNever, cAsg, cPar, cAug, cFor, eC, eVar, eOp, eUn, eIf, aNil, aCons, eTup, eLst, eLstM, eCB, eFn, eAndV, eOrV, eNotV, cAnd, cOr, cNot, cB, cTru, cYes, mName, mNames, wipeM, mTup, mSub, eFrz, eAppend, eSlice, oNone, oSome, eChain, eLcG, finD, finM, iRange1, iRange2, iZip2, iSeq, bInt, bIntC, bCmp, bAdd, bNeg, bIs, bIsN, isNone, bEq, bNe, bRepr, bLen, bIntOf, b2Int, bTuple, bList, bListM, bAll, bAny, tupOf, datOf, truV, okOf, bIx_tup, bIx_lst, bIx_set, lenV_set, ixN_21, ixN_20, set_1, sset_same, sset_sset, MO.lst.injEq, lenV_tup, lenV_lst, atI_0, atI_1, atI_2, atI_3, atI_4, lstOf, allD, allD_map, ex_eq_and, ex_eq_and', List.map_cons, List.map_nil, List.length_cons, List.length_nil, List.replicate, List.cons_append, List.nil_append, List.getElem?_cons_zero, List.getElem?_cons_succ, Option.some.injEq, Option.map_some, List.set, List.cons.injEq, and_true, true_and, MV.d.injEq, MV.m.injEq, PyData.int.injEq, PyData.bool.injEq, PyData.str.injEq, PyData.tuple.injEq, PyData.list.injEq, exists_and_left, exists_and_right, exists_eq_left', exists_eq_left, exists_eq_right, exists_eq', Nat.reduceAdd, Nat.reduceSub, Nat.reduceLT, Nat.reduceLeDiff, decide_eq_true_eq, Bool.not_eq_true', decide_eq_false_iff_not, reduceCtorEq, if_true, if_false, Bool.false_eq_true, ite_true, ite_false, not_true_eq_false, not_false_eq_true, Bool.not_true, Bool.not_false, reduceIte, and_self, or_true, true_or, or_false, false_or, and_false, false_and]
  have e : seqOf S (.d (paD xs)) = some (xs.map fun x => .d (stD x)) := by
    show some ((xs.map stD).map MV.d) = _
    rw [List.map_map]; rfl
  simp only [e, fnM, cNext, cSeq, cBrk, cCont, cDrop, cRet, cRetN, cIf, cNever, cAsg, cPar, cAug, cFor, eC, eVar, eOp, eUn, eIf, aNil, aCons, eTup, eLst, eLstM, eCB, eFn, eAndV, eOrV, eNotV, cAnd, cOr, cNot, cB, cTru, cYes, mName, mNames, wipeM, mTup, mSub, eFrz, eAppend, eSlice, oNone, oSome, eChain, eLcG, finD, finM, iRange1, iRange2, iZip2, iSeq, bInt, bIntC, bCmp, bAdd, bNeg, bIs, bIsN, isNone, bEq, bNe, bRepr, bLen, bIntOf, b2Int, bTuple, bList, bListM, bAll, bAny, tupOf, datOf, truV, okOf, bIx_tup, bIx_lst, bIx_set, lenV_set, ixN_21, ixN_20, set_1, sset_same, sset_sset, MO.lst.injEq, lenV_tup, lenV_lst, atI_0, atI_1, atI_2, atI_3, atI_4, lstOf, allD, allD_map, ex_eq_and, ex_eq_and', List.map_cons, List.map_nil, List.length_cons, List.length_nil, List.replicate, List.cons_append, List.nil_append, List.getElem?_cons_zero, List.getElem?_cons_succ, Option.some.injEq, Option.map_some, List.set, List.cons.injEq, and_true, true_and, MV.d.injEq, MV.m.injEq, PyData.int.injEq, PyData.bool.injEq, PyData.str.injEq, PyData.tuple.injEq, PyData.list.injEq, exists_and_left, exists_and_right, exists_eq_left', exists_eq_left, exists_eq_right, exists_eq', Nat.reduceAdd, Nat.reduceSub, Nat.reduceLT, Nat.reduceLeDiff, decide_eq_true_eq, Bool.not_eq_true', decide_eq_false_iff_not, reduceCtorEq, if_true, if_false, Bool.false_eq_true, ite_true, ite_false, not_true_eq_false, not_false_eq_true, Bool.not_true, Bool.not_false, reduceIte, and_self, or_true, true_or, or_false, false_or, and_false, false_and]
  intro _
  refine lcL_map (fun x : Step => .d (stD x)) (fun _ => true) (fun x => .d (rkD x)) trivial xs _ ?_ ?_ ?_
  · rintro x _ N M hM _
    simp only [stD, fnM, cNext, cSeq, cBrk, cCont, cDrop, cRet, cRetN, cIf, cNever, cAsg, cPar, cAug, cFor, eC, eVar, eOp, eUn, eIf, aNil, aCons, eTup, eLst, eLstM, eCB, eFn, eAndV, eOrV, eNotV, cAnd, cOr, cNot, cB, cTru, cYes, mName, mNames, wipeM, mTup, mSub, eFrz, eAppend, eSlice, oNone, oSome, eChain, eLcG, finD, finM, iRange1, iRange2, iZip2, iSeq, bInt, bIntC, bCmp, bAdd, bNeg, bIs, bIsN, isNone, bEq, bNe, bRepr, bLen, bIntOf, b2Int, bTuple, bList, bListM, bAll, bAny, tupOf, datOf, truV, okOf, bIx_tup, bIx_lst, bIx_set, lenV_set, ixN_21, ixN_20, set_1, sset_same, sset_sset, MO.lst.injEq, lenV_tup, lenV_lst, atI_0, atI_1, atI_2, atI_3, atI_4, lstOf, allD, allD_map, ex_eq_and, ex_eq_and', List.map_cons, List.map_nil, List.length_cons, List.length_nil, List.replicate, List.cons_append, List.nil_append, List.getElem?_cons_zero, List.getElem?_cons_succ, Option.some.injEq, Option.map_some, List.set, List.cons.injEq, and_true, true_and, MV.d.injEq, MV.m.injEq, PyData.int.injEq, PyData.bool.injEq, PyData.str.injEq, PyData.tuple.injEq, PyData.list.injEq, exists_and_left, exists_and_right, exists_eq_left', exists_eq_left, exists_eq_right, exists_eq', Nat.reduceAdd, Nat.reduceSub, Nat.reduceLT, Nat.reduceLeDiff, decide_eq_true_eq, Bool.not_eq_true', decide_eq_false_iff_not, reduceCtorEq, if_true, if_false, Bool.false_eq_true, ite_true, ite_false, not_true_eq_false, not_false_eq_true, Bool.not_true, Bool.not_false, reduceIte, and_self, or_true, true_or, or_false, false_or, and_false, false_and]
    exact ⟨by decide, hM rfl⟩
  · exact Nat.le_of_lt (line_big (by simp; omega))
  · rw [filt_true, List.nil_append]
    exact ⟨_, allD_of _ _, h⟩
theorem rk_sm {x : Step} (h : x.ok) : Sm 1 3 (rkD x) := by
  obtain ⟨h1, h2, h3, h4, h5, h6⟩ := h
  refine sm_tupleN (D := 0) (B := 0) (n := 3) ?_ (Nat.le_refl _)
  intro y hy
  simp at hy
  rcases hy with rfl | rfl | rfl
  · exact sm_int (by omega) (by omega)
  · exact sm_int (by omega) (by omega)
  · exact sm_int (by omega) (by omega)
theorem ra_sm {xs : List Step} (h : ∀ x ∈ xs, x.ok) (hl : xs.length ≤ 8) : Sm 2 32 (raD xs) := by
  refine sm_tupleN (D := 1) (B := 3) (n := 8) ?_ (by rw [List.length_map]; exact hl)
  intro y hy
  obtain ⟨x, hx, rfl⟩ := List.mem_map.mp hy
  exact rk_sm (h x hx)
structure PaOk (xs : List Step) : Prop where
  small : ∀ x ∈ xs, x.ok
  short : xs.length ≤ 8
theorem w_before {xs ys : List Step} {S : Sto} {Q : QE} {X : QX} (h1 : PaOk xs) (h2 : PaOk ys) (h : Q (.d (.bool (first xs ys))) S) : m_comes_before [.d (paD xs), .d (paD ys)] S Q X := by
  simp only [m_comes_before, c_comes_before, fnM, cNext, cSeq, cBrk, cCont, cDrop, cRet, cRetN, cIf, cNever, cAsg, cPar, cAug, cFor, eC, eVar, eOp, eUn, eIf, aNil, aCons, eTup, eLst, eLstM, eCB, eFn, eAndV, eOrV, eNotV, cAnd, cOr, cNot, cB, cTru, cYes, mName, mNames, wipeM, mTup, mSub, eFrz, eAppend, eSlice, oNone, oSome, eChain, eLcG, finD, finM, iRange1, iRange2, iZip2, iSeq, bInt, bIntC, bCmp, bAdd, bNeg, bIs, bIsN, isNone, bEq, bNe, bRepr, bLen, bIntOf, b2Int, bTuple, bList, bListM, bAll, bAny, tupOf, datOf, truV, okOf, bIx_tup, bIx_lst, bIx_set, lenV_set, ixN_21, ixN_20, set_1, sset_same, sset_sset, MO.lst.injEq, lenV_tup, lenV_lst, atI_0, atI_1, atI_2, atI_3, atI_4, lstOf, allD, allD_map, ex_eq_and, ex_eq_and', List.map_cons, List.map_nil, List.length_cons, List.length_nil, List.replicate, List.cons_append, List.nil_append, List.getElem?_cons_zero, List.getElem?_cons_succ, Option.some.injEq, Option.map_some, List.set, List.cons.injEq, and_true, true_and, MV.d.injEq, MV.m.injEq, PyData.int.injEq, PyData.bool.injEq, PyData.str.injEq, PyData.tuple.injEq, PyData.list.injEq, exists_and_left, exists_and_right, exists_eq_left', exists_eq_left, exists_eq_right, exists_eq', Nat.reduceAdd, Nat.reduceSub, Nat.reduceLT, Nat.reduceLeDiff, decide_eq_true_eq, Bool.not_eq_true', decide_eq_false_iff_not, reduceCtorEq, if_true, if_false, Bool.false_eq_true, ite_true, ite_false, not_true_eq_false, not_false_eq_true, Bool.not_true, Bool.not_false, reduceIte, and_self, or_true, true_or, or_false, false_or, and_false, false_and]
  refine w_rank h1.short ?_
  simp only [fnM, cNext, cSeq, cBrk, cCont, cDrop, cRet, cRetN, cIf, cNever, cAsg, cPar, cAug, cFor, eC, eVar, eOp, eUn, eIf, aNil, aCons, eTup, eLst, eLstM, eCB, eFn, eAndV, eOrV, eNotV, cAnd, cOr, cNot, cB, cTru, cYes, mName, mNames, wipeM, mTup, mSub, eFrz, eAppend, eSlice, oNone, oSome, eChain, eLcG, finD, finM, iRange1, iRange2, iZip2, iSeq, bInt, bIntC, bCmp, bAdd, bNeg, bIs, bIsN, isNone, bEq, bNe, bRepr, bLen, bIntOf, b2Int, bTuple, bList, bListM, bAll, bAny, tupOf, datOf, truV, okOf, bIx_tup, bIx_lst, bIx_set, lenV_set, ixN_21, ixN_20, set_1, sset_same, sset_sset, MO.lst.injEq, lenV_tup, lenV_lst, atI_0, atI_1, atI_2, atI_3, atI_4, lstOf, allD, allD_map, ex_eq_and, ex_eq_and', List.map_cons, List.map_nil, List.length_cons, List.length_nil, List.replicate, List.cons_append, List.nil_append, List.getElem?_cons_zero, List.getElem?_cons_succ, Option.some.injEq, Option.map_some, List.set, List.cons.injEq, and_true, true_and, MV.d.injEq, MV.m.injEq, PyData.int.injEq, PyData.bool.injEq, PyData.str.injEq, PyData.tuple.injEq, PyData.list.injEq, exists_and_left, exists_and_right, exists_eq_left', exists_eq_left, exists_eq_right, exists_eq', Nat.reduceAdd, Nat.reduceSub, Nat.reduceLT, Nat.reduceLeDiff, decide_eq_true_eq, Bool.not_eq_true', decide_eq_false_iff_not, reduceCtorEq, if_true, if_false, Bool.false_eq_true, ite_true, ite_false, not_true_eq_false, not_false_eq_true, Bool.not_true, Bool.not_false, reduceIte, and_self, or_true, true_or, or_false, false_or, and_false, false_and]
  refine w_rank h2.short ?_
  simp only [fnM, cNext, cSeq, cBrk, cCont, cDrop, cRet, cRetN, cIf, cNever, cAsg, cPar, cAug, cFor, eC, eVar, eOp, eUn, eIf, aNil, aCons, eTup, eLst, eLstM, eCB, eFn, eAndV, eOrV, eNotV, cAnd, cOr, cNot, cB, cTru, cYes, mName, mNames, wipeM, mTup, mSub, eFrz, eAppend, eSlice, oNone, oSome, eChain, eLcG, finD, finM, iRange1, iRange2, iZip2, iSeq, bInt, bIntC, bCmp, bAdd, bNeg, bIs, bIsN, isNone, bEq, bNe, bRepr, bLen, bIntOf, b2Int, bTuple, bList, bListM, bAll, bAny, tupOf, datOf, truV, okOf, bIx_tup, bIx_lst, bIx_set, lenV_set, ixN_21, ixN_20, set_1, sset_same, sset_sset, MO.lst.injEq, lenV_tup, lenV_lst, atI_0, atI_1, atI_2, atI_3, atI_4, lstOf, allD, allD_map, ex_eq_and, ex_eq_and', List.map_cons, List.map_nil, List.length_cons, List.length_nil, List.replicate, List.cons_append, List.nil_append, List.getElem?_cons_zero, List.getElem?_cons_succ, Option.some.injEq, Option.map_some, List.set, List.cons.injEq, and_true, true_and, MV.d.injEq, MV.m.injEq, PyData.int.injEq, PyData.bool.injEq, PyData.str.injEq, PyData.tuple.injEq, PyData.list.injEq, exists_and_left, exists_and_right, exists_eq_left', exists_eq_left, exists_eq_right, exists_eq', Nat.reduceAdd, Nat.reduceSub, Nat.reduceLT, Nat.reduceLeDiff, decide_eq_true_eq, Bool.not_eq_true', decide_eq_false_iff_not, reduceCtorEq, if_true, if_false, Bool.false_eq_true, ite_true, ite_false, not_true_eq_false, not_false_eq_true, Bool.not_true, Bool.not_false, reduceIte, and_self, or_true, true_or, or_false, false_or, and_false, false_and]
  refine ⟨⟨?_, by simp, (ra_sm h1.small h1.short).shaped (by decide), (ra_sm h2.small h2.short).shaped (by decide)⟩, ?_⟩
  · simp only [PySem.W.alike]
    exact ra_alike xs ys
  · rw [ra_lt]
    exact h
/-! ### the law's own order -/
theorem cut_to {α : Type} (xs : List α) {r : Int} (h : 0 ≤ r) : cutL xs none (some r) = xs.take r.toNat := by
  unfold cutL
  have e : HT.sIx xs.length xs.length (some r) = min r.toNat xs.length := by
    have := HT.sIx_nat xs.length xs.length r.toNat
    rwa [Int.toNat_of_nonneg h] at this
  rw [e, HT.sIx_none]
  simp
theorem pa_get {xs : List Step} {k : Nat} (h : k < xs.length) : atI ((xs.map stD).map MV.d) (k : Int) = some (.d (stD xs[k])) := by
  rw [atI_nat']
  simp [h]
theorem first_drop {xs ys : List Step} {k : Nat} (h1 : k < xs.length) (h2 : k < ys.length) : first (xs.drop k) (ys.drop k) = if seq xs[k] ys[k] = true then first (xs.drop (k + 1)) (ys.drop (k + 1)) else before xs[k] ys[k] := by
  rw [List.drop_eq_getElem_cons h1, List.drop_eq_getElem_cons h2]
  rfl
theorem first_end {xs ys : List Step} {k : Nat} (h : k = min xs.length ys.length) : first (xs.drop k) (ys.drop k) = decide (xs.length < ys.length) := by
  by_cases hl : xs.length < ys.length
  · rw [List.drop_of_length_le (by omega), List.drop_eq_getElem_cons (by omega), decide_eq_true hl]
    rfl
  · rw [List.drop_of_length_le (l := ys) (by omega), decide_eq_false hl]
    cases xs.drop k <;> rfl
abbrev twD (x : Step) : PyData := .tuple [.int x.c, .int x.h]
theorem tw_sm {x : Step} (h : x.ok) : Sm 1 2 (twD x) := by
  obtain ⟨h1, h2, h3, h4, h5, h6⟩ := h
  refine sm_tupleN (D := 0) (B := 0) (n := 2) ?_ (Nat.le_refl _)
  intro y hy
  simp at hy
  rcases hy with rfl | rfl
  · exact sm_int (by omega) (by omega)
  · exact sm_int (by omega) (by omega)
theorem tw_eqv (x y : Step) : PyData.eqv (twD x) (twD y) = (decide (x.c = y.c) && decide (x.h = y.h)) := by
  simp [PyData.eqv, PyData.eqvAll]
  rfl
theorem tw_lt {x y : Step} (h : ¬ (x.c = y.c ∧ x.h = y.h)) : PySem.W.dataLt (twD y) (twD x) = if x.c = y.c then decide (y.h < x.h) else decide (y.c < x.c) := by
  unfold twD
  rw [lt_cons (al_int _ _), lt_cons (al_int _ _), lt_nil_nil, PySem.W.dataLt_int, PySem.W.dataLt_int, eqv_int, eqv_int]
  simp only [decide_eq_true_eq]
  by_cases h1 : x.c = y.c
  · have h2 : ¬ y.h = x.h := fun e => h ⟨h1, e.symm⟩
    rw [if_pos h1.symm, if_neg h2, if_pos h1]
  · rw [if_neg (fun e => h1 e.symm), if_neg h1]
theorem w_first {xs ys : List Step} {S : Sto} {Q : QE} {X : QX} (h1 : PaOk xs) (h2 : PaOk ys) (h : Q (.d (.bool (first xs ys))) S) : m__law_first [.d (paD xs), .d (paD ys)] S Q X := by
  simp only [m__law_first, c__law_first, c__law_first_1, fnM, cNext, cSeq, cBrk, cCont, cDrop, cRet, cRetN, cIf, cNever, cAsg, cPar, cAug, cFor, eC, eVar, eOp, eUn, eIf, aNil, aCons, eTup, eLst, eLstM, eCB, eFn, eAndV, eOrV, eNotV, cAnd, cOr, cNot, cB, cTru, cYes, mName, mNames, wipeM, mTup, mSub, eFrz, eAppend, eSlice, oNone, oSome, eChain, eLcG, finD, finM, iRange1, iRange2, iZip2, iSeq, bInt, bIntC, bCmp, bAdd, bNeg, bIs, bIsN, isNone, bEq, bNe, bRepr, bLen, bIntOf, b2Int, bTuple, bList, bListM, bAll, bAny, tupOf, datOf, truV, okOf, bIx_tup, bIx_lst, bIx_set, lenV_set, ixN_21, ixN_20, set_1, sset_same, sset_sset, MO.lst.injEq, lenV_tup, lenV_lst, atI_0, atI_1, atI_2, atI_3, atI_4, lstOf, allD, allD_map, ex_eq_and, ex_eq_and', List.map_cons, List.map_nil, List.length_cons, List.length_nil, List.replicate, List.cons_append, List.nil_append, List.getElem?_cons_zero, List.getElem?_cons_succ, Option.some.injEq, Option.map_some, List.set, List.cons.injEq, and_true, true_and, MV.d.injEq, MV.m.injEq, PyData.int.injEq, PyData.bool.injEq, PyData.str.injEq, PyData.tuple.injEq, PyData.list.injEq, exists_and_left, exists_and_right, exists_eq_left', exists_eq_left, exists_eq_right, exists_eq', Nat.reduceAdd, Nat.reduceSub, Nat.reduceLT, Nat.reduceLeDiff, decide_eq_true_eq, Bool.not_eq_true', decide_eq_false_iff_not, reduceCtorEq, if_true, if_false, Bool.false_eq_true, ite_true, ite_false, not_true_eq_false, not_false_eq_true, Bool.not_true, Bool.not_false, reduceIte, and_self, or_true, true_or, or_false, false_or, and_false, false_and]
  have s1 := h1.short
  have s2 := h2.short
  have em : (if ((ys.map stD).length : Int) < ((xs.map stD).length : Int) then ((ys.map stD).length : Int) else ((xs.map stD).length : Int)) = ((min xs.length ys.length : Nat) : Int) := by
    rw [List.length_map, List.length_map]
    split <;> omega
  rw [em]
  refine ⟨by omega, by omega, ?_⟩
  refine forL_inv (fun k ρ S' => S' = S ∧ k ≤ min xs.length ys.length ∧ (∃ c, ρ = [some (.d (paD xs)), some (.d (paD ys)), c]) ∧ first (xs.drop k) (ys.drop k) = first xs ys) _ 0 _ _ ⟨rfl, Nat.zero_le _, ⟨_, rfl⟩, rfl⟩ (fun _ _ _ _ => trivial) ?_ ?_
  · rintro k y ρ S2 N ey ⟨rfl, hk, ⟨c, rfl⟩, hf⟩ hN
    obtain ⟨hk2, rfl⟩ := rng_some ey
    rw [Nat.zero_add] at hf hN
    have k1 : k < xs.length := by omega
    have k2 : k < ys.length := by omega
    rw [first_drop k1 k2] at hf
    have g1 : atI (xs.map stD) (0 + (k : Int)) = some (.tuple [.int xs[k].c, .int xs[k].h, .int xs[k].i]) := by rw [Int.zero_add, atI_nat']; simp [k1, stD]
    have g2 : atI (ys.map stD) (0 + (k : Int)) = some (.tuple [.int ys[k].c, .int ys[k].h, .int ys[k].i]) := by rw [Int.zero_add, atI_nat']; simp [k2, stD]
    have o1 := h1.small xs[k] (List.getElem_mem _)
    have o2 := h2.small ys[k] (List.getElem_mem _)
    have q1 := st_sm o1
    have q2 := st_sm o2
    have p1 := tw_sm o1
    have p2 := tw_sm o2
    generalize xs[k] = x at *
    generalize ys[k] = y at *
    have ee := st_eqv x y
    unfold stD at q1 q2 ee
    simp only [c__law_first_2, g1, g2, ee, fnM, cNext, cSeq, cBrk, cCont, cDrop, cRet, cRetN, cIf, cNever, cAsg, cPar, cAug, cFor, eC, eVar, eOp, eUn, eIf, aNil, aCons, eTup, eLst, eLstM, eCB, eFn, eAndV, eOrV, eNotV, cAnd, cOr, cNot, cB, cTru, cYes, mName, mNames, wipeM, mTup, mSub, eFrz, eAppend, eSlice, oNone, oSome, eChain, eLcG, finD, finM, iRange1, iRange2, iZip2, iSeq, bInt, bIntC, bCmp, bAdd, bNeg, bIs, bIsN, isNone, bEq, bNe, bRepr, bLen, bIntOf, b2Int, bTuple, bList, bListM, bAll, bAny, tupOf, datOf, truV, okOf, bIx_tup, bIx_lst, bIx_set, lenV_set, ixN_21, ixN_20, set_1, sset_same, sset_sset, MO.lst.injEq, lenV_tup, lenV_lst, atI_0, atI_1, atI_2, atI_3, atI_4, lstOf, allD, allD_map, ex_eq_and, ex_eq_and', List.map_cons, List.map_nil, List.length_cons, List.length_nil, List.replicate, List.cons_append, List.nil_append, List.getElem?_cons_zero, List.getElem?_cons_succ, Option.some.injEq, Option.map_some, List.set, List.cons.injEq, and_true, true_and, MV.d.injEq, MV.m.injEq, PyData.int.injEq, PyData.bool.injEq, PyData.str.injEq, PyData.tuple.injEq, PyData.list.injEq, exists_and_left, exists_and_right, exists_eq_left', exists_eq_left, exists_eq_right, exists_eq', Nat.reduceAdd, Nat.reduceSub, Nat.reduceLT, Nat.reduceLeDiff, decide_eq_true_eq, Bool.not_eq_true', decide_eq_false_iff_not, reduceCtorEq, if_true, if_false, Bool.false_eq_true, ite_true, ite_false, not_true_eq_false, not_false_eq_true, Bool.not_true, Bool.not_false, reduceIte, and_self, or_true, true_or, or_false, false_or, and_false, false_and]
    refine ⟨q1.shaped (by decide), q2.shaped (by decide), ?_⟩
    by_cases e : seq x y = true
    · rw [if_pos e] at hf
      rw [if_neg (by rw [e]; simp)]
      exact hN _ _ ⟨rfl, by omega, ⟨_, rfl⟩, hf⟩
    · rw [if_neg e] at hf
      rw [if_pos (by simpa using e)]
      have cc : ∀ a b c : PyData, cutL [a, b, c] none (some 2) = [a, b] := fun _ _ _ => rfl
      have e2 := tw_eqv x y
      simp only [c__law_first_3, g1, g2, bSlice, cc, e2, fnM, cNext, cSeq, cBrk, cCont, cDrop, cRet, cRetN, cIf, cNever, cAsg, cPar, cAug, cFor, eC, eVar, eOp, eUn, eIf, aNil, aCons, eTup, eLst, eLstM, eCB, eFn, eAndV, eOrV, eNotV, cAnd, cOr, cNot, cB, cTru, cYes, mName, mNames, wipeM, mTup, mSub, eFrz, eAppend, eSlice, oNone, oSome, eChain, eLcG, finD, finM, iRange1, iRange2, iZip2, iSeq, bInt, bIntC, bCmp, bAdd, bNeg, bIs, bIsN, isNone, bEq, bNe, bRepr, bLen, bIntOf, b2Int, bTuple, bList, bListM, bAll, bAny, tupOf, datOf, truV, okOf, bIx_tup, bIx_lst, bIx_set, lenV_set, ixN_21, ixN_20, set_1, sset_same, sset_sset, MO.lst.injEq, lenV_tup, lenV_lst, atI_0, atI_1, atI_2, atI_3, atI_4, lstOf, allD, allD_map, ex_eq_and, ex_eq_and', List.map_cons, List.map_nil, List.length_cons, List.length_nil, List.replicate, List.cons_append, List.nil_append, List.getElem?_cons_zero, List.getElem?_cons_succ, Option.some.injEq, Option.map_some, List.set, List.cons.injEq, and_true, true_and, MV.d.injEq, MV.m.injEq, PyData.int.injEq, PyData.bool.injEq, PyData.str.injEq, PyData.tuple.injEq, PyData.list.injEq, exists_and_left, exists_and_right, exists_eq_left', exists_eq_left, exists_eq_right, exists_eq', Nat.reduceAdd, Nat.reduceSub, Nat.reduceLT, Nat.reduceLeDiff, decide_eq_true_eq, Bool.not_eq_true', decide_eq_false_iff_not, reduceCtorEq, if_true, if_false, Bool.false_eq_true, ite_true, ite_false, not_true_eq_false, not_false_eq_true, Bool.not_true, Bool.not_false, reduceIte, and_self, or_true, true_or, or_false, false_or, and_false, false_and]
      refine ⟨p1.shaped (by decide), p2.shaped (by decide), ?_⟩
      by_cases t : x.c = y.c ∧ x.h = y.h
      · rw [if_pos (by simp [t.1, t.2])]
        simp only [c__law_first_4, g1, g2, bSlice, cc, fnM, cNext, cSeq, cBrk, cCont, cDrop, cRet, cRetN, cIf, cNever, cAsg, cPar, cAug, cFor, eC, eVar, eOp, eUn, eIf, aNil, aCons, eTup, eLst, eLstM, eCB, eFn, eAndV, eOrV, eNotV, cAnd, cOr, cNot, cB, cTru, cYes, mName, mNames, wipeM, mTup, mSub, eFrz, eAppend, eSlice, oNone, oSome, eChain, eLcG, finD, finM, iRange1, iRange2, iZip2, iSeq, bInt, bIntC, bCmp, bAdd, bNeg, bIs, bIsN, isNone, bEq, bNe, bRepr, bLen, bIntOf, b2Int, bTuple, bList, bListM, bAll, bAny, tupOf, datOf, truV, okOf, bIx_tup, bIx_lst, bIx_set, lenV_set, ixN_21, ixN_20, set_1, sset_same, sset_sset, MO.lst.injEq, lenV_tup, lenV_lst, atI_0, atI_1, atI_2, atI_3, atI_4, lstOf, allD, allD_map, ex_eq_and, ex_eq_and', List.map_cons, List.map_nil, List.length_cons, List.length_nil, List.replicate, List.cons_append, List.nil_append, List.getElem?_cons_zero, List.getElem?_cons_succ, Option.some.injEq, Option.map_some, List.set, List.cons.injEq, and_true, true_and, MV.d.injEq, MV.m.injEq, PyData.int.injEq, PyData.bool.injEq, PyData.str.injEq, PyData.tuple.injEq, PyData.list.injEq, exists_and_left, exists_and_right, exists_eq_left', exists_eq_left, exists_eq_right, exists_eq', Nat.reduceAdd, Nat.reduceSub, Nat.reduceLT, Nat.reduceLeDiff, decide_eq_true_eq, Bool.not_eq_true', decide_eq_false_iff_not, reduceCtorEq, if_true, if_false, Bool.false_eq_true, ite_true, ite_false, not_true_eq_false, not_false_eq_true, Bool.not_true, Bool.not_false, reduceIte, and_self, or_true, true_or, or_false, false_or, and_false, false_and]
        unfold before at hf
        rw [if_pos t] at hf
        rw [hf]
        exact h
      · rw [if_neg (by simpa using t)]
        simp only [c__law_first_5, g1, g2, bSlice, cc, fnM, cNext, cSeq, cBrk, cCont, cDrop, cRet, cRetN, cIf, cNever, cAsg, cPar, cAug, cFor, eC, eVar, eOp, eUn, eIf, aNil, aCons, eTup, eLst, eLstM, eCB, eFn, eAndV, eOrV, eNotV, cAnd, cOr, cNot, cB, cTru, cYes, mName, mNames, wipeM, mTup, mSub, eFrz, eAppend, eSlice, oNone, oSome, eChain, eLcG, finD, finM, iRange1, iRange2, iZip2, iSeq, bInt, bIntC, bCmp, bAdd, bNeg, bIs, bIsN, isNone, bEq, bNe, bRepr, bLen, bIntOf, b2Int, bTuple, bList, bListM, bAll, bAny, tupOf, datOf, truV, okOf, bIx_tup, bIx_lst, bIx_set, lenV_set, ixN_21, ixN_20, set_1, sset_same, sset_sset, MO.lst.injEq, lenV_tup, lenV_lst, atI_0, atI_1, atI_2, atI_3, atI_4, lstOf, allD, allD_map, ex_eq_and, ex_eq_and', List.map_cons, List.map_nil, List.length_cons, List.length_nil, List.replicate, List.cons_append, List.nil_append, List.getElem?_cons_zero, List.getElem?_cons_succ, Option.some.injEq, Option.map_some, List.set, List.cons.injEq, and_true, true_and, MV.d.injEq, MV.m.injEq, PyData.int.injEq, PyData.bool.injEq, PyData.str.injEq, PyData.tuple.injEq, PyData.list.injEq, exists_and_left, exists_and_right, exists_eq_left', exists_eq_left, exists_eq_right, exists_eq', Nat.reduceAdd, Nat.reduceSub, Nat.reduceLT, Nat.reduceLeDiff, decide_eq_true_eq, Bool.not_eq_true', decide_eq_false_iff_not, reduceCtorEq, if_true, if_false, Bool.false_eq_true, ite_true, ite_false, not_true_eq_false, not_false_eq_true, Bool.not_true, Bool.not_false, reduceIte, and_self, or_true, true_or, or_false, false_or, and_false, false_and]
        refine ⟨⟨by simp [PySem.W.alike, PySem.W.alikeAll], by simp, p1.shaped (by decide), p2.shaped (by decide)⟩, ?_⟩
        rw [tw_lt t]
        unfold before at hf
        rw [if_neg t] at hf
        rw [hf]
        exact h
  · rintro ρ S2 ⟨rfl, _, ⟨c, rfl⟩, hf⟩
    rw [rng_length] at hf
    rw [first_end (by omega)] at hf
    simp only [c__law_first_6, fnM, cNext, cSeq, cBrk, cCont, cDrop, cRet, cRetN, cIf, cNever, cAsg, cPar, cAug, cFor, eC, eVar, eOp, eUn, eIf, aNil, aCons, eTup, eLst, eLstM, eCB, eFn, eAndV, eOrV, eNotV, cAnd, cOr, cNot, cB, cTru, cYes, mName, mNames, wipeM, mTup, mSub, eFrz, eAppend, eSlice, oNone, oSome, eChain, eLcG, finD, finM, iRange1, iRange2, iZip2, iSeq, bInt, bIntC, bCmp, bAdd, bNeg, bIs, bIsN, isNone, bEq, bNe, bRepr, bLen, bIntOf, b2Int, bTuple, bList, bListM, bAll, bAny, tupOf, datOf, truV, okOf, bIx_tup, bIx_lst, bIx_set, lenV_set, ixN_21, ixN_20, set_1, sset_same, sset_sset, MO.lst.injEq, lenV_tup, lenV_lst, atI_0, atI_1, atI_2, atI_3, atI_4, lstOf, allD, allD_map, ex_eq_and, ex_eq_and', List.map_cons, List.map_nil, List.length_cons, List.length_nil, List.replicate, List.cons_append, List.nil_append, List.getElem?_cons_zero, List.getElem?_cons_succ, Option.some.injEq, Option.map_some, List.set, List.cons.injEq, and_true, true_and, MV.d.injEq, MV.m.injEq, PyData.int.injEq, PyData.bool.injEq, PyData.str.injEq, PyData.tuple.injEq, PyData.list.injEq, exists_and_left, exists_and_right, exists_eq_left', exists_eq_left, exists_eq_right, exists_eq', Nat.reduceAdd, Nat.reduceSub, Nat.reduceLT, Nat.reduceLeDiff, decide_eq_true_eq, Bool.not_eq_true', decide_eq_false_iff_not, reduceCtorEq, if_true, if_false, Bool.false_eq_true, ite_true, ite_false, not_true_eq_false, not_false_eq_true, Bool.not_true, Bool.not_false, reduceIte, and_self, or_true, true_or, or_false, false_or, and_false, false_and]
    rw [List.length_map, List.length_map]
    rw [show decide (((xs.length : Nat) : Int) < (ys.length : Int)) = decide (xs.length < ys.length) from decide_eq_decide.mpr (by omega), hf]
    exact h
/-! ### drawn paths -/
def PsOk (S : Sto) (q : Addr) (ps : List (List Step)) : Prop := S q = some (.lst (ps.map fun p => .d (paD p))) ∧ ∀ p ∈ ps, PaOk p ∧ p.length ≤ 4
theorem w_some {b q : Addr} {S : Sto} {ps : List (List Step)} {Q : QE} {X : QX} (hne : q ≠ b) (hb : BoxOk S b) (hp : PsOk S q ps) (hl : ps.length ≤ 8)
    (h : ∀ p S', PaOk p → p.length ≤ 4 → BoxOk S' b → (∀ a, a ≠ b → S' a = S a) → Q (.d (paD p)) S') : m__law_some_path [.m b, .m q] S Q X := by
  simp only [m__law_some_path, c__law_some_path, c__law_some_path_1, fnM, cNext, cSeq, cBrk, cCont, cDrop, cRet, cRetN, cIf, cNever, cAsg, cPar, cAug, cFor, eC, eVar, eOp, eUn, eIf, aNil, aCons, eTup, eLst, eLstM, eCB, eFn, eAndV, eOrV, eNotV, cAnd, cOr, cNot, cB, cTru, cYes, mName, mNames, wipeM, mTup, mSub, eFrz, eAppend, eSlice, oNone, oSome, eChain, eLcG, finD, finM, iRange1, iRange2, iZip2, iSeq, bInt, bIntC, bCmp, bAdd, bNeg, bIs, bIsN, isNone, bEq, bNe, bRepr, bLen, bIntOf, b2Int, bTuple, bList, bListM, bAll, bAny, tupOf, datOf, truV, okOf, bIx_tup, bIx_lst, bIx_set, lenV_set, ixN_21, ixN_20, set_1, sset_same, sset_sset, MO.lst.injEq, lenV_tup, lenV_lst, atI_0, atI_1, atI_2, atI_3, atI_4, lstOf, allD, allD_map, ex_eq_and, ex_eq_and', List.map_cons, List.map_nil, List.length_cons, List.length_nil, List.replicate, List.cons_append, List.nil_append, List.getElem?_cons_zero, List.getElem?_cons_succ, Option.some.injEq, Option.map_some, List.set, List.cons.injEq, and_true, true_and, MV.d.injEq, MV.m.injEq, PyData.int.injEq, PyData.bool.injEq, PyData.str.injEq, PyData.tuple.injEq, PyData.list.injEq, exists_and_left, exists_and_right, exists_eq_left', exists_eq_left, exists_eq_right, exists_eq', Nat.reduceAdd, Nat.reduceSub, Nat.reduceLT, Nat.reduceLeDiff, decide_eq_true_eq, Bool.not_eq_true', decide_eq_false_iff_not, reduceCtorEq, if_true, if_false, Bool.false_eq_true, ite_true, ite_false, not_true_eq_false, not_false_eq_true, Bool.not_true, Bool.not_false, reduceIte, and_self, or_true, true_or, or_false, false_or, and_false, false_and]
  refine ⟨Nat.zero_le _, ?_⟩
  have tail : ∀ (p : List Step) (ρ2 : Option MV) (S1 : Sto), PaOk p → p.length ≤ 4 → BoxOk S1 b → (∀ a, a ≠ b → S1 a = S a) → c__law_some_path_5 ⟨fun _ S' => Q (.d .none) S', Q, fun _ _ => False, fun _ _ => False, fun x _ S' => noX x S'⟩ [some (.m b), some (.m q), some (.d (paD p)), ρ2] S1 := by
    intro p ρ2 S1 hp1 hp2 hb1 hS1
    simp only [c__law_some_path_5, fnM, cNext, cSeq, cBrk, cCont, cDrop, cRet, cRetN, cIf, cNever, cAsg, cPar, cAug, cFor, eC, eVar, eOp, eUn, eIf, aNil, aCons, eTup, eLst, eLstM, eCB, eFn, eAndV, eOrV, eNotV, cAnd, cOr, cNot, cB, cTru, cYes, mName, mNames, wipeM, mTup, mSub, eFrz, eAppend, eSlice, oNone, oSome, eChain, eLcG, finD, finM, iRange1, iRange2, iZip2, iSeq, bInt, bIntC, bCmp, bAdd, bNeg, bIs, bIsN, isNone, bEq, bNe, bRepr, bLen, bIntOf, b2Int, bTuple, bList, bListM, bAll, bAny, tupOf, datOf, truV, okOf, bIx_tup, bIx_lst, bIx_set, lenV_set, ixN_21, ixN_20, set_1, sset_same, sset_sset, MO.lst.injEq, lenV_tup, lenV_lst, atI_0, atI_1, atI_2, atI_3, atI_4, lstOf, allD, allD_map, ex_eq_and, ex_eq_and', List.map_cons, List.map_nil, List.length_cons, List.length_nil, List.replicate, List.cons_append, List.nil_append, List.getElem?_cons_zero, List.getElem?_cons_succ, Option.some.injEq, Option.map_some, List.set, List.cons.injEq, and_true, true_and, MV.d.injEq, MV.m.injEq, PyData.int.injEq, PyData.bool.injEq, PyData.str.injEq, PyData.tuple.injEq, PyData.list.injEq, exists_and_left, exists_and_right, exists_eq_left', exists_eq_left, exists_eq_right, exists_eq', Nat.reduceAdd, Nat.reduceSub, Nat.reduceLT, Nat.reduceLeDiff, decide_eq_true_eq, Bool.not_eq_true', decide_eq_false_iff_not, reduceCtorEq, if_true, if_false, Bool.false_eq_true, ite_true, ite_false, not_true_eq_false, not_false_eq_true, Bool.not_true, Bool.not_false, reduceIte, and_self, or_true, true_or, or_false, false_or, and_false, false_and]
    refine w_draw hb1 (by decide) fun r S2 r0 r1 hb2 hS2 => ?_
    simp only [fnM, cNext, cSeq, cBrk, cCont, cDrop, cRet, cRetN, cIf, cNever, cAsg, cPar, cAug, cFor, eC, eVar, eOp, eUn, eIf, aNil, aCons, eTup, eLst, eLstM, eCB, eFn, eAndV, eOrV, eNotV, cAnd, cOr, cNot, cB, cTru, cYes, mName, mNames, wipeM, mTup, mSub, eFrz, eAppend, eSlice, oNone, oSome, eChain, eLcG, finD, finM, iRange1, iRange2, iZip2, iSeq, bInt, bIntC, bCmp, bAdd, bNeg, bIs, bIsN, isNone, bEq, bNe, bRepr, bLen, bIntOf, b2Int, bTuple, bList, bListM, bAll, bAny, tupOf, datOf, truV, okOf, bIx_tup, bIx_lst, bIx_set, lenV_set, ixN_21, ixN_20, set_1, sset_same, sset_sset, MO.lst.injEq, lenV_tup, lenV_lst, atI_0, atI_1, atI_2, atI_3, atI_4, lstOf, allD, allD_map, ex_eq_and, ex_eq_and', List.map_cons, List.map_nil, List.length_cons, List.length_nil, List.replicate, List.cons_append, List.nil_append, List.getElem?_cons_zero, List.getElem?_cons_succ, Option.some.injEq, Option.map_some, List.set, List.cons.injEq, and_true, true_and, MV.d.injEq, MV.m.injEq, PyData.int.injEq, PyData.bool.injEq, PyData.str.injEq, PyData.tuple.injEq, PyData.list.injEq, exists_and_left, exists_and_right, exists_eq_left', exists_eq_left, exists_eq_right, exists_eq', Nat.reduceAdd, Nat.reduceSub, Nat.reduceLT, Nat.reduceLeDiff, decide_eq_true_eq, Bool.not_eq_true', decide_eq_false_iff_not, reduceCtorEq, if_true, if_false, Bool.false_eq_true, ite_true, ite_false, not_true_eq_false, not_false_eq_true, Bool.not_true, Bool.not_false, reduceIte, and_self, or_true, true_or, or_false, false_or, and_false, false_and]
    refine ⟨by omega, by omega, ?_⟩
    refine forL_inv (fun k ρ S' => BoxOk S' b ∧ (∀ a, a ≠ b → S' a = S a) ∧ ∃ p' c, ρ = [some (.m b), some (.m q), some (.d (paD p')), c] ∧ (∀ x ∈ p', x.ok) ∧ p'.length ≤ 4 + k) _ 0 _ _ ⟨hb2, fun a ha => (hS2 a ha).trans (hS1 a ha), p, _, rfl, hp1.small, by omega⟩ (fun _ _ _ _ => trivial) ?_ ?_
    · rintro k y ρ S3 N ey ⟨hb3, hS3, p', c, rfl, po, pl⟩ hN
      obtain ⟨hk2, rfl⟩ := rng_some ey
      have hk3 : k < 2 := by omega
      simp only [c__law_some_path_6, fnM, cNext, cSeq, cBrk, cCont, cDrop, cRet, cRetN, cIf, cNever, cAsg, cPar, cAug, cFor, eC, eVar, eOp, eUn, eIf, aNil, aCons, eTup, eLst, eLstM, eCB, eFn, eAndV, eOrV, eNotV, cAnd, cOr, cNot, cB, cTru, cYes, mName, mNames, wipeM, mTup, mSub, eFrz, eAppend, eSlice, oNone, oSome, eChain, eLcG, finD, finM, iRange1, iRange2, iZip2, iSeq, bInt, bIntC, bCmp, bAdd, bNeg, bIs, bIsN, isNone, bEq, bNe, bRepr, bLen, bIntOf, b2Int, bTuple, bList, bListM, bAll, bAny, tupOf, datOf, truV, okOf, bIx_tup, bIx_lst, bIx_set, lenV_set, ixN_21, ixN_20, set_1, sset_same, sset_sset, MO.lst.injEq, lenV_tup, lenV_lst, atI_0, atI_1, atI_2, atI_3, atI_4, lstOf, allD, allD_map, ex_eq_and, ex_eq_and', List.map_cons, List.map_nil, List.length_cons, List.length_nil, List.replicate, List.cons_append, List.nil_append, List.getElem?_cons_zero, List.getElem?_cons_succ, Option.some.injEq, Option.map_some, List.set, List.cons.injEq, and_true, true_and, MV.d.injEq, MV.m.injEq, PyData.int.injEq, PyData.bool.injEq, PyData.str.injEq, PyData.tuple.injEq, PyData.list.injEq, exists_and_left, exists_and_right, exists_eq_left', exists_eq_left, exists_eq_right, exists_eq', Nat.reduceAdd, Nat.reduceSub, Nat.reduceLT, Nat.reduceLeDiff, decide_eq_true_eq, Bool.not_eq_true', decide_eq_false_iff_not, reduceCtorEq, if_true, if_false, Bool.false_eq_true, ite_true, ite_false, not_true_eq_false, not_false_eq_true, Bool.not_true, Bool.not_false, reduceIte, and_self, or_true, true_or, or_false, false_or, and_false, false_and]
      refine w_draw hb3 (by decide) fun r1 S4 r10 r11 hb4 hS4 => ?_
      simp only [fnM, cNext, cSeq, cBrk, cCont, cDrop, cRet, cRetN, cIf, cNever, cAsg, cPar, cAug, cFor, eC, eVar, eOp, eUn, eIf, aNil, aCons, eTup, eLst, eLstM, eCB, eFn, eAndV, eOrV, eNotV, cAnd, cOr, cNot, cB, cTru, cYes, mName, mNames, wipeM, mTup, mSub, eFrz, eAppend, eSlice, oNone, oSome, eChain, eLcG, finD, finM, iRange1, iRange2, iZip2, iSeq, bInt, bIntC, bCmp, bAdd, bNeg, bIs, bIsN, isNone, bEq, bNe, bRepr, bLen, bIntOf, b2Int, bTuple, bList, bListM, bAll, bAny, tupOf, datOf, truV, okOf, bIx_tup, bIx_lst, bIx_set, lenV_set, ixN_21, ixN_20, set_1, sset_same, sset_sset, MO.lst.injEq, lenV_tup, lenV_lst, atI_0, atI_1, atI_2, atI_3, atI_4, lstOf, allD, allD_map, ex_eq_and, ex_eq_and', List.map_cons, List.map_nil, List.length_cons, List.length_nil, List.replicate, List.cons_append, List.nil_append, List.getElem?_cons_zero, List.getElem?_cons_succ, Option.some.injEq, Option.map_some, List.set, List.cons.injEq, and_true, true_and, MV.d.injEq, MV.m.injEq, PyData.int.injEq, PyData.bool.injEq, PyData.str.injEq, PyData.tuple.injEq, PyData.list.injEq, exists_and_left, exists_and_right, exists_eq_left', exists_eq_left, exists_eq_right, exists_eq', Nat.reduceAdd, Nat.reduceSub, Nat.reduceLT, Nat.reduceLeDiff, decide_eq_true_eq, Bool.not_eq_true', decide_eq_false_iff_not, reduceCtorEq, if_true, if_false, Bool.false_eq_true, ite_true, ite_false, not_true_eq_false, not_false_eq_true, Bool.not_true, Bool.not_false, reduceIte, and_self, or_true, true_or, or_false, false_or, and_false, false_and]
      refine w_draw hb4 (by decide) fun r2 S5 r20 r21 hb5 hS5 => ?_
      simp only [fnM, cNext, cSeq, cBrk, cCont, cDrop, cRet, cRetN, cIf, cNever, cAsg, cPar, cAug, cFor, eC, eVar, eOp, eUn, eIf, aNil, aCons, eTup, eLst, eLstM, eCB, eFn, eAndV, eOrV, eNotV, cAnd, cOr, cNot, cB, cTru, cYes, mName, mNames, wipeM, mTup, mSub, eFrz, eAppend, eSlice, oNone, oSome, eChain, eLcG, finD, finM, iRange1, iRange2, iZip2, iSeq, bInt, bIntC, bCmp, bAdd, bNeg, bIs, bIsN, isNone, bEq, bNe, bRepr, bLen, bIntOf, b2Int, bTuple, bList, bListM, bAll, bAny, tupOf, datOf, truV, okOf, bIx_tup, bIx_lst, bIx_set, lenV_set, ixN_21, ixN_20, set_1, sset_same, sset_sset, MO.lst.injEq, lenV_tup, lenV_lst, atI_0, atI_1, atI_2, atI_3, atI_4, lstOf, allD, allD_map, ex_eq_and, ex_eq_and', List.map_cons, List.map_nil, List.length_cons, List.length_nil, List.replicate, List.cons_append, List.nil_append, List.getElem?_cons_zero, List.getElem?_cons_succ, Option.some.injEq, Option.map_some, List.set, List.cons.injEq, and_true, true_and, MV.d.injEq, MV.m.injEq, PyData.int.injEq, PyData.bool.injEq, PyData.str.injEq, PyData.tuple.injEq, PyData.list.injEq, exists_and_left, exists_and_right, exists_eq_left', exists_eq_left, exists_eq_right, exists_eq', Nat.reduceAdd, Nat.reduceSub, Nat.reduceLT, Nat.reduceLeDiff, decide_eq_true_eq, Bool.not_eq_true', decide_eq_false_iff_not, reduceCtorEq, if_true, if_false, Bool.false_eq_true, ite_true, ite_false, not_true_eq_false, not_false_eq_true, Bool.not_true, Bool.not_false, reduceIte, and_self, or_true, true_or, or_false, false_or, and_false, false_and]
      refine w_draw hb5 (by decide) fun r3 S6 r30 r31 hb6 hS6 => ?_
      simp only [fnM, cNext, cSeq, cBrk, cCont, cDrop, cRet, cRetN, cIf, cNever, cAsg, cPar, cAug, cFor, eC, eVar, eOp, eUn, eIf, aNil, aCons, eTup, eLst, eLstM, eCB, eFn, eAndV, eOrV, eNotV, cAnd, cOr, cNot, cB, cTru, cYes, mName, mNames, wipeM, mTup, mSub, eFrz, eAppend, eSlice, oNone, oSome, eChain, eLcG, finD, finM, iRange1, iRange2, iZip2, iSeq, bInt, bIntC, bCmp, bAdd, bNeg, bIs, bIsN, isNone, bEq, bNe, bRepr, bLen, bIntOf, b2Int, bTuple, bList, bListM, bAll, bAny, tupOf, datOf, truV, okOf, bIx_tup, bIx_lst, bIx_set, lenV_set, ixN_21, ixN_20, set_1, sset_same, sset_sset, MO.lst.injEq, lenV_tup, lenV_lst, atI_0, atI_1, atI_2, atI_3, atI_4, lstOf, allD, allD_map, ex_eq_and, ex_eq_and', List.map_cons, List.map_nil, List.length_cons, List.length_nil, List.replicate, List.cons_append, List.nil_append, List.getElem?_cons_zero, List.getElem?_cons_succ, Option.some.injEq, Option.map_some, List.set, List.cons.injEq, and_true, true_and, MV.d.injEq, MV.m.injEq, PyData.int.injEq, PyData.bool.injEq, PyData.str.injEq, PyData.tuple.injEq, PyData.list.injEq, exists_and_left, exists_and_right, exists_eq_left', exists_eq_left, exists_eq_right, exists_eq', Nat.reduceAdd, Nat.reduceSub, Nat.reduceLT, Nat.reduceLeDiff, decide_eq_true_eq, Bool.not_eq_true', decide_eq_false_iff_not, reduceCtorEq, if_true, if_false, Bool.false_eq_true, ite_true, ite_false, not_true_eq_false, not_false_eq_true, Bool.not_true, Bool.not_false, reduceIte, and_self, or_true, true_or, or_false, false_or, and_false, false_and]
      refine ⟨by decide, by decide, ?_, ?_⟩
      · rw [List.length_map]
        exact Nat.le_of_lt (line_big (by omega))
      · refine hN _ _ ⟨hb6, fun a ha => (hS6 a ha).trans ((hS5 a ha).trans ((hS4 a ha).trans (hS3 a ha))), p' ++ [⟨1 + r1, r2, r3⟩], some (.d (.int (0 + (k : Int)))), ?_, ?_, by rw [List.length_append]; show p'.length + 1 ≤ _; omega⟩
        · unfold paD
          rw [List.map_append]
          rfl
        · intro x hx
          rcases List.mem_append.mp hx with hx | hx
          · exact po x hx
          · rw [List.mem_singleton] at hx
            subst hx
            exact ⟨by show (-99 : Int) ≤ 1 + r1; omega, by show 1 + r1 ≤ (99 : Int); omega, by show (-99 : Int) ≤ r2; omega, by show r2 ≤ (99 : Int); omega, by show (-99 : Int) ≤ r3; omega, by show r3 ≤ (99 : Int); omega⟩
    · rintro ρ S3 ⟨hb3, hS3, p', c, rfl, po, pl⟩
      rw [rng_length] at pl
      have e4 : cutL (p'.map stD) none (some 4) = (p'.take 4).map stD := by
        rw [cut_to _ (by decide), List.map_take]
        rfl
      simp only [c__law_some_path_7, bSlice, e4, fnM, cNext, cSeq, cBrk, cCont, cDrop, cRet, cRetN, cIf, cNever, cAsg, cPar, cAug, cFor, eC, eVar, eOp, eUn, eIf, aNil, aCons, eTup, eLst, eLstM, eCB, eFn, eAndV, eOrV, eNotV, cAnd, cOr, cNot, cB, cTru, cYes, mName, mNames, wipeM, mTup, mSub, eFrz, eAppend, eSlice, oNone, oSome, eChain, eLcG, finD, finM, iRange1, iRange2, iZip2, iSeq, bInt, bIntC, bCmp, bAdd, bNeg, bIs, bIsN, isNone, bEq, bNe, bRepr, bLen, bIntOf, b2Int, bTuple, bList, bListM, bAll, bAny, tupOf, datOf, truV, okOf, bIx_tup, bIx_lst, bIx_set, lenV_set, ixN_21, ixN_20, set_1, sset_same, sset_sset, MO.lst.injEq, lenV_tup, lenV_lst, atI_0, atI_1, atI_2, atI_3, atI_4, lstOf, allD, allD_map, ex_eq_and, ex_eq_and', List.map_cons, List.map_nil, List.length_cons, List.length_nil, List.replicate, List.cons_append, List.nil_append, List.getElem?_cons_zero, List.getElem?_cons_succ, Option.some.injEq, Option.map_some, List.set, List.cons.injEq, and_true, true_and, MV.d.injEq, MV.m.injEq, PyData.int.injEq, PyData.bool.injEq, PyData.str.injEq, PyData.tuple.injEq, PyData.list.injEq, exists_and_left, exists_and_right, exists_eq_left', exists_eq_left, exists_eq_right, exists_eq', Nat.reduceAdd, Nat.reduceSub, Nat.reduceLT, Nat.reduceLeDiff, decide_eq_true_eq, Bool.not_eq_true', decide_eq_false_iff_not, reduceCtorEq, if_true, if_false, Bool.false_eq_true, ite_true, ite_false, not_true_eq_false, not_false_eq_true, Bool.not_true, Bool.not_false, reduceIte, and_self, or_true, true_or, or_false, false_or, and_false, false_and]
      exact h _ _ ⟨fun x hx => po x (List.mem_of_mem_take hx), by rw [List.length_take]; omega⟩ (by rw [List.length_take]; omega) hb3 hS3
  have hq := hp.1
  simp only [c__law_some_path_2, hq, fnM, cNext, cSeq, cBrk, cCont, cDrop, cRet, cRetN, cIf, cNever, cAsg, cPar, cAug, cFor, eC, eVar, eOp, eUn, eIf, aNil, aCons, eTup, eLst, eLstM, eCB, eFn, eAndV, eOrV, eNotV, cAnd, cOr, cNot, cB, cTru, cYes, mName, mNames, wipeM, mTup, mSub, eFrz, eAppend, eSlice, oNone, oSome, eChain, eLcG, finD, finM, iRange1, iRange2, iZip2, iSeq, bInt, bIntC, bCmp, bAdd, bNeg, bIs, bIsN, isNone, bEq, bNe, bRepr, bLen, bIntOf, b2Int, bTuple, bList, bListM, bAll, bAny, tupOf, datOf, truV, okOf, bIx_tup, bIx_lst, bIx_set, lenV_set, ixN_21, ixN_20, set_1, sset_same, sset_sset, MO.lst.injEq, lenV_tup, lenV_lst, atI_0, atI_1, atI_2, atI_3, atI_4, lstOf, allD, allD_map, ex_eq_and, ex_eq_and', List.map_cons, List.map_nil, List.length_cons, List.length_nil, List.replicate, List.cons_append, List.nil_append, List.getElem?_cons_zero, List.getElem?_cons_succ, Option.some.injEq, Option.map_some, List.set, List.cons.injEq, and_true, true_and, MV.d.injEq, MV.m.injEq, PyData.int.injEq, PyData.bool.injEq, PyData.str.injEq, PyData.tuple.injEq, PyData.list.injEq, exists_and_left, exists_and_right, exists_eq_left', exists_eq_left, exists_eq_right, exists_eq', Nat.reduceAdd, Nat.reduceSub, Nat.reduceLT, Nat.reduceLeDiff, decide_eq_true_eq, Bool.not_eq_true', decide_eq_false_iff_not, reduceCtorEq, if_true, if_false, Bool.false_eq_true, ite_true, ite_false, not_true_eq_false, not_false_eq_true, Bool.not_true, Bool.not_false, reduceIte, and_self, or_true, true_or, or_false, false_or, and_false, false_and]
  refine ⟨Nat.zero_le _, _, by rw [allD_of (fun p => paD p)]; rfl, ?_, (sm_list (D := 0) (B := 0) (xs := []) fun x hx => by cases hx).shaped (by decide), ?_⟩
  · refine (sm_listN (D := 2) (B := 32) (n := 8) ?_ (by rw [List.length_map]; exact hl)).shaped (by decide)
    intro x hx
    obtain ⟨p, hp', rfl⟩ := List.mem_map.mp hx
    exact pa_sm (hp.2 p hp').1.small (hp.2 p hp').1.short
  · rw [eqv_nil, List.isEmpty_map]
    cases he : ps.isEmpty with
    | true =>
      rw [if_neg (by simp)]
      exact tail [] none S ⟨fun x hx => (nomatch hx), by simp⟩ (by simp) hb fun a _ => rfl
    | false =>
      rw [if_pos rfl]
      have hl0 : 0 < ps.length := by
        cases ps with
        | nil => cases he
        | cons a t => simp
      refine w_draw hb (by decide) fun r S2 r0 r1 hb2 hS2 => ?_
      simp only [fnM, cNext, cSeq, cBrk, cCont, cDrop, cRet, cRetN, cIf, cNever, cAsg, cPar, cAug, cFor, eC, eVar, eOp, eUn, eIf, aNil, aCons, eTup, eLst, eLstM, eCB, eFn, eAndV, eOrV, eNotV, cAnd, cOr, cNot, cB, cTru, cYes, mName, mNames, wipeM, mTup, mSub, eFrz, eAppend, eSlice, oNone, oSome, eChain, eLcG, finD, finM, iRange1, iRange2, iZip2, iSeq, bInt, bIntC, bCmp, bAdd, bNeg, bIs, bIsN, isNone, bEq, bNe, bRepr, bLen, bIntOf, b2Int, bTuple, bList, bListM, bAll, bAny, tupOf, datOf, truV, okOf, bIx_tup, bIx_lst, bIx_set, lenV_set, ixN_21, ixN_20, set_1, sset_same, sset_sset, MO.lst.injEq, lenV_tup, lenV_lst, atI_0, atI_1, atI_2, atI_3, atI_4, lstOf, allD, allD_map, ex_eq_and, ex_eq_and', List.map_cons, List.map_nil, List.length_cons, List.length_nil, List.replicate, List.cons_append, List.nil_append, List.getElem?_cons_zero, List.getElem?_cons_succ, Option.some.injEq, Option.map_some, List.set, List.cons.injEq, and_true, true_and, MV.d.injEq, MV.m.injEq, PyData.int.injEq, PyData.bool.injEq, PyData.str.injEq, PyData.tuple.injEq, PyData.list.injEq, exists_and_left, exists_and_right, exists_eq_left', exists_eq_left, exists_eq_right, exists_eq', Nat.reduceAdd, Nat.reduceSub, Nat.reduceLT, Nat.reduceLeDiff, decide_eq_true_eq, Bool.not_eq_true', decide_eq_false_iff_not, reduceCtorEq, if_true, if_false, Bool.false_eq_true, ite_true, ite_false, not_true_eq_false, not_false_eq_true, Bool.not_true, Bool.not_false, reduceIte, and_self, or_true, true_or, or_false, false_or, and_false, false_and]
      by_cases hr : r = 0
      · rw [if_pos hr]
        have hq2 : S2 q = some (.lst (ps.map fun p => .d (paD p))) := by rw [hS2 q hne]; exact hq
        simp only [c__law_some_path_3, fnM, cNext, cSeq, cBrk, cCont, cDrop, cRet, cRetN, cIf, cNever, cAsg, cPar, cAug, cFor, eC, eVar, eOp, eUn, eIf, aNil, aCons, eTup, eLst, eLstM, eCB, eFn, eAndV, eOrV, eNotV, cAnd, cOr, cNot, cB, cTru, cYes, mName, mNames, wipeM, mTup, mSub, eFrz, eAppend, eSlice, oNone, oSome, eChain, eLcG, finD, finM, iRange1, iRange2, iZip2, iSeq, bInt, bIntC, bCmp, bAdd, bNeg, bIs, bIsN, isNone, bEq, bNe, bRepr, bLen, bIntOf, b2Int, bTuple, bList, bListM, bAll, bAny, tupOf, datOf, truV, okOf, bIx_tup, bIx_lst, bIx_set, lenV_set, ixN_21, ixN_20, set_1, sset_same, sset_sset, MO.lst.injEq, lenV_tup, lenV_lst, atI_0, atI_1, atI_2, atI_3, atI_4, lstOf, allD, allD_map, ex_eq_and, ex_eq_and', List.map_cons, List.map_nil, List.length_cons, List.length_nil, List.replicate, List.cons_append, List.nil_append, List.getElem?_cons_zero, List.getElem?_cons_succ, Option.some.injEq, Option.map_some, List.set, List.cons.injEq, and_true, true_and, MV.d.injEq, MV.m.injEq, PyData.int.injEq, PyData.bool.injEq, PyData.str.injEq, PyData.tuple.injEq, PyData.list.injEq, exists_and_left, exists_and_right, exists_eq_left', exists_eq_left, exists_eq_right, exists_eq', Nat.reduceAdd, Nat.reduceSub, Nat.reduceLT, Nat.reduceLeDiff, decide_eq_true_eq, Bool.not_eq_true', decide_eq_false_iff_not, reduceCtorEq, if_true, if_false, Bool.false_eq_true, ite_true, ite_false, not_true_eq_false, not_false_eq_true, Bool.not_true, Bool.not_false, reduceIte, and_self, or_true, true_or, or_false, false_or, and_false, false_and]
        refine ⟨ps.length, by rw [lenV_m hq2, List.length_map], ?_⟩
        refine w_draw hb2 (by omega) fun r2 S3 r20 r21 hb3 hS3 => ?_
        have hq3 : S3 q = some (.lst (ps.map fun p => .d (paD p))) := by rw [hS3 q hne]; exact hq2
        rw [bIx_m hq3]
        refine ⟨.d (paD (ps[r2.toNat]'(by omega))), ?_, ?_⟩
        · rw [atI_some r20 (by rw [List.length_map]; exact r21)]
          simp
        · have pk := hp.2 _ (List.getElem_mem (l := ps) (n := r2.toNat) (by omega))
          generalize ps[r2.toNat]'(by omega) = p at pk ⊢
          simp only [c__law_some_path_4, fnM, cNext, cSeq, cBrk, cCont, cDrop, cRet, cRetN, cIf, cNever, cAsg, cPar, cAug, cFor, eC, eVar, eOp, eUn, eIf, aNil, aCons, eTup, eLst, eLstM, eCB, eFn, eAndV, eOrV, eNotV, cAnd, cOr, cNot, cB, cTru, cYes, mName, mNames, wipeM, mTup, mSub, eFrz, eAppend, eSlice, oNone, oSome, eChain, eLcG, finD, finM, iRange1, iRange2, iZip2, iSeq, bInt, bIntC, bCmp, bAdd, bNeg, bIs, bIsN, isNone, bEq, bNe, bRepr, bLen, bIntOf, b2Int, bTuple, bList, bListM, bAll, bAny, tupOf, datOf, truV, okOf, bIx_tup, bIx_lst, bIx_set, lenV_set, ixN_21, ixN_20, set_1, sset_same, sset_sset, MO.lst.injEq, lenV_tup, lenV_lst, atI_0, atI_1, atI_2, atI_3, atI_4, lstOf, allD, allD_map, ex_eq_and, ex_eq_and', List.map_cons, List.map_nil, List.length_cons, List.length_nil, List.replicate, List.cons_append, List.nil_append, List.getElem?_cons_zero, List.getElem?_cons_succ, Option.some.injEq, Option.map_some, List.set, List.cons.injEq, and_true, true_and, MV.d.injEq, MV.m.injEq, PyData.int.injEq, PyData.bool.injEq, PyData.str.injEq, PyData.tuple.injEq, PyData.list.injEq, exists_and_left, exists_and_right, exists_eq_left', exists_eq_left, exists_eq_right, exists_eq', Nat.reduceAdd, Nat.reduceSub, Nat.reduceLT, Nat.reduceLeDiff, decide_eq_true_eq, Bool.not_eq_true', decide_eq_false_iff_not, reduceCtorEq, if_true, if_false, Bool.false_eq_true, ite_true, ite_false, not_true_eq_false, not_false_eq_true, Bool.not_true, Bool.not_false, reduceIte, and_self, or_true, true_or, or_false, false_or, and_false, false_and]
          refine w_draw hb3 (by omega) fun r3 S4 r30 r31 hb4 hS4 => ?_
          have e5 : cutL (p.map stD) none (some r3) = (p.take r3.toNat).map stD := by
            rw [cut_to _ r30, List.map_take]
          simp only [bSlice, e5, fnM, cNext, cSeq, cBrk, cCont, cDrop, cRet, cRetN, cIf, cNever, cAsg, cPar, cAug, cFor, eC, eVar, eOp, eUn, eIf, aNil, aCons, eTup, eLst, eLstM, eCB, eFn, eAndV, eOrV, eNotV, cAnd, cOr, cNot, cB, cTru, cYes, mName, mNames, wipeM, mTup, mSub, eFrz, eAppend, eSlice, oNone, oSome, eChain, eLcG, finD, finM, iRange1, iRange2, iZip2, iSeq, bInt, bIntC, bCmp, bAdd, bNeg, bIs, bIsN, isNone, bEq, bNe, bRepr, bLen, bIntOf, b2Int, bTuple, bList, bListM, bAll, bAny, tupOf, datOf, truV, okOf, bIx_tup, bIx_lst, bIx_set, lenV_set, ixN_21, ixN_20, set_1, sset_same, sset_sset, MO.lst.injEq, lenV_tup, lenV_lst, atI_0, atI_1, atI_2, atI_3, atI_4, lstOf, allD, allD_map, ex_eq_and, ex_eq_and', List.map_cons, List.map_nil, List.length_cons, List.length_nil, List.replicate, List.cons_append, List.nil_append, List.getElem?_cons_zero, List.getElem?_cons_succ, Option.some.injEq, Option.map_some, List.set, List.cons.injEq, and_true, true_and, MV.d.injEq, MV.m.injEq, PyData.int.injEq, PyData.bool.injEq, PyData.str.injEq, PyData.tuple.injEq, PyData.list.injEq, exists_and_left, exists_and_right, exists_eq_left', exists_eq_left, exists_eq_right, exists_eq', Nat.reduceAdd, Nat.reduceSub, Nat.reduceLT, Nat.reduceLeDiff, decide_eq_true_eq, Bool.not_eq_true', decide_eq_false_iff_not, reduceCtorEq, if_true, if_false, Bool.false_eq_true, ite_true, ite_false, not_true_eq_false, not_false_eq_true, Bool.not_true, Bool.not_false, reduceIte, and_self, or_true, true_or, or_false, false_or, and_false, false_and]
          exact tail _ _ _ ⟨fun x hx => pk.1.small x (List.mem_of_mem_take hx), by have := pk.2; rw [List.length_take]; omega⟩ (by have := pk.2; rw [List.length_take]; omega) hb4 fun a ha => (hS4 a ha).trans ((hS3 a ha).trans (hS2 a ha))
      · rw [if_neg hr]
        exact tail [] none S2 ⟨fun x hx => (nomatch hx), by simp⟩ (by simp) hb2 hS2
theorem w_step {S : Sto} {Q : QE} {X : QX} (h : Q (.d (.tuple [.int 7, .int 1, .int 2])) S) : m_step_of [.d (.tuple [.int 1, .int 0, .int 7, .tuple [.int 0, .int 0], .tuple [.str "put", .none, .str "abc"]]), .d (.int 2)] S Q X := by
  simp only [m_step_of, c_step_of, fnM, cNext, cSeq, cBrk, cCont, cDrop, cRet, cRetN, cIf, cNever, cAsg, cPar, cAug, cFor, eC, eVar, eOp, eUn, eIf, aNil, aCons, eTup, eLst, eLstM, eCB, eFn, eAndV, eOrV, eNotV, cAnd, cOr, cNot, cB, cTru, cYes, mName, mNames, wipeM, mTup, mSub, eFrz, eAppend, eSlice, oNone, oSome, eChain, eLcG, finD, finM, iRange1, iRange2, iZip2, iSeq, bInt, bIntC, bCmp, bAdd, bNeg, bIs, bIsN, isNone, bEq, bNe, bRepr, bLen, bIntOf, b2Int, bTuple, bList, bListM, bAll, bAny, tupOf, datOf, truV, okOf, bIx_tup, bIx_lst, bIx_set, lenV_set, ixN_21, ixN_20, set_1, sset_same, sset_sset, MO.lst.injEq, lenV_tup, lenV_lst, atI_0, atI_1, atI_2, atI_3, atI_4, lstOf, allD, allD_map, ex_eq_and, ex_eq_and', List.map_cons, List.map_nil, List.length_cons, List.length_nil, List.replicate, List.cons_append, List.nil_append, List.getElem?_cons_zero, List.getElem?_cons_succ, Option.some.injEq, Option.map_some, List.set, List.cons.injEq, and_true, true_and, MV.d.injEq, MV.m.injEq, PyData.int.injEq, PyData.bool.injEq, PyData.str.injEq, PyData.tuple.injEq, PyData.list.injEq, exists_and_left, exists_and_right, exists_eq_left', exists_eq_left, exists_eq_right, exists_eq', Nat.reduceAdd, Nat.reduceSub, Nat.reduceLT, Nat.reduceLeDiff, decide_eq_true_eq, Bool.not_eq_true', decide_eq_false_iff_not, reduceCtorEq, if_true, if_false, Bool.false_eq_true, ite_true, ite_false, not_true_eq_false, not_false_eq_true, Bool.not_true, Bool.not_false, reduceIte, and_self, or_true, true_or, or_false, false_or, and_false, false_and]
  exact ⟨by decide, h⟩
theorem pa_nodict : ∀ xs : List Step, PyData.hasDictAll (xs.map stD) = false
  | [] => by simp [PyData.hasDictAll]
  | x :: xs => by
    have := pa_nodict xs
    simp [PyData.hasDictAll, stD, PyData.hasDict, this]
theorem pa_ne {xs ys : List Step} (h : PyData.eqv (paD xs) (paD ys) = false) : xs ≠ ys := fun e => by
  subst e
  rw [eqv_refl _ (by simpa [PyData.hasDict] using pa_nodict xs)] at h
  cases h
theorem law_ok : LawOk m_law := by
  intro ns hl
  simp only [m_law, c_law, c_law_1, fnM, cNext, cSeq, cBrk, cCont, cDrop, cRet, cRetN, cIf, cNever, cAsg, cPar, cAug, cFor, eC, eVar, eOp, eUn, eIf, aNil, aCons, eTup, eLst, eLstM, eCB, eFn, eAndV, eOrV, eNotV, cAnd, cOr, cNot, cB, cTru, cYes, mName, mNames, wipeM, mTup, mSub, eFrz, eAppend, eSlice, oNone, oSome, eChain, eLcG, finD, finM, iRange1, iRange2, iZip2, iSeq, bInt, bIntC, bCmp, bAdd, bNeg, bIs, bIsN, isNone, bEq, bNe, bRepr, bLen, bIntOf, b2Int, bTuple, bList, bListM, bAll, bAny, tupOf, datOf, truV, okOf, bIx_tup, bIx_lst, bIx_set, lenV_set, ixN_21, ixN_20, set_1, sset_same, sset_sset, MO.lst.injEq, lenV_tup, lenV_lst, atI_0, atI_1, atI_2, atI_3, atI_4, lstOf, allD, allD_map, ex_eq_and, ex_eq_and', List.map_cons, List.map_nil, List.length_cons, List.length_nil, List.replicate, List.cons_append, List.nil_append, List.getElem?_cons_zero, List.getElem?_cons_succ, Option.some.injEq, Option.map_some, List.set, List.cons.injEq, and_true, true_and, MV.d.injEq, MV.m.injEq, PyData.int.injEq, PyData.bool.injEq, PyData.str.injEq, PyData.tuple.injEq, PyData.list.injEq, exists_and_left, exists_and_right, exists_eq_left', exists_eq_left, exists_eq_right, exists_eq', Nat.reduceAdd, Nat.reduceSub, Nat.reduceLT, Nat.reduceLeDiff, decide_eq_true_eq, Bool.not_eq_true', decide_eq_false_iff_not, reduceCtorEq, if_true, if_false, Bool.false_eq_true, ite_true, ite_false, not_true_eq_false, not_false_eq_true, Bool.not_true, Bool.not_false, reduceIte, and_self, or_true, true_or, or_false, false_or, and_false, false_and]
  refine w_digits fun ds => ?_
  simp only [fnM, cNext, cSeq, cBrk, cCont, cDrop, cRet, cRetN, cIf, cNever, cAsg, cPar, cAug, cFor, eC, eVar, eOp, eUn, eIf, aNil, aCons, eTup, eLst, eLstM, eCB, eFn, eAndV, eOrV, eNotV, cAnd, cOr, cNot, cB, cTru, cYes, mName, mNames, wipeM, mTup, mSub, eFrz, eAppend, eSlice, oNone, oSome, eChain, eLcG, finD, finM, iRange1, iRange2, iZip2, iSeq, bInt, bIntC, bCmp, bAdd, bNeg, bIs, bIsN, isNone, bEq, bNe, bRepr, bLen, bIntOf, b2Int, bTuple, bList, bListM, bAll, bAny, tupOf, datOf, truV, okOf, bIx_tup, bIx_lst, bIx_set, lenV_set, ixN_21, ixN_20, set_1, sset_same, sset_sset, MO.lst.injEq, lenV_tup, lenV_lst, atI_0, atI_1, atI_2, atI_3, atI_4, lstOf, allD, allD_map, ex_eq_and, ex_eq_and', List.map_cons, List.map_nil, List.length_cons, List.length_nil, List.replicate, List.cons_append, List.nil_append, List.getElem?_cons_zero, List.getElem?_cons_succ, Option.some.injEq, Option.map_some, List.set, List.cons.injEq, and_true, true_and, MV.d.injEq, MV.m.injEq, PyData.int.injEq, PyData.bool.injEq, PyData.str.injEq, PyData.tuple.injEq, PyData.list.injEq, exists_and_left, exists_and_right, exists_eq_left', exists_eq_left, exists_eq_right, exists_eq', Nat.reduceAdd, Nat.reduceSub, Nat.reduceLT, Nat.reduceLeDiff, decide_eq_true_eq, Bool.not_eq_true', decide_eq_false_iff_not, reduceCtorEq, if_true, if_false, Bool.false_eq_true, ite_true, ite_false, not_true_eq_false, not_false_eq_true, Bool.not_true, Bool.not_false, reduceIte, and_self, or_true, true_or, or_false, false_or, and_false, false_and]
  refine ⟨by decide, fun b _ => ?_⟩
  simp only [c_law_2, fnM, cNext, cSeq, cBrk, cCont, cDrop, cRet, cRetN, cIf, cNever, cAsg, cPar, cAug, cFor, eC, eVar, eOp, eUn, eIf, aNil, aCons, eTup, eLst, eLstM, eCB, eFn, eAndV, eOrV, eNotV, cAnd, cOr, cNot, cB, cTru, cYes, mName, mNames, wipeM, mTup, mSub, eFrz, eAppend, eSlice, oNone, oSome, eChain, eLcG, finD, finM, iRange1, iRange2, iZip2, iSeq, bInt, bIntC, bCmp, bAdd, bNeg, bIs, bIsN, isNone, bEq, bNe, bRepr, bLen, bIntOf, b2Int, bTuple, bList, bListM, bAll, bAny, tupOf, datOf, truV, okOf, bIx_tup, bIx_lst, bIx_set, lenV_set, ixN_21, ixN_20, set_1, sset_same, sset_sset, MO.lst.injEq, lenV_tup, lenV_lst, atI_0, atI_1, atI_2, atI_3, atI_4, lstOf, allD, allD_map, ex_eq_and, ex_eq_and', List.map_cons, List.map_nil, List.length_cons, List.length_nil, List.replicate, List.cons_append, List.nil_append, List.getElem?_cons_zero, List.getElem?_cons_succ, Option.some.injEq, Option.map_some, List.set, List.cons.injEq, and_true, true_and, MV.d.injEq, MV.m.injEq, PyData.int.injEq, PyData.bool.injEq, PyData.str.injEq, PyData.tuple.injEq, PyData.list.injEq, exists_and_left, exists_and_right, exists_eq_left', exists_eq_left, exists_eq_right, exists_eq', Nat.reduceAdd, Nat.reduceSub, Nat.reduceLT, Nat.reduceLeDiff, decide_eq_true_eq, Bool.not_eq_true', decide_eq_false_iff_not, reduceCtorEq, if_true, if_false, Bool.false_eq_true, ite_true, ite_false, not_true_eq_false, not_false_eq_true, Bool.not_true, Bool.not_false, reduceIte, and_self, or_true, true_or, or_false, false_or, and_false, false_and]
  refine ⟨Nat.zero_le _, fun q nq => ?_⟩
  have hne : q ≠ b := fun e => by rw [e, sset_same] at nq; cases nq
  simp only [c_law_3, fnM, cNext, cSeq, cBrk, cCont, cDrop, cRet, cRetN, cIf, cNever, cAsg, cPar, cAug, cFor, eC, eVar, eOp, eUn, eIf, aNil, aCons, eTup, eLst, eLstM, eCB, eFn, eAndV, eOrV, eNotV, cAnd, cOr, cNot, cB, cTru, cYes, mName, mNames, wipeM, mTup, mSub, eFrz, eAppend, eSlice, oNone, oSome, eChain, eLcG, finD, finM, iRange1, iRange2, iZip2, iSeq, bInt, bIntC, bCmp, bAdd, bNeg, bIs, bIsN, isNone, bEq, bNe, bRepr, bLen, bIntOf, b2Int, bTuple, bList, bListM, bAll, bAny, tupOf, datOf, truV, okOf, bIx_tup, bIx_lst, bIx_set, lenV_set, ixN_21, ixN_20, set_1, sset_same, sset_sset, MO.lst.injEq, lenV_tup, lenV_lst, atI_0, atI_1, atI_2, atI_3, atI_4, lstOf, allD, allD_map, ex_eq_and, ex_eq_and', List.map_cons, List.map_nil, List.length_cons, List.length_nil, List.replicate, List.cons_append, List.nil_append, List.getElem?_cons_zero, List.getElem?_cons_succ, Option.some.injEq, Option.map_some, List.set, List.cons.injEq, and_true, true_and, MV.d.injEq, MV.m.injEq, PyData.int.injEq, PyData.bool.injEq, PyData.str.injEq, PyData.tuple.injEq, PyData.list.injEq, exists_and_left, exists_and_right, exists_eq_left', exists_eq_left, exists_eq_right, exists_eq', Nat.reduceAdd, Nat.reduceSub, Nat.reduceLT, Nat.reduceLeDiff, decide_eq_true_eq, Bool.not_eq_true', decide_eq_false_iff_not, reduceCtorEq, if_true, if_false, Bool.false_eq_true, ite_true, ite_false, not_true_eq_false, not_false_eq_true, Bool.not_true, Bool.not_false, reduceIte, and_self, or_true, true_or, or_false, false_or, and_false, false_and]
  refine ⟨by decide, by decide, ?_⟩
  refine forL_inv (fun k ρ S' => BoxOk S' b ∧ ∃ ps a3 a4 a5 a6, PsOk S' q ps ∧ ps.length = k ∧ k ≤ 8 ∧ ρ = [some (.d (.list (ns.map .int))), some (.m b), some (.m q), a3, a4, a5, a6]) _ 0 _ _ ?_ (fun _ _ _ _ => trivial) ?_ ?_
  · refine ⟨⟨ds, 0, by rw [sset_ne hne.symm]; exact sset_same, by decide⟩, [], _, _, _, _, ⟨sset_same, fun p hp => (nomatch hp)⟩, rfl, by decide, rfl⟩
  · rintro k y ρ S2 N ey ⟨hb2, ps, a3, a4, a5, a6, hp, hl, h8, rfl⟩ hN
    obtain ⟨hk2, rfl⟩ := rng_some ey
    have hk3 : k < 8 := hk2
    have hq := hp.1
    simp only [c_law_4, fnM, cNext, cSeq, cBrk, cCont, cDrop, cRet, cRetN, cIf, cNever, cAsg, cPar, cAug, cFor, eC, eVar, eOp, eUn, eIf, aNil, aCons, eTup, eLst, eLstM, eCB, eFn, eAndV, eOrV, eNotV, cAnd, cOr, cNot, cB, cTru, cYes, mName, mNames, wipeM, mTup, mSub, eFrz, eAppend, eSlice, oNone, oSome, eChain, eLcG, finD, finM, iRange1, iRange2, iZip2, iSeq, bInt, bIntC, bCmp, bAdd, bNeg, bIs, bIsN, isNone, bEq, bNe, bRepr, bLen, bIntOf, b2Int, bTuple, bList, bListM, bAll, bAny, tupOf, datOf, truV, okOf, bIx_tup, bIx_lst, bIx_set, lenV_set, ixN_21, ixN_20, set_1, sset_same, sset_sset, MO.lst.injEq, lenV_tup, lenV_lst, atI_0, atI_1, atI_2, atI_3, atI_4, lstOf, allD, allD_map, ex_eq_and, ex_eq_and', List.map_cons, List.map_nil, List.length_cons, List.length_nil, List.replicate, List.cons_append, List.nil_append, List.getElem?_cons_zero, List.getElem?_cons_succ, Option.some.injEq, Option.map_some, List.set, List.cons.injEq, and_true, true_and, MV.d.injEq, MV.m.injEq, PyData.int.injEq, PyData.bool.injEq, PyData.str.injEq, PyData.tuple.injEq, PyData.list.injEq, exists_and_left, exists_and_right, exists_eq_left', exists_eq_left, exists_eq_right, exists_eq', Nat.reduceAdd, Nat.reduceSub, Nat.reduceLT, Nat.reduceLeDiff, decide_eq_true_eq, Bool.not_eq_true', decide_eq_false_iff_not, reduceCtorEq, if_true, if_false, Bool.false_eq_true, ite_true, ite_false, not_true_eq_false, not_false_eq_true, Bool.not_true, Bool.not_false, reduceIte, and_self, or_true, true_or, or_false, false_or, and_false, false_and]
    refine ⟨⟨_, hq⟩, w_some hne hb2 hp (by omega) fun p S3 pk pl hb3 hS3 => ?_⟩
    refine ⟨_, by rw [hS3 q hne]; exact hq, by rw [List.length_map]; exact line_big (by omega), ?_⟩
    refine hN _ _ ⟨?_, ps ++ [p], _, _, _, _, ⟨?_, ?_⟩, by rw [List.length_append]; show ps.length + 1 = _; omega, by omega, rfl⟩
    · obtain ⟨ds', i, e1, e2⟩ := hb3
      exact ⟨ds', i, by rw [sset_ne hne.symm]; exact e1, e2⟩
    · rw [sset_same, List.map_append]
      rfl
    · intro p' hp'
      rcases List.mem_append.mp hp' with hx | hx
      · exact hp.2 p' hx
      · rw [List.mem_singleton] at hx
        subst hx
        exact ⟨pk, pl⟩
  · rintro ρ S2 ⟨hb2, ps, a3, a4, a5, a6, hp, hl, h8, rfl⟩
    have hq := hp.1
    simp only [c_law_5, fnM, cNext, cSeq, cBrk, cCont, cDrop, cRet, cRetN, cIf, cNever, cAsg, cPar, cAug, cFor, eC, eVar, eOp, eUn, eIf, aNil, aCons, eTup, eLst, eLstM, eCB, eFn, eAndV, eOrV, eNotV, cAnd, cOr, cNot, cB, cTru, cYes, mName, mNames, wipeM, mTup, mSub, eFrz, eAppend, eSlice, oNone, oSome, eChain, eLcG, finD, finM, iRange1, iRange2, iZip2, iSeq, bInt, bIntC, bCmp, bAdd, bNeg, bIs, bIsN, isNone, bEq, bNe, bRepr, bLen, bIntOf, b2Int, bTuple, bList, bListM, bAll, bAny, tupOf, datOf, truV, okOf, bIx_tup, bIx_lst, bIx_set, lenV_set, ixN_21, ixN_20, set_1, sset_same, sset_sset, MO.lst.injEq, lenV_tup, lenV_lst, atI_0, atI_1, atI_2, atI_3, atI_4, lstOf, allD, allD_map, ex_eq_and, ex_eq_and', List.map_cons, List.map_nil, List.length_cons, List.length_nil, List.replicate, List.cons_append, List.nil_append, List.getElem?_cons_zero, List.getElem?_cons_succ, Option.some.injEq, Option.map_some, List.set, List.cons.injEq, and_true, true_and, MV.d.injEq, MV.m.injEq, PyData.int.injEq, PyData.bool.injEq, PyData.str.injEq, PyData.tuple.injEq, PyData.list.injEq, exists_and_left, exists_and_right, exists_eq_left', exists_eq_left, exists_eq_right, exists_eq', Nat.reduceAdd, Nat.reduceSub, Nat.reduceLT, Nat.reduceLeDiff, decide_eq_true_eq, Bool.not_eq_true', decide_eq_false_iff_not, reduceCtorEq, if_true, if_false, Bool.false_eq_true, ite_true, ite_false, not_true_eq_false, not_false_eq_true, Bool.not_true, Bool.not_false, reduceIte, and_self, or_true, true_or, or_false, false_or, and_false, false_and]
    rw [seqOf_m hq]
    refine ⟨_, rfl, fun _ => ?_⟩
    refine forL_inv (fun k ρ S' => S' = S2 ∧ ∃ a4 a5 a6, ρ = [some (.d (.list (ns.map .int))), some (.m b), some (.m q), a3, a4, a5, a6]) _ 0 _ _ ⟨rfl, _, _, _, rfl⟩ (fun _ _ _ z => by rw [z.1]; exact hq) ?_ ?_
    · rintro k y ρ S3 N ey ⟨rfl, a4, a5, a6, rfl⟩ hN
      obtain ⟨one, h1, rfl⟩ := List.mem_map.mp (List.mem_of_getElem? ey)
      have o1 := (hp.2 one h1).1
      simp only [c_law_6, fnM, cNext, cSeq, cBrk, cCont, cDrop, cRet, cRetN, cIf, cNever, cAsg, cPar, cAug, cFor, eC, eVar, eOp, eUn, eIf, aNil, aCons, eTup, eLst, eLstM, eCB, eFn, eAndV, eOrV, eNotV, cAnd, cOr, cNot, cB, cTru, cYes, mName, mNames, wipeM, mTup, mSub, eFrz, eAppend, eSlice, oNone, oSome, eChain, eLcG, finD, finM, iRange1, iRange2, iZip2, iSeq, bInt, bIntC, bCmp, bAdd, bNeg, bIs, bIsN, isNone, bEq, bNe, bRepr, bLen, bIntOf, b2Int, bTuple, bList, bListM, bAll, bAny, tupOf, datOf, truV, okOf, bIx_tup, bIx_lst, bIx_set, lenV_set, ixN_21, ixN_20, set_1, sset_same, sset_sset, MO.lst.injEq, lenV_tup, lenV_lst, atI_0, atI_1, atI_2, atI_3, atI_4, lstOf, allD, allD_map, ex_eq_and, ex_eq_and', List.map_cons, List.map_nil, List.length_cons, List.length_nil, List.replicate, List.cons_append, List.nil_append, List.getElem?_cons_zero, List.getElem?_cons_succ, Option.some.injEq, Option.map_some, List.set, List.cons.injEq, and_true, true_and, MV.d.injEq, MV.m.injEq, PyData.int.injEq, PyData.bool.injEq, PyData.str.injEq, PyData.tuple.injEq, PyData.list.injEq, exists_and_left, exists_and_right, exists_eq_left', exists_eq_left, exists_eq_right, exists_eq', Nat.reduceAdd, Nat.reduceSub, Nat.reduceLT, Nat.reduceLeDiff, decide_eq_true_eq, Bool.not_eq_true', decide_eq_false_iff_not, reduceCtorEq, if_true, if_false, Bool.false_eq_true, ite_true, ite_false, not_true_eq_false, not_false_eq_true, Bool.not_true, Bool.not_false, reduceIte, and_self, or_true, true_or, or_false, false_or, and_false, false_and]
      rw [seqOf_m hq]
      refine ⟨_, rfl, fun _ => ?_⟩
      refine forL_inv (fun k ρ S' => S' = S3 ∧ ∃ a5 a6, ρ = [some (.d (.list (ns.map .int))), some (.m b), some (.m q), a3, some (.d (paD one)), a5, a6]) _ 0 _ _ ⟨rfl, _, _, rfl⟩ (fun _ _ _ z => by rw [z.1]; exact hq) ?_ ?_
      · rintro k2 y2 ρ S4 N2 ey2 ⟨rfl, b5, b6, rfl⟩ hN2
        obtain ⟨other, h2, rfl⟩ := List.mem_map.mp (List.mem_of_getElem? ey2)
        have o2 := (hp.2 other h2).1
        simp only [c_law_7, fnM, cNext, cSeq, cBrk, cCont, cDrop, cRet, cRetN, cIf, cNever, cAsg, cPar, cAug, cFor, eC, eVar, eOp, eUn, eIf, aNil, aCons, eTup, eLst, eLstM, eCB, eFn, eAndV, eOrV, eNotV, cAnd, cOr, cNot, cB, cTru, cYes, mName, mNames, wipeM, mTup, mSub, eFrz, eAppend, eSlice, oNone, oSome, eChain, eLcG, finD, finM, iRange1, iRange2, iZip2, iSeq, bInt, bIntC, bCmp, bAdd, bNeg, bIs, bIsN, isNone, bEq, bNe, bRepr, bLen, bIntOf, b2Int, bTuple, bList, bListM, bAll, bAny, tupOf, datOf, truV, okOf, bIx_tup, bIx_lst, bIx_set, lenV_set, ixN_21, ixN_20, set_1, sset_same, sset_sset, MO.lst.injEq, lenV_tup, lenV_lst, atI_0, atI_1, atI_2, atI_3, atI_4, lstOf, allD, allD_map, ex_eq_and, ex_eq_and', List.map_cons, List.map_nil, List.length_cons, List.length_nil, List.replicate, List.cons_append, List.nil_append, List.getElem?_cons_zero, List.getElem?_cons_succ, Option.some.injEq, Option.map_some, List.set, List.cons.injEq, and_true, true_and, MV.d.injEq, MV.m.injEq, PyData.int.injEq, PyData.bool.injEq, PyData.str.injEq, PyData.tuple.injEq, PyData.list.injEq, exists_and_left, exists_and_right, exists_eq_left', exists_eq_left, exists_eq_right, exists_eq', Nat.reduceAdd, Nat.reduceSub, Nat.reduceLT, Nat.reduceLeDiff, decide_eq_true_eq, Bool.not_eq_true', decide_eq_false_iff_not, reduceCtorEq, if_true, if_false, Bool.false_eq_true, ite_true, ite_false, not_true_eq_false, not_false_eq_true, Bool.not_true, Bool.not_false, reduceIte, and_self, or_true, true_or, or_false, false_or, and_false, false_and]
        refine w_before (X := noX) o1 o2 ?_
        (try simp only [fnM, cNext, cSeq, cBrk, cCont, cDrop, cRet, cRetN, cIf, cNever, cAsg, cPar, cAug, cFor, eC, eVar, eOp, eUn, eIf, aNil, aCons, eTup, eLst, eLstM, eCB, eFn, eAndV, eOrV, eNotV, cAnd, cOr, cNot, cB, cTru, cYes, mName, mNames, wipeM, mTup, mSub, eFrz, eAppend, eSlice, oNone, oSome, eChain, eLcG, finD, finM, iRange1, iRange2, iZip2, iSeq, bInt, bIntC, bCmp, bAdd, bNeg, bIs, bIsN, isNone, bEq, bNe, bRepr, bLen, bIntOf, b2Int, bTuple, bList, bListM, bAll, bAny, tupOf, datOf, truV, okOf, bIx_tup, bIx_lst, bIx_set, lenV_set, ixN_21, ixN_20, set_1, sset_same, sset_sset, MO.lst.injEq, lenV_tup, lenV_lst, atI_0, atI_1, atI_2, atI_3, atI_4, lstOf, allD, allD_map, ex_eq_and, ex_eq_and', List.map_cons, List.map_nil, List.length_cons, List.length_nil, List.replicate, List.cons_append, List.nil_append, List.getElem?_cons_zero, List.getElem?_cons_succ, Option.some.injEq, Option.map_some, List.set, List.cons.injEq, and_true, true_and, MV.d.injEq, MV.m.injEq, PyData.int.injEq, PyData.bool.injEq, PyData.str.injEq, PyData.tuple.injEq, PyData.list.injEq, exists_and_left, exists_and_right, exists_eq_left', exists_eq_left, exists_eq_right, exists_eq', Nat.reduceAdd, Nat.reduceSub, Nat.reduceLT, Nat.reduceLeDiff, decide_eq_true_eq, Bool.not_eq_true', decide_eq_false_iff_not, reduceCtorEq, if_true, if_false, Bool.false_eq_true, ite_true, ite_false, not_true_eq_false, not_false_eq_true, Bool.not_true, Bool.not_false, reduceIte, and_self, or_true, true_or, or_false, false_or, and_false, false_and])
        refine w_first (X := noX) o1 o2 ?_
        (try simp only [fnM, cNext, cSeq, cBrk, cCont, cDrop, cRet, cRetN, cIf, cNever, cAsg, cPar, cAug, cFor, eC, eVar, eOp, eUn, eIf, aNil, aCons, eTup, eLst, eLstM, eCB, eFn, eAndV, eOrV, eNotV, cAnd, cOr, cNot, cB, cTru, cYes, mName, mNames, wipeM, mTup, mSub, eFrz, eAppend, eSlice, oNone, oSome, eChain, eLcG, finD, finM, iRange1, iRange2, iZip2, iSeq, bInt, bIntC, bCmp, bAdd, bNeg, bIs, bIsN, isNone, bEq, bNe, bRepr, bLen, bIntOf, b2Int, bTuple, bList, bListM, bAll, bAny, tupOf, datOf, truV, okOf, bIx_tup, bIx_lst, bIx_set, lenV_set, ixN_21, ixN_20, set_1, sset_same, sset_sset, MO.lst.injEq, lenV_tup, lenV_lst, atI_0, atI_1, atI_2, atI_3, atI_4, lstOf, allD, allD_map, ex_eq_and, ex_eq_and', List.map_cons, List.map_nil, List.length_cons, List.length_nil, List.replicate, List.cons_append, List.nil_append, List.getElem?_cons_zero, List.getElem?_cons_succ, Option.some.injEq, Option.map_some, List.set, List.cons.injEq, and_true, true_and, MV.d.injEq, MV.m.injEq, PyData.int.injEq, PyData.bool.injEq, PyData.str.injEq, PyData.tuple.injEq, PyData.list.injEq, exists_and_left, exists_and_right, exists_eq_left', exists_eq_left, exists_eq_right, exists_eq', Nat.reduceAdd, Nat.reduceSub, Nat.reduceLT, Nat.reduceLeDiff, decide_eq_true_eq, Bool.not_eq_true', decide_eq_false_iff_not, reduceCtorEq, if_true, if_false, Bool.false_eq_true, ite_true, ite_false, not_true_eq_false, not_false_eq_true, Bool.not_true, Bool.not_false, reduceIte, and_self, or_true, true_or, or_false, false_or, and_false, false_and])
        refine w_alike ((sm_bool _).fine (by decide) (by decide)) ?_
        simp only [fnM, cNext, cSeq, cBrk, cCont, cDrop, cRet, cRetN, cIf, cNever, cAsg, cPar, cAug, cFor, eC, eVar, eOp, eUn, eIf, aNil, aCons, eTup, eLst, eLstM, eCB, eFn, eAndV, eOrV, eNotV, cAnd, cOr, cNot, cB, cTru, cYes, mName, mNames, wipeM, mTup, mSub, eFrz, eAppend, eSlice, oNone, oSome, eChain, eLcG, finD, finM, iRange1, iRange2, iZip2, iSeq, bInt, bIntC, bCmp, bAdd, bNeg, bIs, bIsN, isNone, bEq, bNe, bRepr, bLen, bIntOf, b2Int, bTuple, bList, bListM, bAll, bAny, tupOf, datOf, truV, okOf, bIx_tup, bIx_lst, bIx_set, lenV_set, ixN_21, ixN_20, set_1, sset_same, sset_sset, MO.lst.injEq, lenV_tup, lenV_lst, atI_0, atI_1, atI_2, atI_3, atI_4, lstOf, allD, allD_map, ex_eq_and, ex_eq_and', List.map_cons, List.map_nil, List.length_cons, List.length_nil, List.replicate, List.cons_append, List.nil_append, List.getElem?_cons_zero, List.getElem?_cons_succ, Option.some.injEq, Option.map_some, List.set, List.cons.injEq, and_true, true_and, MV.d.injEq, MV.m.injEq, PyData.int.injEq, PyData.bool.injEq, PyData.str.injEq, PyData.tuple.injEq, PyData.list.injEq, exists_and_left, exists_and_right, exists_eq_left', exists_eq_left, exists_eq_right, exists_eq', Nat.reduceAdd, Nat.reduceSub, Nat.reduceLT, Nat.reduceLeDiff, decide_eq_true_eq, Bool.not_eq_true', decide_eq_false_iff_not, reduceCtorEq, if_true, if_false, Bool.false_eq_true, ite_true, ite_false, not_true_eq_false, not_false_eq_true, Bool.not_true, Bool.not_false, reduceIte, and_self, or_true, true_or, or_false, false_or, and_false, false_and]
        simp only [c_law_9, fnM, cNext, cSeq, cBrk, cCont, cDrop, cRet, cRetN, cIf, cNever, cAsg, cPar, cAug, cFor, eC, eVar, eOp, eUn, eIf, aNil, aCons, eTup, eLst, eLstM, eCB, eFn, eAndV, eOrV, eNotV, cAnd, cOr, cNot, cB, cTru, cYes, mName, mNames, wipeM, mTup, mSub, eFrz, eAppend, eSlice, oNone, oSome, eChain, eLcG, finD, finM, iRange1, iRange2, iZip2, iSeq, bInt, bIntC, bCmp, bAdd, bNeg, bIs, bIsN, isNone, bEq, bNe, bRepr, bLen, bIntOf, b2Int, bTuple, bList, bListM, bAll, bAny, tupOf, datOf, truV, okOf, bIx_tup, bIx_lst, bIx_set, lenV_set, ixN_21, ixN_20, set_1, sset_same, sset_sset, MO.lst.injEq, lenV_tup, lenV_lst, atI_0, atI_1, atI_2, atI_3, atI_4, lstOf, allD, allD_map, ex_eq_and, ex_eq_and', List.map_cons, List.map_nil, List.length_cons, List.length_nil, List.replicate, List.cons_append, List.nil_append, List.getElem?_cons_zero, List.getElem?_cons_succ, Option.some.injEq, Option.map_some, List.set, List.cons.injEq, and_true, true_and, MV.d.injEq, MV.m.injEq, PyData.int.injEq, PyData.bool.injEq, PyData.str.injEq, PyData.tuple.injEq, PyData.list.injEq, exists_and_left, exists_and_right, exists_eq_left', exists_eq_left, exists_eq_right, exists_eq', Nat.reduceAdd, Nat.reduceSub, Nat.reduceLT, Nat.reduceLeDiff, decide_eq_true_eq, Bool.not_eq_true', decide_eq_false_iff_not, reduceCtorEq, if_true, if_false, Bool.false_eq_true, ite_true, ite_false, not_true_eq_false, not_false_eq_true, Bool.not_true, Bool.not_false, reduceIte, and_self, or_true, true_or, or_false, false_or, and_false, false_and]
        refine ⟨(pa_sm o1.small o1.short).shaped (by decide), (pa_sm o2.small o2.short).shaped (by decide), ?_⟩
        cases he : PyData.eqv (paD one) (paD other) with
        | true =>
          rw [if_neg (by simp)]
          exact hN2 _ _ ⟨rfl, _, _, rfl⟩
        | false =>
          rw [if_pos rfl]
          refine w_before (X := noX) o1 o2 ?_
          refine w_before (X := noX) o2 o1 ?_
          have hne := first_ne one other (pa_ne he)
          simp only [fnM, cNext, cSeq, cBrk, cCont, cDrop, cRet, cRetN, cIf, cNever, cAsg, cPar, cAug, cFor, eC, eVar, eOp, eUn, eIf, aNil, aCons, eTup, eLst, eLstM, eCB, eFn, eAndV, eOrV, eNotV, cAnd, cOr, cNot, cB, cTru, cYes, mName, mNames, wipeM, mTup, mSub, eFrz, eAppend, eSlice, oNone, oSome, eChain, eLcG, finD, finM, iRange1, iRange2, iZip2, iSeq, bInt, bIntC, bCmp, bAdd, bNeg, bIs, bIsN, isNone, bEq, bNe, bRepr, bLen, bIntOf, b2Int, bTuple, bList, bListM, bAll, bAny, tupOf, datOf, truV, okOf, bIx_tup, bIx_lst, bIx_set, lenV_set, ixN_21, ixN_20, set_1, sset_same, sset_sset, MO.lst.injEq, lenV_tup, lenV_lst, atI_0, atI_1, atI_2, atI_3, atI_4, lstOf, allD, allD_map, ex_eq_and, ex_eq_and', List.map_cons, List.map_nil, List.length_cons, List.length_nil, List.replicate, List.cons_append, List.nil_append, List.getElem?_cons_zero, List.getElem?_cons_succ, Option.some.injEq, Option.map_some, List.set, List.cons.injEq, and_true, true_and, MV.d.injEq, MV.m.injEq, PyData.int.injEq, PyData.bool.injEq, PyData.str.injEq, PyData.tuple.injEq, PyData.list.injEq, exists_and_left, exists_and_right, exists_eq_left', exists_eq_left, exists_eq_right, exists_eq', Nat.reduceAdd, Nat.reduceSub, Nat.reduceLT, Nat.reduceLeDiff, decide_eq_true_eq, Bool.not_eq_true', decide_eq_false_iff_not, reduceCtorEq, if_true, if_false, Bool.false_eq_true, ite_true, ite_false, not_true_eq_false, not_false_eq_true, Bool.not_true, Bool.not_false, reduceIte, and_self, or_true, true_or, or_false, false_or, and_false, false_and]
          refine ⟨(sm_bool _).shaped (by decide), (sm_bool _).shaped (by decide), ?_⟩
          rw [if_neg (by simpa [PyData.eqv] using hne)]
          exact hN2 _ _ ⟨rfl, _, _, rfl⟩
      · rintro ρ S4 ⟨rfl, b5, b6, rfl⟩
        exact hN _ _ ⟨rfl, _, _, _, rfl⟩
    · rintro ρ S3 ⟨rfl, a4, a5, a6, rfl⟩
      simp only [c_law_11, c_law_12, fnM, cNext, cSeq, cBrk, cCont, cDrop, cRet, cRetN, cIf, cNever, cAsg, cPar, cAug, cFor, eC, eVar, eOp, eUn, eIf, aNil, aCons, eTup, eLst, eLstM, eCB, eFn, eAndV, eOrV, eNotV, cAnd, cOr, cNot, cB, cTru, cYes, mName, mNames, wipeM, mTup, mSub, eFrz, eAppend, eSlice, oNone, oSome, eChain, eLcG, finD, finM, iRange1, iRange2, iZip2, iSeq, bInt, bIntC, bCmp, bAdd, bNeg, bIs, bIsN, isNone, bEq, bNe, bRepr, bLen, bIntOf, b2Int, bTuple, bList, bListM, bAll, bAny, tupOf, datOf, truV, okOf, bIx_tup, bIx_lst, bIx_set, lenV_set, ixN_21, ixN_20, set_1, sset_same, sset_sset, MO.lst.injEq, lenV_tup, lenV_lst, atI_0, atI_1, atI_2, atI_3, atI_4, lstOf, allD, allD_map, ex_eq_and, ex_eq_and', List.map_cons, List.map_nil, List.length_cons, List.length_nil, List.replicate, List.cons_append, List.nil_append, List.getElem?_cons_zero, List.getElem?_cons_succ, Option.some.injEq, Option.map_some, List.set, List.cons.injEq, and_true, true_and, MV.d.injEq, MV.m.injEq, PyData.int.injEq, PyData.bool.injEq, PyData.str.injEq, PyData.tuple.injEq, PyData.list.injEq, exists_and_left, exists_and_right, exists_eq_left', exists_eq_left, exists_eq_right, exists_eq', Nat.reduceAdd, Nat.reduceSub, Nat.reduceLT, Nat.reduceLeDiff, decide_eq_true_eq, Bool.not_eq_true', decide_eq_false_iff_not, reduceCtorEq, if_true, if_false, Bool.false_eq_true, ite_true, ite_false, not_true_eq_false, not_false_eq_true, Bool.not_true, Bool.not_false, reduceIte, and_self, or_true, true_or, or_false, false_or, and_false, false_and]
      refine ⟨by decide, by decide, by decide, w_step (X := noX) ?_⟩
      (try simp only [fnM, cNext, cSeq, cBrk, cCont, cDrop, cRet, cRetN, cIf, cNever, cAsg, cPar, cAug, cFor, eC, eVar, eOp, eUn, eIf, aNil, aCons, eTup, eLst, eLstM, eCB, eFn, eAndV, eOrV, eNotV, cAnd, cOr, cNot, cB, cTru, cYes, mName, mNames, wipeM, mTup, mSub, eFrz, eAppend, eSlice, oNone, oSome, eChain, eLcG, finD, finM, iRange1, iRange2, iZip2, iSeq, bInt, bIntC, bCmp, bAdd, bNeg, bIs, bIsN, isNone, bEq, bNe, bRepr, bLen, bIntOf, b2Int, bTuple, bList, bListM, bAll, bAny, tupOf, datOf, truV, okOf, bIx_tup, bIx_lst, bIx_set, lenV_set, ixN_21, ixN_20, set_1, sset_same, sset_sset, MO.lst.injEq, lenV_tup, lenV_lst, atI_0, atI_1, atI_2, atI_3, atI_4, lstOf, allD, allD_map, ex_eq_and, ex_eq_and', List.map_cons, List.map_nil, List.length_cons, List.length_nil, List.replicate, List.cons_append, List.nil_append, List.getElem?_cons_zero, List.getElem?_cons_succ, Option.some.injEq, Option.map_some, List.set, List.cons.injEq, and_true, true_and, MV.d.injEq, MV.m.injEq, PyData.int.injEq, PyData.bool.injEq, PyData.str.injEq, PyData.tuple.injEq, PyData.list.injEq, exists_and_left, exists_and_right, exists_eq_left', exists_eq_left, exists_eq_right, exists_eq', Nat.reduceAdd, Nat.reduceSub, Nat.reduceLT, Nat.reduceLeDiff, decide_eq_true_eq, Bool.not_eq_true', decide_eq_false_iff_not, reduceCtorEq, if_true, if_false, Bool.false_eq_true, ite_true, ite_false, not_true_eq_false, not_false_eq_true, Bool.not_true, Bool.not_false, reduceIte, and_self, or_true, true_or, or_false, false_or, and_false, false_and])
      have sh : SeqAt.shaped (.tuple [.int 7, .int 1, .int 2]) = true := by decide +kernel
      refine ⟨by decide, sh, sh, ?_⟩
      simp [PyData.eqv, PyData.eqvAll]
end K03
open PySem PySem.W PyProof.Rows
set_option maxRecDepth 100000 in
set_option maxHeartbeats 0 in
theorem PySem.Challenge.cw_textatrest_k03_order_of_paths_holds : PySem.Challenge.rw_textatrest_k03_order_of_paths.Holds := by
  w_on; o_law; k_head; (case hw => w_witness2)
  k_fill
  refine Mi.walk_ofG (l := PySem.Challenge.rw_textatrest_k03_order_of_paths) (k := 3) (x := "script") (C := fun _ => L2.CX0) (g := K03.m_law) rfl rfl ⟨rfl, by decide, by decide⟩ (fun w h Y => PySem.W.kIn_of Y) ?F K03.law_ok (fun _ _ _ _ _ h => h)
  case F =>
    intro w mg fa h KX G hmg
    obtain ⟨f_step_of, x_step_of, d_step_of⟩ : ∃ f x, Mi.DefAt (L2.KOf KX) mg "step_of" K03.s_step_of ["deed", "index"] f x := by
      refine' ⟨_, _, Mi.def_at KX G ?a ?l ?c ?k fun _ _ _ _ _ _ us hl => match us, hl with | [_, _], _ => rfl⟩
      (case a => k_is); (case l => k_is); (case c => k_is); (case k => k_is)
    obtain ⟨f_rank_of, x_rank_of, d_rank_of⟩ : ∃ f x, Mi.DefAt (L2.KOf KX) mg "rank_of" K03.s_rank_of ["path"] f x := by
      refine' ⟨_, _, Mi.def_at KX G ?a ?l ?c ?k fun _ _ _ _ _ _ us hl => match us, hl with | [_], _ => rfl⟩
      (case a => k_is); (case l => k_is); (case c => k_is); (case k => k_is)
    obtain ⟨f__law_cell, x__law_cell, d__law_cell⟩ : ∃ f x, Mi.DefAt (L2.KOf KX) mg "_law_cell" K03.s__law_cell ["script", "k"] f x := by
      refine' ⟨_, _, Mi.def_at KX G ?a ?l ?c ?k fun _ _ _ _ _ _ us hl => match us, hl with | [_, _], _ => rfl⟩
      (case a => k_is); (case l => k_is); (case c => k_is); (case k => k_is)
    obtain ⟨f__law_first, x__law_first, d__law_first⟩ : ∃ f x, Mi.DefAt (L2.KOf KX) mg "_law_first" K03.s__law_first ["one", "other"] f x := by
      refine' ⟨_, _, Mi.def_at KX G ?a ?l ?c ?k fun _ _ _ _ _ _ us hl => match us, hl with | [_, _], _ => rfl⟩
      (case a => k_is); (case l => k_is); (case c => k_is); (case k => k_is)
    obtain ⟨f__law_draw, x__law_draw, d__law_draw⟩ : ∃ f x, Mi.DefAt (L2.KOf KX) mg "_law_draw" K03.s__law_draw ["box", "many"] f x := by
      refine' ⟨_, _, Mi.def_at KX G ?a ?l ?c ?k fun _ _ _ _ _ _ us hl => match us, hl with | [_, _], _ => rfl⟩
      (case a => k_is); (case l => k_is); (case c => k_is); (case k => k_is)
    obtain ⟨f__law_alike, x__law_alike, d__law_alike⟩ : ∃ f x, Mi.DefAt (L2.KOf KX) mg "_law_alike" K03.s__law_alike ["one", "two"] f x := by
      refine' ⟨_, _, Mi.def_at KX G ?a ?l ?c ?k fun _ _ _ _ _ _ us hl => match us, hl with | [_, _], _ => rfl⟩
      (case a => k_is); (case l => k_is); (case c => k_is); (case k => k_is)
    obtain ⟨f_comes_before, x_comes_before, d_comes_before⟩ : ∃ f x, Mi.DefAt (L2.KOf KX) mg "comes_before" K03.s_comes_before ["one", "other"] f x := by
      refine' ⟨_, _, Mi.def_at KX G ?a ?l ?c ?k fun _ _ _ _ _ _ us hl => match us, hl with | [_, _], _ => rfl⟩
      (case a => k_is); (case l => k_is); (case c => k_is); (case k => k_is)
    obtain ⟨f__law_digits, x__law_digits, d__law_digits⟩ : ∃ f x, Mi.DefAt (L2.KOf KX) mg "_law_digits" K03.s__law_digits ["script", "first", "last"] f x := by
      refine' ⟨_, _, Mi.def_at KX G ?a ?l ?c ?k fun _ _ _ _ _ _ us hl => match us, hl with | [_, _, _], _ => rfl⟩
      (case a => k_is); (case l => k_is); (case c => k_is); (case k => k_is)
    obtain ⟨f__law_some_path, x__law_some_path, d__law_some_path⟩ : ∃ f x, Mi.DefAt (L2.KOf KX) mg "_law_some_path" K03.s__law_some_path ["box", "paths"] f x := by
      refine' ⟨_, _, Mi.def_at KX G ?a ?l ?c ?k fun _ _ _ _ _ _ us hl => match us, hl with | [_, _], _ => rfl⟩
      (case a => k_is); (case l => k_is); (case c => k_is); (case k => k_is)
    obtain ⟨f_law, x_law, d_law⟩ : ∃ f x, Mi.DefAt (L2.KOf KX) mg "law" K03.s_law ["script"] f x := by
      refine' ⟨_, _, Mi.def_at KX G ?a ?l ?c ?k fun _ _ _ _ _ _ us hl => match us, hl with | [_], _ => rfl⟩
      (case a => k_is); (case l => k_is); (case c => k_is); (case k => k_is)
    have b_int : mg "int" = none := PySem.W.mg_none_of KX G (by k_is)
    have b_len : mg "len" = none := PySem.W.mg_none_of KX G (by k_is)
    have b_min : mg "min" = none := PySem.W.mg_none_of KX G (by k_is)
    have b_range : mg "range" = none := PySem.W.mg_none_of KX G (by k_is)
    have b_repr : mg "repr" = none := PySem.W.mg_none_of KX G (by k_is)
    have b_tuple : mg "tuple" = none := PySem.W.mg_none_of KX G (by k_is)
    have e := hmg.symm.trans d_law.at_
    cases e
    exact ⟨x_law, fun s v => d_law.bb s [v] rfl, fun base _ _ => K03.ok_law ⟨_, _, d_step_of, _, _, d_rank_of, _, _, d__law_cell, _, _, d__law_first, _, _, d__law_draw, _, _, d__law_alike, _, _, d_comes_before, _, _, d__law_digits, _, _, d__law_some_path, _, _, d_law, b_int, b_len, b_min, b_range, b_repr, b_tuple⟩⟩
