import PyProof.Rows.All
import Wide.All
import OpenK.AllK
import Wide.FinOn
import Open.SpecLaws
import KE.OsGo
import HandS.ForSpec
import HandS.Comp
import HandS.Dict
import HandS.Iter
import HandS.More
import HandS.Flt
import HandS.Strs
import HandS.SetFor
import HandS.Zip
import HandS.SortInts
import HandS.Style
import HandS.Conv
import KE.KDictList
import PyProof.ZipIter
import KE.KDictZip
import KE.GoesEnumKw
import HandS.Walk
import HandS.WordsDict
import PySem.Challenge.RW_pieceheaps_s01_answers
set_option Elab.async false
set_option linter.all false
set_option maxRecDepth 100000
set_option maxHeartbeats 8000000
namespace Ph
open Sm11
/-! ### plain words on lists -/
theorem once_iff : ∀ {l : List Nat}, once l = true ↔ l.Nodup
  | [] => by simp [once]
  | a :: l => by
    rw [once, Bool.and_eq_true, once_iff, List.nodup_cons]
    simp
theorem nodup_le : ∀ {l m : List Nat}, l.Nodup → (∀ x ∈ l, x ∈ m) → l.length ≤ m.length
  | [], _, _, _ => Nat.zero_le _
  | a :: l, m, h, s => by
    have ha : a ∈ m := s a (by simp)
    have hn := List.nodup_cons.mp h
    have := nodup_le (l := l) (m := m.erase a) hn.2 (fun x hx => by
      have hne : x ≠ a := fun e => hn.1 (e ▸ hx)
      exact (List.mem_erase_of_ne hne).mpr (s x (by simp [hx])))
    rw [List.length_erase_of_mem ha] at this
    have : 0 < m.length := List.length_pos_of_mem ha
    simp only [List.length_cons]
    omega
theorem find_unique {α : Type} {p : α → Bool} : ∀ {l : List α} {a : α}, a ∈ l → p a = true → (∀ b ∈ l, p b = true → b = a) → l.find? p = some a
  | [], a, h, _, _ => by cases h
  | b :: l, a, h, ha, hu => by
    rw [List.find?_cons]
    cases hb : p b with
    | true => rw [hu b (by simp) hb]
    | false =>
      rcases List.mem_cons.mp h with e | e
      · rw [← e, ha] at hb
        cases hb
      · exact find_unique e ha (fun c hc => hu c (by simp [hc]))
/-! ### what lies in a heap -/
theorem at_nil (a : Nat) : at_ [] a = none := rfl
theorem at_cons (c : Nat × Nat) (h : List (Nat × Nat)) (a : Nat) : at_ (c :: h) a = if c.1 = a then some c.2 else at_ h a := by
  unfold at_
  rw [List.find?_cons]
  by_cases e : c.1 = a
  · simp [e]
  · have e2 : (c.1 == a) = false := by simpa using e
    simp [e, e2]
theorem at_isSome {h : List (Nat × Nat)} {a : Nat} : (at_ h a).isSome = true ↔ a ∈ places h := by
  induction h with
  | nil => simp [at_nil, places]
  | cons c h ih =>
    rw [at_cons]
    by_cases e : c.1 = a
    · simp [e, places]
    · have e' : ¬ a = c.1 := fun q => e q.symm
      simp only [e, if_false, ih]
      simp [places, e']
theorem at_none {h : List (Nat × Nat)} {a : Nat} : at_ h a = none ↔ a ∉ places h := by
  rw [← at_isSome]
  cases at_ h a <;> simp
theorem at_mem {h : List (Nat × Nat)} (hn : (places h).Nodup) {a v : Nat} : at_ h a = some v ↔ (a, v) ∈ h := by
  induction h with
  | nil => simp [at_nil]
  | cons c h ih =>
    have hn' := List.nodup_cons.mp (show (c.1 :: places h).Nodup from hn)
    rw [at_cons]
    obtain ⟨c1, c2⟩ := c
    by_cases e : c1 = a
    · subst e
      simp only [if_true, Option.some.injEq, List.mem_cons, Prod.mk.injEq, true_and]
      constructor
      · intro q
        exact .inl q.symm
      · rintro (q | q)
        · exact q.symm
        · exact absurd (List.mem_map.mpr ⟨_, q, rfl⟩) hn'.1
    · have e' : ¬ a = c1 := fun q => e q.symm
      simp only [e, if_false, ih hn'.2, List.mem_cons, Prod.mk.injEq, e', false_and, false_or]
theorem at_perm {h g : List (Nat × Nat)} (hp : h.Perm g) (hn : (places h).Nodup) (a : Nat) : at_ h a = at_ g a := by
  have hg : (places g).Nodup := (List.Perm.map _ hp).nodup_iff.mp hn
  cases e : at_ h a with
  | none =>
    rw [at_none] at e
    exact (at_none.mpr (fun q => e ((List.Perm.map _ hp).mem_iff.mpr q))).symm
  | some v => exact ((at_mem hg).mpr (hp.mem_iff.mp ((at_mem hn).mp e))).symm
/-! ### chains -/
inductive Path (h : List (Nat × Nat)) : Nat → Nat → List Nat → Prop
  | here (a : Nat) : Path h a a []
  | next {a z b : Nat} {l : List Nat} : a ≠ b → at_ h a = some z → Path h z b l → Path h a b (a :: l)
theorem follow_path {h : List (Nat × Nat)} : ∀ {f a b : Nat} {l : List Nat}, follow h f a b = some l → Path h a b l
  | 0, a, b, l, e => by
    unfold follow at e
    split at e
    · rename_i q
      injection e with e
      subst q e
      exact .here _
    · cases e
  | f + 1, a, b, l, e => by
    unfold follow at e
    split at e
    · rename_i q
      injection e with e
      subst q e
      exact .here _
    · rename_i q
      split at e
      · cases e
      · rename_i z hz
        cases e2 : follow h f z b with
        | none =>
          rw [e2] at e
          cases e
        | some m =>
          rw [e2] at e
          injection e with e
          subst e
          exact .next q hz (follow_path e2)
theorem path_follow {h : List (Nat × Nat)} {a b : Nat} {l : List Nat} (p : Path h a b l) : ∀ {f : Nat}, l.length ≤ f → follow h f a b = some l := by
  induction p with
  | here a =>
    intro f _
    cases f <;> simp [follow]
  | next q hz _ ih =>
    intro f hf
    cases f with
    | zero => simp at hf
    | succ f =>
      simp only [List.length_cons] at hf
      rw [follow, if_neg q, hz]
      simp [ih (show _ ≤ f by omega)]
theorem Path.det {h : List (Nat × Nat)} {a b : Nat} {l m : List Nat} (p : Path h a b l) : Path h a b m → l = m := by
  induction p generalizing m with
  | here a =>
    intro q
    cases q with
    | here => rfl
    | next n _ _ => exact absurd rfl n
  | next n hz _ ih =>
    intro q
    cases q with
    | here => exact absurd rfl n
    | next _ hz' q' =>
      rw [hz] at hz'
      injection hz' with e
      subst e
      rw [ih q']
theorem Path.at {h : List (Nat × Nat)} {a b : Nat} {l : List Nat} (p : Path h a b l) {x : Nat} (hx : x ∈ l) : ∃ u v, l = u ++ x :: v ∧ Path h x b (x :: v) := by
  induction p with
  | here a => cases hx
  | @next a z b l n hz p' ih =>
    rcases List.mem_cons.mp hx with e | e
    · subst e
      exact ⟨[], l, rfl, .next n hz p'⟩
    · obtain ⟨u, v, e1, e2⟩ := ih e
      exact ⟨a :: u, v, by rw [e1]; rfl, e2⟩
theorem Path.nodup {h : List (Nat × Nat)} {a b : Nat} {l : List Nat} (p : Path h a b l) : l.Nodup := by
  induction p with
  | here a => exact List.nodup_nil
  | @next a z b l n hz p' ih =>
    refine List.nodup_cons.mpr ⟨fun q => ?_, ih⟩
    obtain ⟨u, v, e1, e2⟩ := p'.at q
    have := e2.det (.next n hz p')
    have h2 : v.length = l.length := by
      injection this with _ t
      rw [t]
    rw [e1] at h2
    simp at h2
    omega
theorem Path.mem {h : List (Nat × Nat)} {a b : Nat} {l : List Nat} (p : Path h a b l) : ∀ x ∈ l, x ∈ places h := by
  induction p with
  | here a => intro x hx; cases hx
  | next n hz _ ih =>
    intro x hx
    rcases List.mem_cons.mp hx with e | e
    · subst e
      exact at_isSome.mp (by rw [hz]; rfl)
    · exact ih x e
theorem Path.len {h : List (Nat × Nat)} {a b : Nat} {l : List Nat} (p : Path h a b l) : l.length ≤ h.length := by
  have := nodup_le p.nodup p.mem
  rwa [places, List.length_map] at this
theorem follow_iff {h : List (Nat × Nat)} {a b : Nat} {l : List Nat} : follow h h.length a b = some l ↔ Path h a b l := ⟨follow_path, fun p => path_follow p p.len⟩
/-- the cells gone through from a on, up to p, none of them at b -/
inductive Reach (h : List (Nat × Nat)) (a b : Nat) : List Nat → Nat → Prop
  | nil : Reach h a b [] a
  | snoc {l : List Nat} {p z : Nat} : Reach h a b l p → p ≠ b → at_ h p = some z → Reach h a b (l ++ [p]) z
theorem Reach.path {h : List (Nat × Nat)} {a b p : Nat} {l : List Nat} (r : Reach h a b l p) : ∀ {m : List Nat}, Path h p b m → Path h a b (l ++ m) := by
  induction r with
  | nil => intro m q; exact q
  | snoc _ n hz ih =>
    intro m q
    rw [List.append_assoc]
    exact ih (.next n hz q)
theorem Reach.split {h : List (Nat × Nat)} {a b p : Nat} {l : List Nat} (r : Reach h a b l p) : ∀ {m : List Nat}, Path h a b m → ∃ m', m = l ++ m' ∧ Path h p b m' := by
  induction r with
  | nil => intro m q; exact ⟨m, rfl, q⟩
  | snoc _ n hz ih =>
    intro m q
    obtain ⟨m', e, q'⟩ := ih q
    cases q' with
    | here => exact absurd rfl n
    | @next _ z' _ l' _ hz' q'' =>
      rw [hz] at hz'
      injection hz' with e2
      subst e2
      exact ⟨l', by rw [e, List.append_assoc]; rfl, q''⟩
/-- a place that comes again: there's no end -/
theorem Reach.round {h : List (Nat × Nat)} {a b p : Nat} {l : List Nat} (r : Reach h a b l p) (hp : p ∈ l) {m : List Nat} (q : Path h a b m) : False := by
  obtain ⟨m', e, q'⟩ := r.split q
  have nd := q.nodup
  cases q' with
  | here =>
    have hb := List.mem_append_left [] hp
    rw [← e] at hb
    obtain ⟨u, v, _, e2⟩ := q.at hb
    cases e2 with
    | next n _ _ => exact n rfl
  | next n hz q'' =>
    rw [e] at nd
    exact (List.nodup_append.mp nd).2.2 p hp p (by simp) rfl
/-! ### a telling piece by piece -/
def lsOf (w : World) (t : Telling) : List Nat := (t.map (takes w)).flatMap fun x => x.getD []
def good (w : World) (t : Telling) : Bool := t.all (plainSo w) && ((t.map (takes w)).all (fun x => x.isSome) && once (lsOf w t))
theorem isSo_good (w : World) (t : Telling) : isSo w t = (good w t && ((lsOf w t).length == w.heap.length)) := by
  unfold isSo good lsOf
  simp only [Bool.and_assoc]
theorem lsOf_append (w : World) (s t : Telling) : lsOf w (s ++ t) = lsOf w s ++ lsOf w t := by
  unfold lsOf
  rw [List.map_append, List.flatMap_append]
theorem lsOf_one (w : World) (f : Fact) : lsOf w [f] = (takes w f).getD [] := by simp [lsOf]
theorem good_iff {w : World} {t : Telling} : good w t = true ↔ (∀ f ∈ t, plainSo w f = true) ∧ (∀ f ∈ t, (takes w f).isSome = true) ∧ (lsOf w t).Nodup := by
  unfold good
  rw [Bool.and_eq_true, Bool.and_eq_true, once_iff, List.all_eq_true, List.all_eq_true]
  simp
theorem good_nil (w : World) : good w [] = true := rfl
theorem good_snoc {w : World} {t : Telling} {f : Fact} : good w (t ++ [f]) = true ↔ good w t = true ∧ plainSo w f = true ∧ (takes w f).isSome = true ∧ (lsOf w t ++ (takes w f).getD []).Nodup := by
  rw [good_iff, good_iff, lsOf_append, lsOf_one]
  constructor
  · rintro ⟨a, b, c⟩
    exact ⟨⟨fun f hf => a f (by simp [hf]), fun f hf => b f (by simp [hf]), (List.nodup_append.mp c).1⟩, a f (by simp), b f (by simp), c⟩
  · rintro ⟨⟨a, b, _⟩, c, d, e⟩
    refine ⟨fun g hg => ?_, fun g hg => ?_, e⟩
    · rcases List.mem_append.mp hg with q | q
      · exact a g q
      · rw [List.mem_singleton.mp q]
        exact c
    · rcases List.mem_append.mp hg with q | q
      · exact b g q
      · rw [List.mem_singleton.mp q]
        exact d
theorem good_left {w : World} {s t : Telling} (h : good w (s ++ t) = true) : good w s = true := by
  rw [good_iff] at h ⊢
  rw [lsOf_append] at h
  exact ⟨fun f hf => h.1 f (by simp [hf]), fun f hf => h.2.1 f (by simp [hf]), (List.nodup_append.mp h.2.2).1⟩
theorem takes_mem {w : World} {f : Fact} {l : List Nat} (h : takes w f = some l) : l.Nodup ∧ ∀ x ∈ l, x ∈ places w.heap := by
  cases f with
  | same x y => injection h with h; subst h; simp
  | differ x y => injection h with h; subst h; simp
  | cell x y =>
    have h : (if at_ w.heap (val w x) = some (val w y) then some [val w x] else none) = some l := h
    split at h
    · rename_i q
      injection h with h
      subst h
      refine ⟨by simp, fun z hz => ?_⟩
      rw [List.mem_singleton.mp hz]
      exact at_isSome.mp (by rw [q]; rfl)
    · cases h
  | chain x y =>
    have p := follow_path (show follow w.heap w.heap.length (val w x) (val w y) = some l from h)
    exact ⟨p.nodup, p.mem⟩
theorem lsOf_mem {w : World} {t : Telling} : ∀ x ∈ lsOf w t, x ∈ places w.heap := by
  intro x hx
  unfold lsOf at hx
  obtain ⟨o, ho, hx⟩ := List.mem_flatMap.mp hx
  obtain ⟨f, _, rfl⟩ := List.mem_map.mp ho
  cases e : takes w f with
  | none => rw [e] at hx; cases hx
  | some l =>
    rw [e] at hx
    exact (takes_mem e).2 x hx
theorem lsOf_len {w : World} {t : Telling} (h : good w t = true) : (lsOf w t).length ≤ w.heap.length := by
  have := nodup_le (good_iff.mp h).2.2 (lsOf_mem (w := w) (t := t))
  rwa [places, List.length_map] at this
end Ph
namespace Ph
open Sm11
/-! ### heaps in order, and the same in any order -/
def Asc (h : List (Nat × Nat)) : Prop := (places h).Pairwise (· < ·)
theorem Asc.nodup {h : List (Nat × Nat)} (a : Asc h) : (places h).Nodup := List.Pairwise.imp (fun q => Nat.ne_of_lt q) a
theorem Asc.nil : Asc [] := List.Pairwise.nil
theorem Asc.tail {c : Nat × Nat} {h : List (Nat × Nat)} (a : Asc (c :: h)) : Asc h := (List.pairwise_cons.mp a).2
theorem Asc.head {c : Nat × Nat} {h : List (Nat × Nat)} (a : Asc (c :: h)) : ∀ x ∈ places h, c.1 < x := (List.pairwise_cons.mp a).1
theorem asc_eq : ∀ {l m : List Nat}, l.Pairwise (· < ·) → m.Pairwise (· < ·) → (∀ x, x ∈ l ↔ x ∈ m) → l = m
  | [], [], _, _, _ => rfl
  | [], b :: m, _, _, h => absurd ((h b).mpr (by simp)) (by simp)
  | a :: l, [], _, _, h => absurd ((h a).mp (by simp)) (by simp)
  | a :: l, b :: m, hl, hm, h => by
    have hl' := List.pairwise_cons.mp hl
    have hm' := List.pairwise_cons.mp hm
    have e : a = b := by
      rcases List.mem_cons.mp ((h a).mp (by simp)) with e | e
      · exact e
      · rcases List.mem_cons.mp ((h b).mpr (by simp)) with e' | e'
        · exact e'.symm
        · have := hl'.1 b e'
          have := hm'.1 a e
          omega
    subst e
    rw [asc_eq hl'.2 hm'.2 fun x => ?_]
    constructor
    · intro q
      rcases List.mem_cons.mp ((h x).mp (by simp [q])) with e | e
      · have := hl'.1 x q
        omega
      · exact e
    · intro q
      rcases List.mem_cons.mp ((h x).mpr (by simp [q])) with e | e
      · have := hm'.1 x q
        omega
      · exact e
theorem places_put {a v : Nat} : ∀ {h : List (Nat × Nat)} {x : Nat}, x ∈ places (put a v h) ↔ x = a ∨ x ∈ places h
  | [], x => by simp [put, places]
  | c :: h, x => by
    unfold put
    split
    · rename_i e
      simp [places, e]
    · split
      · simp [places]
      · rw [show places (c :: put a v h) = c.1 :: places (put a v h) from rfl, List.mem_cons, places_put, show places (c :: h) = c.1 :: places h from rfl, List.mem_cons]
        constructor
        · rintro (q | q | q)
          · exact .inr (.inl q)
          · exact .inl q
          · exact .inr (.inr q)
        · rintro (q | q | q)
          · exact .inr (.inl q)
          · exact .inl q
          · exact .inr (.inr q)
theorem Asc.put {a v : Nat} : ∀ {h : List (Nat × Nat)}, Asc h → Asc (put a v h)
  | [], _ => by simp [Asc, Sm11.put, places]
  | c :: h, q => by
    unfold Sm11.put
    split
    · rename_i e
      exact List.pairwise_cons.mpr ⟨fun x hx => by rw [e]; exact q.head x hx, q.tail⟩
    · split
      · rename_i e
        refine List.pairwise_cons.mpr ⟨fun x hx => ?_, q⟩
        rcases List.mem_cons.mp (show x ∈ c.1 :: places h from hx) with z | z
        · rw [z]; exact e
        · exact Nat.lt_trans e (q.head x z)
      · rename_i e1 e2
        refine List.pairwise_cons.mpr ⟨fun x hx => ?_, q.tail.put⟩
        rcases places_put.mp hx with z | z
        · subst z
          show c.1 < x
          omega
        · exact q.head x z
theorem at_put {a v : Nat} : ∀ {h : List (Nat × Nat)}, Asc h → ∀ b, at_ (put a v h) b = if b = a then some v else at_ h b
  | [], _, b => by
    rw [put, at_cons]
    by_cases e : a = b
    · simp [e]
    · have e' : ¬ b = a := fun z => e z.symm
      simp [e, e']
  | c :: h, q, b => by
    unfold put
    split
    · rename_i e
      rw [at_cons, at_cons]
      by_cases z : a = b
      · simp [z]
      · have z' : ¬ b = a := fun y => z y.symm
        simp [z, z', ← e]
    · split
      · rw [at_cons]
        by_cases z : a = b
        · simp [z]
        · have z' : ¬ b = a := fun y => z y.symm
          simp [z, z']
      · rename_i e1 e2
        rw [at_cons, at_put q.tail, at_cons]
        by_cases z : c.1 = b
        · have z' : ¬ b = a := fun y => e1 (y.symm.trans z.symm)
          simp [z, z']
        · simp [z]
theorem places_drop {a x : Nat} {h : List (Nat × Nat)} : x ∈ places (h.filter fun d => d.1 != a) ↔ x ∈ places h ∧ x ≠ a := by
  unfold places
  simp only [List.mem_map, List.mem_filter, bne_iff_ne, ne_eq]
  constructor
  · rintro ⟨c, ⟨q, r⟩, rfl⟩
    exact ⟨⟨c, q, rfl⟩, r⟩
  · rintro ⟨⟨c, q, rfl⟩, r⟩
    exact ⟨c, ⟨q, r⟩, rfl⟩
theorem Asc.drop {a : Nat} {h : List (Nat × Nat)} (q : Asc h) : Asc (h.filter fun d => d.1 != a) := List.Pairwise.sublist (List.Sublist.map _ List.filter_sublist) q
theorem nodup_drop {a : Nat} {h : List (Nat × Nat)} (q : (places h).Nodup) : (places (h.filter fun d => d.1 != a)).Nodup := List.Nodup.sublist (List.Sublist.map _ List.filter_sublist) q
theorem at_drop (a : Nat) : ∀ (h : List (Nat × Nat)) (b : Nat), at_ (h.filter fun d => d.1 != a) b = if b = a then none else at_ h b
  | [], b => by simp [at_nil]
  | c :: h, b => by
    rw [List.filter_cons, at_cons]
    by_cases e : c.1 = a
    · simp only [e, bne_self_eq_false, Bool.false_eq_true, if_false, at_drop a h b]
      by_cases z : b = a
      · simp [z]
      · have z' : ¬ a = b := fun y => z y.symm
        simp [z, z']
    · have e' : (c.1 != a) = true := by simpa using e
      rw [if_pos e', at_cons, at_drop a h b]
      by_cases z : c.1 = b
      · have : ¬ b = a := fun y => e (z.trans y)
        simp [z, this]
      · simp [z]
/-- a dict's cells: the heap's, in any order -/
structure Like (l h : List (Nat × Nat)) : Prop where
  nd : (places l).Nodup
  at_ : ∀ a, Sm11.at_ l a = Sm11.at_ h a
theorem Like.refl {h : List (Nat × Nat)} (a : Asc h) : Like h h := ⟨a.nodup, fun _ => rfl⟩
theorem Like.mem {l h : List (Nat × Nat)} (k : Like l h) (x : Nat) : x ∈ places l ↔ x ∈ places h := by
  rw [← at_isSome, ← at_isSome, k.at_]
theorem perm_nodup {α : Type} [DecidableEq α] : ∀ {l m : List α}, l.Nodup → m.Nodup → (∀ x, x ∈ l ↔ x ∈ m) → l.Perm m
  | [], [], _, _, _ => .nil
  | [], b :: m, _, _, h => absurd ((h b).mpr (by simp)) (by simp)
  | a :: l, m, hl, hm, h => by
    have ha : a ∈ m := (h a).mp (by simp)
    have hl' := List.nodup_cons.mp hl
    refine List.Perm.trans (List.Perm.cons a (perm_nodup hl'.2 (hm.erase a) fun x => ?_)) (List.perm_cons_erase ha).symm
    rw [List.Nodup.mem_erase_iff hm]
    constructor
    · intro q
      exact ⟨fun e => hl'.1 (e ▸ q), (h x).mp (by simp [q])⟩
    · rintro ⟨q, r⟩
      rcases List.mem_cons.mp ((h x).mpr r) with e | e
      · exact absurd e q
      · exact e
theorem nodup_places {l : List (Nat × Nat)} (h : (places l).Nodup) : l.Nodup := by
  induction l with
  | nil => exact List.nodup_nil
  | cons c l ih =>
    have h' := List.nodup_cons.mp (show (c.1 :: places l).Nodup from h)
    exact List.nodup_cons.mpr ⟨fun q => h'.1 (List.mem_map.mpr ⟨c, q, rfl⟩), ih h'.2⟩
theorem Like.perm {l h : List (Nat × Nat)} (k : Like l h) (a : Asc h) : l.Perm h := by
  refine perm_nodup (nodup_places k.nd) (nodup_places a.nodup) fun ⟨x, v⟩ => ?_
  rw [← at_mem k.nd, ← at_mem a.nodup, k.at_]
theorem Like.length {l h : List (Nat × Nat)} (k : Like l h) (a : Asc h) : l.length = h.length := (k.perm a).length_eq
def dput (l : List (Nat × Nat)) (a v : Nat) : List (Nat × Nat) := if (l.any fun c => decide (c.1 = a)) = true then l.map (fun c => if c.1 = a then (c.1, v) else c) else l ++ [(a, v)]
theorem any_places {l : List (Nat × Nat)} {a : Nat} : (l.any fun c => decide (c.1 = a)) = true ↔ a ∈ places l := by
  rw [List.any_eq_true]
  unfold places
  simp only [decide_eq_true_iff, List.mem_map]
theorem places_map {l : List (Nat × Nat)} {a v : Nat} : places (l.map fun c => if c.1 = a then (c.1, v) else c) = places l := by
  unfold places
  rw [List.map_map]
  refine List.map_congr_left fun c _ => ?_
  simp only [Function.comp]
  split <;> rfl
theorem at_map {a v : Nat} : ∀ (l : List (Nat × Nat)) (b : Nat), at_ (l.map fun c => if c.1 = a then (c.1, v) else c) b = if b = a then (at_ l b).map (fun _ => v) else at_ l b
  | [], b => by simp [at_nil]
  | c :: l, b => by
    rw [List.map_cons, at_cons, at_cons, at_map l b]
    by_cases e : c.1 = a
    · by_cases z : c.1 = b
      · have : b = a := z.symm.trans e
        simp [e, z, this]
      · have z' : ¬ a = b := fun y => z (e.trans y)
        simp [e, z']
    · by_cases z : c.1 = b
      · have : ¬ b = a := fun y => e (z.trans y)
        simp [e, z, this]
      · simp [e, z]
theorem at_append (l m : List (Nat × Nat)) (b : Nat) : at_ (l ++ m) b = (at_ l b).or (at_ m b) := by
  induction l with
  | nil => simp [at_nil]
  | cons c l ih =>
    rw [List.cons_append, at_cons, at_cons, ih]
    split <;> simp
theorem Like.put {l h : List (Nat × Nat)} (k : Like l h) (q : Asc h) (a v : Nat) : Like (dput l a v) (Sm11.put a v h) := by
  unfold dput
  by_cases e : (l.any fun c => decide (c.1 = a)) = true
  · rw [if_pos e]
    refine ⟨by rw [places_map]; exact k.nd, fun b => ?_⟩
    rw [at_map, at_put q, k.at_]
    by_cases z : b = a
    · subst z
      rw [if_pos rfl, if_pos rfl]
      have := at_isSome.mpr (any_places.mp e)
      rw [k.at_] at this
      obtain ⟨x, hx⟩ := Option.isSome_iff_exists.mp this
      rw [hx]
      rfl
    · rw [if_neg z, if_neg z]
  · rw [if_neg e]
    have ne : a ∉ places l := fun z => e (any_places.mpr z)
    refine ⟨?_, fun b => ?_⟩
    · rw [show places (l ++ [(a, v)]) = places l ++ [a] by simp [places]]
      rw [List.nodup_append]
      refine ⟨k.nd, by simp, fun x hx y hy => ?_⟩
      rw [List.mem_singleton.mp hy]
      exact fun z => ne (z ▸ hx)
    · rw [at_append, at_put q, k.at_, at_cons, at_nil]
      by_cases z : b = a
      · subst z
        have : Sm11.at_ h b = none := by
          rw [← k.at_]
          exact at_none.mpr ne
        simp [this]
      · have z' : ¬ a = b := fun y => z y.symm
        simp [z, z']
theorem Like.drop {l h : List (Nat × Nat)} (k : Like l h) (a : Nat) : Like (l.filter fun d => d.1 != a) (h.filter fun d => d.1 != a) := ⟨nodup_drop k.nd, fun b => by rw [at_drop, at_drop, k.at_]⟩
/-- put one by one: the cells in order -/
theorem asc_fold : ∀ (cs : List (Nat × Nat)) {h : List (Nat × Nat)}, Asc h → Asc (cs.foldl (fun h c => put c.1 c.2 h) h)
  | [], _, q => q
  | c :: cs, _, q => asc_fold cs q.put
theorem at_fold : ∀ (cs : List (Nat × Nat)) {h : List (Nat × Nat)}, Asc h → (places cs).Nodup → (∀ x ∈ places cs, x ∉ places h) → ∀ b, at_ (cs.foldl (fun h c => put c.1 c.2 h) h) b = (at_ cs b).or (at_ h b)
  | [], h, q, _, _, b => by simp [at_nil]
  | c :: cs, h, q, n, d, b => by
    have n' := List.nodup_cons.mp (show (c.1 :: places cs).Nodup from n)
    rw [List.foldl_cons, at_fold cs q.put n'.2 (fun x hx z => by
      rcases places_put.mp z with e | e
      · exact n'.1 (e ▸ hx)
      · exact d x (by simp [places] at hx ⊢; exact .inr hx) e), at_put q, at_cons]
    by_cases e : b = c.1
    · subst e
      have : at_ cs c.1 = none := at_none.mpr n'.1
      simp [this]
    · have e' : ¬ c.1 = b := fun z => e z.symm
      simp [e, e']
theorem like_fold {cs : List (Nat × Nat)} (n : (places cs).Nodup) : Like cs (cs.foldl (fun h c => put c.1 c.2 h) []) := ⟨n, fun b => by rw [at_fold cs Asc.nil n (by simp [places])]; simp [at_nil]⟩
theorem asc_unique {g h : List (Nat × Nat)} (a : Asc g) (b : Asc h) (e : ∀ x, at_ g x = at_ h x) : g = h := by
  have hp : places g = places h := asc_eq a b fun x => by rw [← at_isSome, ← at_isSome, e]
  have key : ∀ (k : List (Nat × Nat)) (hk : (places k).Nodup), k = (places k).map fun x => (x, (at_ k x).getD 0) := by
    intro k hk
    unfold places
    rw [List.map_map]
    conv => lhs; rw [← List.map_id k]
    refine List.map_congr_left fun c hc => ?_
    have : at_ k c.1 = some c.2 := (at_mem hk).mpr hc
    simp [this]
  rw [key g a.nodup, key h b.nodup, hp]
  exact List.map_congr_left fun x _ => by rw [e]
theorem like_unique {l g h : List (Nat × Nat)} (a : Asc g) (b : Asc h) (x : Like l g) (y : Like l h) : g = h := asc_unique a b fun z => by rw [← x.at_, ← y.at_]
/-! ### new cells' places -/
theorem mem_insert {a : Nat} : ∀ {l : List Nat} {x : Nat}, x ∈ Sm11.insert a l ↔ x = a ∨ x ∈ l
  | [], x => by simp [Sm11.insert]
  | b :: l, x => by
    unfold Sm11.insert
    split
    · rename_i e
      simp [e]
    · split
      · simp
      · rw [List.mem_cons, mem_insert, List.mem_cons]
        constructor
        · rintro (q | q | q)
          · exact .inr (.inl q)
          · exact .inl q
          · exact .inr (.inr q)
        · rintro (q | q | q)
          · exact .inr (.inl q)
          · exact .inl q
          · exact .inr (.inr q)
theorem asc_insert {a : Nat} : ∀ {l : List Nat}, l.Pairwise (· < ·) → (Sm11.insert a l).Pairwise (· < ·)
  | [], _ => by simp [Sm11.insert]
  | b :: l, h => by
    have h' := List.pairwise_cons.mp h
    unfold Sm11.insert
    split
    · exact h
    · split
      · rename_i e
        refine List.pairwise_cons.mpr ⟨fun x hx => ?_, h⟩
        rcases List.mem_cons.mp hx with z | z
        · rw [z]; exact e
        · exact Nat.lt_trans e (h'.1 x z)
      · rename_i e1 e2
        refine List.pairwise_cons.mpr ⟨fun x hx => ?_, asc_insert h'.2⟩
        rcases mem_insert.mp hx with z | z
        · omega
        · exact h'.1 x z
theorem fold_insert : ∀ (l m : List Nat), m.Pairwise (· < ·) → (l.foldl (fun l a => Sm11.insert a l) m).Pairwise (· < ·) ∧ ∀ x, x ∈ l.foldl (fun l a => Sm11.insert a l) m ↔ x ∈ l ∨ x ∈ m
  | [], m, h => ⟨h, by simp⟩
  | a :: l, m, h => by
    obtain ⟨p, q⟩ := fold_insert l (Sm11.insert a m) (asc_insert h)
    refine ⟨p, fun x => ?_⟩
    rw [List.foldl_cons, q, mem_insert, List.mem_cons]
    constructor
    · rintro (z | z | z)
      · exact .inl (.inr z)
      · exact .inl (.inl z)
      · exact .inr z
    · rintro ((z | z) | z)
      · exact .inr (.inl z)
      · exact .inl z
      · exact .inr (.inr z)
theorem loose_asc (w : World) : (loose w).Pairwise (· < ·) := (fold_insert _ [] List.Pairwise.nil).1
theorem loose_mem (w : World) (x : Nat) : x ∈ loose w ↔ (x ∈ w.vals ∨ x ∈ w.heap.map fun c => c.2) ∧ x ≠ 0 ∧ x ∉ places w.heap := by
  rw [loose, (fold_insert _ [] List.Pairwise.nil).2, List.mem_filter, List.mem_append]
  simp
theorem fold_max : ∀ (l : List Nat) (m : Nat), m ≤ l.foldl (fun m a => max m (a + 1)) m ∧ (∀ x ∈ l, x < l.foldl (fun m a => max m (a + 1)) m) ∧ (l.foldl (fun m a => max m (a + 1)) m = m ∨ ∃ x ∈ l, l.foldl (fun m a => max m (a + 1)) m = x + 1)
  | [], m => ⟨Nat.le_refl _, by simp, .inl rfl⟩
  | a :: l, m => by
    obtain ⟨p, q, r⟩ := fold_max l (max m (a + 1))
    rw [List.foldl_cons]
    refine ⟨by omega, fun x hx => ?_, ?_⟩
    · rcases List.mem_cons.mp hx with z | z
      · subst z
        omega
      · exact q x z
    · rcases r with r | ⟨x, hx, r⟩
      · rcases Nat.le_total (a + 1) m with z | z
        · exact .inl (by rw [r]; omega)
        · exact .inr ⟨a, by simp, by rw [r]; omega⟩
      · exact .inr ⟨x, by simp [hx], r⟩
theorem fold_max_eq {l : List Nat} {m k : Nat} (hk : k ∈ l) (h : ∀ x ∈ l, x ≤ k) (hm : m ≤ k + 1) : l.foldl (fun m a => max m (a + 1)) m = k + 1 := by
  obtain ⟨p, q, r⟩ := fold_max l m
  have h1 := q k hk
  rcases r with r | ⟨x, hx, r⟩
  · omega
  · have := h x hx
    omega
theorem width_eq {l : List Nat} {k : Nat} (hk : k ∈ l) (h : ∀ x ∈ l, x ≤ k) : width l = k + 1 := fold_max_eq hk h (Nat.zero_le _)
theorem free_eq {w : World} {k : Nat} (hk : k ∈ w.vals ++ places w.heap ++ w.heap.map fun c => c.2) (h : ∀ x ∈ w.vals ++ places w.heap ++ w.heap.map fun c => c.2, x ≤ k) : free_ w = k + 1 := fold_max_eq hk h (by omega)
end Ph
namespace Ph
open Sm11
/-! ### the ways of one chain -/
def opts (names : List Nat) (e : Nat) (us : List Nat) : List Nat := names.filter fun c => c != 0 && (c != e && !us.contains c)
theorem mem_opts {names us : List Nat} {e c : Nat} : c ∈ opts names e us ↔ c ∈ names ∧ c ≠ 0 ∧ c ≠ e ∧ c ∉ us := by
  simp [opts]
theorem opts_us {names us us' : List Nat} {e : Nat} (h : ∀ c ∈ names, c ∈ us ↔ c ∈ us') : opts names e us = opts names e us' := by
  unfold opts
  refine List.filter_congr fun c hc => ?_
  have := h c hc
  rw [show us.contains c = us'.contains c by
    rw [Bool.eq_iff_iff, List.contains_iff_mem, List.contains_iff_mem]
    exact this]
theorem routes_succ (names : List Nat) (e most f a run : Nat) (us : List Nat) (p : Nat) : routes names e most (f + 1) a run us p =
    [([(a, e)], p)] ++ (opts names e us).flatMap (fun c => (routes names e most f c 1 (c :: us) p).map fun r => ((a, c) :: r.1, r.2)) ++
      if run < most then (routes names e most f p (run + 1) (p :: us) (p + 1)).map fun r => ((a, p) :: r.1, r.2) else [] := rfl
theorem routes_us {names : List Nat} {e most : Nat} : ∀ (f a run : Nat) (us us' : List Nat) (p : Nat), (∀ c ∈ names, c ∈ us ↔ c ∈ us') → routes names e most f a run us p = routes names e most f a run us' p
  | 0, _, _, _, _, _, _ => rfl
  | f + 1, a, run, us, us', p, h => by
    rw [routes_succ, routes_succ, opts_us h]
    have h2 : ∀ x, ∀ c ∈ names, c ∈ x :: us ↔ c ∈ x :: us' := fun x c hc => by
      rw [List.mem_cons, List.mem_cons, h c hc]
    rw [routes_us f p (run + 1) (p :: us) (p :: us') (p + 1) (h2 p)]
    congr 2
    rw [List.flatMap_def, List.flatMap_def]
    congr 1
    refine List.map_congr_left fun c _ => ?_
    rw [routes_us f c 1 (c :: us) (c :: us') p (h2 c)]
theorem routes_names {q : Nat → Bool} {names : List Nat} {e most : Nat} : ∀ (f a run : Nat) (us : List Nat) (p : Nat), (∀ c ∈ names, q c = false → c = 0 ∨ c ∈ us) → routes names e most f a run us p = routes (names.filter q) e most f a run us p
  | 0, _, _, _, _, _ => rfl
  | f + 1, a, run, us, p, h => by
    have ho : opts (names.filter q) e us = opts names e us := by
      unfold opts
      rw [List.filter_filter]
      refine List.filter_congr fun c hc => ?_
      cases e1 : q c with
      | true => simp
      | false =>
        rcases h c hc e1 with z | z
        · simp [z]
        · simp [z]
    rw [routes_succ, routes_succ, ho]
    have h2 : ∀ x, ∀ c ∈ names, q c = false → c = 0 ∨ c ∈ x :: us := fun x c hc e => by
      rcases h c hc e with z | z
      · exact .inl z
      · exact .inr (by simp [z])
    rw [routes_names f p (run + 1) (p :: us) (p + 1) (h2 p)]
    congr 2
    rw [List.flatMap_def, List.flatMap_def]
    congr 1
    refine List.map_congr_left fun c _ => ?_
    rw [routes_names f c 1 (c :: us) p (h2 c)]
theorem routes_head {names : List Nat} {e most : Nat} : ∀ {f a run : Nat} {us : List Nat} {p : Nat} {r : List (Nat × Nat) × Nat}, r ∈ routes names e most f a run us p → ∃ v l, r.1 = (a, v) :: l
  | 0, _, _, _, _, _, h => by cases h
  | f + 1, a, run, us, p, r, h => by
    rw [routes_succ, List.mem_append, List.mem_append] at h
    rcases h with (h | h) | h
    · rw [List.mem_singleton.mp h]
      exact ⟨_, _, rfl⟩
    · obtain ⟨c, _, h⟩ := List.mem_flatMap.mp h
      obtain ⟨r', _, rfl⟩ := List.mem_map.mp h
      exact ⟨_, _, rfl⟩
    · split at h
      · obtain ⟨r', _, rfl⟩ := List.mem_map.mp h
        exact ⟨_, _, rfl⟩
      · cases h
theorem flatMap_nil_of {α β : Type} {l : List α} {g : α → List β} (h : ∀ a ∈ l, g a = []) : l.flatMap g = [] := by
  induction l with
  | nil => rfl
  | cons a l ih => rw [List.flatMap_cons, h a (by simp), ih fun b hb => h b (by simp [hb])]; rfl
theorem flatMap_filter_of {α β : Type} {q : α → Bool} {g : α → List β} : ∀ {l : List α}, (∀ a ∈ l, q a = false → g a = []) → l.flatMap g = (l.filter q).flatMap g
  | [], _ => rfl
  | a :: l, h => by
    rw [List.flatMap_cons, List.filter_cons, flatMap_filter_of (l := l) fun b hb => h b (by simp [hb])]
    cases e : q a with
    | true => simp
    | false => simp [h a (by simp) e]
theorem flatMap_congr_of {α β : Type} {g g' : α → List β} {l : List α} (h : ∀ a ∈ l, g a = g' a) : l.flatMap g = l.flatMap g' := by
  rw [List.flatMap_def, List.flatMap_def, List.map_congr_left h]
theorem routes_prune {β : Type} {bad : Nat → Bool} {names : List Nat} {e most : Nat} : ∀ (f a run : Nat) (us : List Nat) (p : Nat) (g : List (Nat × Nat) × Nat → List β), (∀ r, (∃ x ∈ places r.1, bad x = true) → g r = []) →
    (routes names e most f a run us p).flatMap g = (routes (names.filter fun c => !bad c) e most f a run us p).flatMap g
  | 0, _, _, _, _, _, _ => rfl
  | f + 1, a, run, us, p, g, h => by
    have h2 : ∀ c, ∀ r : List (Nat × Nat) × Nat, (∃ x ∈ places r.1, bad x = true) → g ((a, c) :: r.1, r.2) = [] := fun c r ⟨x, hx, hb⟩ => h _ ⟨x, by simp [places] at hx ⊢; exact .inr hx, hb⟩
    rw [routes_succ, routes_succ, List.flatMap_append, List.flatMap_append, List.flatMap_append, List.flatMap_append]
    congr 1
    · congr 1
      have ho : opts (names.filter fun c => !bad c) e us = (opts names e us).filter fun c => !bad c := by
        unfold opts
        rw [List.filter_filter, List.filter_filter]
        exact List.filter_congr fun c _ => Bool.and_comm _ _
      rw [ho, List.flatMap_assoc, List.flatMap_assoc]
      rw [flatMap_filter_of (q := fun c => !bad c) (l := opts names e us) (g := fun c => List.flatMap g ((routes names e most f c 1 (c :: us) p).map fun r => ((a, c) :: r.1, r.2))) (fun c _ hb => ?_)]
      · refine flatMap_congr_of fun c _ => ?_
        rw [List.flatMap_map, List.flatMap_map]
        exact routes_prune f c 1 (c :: us) p (fun r => g ((a, c) :: r.1, r.2)) (h2 c)
      · rw [List.flatMap_map]
        refine flatMap_nil_of fun r hr => ?_
        obtain ⟨v, l, e1⟩ := routes_head hr
        refine h2 c r ⟨c, ?_, by simpa using hb⟩
        rw [e1]
        simp [places]
    · split
      · rw [List.flatMap_map, List.flatMap_map]
        exact routes_prune f p (run + 1) (p :: us) (p + 1) (fun r => g ((a, p) :: r.1, r.2)) (h2 p)
      · rfl
/-- where a way's cells lie -/
theorem routes_in {names : List Nat} {e most : Nat} : ∀ {f a run : Nat} {us : List Nat} {p : Nat} {r : List (Nat × Nat) × Nat}, r ∈ routes names e most f a run us p → (∀ c ∈ names, c < p) → (∀ x ∈ us, x < p) → 0 < p →
    p ≤ r.2 ∧ ∃ v l, r.1 = (a, v) :: l ∧ (places l).Nodup ∧ ∀ x ∈ places l, x ∉ us ∧ x < r.2 ∧ x ≠ 0 ∧ (x ∈ names ∨ p ≤ x)
  | 0, _, _, _, _, _, h, _, _, _ => by cases h
  | f + 1, a, run, us, p, r, h, hn, hu, hp => by
    rw [routes_succ, List.mem_append, List.mem_append] at h
    rcases h with (h | h) | h
    · rw [List.mem_singleton.mp h]
      exact ⟨Nat.le_refl _, e, [], rfl, by simp [places], by simp [places]⟩
    · obtain ⟨c, hc, h⟩ := List.mem_flatMap.mp h
      obtain ⟨r', hr, rfl⟩ := List.mem_map.mp h
      obtain ⟨c1, c2, c3, c4⟩ := mem_opts.mp hc
      obtain ⟨h1, v, l, e1, h2, h3⟩ := routes_in hr hn (fun x hx => by
        rcases List.mem_cons.mp hx with z | z
        · rw [z]; exact hn c c1
        · exact hu x z) hp
      refine ⟨h1, c, r'.1, rfl, ?_, ?_⟩
      · rw [e1]
        refine List.nodup_cons.mpr ⟨fun z => (h3 c z).1 (by simp), h2⟩
      · intro x hx
        rw [e1] at hx
        rcases List.mem_cons.mp (show x ∈ c :: places l from hx) with z | z
        · rw [z]
          exact ⟨c4, Nat.lt_of_lt_of_le (hn c c1) h1, c2, .inl c1⟩
        · obtain ⟨q1, q2, q3, q4⟩ := h3 x z
          exact ⟨fun y => q1 (by simp [y]), q2, q3, q4⟩
    · split at h
      · obtain ⟨r', hr, rfl⟩ := List.mem_map.mp h
        obtain ⟨h1, v, l, e1, h2, h3⟩ := routes_in hr (fun c hc => Nat.lt_succ_of_lt (hn c hc)) (fun x hx => by
          rcases List.mem_cons.mp hx with z | z
          · omega
          · exact Nat.lt_succ_of_lt (hu x z)) (by omega)
        refine ⟨by omega, p, r'.1, rfl, ?_, ?_⟩
        · rw [e1]
          refine List.nodup_cons.mpr ⟨fun z => (h3 p z).1 (by simp), h2⟩
        · intro x hx
          rw [e1] at hx
          rcases List.mem_cons.mp (show x ∈ p :: places l from hx) with z | z
          · rw [z]
            exact ⟨fun y => absurd (hu p y) (Nat.lt_irrefl _), by omega, by omega, .inr (Nat.le_refl _)⟩
          · obtain ⟨q1, q2, q3, q4⟩ := h3 x z
            exact ⟨fun y => q1 (by simp [y]), q2, q3, q4.imp id (fun y => by omega)⟩
      · cases h
/-! ### the worlds of one row of names -/
def cellF (vals : List Nat) : Fact → List (Nat × Nat)
  | .cell x y => [(vals.getD x 0, vals.getD y 0)]
  | _ => []
def chainF (vals : List Nat) : Fact → List (Nat × Nat)
  | .chain x y => if vals.getD x 0 = vals.getD y 0 then [] else [(vals.getD x 0, vals.getD y 0)]
  | _ => []
def cellsT (vals : List Nat) (t : Telling) : List (Nat × Nat) := t.flatMap (cellF vals)
def chainsT (vals : List Nat) (t : Telling) : List (Nat × Nat) := t.flatMap (chainF vals)
def later (vals : List Nat) (t : Telling) : List Nat := t.flatMap fun f => places (cellF vals f ++ chainF vals f)
def firsts (vals : List Nat) (t : Telling) : List Nat := places (cellsT vals t ++ chainsT vals t)
theorem later_eq {vals : List Nat} {x y : Nat} {t : Telling} (e : vals.getD x 0 = vals.getD y 0) : later vals (.chain x y :: t) = later vals t := by
  show places ([] ++ (if vals.getD x 0 = vals.getD y 0 then [] else [(vals.getD x 0, vals.getD y 0)])) ++ later vals t = _
  rw [if_pos e]
  rfl
theorem later_ne {vals : List Nat} {x y : Nat} {t : Telling} (e : ¬ vals.getD x 0 = vals.getD y 0) : later vals (.chain x y :: t) = vals.getD x 0 :: later vals t := by
  show places ([] ++ (if vals.getD x 0 = vals.getD y 0 then [] else [(vals.getD x 0, vals.getD y 0)])) ++ later vals t = _
  rw [if_neg e]
  rfl
theorem chainsT_eq {vals : List Nat} {x y : Nat} {t : Telling} (e : vals.getD x 0 = vals.getD y 0) : chainsT vals (.chain x y :: t) = chainsT vals t := by
  show (if vals.getD x 0 = vals.getD y 0 then [] else [(vals.getD x 0, vals.getD y 0)]) ++ chainsT vals t = _
  rw [if_pos e]
  rfl
theorem chainsT_ne {vals : List Nat} {x y : Nat} {t : Telling} (e : ¬ vals.getD x 0 = vals.getD y 0) : chainsT vals (.chain x y :: t) = (vals.getD x 0, vals.getD y 0) :: chainsT vals t := by
  show (if vals.getD x 0 = vals.getD y 0 then [] else [(vals.getD x 0, vals.getD y 0)]) ++ chainsT vals t = _
  rw [if_neg e]
  rfl
theorem firsts_perm (vals : List Nat) : ∀ t : Telling, (firsts vals t).Perm (later vals t)
  | [] => .nil
  | f :: t => by
    have ih := firsts_perm vals t
    show (places ((cellF vals f ++ cellsT vals t) ++ (chainF vals f ++ chainsT vals t))).Perm (places (cellF vals f ++ chainF vals f) ++ later vals t)
    refine List.Perm.trans ?_ (List.Perm.append_left _ ih)
    unfold firsts
    rw [show places (cellF vals f ++ chainF vals f) ++ places (cellsT vals t ++ chainsT vals t) = places ((cellF vals f ++ chainF vals f) ++ (cellsT vals t ++ chainsT vals t)) by simp [places]]
    refine List.Perm.map _ ?_
    rw [List.append_assoc, List.append_assoc]
    refine List.Perm.append_left _ ?_
    rw [← List.append_assoc, ← List.append_assoc]
    exact List.Perm.append_right _ List.perm_append_comm
def gen (pas : List Nat) (most fu : Nat) : List (Nat × Nat) → List (Nat × Nat) → Nat → List (List (Nat × Nat))
  | [], hp, _ => [hp]
  | c :: rest, hp, p => (routes pas c.2 most fu c.1 1 (c.1 :: places hp) p).flatMap fun r => gen pas most fu rest (hp ++ r.1) r.2
def fin (vals : List Nat) (cs : List (Nat × Nat)) : World := ⟨vals, cs.foldl (fun h c => put c.1 c.2 h) []⟩
def fin? (vals : List Nat) (cs : List (Nat × Nat)) : Option World := if once (places cs) = true ∧ (places cs).contains 0 = false then some (fin vals cs) else none
theorem fin?_none {vals : List Nat} {cs : List (Nat × Nat)} (h : ¬ ((places cs).Nodup ∧ 0 ∉ places cs)) : fin? vals cs = none := by
  refine if_neg fun ⟨a, b⟩ => h ⟨once_iff.mp a, fun z => ?_⟩
  rw [← List.contains_iff_mem, b] at z
  cases z
theorem fin?_some {vals : List Nat} {cs : List (Nat × Nat)} (h : (places cs).Nodup) (h0 : 0 ∉ places cs) : fin? vals cs = some (fin vals cs) := by
  refine if_pos ⟨once_iff.mpr h, ?_⟩
  rw [Bool.eq_false_iff, ne_eq, List.contains_iff_mem]
  exact h0
/-- all that pieces ask for is there -/
theorem cellsOf_in {vals names : List Nat} {most : Nat} : ∀ {t : Telling} {cs : List (Nat × Nat)} {p : Nat} {g : List (Nat × Nat)}, g ∈ cellsOf vals names most t cs p → ∃ m, (places g).Perm ((places cs ++ later vals t) ++ m)
  | [], cs, p, g, h => by
    rw [List.mem_singleton.mp h]
    exact ⟨[], by simp [later]⟩
  | .same x y :: t, cs, p, g, h => cellsOf_in (t := t) h
  | .differ x y :: t, cs, p, g, h => cellsOf_in (t := t) h
  | .cell x y :: t, cs, p, g, h => by
    obtain ⟨m, hm⟩ := cellsOf_in (t := t) (show g ∈ cellsOf vals names most t (cs ++ [(vals.getD x 0, vals.getD y 0)]) p from h)
    refine ⟨m, hm.trans (List.Perm.append_right _ (List.Perm.of_eq ?_))⟩
    simp [places, later, cellF, chainF]
  | .chain x y :: t, cs, p, g, h => by
    unfold cellsOf at h
    by_cases e : vals.getD x 0 = vals.getD y 0
    · rw [if_pos e] at h
      obtain ⟨m, hm⟩ := cellsOf_in (t := t) h
      have := later_eq (t := t) e
      exact ⟨m, by rw [this]; exact hm⟩
    · rw [if_neg e] at h
      obtain ⟨r, hr, h⟩ := List.mem_flatMap.mp h
      obtain ⟨v, l, e1⟩ := routes_head hr
      obtain ⟨m, hm⟩ := cellsOf_in (t := t) h
      have := later_ne (t := t) e
      refine ⟨places l ++ m, hm.trans ?_⟩
      rw [this, e1, show places (cs ++ (vals.getD x 0, v) :: l) = places cs ++ (vals.getD x 0 :: places l) by simp [places]]
      simp only [List.append_assoc, List.cons_append]
      refine List.Perm.append_left _ (List.Perm.cons _ ?_)
      rw [← List.append_assoc, ← List.append_assoc]
      exact List.Perm.append_right _ List.perm_append_comm
theorem fin_perm {vals : List Nat} {l m : List (Nat × Nat)} (h : l.Perm m) (n : (places l).Nodup) : fin vals l = fin vals m := by
  unfold fin
  congr 1
  have n' : (places m).Nodup := (List.Perm.map _ h).nodup_iff.mp n
  refine asc_unique (asc_fold _ Asc.nil) (asc_fold _ Asc.nil) fun x => ?_
  rw [← (like_fold n).at_, ← (like_fold n').at_]
  exact at_perm h n x
theorem filterMap_flatMap' {α β γ : Type} (l : List α) (g : α → List β) (f : β → Option γ) : (l.flatMap g).filterMap f = l.flatMap fun a => (g a).filterMap f := by
  induction l with
  | nil => rfl
  | cons a l ih => rw [List.flatMap_cons, List.filterMap_append, ih, List.flatMap_cons]
theorem map_flatMap' {α β γ : Type} (l : List α) (g : α → List β) (f : β → γ) : (l.flatMap g).map f = l.flatMap fun a => (g a).map f := by
  induction l with
  | nil => rfl
  | cons a l ih => rw [List.flatMap_cons, List.map_append, ih, List.flatMap_cons]
theorem row_worlds {vals : List Nat} {W most : Nat} {all : List Nat} (hW : 0 < W) : ∀ (t : Telling) (cs hp : List (Nat × Nat)) (p : Nat), hp.Perm (cs ++ cellsT vals t) → (places cs ++ later vals t).Nodup → (∀ x ∈ places cs ++ later vals t, x < p ∧ x ≠ 0) → W ≤ p →
    (∀ x ∈ later vals t, x ∈ all) → (∀ x ∈ all, x ∈ places cs ++ later vals t) →
    (cellsOf vals (List.range W) most t cs p).filterMap (fin? vals) = (gen ((List.range W).filter fun c => c != 0 && !all.contains c) most ((W + 1) * most + 1) (chainsT vals t) hp p).map (fin vals)
  | [], cs, hp, p, h1, h2, h3, h4, h5, h6 => by
    have e : later vals [] = [] := rfl
    rw [e, List.append_nil] at h2 h3
    have h1' : hp.Perm cs := by simpa [cellsT] using h1
    show [cs].filterMap (fin? vals) = [fin vals hp]
    rw [List.filterMap_cons, fin?_some h2 (fun z => (h3 0 z).2 rfl), ← fin_perm h1'.symm h2]
    rfl
  | .same x y :: t, cs, hp, p, h1, h2, h3, h4, h5, h6 => row_worlds hW t cs hp p h1 h2 h3 h4 h5 h6
  | .differ x y :: t, cs, hp, p, h1, h2, h3, h4, h5, h6 => row_worlds hW t cs hp p h1 h2 h3 h4 h5 h6
  | .cell x y :: t, cs, hp, p, h1, h2, h3, h4, h5, h6 => by
    have e : places cs ++ later vals (.cell x y :: t) = places (cs ++ [(vals.getD x 0, vals.getD y 0)]) ++ later vals t := by simp [places, later, cellF, chainF]
    rw [e] at h2 h3 h6
    refine row_worlds hW t (cs ++ [(vals.getD x 0, vals.getD y 0)]) hp p ?_ h2 h3 h4 (fun z hz => h5 z ?_) h6
    · rw [List.append_assoc]
      exact h1
    · show z ∈ places (cellF vals (.cell x y) ++ chainF vals (.cell x y)) ++ later vals t
      exact List.mem_append_right _ hz
  | .chain x y :: t, cs, hp, p, h1, h2, h3, h4, h5, h6 => by
    have e0 : cellsT vals (.chain x y :: t) = cellsT vals t := rfl
    rw [e0] at h1
    unfold cellsOf
    by_cases e : vals.getD x 0 = vals.getD y 0
    · have e1 := later_eq (t := t) e
      have e2 := chainsT_eq (t := t) e
      rw [e1] at h2 h3 h5 h6
      rw [if_pos e, e2]
      exact row_worlds hW t cs hp p h1 h2 h3 h4 h5 h6
    · have e1 := later_ne (t := t) e
      have e2 := chainsT_ne (t := t) e
      rw [e1] at h2 h3 h5 h6
      rw [if_neg e, e2, filterMap_flatMap', gen, map_flatMap']
      generalize hA : vals.getD x 0 = A at h2 h3 h5 h6 e ⊢
      generalize hB : vals.getD y 0 = B at e ⊢
      have hA0 : A < p ∧ A ≠ 0 := h3 A (by simp)
      obtain ⟨n1, n2, n3⟩ := List.nodup_append.mp h2
      obtain ⟨n4, n5⟩ := List.nodup_cons.mp n2
      have hl : (List.range W).length = W := List.length_range
      rw [hl, routes_prune (bad := fun c => (later vals t).contains c)]
      · rw [routes_names (q := fun c => c != 0 && !all.contains c)]
        · rw [List.filter_filter]
          have ef : ((List.range W).filter fun c => (c != 0 && !all.contains c) && !(later vals t).contains c) = (List.range W).filter fun c => c != 0 && !all.contains c := by
            refine List.filter_congr fun c _ => ?_
            cases ha : all.contains c with
            | true => simp
            | false =>
              have : c ∉ later vals t := by
                rw [Bool.eq_false_iff, ne_eq, List.contains_iff_mem] at ha
                exact fun z => ha (h5 c (by simp [z]))
              simp [this]
          rw [ef]
          have hpas : ∀ c ∈ (List.range W).filter (fun c => c != 0 && !all.contains c), c < W ∧ c ∉ all := fun c hc => by
            obtain ⟨q1, q2⟩ := List.mem_filter.mp hc
            simp only [Bool.and_eq_true, bne_iff_ne, ne_eq, Bool.not_eq_true', List.contains_eq_mem, decide_eq_false_iff_not] at q2
            exact ⟨List.mem_range.mp q1, q2.2⟩
          rw [routes_us (us' := A :: places hp)]
          · refine flatMap_congr_of fun r hr => ?_
            have hus : ∀ z ∈ A :: places hp, z < p := by
              intro z hz
              rcases List.mem_cons.mp hz with q | q
              · rw [q]; exact hA0.1
              · have := (List.Perm.map _ h1).mem_iff.mp q
                rw [List.map_append, List.mem_append] at this
                rcases this with q | q
                · exact (h3 z (List.mem_append_left _ q)).1
                · refine (h3 z (List.mem_append_right _ (List.mem_cons_of_mem _ ?_))).1
                  obtain ⟨c, hc, rfl⟩ := List.mem_map.mp q
                  obtain ⟨f, hf, hc⟩ := List.mem_flatMap.mp hc
                  exact List.mem_flatMap.mpr ⟨f, hf, List.mem_map.mpr ⟨c, List.mem_append_left _ hc, rfl⟩⟩
            obtain ⟨r1, v, l, r2, r3, r4⟩ := routes_in hr (fun c hc => Nat.lt_of_lt_of_le (hpas c hc).1 h4) hus (by omega)
            · have hx : ∀ z ∈ places l, z ∉ places cs ∧ z ≠ A ∧ z ∉ later vals t := fun z hz => by
                obtain ⟨q1, q2, q3, q4⟩ := r4 z hz
                have q5 : z ∉ places cs := fun y => by
                  refine q1 (List.mem_cons_of_mem _ ?_)
                  exact (List.Perm.map _ h1).mem_iff.mpr (by simp only [List.map_append]; exact List.mem_append_left _ y)
                refine ⟨q5, fun y => q1 (by simp [y]), fun y => ?_⟩
                rcases q4 with q4 | q4
                · exact (hpas z q4).2 (h5 z (by simp [y]))
                · have := (h3 z (by simp [y])).1
                  omega
              have ep : places (cs ++ r.1) ++ later vals t = places cs ++ (A :: (places l ++ later vals t)) := by
                rw [r2]
                simp [places]
              refine row_worlds hW t (cs ++ r.1) (hp ++ r.1) r.2 ?_ ?_ ?_ (Nat.le_trans h4 r1) (fun z hz => h5 z (by simp [hz])) (fun z hz => ?_)
              · refine (List.Perm.append_right _ h1).trans ?_
                rw [List.append_assoc, List.append_assoc]
                exact List.Perm.append_left _ List.perm_append_comm
              · rw [ep, List.nodup_append]
                refine ⟨n1, List.nodup_cons.mpr ⟨fun z => ?_, List.nodup_append.mpr ⟨r3, n5, fun z hz y hy => ?_⟩⟩, fun z hz y hy => ?_⟩
                · rcases List.mem_append.mp z with z | z
                  · exact (hx A z).2.1 rfl
                  · exact n4 z
                · exact fun q => (hx z hz).2.2 (q ▸ hy)
                · rcases List.mem_cons.mp hy with q | q
                  · exact n3 z hz y (by simp [q])
                  · rcases List.mem_append.mp q with q | q
                    · exact fun q' => (hx y q).1 (q' ▸ hz)
                    · exact n3 z hz y (by simp [q])
              · intro z hz
                rw [ep] at hz
                rcases List.mem_append.mp hz with q | q
                · have := h3 z (by simp [q])
                  exact ⟨by omega, this.2⟩
                · rcases List.mem_cons.mp q with q | q
                  · rw [q]
                    exact ⟨by omega, hA0.2⟩
                  · rcases List.mem_append.mp q with q | q
                    · exact ⟨(r4 z q).2.1, (r4 z q).2.2.1⟩
                    · have := h3 z (by simp [q])
                      exact ⟨by omega, this.2⟩
              · rw [ep]
                have := h6 z hz
                simp only [List.mem_append, List.mem_cons] at this ⊢
                rcases this with q | q | q
                · exact .inl q
                · exact .inr (.inl q)
                · exact .inr (.inr (.inr q))
          · intro c hc
            have hc2 := (hpas c hc).2
            rw [List.mem_cons, List.mem_cons]
            refine or_congr Iff.rfl ⟨fun q => (List.Perm.map _ h1).mem_iff.mpr (by rw [List.map_append]; exact List.mem_append_left _ q), fun q => ?_⟩
            have := (List.Perm.map _ h1).mem_iff.mp q
            rw [List.map_append, List.mem_append] at this
            rcases this with q | q
            · exact q
            · refine absurd (h5 c (List.mem_cons_of_mem _ ?_)) hc2
              obtain ⟨d, hd, rfl⟩ := List.mem_map.mp q
              obtain ⟨f, hf, hd⟩ := List.mem_flatMap.mp hd
              exact List.mem_flatMap.mpr ⟨f, hf, List.mem_map.mpr ⟨d, List.mem_append_left _ hd, rfl⟩⟩
        · intro c hc hq
          obtain ⟨_, q2⟩ := List.mem_filter.mp hc
          by_cases c0 : c = 0
          · exact .inl c0
          · refine .inr ?_
            have ha : c ∈ all := by
              have : (c != 0) = true := by simpa using c0
              rw [this, Bool.true_and] at hq
              simpa using hq
            have hb : c ∉ later vals t := by simpa using q2
            have := h6 c ha
            simp only [List.mem_append, List.mem_cons] at this ⊢
            rcases this with q | q | q
            · exact .inr q
            · exact .inl q
            · exact absurd q hb
      · rintro r ⟨z, hz, hb⟩
        refine List.filterMap_eq_nil_iff.mpr fun g hg => fin?_none fun ⟨nd, _⟩ => ?_
        obtain ⟨m, hm⟩ := cellsOf_in hg
        have := (List.nodup_append.mp ((hm.nodup_iff).mp nd)).1
        have hz1 : z ∈ places (cs ++ r.1) := by
          rw [show places (cs ++ r.1) = places cs ++ places r.1 by simp [places]]
          exact List.mem_append_right _ hz
        exact (List.nodup_append.mp this).2.2 z hz1 z (List.contains_iff_mem.mp hb) rfl
end Ph
namespace Ph
open Sm11
/-! ### rows of names -/
def wd (m : Nat) (l : List Nat) : Nat := l.foldl (fun m x => max m (x + 1)) m
theorem kinds_succ : ∀ (n m : Nat), kinds (n + 1) m = (kinds n m).flatMap fun l => (List.range (wd m l + 1)).map fun x => l ++ [x]
  | 0, m => by
    show (List.range (m + 1)).flatMap (fun x => [[]].map fun l => x :: l) = [[]].flatMap fun l => (List.range (wd m l + 1)).map fun x => l ++ [x]
    simp [wd, ← List.map_eq_flatMap]
  | n + 1, m => by
    rw [kinds]
    conv => rhs; rw [kinds]
    rw [List.flatMap_assoc]
    refine flatMap_congr_of fun x _ => ?_
    rw [kinds_succ n, map_flatMap', List.flatMap_map]
    refine flatMap_congr_of fun l _ => ?_
    rw [List.map_map]
    rfl
def rows : Nat → List (List Nat)
  | 0 => [[0]]
  | n + 1 => (rows n).flatMap fun r => (List.range (width r + 1)).map fun x => r ++ [x]
theorem rows_kinds : ∀ n, rows n = (kinds n 1).map fun k => 0 :: k
  | 0 => rfl
  | n + 1 => by
    rw [rows, rows_kinds n, kinds_succ, map_flatMap', List.flatMap_map]
    refine flatMap_congr_of fun l _ => ?_
    rw [List.map_map]
    rfl
theorem rows_in : ∀ {n : Nat} {r : List Nat}, r ∈ rows n → r.length = n + 1 ∧ r.getD 0 0 = 0 ∧ 0 ∈ r ∧ ∀ x ∈ r, x ≤ n
  | 0, r, h => by
    rw [List.mem_singleton.mp h]
    simp
  | n + 1, r, h => by
    obtain ⟨q, hq, h⟩ := List.mem_flatMap.mp h
    obtain ⟨x, hx, rfl⟩ := List.mem_map.mp h
    obtain ⟨a, b, c, d⟩ := rows_in hq
    have hw : width q ≤ n + 1 := by
      obtain ⟨_, _, r⟩ := fold_max q 0
      rcases r with r | ⟨y, hy, r⟩
      · show List.foldl _ 0 q ≤ _
        omega
      · have := d y hy
        show List.foldl _ 0 q ≤ _
        omega
    have hx := List.mem_range.mp hx
    refine ⟨by simp [a], ?_, by simp [c], fun y hy => ?_⟩
    · cases q with
      | nil => simp at a
      | cons z q => exact b
    · rcases List.mem_append.mp hy with z | z
      · exact Nat.le_succ_of_le (d y z)
      · rw [List.mem_singleton.mp z]
        omega
theorem rows_len {n : Nat} (h : n ≤ 4) : (rows n).length ≤ 52 := by
  match n, h with
  | 0, _ => decide
  | 1, _ => decide
  | 2, _ => decide
  | 3, _ => decide
  | 4, _ => decide +kernel
theorem width_pos {vals : List Nat} (h : 0 ∈ vals) : 0 < width vals := (fold_max vals 0).2.1 0 h
theorem getD_mem (vals : List Nat) (h : 0 ∈ vals) (x : Nat) : vals.getD x 0 ∈ vals := by
  rw [List.getD_eq_getElem?_getD]
  cases e : vals[x]? with
  | none => exact h
  | some v => exact List.mem_of_getElem? e
theorem getD_lt (vals : List Nat) (h : 0 ∈ vals) (x : Nat) : vals.getD x 0 < width vals := (fold_max vals 0).2.1 _ (getD_mem vals h x)
/-! ### all plain worlds -/
def canBe (t : Telling) (vals : List Nat) : Bool := t.all (plainSo ⟨vals, []⟩) && (!(firsts vals t).contains 0 && once (firsts vals t))
def pasOf (vals : List Nat) (t : Telling) : List Nat := (List.range (width vals)).filter fun c => c != 0 && !(firsts vals t).contains c
def fuel (vals : List Nat) (most : Nat) : Nat := (width vals + 1) * most + 1
def rowGen (t : Telling) (most : Nat) (vals : List Nat) : List (List (Nat × Nat)) := gen (pasOf vals t) most (fuel vals most) (chainsT vals t) (cellsT vals t) (width vals)
theorem later_lt {vals : List Nat} (h : 0 ∈ vals) {t : Telling} : ∀ x ∈ later vals t, x < width vals := by
  intro x hx
  obtain ⟨f, _, hx⟩ := List.mem_flatMap.mp hx
  obtain ⟨c, hc, rfl⟩ := List.mem_map.mp hx
  cases f with
  | same a b => simp [cellF, chainF] at hc
  | differ a b => simp [cellF, chainF] at hc
  | cell a b =>
    have : c = (vals.getD a 0, vals.getD b 0) := List.mem_singleton.mp hc
    rw [this]
    exact getD_lt vals h a
  | chain a b =>
    have hc : c ∈ (if vals.getD a 0 = vals.getD b 0 then [] else [(vals.getD a 0, vals.getD b 0)]) := hc
    split at hc
    · cases hc
    · rw [List.mem_singleton.mp hc]
      exact getD_lt vals h a
theorem canBe_iff {t : Telling} {vals : List Nat} : canBe t vals = true ↔ (∀ f ∈ t, plainSo ⟨vals, []⟩ f = true) ∧ 0 ∉ firsts vals t ∧ (firsts vals t).Nodup := by
  unfold canBe
  rw [Bool.and_eq_true, Bool.and_eq_true, once_iff, List.all_eq_true]
  simp
theorem worlds_eq (n : Nat) (t : Telling) (most : Nat) : worlds n t most = ((rows n).filter (canBe t)).flatMap fun vals => (rowGen t most vals).map (fin vals) := by
  have e0 : worlds n t most = (rows n).flatMap fun vals => if t.all (plainSo ⟨vals, []⟩) = false then [] else (cellsOf vals (List.range (width vals)) most t [] (width vals)).filterMap (fin? vals) := by
    rw [rows_kinds, List.flatMap_map]
    rfl
  rw [e0, flatMap_filter_of (q := canBe t)]
  · refine flatMap_congr_of fun vals hv => ?_
    obtain ⟨hr, hc⟩ := List.mem_filter.mp hv
    obtain ⟨c1, c2, c3⟩ := canBe_iff.mp hc
    have h0 : 0 ∈ vals := (rows_in hr).2.2.1
    have hp := firsts_perm vals t
    rw [if_neg (by
      rw [Bool.not_eq_false]
      exact List.all_eq_true.mpr c1)]
    refine row_worlds (W := width vals) (all := firsts vals t) (width_pos h0) t [] (cellsT vals t) (width vals) (List.Perm.refl _) ?_ ?_ (Nat.le_refl _) ?_ ?_
    · exact hp.nodup_iff.mp c3
    · intro x hx
      exact ⟨later_lt h0 x hx, fun z => c2 (hp.mem_iff.mpr (z ▸ hx))⟩
    · exact fun x hx => hp.mem_iff.mpr hx
    · exact fun x hx => hp.mem_iff.mp hx
  · intro vals hr hc
    split
    · rfl
    · rename_i hall
      rw [Bool.not_eq_false] at hall
      refine List.filterMap_eq_nil_iff.mpr fun g hg => fin?_none fun ⟨nd, n0⟩ => ?_
      obtain ⟨m, hm⟩ := cellsOf_in hg
      have hp := firsts_perm vals t
      have h1 := (List.nodup_append.mp ((hm.nodup_iff).mp nd)).1
      have : canBe t vals = true := canBe_iff.mpr ⟨List.all_eq_true.mp hall, fun z => n0 (hm.mem_iff.mpr (List.mem_append_left _ (hp.mem_iff.mp z))), hp.nodup_iff.mpr h1⟩
      rw [this] at hc
      cases hc
/-! ### going on from world to world -/
def nx (a p : Nat) : Nat := if a = p then p + 1 else p
def aft (pas : List Nat) (e : Nat) (us : List Nat) (W most run p v : Nat) : List Nat :=
  if W ≤ v then [] else (if v = e then opts pas e us else (opts pas e us).filter fun c => decide (v < c)) ++ (if run < most then [p] else [])
def cont (pas : List Nat) (Cs : List (Nat × Nat)) (W most fu : Nat) (hp : List (Nat × Nat)) (i a run e f p v : Nat) : List (List (Nat × Nat)) :=
  (aft pas e (a :: places hp) W most run p v).flatMap fun c => (routes pas e most f c (if c = p then run + 1 else 1) (c :: a :: places hp) (nx c p)).flatMap fun r => gen pas most fu (Cs.drop (i + 1)) (hp ++ (a, c) :: r.1) r.2
/-- how many cells more there can be -/
def mu (pas us : List Nat) (most run : Nat) : Nat := (pas.filter fun c => !us.contains c).length * most + (most - run)
structure Lawn (pas : List Nat) (Cs hp0 : List (Nat × Nat)) (W most fu : Nat) : Prop where
  asc : pas.Pairwise (· < ·)
  pasW : ∀ c ∈ pas, c < W ∧ c ≠ 0
  csW : ∀ c ∈ Cs, c.1 < W ∧ c.2 < W ∧ c.1 ∉ pas
  nd : (places hp0 ++ places Cs).Nodup
  h0W : ∀ x ∈ places hp0, x < W
  m1 : 1 ≤ most
  fu : (W + 1) * most + 1 ≤ fu
inductive Laid (pas : List Nat) (Cs hp0 : List (Nat × Nat)) (W most fu : Nat) : List (Nat × Nat × Nat) → List (Nat × Nat) → Nat → List (List (Nat × Nat)) → Prop
  | nil : Laid pas Cs hp0 W most fu [] hp0 W []
  | cons {st : List (Nat × Nat × Nat)} {hp : List (Nat × Nat)} {p : Nat} {rem : List (List (Nat × Nat))} {i a run v f : Nat} {c : Nat × Nat} : Laid pas Cs hp0 W most fu st hp p rem → Cs[i]? = some c → a ∉ places hp → (a = p ∨ a < W) →
      (∀ j d, i < j → Cs[j]? = some d → d.1 ∉ places hp ∧ d.1 ≠ a) → mu pas (a :: places hp) most run ≤ f → (v = c.2 ∨ v ∈ opts pas c.2 (a :: places hp) ∨ v = nx a p) →
      hp.length + 1 + mu pas (a :: places hp) most run + (Cs.length - (i + 1)) * most ≤ hp0.length + (pas.length + Cs.length) * most →
      Laid pas Cs hp0 W most fu ((i, a, run) :: st) (hp ++ [(a, v)]) (nx a p) (cont pas Cs W most fu hp i a run c.2 f (nx a p) v ++ rem)
section
variable {pas : List Nat} {Cs hp0 : List (Nat × Nat)} {W most fu : Nat} {st : List (Nat × Nat × Nat)} {hp : List (Nat × Nat)} {p : Nat} {rem : List (List (Nat × Nat))}
theorem Laid.fresh (L : Lawn pas Cs hp0 W most fu) (h : Laid pas Cs hp0 W most fu st hp p rem) : W ≤ p ∧ (places hp).Nodup ∧ ∀ x ∈ places hp, x < p := by
  induction h with
  | nil => exact ⟨Nat.le_refl _, (List.nodup_append.mp L.nd).1, L.h0W⟩
  | @cons st hp p rem i a run v f c _ _ ha hw _ _ _ _ ih =>
    obtain ⟨i1, i2, i3⟩ := ih
    have e : places (hp ++ [(a, v)]) = places hp ++ [a] := by simp [places]
    rw [e]
    have hnx : p ≤ nx a p ∧ a < nx a p := by
      unfold nx
      split <;> omega
    refine ⟨by omega, List.nodup_append.mpr ⟨i2, by simp, fun x hx y hy => ?_⟩, fun x hx => ?_⟩
    · rw [List.mem_singleton.mp hy]
      exact fun z => ha (z ▸ hx)
    · rcases List.mem_append.mp hx with z | z
      · have := i3 x z
        omega
      · rw [List.mem_singleton.mp z]
        exact hnx.2
theorem Laid.len (h : Laid pas Cs hp0 W most fu st hp p rem) : hp.length ≤ hp0.length + (pas.length + Cs.length) * most := by
  cases h with
  | nil => exact Nat.le_add_right _ _
  | cons _ _ _ _ _ _ _ hb =>
    rw [List.length_append, List.length_cons, List.length_nil]
    omega
theorem mu_le (us : List Nat) (run : Nat) : mu pas us most run ≤ pas.length * most + (most - run) := by
  unfold mu
  have := Nat.mul_le_mul_right most (List.length_filter_le (fun c => !us.contains c) pas)
  omega
theorem mu_next {us us' : List Nat} (h : ∀ x ∈ pas, x ∈ us' → x ∈ us) (hm : 1 ≤ most) (run : Nat) : mu pas us most 1 + 1 ≤ mu pas us' most run + most := by
  unfold mu
  have h1 : (pas.filter fun c => !us.contains c).length ≤ (pas.filter fun c => !us'.contains c).length := by
    have : (pas.filter fun c => !us.contains c) = (pas.filter fun c => !us'.contains c).filter fun c => !us.contains c := by
      rw [List.filter_filter]
      refine List.filter_congr fun x hx => ?_
      by_cases z : x ∈ us'
      · simp [h x hx z]
      · simp [z]
    rw [this]
    exact List.length_filter_le _ _
  have h2 := Nat.mul_le_mul_right most h1
  omega
theorem routes_unroll {β : Type} {e f a run : Nat} {us : List Nat} (hpas : ∀ c ∈ pas, c < W) (he : e < W) (hp : W ≤ p) (K : List (Nat × Nat) × Nat → List β) :
    (routes pas e most (f + 1) a run us p).flatMap K = K ([(a, e)], p) ++ (aft pas e us W most run p e).flatMap fun c => (routes pas e most f c (if c = p then run + 1 else 1) (c :: us) (nx c p)).flatMap fun r => K ((a, c) :: r.1, r.2) := by
  have ha : aft pas e us W most run p e = opts pas e us ++ (if run < most then [p] else []) := by
    rw [aft, if_neg (by omega : ¬ W ≤ e), if_pos rfl]
  rw [routes_succ, List.flatMap_append, List.flatMap_append, ha, List.flatMap_append, ← List.append_assoc]
  congr 1
  · rw [List.flatMap_cons, List.flatMap_nil, List.append_nil, List.flatMap_assoc]
    congr 1
    refine flatMap_congr_of fun c hc => ?_
    have hc2 := hpas c (mem_opts.mp hc).1
    have hne : ¬ c = p := by omega
    rw [List.flatMap_map, if_neg hne, nx, if_neg hne]
  · by_cases hr : run < most
    · rw [if_pos hr, if_pos hr, List.flatMap_map]
      simp [nx]
    · rw [if_neg hr, if_neg hr]
      rfl
/-- a chain's first cell -/
theorem Laid.lay (L : Lawn pas Cs hp0 W most fu) (h : Laid pas Cs hp0 W most fu st hp p rem) {i : Nat} {c : Nat × Nat} (hi : Cs[i]? = some c) (hix : ∀ i0 a0 r0 st', st = (i0, a0, r0) :: st' → i0 < i) (hu : ∀ j d, i ≤ j → Cs[j]? = some d → d.1 ∉ places hp) :
    ∃ rem', Laid pas Cs hp0 W most fu ((i, c.1, 1) :: st) (hp ++ [(c.1, c.2)]) p rem' ∧ gen pas most fu (Cs.drop i) hp p ++ rem = gen pas most fu (Cs.drop (i + 1)) (hp ++ [(c.1, c.2)]) p ++ rem' ∧
      ∀ j d, i + 1 ≤ j → Cs[j]? = some d → d.1 ∉ places (hp ++ [(c.1, c.2)]) := by
  obtain ⟨f1, f2, f3⟩ := h.fresh L
  obtain ⟨w1, w2, w3⟩ := L.csW c (List.mem_of_getElem? hi)
  have hne : ¬ c.1 = p := by omega
  have hnx : nx c.1 p = p := if_neg hne
  have hlt : i < Cs.length := (List.getElem?_eq_some_iff.mp hi).1
  have hd : ∀ j d, i < j → Cs[j]? = some d → d.1 ≠ c.1 := fun j d hj hjd z => by
    have nd := (List.nodup_append.mp L.nd).2.1
    have e1 : (places Cs)[j]? = some d.1 := by simp [places, hjd]
    have e2 : (places Cs)[i]? = some c.1 := by simp [places, hi]
    rw [z] at e1
    obtain ⟨l1, g1⟩ := List.getElem?_eq_some_iff.mp e1
    obtain ⟨l2, g2⟩ := List.getElem?_eq_some_iff.mp e2
    exact List.pairwise_iff_getElem.mp nd i j l2 l1 hj (g2.trans g1.symm)
  have hfu : ∃ f, fu = f + 1 ∧ mu pas (c.1 :: places hp) most 1 ≤ f := by
    refine ⟨fu - 1, ?_, ?_⟩
    · have := L.fu
      have : 0 < fu := by omega
      omega
    · have h1 : (pas.filter fun x => !(c.1 :: places hp).contains x).length ≤ W := by
        refine Nat.le_trans (List.length_filter_le _ _) ?_
        have := nodup_le (l := pas) (m := List.range W) (List.Pairwise.imp (fun q => Nat.ne_of_lt q) L.asc) fun x hx => List.mem_range.mpr (L.pasW x hx).1
        rwa [List.length_range] at this
      have h2 := Nat.mul_le_mul_right most h1
      have h3 := L.fu
      have h4 : (W + 1) * most = W * most + most := Nat.succ_mul W most
      unfold mu
      omega
  obtain ⟨f, rfl, hmu⟩ := hfu
  have hb : hp.length + 1 + mu pas (c.1 :: places hp) most 1 + (Cs.length - (i + 1)) * most ≤ hp0.length + (pas.length + Cs.length) * most := by
    have hm := L.m1
    have e1 : (Cs.length - (i + 1)) * most + most = (Cs.length - i) * most := by
      rw [← Nat.succ_mul]
      congr 1
      omega
    cases h with
    | nil =>
      have := mu_le (pas := pas) (most := most) (c.1 :: places hp0) 1
      have h1 : (Cs.length - i) * most ≤ Cs.length * most := Nat.mul_le_mul_right most (Nat.sub_le _ _)
      rw [Nat.add_mul]
      omega
    | @cons st' hp' p' rem' i0 a0 run0 v0 f0 c0 _ _ _ _ _ _ _ hb0 =>
      have hlt0 := hix i0 a0 run0 st' rfl
      have h1 : (Cs.length - i) * most ≤ (Cs.length - (i0 + 1)) * most := Nat.mul_le_mul_right most (by omega)
      have h2 := mu_next (pas := pas) (us := c.1 :: places (hp' ++ [(a0, v0)])) (us' := a0 :: places hp') (most := most) (fun x _ hx => by
        rw [show places (hp' ++ [(a0, v0)]) = places hp' ++ [a0] by simp [places]]
        simp only [List.mem_cons, List.mem_append, List.not_mem_nil, or_false] at hx ⊢
        exact .inr hx.symm) hm run0
      rw [List.length_append, List.length_cons, List.length_nil]
      omega
  have := Laid.cons (run := 1) (v := c.2) (f := f) h hi (hu i c (Nat.le_refl _) hi) (.inr w1) (fun j d hj hjd => ⟨hu j d (Nat.le_of_lt hj) hjd, hd j d hj hjd⟩) hmu (.inl rfl) hb
  rw [hnx] at this
  refine ⟨_, this, ?_, fun j d hj hjd => ?_⟩
  · rw [List.drop_eq_getElem_cons hlt, (List.getElem?_eq_some_iff.mp hi).2, gen, routes_unroll (W := W) (fun x hx => (L.pasW x hx).1) w2 f1, List.append_assoc]
    rfl
  · rw [show places (hp ++ [(c.1, c.2)]) = places hp ++ [c.1] by simp [places], List.mem_append, List.mem_singleton]
    rintro (z | z)
    · exact hu j d (by omega) hjd z
    · exact hd j d hj hjd z
theorem aft_next {e run v c : Nat} {us tl : List Nat} (L : Lawn pas Cs hp0 W most fu) (he : e < W) (hp : W ≤ p) (h : aft pas e us W most run p v = c :: tl) (hv : v = e ∨ v ∈ opts pas e us ∨ W ≤ v) :
    aft pas e us W most run p c = tl ∧ (c ∈ opts pas e us ∨ (c = p ∧ run < most)) := by
  unfold aft at h
  by_cases hw : W ≤ v
  · rw [if_pos hw] at h
    cases h
  rw [if_neg hw] at h
  have asc : (opts pas e us).Pairwise (· < ·) := List.Pairwise.sublist List.filter_sublist L.asc
  have key : ∀ (l : List Nat), l.Pairwise (· < ·) → (∀ x ∈ l, x ∈ opts pas e us) → (∀ x ∈ opts pas e us, x ∈ l ∨ ∀ y ∈ l, x < y) → l ++ (if run < most then [p] else []) = c :: tl → aft pas e us W most run p c = tl ∧ (c ∈ opts pas e us ∨ (c = p ∧ run < most)) := by
    intro l hl hsub hall hh
    cases l with
    | nil =>
      rw [List.nil_append] at hh
      by_cases hr : run < most
      · rw [if_pos hr] at hh
        injection hh with h1 h2
        subst h1 h2
        exact ⟨if_pos hp, .inr ⟨rfl, hr⟩⟩
      · rw [if_neg hr] at hh
        cases hh
    | cons x l =>
      injection hh with h1 h2
      subst h1
      have hx := hsub x (by simp)
      obtain ⟨o1, o2, o3, o4⟩ := mem_opts.mp hx
      have hxW := (L.pasW x o1).1
      refine ⟨?_, .inl hx⟩
      rw [← h2, aft, if_neg (by omega), if_neg o3]
      congr 1
      have hl' := List.pairwise_cons.mp hl
      refine asc_eq (List.Pairwise.sublist List.filter_sublist asc) hl'.2 fun y => ?_
      rw [List.mem_filter, decide_eq_true_iff]
      constructor
      · rintro ⟨q1, q2⟩
        rcases hall y q1 with z | z
        · rcases List.mem_cons.mp z with z | z
          · omega
          · exact z
        · have := z x (by simp)
          omega
      · intro q
        exact ⟨hsub y (by simp [q]), hl'.1 y q⟩
  by_cases hve : v = e
  · rw [if_pos hve] at h
    exact key _ asc (fun x hx => hx) (fun x hx => .inl hx) h
  · rw [if_neg hve] at h
    refine key _ (List.Pairwise.sublist List.filter_sublist asc) (fun x hx => (List.mem_filter.mp hx).1) (fun x hx => ?_) h
    by_cases q : v < x
    · exact .inl (List.mem_filter.mpr ⟨hx, by simpa using q⟩)
    · refine .inr fun y hy => ?_
      have : v < y := by simpa using (List.mem_filter.mp hy).2
      omega
theorem mu_name {us : List Nat} {run c : Nat} (hm : 1 ≤ most) (hc : c ∈ pas) (hu : c ∉ us) : mu pas (c :: us) most 1 + 1 ≤ mu pas us most run := by
  unfold mu
  have h1 : (pas.filter fun x => !(c :: us).contains x).length + 1 ≤ (pas.filter fun x => !us.contains x).length := by
    have e : (pas.filter fun x => !(c :: us).contains x) = (pas.filter fun x => !us.contains x).filter fun x => x != c := by
      rw [List.filter_filter]
      refine List.filter_congr fun x _ => ?_
      by_cases z : x = c <;> simp [z]
    rw [e]
    have hmem : c ∈ pas.filter fun x => !us.contains x := List.mem_filter.mpr ⟨hc, by simpa using hu⟩
    generalize pas.filter (fun x => !us.contains x) = l at hmem ⊢
    clear e
    induction l with
    | nil => cases hmem
    | cons y l ih =>
      by_cases z : y = c
      · rw [List.filter_cons, if_neg (by simp [z]), List.length_cons]
        have := List.length_filter_le (fun x => x != c) l
        omega
      · rw [List.filter_cons, if_pos (by simpa using z), List.length_cons, List.length_cons]
        rcases List.mem_cons.mp hmem with q | q
        · exact absurd q.symm z
        · have := ih q
          omega
  have h2 := Nat.mul_le_mul_right most h1
  rw [Nat.succ_mul] at h2
  omega
theorem mu_free {us : List Nat} {run c : Nat} (hc : c ∉ pas) (hr : run < most) : mu pas (c :: us) most (run + 1) + 1 ≤ mu pas us most run := by
  unfold mu
  have e : (pas.filter fun x => !(c :: us).contains x) = pas.filter fun x => !us.contains x := by
    refine List.filter_congr fun x hx => ?_
    have : ¬ x = c := fun z => hc (z ▸ hx)
    simp [this]
  rw [e]
  omega
/-- the last cell holds what's next -/
theorem Laid.turn (L : Lawn pas Cs hp0 W most fu) {i a run : Nat} {hp' : List (Nat × Nat)} {p' : Nat} {rem' : List (List (Nat × Nat))} (h : Laid pas Cs hp0 W most fu ((i, a, run) :: st) hp' p' rem') :
    ∃ hp v c p rem, hp' = hp ++ [(a, v)] ∧ Cs[i]? = some c ∧ p' = nx a p ∧ a ∉ places hp ∧ (a = p ∨ a < W) ∧ W ≤ p ∧ c.2 < W ∧ (v = c.2 ∨ v ∈ opts pas c.2 (a :: places hp) ∨ v = p') ∧
      ((aft pas c.2 (a :: places hp) W most run p' v = [] ∧ Laid pas Cs hp0 W most fu st hp p rem ∧ rem' = rem) ∨
       ∃ n tl rem2, aft pas c.2 (a :: places hp) W most run p' v = n :: tl ∧ n ∉ places (hp ++ [(a, n)]) ∧
        Laid pas Cs hp0 W most fu ((i, n, if n = p' then run + 1 else 1) :: (i, a, run) :: st) ((hp ++ [(a, n)]) ++ [(n, c.2)]) (nx n p') rem2 ∧
        rem' = gen pas most fu (Cs.drop (i + 1)) ((hp ++ [(a, n)]) ++ [(n, c.2)]) (nx n p') ++ rem2 ∧
        ∀ j d, i + 1 ≤ j → Cs[j]? = some d → d.1 ∉ places ((hp ++ [(a, n)]) ++ [(n, c.2)])) := by
  cases h with
  | @cons _ hp p rem _ _ _ v f c hL hi ha hw hu hmu hv hb =>
    obtain ⟨f1, f2, f3⟩ := hL.fresh L
    obtain ⟨w1, w2, w3⟩ := L.csW c (List.mem_of_getElem? hi)
    have hnx : p ≤ nx a p ∧ a < nx a p := by
      unfold nx
      split <;> omega
    refine ⟨hp, v, c, p, rem, rfl, hi, rfl, ha, hw, f1, w2, hv, ?_⟩
    cases e : aft pas c.2 (a :: places hp) W most run (nx a p) v with
    | nil =>
      refine .inl ⟨rfl, hL, ?_⟩
      rw [cont, e]
      rfl
    | cons n tl =>
      refine .inr ⟨n, tl, ?_⟩
      obtain ⟨e2, hn⟩ := aft_next L w2 (by omega : W ≤ nx a p) e (hv.imp id (Or.imp id fun z => by omega))
      have hn1 : n ∉ a :: places hp := by
        rcases hn with z | ⟨z, _⟩
        · exact (mem_opts.mp z).2.2.2
        · intro y
          rw [z] at y
          rcases List.mem_cons.mp y with y | y
          · omega
          · have := f3 _ y
            omega
      have hn2 : n = nx a p ∨ n < W := by
        rcases hn with z | ⟨z, _⟩
        · exact .inr (L.pasW n (mem_opts.mp z).1).1
        · exact .inl z
      have hpl : places (hp ++ [(a, n)]) = places hp ++ [a] := by simp [places]
      have hn3 : n ∉ places (hp ++ [(a, n)]) := by
        rw [hpl]
        intro y
        apply hn1
        simp only [List.mem_append, List.mem_cons, List.not_mem_nil, or_false] at y ⊢
        exact y.symm
      have hL2 := Laid.cons (v := n) (f := f) hL hi ha hw hu hmu (.inr (hn.imp id (·.1))) hb
      have hmu2 : mu pas (n :: a :: places hp) most (if n = nx a p then run + 1 else 1) + 1 ≤ f := by
        rcases hn with z | ⟨z, hr⟩
        · obtain ⟨o1, o2, o3, o4⟩ := mem_opts.mp z
          have := (L.pasW n o1).1
          rw [if_neg (by omega)]
          exact Nat.le_trans (mu_name L.m1 o1 o4) hmu
        · rw [if_pos z]
          refine Nat.le_trans (mu_free (fun q => ?_) hr) hmu
          have := (L.pasW n q).1
          omega
      have hmu4 : mu pas (n :: a :: places hp) most (if n = nx a p then run + 1 else 1) + 1 ≤ mu pas (a :: places hp) most run := by
        rcases hn with z | ⟨z, hr⟩
        · obtain ⟨o1, o2, o3, o4⟩ := mem_opts.mp z
          have := (L.pasW n o1).1
          rw [if_neg (by omega)]
          exact mu_name L.m1 o1 o4
        · rw [if_pos z]
          refine mu_free (fun q => ?_) hr
          have := (L.pasW n q).1
          omega
      obtain ⟨g, rfl⟩ : ∃ g, f = g + 1 := ⟨f - 1, by omega⟩
      have hperm : ∀ x, x ∈ n :: a :: places hp ↔ x ∈ n :: places (hp ++ [(a, n)]) := by
        intro x
        rw [hpl]
        simp only [List.mem_append, List.mem_cons, List.not_mem_nil, or_false]
        constructor
        · rintro (z | z | z)
          · exact .inl z
          · exact .inr (.inr z)
          · exact .inr (.inl z)
        · rintro (z | z | z)
          · exact .inl z
          · exact .inr (.inr z)
          · exact .inr (.inl z)
      have hmu5 : mu pas (n :: places (hp ++ [(a, n)])) most (if n = nx a p then run + 1 else 1) = mu pas (n :: a :: places hp) most (if n = nx a p then run + 1 else 1) := by
        unfold mu
        congr 3
        refine List.filter_congr fun x _ => ?_
        rw [show (n :: places (hp ++ [(a, n)])).contains x = (n :: a :: places hp).contains x by
          rw [Bool.eq_iff_iff, List.contains_iff_mem, List.contains_iff_mem]
          exact (hperm x).symm]
      have hmu3 : mu pas (n :: places (hp ++ [(a, n)])) most (if n = nx a p then run + 1 else 1) ≤ g := by
        have : mu pas (n :: places (hp ++ [(a, n)])) most (if n = nx a p then run + 1 else 1) = mu pas (n :: a :: places hp) most (if n = nx a p then run + 1 else 1) := by
          unfold mu
          congr 3
          refine List.filter_congr fun x _ => ?_
          rw [show (n :: places (hp ++ [(a, n)])).contains x = (n :: a :: places hp).contains x by
            rw [Bool.eq_iff_iff, List.contains_iff_mem, List.contains_iff_mem]
            exact (hperm x).symm]
        omega
      have hun : ∀ j d, i < j → Cs[j]? = some d → d.1 ∉ places (hp ++ [(a, n)]) ∧ d.1 ≠ n := by
        intro j d hj hjd
        obtain ⟨u1, u2⟩ := hu j d hj hjd
        obtain ⟨d1, d2, d3⟩ := L.csW d (List.mem_of_getElem? hjd)
        refine ⟨?_, fun z => ?_⟩
        · rw [hpl, List.mem_append, List.mem_singleton]
          rintro (z | z)
          · exact u1 z
          · exact u2 z
        · rcases hn with y | ⟨y, _⟩
          · exact d3 (z ▸ (mem_opts.mp y).1)
          · omega
      have hL3 := Laid.cons (v := c.2) (f := g) hL2 hi hn3 hn2 hun hmu3 (.inl rfl) (by
        rw [List.length_append, List.length_cons, List.length_nil, hmu5]
        omega)
      refine ⟨_, rfl, hn3, hL3, ?_, fun j d hj hjd => ?_⟩
      · rw [← List.append_assoc, ← List.append_assoc]
        congr 1
        rw [cont, e, List.flatMap_cons]
        congr 1
        · have hW2 : W ≤ nx n (nx a p) := by
            have : nx a p ≤ nx n (nx a p) := by
              show nx a p ≤ if n = nx a p then nx a p + 1 else nx a p
              split <;> omega
            omega
          rw [routes_us (us' := n :: places (hp ++ [(a, n)])) _ _ _ _ _ (fun x _ => hperm x), routes_unroll (W := W) (fun x hx => (L.pasW x hx).1) w2 hW2]
          congr 1
          · rw [List.append_assoc]
            rfl
          · unfold cont
            refine flatMap_congr_of fun c' _ => flatMap_congr_of fun r _ => ?_
            rw [List.append_assoc]
            rfl
        · rw [cont, e2]
      · obtain ⟨u1, u2⟩ := hun j d (by omega) hjd
        rw [show places ((hp ++ [(a, n)]) ++ [(n, c.2)]) = places (hp ++ [(a, n)]) ++ [n] by simp [places], List.mem_append, List.mem_singleton]
        rintro (z | z)
        · exact u1 z
        · exact u2 z
end
end Ph
namespace Ph
open Sm11
theorem chainsT_in {vals : List Nat} {t : Telling} {c : Nat × Nat} (h : c ∈ chainsT vals t) : ∃ x y, .chain x y ∈ t ∧ c = (vals.getD x 0, vals.getD y 0) ∧ c.1 ≠ c.2 := by
  obtain ⟨f, hf, hc⟩ := List.mem_flatMap.mp h
  cases f with
  | same a b => cases hc
  | differ a b => cases hc
  | cell a b => cases hc
  | chain a b =>
    have hc : c ∈ (if vals.getD a 0 = vals.getD b 0 then [] else [(vals.getD a 0, vals.getD b 0)]) := hc
    split at hc
    · cases hc
    · rename_i e
      have := List.mem_singleton.mp hc
      subst this
      exact ⟨a, b, hf, rfl, e⟩
theorem cellsT_in {vals : List Nat} {t : Telling} {c : Nat × Nat} (h : c ∈ cellsT vals t) : ∃ x y, .cell x y ∈ t ∧ c = (vals.getD x 0, vals.getD y 0) := by
  obtain ⟨f, hf, hc⟩ := List.mem_flatMap.mp h
  cases f with
  | same a b => cases hc
  | differ a b => cases hc
  | cell a b => exact ⟨a, b, hf, List.mem_singleton.mp hc⟩
  | chain a b => cases hc
theorem lawn_of {vals : List Nat} {t : Telling} {most : Nat} (h0 : 0 ∈ vals) (hc : canBe t vals = true) (hm : 1 ≤ most) : Lawn (pasOf vals t) (chainsT vals t) (cellsT vals t) (width vals) most (fuel vals most) := by
  obtain ⟨c1, c2, c3⟩ := canBe_iff.mp hc
  have hpas : ∀ c ∈ pasOf vals t, c < width vals ∧ c ≠ 0 ∧ c ∉ firsts vals t := fun c h => by
    obtain ⟨q1, q2⟩ := List.mem_filter.mp h
    simp only [Bool.and_eq_true, bne_iff_ne, ne_eq, Bool.not_eq_true', List.contains_eq_mem, decide_eq_false_iff_not] at q2
    exact ⟨List.mem_range.mp q1, q2.1, q2.2⟩
  have hsplit : firsts vals t = places (cellsT vals t) ++ places (chainsT vals t) := by simp [firsts, places]
  refine ⟨?_, fun c h => ⟨(hpas c h).1, (hpas c h).2.1⟩, fun c h => ?_, ?_, fun x hx => ?_, hm, Nat.le_refl _⟩
  · exact List.Pairwise.sublist List.filter_sublist List.pairwise_lt_range
  · obtain ⟨x, y, _, rfl, _⟩ := chainsT_in h
    refine ⟨getD_lt vals h0 x, getD_lt vals h0 y, fun z => (hpas _ z).2.2 ?_⟩
    rw [hsplit]
    exact List.mem_append_right _ (List.mem_map.mpr ⟨_, h, rfl⟩)
  · rw [← hsplit]
    exact c3
  · obtain ⟨c, hc, rfl⟩ := List.mem_map.mp hx
    obtain ⟨x, y, _, rfl⟩ := cellsT_in hc
    exact getD_lt vals h0 x
theorem gen_ne {pas : List Nat} {Cs hp0 : List (Nat × Nat)} {W most fu : Nat} (L : Lawn pas Cs hp0 W most fu) : ∀ (k i : Nat) {st : List (Nat × Nat × Nat)} {hp : List (Nat × Nat)} {p : Nat} {rem : List (List (Nat × Nat))}, k = Cs.length - i → Laid pas Cs hp0 W most fu st hp p rem →
    (∀ i0 a0 r0 st', st = (i0, a0, r0) :: st' → i0 < i) → (∀ j d, i ≤ j → Cs[j]? = some d → d.1 ∉ places hp) → gen pas most fu (Cs.drop i) hp p ++ rem ≠ []
  | 0, i, st, hp, p, rem, hk, h, hx, hu => by
    rw [List.drop_of_length_le (by omega), gen]
    simp
  | k + 1, i, st, hp, p, rem, hk, h, hx, hu => by
    have hlt : i < Cs.length := by omega
    obtain ⟨rem', h', e, hu'⟩ := h.lay L (List.getElem?_eq_getElem hlt) hx hu
    rw [e]
    exact gen_ne L k (i + 1) (by omega) h' (fun i0 a0 r0 st' z => by
      injection z with z _
      injection z with z _
      omega) hu'
theorem lawn_under {pas : List Nat} {Cs hp0 : List (Nat × Nat)} {W most fu : Nat} (L : Lawn pas Cs hp0 W most fu) : ∀ j d, 0 ≤ j → Cs[j]? = some d → d.1 ∉ places hp0 := fun j d _ hj z =>
  (List.nodup_append.mp L.nd).2.2 d.1 z d.1 (List.mem_map.mpr ⟨d, List.mem_of_getElem? hj, rfl⟩) rfl
theorem rowGen_ne {vals : List Nat} {t : Telling} {most : Nat} (h0 : 0 ∈ vals) (hc : canBe t vals = true) (hm : 1 ≤ most) : rowGen t most vals ≠ [] := by
  have L := lawn_of h0 hc hm
  have := gen_ne L _ 0 rfl .nil (fun _ _ _ _ z => by cases z) (lawn_under L)
  rw [List.append_nil, List.drop_zero] at this
  exact this
theorem worlds_none {n : Nat} {t : Telling} {most : Nat} (hm : 1 ≤ most) : worlds n t most = [] ↔ (rows n).filter (canBe t) = [] := by
  rw [worlds_eq]
  constructor
  · intro h
    cases e : (rows n).filter (canBe t) with
    | nil => rfl
    | cons v l =>
      rw [e, List.flatMap_cons, List.append_eq_nil_iff, List.map_eq_nil_iff] at h
      have hv : v ∈ (rows n).filter (canBe t) := by rw [e]; simp
      obtain ⟨h1, h2⟩ := List.mem_filter.mp hv
      exact absurd h.1 (rowGen_ne (rows_in h1).2.2.1 h2 hm)
  · intro h
    rw [h]
    rfl
theorem first_none {n : Nat} {t : Telling} : (first n t).isNone = true ↔ ∀ r ∈ rows n, canBe t r = false := by
  rw [first, show (worlds n t 1).head?.isNone = true ↔ worlds n t 1 = [] by cases worlds n t 1 <;> simp, worlds_none (Nat.le_refl 1), List.filter_eq_nil_iff]
  simp
theorem canBe_differ (t : Telling) (x y : Nat) (vals : List Nat) : canBe (t ++ [.differ x y]) vals = (canBe t vals && (vals.getD x 0 != vals.getD y 0)) := by
  unfold canBe firsts cellsT chainsT
  rw [List.all_append, List.flatMap_append, List.flatMap_append]
  simp only [List.all_cons, List.all_nil, List.flatMap_cons, List.flatMap_nil, cellF, chainF, List.append_nil, plainSo, val, Bool.and_true]
  cases t.all (plainSo ⟨vals, []⟩) <;> simp [Bool.and_comm, Bool.and_assoc]
theorem canBe_same (t : Telling) (x y : Nat) (vals : List Nat) : canBe (t ++ [.same x y]) vals = (canBe t vals && (vals.getD x 0 == vals.getD y 0)) := by
  unfold canBe firsts cellsT chainsT
  rw [List.all_append, List.flatMap_append, List.flatMap_append]
  simp only [List.all_cons, List.all_nil, List.flatMap_cons, List.flatMap_nil, cellF, chainF, List.append_nil, plainSo, val, Bool.and_true]
  cases t.all (plainSo ⟨vals, []⟩) <;> simp [Bool.and_comm, Bool.and_assoc]
/-- what surely answers, by the rows that can be -/
theorem surely_eq (n : Nat) (t : Telling) (x y : Nat) :
    (if (first n t).isNone = true then [-6] else if (first n (t ++ [.differ x y])).isNone = true then [1] else if (first n (t ++ [.same x y])).isNone = true then [0] else [2] : List Int) =
    if ((rows n).filter (canBe t)).length = 0 then [-6] else if (((rows n).filter (canBe t)).map fun r => r.getD x 0 == r.getD y 0).all id = true then [1] else if (((rows n).filter (canBe t)).map fun r => r.getD x 0 == r.getD y 0).any id = true then [2] else [0] := by
  have e1 : (first n t).isNone = true ↔ ((rows n).filter (canBe t)).length = 0 := by
    rw [first_none, List.length_eq_zero_iff, List.filter_eq_nil_iff]
    simp
  have e2 : (first n (t ++ [.differ x y])).isNone = true ↔ (((rows n).filter (canBe t)).map fun r => r.getD x 0 == r.getD y 0).all id = true := by
    rw [first_none, List.all_eq_true]
    simp only [canBe_differ, List.mem_map, List.mem_filter, forall_exists_index, and_imp, Bool.and_eq_false_iff]
    constructor
    · rintro h z r hr hc rfl
      rcases h r hr with q | q
      · rw [hc] at q; cases q
      · simpa using q
    · intro h r hr
      cases hc : canBe t r with
      | false => exact .inl rfl
      | true =>
        have := h _ r hr hc rfl
        exact .inr (by simpa using this)
  have e3 : (first n (t ++ [.same x y])).isNone = true ↔ ¬ (((rows n).filter (canBe t)).map fun r => r.getD x 0 == r.getD y 0).any id = true := by
    rw [first_none, List.any_eq_true]
    simp only [canBe_same, List.mem_map, List.mem_filter, Bool.and_eq_false_iff]
    constructor
    · rintro h ⟨z, ⟨r, ⟨hr, hc⟩, rfl⟩, hz⟩
      rcases h r hr with q | q
      · rw [hc] at q; cases q
      · rw [id] at hz
        rw [hz] at q
        cases q
    · intro h r hr
      cases hc : canBe t r with
      | false => exact .inl rfl
      | true =>
        refine .inr ?_
        cases hz : r.getD x 0 == r.getD y 0 with
        | false => rfl
        | true => exact absurd ⟨_, ⟨r, ⟨hr, hc⟩, rfl⟩, hz⟩ h
  by_cases h1 : ((rows n).filter (canBe t)).length = 0
  · rw [if_pos (e1.mpr h1), if_pos h1]
  · rw [if_neg (fun z => h1 (e1.mp z)), if_neg h1]
    by_cases h2 : (((rows n).filter (canBe t)).map fun r => r.getD x 0 == r.getD y 0).all id = true
    · rw [if_pos (e2.mpr h2), if_pos h2]
    · rw [if_neg (fun z => h2 (e2.mp z)), if_neg h2]
      by_cases h3 : (((rows n).filter (canBe t)).map fun r => r.getD x 0 == r.getD y 0).any id = true
      · rw [if_neg (fun z => e3.mp z h3), if_pos h3]
      · rw [if_pos (e3.mpr h3), if_neg h3]
/-! ### a telling is so in its plain worlds -/
theorem routes_path {names : List Nat} {e most : Nat} : ∀ {f a run : Nat} {us : List Nat} {p : Nat} {r : List (Nat × Nat) × Nat}, r ∈ routes names e most f a run us p → e < p → a ≠ e → ∀ h : List (Nat × Nat), (∀ c ∈ r.1, at_ h c.1 = some c.2) → Path h a e (places r.1)
  | 0, _, _, _, _, _, h, _, _, _, _ => by cases h
  | f + 1, a, run, us, p, r, hr, he, ha, h, hh => by
    rw [routes_succ, List.mem_append, List.mem_append] at hr
    rcases hr with (hr | hr) | hr
    · have := List.mem_singleton.mp hr
      subst this
      exact .next ha (hh (a, e) (by simp)) (.here e)
    · obtain ⟨c, hc, hr⟩ := List.mem_flatMap.mp hr
      obtain ⟨r', hr', rfl⟩ := List.mem_map.mp hr
      exact .next ha (hh (a, c) (by simp)) (routes_path hr' he (mem_opts.mp hc).2.2.1 h fun d hd => hh d (by simp [hd]))
    · split at hr
      · obtain ⟨r', hr', rfl⟩ := List.mem_map.mp hr
        exact .next ha (hh (a, p) (by simp)) (routes_path hr' (by omega) (by omega) h fun d hd => hh d (by simp [hd]))
      · cases hr
theorem routes_up {names : List Nat} {e most : Nat} : ∀ {f a run : Nat} {us : List Nat} {p : Nat} {r : List (Nat × Nat) × Nat}, r ∈ routes names e most f a run us p → p ≤ r.2
  | 0, _, _, _, _, _, h => by cases h
  | f + 1, a, run, us, p, r, hr => by
    rw [routes_succ, List.mem_append, List.mem_append] at hr
    rcases hr with (hr | hr) | hr
    · rw [List.mem_singleton.mp hr]
      exact Nat.le_refl _
    · obtain ⟨c, hc, hr⟩ := List.mem_flatMap.mp hr
      obtain ⟨r', hr', rfl⟩ := List.mem_map.mp hr
      exact (routes_up hr' :)
    · split at hr
      · obtain ⟨r', hr', rfl⟩ := List.mem_map.mp hr
        have := routes_up hr'
        omega
      · cases hr
theorem cellsOf_so {vals names : List Nat} {most : Nat} (h0 : 0 ∈ vals) : ∀ {t : Telling} {cs : List (Nat × Nat)} {p : Nat} {g : List (Nat × Nat)}, g ∈ cellsOf vals names most t cs p → width vals ≤ p → ∃ m, g = cs ++ m ∧ ∀ h : List (Nat × Nat), (∀ c ∈ g, at_ h c.1 = some c.2) →
    (∀ f ∈ t, (takes ⟨vals, h⟩ f).isSome = true) ∧ lsOf ⟨vals, h⟩ t = places m
  | [], cs, p, g, hg, hw => ⟨[], by rw [List.mem_singleton.mp hg]; simp, fun h _ => ⟨by simp, rfl⟩⟩
  | .same x y :: t, cs, p, g, hg, hw => by
    obtain ⟨m, e, k⟩ := cellsOf_so h0 (t := t) (show g ∈ cellsOf vals names most t cs p from hg) hw
    refine ⟨m, e, fun h hh => ⟨fun f hf => ?_, (k h hh).2⟩⟩
    rcases List.mem_cons.mp hf with z | z
    · rw [z]; rfl
    · exact (k h hh).1 f z
  | .differ x y :: t, cs, p, g, hg, hw => by
    obtain ⟨m, e, k⟩ := cellsOf_so h0 (t := t) (show g ∈ cellsOf vals names most t cs p from hg) hw
    refine ⟨m, e, fun h hh => ⟨fun f hf => ?_, (k h hh).2⟩⟩
    rcases List.mem_cons.mp hf with z | z
    · rw [z]; rfl
    · exact (k h hh).1 f z
  | .cell x y :: t, cs, p, g, hg, hw => by
    obtain ⟨m, e, k⟩ := cellsOf_so h0 (t := t) (show g ∈ cellsOf vals names most t (cs ++ [(vals.getD x 0, vals.getD y 0)]) p from hg) hw
    refine ⟨(vals.getD x 0, vals.getD y 0) :: m, by rw [e, List.append_assoc]; rfl, fun h hh => ?_⟩
    have hx : takes ⟨vals, h⟩ (.cell x y) = some [vals.getD x 0] := if_pos (hh (vals.getD x 0, vals.getD y 0) (by rw [e]; simp))
    refine ⟨fun f hf => ?_, ?_⟩
    · rcases List.mem_cons.mp hf with z | z
      · rw [z, hx]; rfl
      · exact (k h hh).1 f z
    · rw [show (Fact.cell x y :: t) = [Fact.cell x y] ++ t from rfl, lsOf_append, lsOf_one, hx, (k h hh).2]
      rfl
  | .chain x y :: t, cs, p, g, hg, hw => by
    unfold cellsOf at hg
    by_cases e : vals.getD x 0 = vals.getD y 0
    · rw [if_pos e] at hg
      obtain ⟨m, e1, k⟩ := cellsOf_so h0 (t := t) hg hw
      refine ⟨m, e1, fun h hh => ?_⟩
      have hx : takes ⟨vals, h⟩ (.chain x y) = some [] := by
        show follow h h.length (vals.getD x 0) (vals.getD y 0) = _
        rw [e]
        cases h.length <;> simp [follow]
      refine ⟨fun f hf => ?_, ?_⟩
      · rcases List.mem_cons.mp hf with z | z
        · rw [z, hx]; rfl
        · exact (k h hh).1 f z
      · rw [show (Fact.chain x y :: t) = [Fact.chain x y] ++ t from rfl, lsOf_append, lsOf_one, hx, (k h hh).2]
        rfl
    · rw [if_neg e] at hg
      obtain ⟨r, hr, hg⟩ := List.mem_flatMap.mp hg
      obtain ⟨m, e1, k⟩ := cellsOf_so h0 (t := t) hg (Nat.le_trans hw (routes_up hr))
      refine ⟨r.1 ++ m, by rw [e1, List.append_assoc], fun h hh => ?_⟩
      have hx : takes ⟨vals, h⟩ (.chain x y) = some (places r.1) := by
        refine follow_iff.mpr (routes_path hr (Nat.lt_of_lt_of_le (getD_lt vals h0 y) hw) e h fun c hc => hh c ?_)
        rw [e1]
        simp [hc]
      refine ⟨fun f hf => ?_, ?_⟩
      · rcases List.mem_cons.mp hf with z | z
        · rw [z, hx]; rfl
        · exact (k h hh).1 f z
      · rw [show (Fact.chain x y :: t) = [Fact.chain x y] ++ t from rfl, lsOf_append, lsOf_one, hx, (k h hh).2]
        simp [places]
theorem worlds_so {n : Nat} {t : Telling} {most : Nat} {w : World} (h : w ∈ worlds n t most) : isSo w t = true ∧ Asc w.heap := by
  unfold worlds at h
  obtain ⟨k, hk, h⟩ := List.mem_flatMap.mp h
  have h0 : 0 ∈ (0 :: k) := by simp
  generalize hv : (0 :: k) = vals at h h0
  dsimp only at h
  split at h
  · cases h
  · rename_i hp
    rw [Bool.not_eq_false] at hp
    obtain ⟨g, hg, h⟩ := List.mem_filterMap.mp h
    split at h
    · rename_i q
      injection h with h
      subst h
      have nd := once_iff.mp q.1
      have hl := like_fold nd
      have ha : Asc (g.foldl (fun h c => put c.1 c.2 h) []) := asc_fold g Asc.nil
      obtain ⟨m, e, kk⟩ := cellsOf_so h0 hg (Nat.le_refl _)
      rw [List.nil_append] at e
      subst e
      obtain ⟨k1, k2⟩ := kk (g.foldl (fun h c => put c.1 c.2 h) []) fun c hc => by
        rw [← hl.at_]
        exact (at_mem nd).mpr hc
      refine ⟨?_, ha⟩
      rw [isSo_good, Bool.and_eq_true]
      refine ⟨good_iff.mpr ⟨fun f hf => ?_, k1, by rw [k2]; exact nd⟩, ?_⟩
      · have := List.all_eq_true.mp hp f hf
        cases f <;> exact this
      · rw [k2, beq_iff_eq]
        show _ = (g.foldl (fun h c => put c.1 c.2 h) []).length
        rw [← hl.length ha]
        simp [places]
    · cases h
end Ph
namespace Ph
open Sm11
/-! ### frame -/
def psOf (a : Telling) : List Nat := (List.range a.length).filter fun i => match a[i]? with
  | some f => isPiece f
  | none => false
def own (w : World) (a : Telling) (i : Nat) : List Nat := match a[i]? with
  | some f => (takes w f).getD []
  | none => []
theorem mem_choose : ∀ {l : List Nat} {k : Nat} {c : List Nat}, c ∈ choose k l ↔ c.Sublist l ∧ c.length = k
  | l, 0, c => by
    rw [show choose 0 l = [[]] by cases l <;> rfl, List.mem_singleton]
    constructor
    · rintro rfl
      exact ⟨List.nil_sublist _, rfl⟩
    · rintro ⟨_, h⟩
      exact List.length_eq_zero_iff.mp h
  | [], k + 1, c => by
    show c ∈ [] ↔ _
    constructor
    · intro h; cases h
    · rintro ⟨h, e⟩
      rw [List.sublist_nil.mp h] at e
      cases e
  | i :: l, k + 1, c => by
    show c ∈ (choose k l).map (fun r => i :: r) ++ choose (k + 1) l ↔ _
    rw [List.mem_append, List.mem_map, mem_choose (l := l) (k := k + 1)]
    constructor
    · rintro (⟨r, hr, rfl⟩ | ⟨h, e⟩)
      · obtain ⟨h1, h2⟩ := mem_choose.mp hr
        exact ⟨h1.cons_cons i, by simp [h2]⟩
      · exact ⟨h.cons i, e⟩
    · rintro ⟨h, e⟩
      cases h with
      | cons _ h => exact .inr ⟨h, e⟩
      | cons_cons _ h => exact .inl ⟨_, mem_choose.mpr ⟨h, by simpa using e⟩, rfl⟩
theorem sub_of_nodup : ∀ {c l : List Nat}, c.Sublist l → l.Nodup → c = l.filter fun x => c.contains x
  | _, [], h, _ => by rw [List.sublist_nil.mp h]; rfl
  | c, a :: l, h, nd => by
    obtain ⟨n1, n2⟩ := List.nodup_cons.mp nd
    cases h with
    | cons _ h =>
      have : a ∉ c := fun z => n1 (h.subset z)
      rw [List.filter_cons, if_neg (by simpa using this)]
      exact sub_of_nodup h n2
    | @cons_cons c' _ _ h =>
      rw [List.filter_cons, if_pos (by simp)]
      congr 1
      rw [show (l.filter fun x => (a :: c').contains x) = l.filter fun x => c'.contains x from List.filter_congr fun x hx => by
        have : ¬ x = a := fun z => n1 (z ▸ hx)
        simp [this]]
      exact sub_of_nodup h n2
theorem find_sizes {ps L0 : List Nat} {P : List Nat → Bool} (hL : L0.Sublist ps) (h0 : P L0 = true) (hu : ∀ c, c.Sublist ps → P c = true → L0.length ≤ c.length ∧ (c.length = L0.length → c = L0)) :
    ((List.range (ps.length + 1)).flatMap fun k => choose k ps).find? P = some L0 := by
  have hk : L0.length ≤ ps.length := hL.length_le
  have hr : List.range (ps.length + 1) = List.range L0.length ++ (L0.length :: (List.range (ps.length - L0.length)).map fun x => L0.length + 1 + x) := by
    rw [show ps.length + 1 = L0.length + (1 + (ps.length - L0.length)) by omega, List.range_add]
    congr 1
    rw [List.range_add]
    simp [Nat.add_assoc]
  rw [hr, List.flatMap_append, List.find?_append, List.flatMap_cons, List.find?_append]
  have e1 : ((List.range L0.length).flatMap fun k => choose k ps).find? P = none := by
    rw [List.find?_eq_none]
    intro c hc z
    obtain ⟨k, hk, hc⟩ := List.mem_flatMap.mp hc
    obtain ⟨s, e⟩ := mem_choose.mp hc
    have := (hu c s z).1
    have := List.mem_range.mp hk
    omega
  have e2 : (choose L0.length ps).find? P = some L0 := by
    refine find_unique (mem_choose.mpr ⟨hL, rfl⟩) h0 fun c hc z => ?_
    obtain ⟨s, e⟩ := mem_choose.mp hc
    exact (hu c s z).2 e
  rw [e1, e2]
  rfl
theorem find_no {ps : List Nat} {P : List Nat → Bool} (h : ∀ c, c.Sublist ps → P c = false) : ((List.range (ps.length + 1)).flatMap fun k => choose k ps).find? P = none := by
  rw [List.find?_eq_none]
  intro c hc z
  obtain ⟨k, _, hc⟩ := List.mem_flatMap.mp hc
  rw [h c (mem_choose.mp hc).1] at z
  cases z
theorem nodup_ps (a : Telling) : (psOf a).Nodup := List.Nodup.sublist List.filter_sublist List.nodup_range
theorem mem_ps {a : Telling} {i : Nat} : i ∈ psOf a ↔ ∃ f, a[i]? = some f ∧ isPiece f = true := by
  unfold psOf
  rw [List.mem_filter, List.mem_range]
  constructor
  · rintro ⟨h, e⟩
    rw [List.getElem?_eq_getElem h] at e ⊢
    exact ⟨_, rfl, e⟩
  · rintro ⟨f, h, e⟩
    rw [h]
    exact ⟨(List.getElem?_eq_some_iff.mp h).1, e⟩
/-- own cells: of different facts apart; all of them together the heap -/
theorem own_apart {w : World} {a : Telling} (h : (lsOf w a).Nodup) {i j : Nat} {x : Nat} (hi : x ∈ own w a i) (hj : x ∈ own w a j) : i = j := by
  have key : ∀ (a : Telling), (lsOf w a).Nodup → ∀ i j, i < j → x ∈ own w a i → x ∈ own w a j → False := by
    intro a
    induction a with
    | nil => intro _ i j _ hi _; simp [own] at hi
    | cons f a ih =>
      intro h i j hij hi hj
      rw [show f :: a = [f] ++ a from rfl, lsOf_append, lsOf_one] at h
      obtain ⟨h1, h2, h3⟩ := List.nodup_append.mp h
      cases j with
      | zero => omega
      | succ j =>
        have hj' : x ∈ own w a j := by simpa [own] using hj
        have hja : x ∈ lsOf w a := by
          unfold own at hj'
          split at hj'
          · rename_i g hg
            exact List.mem_flatMap.mpr ⟨takes w g, List.mem_map.mpr ⟨g, List.mem_of_getElem? hg, rfl⟩, hj'⟩
          · cases hj'
        cases i with
        | zero => exact h3 x (by simpa [own] using hi) x hja rfl
        | succ i => exact ih h2 i j (by omega) (by simpa [own] using hi) hj'
  rcases Nat.lt_trichotomy i j with z | z | z
  · exact (key a h i j z hi hj).elim
  · exact z
  · exact (key a h j i z hj hi).elim
theorem own_all {w : World} {a : Telling} {x : Nat} (h : x ∈ lsOf w a) : ∃ i ∈ psOf a, x ∈ own w a i := by
  unfold lsOf at h
  obtain ⟨o, ho, hx⟩ := List.mem_flatMap.mp h
  obtain ⟨f, hf, rfl⟩ := List.mem_map.mp ho
  obtain ⟨i, hi⟩ := List.mem_iff_getElem?.mp hf
  refine ⟨i, mem_ps.mpr ⟨f, hi, ?_⟩, by simp only [own, hi]; exact hx⟩
  cases f with
  | same x y => cases hx
  | differ x y => cases hx
  | cell x y => rfl
  | chain x y => rfl
theorem own_in {w : World} {a : Telling} {i x : Nat} (h : x ∈ own w a i) : x ∈ lsOf w a := by
  unfold own at h
  split at h
  · rename_i g hg
    exact List.mem_flatMap.mpr ⟨takes w g, List.mem_map.mpr ⟨g, List.mem_of_getElem? hg, rfl⟩, h⟩
  · cases h
theorem own_nodup {w : World} {a : Telling} {i : Nat} : (own w a i).Nodup := by
  unfold own
  split
  · rename_i g hg
    cases e : takes w g with
    | none => exact List.nodup_nil
    | some l => exact (takes_mem e).1
  · exact List.nodup_nil
theorem ls_chosen {w : World} {a : Telling} : ∀ {c : List Nat}, (∀ i ∈ c, i ∈ psOf a) → lsOf w (c.filterMap fun i => a[i]?) = c.flatMap (own w a)
  | [], _ => rfl
  | i :: c, h => by
    obtain ⟨f, hf, _⟩ := mem_ps.mp (h i (by simp))
    rw [List.filterMap_cons, hf]
    show lsOf w ([f] ++ c.filterMap fun i => a[i]?) = _
    rw [lsOf_append, lsOf_one, ls_chosen (c := c) (fun j hj => h j (by simp [hj])), List.flatMap_cons, own, hf]
theorem nodup_chosen {w : World} {a : Telling} (h : (lsOf w a).Nodup) : ∀ {c : List Nat}, c.Nodup → (c.flatMap (own w a)).Nodup
  | [], _ => List.nodup_nil
  | i :: c, nd => by
    obtain ⟨n1, n2⟩ := List.nodup_cons.mp nd
    rw [List.flatMap_cons, List.nodup_append]
    refine ⟨own_nodup, nodup_chosen h n2, fun x hx y hy z => ?_⟩
    subst z
    obtain ⟨j, hj, hy⟩ := List.mem_flatMap.mp hy
    exact n1 (own_apart h hx hy ▸ hj)
/-- in one world: what's chosen makes the rest -/
theorem so_chosen {w : World} {a b : Telling} {c : List Nat} (ha : isSo w a = true) (hA : Asc w.heap) (hb : good w b = true) (hc : c.Sublist (psOf a)) :
    isSo w (b ++ c.filterMap fun i => a[i]?) = true ↔ ∀ i ∈ psOf a, (i ∈ c → ∀ x ∈ own w a i, x ∉ lsOf w b) ∧ (i ∉ c → ∀ x ∈ own w a i, x ∈ lsOf w b) := by
  have hcs : ∀ i ∈ c, i ∈ psOf a := fun i hi => hc.subset hi
  have hcn : c.Nodup := hc.nodup (nodup_ps a)
  rw [isSo_good, Bool.and_eq_true] at ha
  obtain ⟨a1, a2, a3⟩ := good_iff.mp ha.1
  have a4 : (lsOf w a).length = w.heap.length := by simpa using ha.2
  have cover : ∀ x ∈ places w.heap, x ∈ lsOf w a := by
    intro x hx
    refine Decidable.byContradiction fun z => ?_
    have := nodup_le (l := x :: lsOf w a) (m := places w.heap) (List.nodup_cons.mpr ⟨z, a3⟩) (fun y hy => by
      rcases List.mem_cons.mp hy with q | q
      · rw [q]; exact hx
      · exact lsOf_mem y q)
    rw [List.length_cons, a4, places, List.length_map] at this
    omega
  obtain ⟨b1, b2, b3⟩ := good_iff.mp hb
  rw [isSo_good, Bool.and_eq_true, good_iff, lsOf_append, ls_chosen hcs]
  have hn := nodup_chosen a3 hcn
  constructor
  · rintro ⟨⟨_, _, nd⟩, len⟩ i hi
    have len : (lsOf w b ++ c.flatMap (own w a)).length = w.heap.length := by simpa using len
    obtain ⟨_, _, d⟩ := List.nodup_append.mp nd
    refine ⟨fun hic x hx hxb => d x hxb x (List.mem_flatMap.mpr ⟨i, hic, hx⟩) rfl, fun hic x hx => ?_⟩
    have hxp : x ∈ places w.heap := lsOf_mem x (own_in hx)
    refine Decidable.byContradiction fun z => ?_
    have hz : x ∉ lsOf w b ++ c.flatMap (own w a) := by
      rw [List.mem_append]
      rintro (q | q)
      · exact z q
      · obtain ⟨j, hj, hxj⟩ := List.mem_flatMap.mp q
        exact hic (own_apart a3 hx hxj ▸ hj)
    have := nodup_le (l := x :: (lsOf w b ++ c.flatMap (own w a))) (m := places w.heap) (List.nodup_cons.mpr ⟨hz, nd⟩) (fun y hy => by
      rcases List.mem_cons.mp hy with q | q
      · rw [q]; exact hxp
      · rcases List.mem_append.mp q with q | q
        · exact lsOf_mem y q
        · obtain ⟨j, hj, hyj⟩ := List.mem_flatMap.mp q
          exact lsOf_mem y (own_in hyj))
    rw [List.length_cons, len, places, List.length_map] at this
    omega
  · intro H
    have nd : (lsOf w b ++ c.flatMap (own w a)).Nodup := by
      rw [List.nodup_append]
      refine ⟨b3, hn, fun x hx y hy z => ?_⟩
      subst z
      obtain ⟨j, hj, hxj⟩ := List.mem_flatMap.mp hy
      exact (H j (hcs j hj)).1 hj x hxj hx
    refine ⟨⟨fun f hf => ?_, fun f hf => ?_, nd⟩, ?_⟩
    · rcases List.mem_append.mp hf with q | q
      · exact b1 f q
      · obtain ⟨i, hi, e⟩ := List.mem_filterMap.mp q
        exact a1 f (List.mem_of_getElem? e)
    · rcases List.mem_append.mp hf with q | q
      · exact b2 f q
      · obtain ⟨i, hi, e⟩ := List.mem_filterMap.mp q
        exact a2 f (List.mem_of_getElem? e)
    · have hp : (lsOf w b ++ c.flatMap (own w a)).Perm (places w.heap) := by
        refine perm_nodup nd hA.nodup fun x => ⟨fun hx => ?_, fun hx => ?_⟩
        · rcases List.mem_append.mp hx with q | q
          · exact lsOf_mem x q
          · obtain ⟨j, hj, hxj⟩ := List.mem_flatMap.mp q
            exact lsOf_mem x (own_in hxj)
        · obtain ⟨i, hi, hxi⟩ := own_all (cover x hx)
          rw [List.mem_append]
          by_cases q : i ∈ c
          · exact .inr (List.mem_flatMap.mpr ⟨i, q, hxi⟩)
          · exact .inl ((H i hi).2 q x hxi)
      have := hp.length_eq
      rw [places, List.length_map] at this
      rw [beq_iff_eq]
      exact this
/-- what the program does: pieces left over, pieces gone -/
def shared (w : World) (a b : Telling) (i : Nat) : Nat := ((own w a i).filter fun x => (lsOf w b).contains x).length
def partly (w : World) (a b : Telling) (i : Nat) : Bool := decide (0 < shared w a b i) && decide (shared w a b i < (own w a i).length)
def isGone (w : World) (a b : Telling) (i : Nat) : Bool := decide (0 < shared w a b i)
def isLeft (w : World) (a b : Telling) (i : Nat) : Bool := decide (shared w a b i = 0) && decide (0 < (own w a i).length)
def badFrame (w : World) (a b : Telling) : Bool := !good w b || (psOf a).any (partly w a b)
def frameM (ws : List World) (a b : Telling) : Option (List Nat) :=
  if ws.any (fun w => badFrame w a b) = true then none else
  if (psOf a).any (fun i => ws.any (fun w => isLeft w a b i) && ws.any (fun w => isGone w a b i)) = true then none else
  some ((psOf a).filter fun i => ws.any fun w => isLeft w a b i)
theorem shared_zero {w : World} {a b : Telling} {i : Nat} : shared w a b i = 0 ↔ ∀ x ∈ own w a i, x ∉ lsOf w b := by
  unfold shared
  rw [List.length_eq_zero_iff, List.filter_eq_nil_iff]
  simp
theorem shared_all {w : World} {a b : Telling} {i : Nat} : shared w a b i = (own w a i).length ↔ ∀ x ∈ own w a i, x ∈ lsOf w b := by
  unfold shared
  rw [List.length_filter_eq_length_iff]
  simp
theorem shared_le {w : World} {a b : Telling} {i : Nat} : shared w a b i ≤ (own w a i).length := List.length_filter_le _ _
theorem frame_eq (n : Nat) (a b : Telling) : Sm11.frame n a b = frameM (worlds n a 2) a b := by
  have hso : ∀ w ∈ worlds n a 2, isSo w a = true ∧ Asc w.heap := fun w hw => worlds_so hw
  have hP : ∀ c : List Nat, (against n a (b ++ c.filterMap fun i => a[i]?)).isNone = true ↔ ∀ w ∈ worlds n a 2, isSo w (b ++ c.filterMap fun i => a[i]?) = true := by
    intro c
    unfold against
    rw [Option.isNone_iff_eq_none, List.find?_eq_none]
    simp
  unfold Sm11.frame
  show ((List.range ((psOf a).length + 1)).flatMap fun k => choose k (psOf a)).find? _ = _
  generalize worlds n a 2 = ws at hso hP ⊢
  unfold frameM
  by_cases h1 : ws.any (fun w => badFrame w a b) = true
  · rw [if_pos h1]
    refine find_no fun c hc => ?_
    rw [Bool.eq_false_iff, ne_eq, hP c]
    intro H
    obtain ⟨w, hw, hb⟩ := List.any_eq_true.mp h1
    have hs := H w hw
    unfold badFrame at hb
    rw [Bool.or_eq_true] at hb
    have hg : good w b = true := good_left (show good w (b ++ c.filterMap fun i => a[i]?) = true by
      rw [isSo_good, Bool.and_eq_true] at hs
      exact hs.1)
    rcases hb with hb | hb
    · rw [hg] at hb
      cases hb
    · obtain ⟨i, hi, hb⟩ := List.any_eq_true.mp hb
      unfold partly at hb
      simp only [Bool.and_eq_true, decide_eq_true_iff] at hb
      have := (so_chosen (hso w hw).1 (hso w hw).2 hg hc).mp hs i hi
      by_cases q : i ∈ c
      · have := shared_zero.mpr (this.1 q)
        omega
      · have := shared_all.mpr (this.2 q)
        omega
  · rw [if_neg h1]
    have hgood : ∀ w ∈ ws, good w b = true ∧ ∀ i ∈ psOf a, partly w a b i = false := by
      intro w hw
      have : badFrame w a b = false := by
        cases e : badFrame w a b with
        | false => rfl
        | true => exact absurd (List.any_eq_true.mpr ⟨w, hw, e⟩) h1
      unfold badFrame at this
      rw [Bool.or_eq_false_iff] at this
      refine ⟨by simpa using this.1, fun i hi => ?_⟩
      cases e : partly w a b i with
      | false => rfl
      | true =>
        rw [List.any_eq_true.mpr ⟨i, hi, e⟩] at this
        cases this.2
    have hQ : ∀ c : List Nat, c.Sublist (psOf a) → ((against n a (b ++ c.filterMap fun i => a[i]?)).isNone = true ↔ ∀ i ∈ psOf a, (i ∈ c → ∀ w ∈ ws, isGone w a b i = false) ∧ (i ∉ c → ∀ w ∈ ws, isLeft w a b i = false)) := by
      intro c hc
      rw [hP c]
      constructor
      · intro H i hi
        refine ⟨fun q w hw => ?_, fun q w hw => ?_⟩
        · have := ((so_chosen (hso w hw).1 (hso w hw).2 (hgood w hw).1 hc).mp (H w hw) i hi).1 q
          have := shared_zero.mpr this
          simp [isGone, this]
        · have := ((so_chosen (hso w hw).1 (hso w hw).2 (hgood w hw).1 hc).mp (H w hw) i hi).2 q
          have := shared_all.mpr this
          unfold isLeft
          rw [Bool.and_eq_false_iff, decide_eq_false_iff_not, decide_eq_false_iff_not]
          omega
      · intro H w hw
        refine (so_chosen (hso w hw).1 (hso w hw).2 (hgood w hw).1 hc).mpr fun i hi => ⟨fun q => ?_, fun q => ?_⟩
        · have := (H i hi).1 q w hw
          unfold isGone at this
          rw [decide_eq_false_iff_not] at this
          exact shared_zero.mp (by omega)
        · have := (H i hi).2 q w hw
          have hp := (hgood w hw).2 i hi
          unfold isLeft at this
          unfold partly at hp
          simp only [Bool.and_eq_false_iff, decide_eq_false_iff_not] at this hp
          have := shared_le (w := w) (a := a) (b := b) (i := i)
          exact shared_all.mp (by omega)
    by_cases h2 : (psOf a).any (fun i => ws.any (fun w => isLeft w a b i) && ws.any (fun w => isGone w a b i)) = true
    · rw [if_pos h2]
      refine find_no fun c hc => ?_
      rw [Bool.eq_false_iff, ne_eq, hQ c hc]
      intro H
      obtain ⟨i, hi, hb⟩ := List.any_eq_true.mp h2
      rw [Bool.and_eq_true] at hb
      obtain ⟨w1, hw1, e1⟩ := List.any_eq_true.mp hb.1
      obtain ⟨w2, hw2, e2⟩ := List.any_eq_true.mp hb.2
      by_cases q : i ∈ c
      · rw [(H i hi).1 q w2 hw2] at e2
        cases e2
      · rw [(H i hi).2 q w1 hw1] at e1
        cases e1
    · rw [if_neg h2]
      have hsub : ((psOf a).filter fun i => ws.any fun w => isLeft w a b i).Sublist (psOf a) := List.filter_sublist
      refine find_sizes hsub ?_ fun c hc hz => ?_
      · rw [hQ _ hsub]
        refine fun i hi => ⟨fun q w hw => ?_, fun q w hw => ?_⟩
        · have ql := (List.mem_filter.mp q).2
          cases e : isGone w a b i with
          | false => rfl
          | true =>
            refine absurd (List.any_eq_true.mpr ⟨i, hi, ?_⟩) h2
            rw [Bool.and_eq_true]
            exact ⟨ql, List.any_eq_true.mpr ⟨w, hw, e⟩⟩
        · cases e : isLeft w a b i with
          | false => rfl
          | true => exact absurd (List.mem_filter.mpr ⟨hi, List.any_eq_true.mpr ⟨w, hw, e⟩⟩) q
      · rw [hQ c hc] at hz
        have hsub2 : ∀ i ∈ (psOf a).filter fun i => ws.any fun w => isLeft w a b i, i ∈ c := by
          intro i hi
          obtain ⟨q1, q2⟩ := List.mem_filter.mp hi
          obtain ⟨w, hw, e⟩ := List.any_eq_true.mp q2
          refine Decidable.byContradiction fun z => ?_
          rw [(hz i q1).2 z w hw] at e
          cases e
        have hcn : c.Nodup := hc.nodup (nodup_ps a)
        have hn := hsub.nodup (nodup_ps a)
        refine ⟨nodup_le hn hsub2, fun e => ?_⟩
        have hc2 := sub_of_nodup hc (nodup_ps a)
        rw [hc2]
        refine List.filter_congr fun i hi => ?_
        rw [Bool.eq_iff_iff, List.contains_iff_mem]
        constructor
        · intro q
          cases e2 : (ws.any fun w => isLeft w a b i) with
          | true => rfl
          | false =>
            have hni : i ∉ (psOf a).filter fun i => ws.any fun w => isLeft w a b i := fun z => by
              rw [(List.mem_filter.mp z).2] at e2
              cases e2
            have := nodup_le (l := i :: (psOf a).filter fun i => ws.any fun w => isLeft w a b i) (m := c) (List.nodup_cons.mpr ⟨hni, hn⟩) (fun y hy => by
              rcases List.mem_cons.mp hy with z | z
              · rw [z]; exact q
              · exact hsub2 y z)
            rw [List.length_cons] at this
            omega
        · intro q
          exact hsub2 i (List.mem_filter.mpr ⟨hi, q⟩)
end Ph
namespace Ph
open Sm11
/-! ### runs -/
def badR (b : Option Telling) (n : Nat) : End × List Nat → Option (List Nat × Nat)
  | (.fault k, got) => some (got, k)
  | (.done w, got) => match b with
    | none => none
    | some t => if isSo w t = true then none else some (got, n)
def firstBad (b : Option Telling) (n k : Nat) (l : List Step) (w : World) (got : List Nat) : Option (List Nat × Nat) := (runsOf k l w got).findSome? (badR b n)
theorem firstBad_nil (b : Option Telling) (n k : Nat) (w : World) (got : List Nat) : firstBad b n k [] w got = match b with
    | none => none
    | some t => if isSo w t = true then none else some (got, n) := by
  unfold firstBad runsOf
  cases b with
  | none => rfl
  | some t => simp [badR]
theorem findSome_flatMap {α β γ : Type} (f : β → Option γ) : ∀ (l : List α) (g : α → List β), (l.flatMap g).findSome? f = l.findSome? fun a => (g a).findSome? f
  | [], _ => rfl
  | a :: l, g => by
    rw [List.flatMap_cons, List.findSome?_append, findSome_flatMap f l g, List.findSome?_cons]
    cases (g a).findSome? f <;> rfl
def isNew : Step → Bool
  | .new _ => true
  | _ => false
def gotOf (p : Step) (got : List Nat) (c : Nat) : List Nat := match p with
  | .new _ => got ++ [c]
  | _ => got
theorem runsOf_cons (k : Nat) (p : Step) (l : List Step) (w : World) (got : List Nat) : runsOf k (p :: l) w got = (choicesOf w p).flatMap fun c => match after w c p with
    | none => [(.fault k, got)]
    | some v => runsOf (k + 1) l v (gotOf p got c) := rfl
theorem firstBad_old {b : Option Telling} {n k : Nat} {p : Step} {l : List Step} {w : World} {got : List Nat} (h : isNew p = false) : firstBad b n k (p :: l) w got = match after w 0 p with
    | none => some (got, k)
    | some v => firstBad b n (k + 1) l v got := by
  unfold firstBad
  rw [runsOf_cons, findSome_flatMap]
  have e : choicesOf w p = [0] := by cases p <;> first | rfl | cases h
  have e2 : gotOf p got 0 = got := by cases p <;> first | rfl | cases h
  rw [e, List.findSome?_cons, e2]
  cases after w 0 p with
  | none => simp [badR]
  | some v =>
    simp only
    cases (runsOf (k + 1) l v got).findSome? (badR b n) <;> rfl
theorem firstBad_new {b : Option Telling} {n k x : Nat} {l : List Step} {w : World} {got : List Nat} : firstBad b n k (.new x :: l) w got = (loose w ++ [free_ w]).findSome? fun c => firstBad b n (k + 1) l ⟨w.vals.set x c, put c 0 w.heap⟩ (got ++ [c]) := by
  unfold firstBad
  rw [runsOf, findSome_flatMap]
  rfl
theorem fault_lt : ∀ {l : List Step} {k : Nat} {w : World} {got : List Nat} {j : Nat} {g : List Nat}, (End.fault j, g) ∈ runsOf k l w got → j < k + l.length
  | [], k, w, got, j, g, h => by
    have := List.mem_singleton.mp h
    cases this
  | p :: l, k, w, got, j, g, h => by
    rw [runsOf] at h
    obtain ⟨c, _, h⟩ := List.mem_flatMap.mp h
    split at h
    · have := List.mem_singleton.mp h
      injection this with e _
      injection e with e
      rw [e, List.length_cons]
      omega
    · have := fault_lt h
      rw [List.length_cons]
      omega
theorem findSome_map {α β γ : Type} (f : α → Option β) (g : β → γ) : ∀ l : List α, (l.findSome? f).map g = l.findSome? fun a => (f a).map g
  | [] => rfl
  | a :: l => by
    rw [List.findSome?_cons, List.findSome?_cons, ← findSome_map f g l]
    cases f a <;> rfl
theorem findSome_congr {α β : Type} {f g : α → Option β} : ∀ {l : List α}, (∀ a ∈ l, f a = g a) → l.findSome? f = l.findSome? g
  | [], _ => rfl
  | a :: l, h => by
    rw [List.findSome?_cons, List.findSome?_cons, h a (by simp), findSome_congr fun b hb => h b (by simp [hb])]
def badWorld (n : Nat) (a : Telling) (p : List Step) (b : Option Telling) : Option (World × List Nat × Nat) := (worlds n a (p.length + 2)).findSome? fun w => (firstBad b p.length 0 p w []).map fun r => (w, r.1, r.2)
theorem triple_eq (n : Nat) (a : Telling) (p : List Step) (b : Telling) : Sm11.triple n a p b = (badWorld n a p (some b)).map fun x => (x.1, x.2.1, if x.2.2 = p.length then [2] else [1, x.2.2]) := by
  unfold Sm11.triple badWorld
  rw [findSome_map]
  refine findSome_congr fun w _ => ?_
  unfold firstBad
  rw [Option.map_map, findSome_map]
  refine findSome_congr fun r hr => ?_
  obtain ⟨e, g⟩ := r
  cases e with
  | fault k =>
    have := fault_lt hr
    have hk : ¬ k = p.length := by omega
    simp [badR, wrong, hk]
  | done v =>
    simp only [badR, wrong]
    split <;> simp
theorem safe_eq (n : Nat) (a : Telling) (p : List Step) : Sm11.safe n a p = badWorld n a p none := by
  unfold Sm11.safe badWorld
  refine findSome_congr fun w _ => ?_
  unfold firstBad
  rw [findSome_map]
  refine findSome_congr fun r _ => ?_
  obtain ⟨e, g⟩ := r
  cases e <;> rfl
theorem badWorld_lt {n : Nat} {a : Telling} {p : List Step} {b : Option Telling} {w : World} {g : List Nat} {k : Nat} (h : badWorld n a p b = some (w, g, k)) : k ≤ p.length := by
  unfold badWorld at h
  obtain ⟨v, _, h⟩ := List.exists_of_findSome?_eq_some h
  obtain ⟨r, hr, e⟩ := Option.map_eq_some_iff.mp h
  unfold firstBad at hr
  obtain ⟨x, hx, e2⟩ := List.exists_of_findSome?_eq_some hr
  injection e with _ e
  injection e with _ e
  subst e
  obtain ⟨e, g'⟩ := x
  cases e with
  | fault j =>
    have := fault_lt hx
    injection e2 with e2
    rw [← e2]
    show j ≤ _
    omega
  | done v =>
    unfold badR at e2
    cases b with
    | none => cases e2
    | some t =>
      simp only at e2
      split at e2
      · cases e2
      · injection e2 with e2
        rw [← e2]
        exact Nat.le_refl _
def lastEnd : Nat → List Step → World → End
  | _, [], w => .done w
  | k, p :: l, w => match after w (free_ w) p with
    | none => .fault k
    | some v => lastEnd (k + 1) l v
theorem runs_last : ∀ (l : List Step) (k : Nat) (w : World) (got : List Nat), ∃ g, (runsOf k l w got).getLast? = some (lastEnd k l w, g)
  | [], k, w, got => ⟨got, rfl⟩
  | p :: l, k, w, got => by
    have hc : ∃ cs c, choicesOf w p = cs ++ [c] ∧ after w c p = after w (free_ w) p := by
      cases p with
      | new x => exact ⟨loose w, free_ w, rfl, rfl⟩
      | let_ x y => exact ⟨[], 0, rfl, rfl⟩
      | load x y => exact ⟨[], 0, rfl, rfl⟩
      | store x y => exact ⟨[], 0, rfl, rfl⟩
      | free x => exact ⟨[], 0, rfl, rfl⟩
    obtain ⟨cs, c, e1, e2⟩ := hc
    rw [runsOf_cons, e1, List.flatMap_append, List.flatMap_cons, List.flatMap_nil, List.append_nil]
    rw [lastEnd, ← e2]
    cases e3 : after w c p with
    | none =>
      refine ⟨got, ?_⟩
      simp
    | some v =>
      obtain ⟨g, hg⟩ := runs_last l (k + 1) v (gotOf p got c)
      refine ⟨g, ?_⟩
      simp only [List.getLast?_append, hg, Option.some_or]
theorem after_asc {w v : World} {c : Nat} {p : Step} (h : Asc w.heap) (e : after w c p = some v) : Asc v.heap := by
  cases p with
  | let_ x y => injection e with e; rw [← e]; exact h
  | load x y =>
    obtain ⟨z, _, e⟩ := Option.map_eq_some_iff.mp (show (at_ w.heap (val w y)).map _ = some v from e)
    rw [← e]
    exact h
  | store x y =>
    unfold after at e
    simp only at e
    split at e
    · injection e with e
      rw [← e]
      exact h.put
    · cases e
  | new x => injection e with e; rw [← e]; exact h.put
  | free x =>
    unfold after at e
    simp only at e
    split at e
    · injection e with e
      rw [← e]
      exact h.drop
    · cases e
theorem after_vals {w v : World} {c : Nat} {p : Step} (e : after w c p = some v) : v.vals.length = w.vals.length := by
  cases p with
  | let_ x y => injection e with e; rw [← e]; simp
  | load x y =>
    obtain ⟨z, _, e⟩ := Option.map_eq_some_iff.mp (show (at_ w.heap (val w y)).map _ = some v from e)
    rw [← e]
    simp
  | store x y =>
    unfold after at e
    simp only at e
    split at e
    · injection e with e
      rw [← e]
    · cases e
  | new x => injection e with e; rw [← e]; simp
  | free x =>
    unfold after at e
    simp only at e
    split at e
    · injection e with e
      rw [← e]
    · cases e
/-! ### worlds that are handed in -/
def evens {α : Type} : List α → List α
  | [] => []
  | [a] => [a]
  | a :: _ :: l => a :: evens l
theorem twos_even : ∀ {l : List Nat} {h : List (Nat × Nat)}, twos l = some h → l.length % 2 = 0 ∧ places h = evens l ∧ (h.map fun c => c.2) = evens (l.drop 1)
  | [], h, e => by
    injection e with e
    subst e
    exact ⟨rfl, rfl, rfl⟩
  | [a], h, e => by cases e
  | a :: b :: l, h, e => by
    obtain ⟨g, hg, e⟩ := Option.map_eq_some_iff.mp (show (twos l).map (fun r => (a, b) :: r) = some h from e)
    subst e
    obtain ⟨h1, h2, h3⟩ := twos_even hg
    refine ⟨by simp only [List.length_cons]; omega, by rw [show places ((a, b) :: g) = a :: places g from rfl, h2]; rfl, ?_⟩
    rw [List.map_cons, h3]
    cases l with
    | nil => rfl
    | cons c l => rfl
theorem twos_odd : ∀ {l : List Nat}, l.length % 2 = 0 → ∃ h, twos l = some h
  | [], _ => ⟨[], rfl⟩
  | [a], h => by cases h
  | a :: b :: l, h => by
    obtain ⟨g, hg⟩ := twos_odd (l := l) (by simp only [List.length_cons] at h; omega)
    exact ⟨(a, b) :: g, by rw [twos, hg]; rfl⟩
theorem rising_asc : ∀ {l : List Nat}, rising l = true ↔ l.Pairwise (· < ·)
  | [] => by simp [rising]
  | [a] => by simp [rising]
  | a :: b :: l => by
    have ih := rising_asc (l := b :: l)
    rw [rising, Bool.and_eq_true, decide_eq_true_iff, ih]
    constructor
    · rintro ⟨h1, h2⟩
      refine List.pairwise_cons.mpr ⟨fun x hx => ?_, h2⟩
      rcases List.mem_cons.mp hx with z | z
      · rw [z]; exact h1
      · exact Nat.lt_trans h1 ((List.pairwise_cons.mp h2).1 x z)
    · intro h
      obtain ⟨h1, h2⟩ := List.pairwise_cons.mp h
      exact ⟨h1 b (by simp), h2⟩
/-- as the program goes through places -/
def upFrom : Nat → List Nat → Bool
  | _, [] => true
  | low, a :: l => decide (low ≤ a) && upFrom (a + 1) l
theorem upFrom_rising : ∀ (l : List Nat) (a : Nat), upFrom (a + 1) l = rising (a :: l)
  | [], a => rfl
  | b :: l, a => by
    rw [upFrom, rising, upFrom_rising l b]
    rfl
def isWorld (n : Nat) (l : List Nat) : Bool := decide (n ≤ l.length) && (decide ((l.length - n) % 2 = 0) && upFrom 1 (evens (l.drop n)))
theorem worldOf_none {n : Nat} {l : List Nat} (h : isWorld n l = false) : worldOf n l = none := by
  unfold worldOf
  by_cases h1 : l.length < n
  · rw [if_pos h1]
  · rw [if_neg h1]
    cases e : twos (l.drop n) with
    | none => rfl
    | some g =>
      obtain ⟨h2, h3, _⟩ := twos_even e
      rw [List.length_drop] at h2
      unfold isWorld at h
      rw [decide_eq_true (by omega), decide_eq_true h2, Bool.true_and, Bool.true_and, ← h3, upFrom_rising] at h
      simp [h]
theorem worldOf_some {n : Nat} {l : List Nat} (h : isWorld n l = true) : ∃ g, worldOf n l = some ⟨0 :: l.take n, g⟩ ∧ n ≤ l.length ∧ Asc g ∧ places g = evens (l.drop n) ∧ (g.map fun c => c.2) = evens (l.drop (n + 1)) ∧ g.length ≤ l.length := by
  unfold isWorld at h
  simp only [Bool.and_eq_true, decide_eq_true_iff] at h
  obtain ⟨h1, h2, h3⟩ := h
  obtain ⟨g, hg⟩ := twos_odd (l := l.drop n) (by rw [List.length_drop]; exact h2)
  obtain ⟨_, h4, h5⟩ := twos_even hg
  rw [List.drop_drop] at h5
  rw [← h4, upFrom_rising] at h3
  refine ⟨g, ?_, h1, (List.pairwise_cons.mp (rising_asc.mp h3)).2, h4, h5, ?_⟩
  · unfold worldOf
    rw [if_neg (by omega), hg]
    simp [h3]
  · have hl : ∀ {α : Type} (l : List α), (evens l).length ≤ l.length := by
      intro α l
      induction l using evens.induct with
      | case1 => simp [evens]
      | case2 => simp [evens]
      | case3 a b l ih => simp only [evens, List.length_cons]; omega
    have := hl (l.drop n)
    rw [← h4, places, List.length_map, List.length_drop] at this
    omega
end Ph
namespace Ph
open PySem PySem.Spec PyProof.Rows L2
/-! ### xs[n::2] -/
theorem evens_map {α β : Type} (f : α → β) : ∀ l : List α, (evens l).map f = evens (l.map f)
  | [] => rfl
  | [_] => rfl
  | _ :: _ :: l => congrArg _ (evens_map f l)
theorem pick2 {α : Type} (l : List α) : ∀ (k i : Nat), l.length - i = k → (List.range ((l.length - i + 1) / 2)).filterMap (fun j => l[i + 2 * j]?) = evens (l.drop i) := by
  intro k
  induction k using Nat.strongRecOn with
  | _ k ih =>
    intro i hk
    by_cases h0 : l.length ≤ i
    · rw [List.drop_of_length_le h0, show (l.length - i + 1) / 2 = 0 by omega]
      rfl
    · have hi : i < l.length := by omega
      by_cases h1 : l.length = i + 1
      · rw [show (l.length - i + 1) / 2 = 1 by omega, List.drop_eq_getElem_cons hi, List.drop_of_length_le (by omega)]
        simp [evens, List.getElem?_eq_getElem hi]
      · have hi1 : i + 1 < l.length := by omega
        have := ih (l.length - (i + 2)) (by omega) (i + 2) rfl
        rw [show (l.length - i + 1) / 2 = (l.length - (i + 2) + 1) / 2 + 1 by omega, List.range_succ_eq_map, List.filterMap_cons, List.drop_eq_getElem_cons hi, List.drop_eq_getElem_cons hi1]
        simp only [Nat.mul_zero, Nat.add_zero, List.getElem?_eq_getElem hi, evens]
        rw [List.filterMap_map, ← this]
        have ef : ((fun j => l[i + 2 * j]?) ∘ Nat.succ) = fun j => l[i + 2 + 2 * j]? := funext fun j => by
          simp only [Function.comp]
          rw [show i + 2 * j.succ = i + 2 + 2 * j by omega]
        rw [ef]
theorem slice2 (its : List Value) (n : Nat) : slicePick its.toArray (some (n : Int)) none (some 2) = (evens (its.drop n)).toArray := by
  unfold slicePick sliceBounds
  simp only [Option.getD_some, List.size_toArray]
  rw [if_pos (by decide), if_neg (by omega : ¬ (n : Int) < 0), if_pos (by decide)]
  congr 1
  unfold sliceRange
  simp only
  rw [if_pos (by decide)]
  by_cases h : n < its.length
  · have e1 : max 0 (min (n : Int) (its.length : Int)) = (n : Int) := by omega
    rw [e1, if_pos (by omega), List.filterMap_map, ← pick2 its _ n rfl]
    rw [show (((its.length : Int) - (n : Int) + 2 - 1) / 2).toNat = (its.length - n + 1) / 2 by omega]
    congr 1
    refine funext fun j => ?_
    simp only [Function.comp]
    rw [show ((n : Int) + 2 * (j : Int)).toNat = n + 2 * j by omega]
    simp
  · have e1 : max 0 (min (n : Int) (its.length : Int)) = (its.length : Int) := by omega
    rw [e1, if_neg (by omega), List.drop_of_length_le (by omega)]
    rfl
def tStep2 (K : PySem.W.Frag) (te tl : TE) : TE := fun σ H Q => te σ H fun x H1 => tPart tl σ H1 fun o H2 => ∃ (a : Addr) (xs : List V) (n : Nat), x = .ref a ∧ o = some (n : Int) ∧ SqL K H2 a xs ∧ ∀ p, H2 p = none → Q (.ref p) (upd H2 p (.lst (evens (xs.drop n))))
section
variable {X : Cx} {e e2 : Expr} {te tl : TE} {k : Nat} {p1 p3 pos : Pos}
theorem evens_vals : ∀ {xs : List V} {us : List Value}, Vals xs us → Vals (evens xs) (evens us)
  | [], _, .nil => .nil
  | [_], _, .cons a .nil => .cons a .nil
  | _ :: _ :: _, _, .cons a (.cons _ r) => .cons a (evens_vals r)
theorem drop_vals : ∀ (n : Nat) {xs : List V} {us : List Value}, Vals xs us → Vals (xs.drop n) (us.drop n)
  | 0, _, _, r => r
  | _ + 1, _, _, .nil => .nil
  | n + 1, _, _, .cons _ r => drop_vals n r
theorem evens_le {α : Type} : ∀ l : List α, (evens l).length ≤ l.length
  | [] => Nat.le_refl _
  | [_] => Nat.le_refl _
  | _ :: _ :: l => by
    have := evens_le l
    simp only [evens, List.length_cons]
    omega
theorem pe_step2 (he : PE X e te) (hl : PE X e2 tl) : PE X (.Subscript e (.Slice (some e2) none (some (.Constant (.int 2) k p1)) p3) pos) (tStep2 X.K te tl) := by
  refine ⟨fun pins s σ H Q I h => Subscript_ (thn (he.run pins s σ H _ I h) fun v s1 q => ?_)⟩
  obtain ⟨x, H1, I1, r1, q1⟩ := q
  have hlo : PO X (some e2) (tPart tl) := po_some hl
  have hst : PO X (some (.Constant (.int 2) k p1)) (tPart (tC (.int 2))) := po_some pe_int
  refine wpAny_Slice (thn (hlo.run pins s1 σ H1 _ I1 q1) fun vl s2 q => ?_)
  obtain ⟨o, H2, I2, pl, a, xs, n, rfl, rfl, hx, q2⟩ := q
  cases r1
  refine thn (po_none.run pins s2 σ H2 (fun u H3 => u = none ∧ H3 = H2) I2 ⟨rfl, rfl⟩) fun vu s3 q => ?_
  obtain ⟨u, H3, I3, pu, rfl, rfl⟩ := q
  refine thn (hst.run pins s3 σ H3 (fun u H4 => u = some 2 ∧ H4 = H3) I3 ⟨2, rfl, rfl, rfl⟩) fun vs s4 q => ?_
  obtain ⟨u, H4, I4, pst, rfl, rfl⟩ := q
  have J : Inv X pins σ H4 { s4 with heap := s4.heap.push { cls := .type "slice", data := .fields #[vl, vu, vs] } } := by
    refine I4.kept (t' := s4.toks) fun b ob z => ?_
    exact Heap.get?_push_of_some _ z
  obtain ⟨us, rv, ht, hz⟩ := J.list hx
  have hlen := rv.length
  show wpAny (model X.prog X.w) X.A (subscriptTail e (.Slice (some e2) none (some (.Constant (.int 2) k p1)) p3) (.ref a) (.ref s4.heap.objs.size)) (EP X pins σ Q) X.xe { s4 with heap := s4.heap.push { cls := .type "slice", data := .fields #[vl, vu, vs] } }
  refine tail_any (ops := [.ref a, .ref s4.heap.objs.size]) ht.isList.typeIs (PySem.slot_list_getitem.lookup) ?_ (by with_unfolding_all rfl)
  refine wpAny_getItem_list_slice ht.isList (Heap.IsSliceOf.new _ vl vu vs) pl pu pst (by decide) ?_ (by rw [List.size_toArray, ← hlen]; exact hz)
  rw [slice2]
  have hsz : (evens (xs.drop n)).length ≤ sizeLine := by
    have h1 := evens_le (xs.drop n)
    rw [List.length_drop] at h1
    omega
  refine ⟨.ref _, _, J.laid (t' := s4.toks) (o := .lst (evens (xs.drop n))) (fun b ob z => Heap.get?_push_of_some _ z) (Nat.le_refl _) ?_, rfl, q2 _ (J.hok.fresh (Nat.le_refl _))⟩
  exact ⟨hsz, evens (us.drop n), 0, evens_vals (drop_vals n rv), Heap.get?_push_size _ rfl⟩
end
end Ph
namespace Ph
open PySem PySem.Spec PyProof.Rows L2
/-! ### set(xs) of a list of ints -/
abbrev bareSet (w : World) : Obj := { cls := .type "set", dict := none, data := .set #[] 0 (.fresh 0 0 (!w.params.followText "set-order")) }
section
variable {P : Program} {w : World} {A : Around} {E : Value → Shared → Prop} {s : Shared}
theorem set_of_list {l : Addr} {us : Array Value} (ns : List Int) {Q : Value → Shared → Prop} (calm : A.handled = none) (at_l : s.heap.IsList l us) (isI : IntsAre us.toList ns) (few : ns.length + 1 < scanBound)
    (goal : ∀ (h' : Heap) (tk c : Nat), SetR w h' s.heap.objs.size (fun j => decide (j ∈ ns)) c → c ≤ ns.length → (∀ b o, s.heap.get? b = some o → h'.get? b = some o) →
      Q (.ref s.heap.objs.size) { s with heap := h', toks := tk }) : wpAny (model P w) A (call (.type "set") [.ref l]) Q E s := by
  have size_us : us.size = ns.length := by
    rw [← Array.length_toList]
    exact IntsAre.length isI
  obtain ⟨c, tl, hmro⟩ := F.called_set.mro
  have made := F.called_set.made
  have subs := F.called_set.sub
  refine wpAny_call (codeAny_of_tree ?_)
  show wpAny _ _ (callAny (.type "set") _) _ _ _
  refine wpAny_pure ⟨Code.quiet_builtin _ (by decide +kernel), codeAny_builtin F.entry_type_call ?_⟩
  rw [Around.under_plain (weight_type_call_type "set" [.ref l] []) rfl]
  have t1 := F.called_set.notType
  have t2 := F.called_set.canCreate
  have t3 := F.typeCall_set_1 (.ref l)
  repeat (any_goals (first | assumption | wp_step))
  let s1 : Shared := { s with heap := s.heap.push (bareSet w) }
  refine codeAny_mono (code_set_led1 (.ref l) (E := E) (Q₁ := fun o s' => o = .ref s.heap.objs.size ∧ s' = s1) ⟨rfl, rfl⟩) fun r s' hr => ?_
  match r, hr with
  | .error e, hr => exact hr
  | .ok (.ret o), hr =>
    obtain ⟨rfl, rfl⟩ := hr
    have here : s1.heap.get? s.heap.objs.size = some (bareSet w) := Heap.get?_push_size _ rfl
    have typ : s1.TypeIs (.ref s.heap.objs.size) "set" := ⟨_, here, rfl⟩
    have i1 := F.called_set.init.lookup
    have i2 := F.called_set.init.bind (.ref s.heap.objs.size)
    repeat (any_goals (first | assumption | wp_step))
    refine codeAny_mono (codeAny_call_builtin (R := wants (fun r s₂ => r = .none ∧ ∃ h' tk c, s₂ = { s with heap := h', toks := tk } ∧ SetR w h' s.heap.objs.size (fun j => decide (j ∈ ns)) c ∧ c ≤ ns.length ∧ ∀ b o, s.heap.get? b = some o → h'.get? b = some o) E)
      F.called_set.init.plain F.entry_set_init (check_set_init_1 typ ?_)) fun r2 s2 hr2 => ?_
    · obtain ⟨ol, e1, e2, nl, e3⟩ := at_l
      obtain ⟨oc, od, odt, osl⟩ := ol
      simp only at e2 e3
      subst e2
      subst e3
      have e4 : s1.heap.get? l = some { cls := .type "list", dict := od, data := .seq us nl, slots := osl } := Heap.get?_push_of_some _ e1
      have n1 := F.sub_list_set
      have n2 := F.sub_list_frozenset
      have n3 : (Value.type "list" == Value.type "dict") = false := by decide
      have L1 : s1.heap.IsList l us := ⟨_, e4, rfl, nl, rfl⟩
      have lS : l < s.heap.objs.size := Heap.lt_size e1
      have zS : s1.heap.objs.size = s.heap.objs.size + 1 := Heap.size_push ..
      unfold Builtin.«set.__init__» noKeywords Builtin.Frozenset.updateFrom
      generalize hPI : pyIter = PI
      wp_walk
      subst hPI
      refine wpAny_pyIter_list L1 (wpAny_bind (wpAny_runValue ?_))
      have calm3 : A.in1.in1.in1.handled = none := by simp [calm]
      have lI : l ≠ s1.heap.objs.size := by
        rw [zS]
        exact Nat.ne_of_lt (Nat.lt_succ_of_lt lS)
      have outer : s.heap.objs.size ∉ [s1.heap.objs.size, l] := by
        simp only [List.mem_cons, List.not_mem_nil, or_false, not_or]
        rw [zS]
        exact ⟨Nat.ne_of_lt (Nat.lt_succ_self _), Nat.ne_of_gt lS⟩
      have vals : ∀ (i : Nat) (v : Value), us[i]? = some v → ∃ k t, ns[i]? = some k ∧ v = .int k t := fun i v hv => by
        have hi : i < ns.length := by
          rw [← size_us]
          exact (Array.getElem?_eq_some_iff.mp hv).1
        obtain ⟨t, e⟩ := PyProof.Rows.IntsAre.int_at isI i v (by rw [Array.getElem?_toList]; exact hv)
        exact ⟨ns[i], t, List.getElem?_eq_getElem hi, by rw [e]; simp [List.getD_eq_getElem?_getD, hi]⟩
      refine set_update_ints ((Walks.list calm3 _ l lI us).toS) s.heap.objs.size outer ns size_us few vals (us.size - 0) 0 _ (by omega) (Nat.zero_le _) ⟨⟨_, Heap.get?_push_size _ rfl, rfl, rfl⟩, L1.push _⟩ ?start ?fine
      case start => exact ⟨0, Nat.le_refl 0, setR_new_at (Heap.get?_push_of_some _ here)⟩
      case fine =>
        intro s3 c3 mv le3 R3
        obtain ⟨h3, g3, d3, t3, o3⟩ := s3
        obtain rfl : g3 = s.gens := mv.gens
        obtain rfl : d3 = s.drawn := mv.drawn
        obtain rfl : o3 = s.os := mv.os
        show wpAny _ _ _ _ _ _
        refine wpAny_pure ?_
        show wpAny _ _ (ret Value.none) _ _ _
        refine wpAny_pure ⟨rfl, h3, t3, c3, rfl, R3, by omega, fun b o e => ?_⟩
        have hb := Heap.lt_size e
        refine mv.heap b o ?_ (Heap.get?_push_of_some _ (Heap.get?_push_of_some _ e))
        simp only [List.mem_cons, List.not_mem_nil, or_false, not_or]
        rw [zS]
        exact ⟨Nat.ne_of_lt hb, Nat.ne_of_lt (Nat.lt_succ_of_lt hb)⟩
    · match r2, hr2 with
      | .error e, hr2 => exact hr2
      | .ok (.ret v), hr2 =>
        obtain ⟨rfl, h3, t3, c3, rfl, R3, le3, k3⟩ := hr2
        repeat (any_goals (first | assumption | wp_step))
        exact goal _ _ _ R3 le3 k3
end
section
variable {X : Cx}
def rSetL (K : PySem.W.Frag) (w : World) : List V → Hp → VK → Prop := fun vs H Q => ∃ (l : Addr) (ns : List Int), vs = [.ref l] ∧ SqL K H l (ns.map V.int) ∧ ns.length ≤ 1000 ∧
  ∀ (a : Addr) (S : Int → Bool) (n : Nat), H a = none → (∀ k, S k = true ↔ k ∈ ns) → n ≤ ns.length → Q (.ref a) (upd H a (SetO w a S n))
theorem cr_setL (calm : X.calm = true) : CallR X (.type "set") (rSetL X.K X.w) := by
  intro pins s σ H vs us Q I r h
  obtain ⟨l, ns, rfl, hl, few, q⟩ := h
  rw [Vals.ref1 r]
  obtain ⟨its, rv, pl, hz⟩ := I.list hl
  refine set_of_list ns (I.ok.hd calm) pl.isList (by simpa using RZ.intsAre_vals rv) (by unfold scanBound; omega) fun h' tk c R le k => ?_
  have J : Inv X pins σ (upd H s.heap.objs.size (SetO X.w s.heap.objs.size (fun j => decide (j ∈ ns)) c)) { s with heap := h', toks := tk } := I.laid (t' := tk) k (Nat.le_refl _) (setO_new R)
  exact ⟨.ref _, _, J, rfl, q _ _ _ (I.hok.fresh (Nat.le_refl _)) (fun k => by simp) le⟩
/-- len of a set -/
def rLenSet (w : World) : List V → Hp → VK → Prop := fun vs H Q => ∃ (a : Addr) (S : Int → Bool) (n : Nat), vs = [.ref a] ∧ H a = some (SetO w a S n) ∧ ∀ ks : List Int, ks.Nodup → (∀ k, k ∈ ks ↔ S k = true) → ks.length = n → Q (.int n) H
theorem cr_lenSet : CallR X (.builtin "len") (rLenSet X.w) := by
  intro pins s σ H vs us Q I r h
  obtain ⟨a, S, n, rfl, ha, q⟩ := h
  rw [Vals.ref1 r]
  have R := setO_get I ha
  obtain ⟨o, es, ep, t, ho, ex, hd, gd, nd, mem, few, fit, rfl, _, _⟩ := R
  refine call_len_set ho ex hd fit (by unfold scanBound at few; omega) ?_
  exact ⟨.int es.size, H, I.tok _, ⟨_, rfl⟩, q (es.toList.map keyOf) nd (fun k => (mem k).symm) (by simp)⟩
end
end Ph
namespace Ph
open PySem PySem.Spec PyProof.Rows L2
section
variable {X : Cx}
/-- sorted(d), all keys ints, of any number -/
def rSortD : List V → Hp → VK → Prop := fun vs H Q => ∃ (d : Addr) (kvs : List (Key × V)) (ks : List Int), vs = [.ref d] ∧ Rd H d (.dK kvs) ∧ kvs.map (·.1) = ks.map Sum.inl ∧
  ∀ (ys : List Int) (p : Addr), ys.Perm ks → ys.Pairwise (· ≤ ·) → H p = none → Q (.ref p) (upd H p (.lst (ys.map V.int)))
theorem cr_sortD (calm : X.calm = true) : CallR X (.builtin "sorted") rSortD := by
  intro pins s σ H vs us Q I r h
  obtain ⟨d, kvs, ks, rfl, hd, keys, q⟩ := h
  rw [Vals.ref1 r]
  obtain ⟨small, own, raw, rel, dict⟩ := dk_rd I.hok hd
  obtain ⟨ep, here⟩ := dict.dictAt
  have rkeys : raw.map (·.1) = ks.map Sum.inl := by
    rw [← keys]
    exact rel.keys.symm
  have rlen : raw.length = ks.length := by simpa using congrArg List.length rkeys
  have fits : raw.length ≤ sizeLine := by
    rw [← rel.length]
    exact small
  refine Calls.call_function_entry PyProof.Rows.kind_sorted PyProof.Rows.plain_sorted PyProof.Rows.entry_sorted (PyProof.Rows.args_sorted1 _) ?_
  unfold Builtin.«sorted»
  refine wpAny_bind (m := checkCount "sorted" 1 1 _) (wpAny_pure (wpAny_bind ?_))
  refine PySem.W.kdu_collect (A := X.A.in1) (PySem.W.kdl_dict (knd := mixKind X.prog X.w) (kvs := raw) (ep := ep) own) (I.ok.hd calm) here fits fun h1 tk acc kept got => ?_
  have alen : acc.toList.length = ks.length := by
    rw [Array.length_toList, got.1, rlen]
  have isI : IntsAre acc.toList ks := by
    refine ints_each alen fun j v hv => ?_
    rw [Array.getElem?_toList] at hv
    obtain ⟨k, x, e1, e2⟩ := got.2 j v hv
    have e3 : (raw.map (·.1))[j]? = some k := by simp [e1]
    rw [rkeys, List.getElem?_map, Option.map_eq_some_iff] at e3
    obtain ⟨y, e4, rfl⟩ := e3
    rcases keyIs_shape (show keyIs (Sum.inl y) v = true from e2) with ⟨i, t, ek, ev⟩ | ⟨z, t, ek, _⟩
    · exact ⟨y, t, e4, by rw [ev, Sum.inl.inj ek]⟩
    · cases ek
  have J : Inv X pins σ H { s with heap := h1, toks := tk } := I.kept kept
  have zl : acc.toList.length ≤ sizeLine := by omega
  refine wpAny_bind (wpAny_newList ?_ zl)
  have hob : (h1.push (seqObj "list" acc.toList.toArray 0)).get? h1.objs.size = some (seqObj "list" acc.toList.toArray 0) := by
    exact Heap.get?_push_size _ rfl
  show wpAny _ _ _ _ _ { s with heap := h1.push (seqObj "list" acc.toList.toArray 0), toks := tk }
  refine wpAny_bind (wpAny_holding (wpAny_call_entry PyProof.Rows.slot_list_sort ⟨_, hob, rfl⟩ PyProof.Rows.entry_list_sort
    (SrtO.list_sort_ord (s := { s with heap := h1.push (seqObj "list" acc.toList.toArray 0), toks := tk }) SrtO.swo_int hob zl (fun h2 => SrtO.ints_sortable isI h2) fun out o1 o2 => ⟨.none, rfl, ?_⟩) (PyProof.Rows.args_list_sort _)))
  obtain ⟨k1, k2, k3⟩ := SrtO.ints_out isI o1 o2
  obtain ⟨ep2, at2⟩ := PyProof.Rows.sortedHeap_at (vs := acc.toList) (out := out.toArray) hob
  have olen : ((out.map SrtO.iv).map V.int).length ≤ sizeLine := by
    rw [List.length_map, k2.length_eq]
    omega
  refine wpAny_pure ⟨_, rfl, .ref h1.objs.size, upd H h1.objs.size (.lst ((out.map SrtO.iv).map V.int)), J.laid (t' := tk) (fun b u e => ?_) (Nat.le_refl _) ⟨olen, out, ep2, vals_of_ints k1, at2⟩, rfl, q _ _ k2 k3 (J.hok.fresh (Nat.le_refl _))⟩
  have hb : b < h1.objs.size := Heap.lt_size e
  rw [PyProof.Rows.sortedHeap_old (Nat.ne_of_lt hb) (by rw [size_push']; exact Nat.lt_succ_of_lt hb)]
  exact Heap.get?_push_of_some _ e
end
end Ph
namespace Ph
open PySem PySem.Spec PyProof.Rows L2
theorem paired_at {α β : Type} {R : α → β → Prop} : ∀ {l : List α} {m : List β}, Paired R l m → ∀ {i : Nat} {x : α}, l[i]? = some x → ∃ y, m[i]? = some y ∧ R x y
  | _, _, .cons r _, 0, _, h => ⟨_, rfl, Option.some.inj h ▸ r⟩
  | _, _, .cons _ t, i + 1, _, h => paired_at t (i := i) h
/-- list(d.values()) -/
def tVals (te : TE) : TE := fun σ H Q => te σ H fun x H1 => ∃ (d : Addr) (kvs : List (Key × V)), x = .ref d ∧ H1 d = some (.dK kvs) ∧ ∀ p, H1 p = none → Q (.ref p) (upd H1 p (.lst (kvs.map fun kv => kv.2)))
section
variable {X : Cx} {e : Expr} {te : TE} {p apos cpos pos : Pos}
theorem pe_listVals (calm : X.calm = true) (he : PE X e te) (hg : Gl X "list") (hm : X.mg "list" = none) (hbase : attributeBase e "values" X.env (eval e X.env) = eval e X.env := by rfl) (hline : (apos.endLine == cpos.line) = true := by rfl)
    (hs : starEach [.Call (.Attribute e "values" apos) [] [] cpos] X.env = (false, eval (.Call (.Attribute e "values" apos) [] [] cpos) X.env) :: starEach [] X.env := by rfl) :
    PE X (.Call (.Name "list" p) [.Call (.Attribute e "values" apos) [] [] cpos] [] pos) (tVals te) := by
  refine ⟨fun pins s σ H Q I hq => wpAny_Call_Name_kw (ld_blt I hg hm (by decide +kernel : bootBuiltins "list" = some (.type "list")) (PyProof.Rows.callWith_type1 ?_ hs rfl))⟩
  rw [hs]
  show wpAny _ _ (spliced ((false, eval (.Call (.Attribute e "values" apos) [] [] cpos) X.env) :: backTo pos (starEach [] X.env))) _ _ s
  refine Calls.spliced_cons (wpAny_Call_method (T := "dict") (id := "dict.values") hbase rfl hline F.plainAttrs_dict F.slot_dict_values F.type_dict_values (thn (he.run pins s σ H _ I hq) fun u s1 z => ?_))
  obtain ⟨x, H1, I1, rx, d, kvs, rfl, hd, q⟩ := z
  obtain rfl : u = Value.ref d := rx
  obtain ⟨small, own, raw, rel, dict⟩ := I1.hok d _ hd
  obtain ⟨ep, here⟩ := dict.dictAt
  have len : kvs.length = raw.length := Paired.length rel
  have J : Inv X pins σ H1 { s1 with heap := s1.heap.push { cls := .type "dict_values", data := .fields #[.ref d] } } := by
    refine I1.kept (t' := s1.toks) fun b ob z => ?_
    exact Heap.get?_push_of_some _ z
  refine ⟨dict.typeIs, dict.mapOf.noDict, ?_⟩
  show wpAny _ _ (callWith cpos (.builtin "dict.values") [.ref d] [] []) _ X.xe s1
  refine method_meetsIn F.slot_dict_values F.entry_dict_values rfl (PySem.evalArgs_none ⟨rfl, dict.typeIs, F.args_dict_values_1 _, _, meets_dict_values (mixKind X.prog X.w) d own, ⟨raw, dict⟩, Calls.spliced_nil ?_⟩)
  refine PySem.W.kdl_call (PySem.W.kdl_values (knd := mixKind X.prog X.w) (kvs := raw) (ep := ep) (r := s1.heap.objs.size) (d := d)) (I1.ok.hd calm) ⟨⟨_, Heap.get?_push_size _ rfl, rfl, rfl⟩, here.push _⟩ (by omega) fun h2 tk acc c kept at2 got => ?_
  refine ⟨.ref _, _, J.laid (t' := tk) (o := .lst (kvs.map fun kv => kv.2)) kept (Nat.le_refl _) ⟨by rw [List.length_map]; exact small, acc.toList, c, ?_, by rw [Array.toArray_toList]; exact at2⟩, rfl, q _ (J.hok.fresh (Nat.le_refl _))⟩
  have alen : acc.toList.length = raw.length := by
    rw [← got.1]
    exact Array.length_toList
  refine vals_of_at (by rw [List.length_map, alen, len]) fun j x v h1 h2 => ?_
  rw [Array.getElem?_toList] at h2
  obtain ⟨k, hk⟩ := got.2 j v h2
  rw [List.getElem?_map, Option.map_eq_some_iff] at h1
  obtain ⟨kv, e1, rfl⟩ := h1
  obtain ⟨y, e2, e3, e4⟩ := paired_at rel e1
  rw [hk] at e2
  cases e2
  exact e4
end
end Ph
namespace Ph
open PySem PySem.Spec PyProof.Rows L2
section
variable {M : Model} {prog : Program} {w : World} {A : Around} {E : Value → Shared → Prop} {s : Shared}
theorem alive {a : Addr} {Q : Option Obj → Shared → Prop} (h : Q (s.heap.get? a) s) : wpAny M A (loadIfAlive a) Q E s := fun _ _ _ => h
/-- a list's iterator, asked for what's next, or its end -/
theorem nextE_item {it l : Addr} {i : Nat} {us : Array Value} {x : Value} {Q : Option Value → Shared → Prop} (hit : s.heap.IsListIter it l i) (hl : s.heap.IsList l us) (hx : us[i]? = some x)
    (q : ∀ h', h'.IsListIter it l (i + 1) → Heap.SameBut it s.heap h' → Q (some x) { s with heap := h' }) : wpAny (model prog w) A (Builtin.SmallTypes.nextOrEnd (.ref it)) Q E s := by
  unfold Builtin.SmallTypes.nextOrEnd
  exact wpAny_bind (wpAny_attempt (wpAny_nextOf_list_item hit hl hx fun h' a b => wpAny_pure (q h' a b)))
theorem nextE_end {it l : Addr} {i : Nat} {us : Array Value} {Q : Option Value → Shared → Prop} (calm : A.handled = none) (hit : s.heap.IsListIter it l i) (hl : s.heap.IsList l us) (hx : us[i]? = none)
    (q : ∀ h', Heap.ExtBut it s.heap h' → Q none { s with heap := h' }) : wpAny (model prog w) A (Builtin.SmallTypes.nextOrEnd (.ref it)) Q E s := by
  unfold Builtin.SmallTypes.nextOrEnd
  refine wpAny_bind (wpAny_attempt (wpAny_nextOf_list_end calm hit hl hx fun h' e a b => ?_))
  obtain ⟨o, ho, hc⟩ := b
  exact wpAny_bind (wpAny_isInstance (T := "StopIteration") (b := true) ⟨o, ho, hc⟩ isSubtype_stop (wpAny_pure (q h' a)))
/-- zip(.., strict=True) -/
abbrev ZipS (h : Heap) (z TI TO : Addr) (f0 f1 : Value) : Prop := h.get? z = some { cls := .type "zip", dict := none, data := .fields #[f0, f1, .bool true, .ref TI, .ref TO], slots := #[] }
structure ZipAt (h : Heap) (z TI TO i1 i2 l1 l2 d : Addr) (k : Nat) : Prop where
  zip : ∃ f0 f1, ZipS h z TI TO f0 f1 ∧ (f0 = .none ∨ ∃ (T : Addr) (o : Obj), f0 = rawInt T ∧ h.get? T = some o ∧ T ≠ d)
  tin : IsPair h TI (.ref i1) (.ref i2)
  tout : ∃ a b, IsPair h TO a b
  one : h.IsListIter i1 l1 k
  two : h.IsListIter i2 l2 k
theorem zipS_item {z TI TO i1 i2 l1 l2 d : Addr} {k : Nat} {xs ys : Array Value} {x y : Value} {Q : Value → Shared → Prop} (D : ZipApart z TI TO i1 i2 l1 l2) (Z : ZipAt s.heap z TI TO i1 i2 l1 l2 d k)
    (hl1 : s.heap.IsList l1 xs) (hl2 : s.heap.IsList l2 ys) (hx : xs[k]? = some x) (hy : ys[k]? = some y) (hd : d < s.heap.objs.size)
    (q : ∀ h' T, ZipAt h' z TI TO i1 i2 l1 l2 d (k + 1) → IsPair h' T x y → s.heap.objs.size ≤ T → (∀ c o, c ≠ z → c ≠ TO → c ≠ i1 → c ≠ i2 → s.heap.get? c = some o → h'.get? c = some o) → Q (.ref T) { s with heap := h' }) :
    wpAny (model prog w) A (Builtin.«zip.__next__» ⟨[.ref z], []⟩) (fun fin s' => ∃ v, fin = .done (.ret v) ∧ Q v s') E s := by
  obtain ⟨⟨f0, f1, hz, hf⟩, hTI, ⟨a, b, hTO⟩, h1, h2⟩ := Z
  show wpAny _ _ (field (.ref z) 2 >>= _) _ _ _
  refine wpAny_bind (wpAny_field hz rfl (x := .bool true) rfl ?_)
  show wpAny _ _ (field (.ref z) 3 >>= _) _ _ _
  refine wpAny_bind (wpAny_field hz rfl (x := .ref TI) rfl (wpAny_bind (wpAny_seqItems hTI rfl ?_)))
  show wpAny _ _ (Builtin.SmallTypes.ownedTupleIsFree (.ref z) >>= _) _ _ _
  refine wpAny_bind ?_
  unfold Builtin.SmallTypes.ownedTupleIsFree
  refine wpAny_bind (wpAny_field hz rfl (x := f0) rfl ?_)
  rcases hf with rfl | ⟨T, o, rfl, hT, hTd⟩
  · refine wpAny_pure ?_
    simp only [if_true]
    refine wpAny_bind (wpAny_rule (wpAny_bind (wpAny_field hz rfl (x := .ref TO) rfl ?_)))
    refine wpAny_bind (wpAny_setField_rec hz (by simp) fun g1 z1 k1 => ?_)
    replace z1 : ZipS g1 z TI TO .ellipsis f1 := z1
    refine wpAny_bind ?_
    simp only [List.zipIdx_cons, List.zipIdx_nil, List.forIn_cons, List.forIn_nil]
    refine wpAny_bind (wpAny_bind (wpAny_onRaise ?_))
    show wpAny _ _ (Builtin.SmallTypes.nextOrEnd (.ref i1)) _ _ _
    refine nextE_item (h1.extBut k1.extBut D.i1z) (hl1.extBut k1.extBut D.l1z) hx fun g2 a2 k2 => ?_
    have b2 : IsPair g2 TO a b := k2.extBut _ _ D.TOi1 (k1.extBut _ _ D.TOz hTO)
    refine wpAny_bind (wpAny_seqItems b2 rfl (wpAny_bind (wpAny_updateSeq_pair b2 fun g3 b3 k3 => ?_)))
    replace b3 : IsPair g3 TO x b := b3
    refine wpAny_bind (wpAny_letGo (wpAny_pure (wpAny_bind (wpAny_bind (wpAny_onRaise ?_)))))
    show wpAny _ _ (Builtin.SmallTypes.nextOrEnd (.ref i2)) _ _ _
    refine nextE_item (((h2.extBut k1.extBut D.i2z).extBut k2.extBut D.i12.symm).extBut k3.extBut D.TOi2.symm) (((hl2.extBut k1.extBut D.l2z).extBut k2.extBut D.l2i1).extBut k3.extBut D.l2TO) hy fun g4 a4 k4 => ?_
    have b4 : IsPair g4 TO x b := k4.extBut _ _ D.TOi2 b3
    refine wpAny_bind (wpAny_seqItems b4 rfl (wpAny_bind (wpAny_updateSeq_pair b4 fun g5 b5 k5 => ?_)))
    replace b5 : IsPair g5 TO x y := b5
    refine wpAny_bind (wpAny_letGo (wpAny_pure (wpAny_pure (wpAny_bind (wpAny_seqItems b5 rfl (wpAny_bind (wpAny_newTuple ?_)))))))
    have sz : g5.objs.size = s.heap.objs.size := by rw [k5.1, k4.1, k3.1, k2.1, k1.1]
    have z5 : ZipS g5 z TI TO .ellipsis f1 := k5.extBut _ _ D.TOz.symm (k4.extBut _ _ D.i2z.symm (k3.extBut _ _ D.TOz.symm (k2.extBut _ _ D.i1z.symm z1)))
    have old : ∀ c o, c ≠ z → c ≠ TO → c ≠ i1 → c ≠ i2 → s.heap.get? c = some o → g5.get? c = some o := fun c o c1 c2 c3 c4 e => k5.extBut _ _ c2 (k4.extBut _ _ c4 (k3.extBut _ _ c2 (k2.extBut _ _ c3 (k1.extBut _ _ c1 e))))
    have o1 : g5.IsListIter i1 l1 (k + 1) := ((a2.extBut k3.extBut D.TOi1.symm).extBut k4.extBut D.i12).extBut k5.extBut D.TOi1.symm
    have o2 : g5.IsListIter i2 l2 (k + 1) := a4.extBut k5.extBut D.TOi2.symm
    have zlt : z < g5.objs.size := Heap.lt_size z5
    show wpAny _ _ (Builtin.SmallTypes.ownedTupleHandOut (.ref z) (.ref g5.objs.size) >>= _) _ _ _
    refine wpAny_bind ?_
    unfold Builtin.SmallTypes.ownedTupleHandOut
    have z6 : ZipS (g5.push { cls := .type "tuple", data := .seq #[x, y] }) z TI TO .ellipsis f1 := Heap.get?_push_of_some _ z5
    refine wpAny_bind (wpAny_setField_rec z6 (by simp) fun g7 z7 k7 => ?_)
    replace z7 : ZipS g7 z TI TO (rawInt g5.objs.size) f1 := z7
    refine wpAny_setField_rec z7 (by simp) fun g8 z8 k8 => ?_
    replace z8 : ZipS g8 z TI TO (rawInt g5.objs.size) (.bool false) := z8
    have up : ∀ c o, c ≠ z → g5.get? c = some o → g8.get? c = some o := fun c o c1 e => k8.extBut _ _ c1 (k7.extBut _ _ c1 (Heap.get?_push_of_some _ e))
    have new : IsPair g8 g5.objs.size x y := k8.extBut _ _ (Nat.ne_of_gt zlt) (k7.extBut _ _ (Nat.ne_of_gt zlt) (Heap.get?_push_size _ rfl))
    refine wpAny_pure ⟨_, rfl, q g8 g5.objs.size ⟨⟨_, _, z8, .inr ⟨_, _, rfl, new, by rw [sz]; exact Nat.ne_of_gt hd⟩⟩, ?_, ⟨x, y, up _ _ D.TOz b5⟩, o1.at fun o e => up _ o D.i1z e, o2.at fun o e => up _ o D.i2z e⟩ new (by rw [sz]; exact Nat.le_refl _) fun c o c1 c2 c3 c4 e => up c o c1 (old c o c1 c2 c3 c4 e)⟩
    exact up _ _ D.TIz (old _ _ D.TIz D.TITO D.TIi1 D.TIi2 hTI)
  · show wpAny _ _ (loadIfAlive (T : Int).toNat >>= _) _ _ _
    refine wpAny_bind (alive ?_)
    rw [Int.toNat_natCast, hT]
    show wpAny _ _ (field (.ref z) 1 >>= _) _ _ _
    refine wpAny_bind (wpAny_field hz rfl (x := f1) rfl ?_)
    by_cases hb : (f1 != Value.bool true) = true
    · rw [if_pos hb]
      refine wpAny_bind (wpAny_setField_rec hz (by simp) fun g0 z0 k0 => wpAny_pure ?_)
      replace z0 : ZipS g0 z TI TO (rawInt T) (.bool true) := z0
      simp only [Bool.false_eq_true, if_false]
      refine wpAny_bind ?_
      rw [← Array.forIn_toList]
      simp only [List.forIn_cons, List.forIn_nil]
      refine wpAny_bind (wpAny_bind (wpAny_holding ?_))
      show wpAny _ _ (Builtin.SmallTypes.nextOrEnd (.ref i1)) _ _ _
      refine nextE_item (h1.extBut k0.extBut D.i1z) (hl1.extBut k0.extBut D.l1z) hx fun g2 a2 k2 => wpAny_pure (wpAny_bind (wpAny_bind (wpAny_holding ?_)))
      show wpAny _ _ (Builtin.SmallTypes.nextOrEnd (.ref i2)) _ _ _
      refine nextE_item ((h2.extBut k0.extBut D.i2z).extBut k2.extBut D.i12.symm) ((hl2.extBut k0.extBut D.l2z).extBut k2.extBut D.l2i1) hy fun g4 a4 k4 => wpAny_pure (wpAny_pure (wpAny_bind (wpAny_newTuple ?_ (by show 2 ≤ sizeLine; decide))))
      have up : ∀ c o, c ≠ i1 → c ≠ i2 → g0.get? c = some o → (g4.push { cls := .type "tuple", data := .seq #[x, y] }).get? c = some o := fun c o c1 c2 e => Heap.get?_push_of_some _ (k4.extBut _ _ c2 (k2.extBut _ _ c1 e))
      have sz : g4.objs.size = s.heap.objs.size := by rw [k4.1, k2.1, k0.1]
      have alv : ∃ o', (g4.push { cls := .type "tuple", data := .seq #[x, y] }).get? T = some o' := by
        by_cases t1 : T = i1
        · obtain ⟨o', e, _⟩ := a2
          exact ⟨o', Heap.get?_push_of_some _ (k4.extBut _ _ (by rw [t1]; exact D.i12) (by rw [t1]; exact e))⟩
        · by_cases t2 : T = i2
          · obtain ⟨o', e, _⟩ := a4
            exact ⟨o', Heap.get?_push_of_some _ (by rw [t2]; exact e)⟩
          · by_cases t3 : T = z
            · exact ⟨_, up T _ t1 t2 (by rw [t3]; exact z0)⟩
            · exact ⟨_, up T _ t1 t2 (k0.extBut _ _ t3 hT)⟩
      obtain ⟨o', hT'⟩ := alv
      refine wpAny_pure ⟨_, rfl, q _ g4.objs.size ⟨⟨_, _, up _ _ D.i1z.symm D.i2z.symm z0, .inr ⟨T, o', rfl, hT', hTd⟩⟩, up _ _ D.TIi1 D.TIi2 (k0.extBut _ _ D.TIz hTI), ⟨a, b, up _ _ D.TOi1 D.TOi2 (k0.extBut _ _ D.TOz hTO)⟩, ?_, ?_⟩ (Heap.get?_push_size _ rfl) (by rw [sz]; exact Nat.le_refl _) fun c o c1 c2 c3 c4 e => up c o c3 c4 (k0.extBut _ _ c1 e)⟩
      · exact (a2.extBut k4.extBut D.i12).at fun o e => Heap.get?_push_of_some _ e
      · exact a4.at fun o e => Heap.get?_push_of_some _ e
    · rw [if_neg hb]
      refine wpAny_pure ?_
      simp only [Bool.false_eq_true, if_false]
      refine wpAny_bind ?_
      rw [← Array.forIn_toList]
      simp only [List.forIn_cons, List.forIn_nil]
      refine wpAny_bind (wpAny_bind (wpAny_holding ?_))
      show wpAny _ _ (Builtin.SmallTypes.nextOrEnd (.ref i1)) _ _ _
      refine nextE_item h1 hl1 hx fun g2 a2 k2 => wpAny_pure (wpAny_bind (wpAny_bind (wpAny_holding ?_)))
      show wpAny _ _ (Builtin.SmallTypes.nextOrEnd (.ref i2)) _ _ _
      refine nextE_item (h2.extBut k2.extBut D.i12.symm) (hl2.extBut k2.extBut D.l2i1) hy fun g4 a4 k4 => wpAny_pure (wpAny_pure (wpAny_bind (wpAny_newTuple ?_ (by show 2 ≤ sizeLine; decide))))
      have up : ∀ c o, c ≠ i1 → c ≠ i2 → s.heap.get? c = some o → (g4.push { cls := .type "tuple", data := .seq #[x, y] }).get? c = some o := fun c o c1 c2 e => Heap.get?_push_of_some _ (k4.extBut _ _ c2 (k2.extBut _ _ c1 e))
      have sz : g4.objs.size = s.heap.objs.size := by rw [k4.1, k2.1]
      have alv : ∃ o', (g4.push { cls := .type "tuple", data := .seq #[x, y] }).get? T = some o' := by
        by_cases t1 : T = i1
        · obtain ⟨o', e, _⟩ := a2
          exact ⟨o', Heap.get?_push_of_some _ (k4.extBut _ _ (by rw [t1]; exact D.i12) (by rw [t1]; exact e))⟩
        · by_cases t2 : T = i2
          · obtain ⟨o', e, _⟩ := a4
            exact ⟨o', Heap.get?_push_of_some _ (by rw [t2]; exact e)⟩
          · exact ⟨_, up T _ t1 t2 hT⟩
      obtain ⟨o', hT'⟩ := alv
      refine wpAny_pure ⟨_, rfl, q _ g4.objs.size ⟨⟨_, _, up _ _ D.i1z.symm D.i2z.symm hz, .inr ⟨T, o', rfl, hT', hTd⟩⟩, up _ _ D.TIi1 D.TIi2 hTI, ⟨a, b, up _ _ D.TOi1 D.TOi2 hTO⟩, ?_, ?_⟩ (Heap.get?_push_size _ rfl) (by rw [sz]; exact Nat.le_refl _) fun c o c1 c2 c3 c4 e => up c o c3 c4 e⟩
      · exact (a2.extBut k4.extBut D.i12).at fun o e => Heap.get?_push_of_some _ e
      · exact a4.at fun o e => Heap.get?_push_of_some _ e
theorem stopNew {α : Type} {Q : α → Shared → Prop} (calm : A.handled = none) (q : ∀ h' e, (∀ c o, s.heap.get? c = some o → h'.get? c = some o) → (∃ o, h'.get? e = some o ∧ o.cls = .type "StopIteration") → E (.ref e) { s with heap := h' }) :
    wpAny (model prog w) A (Builtin.SmallTypes.stopIteration : Sem α) Q E s := by
  show wpAny _ _ (newExc (.type "StopIteration") [] >>= _) _ _ _
  refine wpAny_bind ?_
  simp only [newExc, newTuple]
  refine wpAny_bind (wpAny_newObj_type ?_ (by size_fits))
  refine wpAny_bind (m := firstArgMember _ _) (wpAny_of_eq (a := Value.none) (by first | rfl | (simp only [firstArgMember]; rfl)) (wpAny_newObj_type ?_ (by size_fits)))
  simp only [raiseNew]
  refine wpAny_bind (wpAny_handled ?_)
  first | rw [show A.in1.handled = none from calm] | rw [calm]
  refine wpAny_bind (wpAny_pure (wpAny_throw (q _ _ (fun c o e => Heap.get?_push_of_some _ (Heap.get?_push_of_some _ e)) ⟨_, Heap.get?_push_size _ rfl, rfl⟩)))
theorem zipS_end {z TI TO i1 i2 l1 l2 d : Addr} {k : Nat} {xs ys : Array Value} {Q : Fin → Shared → Prop} (calm : A.handled = none) (D : ZipApart z TI TO i1 i2 l1 l2) (Z : ZipAt s.heap z TI TO i1 i2 l1 l2 d k)
    (hl1 : s.heap.IsList l1 xs) (hl2 : s.heap.IsList l2 ys) (hx : xs[k]? = none) (hy : ys[k]? = none)
    (q : ∀ h' e, (∀ c o, c ≠ z → c ≠ TO → c ≠ i1 → c ≠ i2 → s.heap.get? c = some o → h'.get? c = some o) → (∃ o, h'.get? e = some o ∧ o.cls = .type "StopIteration") → E (.ref e) { s with heap := h' }) :
    wpAny (model prog w) A (Builtin.«zip.__next__» ⟨[.ref z], []⟩) Q E s := by
  obtain ⟨⟨f0, f1, hz, hf⟩, hTI, ⟨a, b, hTO⟩, h1, h2⟩ := Z
  show wpAny _ _ (field (.ref z) 2 >>= _) _ _ _
  refine wpAny_bind (wpAny_field hz rfl (x := .bool true) rfl ?_)
  show wpAny _ _ (field (.ref z) 3 >>= _) _ _ _
  refine wpAny_bind (wpAny_field hz rfl (x := .ref TI) rfl (wpAny_bind (wpAny_seqItems hTI rfl ?_)))
  show wpAny _ _ (Builtin.SmallTypes.ownedTupleIsFree (.ref z) >>= _) _ _ _
  refine wpAny_bind ?_
  unfold Builtin.SmallTypes.ownedTupleIsFree
  refine wpAny_bind (wpAny_field hz rfl (x := f0) rfl ?_)
  rcases hf with rfl | ⟨T, o, rfl, hT, hTd⟩
  · refine wpAny_pure ?_
    simp only [if_true]
    refine wpAny_bind (wpAny_rule (wpAny_bind (wpAny_field hz rfl (x := .ref TO) rfl ?_)))
    refine wpAny_bind (wpAny_setField_rec hz (by simp) fun g1 z1 k1 => ?_)
    replace z1 : ZipS g1 z TI TO .ellipsis f1 := z1
    refine wpAny_bind ?_
    simp only [List.zipIdx_cons, List.zipIdx_nil, List.forIn_cons, List.forIn_nil]
    refine wpAny_bind (wpAny_bind (wpAny_onRaise ?_))
    show wpAny _ _ (Builtin.SmallTypes.nextOrEnd (.ref i1)) _ _ _
    refine nextE_end calm (h1.extBut k1.extBut D.i1z) (hl1.extBut k1.extBut D.l1z) hx fun g2 k2 => ?_
    have z2 : ZipS g2 z TI TO .ellipsis f1 := k2 _ _ D.i1z.symm z1
    refine wpAny_bind (wpAny_setField_rec z2 (by simp) fun g3 z3 k3 => ?_)
    refine wpAny_bind ?_
    show wpAny _ _ (forIn [(Value.ref i2, 1)] PUnit.unit _ >>= _) _ _ _
    simp only [List.forIn_cons, List.forIn_nil]
    refine wpAny_bind (wpAny_bind (wpAny_bind (nextE_end calm (((h2.extBut k1.extBut D.i2z).extBut k2 D.i12.symm).extBut k3.extBut D.i2z) (((hl2.extBut k1.extBut D.l2z).extBut k2 D.l2i1).extBut k3.extBut D.l2z) hy fun g4 k4 => ?_)))
    refine wpAny_pure (wpAny_pure (wpAny_bind (wpAny_rule (stopNew calm fun h' e keep stop => ?_))))
    exact q h' e (fun c o c1 _ c3 c4 x => keep _ _ (k4 _ _ c4 (k3.extBut _ _ c1 (k2 _ _ c3 (k1.extBut _ _ c1 x))))) stop
  · show wpAny _ _ (loadIfAlive (T : Int).toNat >>= _) _ _ _
    refine wpAny_bind (alive ?_)
    rw [Int.toNat_natCast, hT]
    show wpAny _ _ (field (.ref z) 1 >>= _) _ _ _
    refine wpAny_bind (wpAny_field hz rfl (x := f1) rfl ?_)
    have fin : ∀ g : Heap, (∀ c o, c ≠ z → s.heap.get? c = some o → g.get? c = some o) → wpAny (model prog w) A (Builtin.SmallTypes.nextOrEnd (.ref i1)) (fun r s' => r = none ∧ ∃ g2, s' = { s with heap := g2 } ∧ ∀ c o, c ≠ z → c ≠ i1 → s.heap.get? c = some o → g2.get? c = some o) E { s with heap := g } := fun g kg =>
      nextE_end calm (h1.at fun o e => kg _ _ D.i1z e) (hl1.at fun o e => kg _ _ D.l1z e) hx fun g2 k2 => ⟨rfl, g2, rfl, fun c o c1 c2 e => k2 _ _ c2 (kg _ _ c1 e)⟩
    by_cases hb : (f1 != Value.bool true) = true
    · rw [if_pos hb]
      refine wpAny_bind (wpAny_setField_rec hz (by simp) fun g0 z0 k0 => wpAny_pure ?_)
      simp only [Bool.false_eq_true, if_false]
      refine wpAny_bind ?_
      rw [← Array.forIn_toList]
      simp only [List.forIn_cons, List.forIn_nil]
      refine wpAny_bind (wpAny_bind (wpAny_holding ?_))
      show wpAny _ _ (Builtin.SmallTypes.nextOrEnd (.ref i1)) _ _ _
      refine wpAny_mono (fin g0 fun c o c1 e => k0.extBut _ _ c1 e) (fun r s' hr => ?_) fun _ _ x => x
      obtain ⟨rfl, g2, rfl, k2⟩ := hr
      refine wpAny_bind ?_
      show wpAny _ _ (forIn [(Value.ref i2, 1)] PUnit.unit _ >>= _) _ _ _
      simp only [List.forIn_cons, List.forIn_nil]
      refine wpAny_bind (wpAny_bind (wpAny_bind (nextE_end calm (h2.at fun o e => k2 _ _ D.i2z D.i12.symm e) (hl2.at fun o e => k2 _ _ D.l2z D.l2i1 e) hy fun g4 k4 => ?_)))
      refine wpAny_pure (wpAny_pure (wpAny_bind (wpAny_rule (stopNew calm fun h' e keep stop => ?_))))
      exact q h' e (fun c o c1 _ c3 c4 x => keep _ _ (k4 _ _ c4 (k2 _ _ c1 c3 x))) stop
    · rw [if_neg hb]
      refine wpAny_pure ?_
      simp only [Bool.false_eq_true, if_false]
      refine wpAny_bind ?_
      rw [← Array.forIn_toList]
      simp only [List.forIn_cons, List.forIn_nil]
      refine wpAny_bind (wpAny_bind (wpAny_holding ?_))
      show wpAny _ _ (Builtin.SmallTypes.nextOrEnd (.ref i1)) _ _ _
      refine wpAny_mono (fin s.heap fun c o c1 e => e) (fun r s' hr => ?_) fun _ _ x => x
      obtain ⟨rfl, g2, rfl, k2⟩ := hr
      refine wpAny_bind ?_
      show wpAny _ _ (forIn [(Value.ref i2, 1)] PUnit.unit _ >>= _) _ _ _
      simp only [List.forIn_cons, List.forIn_nil]
      refine wpAny_bind (wpAny_bind (wpAny_bind (nextE_end calm (h2.at fun o e => k2 _ _ D.i2z D.i12.symm e) (hl2.at fun o e => k2 _ _ D.l2z D.l2i1 e) hy fun g4 k4 => ?_)))
      refine wpAny_pure (wpAny_pure (wpAny_bind (wpAny_rule (stopNew calm fun h' e keep stop => ?_))))
      exact q h' e (fun c o c1 _ c3 c4 x => keep _ _ (k4 _ _ c4 (k2 _ _ c1 c3 x))) stop
theorem nextZ_item {z TI TO i1 i2 l1 l2 d : Addr} {k : Nat} {xs ys : Array Value} {x y : Value} {Q : Option Value → Shared → Prop} (D : ZipApart z TI TO i1 i2 l1 l2) (Z : ZipAt s.heap z TI TO i1 i2 l1 l2 d k)
    (hl1 : s.heap.IsList l1 xs) (hl2 : s.heap.IsList l2 ys) (hx : xs[k]? = some x) (hy : ys[k]? = some y) (hd : d < s.heap.objs.size)
    (q : ∀ h' T, ZipAt h' z TI TO i1 i2 l1 l2 d (k + 1) → IsPair h' T x y → s.heap.objs.size ≤ T → (∀ c o, c ≠ z → c ≠ TO → c ≠ i1 → c ≠ i2 → s.heap.get? c = some o → h'.get? c = some o) → Q (some (.ref T)) { s with heap := h' }) :
    wpAny (model prog w) A (pyNext (.ref z)) Q E s := by
  obtain ⟨f0, f1, hz, _⟩ := Z.zip
  have typ : s.TypeIs (.ref z) "zip" := ⟨_, hz, rfl⟩
  unfold pyNext
  exact wpAny_bind (wpAny_attempt (wpAny_callSpecial?_slot (name := Str.ofString "__next__") typ F.slot_zip_next (wpAny_call_entry F.slot_zip_next typ F.entry_zip_next
    (zipS_item D Z hl1 hl2 hx hy hd fun h' T a b c e => wpAny_pure (q h' T a b c e)) (F.args_zip_next_1 _))))
theorem nextZ_end {z TI TO i1 i2 l1 l2 d : Addr} {k : Nat} {xs ys : Array Value} {Q : Option Value → Shared → Prop} (calm : A.handled = none) (D : ZipApart z TI TO i1 i2 l1 l2) (Z : ZipAt s.heap z TI TO i1 i2 l1 l2 d k)
    (hl1 : s.heap.IsList l1 xs) (hl2 : s.heap.IsList l2 ys) (hx : xs[k]? = none) (hy : ys[k]? = none)
    (q : ∀ h', (∀ c o, c ≠ z → c ≠ TO → c ≠ i1 → c ≠ i2 → s.heap.get? c = some o → h'.get? c = some o) → Q none { s with heap := h' }) : wpAny (model prog w) A (pyNext (.ref z)) Q E s := by
  obtain ⟨f0, f1, hz, _⟩ := Z.zip
  have typ : s.TypeIs (.ref z) "zip" := ⟨_, hz, rfl⟩
  unfold pyNext
  refine wpAny_bind (wpAny_attempt (wpAny_callSpecial?_slot (name := Str.ofString "__next__") typ F.slot_zip_next (wpAny_call_entry F.slot_zip_next typ F.entry_zip_next
    (zipS_end calm D Z hl1 hl2 hx hy fun h' e keep stop => ?_) (F.args_zip_next_1 _))))
  obtain ⟨o, ho, hc⟩ := stop
  exact wpAny_bind (wpAny_isInstance (T := "StopIteration") (b := true) ⟨o, ho, hc⟩ isSubtype_stop (wpAny_pure (q _ keep)))
end
section
variable {prog : Program} {w : World}
theorem pairs_zipS (z TI TO i1 i2 l1 l2 : Addr) (D : ZipApart z TI TO i1 i2 l1 l2) (xs ys : Array Value) (hn : xs.size = ys.size) :
    PairArg prog w "zip" z [z, TI, TO, i1, i2, l1, l2] [z, TO, i1, i2] xs.size (fun i k v => xs[i]? = some k ∧ ys[i]? = some v)
      (fun h => ZipS h z TI TO .none (.bool false) ∧ IsPair h TI (.ref i1) (.ref i2) ∧ (∃ a b, IsPair h TO a b) ∧ h.IsListIter i1 l1 0 ∧ h.IsListIter i2 l2 0 ∧ h.IsList l1 xs ∧ h.IsList l2 ys) where
  type := fun s ok => ⟨_, ok.1, rfl⟩
  notDict := by decide
  keep := fun h h' ok k => by
    obtain ⟨q1, q2, ⟨a, b, q3⟩, q4, q5, q6, q7⟩ := ok
    refine ⟨k _ _ q1, k _ _ q2, ⟨a, b, k _ _ q3⟩, ?_, ?_, ?_, ?_⟩
    · exact q4.at fun o e => k _ o e
    · exact q5.at fun o e => k _ o e
    · exact q6.at fun o e => k _ o e
    · exact q7.at fun o e => k _ o e
  there := fun h ok b hb => by
    obtain ⟨q1, q2, ⟨a, c, q3⟩, ⟨o1, q4, _⟩, ⟨o2, q5, _⟩, ⟨o3, q6, _⟩, ⟨o4, q7, _⟩⟩ := ok
    simp only [List.mem_cons, List.not_mem_nil, or_false] at hb
    rcases hb with e | e | e | e | e | e | e <;> rw [e]
    · exact ⟨_, q1⟩
    · exact ⟨_, q2⟩
    · exact ⟨_, q3⟩
    · exact ⟨_, q4⟩
    · exact ⟨_, q5⟩
    · exact ⟨_, q6⟩
    · exact ⟨_, q7⟩
  sub := fun b hb => by
    simp only [List.mem_cons, List.not_mem_nil, or_false] at hb ⊢
    rcases hb with e | e | e | e <;> simp [e]
  noKeys := fun A s Q E calm ok q => getAttrOr_miss_zip ok.1 rfl rfl rfl zip_no_keys (by decide +kernel) calm q
  iter := fun A s d Q E calm ok hd off q => by
    obtain ⟨q1, q2, q3, q4, q5, q6, q7⟩ := ok
    simp only [List.mem_cons, List.not_mem_nil, or_false, not_or] at off
    obtain ⟨dz, dTI, dTO, di1, di2, dl1, dl2⟩ := off
    have typ : s.TypeIs (.ref z) "zip" := ⟨_, q1, rfl⟩
    refine wpAny_pyIter_slot typ F.slot_zip_iter (wpAny_call_entry F.slot_zip_iter typ F.entry_zip_iter (wpAny_pure ⟨_, rfl, "zip", _, typ, F.slot_zip_next.lookup, ?_⟩) (F.args_zip_iter_1 _))
    refine q z [z, TO, i1, i2] (fun i h => ZipAt h z TI TO i1 i2 l1 l2 d i ∧ h.IsList l1 xs ∧ h.IsList l2 ys) s.heap s.toks ?_ ⟨⟨⟨_, _, q1, .inl rfl⟩, q2, q3, q4, q5⟩, q6, q7⟩ (fun _ _ e => e) fun b hb => .inl hb
    refine ⟨?_, ?_, ?_, ?_⟩
    · simp only [List.mem_cons, List.not_mem_nil, or_false, not_or]
      exact ⟨dz, dTO, di1, di2⟩
    · rintro i h h' ⟨⟨⟨f0, f1, z1, z2⟩, z3, ⟨a, b, z4⟩, z5, z6⟩, z7, z8⟩ k
      refine ⟨⟨⟨f0, f1, k _ _ (Ne.symm dz) z1, ?_⟩, k _ _ (Ne.symm dTI) z3, ⟨a, b, k _ _ (Ne.symm dTO) z4⟩, ?_, ?_⟩, ?_, ?_⟩
      · rcases z2 with e | ⟨T, o, e, e2, e3⟩
        · exact .inl e
        · exact .inr ⟨T, o, e, k _ _ e3 e2, e3⟩
      · exact z5.at fun o e => k _ o (Ne.symm di1) e
      · exact z6.at fun o e => k _ o (Ne.symm di2) e
      · exact z7.at fun o e => k _ o (Ne.symm dl1) e
      · exact z8.at fun o e => k _ o (Ne.symm dl2) e
    · rintro i s1 Q1 E1 hi ⟨Z, z7, z8⟩ hd1 q1
      have ex := Array.getElem?_eq_getElem hi
      have ey := Array.getElem?_eq_getElem (show i < ys.size by omega)
      refine nextZ_item D Z z7 z8 ex ey hd1 fun h' T Z' new _ k => ?_
      refine q1 T _ _ h' s1.toks ⟨ex, ey⟩ (.inl ⟨_, new, rfl, _, rfl⟩) ⟨Z', ?_, ?_⟩ fun c o hc e => ?_
      · exact z7.at fun o e => k _ o D.l1z D.l1TO D.l1i1 D.l1i2 e
      · exact z8.at fun o e => k _ o D.l2z D.l2TO D.l2i1 D.l2i2 e
      · simp only [List.mem_cons, List.not_mem_nil, or_false, not_or] at hc
        exact k c o hc.1 hc.2.1 hc.2.2.1 hc.2.2.2 e
    · rintro s1 Q1 E1 ⟨Z, z7, z8⟩ q1
      refine nextZ_end calm D Z z7 z8 (Array.getElem?_eq_none (Nat.le_refl _)) (Array.getElem?_eq_none (by omega)) fun h' k => q1 h' s1.toks fun c o hc e => ?_
      simp only [List.mem_cons, List.not_mem_nil, or_false, not_or] at hc
      exact k c o hc.1 hc.2.1 hc.2.2.1 hc.2.2.2 e
end
abbrev kwStrict : List (Str × Value) := [(Str.ofString "strict", .bool true)]
theorem zs_type (a b : Value) : checkTypeCall "zip" ⟨[a, b], kwStrict⟩ = pure () := by kernel_rfl
theorem zs_new (a b : Value) : checkBuiltinCall "zip.__new__" ⟨[.type "zip", a, b], kwStrict⟩ = pure () := by kernel_rfl
theorem zs_init (o a b : Value) : argsOk "object.__init__" ⟨[o, a, b], kwStrict⟩ := by
  unfold argsOk
  kernel_rfl
abbrev zsH (h : Heap) (l1 l2 : Addr) : Heap := (zipH4 h l1 l2).push { cls := .type "zip", data := .fields #[.none, .bool false, .bool true, .ref (zipH2 h l1 l2).objs.size, .ref (zipH3 h l1 l2).objs.size] }
theorem zs_meets (l1 l2 : Addr) (xs ys : Array Value) : Meets (Builtin.«zip.__new__» ⟨[.type "zip", .ref l1, .ref l2], kwStrict⟩) (fun _ R s => s.heap.IsList l1 xs ∧ s.heap.IsList l2 ys ∧ R (.ok (.ret (.ref (zipH4 s.heap l1 l2).objs.size))) { s with heap := zsH s.heap l1 l2 }) :=
  .of_wp fun prog w A R s h => by
    obtain ⟨hp, g, d, tk, os⟩ := s
    obtain ⟨q1, q2, q⟩ := h
    have sub := sub_zip
    have e1 : (Str.ofString "strict" != ("strict" : Str)) = false := by decide +kernel
    have a1 : Heap.IsList (Shared.heap ⟨hp, g, d, tk, os⟩) l1 xs := q1
    have a2 : Heap.IsList (Shared.heap ⟨zipH1 hp l1, g, d, tk, os⟩) l2 ys := Heap.IsList.push q2 _
    wp_walk using wpAny_pyIter_list a1, wpAny_pyIter_list a2
    exact ⟨_, rfl, q⟩
end Ph
namespace Ph
open PySem PySem.Spec PyProof.Rows L2
section
variable {prog : Program} {w : World} {A : Around} {E : Value → Shared → Prop} {s : Shared}
theorem call_zipS {l1 l2 : Addr} {xs ys : Array Value} {Q : Value → Shared → Prop} (hl1 : s.heap.IsList l1 xs) (hl2 : s.heap.IsList l2 ys)
    (q : ∀ h', ZipS h' (s.heap.objs.size + 4) (s.heap.objs.size + 2) (s.heap.objs.size + 3) .none (.bool false) → IsPair h' (s.heap.objs.size + 2) (.ref s.heap.objs.size) (.ref (s.heap.objs.size + 1)) → IsPair h' (s.heap.objs.size + 3) .none .none →
      h'.IsListIter s.heap.objs.size l1 0 → h'.IsListIter (s.heap.objs.size + 1) l2 0 → (∀ c o, s.heap.get? c = some o → h'.get? c = some o) → Q (.ref (s.heap.objs.size + 4)) { s with heap := h' }) :
    wpAny (model prog w) A (call (.type "zip") [.ref l1, .ref l2] kwStrict) Q E s := by
  refine callType_newKw F.called_zip (by decide) (zs_type _ _) (zs_new _ _) (fun o => zs_init o _ _) F.entry_zip_new (zs_meets l1 l2 xs ys) ⟨hl1, hl2, ?_⟩
  have e1 : (zipH1 s.heap l1).objs.size = s.heap.objs.size + 1 := Heap.size_push ..
  have e2 : (zipH2 s.heap l1 l2).objs.size = s.heap.objs.size + 2 := (Heap.size_push ..).trans (congrArg (· + 1) e1)
  have e3 : (zipH3 s.heap l1 l2).objs.size = s.heap.objs.size + 3 := (Heap.size_push ..).trans (congrArg (· + 1) e2)
  have e4 : (zipH4 s.heap l1 l2).objs.size = s.heap.objs.size + 4 := (Heap.size_push ..).trans (congrArg (· + 1) e3)
  have up : ∀ {h : Heap} {o : Obj} {b : Addr} {p : Obj}, h.get? b = some p → (h.push o).get? b = some p := fun e => Heap.get?_push_of_some _ e
  have g5 : (zsH s.heap l1 l2).get? (zipH4 s.heap l1 l2).objs.size = some _ := Heap.get?_push_size _ rfl
  have g4 : (zsH s.heap l1 l2).get? (zipH3 s.heap l1 l2).objs.size = some _ := up (Heap.get?_push_size _ rfl)
  have g3 : (zsH s.heap l1 l2).get? (zipH2 s.heap l1 l2).objs.size = some _ := up (up (Heap.get?_push_size _ rfl))
  have g2 : (zsH s.heap l1 l2).get? (zipH1 s.heap l1).objs.size = some _ := up (up (up (Heap.get?_push_size _ rfl)))
  have g1 : (zsH s.heap l1 l2).get? s.heap.objs.size = some _ := up (up (up (up (Heap.get?_push_size _ rfl))))
  rw [e2, e3, e4] at g5
  rw [e3] at g4
  rw [e1, e2] at g3
  rw [e1] at g2
  show _ ∧ _
  rw [e4]
  refine ⟨⟨_, g5, rfl⟩, q _ g5 g3 g4 ⟨_, g1, rfl, rfl⟩ ⟨_, g2, rfl, rfl⟩ fun c o e => up (up (up (up (up e))))⟩
end
def zipK (ks : List Int) (vs : List V) : List (Key × V) := (ks.map Sum.inl).zip vs
def tDictZip (K : PySem.W.Frag) (ta : TA) : TE := fun σ H Q => ta σ H fun xs H1 => ∃ (a b : Addr) (ks : List Int) (vs : List V), xs = [.ref a, .ref b] ∧ SqL K H1 a (ks.map V.int) ∧ SqL K H1 b vs ∧ ks.length = vs.length ∧
  ∀ p, H1 p = none → Q (.ref p) (upd H1 p (.dK (mergeK [] (zipK ks vs))))
theorem rel_zip : ∀ {ks : List Int} {vs : List V} {us ws : List Value}, Vals (ks.map V.int) us → Vals vs ws → ks.length = vs.length → KV (zipK ks vs) ((ks.map Sum.inl).zip ws)
  | [], [], _, _, _, _, _ => .nil
  | k :: ks, v :: vs, _, _, .cons _ r, .cons a b, h => .cons ⟨rfl, a⟩ (rel_zip r b (by simpa using h))
  | [], _ :: _, _, _, _, _, h => by simp at h
  | _ :: _, [], _, _, _, _, h => by simp at h
section
variable {X : Cx} {e e2 : Expr} {ta : TA} {k : Nat} {p p2 p3 p4 q pos : Pos}
theorem pe_dictZip (calm : X.calm = true) (hg : Gl X "dict") (hm : X.mg "dict" = none) (hg2 : Gl X "zip") (hm2 : X.mg "zip" = none) (ha : PA X [e, e2] ta)
    (hs : starEach [.Call (.Name "zip" p2) [e, e2] [⟨some "strict", .Constant (.bool true) k p3, p4⟩] q] X.env = (false, eval (.Call (.Name "zip" p2) [e, e2] [⟨some "strict", .Constant (.bool true) k p3, p4⟩] q) X.env) :: starEach [] X.env := by rfl)
    (hs2 : starEach [e, e2] X.env = (false, eval e X.env) :: starEach [e2] X.env := by rfl) (hpl : (backTo q (starEach [e, e2] X.env)).any (·.1) = false := by rfl) :
    PE X (.Call (.Name "dict" p) [.Call (.Name "zip" p2) [e, e2] [⟨some "strict", .Constant (.bool true) k p3, p4⟩] q] [] pos) (tDictZip X.K ta) := by
  refine ⟨fun pins s σ H Q I h => wpAny_Call_Name_kw (ld_blt I hg hm (by decide +kernel : bootBuiltins "dict" = some (.type "dict")) (PyProof.Rows.callWith_type1 ?_ hs rfl))⟩
  rw [hs]
  show wpAny _ _ (spliced ((false, eval (.Call (.Name "zip" p2) [e, e2] [⟨some "strict", .Constant (.bool true) k p3, p4⟩] q) X.env) :: backTo pos (starEach [] X.env))) _ _ s
  refine Calls.spliced_cons (wpAny_Call_Name_kw (ld_blt I hg2 hm2 PyProof.Rows.boot_zip ?_))
  unfold callWith
  refine wpAny_bind (wpAny_holding ?_)
  have hA := ha.run q pins s σ H _ I h
  rw [hs2] at hA hpl ⊢
  refine evalArgs_kw rfl (wpAny_mono hA (fun us s1 z => ?_) fun _ _ x => x)
  obtain ⟨xs, H1, I1, r1, a, b, ks, vs, rfl, hx, hy, hlen, q1⟩ := z
  obtain ⟨u, v, rfl, ru, rv⟩ := r1.two
  cases ru
  cases rv
  refine PyProof.Rows.kws_cons (wpAny_mono (pe_bl.run pins s1 σ H1 (fun x H2 => x = .bl true ∧ H2 = H1) I1 ⟨rfl, rfl⟩) (fun bv s2 z => ?_) fun _ _ x => x)
  obtain ⟨x, H2, I2, rx, rfl, rfl⟩ := z
  obtain rfl : bv = .bool true := rx
  refine PyProof.Rows.kws_nil (wpAny_bind (wpAny_standAt ?_))
  simp only [hpl]
  refine wpAny_bind (wpAny_pure ?_)
  obtain ⟨us, rus, pus, zus⟩ := I2.list hx
  obtain ⟨ws, rws, pws, zws⟩ := I2.list hy
  have lus := rus.length
  have lws := rws.length
  rw [List.length_map] at lus
  refine wpAny_bind (wpAny_mono (?_ : wpAny (model X.prog X.w) X.A (call (.type "zip") [.ref a, .ref b] kwStrict) (fun r s3 => ∃ h', r = .ref (s2.heap.objs.size + 4) ∧ s3 = { s2 with heap := h' } ∧ ZipS h' (s2.heap.objs.size + 4) (s2.heap.objs.size + 2) (s2.heap.objs.size + 3) .none (.bool false) ∧
    IsPair h' (s2.heap.objs.size + 2) (.ref s2.heap.objs.size) (.ref (s2.heap.objs.size + 1)) ∧ IsPair h' (s2.heap.objs.size + 3) .none .none ∧ h'.IsListIter s2.heap.objs.size a 0 ∧ h'.IsListIter (s2.heap.objs.size + 1) b 0 ∧ ∀ c o, s2.heap.get? c = some o → h'.get? c = some o) X.xe s2) (fun r s3 z => ?_) fun _ _ x => x)
  · exact call_zipS pus.isList pws.isList fun h' z1 z2 z3 z4 z5 z6 => ⟨h', rfl, rfl, z1, z2, z3, z4, z5, z6⟩
  obtain ⟨h', rfl, rfl, z1, z2, z3, z4, z5, z6⟩ := z
  refine wpAny_bind (wpAny_holding (wpAny_point (wpAny_pure (Calls.spliced_nil ?_))))
  have J : Inv X pins σ H2 { s2 with heap := h' } := I2.kept (t' := s2.toks) z6
  have kvl : ((ks.map (Sum.inl : Int → Key)).zip ws).length = us.toArray.size := by
    rw [List.length_zip, List.length_map, List.size_toArray]
    omega
  refine PySem.call_dict_pairs (knd := mixKind X.prog X.w) (kvs := (ks.map Sum.inl).zip ws) (pairs_zipS _ _ _ _ _ a b (PySem.W.ktu_apart s2.heap.objs.size a b pus.lt pws.lt) us.toArray ws.toArray (by simp; omega)) (I2.ok.hd calm)
    ⟨z1, z2, ⟨_, _, z3⟩, z4, z5, pus.isList.at fun o e => z6 _ o e, pws.isList.at fun o e => z6 _ o e⟩ ⟨kvl, fun i key v hr => ?_⟩ (by rw [List.size_toArray]; rw [List.length_map] at zus; omega) fun h3 tk hd k3 => ?_
  · obtain ⟨r1, r2⟩ := hr
    have r1 : us[i]? = some key := by simpa using r1
    have r2 : ws[i]? = some v := by simpa using r2
    have hi : i < ks.length := by
      have := (List.getElem?_eq_some_iff.mp r1).1
      omega
    have hk : (ks.map V.int)[i]? = some (.int ks[i]) := by simp [hi]
    obtain ⟨u, e1, e2⟩ := rus.get hk
    rw [r1] at e1
    obtain rfl := Option.some.inj e1
    refine ⟨Sum.inl ks[i], ?_, ?_⟩
    · rw [List.getElem?_zip_eq_some]
      exact ⟨by simp [hi], r2⟩
    · obtain ⟨t, rfl⟩ := e2
      exact kV_is (k := Sum.inl ks[i]) ⟨t, rfl⟩
  · have own : (h'.objs.size == sysModules) = false := beq_eq_false_iff_ne.mpr (Nat.ne_of_gt J.big)
    have hlen2 : (mergeK [] (zipK ks vs)).length ≤ sizeLine := by
      refine Nat.le_trans (length_mergeK _ _) ?_
      simp only [List.length_nil, Nat.zero_add, zipK, List.length_zip, List.length_map]
      rw [List.length_map] at zus
      omega
    have old : ∀ c o, s2.heap.get? c = some o → h3.get? c = some o := fun c o e => k3 c o (fun m => by
      have := Heap.lt_size e
      simp only [List.mem_cons, List.not_mem_nil, or_false] at m
      rcases m with m | m | m | m <;> (rw [m] at this; exact absurd this (by simp [Nat.not_lt]))) (z6 c o e)
    have grown : s2.heap.objs.size ≤ h'.objs.size := Nat.le_of_lt (Nat.lt_of_le_of_lt (Nat.le_add_right _ 4) (Heap.lt_size z1))
    have J3 : Inv X pins σ (upd H2 h'.objs.size (.dK (mergeK [] (zipK ks vs)))) { s2 with heap := h3, toks := tk } := by
      refine I2.laid (t' := tk) old ?_ ⟨hlen2, own, merged [] ((ks.map Sum.inl).zip ws), KV.merge (rel_zip rus rws hlen) .nil, hd⟩
      exact grown
    exact ⟨.ref _, _, J3, rfl, q1 _ (I2.hok.fresh grown)⟩
end
end Ph
namespace Ph
open PySem PySem.Spec PyProof.Rows L2
def topS (i : Nat) : Stmt := PySem.Challenge.pw_pieceheaps_s01_answers.main.body.getD i (.Pass ⟨0, 0, 0, 0⟩)
abbrev s_Line_init : Stmt := (inClass (topS 33) 0)
abbrev N_Line_init : List Str := ["self"]
theorem sc_Line_init : FnScope ["self"] ["self"] (defScope s_Line_init) := ⟨rfl, rfl, rfl, by decide +kernel, rfl, by decide +kernel, by decide +kernel⟩
abbrev s_start : Stmt := (topS 34)
abbrev N_start : List Str := ["line", "greatest"]
theorem sc_start : FnScope ["line", "greatest"] ["line", "greatest"] (defScope s_start) := ⟨rfl, rfl, rfl, by decide +kernel, rfl, by decide +kernel, by decide +kernel⟩
abbrev s_is_telling : Stmt := (topS 35)
abbrev N_is_telling : List Str := ["p"]
theorem sc_is_telling : FnScope ["p"] ["p"] (defScope s_is_telling) := ⟨rfl, rfl, rfl, by decide +kernel, rfl, by decide +kernel, by decide +kernel⟩
abbrev s_are_names : Stmt := (topS 36)
abbrev N_are_names : List Str := ["line", "x", "y"]
theorem sc_are_names : FnScope ["line", "x", "y"] ["line", "x", "y"] (defScope s_are_names) := ⟨rfl, rfl, rfl, by decide +kernel, rfl, by decide +kernel, by decide +kernel⟩
abbrev s_count_chains : Stmt := (topS 37)
abbrev N_count_chains : List Str := ["telling", "fact"]
theorem sc_count_chains : FnScope ["telling", "fact"] ["telling"] (defScope s_count_chains) := ⟨rfl, rfl, rfl, by decide +kernel, rfl, by decide +kernel, by decide +kernel⟩
abbrev s_is_full_for : Stmt := (topS 38)
abbrev N_is_full_for : List Str := ["telling", "kind"]
theorem sc_is_full_for : FnScope ["telling", "kind"] ["telling", "kind"] (defScope s_is_full_for) := ⟨rfl, rfl, rfl, by decide +kernel, rfl, by decide +kernel, by decide +kernel⟩
abbrev s_add_fact : Stmt := (topS 39)
abbrev N_add_fact : List Str := ["line", "kind", "p", "x", "y", "telling"]
theorem sc_add_fact : FnScope ["line", "kind", "p", "x", "y", "telling"] ["line", "kind", "p", "x", "y"] (defScope s_add_fact) := ⟨rfl, rfl, rfl, by decide +kernel, rfl, by decide +kernel, by decide +kernel⟩
abbrev s_clear_telling : Stmt := (topS 40)
abbrev N_clear_telling : List Str := ["line", "p", "had"]
theorem sc_clear_telling : FnScope ["line", "p", "had"] ["line", "p"] (defScope s_clear_telling) := ⟨rfl, rfl, rfl, by decide +kernel, rfl, by decide +kernel, by decide +kernel⟩
abbrev s_sets_its_name : Stmt := (topS 41)
abbrev N_sets_its_name : List Str := ["kind"]
theorem sc_sets_its_name : FnScope ["kind"] ["kind"] (defScope s_sets_its_name) := ⟨rfl, rfl, rfl, by decide +kernel, rfl, by decide +kernel, by decide +kernel⟩
abbrev s_add_step : Stmt := (topS 42)
abbrev N_add_step : List Str := ["line", "kind", "x", "y"]
theorem sc_add_step : FnScope ["line", "kind", "x", "y"] ["line", "kind", "x", "y"] (defScope s_add_step) := ⟨rfl, rfl, rfl, by decide +kernel, rfl, by decide +kernel, by decide +kernel⟩
abbrev s_undo_step : Stmt := (topS 43)
abbrev N_undo_step : List Str := ["line"]
theorem sc_undo_step : FnScope ["line"] ["line"] (defScope s_undo_step) := ⟨rfl, rfl, rfl, by decide +kernel, rfl, by decide +kernel, by decide +kernel⟩
abbrev s_swap_tellings : Stmt := (topS 44)
abbrev N_swap_tellings : List Str := ["line", "telling"]
theorem sc_swap_tellings : FnScope ["line", "telling"] ["line"] (defScope s_swap_tellings) := ⟨rfl, rfl, rfl, by decide +kernel, rfl, by decide +kernel, by decide +kernel⟩
abbrev s_is_so : Stmt := (topS 46)
abbrev N_is_so : List Str := ["telling", "names", "heap", "taken"]
theorem sc_is_so : FnScope ["telling", "names", "heap", "taken"] ["telling", "names", "heap"] (defScope s_is_so) := ⟨rfl, rfl, rfl, by decide +kernel, rfl, by decide +kernel, by decide +kernel⟩
abbrev s_places_taken : Stmt := (topS 47)
abbrev N_places_taken : List Str := ["telling", "names", "heap", "taken", "kind", "x", "y", "agreed"]
theorem sc_places_taken : FnScope ["telling", "names", "heap", "taken", "kind", "x", "y", "agreed"] ["telling", "names", "heap"] (defScope s_places_taken) := ⟨rfl, rfl, rfl, by decide +kernel, rfl, by decide +kernel, by decide +kernel⟩
abbrev s_take_cell : Stmt := (topS 48)
abbrev N_take_cell : List Str := ["taken", "place", "end", "heap"]
theorem sc_take_cell : FnScope ["taken", "place", "end", "heap"] ["taken", "place", "end", "heap"] (defScope s_take_cell) := ⟨rfl, rfl, rfl, by decide +kernel, rfl, by decide +kernel, by decide +kernel⟩
abbrev s_take_chain : Stmt := (topS 49)
abbrev N_take_chain : List Str := ["taken", "first", "end", "heap", "place"]
theorem sc_take_chain : FnScope ["taken", "first", "end", "heap", "place"] ["taken", "first", "end", "heap"] (defScope s_take_chain) := ⟨rfl, rfl, rfl, by decide +kernel, rfl, by decide +kernel, by decide +kernel⟩
abbrev s_do_step : Stmt := (topS 51)
abbrev N_do_step : List Str := ["step", "names", "heap", "kind", "x", "y", "place"]
theorem sc_do_step : FnScope ["step", "names", "heap", "kind", "x", "y", "place"] ["step", "names", "heap"] (defScope s_do_step) := ⟨rfl, rfl, rfl, by decide +kernel, rfl, by decide +kernel, by decide +kernel⟩
abbrev s_do_new : Stmt := (topS 52)
abbrev N_do_new : List Str := ["step", "place", "names", "heap"]
theorem sc_do_new : FnScope ["step", "place", "names", "heap"] ["step", "place", "names", "heap"] (defScope s_do_new) := ⟨rfl, rfl, rfl, by decide +kernel, rfl, by decide +kernel, by decide +kernel⟩
abbrev s_place_above_all : Stmt := (topS 53)
abbrev N_place_above_all : List Str := ["names", "heap", "greatest", "place", "held"]
theorem sc_place_above_all : FnScope ["names", "heap", "greatest", "place", "held"] ["names", "heap"] (defScope s_place_above_all) := ⟨rfl, rfl, rfl, by decide +kernel, rfl, by decide +kernel, by decide +kernel⟩
abbrev s_new_places : Stmt := (topS 54)
abbrev N_new_places : List Str := ["names", "heap", "known", "places", "number"]
theorem sc_new_places : FnScope ["names", "heap", "known", "places", "number"] ["names", "heap"] (defScope s_new_places) := ⟨rfl, rfl, rfl, by decide +kernel, rfl, by decide +kernel, by decide +kernel⟩
abbrev s_last_run : Stmt := (topS 55)
abbrev N_last_run : List Str := ["steps", "names", "heap", "at", "step"]
theorem sc_last_run : FnScope ["steps", "names", "heap", "at", "step"] ["steps", "names", "heap"] (defScope s_last_run) := ⟨rfl, rfl, rfl, by decide +kernel, rfl, by decide +kernel, by decide +kernel⟩
abbrev s_first_bad_run : Stmt := (topS 56)
abbrev N_first_bad_run : List Str := ["steps", "names", "heap", "behind"]
theorem sc_first_bad_run : FnScope ["steps", "names", "heap", "behind"] ["steps", "names", "heap", "behind"] (defScope s_first_bad_run) := ⟨rfl, rfl, rfl, by decide +kernel, rfl, by decide +kernel, by decide +kernel⟩
abbrev s_first_bad_from : Stmt := (topS 57)
abbrev N_first_bad_from : List Str := ["first", "steps", "names", "heap", "places", "behind", "at"]
theorem sc_first_bad_from : FnScope ["first", "steps", "names", "heap", "places", "behind", "at"] ["first", "steps", "names", "heap", "places", "behind"] (defScope s_first_bad_from) := ⟨rfl, rfl, rfl, by decide +kernel, rfl, by decide +kernel, by decide +kernel⟩
abbrev s_first_bad_new : Stmt := (topS 58)
abbrev N_first_bad_new : List Str := ["at", "steps", "names", "heap", "places", "behind", "place", "names_then", "heap_then", "bad"]
theorem sc_first_bad_new : FnScope ["at", "steps", "names", "heap", "places", "behind", "place", "names_then", "heap_then", "bad"] ["at", "steps", "names", "heap", "places", "behind"] (defScope s_first_bad_new) := ⟨rfl, rfl, rfl, by decide +kernel, rfl, by decide +kernel, by decide +kernel⟩
abbrev s_plain_names : Stmt := (topS 60)
abbrev N_plain_names : List Str := ["greatest", "rows", "longer", "row", "number"]
theorem sc_plain_names : FnScope ["greatest", "rows", "longer", "row", "number"] ["greatest"] (defScope s_plain_names) := ⟨rfl, rfl, rfl, by decide +kernel, rfl, by decide +kernel, by decide +kernel⟩
abbrev s_cells_told : Stmt := (topS 61)
abbrev N_cells_told : List Str := ["telling", "names", "kind", "x", "y"]
theorem sc_cells_told : FnScope ["telling", "names", "kind", "x", "y"] ["telling", "names"] (defScope s_cells_told) := ⟨rfl, rfl, rfl, by decide +kernel, rfl, by decide +kernel, by decide +kernel⟩
abbrev s_chains_told : Stmt := (topS 62)
abbrev N_chains_told : List Str := ["telling", "names", "found", "kind", "x", "y", "ends"]
theorem sc_chains_told : FnScope ["telling", "names", "found", "kind", "x", "y", "ends"] ["telling", "names"] (defScope s_chains_told) := ⟨rfl, rfl, rfl, by decide +kernel, rfl, by decide +kernel, by decide +kernel⟩
abbrev s_can_be_so : Stmt := (topS 63)
abbrev N_can_be_so : List Str := ["telling", "names", "kind", "x", "y", "firsts", "ends"]
theorem sc_can_be_so : FnScope ["telling", "names", "kind", "x", "y", "firsts", "ends"] ["telling", "names"] (defScope s_can_be_so) := ⟨rfl, rfl, rfl, by decide +kernel, rfl, by decide +kernel, by decide +kernel⟩
abbrev s_PlainWorlds_init : Stmt := (inClass (topS 64) 0)
abbrev N_PlainWorlds_init : List Str := ["self", "telling", "greatest", "most", "row"]
theorem sc_PlainWorlds_init : FnScope ["self", "telling", "greatest", "most", "row"] ["self", "telling", "greatest", "most"] (defScope s_PlainWorlds_init) := ⟨rfl, rfl, rfl, by decide +kernel, rfl, by decide +kernel, by decide +kernel⟩
abbrev s_PlainWorlds_go_on : Stmt := (inClass (topS 64) 1)
abbrev N_PlainWorlds_go_on : List Str := ["self"]
theorem sc_PlainWorlds_go_on : FnScope ["self"] ["self"] (defScope s_PlainWorlds_go_on) := ⟨rfl, rfl, rfl, by decide +kernel, rfl, by decide +kernel, by decide +kernel⟩
abbrev s_PlainWorlds_begin : Stmt := (inClass (topS 64) 2)
abbrev N_PlainWorlds_begin : List Str := ["self", "names", "firsts", "ends", "number"]
theorem sc_PlainWorlds_begin : FnScope ["self", "names", "firsts", "ends", "number"] ["self", "names"] (defScope s_PlainWorlds_begin) := ⟨rfl, rfl, rfl, by decide +kernel, rfl, by decide +kernel, by decide +kernel⟩
abbrev s_PlainWorlds_lay_chains : Stmt := (inClass (topS 64) 3)
abbrev N_PlainWorlds_lay_chains : List Str := ["self", "first", "which"]
theorem sc_PlainWorlds_lay_chains : FnScope ["self", "first", "which"] ["self", "first"] (defScope s_PlainWorlds_lay_chains) := ⟨rfl, rfl, rfl, by decide +kernel, rfl, by decide +kernel, by decide +kernel⟩
abbrev s_PlainWorlds_lay_cell : Stmt := (inClass (topS 64) 4)
abbrev N_PlainWorlds_lay_cell : List Str := ["self", "which", "place", "count"]
theorem sc_PlainWorlds_lay_cell : FnScope ["self", "which", "place", "count"] ["self", "which", "place", "count"] (defScope s_PlainWorlds_lay_cell) := ⟨rfl, rfl, rfl, by decide +kernel, rfl, by decide +kernel, by decide +kernel⟩
abbrev s_PlainWorlds_take_up_last_cell : Stmt := (inClass (topS 64) 5)
abbrev N_PlainWorlds_take_up_last_cell : List Str := ["self", "place"]
theorem sc_PlainWorlds_take_up_last_cell : FnScope ["self", "place"] ["self"] (defScope s_PlainWorlds_take_up_last_cell) := ⟨rfl, rfl, rfl, by decide +kernel, rfl, by decide +kernel, by decide +kernel⟩
abbrev s_PlainWorlds_turn_last_cell : Stmt := (inClass (topS 64) 6)
abbrev N_PlainWorlds_turn_last_cell : List Str := ["self", "cell", "number"]
theorem sc_PlainWorlds_turn_last_cell : FnScope ["self", "cell", "number"] ["self"] (defScope s_PlainWorlds_turn_last_cell) := ⟨rfl, rfl, rfl, by decide +kernel, rfl, by decide +kernel, by decide +kernel⟩
abbrev s_PlainWorlds_number_next : Stmt := (inClass (topS 64) 7)
abbrev N_PlainWorlds_number_next : List Str := ["self", "held", "end", "count", "number"]
theorem sc_PlainWorlds_number_next : FnScope ["self", "held", "end", "count", "number"] ["self", "held", "end", "count"] (defScope s_PlainWorlds_number_next) := ⟨rfl, rfl, rfl, by decide +kernel, rfl, by decide +kernel, by decide +kernel⟩
abbrev s_world_told : Stmt := (topS 69)
abbrev N_world_told : List Str := ["names", "heap", "told", "place"]
theorem sc_world_told : FnScope ["names", "heap", "told", "place"] ["names", "heap"] (defScope s_world_told) := ⟨rfl, rfl, rfl, by decide +kernel, rfl, by decide +kernel, by decide +kernel⟩
abbrev s_bad_run_told : Stmt := (topS 70)
abbrev N_bad_run_told : List Str := ["line", "behind", "steps", "worlds", "bad", "places"]
theorem sc_bad_run_told : FnScope ["line", "behind", "steps", "worlds", "bad", "places"] ["line", "behind"] (defScope s_bad_run_told) := ⟨rfl, rfl, rfl, by decide +kernel, rfl, by decide +kernel, by decide +kernel⟩
abbrev s_triple : Stmt := (topS 71)
abbrev N_triple : List Str := ["line", "bad"]
theorem sc_triple : FnScope ["line", "bad"] ["line"] (defScope s_triple) := ⟨rfl, rfl, rfl, by decide +kernel, rfl, by decide +kernel, by decide +kernel⟩
abbrev s_safe : Stmt := (topS 72)
abbrev N_safe : List Str := ["line", "bad"]
theorem sc_safe : FnScope ["line", "bad"] ["line"] (defScope s_safe) := ⟨rfl, rfl, rfl, by decide +kernel, rfl, by decide +kernel, by decide +kernel⟩
abbrev s_says : Stmt := (topS 73)
abbrev N_says : List Str := ["line", "worlds"]
theorem sc_says : FnScope ["line", "worlds"] ["line"] (defScope s_says) := ⟨rfl, rfl, rfl, by decide +kernel, rfl, by decide +kernel, by decide +kernel⟩
abbrev s_frame : Stmt := (topS 74)
abbrev N_frame : List Str := ["line", "before", "left", "gone", "worlds", "taken", "at", "fact"]
theorem sc_frame : FnScope ["line", "before", "left", "gone", "worlds", "taken", "at", "fact"] ["line"] (defScope s_frame) := ⟨rfl, rfl, rfl, by decide +kernel, rfl, by decide +kernel, by decide +kernel⟩
abbrev s_sort_piece : Stmt := (topS 75)
abbrev N_sort_piece : List Str := ["at", "fact", "worlds", "taken", "left", "gone", "own", "shared", "place"]
theorem sc_sort_piece : FnScope ["at", "fact", "worlds", "taken", "left", "gone", "own", "shared", "place"] ["at", "fact", "worlds", "taken", "left", "gone"] (defScope s_sort_piece) := ⟨rfl, rfl, rfl, by decide +kernel, rfl, by decide +kernel, by decide +kernel⟩
abbrev s_can : Stmt := (topS 76)
abbrev N_can : List Str := ["line", "p", "worlds"]
theorem sc_can : FnScope ["line", "p", "worlds"] ["line", "p"] (defScope s_can) := ⟨rfl, rfl, rfl, by decide +kernel, rfl, by decide +kernel, by decide +kernel⟩
abbrev s_surely : Stmt := (topS 77)
abbrev N_surely : List Str := ["line", "p", "x", "y", "rows", "names", "alike"]
theorem sc_surely : FnScope ["line", "p", "x", "y", "rows", "names", "alike"] ["line", "p", "x", "y"] (defScope s_surely) := ⟨rfl, rfl, rfl, by decide +kernel, rfl, by decide +kernel, by decide +kernel⟩
abbrev s_is_world : Stmt := (topS 78)
abbrev N_is_world : List Str := ["greatest", "numbers", "lowest", "place"]
theorem sc_is_world : FnScope ["greatest", "numbers", "lowest", "place"] ["greatest", "numbers"] (defScope s_is_world) := ⟨rfl, rfl, rfl, by decide +kernel, rfl, by decide +kernel, by decide +kernel⟩
abbrev s_names_of : Stmt := (topS 79)
abbrev N_names_of : List Str := ["greatest", "numbers"]
theorem sc_names_of : FnScope ["greatest", "numbers"] ["greatest", "numbers"] (defScope s_names_of) := ⟨rfl, rfl, rfl, by decide +kernel, rfl, by decide +kernel, by decide +kernel⟩
abbrev s_heap_of : Stmt := (topS 80)
abbrev N_heap_of : List Str := ["greatest", "numbers"]
theorem sc_heap_of : FnScope ["greatest", "numbers"] ["greatest", "numbers"] (defScope s_heap_of) := ⟨rfl, rfl, rfl, by decide +kernel, rfl, by decide +kernel, by decide +kernel⟩
abbrev s_fits : Stmt := (topS 81)
abbrev N_fits : List Str := ["line", "p", "numbers"]
theorem sc_fits : FnScope ["line", "p", "numbers"] ["line", "p", "numbers"] (defScope s_fits) := ⟨rfl, rfl, rfl, by decide +kernel, rfl, by decide +kernel, by decide +kernel⟩
abbrev s_run : Stmt := (topS 82)
abbrev N_run : List Str := ["line", "numbers", "names", "heap", "at"]
theorem sc_run : FnScope ["line", "numbers", "names", "heap", "at"] ["line", "numbers"] (defScope s_run) := ⟨rfl, rfl, rfl, by decide +kernel, rfl, by decide +kernel, by decide +kernel⟩
abbrev s_answers : Stmt := (topS 85)
abbrev N_answers : List Str := ["calls", "line", "given", "at", "behind", "answered"]
theorem sc_answers : FnScope ["calls", "line", "given", "at", "behind", "answered"] ["calls"] (defScope s_answers) := ⟨rfl, rfl, rfl, by decide +kernel, rfl, by decide +kernel, by decide +kernel⟩
abbrev s_end_of_call : Stmt := (topS 86)
abbrev N_end_of_call : List Str := ["calls", "at", "behind"]
theorem sc_end_of_call : FnScope ["calls", "at", "behind"] ["calls", "at"] (defScope s_end_of_call) := ⟨rfl, rfl, rfl, by decide +kernel, rfl, by decide +kernel, by decide +kernel⟩
abbrev s_answer : Stmt := (topS 87)
abbrev N_answer : List Str := ["line", "call", "numbers"]
theorem sc_answer : FnScope ["line", "call", "numbers"] ["line", "call", "numbers"] (defScope s_answer) := ⟨rfl, rfl, rfl, by decide +kernel, rfl, by decide +kernel, by decide +kernel⟩
abbrev s_answer_of_writing : Stmt := (topS 88)
abbrev N_answer_of_writing : List Str := ["line", "call", "numbers"]
theorem sc_answer_of_writing : FnScope ["line", "call", "numbers"] ["line", "call", "numbers"] (defScope s_answer_of_writing) := ⟨rfl, rfl, rfl, by decide +kernel, rfl, by decide +kernel, by decide +kernel⟩
abbrev s_answer_of_asking : Stmt := (topS 89)
abbrev N_answer_of_asking : List Str := ["line", "call", "numbers"]
theorem sc_answer_of_asking : FnScope ["line", "call", "numbers"] ["line", "call", "numbers"] (defScope s_answer_of_asking) := ⟨rfl, rfl, rfl, by decide +kernel, rfl, by decide +kernel, by decide +kernel⟩
/-- what the top has left -/
structure Top (K : PySem.W.Frag) (mg : Str → Option Value) where
  n_all : mg "all" = none
  n_any : mg "any" = none
  n_dict : mg "dict" = none
  n_enumerate : mg "enumerate" = none
  n_len : mg "len" = none
  n_list : mg "list" = none
  n_max : mg "max" = none
  n_range : mg "range" = none
  n_set : mg "set" = none
  n_sorted : mg "sorted" = none
  n_zip : mg "zip" = none
  t_START : Tok
  g_START : mg "START" = some (.int (0) t_START)
  t_SAME : Tok
  g_SAME : mg "SAME" = some (.int (1) t_SAME)
  t_DIFFER : Tok
  g_DIFFER : mg "DIFFER" = some (.int (2) t_DIFFER)
  t_CELL : Tok
  g_CELL : mg "CELL" = some (.int (3) t_CELL)
  t_CHAIN : Tok
  g_CHAIN : mg "CHAIN" = some (.int (4) t_CHAIN)
  t_CLEAR : Tok
  g_CLEAR : mg "CLEAR" = some (.int (5) t_CLEAR)
  t_LET : Tok
  g_LET : mg "LET" = some (.int (6) t_LET)
  t_LOAD : Tok
  g_LOAD : mg "LOAD" = some (.int (7) t_LOAD)
  t_STORE : Tok
  g_STORE : mg "STORE" = some (.int (8) t_STORE)
  t_NEW : Tok
  g_NEW : mg "NEW" = some (.int (9) t_NEW)
  t_FREE : Tok
  g_FREE : mg "FREE" = some (.int (10) t_FREE)
  t_UNDO : Tok
  g_UNDO : mg "UNDO" = some (.int (11) t_UNDO)
  t_SWAP : Tok
  g_SWAP : mg "SWAP" = some (.int (12) t_SWAP)
  t_TRIPLE : Tok
  g_TRIPLE : mg "TRIPLE" = some (.int (13) t_TRIPLE)
  t_SAFE : Tok
  g_SAFE : mg "SAFE" = some (.int (14) t_SAFE)
  t_SAYS : Tok
  g_SAYS : mg "SAYS" = some (.int (15) t_SAYS)
  t_FRAME : Tok
  g_FRAME : mg "FRAME" = some (.int (16) t_FRAME)
  t_CAN : Tok
  g_CAN : mg "CAN" = some (.int (17) t_CAN)
  t_SURELY : Tok
  g_SURELY : mg "SURELY" = some (.int (18) t_SURELY)
  t_FITS : Tok
  g_FITS : mg "FITS" = some (.int (19) t_FITS)
  t_RUN : Tok
  g_RUN : mg "RUN" = some (.int (20) t_RUN)
  t_NOT_ALLOWED : Tok
  g_NOT_ALLOWED : mg "NOT_ALLOWED" = some (.int (-1) t_NOT_ALLOWED)
  t_NO_SUCH_NAME : Tok
  g_NO_SUCH_NAME : mg "NO_SUCH_NAME" = some (.int (-2) t_NO_SUCH_NAME)
  t_NO_WORLD_TOLD : Tok
  g_NO_WORLD_TOLD : mg "NO_WORLD_TOLD" = some (.int (-3) t_NO_WORLD_TOLD)
  t_FULL : Tok
  g_FULL : mg "FULL" = some (.int (-5) t_FULL)
  t_NEVER_SO : Tok
  g_NEVER_SO : mg "NEVER_SO" = some (.int (-6) t_NEVER_SO)
  t_NONE_THERE : Tok
  g_NONE_THERE : mg "NONE_THERE" = some (.int (-7) t_NONE_THERE)
  t_FIRST_GREATEST : Tok
  g_FIRST_GREATEST : mg "FIRST_GREATEST" = some (.int (3) t_FIRST_GREATEST)
  t_MOST_GREATEST : Tok
  g_MOST_GREATEST : mg "MOST_GREATEST" = some (.int (4) t_MOST_GREATEST)
  t_MOST_FACTS : Tok
  g_MOST_FACTS : mg "MOST_FACTS" = some (.int (8) t_MOST_FACTS)
  t_MOST_CHAINS : Tok
  g_MOST_CHAINS : mg "MOST_CHAINS" = some (.int (3) t_MOST_CHAINS)
  t_MOST_STEPS : Tok
  g_MOST_STEPS : mg "MOST_STEPS" = some (.int (4) t_MOST_STEPS)
  t_MOST_OF_SAYS : Tok
  g_MOST_OF_SAYS : mg "MOST_OF_SAYS" = some (.int (2) t_MOST_OF_SAYS)
  t_MOST_OF_CAN : Tok
  g_MOST_OF_CAN : mg "MOST_OF_CAN" = some (.int (1) t_MOST_OF_CAN)
  t_MOST_ABOVE_STEPS : Tok
  g_MOST_ABOVE_STEPS : mg "MOST_ABOVE_STEPS" = some (.int (2) t_MOST_ABOVE_STEPS)
  a_NUMBERS_BEHIND : Addr
  g_NUMBERS_BEHIND : mg "NUMBERS_BEHIND" = some (.ref a_NUMBERS_BEHIND)
  q_NUMBERS_BEHIND : ∀ H, SqT K H a_NUMBERS_BEHIND [V.int 1, V.int 3, V.int 3, V.int 3, V.int 3, V.int 1, V.int 2, V.int 2, V.int 2, V.int 1, V.int 1, V.int 0, V.int 0, V.int 0, V.int 0, V.int 0, V.int 0, V.int 1, V.int 3, V.int 2, V.int 1]
  C_Line : Addr
  g_Line : mg "Line" = some (.ref C_Line)
  cl_Line : Cls K C_Line
  C_PlainWorlds : Addr
  g_PlainWorlds : mg "PlainWorlds" = some (.ref C_PlainWorlds)
  cl_PlainWorlds : Cls K C_PlainWorlds
  f_Line_init : Addr
  fd_Line_init : FuncData
  F_Line_init : Fun K "__init__" "Line.__init__" s_Line_init f_Line_init fd_Line_init
  b_Line_init : Binds K fd_Line_init ["self"] []
  m_Line_init : Meth K C_Line "__init__" f_Line_init
  f_start : Addr
  fd_start : FuncData
  F_start : Fun K "start" "start" s_start f_start fd_start
  b_start : Binds K fd_start ["line", "greatest"] []
  g_start : mg "start" = some (.ref f_start)
  f_is_telling : Addr
  fd_is_telling : FuncData
  F_is_telling : Fun K "is_telling" "is_telling" s_is_telling f_is_telling fd_is_telling
  b_is_telling : Binds K fd_is_telling ["p"] []
  g_is_telling : mg "is_telling" = some (.ref f_is_telling)
  f_are_names : Addr
  fd_are_names : FuncData
  F_are_names : Fun K "are_names" "are_names" s_are_names f_are_names fd_are_names
  b_are_names : Binds K fd_are_names ["line", "x", "y"] []
  g_are_names : mg "are_names" = some (.ref f_are_names)
  f_count_chains : Addr
  fd_count_chains : FuncData
  F_count_chains : Fun K "count_chains" "count_chains" s_count_chains f_count_chains fd_count_chains
  b_count_chains : Binds K fd_count_chains ["telling"] []
  g_count_chains : mg "count_chains" = some (.ref f_count_chains)
  f_is_full_for : Addr
  fd_is_full_for : FuncData
  F_is_full_for : Fun K "is_full_for" "is_full_for" s_is_full_for f_is_full_for fd_is_full_for
  b_is_full_for : Binds K fd_is_full_for ["telling", "kind"] []
  g_is_full_for : mg "is_full_for" = some (.ref f_is_full_for)
  f_add_fact : Addr
  fd_add_fact : FuncData
  F_add_fact : Fun K "add_fact" "add_fact" s_add_fact f_add_fact fd_add_fact
  b_add_fact : Binds K fd_add_fact ["line", "kind", "p", "x", "y"] []
  g_add_fact : mg "add_fact" = some (.ref f_add_fact)
  f_clear_telling : Addr
  fd_clear_telling : FuncData
  F_clear_telling : Fun K "clear_telling" "clear_telling" s_clear_telling f_clear_telling fd_clear_telling
  b_clear_telling : Binds K fd_clear_telling ["line", "p"] []
  g_clear_telling : mg "clear_telling" = some (.ref f_clear_telling)
  f_sets_its_name : Addr
  fd_sets_its_name : FuncData
  F_sets_its_name : Fun K "sets_its_name" "sets_its_name" s_sets_its_name f_sets_its_name fd_sets_its_name
  b_sets_its_name : Binds K fd_sets_its_name ["kind"] []
  g_sets_its_name : mg "sets_its_name" = some (.ref f_sets_its_name)
  f_add_step : Addr
  fd_add_step : FuncData
  F_add_step : Fun K "add_step" "add_step" s_add_step f_add_step fd_add_step
  b_add_step : Binds K fd_add_step ["line", "kind", "x", "y"] []
  g_add_step : mg "add_step" = some (.ref f_add_step)
  f_undo_step : Addr
  fd_undo_step : FuncData
  F_undo_step : Fun K "undo_step" "undo_step" s_undo_step f_undo_step fd_undo_step
  b_undo_step : Binds K fd_undo_step ["line"] []
  g_undo_step : mg "undo_step" = some (.ref f_undo_step)
  f_swap_tellings : Addr
  fd_swap_tellings : FuncData
  F_swap_tellings : Fun K "swap_tellings" "swap_tellings" s_swap_tellings f_swap_tellings fd_swap_tellings
  b_swap_tellings : Binds K fd_swap_tellings ["line"] []
  g_swap_tellings : mg "swap_tellings" = some (.ref f_swap_tellings)
  f_is_so : Addr
  fd_is_so : FuncData
  F_is_so : Fun K "is_so" "is_so" s_is_so f_is_so fd_is_so
  b_is_so : Binds K fd_is_so ["telling", "names", "heap"] []
  g_is_so : mg "is_so" = some (.ref f_is_so)
  f_places_taken : Addr
  fd_places_taken : FuncData
  F_places_taken : Fun K "places_taken" "places_taken" s_places_taken f_places_taken fd_places_taken
  b_places_taken : Binds K fd_places_taken ["telling", "names", "heap"] []
  g_places_taken : mg "places_taken" = some (.ref f_places_taken)
  f_take_cell : Addr
  fd_take_cell : FuncData
  F_take_cell : Fun K "take_cell" "take_cell" s_take_cell f_take_cell fd_take_cell
  b_take_cell : Binds K fd_take_cell ["taken", "place", "end", "heap"] []
  g_take_cell : mg "take_cell" = some (.ref f_take_cell)
  f_take_chain : Addr
  fd_take_chain : FuncData
  F_take_chain : Fun K "take_chain" "take_chain" s_take_chain f_take_chain fd_take_chain
  b_take_chain : Binds K fd_take_chain ["taken", "first", "end", "heap"] []
  g_take_chain : mg "take_chain" = some (.ref f_take_chain)
  f_do_step : Addr
  fd_do_step : FuncData
  F_do_step : Fun K "do_step" "do_step" s_do_step f_do_step fd_do_step
  b_do_step : Binds K fd_do_step ["step", "names", "heap"] []
  g_do_step : mg "do_step" = some (.ref f_do_step)
  f_do_new : Addr
  fd_do_new : FuncData
  F_do_new : Fun K "do_new" "do_new" s_do_new f_do_new fd_do_new
  b_do_new : Binds K fd_do_new ["step", "place", "names", "heap"] []
  g_do_new : mg "do_new" = some (.ref f_do_new)
  f_place_above_all : Addr
  fd_place_above_all : FuncData
  F_place_above_all : Fun K "place_above_all" "place_above_all" s_place_above_all f_place_above_all fd_place_above_all
  b_place_above_all : Binds K fd_place_above_all ["names", "heap"] []
  g_place_above_all : mg "place_above_all" = some (.ref f_place_above_all)
  f_new_places : Addr
  fd_new_places : FuncData
  F_new_places : Fun K "new_places" "new_places" s_new_places f_new_places fd_new_places
  b_new_places : Binds K fd_new_places ["names", "heap"] []
  g_new_places : mg "new_places" = some (.ref f_new_places)
  f_last_run : Addr
  fd_last_run : FuncData
  F_last_run : Fun K "last_run" "last_run" s_last_run f_last_run fd_last_run
  b_last_run : Binds K fd_last_run ["steps", "names", "heap"] []
  g_last_run : mg "last_run" = some (.ref f_last_run)
  f_first_bad_run : Addr
  fd_first_bad_run : FuncData
  F_first_bad_run : Fun K "first_bad_run" "first_bad_run" s_first_bad_run f_first_bad_run fd_first_bad_run
  b_first_bad_run : Binds K fd_first_bad_run ["steps", "names", "heap", "behind"] []
  g_first_bad_run : mg "first_bad_run" = some (.ref f_first_bad_run)
  f_first_bad_from : Addr
  fd_first_bad_from : FuncData
  F_first_bad_from : Fun K "first_bad_from" "first_bad_from" s_first_bad_from f_first_bad_from fd_first_bad_from
  b_first_bad_from : Binds K fd_first_bad_from ["first", "steps", "names", "heap", "places", "behind"] []
  g_first_bad_from : mg "first_bad_from" = some (.ref f_first_bad_from)
  f_first_bad_new : Addr
  fd_first_bad_new : FuncData
  F_first_bad_new : Fun K "first_bad_new" "first_bad_new" s_first_bad_new f_first_bad_new fd_first_bad_new
  b_first_bad_new : Binds K fd_first_bad_new ["at", "steps", "names", "heap", "places", "behind"] []
  g_first_bad_new : mg "first_bad_new" = some (.ref f_first_bad_new)
  f_plain_names : Addr
  fd_plain_names : FuncData
  F_plain_names : Fun K "plain_names" "plain_names" s_plain_names f_plain_names fd_plain_names
  b_plain_names : Binds K fd_plain_names ["greatest"] []
  g_plain_names : mg "plain_names" = some (.ref f_plain_names)
  f_cells_told : Addr
  fd_cells_told : FuncData
  F_cells_told : Fun K "cells_told" "cells_told" s_cells_told f_cells_told fd_cells_told
  b_cells_told : Binds K fd_cells_told ["telling", "names"] []
  g_cells_told : mg "cells_told" = some (.ref f_cells_told)
  f_chains_told : Addr
  fd_chains_told : FuncData
  F_chains_told : Fun K "chains_told" "chains_told" s_chains_told f_chains_told fd_chains_told
  b_chains_told : Binds K fd_chains_told ["telling", "names"] []
  g_chains_told : mg "chains_told" = some (.ref f_chains_told)
  f_can_be_so : Addr
  fd_can_be_so : FuncData
  F_can_be_so : Fun K "can_be_so" "can_be_so" s_can_be_so f_can_be_so fd_can_be_so
  b_can_be_so : Binds K fd_can_be_so ["telling", "names"] []
  g_can_be_so : mg "can_be_so" = some (.ref f_can_be_so)
  f_PlainWorlds_init : Addr
  fd_PlainWorlds_init : FuncData
  F_PlainWorlds_init : Fun K "__init__" "PlainWorlds.__init__" s_PlainWorlds_init f_PlainWorlds_init fd_PlainWorlds_init
  b_PlainWorlds_init : Binds K fd_PlainWorlds_init ["self", "telling", "greatest", "most"] []
  m_PlainWorlds_init : Meth K C_PlainWorlds "__init__" f_PlainWorlds_init
  f_PlainWorlds_go_on : Addr
  fd_PlainWorlds_go_on : FuncData
  F_PlainWorlds_go_on : Fun K "go_on" "PlainWorlds.go_on" s_PlainWorlds_go_on f_PlainWorlds_go_on fd_PlainWorlds_go_on
  b_PlainWorlds_go_on : Binds K fd_PlainWorlds_go_on ["self"] []
  m_PlainWorlds_go_on : Meth K C_PlainWorlds "go_on" f_PlainWorlds_go_on
  f_PlainWorlds_begin : Addr
  fd_PlainWorlds_begin : FuncData
  F_PlainWorlds_begin : Fun K "begin" "PlainWorlds.begin" s_PlainWorlds_begin f_PlainWorlds_begin fd_PlainWorlds_begin
  b_PlainWorlds_begin : Binds K fd_PlainWorlds_begin ["self", "names"] []
  m_PlainWorlds_begin : Meth K C_PlainWorlds "begin" f_PlainWorlds_begin
  f_PlainWorlds_lay_chains : Addr
  fd_PlainWorlds_lay_chains : FuncData
  F_PlainWorlds_lay_chains : Fun K "lay_chains" "PlainWorlds.lay_chains" s_PlainWorlds_lay_chains f_PlainWorlds_lay_chains fd_PlainWorlds_lay_chains
  b_PlainWorlds_lay_chains : Binds K fd_PlainWorlds_lay_chains ["self", "first"] []
  m_PlainWorlds_lay_chains : Meth K C_PlainWorlds "lay_chains" f_PlainWorlds_lay_chains
  f_PlainWorlds_lay_cell : Addr
  fd_PlainWorlds_lay_cell : FuncData
  F_PlainWorlds_lay_cell : Fun K "lay_cell" "PlainWorlds.lay_cell" s_PlainWorlds_lay_cell f_PlainWorlds_lay_cell fd_PlainWorlds_lay_cell
  b_PlainWorlds_lay_cell : Binds K fd_PlainWorlds_lay_cell ["self", "which", "place", "count"] []
  m_PlainWorlds_lay_cell : Meth K C_PlainWorlds "lay_cell" f_PlainWorlds_lay_cell
  f_PlainWorlds_take_up_last_cell : Addr
  fd_PlainWorlds_take_up_last_cell : FuncData
  F_PlainWorlds_take_up_last_cell : Fun K "take_up_last_cell" "PlainWorlds.take_up_last_cell" s_PlainWorlds_take_up_last_cell f_PlainWorlds_take_up_last_cell fd_PlainWorlds_take_up_last_cell
  b_PlainWorlds_take_up_last_cell : Binds K fd_PlainWorlds_take_up_last_cell ["self"] []
  m_PlainWorlds_take_up_last_cell : Meth K C_PlainWorlds "take_up_last_cell" f_PlainWorlds_take_up_last_cell
  f_PlainWorlds_turn_last_cell : Addr
  fd_PlainWorlds_turn_last_cell : FuncData
  F_PlainWorlds_turn_last_cell : Fun K "turn_last_cell" "PlainWorlds.turn_last_cell" s_PlainWorlds_turn_last_cell f_PlainWorlds_turn_last_cell fd_PlainWorlds_turn_last_cell
  b_PlainWorlds_turn_last_cell : Binds K fd_PlainWorlds_turn_last_cell ["self"] []
  m_PlainWorlds_turn_last_cell : Meth K C_PlainWorlds "turn_last_cell" f_PlainWorlds_turn_last_cell
  f_PlainWorlds_number_next : Addr
  fd_PlainWorlds_number_next : FuncData
  F_PlainWorlds_number_next : Fun K "number_next" "PlainWorlds.number_next" s_PlainWorlds_number_next f_PlainWorlds_number_next fd_PlainWorlds_number_next
  b_PlainWorlds_number_next : Binds K fd_PlainWorlds_number_next ["self", "held", "end", "count"] []
  m_PlainWorlds_number_next : Meth K C_PlainWorlds "number_next" f_PlainWorlds_number_next
  f_world_told : Addr
  fd_world_told : FuncData
  F_world_told : Fun K "world_told" "world_told" s_world_told f_world_told fd_world_told
  b_world_told : Binds K fd_world_told ["names", "heap"] []
  g_world_told : mg "world_told" = some (.ref f_world_told)
  f_bad_run_told : Addr
  fd_bad_run_told : FuncData
  F_bad_run_told : Fun K "bad_run_told" "bad_run_told" s_bad_run_told f_bad_run_told fd_bad_run_told
  b_bad_run_told : Binds K fd_bad_run_told ["line", "behind"] []
  g_bad_run_told : mg "bad_run_told" = some (.ref f_bad_run_told)
  f_triple : Addr
  fd_triple : FuncData
  F_triple : Fun K "triple" "triple" s_triple f_triple fd_triple
  b_triple : Binds K fd_triple ["line"] []
  g_triple : mg "triple" = some (.ref f_triple)
  f_safe : Addr
  fd_safe : FuncData
  F_safe : Fun K "safe" "safe" s_safe f_safe fd_safe
  b_safe : Binds K fd_safe ["line"] []
  g_safe : mg "safe" = some (.ref f_safe)
  f_says : Addr
  fd_says : FuncData
  F_says : Fun K "says" "says" s_says f_says fd_says
  b_says : Binds K fd_says ["line"] []
  g_says : mg "says" = some (.ref f_says)
  f_frame : Addr
  fd_frame : FuncData
  F_frame : Fun K "frame" "frame" s_frame f_frame fd_frame
  b_frame : Binds K fd_frame ["line"] []
  g_frame : mg "frame" = some (.ref f_frame)
  f_sort_piece : Addr
  fd_sort_piece : FuncData
  F_sort_piece : Fun K "sort_piece" "sort_piece" s_sort_piece f_sort_piece fd_sort_piece
  b_sort_piece : Binds K fd_sort_piece ["at", "fact", "worlds", "taken", "left", "gone"] []
  g_sort_piece : mg "sort_piece" = some (.ref f_sort_piece)
  f_can : Addr
  fd_can : FuncData
  F_can : Fun K "can" "can" s_can f_can fd_can
  b_can : Binds K fd_can ["line", "p"] []
  g_can : mg "can" = some (.ref f_can)
  f_surely : Addr
  fd_surely : FuncData
  F_surely : Fun K "surely" "surely" s_surely f_surely fd_surely
  b_surely : Binds K fd_surely ["line", "p", "x", "y"] []
  g_surely : mg "surely" = some (.ref f_surely)
  f_is_world : Addr
  fd_is_world : FuncData
  F_is_world : Fun K "is_world" "is_world" s_is_world f_is_world fd_is_world
  b_is_world : Binds K fd_is_world ["greatest", "numbers"] []
  g_is_world : mg "is_world" = some (.ref f_is_world)
  f_names_of : Addr
  fd_names_of : FuncData
  F_names_of : Fun K "names_of" "names_of" s_names_of f_names_of fd_names_of
  b_names_of : Binds K fd_names_of ["greatest", "numbers"] []
  g_names_of : mg "names_of" = some (.ref f_names_of)
  f_heap_of : Addr
  fd_heap_of : FuncData
  F_heap_of : Fun K "heap_of" "heap_of" s_heap_of f_heap_of fd_heap_of
  b_heap_of : Binds K fd_heap_of ["greatest", "numbers"] []
  g_heap_of : mg "heap_of" = some (.ref f_heap_of)
  f_fits : Addr
  fd_fits : FuncData
  F_fits : Fun K "fits" "fits" s_fits f_fits fd_fits
  b_fits : Binds K fd_fits ["line", "p", "numbers"] []
  g_fits : mg "fits" = some (.ref f_fits)
  f_run : Addr
  fd_run : FuncData
  F_run : Fun K "run" "run" s_run f_run fd_run
  b_run : Binds K fd_run ["line", "numbers"] []
  g_run : mg "run" = some (.ref f_run)
  f_answers : Addr
  fd_answers : FuncData
  F_answers : Fun K "answers" "answers" s_answers f_answers fd_answers
  b_answers : Binds K fd_answers ["calls"] []
  g_answers : mg "answers" = some (.ref f_answers)
  f_end_of_call : Addr
  fd_end_of_call : FuncData
  F_end_of_call : Fun K "end_of_call" "end_of_call" s_end_of_call f_end_of_call fd_end_of_call
  b_end_of_call : Binds K fd_end_of_call ["calls", "at"] []
  g_end_of_call : mg "end_of_call" = some (.ref f_end_of_call)
  f_answer : Addr
  fd_answer : FuncData
  F_answer : Fun K "answer" "answer" s_answer f_answer fd_answer
  b_answer : Binds K fd_answer ["line", "call", "numbers"] []
  g_answer : mg "answer" = some (.ref f_answer)
  f_answer_of_writing : Addr
  fd_answer_of_writing : FuncData
  F_answer_of_writing : Fun K "answer_of_writing" "answer_of_writing" s_answer_of_writing f_answer_of_writing fd_answer_of_writing
  b_answer_of_writing : Binds K fd_answer_of_writing ["line", "call", "numbers"] []
  g_answer_of_writing : mg "answer_of_writing" = some (.ref f_answer_of_writing)
  f_answer_of_asking : Addr
  fd_answer_of_asking : FuncData
  F_answer_of_asking : Fun K "answer_of_asking" "answer_of_asking" s_answer_of_asking f_answer_of_asking fd_answer_of_asking
  b_answer_of_asking : Binds K fd_answer_of_asking ["line", "call", "numbers"] []
  g_answer_of_asking : mg "answer_of_asking" = some (.ref f_answer_of_asking)
  M_Line : Mk K C_Line f_Line_init
  no_Line_greatest : NoAttr K C_Line "greatest"
  no_Line_tellings : NoAttr K C_Line "tellings"
  no_Line_steps : NoAttr K C_Line "steps"
  M_PlainWorlds : Mk K C_PlainWorlds f_PlainWorlds_init
  no_PlainWorlds_telling : NoAttr K C_PlainWorlds "telling"
  no_PlainWorlds_most : NoAttr K C_PlainWorlds "most"
  no_PlainWorlds_rows : NoAttr K C_PlainWorlds "rows"
  no_PlainWorlds_next_row : NoAttr K C_PlainWorlds "next_row"
  no_PlainWorlds_names : NoAttr K C_PlainWorlds "names"
  no_PlainWorlds_heap : NoAttr K C_PlainWorlds "heap"
  no_PlainWorlds_chains : NoAttr K C_PlainWorlds "chains"
  no_PlainWorlds_laid : NoAttr K C_PlainWorlds "laid"
  no_PlainWorlds_passages : NoAttr K C_PlainWorlds "passages"
  no_PlainWorlds_first_free : NoAttr K C_PlainWorlds "first_free"
  no_PlainWorlds_next_free : NoAttr K C_PlainWorlds "next_free"
theorem vals_of : ∀ {us : List Value} {xs : List V}, us.map absV = xs.map some → Vals xs us
  | [], [], _ => .nil
  | [], _ :: _, h => by cases h
  | _ :: _, [], h => by cases h
  | u :: us, x :: xs, h => by
    injection h with h1 h2
    refine .cons ?_ (vals_of h2)
    cases u <;> cases h1 <;> first | rfl | exact ⟨_, rfl⟩
def top_mk {K : PySem.W.Frag} {h : Heap} {mg : Str → Option Value} (X : K.In h) (G : h.Ns mainGlobals mg)
    {t_START : Tok}
    {t_SAME : Tok}
    {t_DIFFER : Tok}
    {t_CELL : Tok}
    {t_CHAIN : Tok}
    {t_CLEAR : Tok}
    {t_LET : Tok}
    {t_LOAD : Tok}
    {t_STORE : Tok}
    {t_NEW : Tok}
    {t_FREE : Tok}
    {t_UNDO : Tok}
    {t_SWAP : Tok}
    {t_TRIPLE : Tok}
    {t_SAFE : Tok}
    {t_SAYS : Tok}
    {t_FRAME : Tok}
    {t_CAN : Tok}
    {t_SURELY : Tok}
    {t_FITS : Tok}
    {t_RUN : Tok}
    {t_NOT_ALLOWED : Tok}
    {t_NO_SUCH_NAME : Tok}
    {t_NO_WORLD_TOLD : Tok}
    {t_FULL : Tok}
    {t_NEVER_SO : Tok}
    {t_NONE_THERE : Tok}
    {t_FIRST_GREATEST : Tok}
    {t_MOST_GREATEST : Tok}
    {t_MOST_FACTS : Tok}
    {t_MOST_CHAINS : Tok}
    {t_MOST_STEPS : Tok}
    {t_MOST_OF_SAYS : Tok}
    {t_MOST_OF_CAN : Tok}
    {t_MOST_ABOVE_STEPS : Tok}
    {a_NUMBERS_BEHIND : Addr} {n_NUMBERS_BEHIND : Nat} {i_NUMBERS_BEHIND : Array Value} {o_NUMBERS_BEHIND : Array (Option Value)}
    {C_Line : Addr}
    {C_PlainWorlds : Addr}
    {f_Line_init : Addr} {od_Line_init an_Line_init : Option Addr} {sl_Line_init : Array (Option Value)} {oc_Line_init kV_Line_init dc_Line_init pm_Line_init cd_Line_init ct_Line_init : Value}
    {f_start : Addr} {od_start an_start : Option Addr} {sl_start : Array (Option Value)} {oc_start kV_start dc_start pm_start cd_start ct_start : Value}
    {f_is_telling : Addr} {od_is_telling an_is_telling : Option Addr} {sl_is_telling : Array (Option Value)} {oc_is_telling kV_is_telling dc_is_telling pm_is_telling cd_is_telling ct_is_telling : Value}
    {f_are_names : Addr} {od_are_names an_are_names : Option Addr} {sl_are_names : Array (Option Value)} {oc_are_names kV_are_names dc_are_names pm_are_names cd_are_names ct_are_names : Value}
    {f_count_chains : Addr} {od_count_chains an_count_chains : Option Addr} {sl_count_chains : Array (Option Value)} {oc_count_chains kV_count_chains dc_count_chains pm_count_chains cd_count_chains ct_count_chains : Value}
    {f_is_full_for : Addr} {od_is_full_for an_is_full_for : Option Addr} {sl_is_full_for : Array (Option Value)} {oc_is_full_for kV_is_full_for dc_is_full_for pm_is_full_for cd_is_full_for ct_is_full_for : Value}
    {f_add_fact : Addr} {od_add_fact an_add_fact : Option Addr} {sl_add_fact : Array (Option Value)} {oc_add_fact kV_add_fact dc_add_fact pm_add_fact cd_add_fact ct_add_fact : Value}
    {f_clear_telling : Addr} {od_clear_telling an_clear_telling : Option Addr} {sl_clear_telling : Array (Option Value)} {oc_clear_telling kV_clear_telling dc_clear_telling pm_clear_telling cd_clear_telling ct_clear_telling : Value}
    {f_sets_its_name : Addr} {od_sets_its_name an_sets_its_name : Option Addr} {sl_sets_its_name : Array (Option Value)} {oc_sets_its_name kV_sets_its_name dc_sets_its_name pm_sets_its_name cd_sets_its_name ct_sets_its_name : Value}
    {f_add_step : Addr} {od_add_step an_add_step : Option Addr} {sl_add_step : Array (Option Value)} {oc_add_step kV_add_step dc_add_step pm_add_step cd_add_step ct_add_step : Value}
    {f_undo_step : Addr} {od_undo_step an_undo_step : Option Addr} {sl_undo_step : Array (Option Value)} {oc_undo_step kV_undo_step dc_undo_step pm_undo_step cd_undo_step ct_undo_step : Value}
    {f_swap_tellings : Addr} {od_swap_tellings an_swap_tellings : Option Addr} {sl_swap_tellings : Array (Option Value)} {oc_swap_tellings kV_swap_tellings dc_swap_tellings pm_swap_tellings cd_swap_tellings ct_swap_tellings : Value}
    {f_is_so : Addr} {od_is_so an_is_so : Option Addr} {sl_is_so : Array (Option Value)} {oc_is_so kV_is_so dc_is_so pm_is_so cd_is_so ct_is_so : Value}
    {f_places_taken : Addr} {od_places_taken an_places_taken : Option Addr} {sl_places_taken : Array (Option Value)} {oc_places_taken kV_places_taken dc_places_taken pm_places_taken cd_places_taken ct_places_taken : Value}
    {f_take_cell : Addr} {od_take_cell an_take_cell : Option Addr} {sl_take_cell : Array (Option Value)} {oc_take_cell kV_take_cell dc_take_cell pm_take_cell cd_take_cell ct_take_cell : Value}
    {f_take_chain : Addr} {od_take_chain an_take_chain : Option Addr} {sl_take_chain : Array (Option Value)} {oc_take_chain kV_take_chain dc_take_chain pm_take_chain cd_take_chain ct_take_chain : Value}
    {f_do_step : Addr} {od_do_step an_do_step : Option Addr} {sl_do_step : Array (Option Value)} {oc_do_step kV_do_step dc_do_step pm_do_step cd_do_step ct_do_step : Value}
    {f_do_new : Addr} {od_do_new an_do_new : Option Addr} {sl_do_new : Array (Option Value)} {oc_do_new kV_do_new dc_do_new pm_do_new cd_do_new ct_do_new : Value}
    {f_place_above_all : Addr} {od_place_above_all an_place_above_all : Option Addr} {sl_place_above_all : Array (Option Value)} {oc_place_above_all kV_place_above_all dc_place_above_all pm_place_above_all cd_place_above_all ct_place_above_all : Value}
    {f_new_places : Addr} {od_new_places an_new_places : Option Addr} {sl_new_places : Array (Option Value)} {oc_new_places kV_new_places dc_new_places pm_new_places cd_new_places ct_new_places : Value}
    {f_last_run : Addr} {od_last_run an_last_run : Option Addr} {sl_last_run : Array (Option Value)} {oc_last_run kV_last_run dc_last_run pm_last_run cd_last_run ct_last_run : Value}
    {f_first_bad_run : Addr} {od_first_bad_run an_first_bad_run : Option Addr} {sl_first_bad_run : Array (Option Value)} {oc_first_bad_run kV_first_bad_run dc_first_bad_run pm_first_bad_run cd_first_bad_run ct_first_bad_run : Value}
    {f_first_bad_from : Addr} {od_first_bad_from an_first_bad_from : Option Addr} {sl_first_bad_from : Array (Option Value)} {oc_first_bad_from kV_first_bad_from dc_first_bad_from pm_first_bad_from cd_first_bad_from ct_first_bad_from : Value}
    {f_first_bad_new : Addr} {od_first_bad_new an_first_bad_new : Option Addr} {sl_first_bad_new : Array (Option Value)} {oc_first_bad_new kV_first_bad_new dc_first_bad_new pm_first_bad_new cd_first_bad_new ct_first_bad_new : Value}
    {f_plain_names : Addr} {od_plain_names an_plain_names : Option Addr} {sl_plain_names : Array (Option Value)} {oc_plain_names kV_plain_names dc_plain_names pm_plain_names cd_plain_names ct_plain_names : Value}
    {f_cells_told : Addr} {od_cells_told an_cells_told : Option Addr} {sl_cells_told : Array (Option Value)} {oc_cells_told kV_cells_told dc_cells_told pm_cells_told cd_cells_told ct_cells_told : Value}
    {f_chains_told : Addr} {od_chains_told an_chains_told : Option Addr} {sl_chains_told : Array (Option Value)} {oc_chains_told kV_chains_told dc_chains_told pm_chains_told cd_chains_told ct_chains_told : Value}
    {f_can_be_so : Addr} {od_can_be_so an_can_be_so : Option Addr} {sl_can_be_so : Array (Option Value)} {oc_can_be_so kV_can_be_so dc_can_be_so pm_can_be_so cd_can_be_so ct_can_be_so : Value}
    {f_PlainWorlds_init : Addr} {od_PlainWorlds_init an_PlainWorlds_init : Option Addr} {sl_PlainWorlds_init : Array (Option Value)} {oc_PlainWorlds_init kV_PlainWorlds_init dc_PlainWorlds_init pm_PlainWorlds_init cd_PlainWorlds_init ct_PlainWorlds_init : Value}
    {f_PlainWorlds_go_on : Addr} {od_PlainWorlds_go_on an_PlainWorlds_go_on : Option Addr} {sl_PlainWorlds_go_on : Array (Option Value)} {oc_PlainWorlds_go_on kV_PlainWorlds_go_on dc_PlainWorlds_go_on pm_PlainWorlds_go_on cd_PlainWorlds_go_on ct_PlainWorlds_go_on : Value}
    {f_PlainWorlds_begin : Addr} {od_PlainWorlds_begin an_PlainWorlds_begin : Option Addr} {sl_PlainWorlds_begin : Array (Option Value)} {oc_PlainWorlds_begin kV_PlainWorlds_begin dc_PlainWorlds_begin pm_PlainWorlds_begin cd_PlainWorlds_begin ct_PlainWorlds_begin : Value}
    {f_PlainWorlds_lay_chains : Addr} {od_PlainWorlds_lay_chains an_PlainWorlds_lay_chains : Option Addr} {sl_PlainWorlds_lay_chains : Array (Option Value)} {oc_PlainWorlds_lay_chains kV_PlainWorlds_lay_chains dc_PlainWorlds_lay_chains pm_PlainWorlds_lay_chains cd_PlainWorlds_lay_chains ct_PlainWorlds_lay_chains : Value}
    {f_PlainWorlds_lay_cell : Addr} {od_PlainWorlds_lay_cell an_PlainWorlds_lay_cell : Option Addr} {sl_PlainWorlds_lay_cell : Array (Option Value)} {oc_PlainWorlds_lay_cell kV_PlainWorlds_lay_cell dc_PlainWorlds_lay_cell pm_PlainWorlds_lay_cell cd_PlainWorlds_lay_cell ct_PlainWorlds_lay_cell : Value}
    {f_PlainWorlds_take_up_last_cell : Addr} {od_PlainWorlds_take_up_last_cell an_PlainWorlds_take_up_last_cell : Option Addr} {sl_PlainWorlds_take_up_last_cell : Array (Option Value)} {oc_PlainWorlds_take_up_last_cell kV_PlainWorlds_take_up_last_cell dc_PlainWorlds_take_up_last_cell pm_PlainWorlds_take_up_last_cell cd_PlainWorlds_take_up_last_cell ct_PlainWorlds_take_up_last_cell : Value}
    {f_PlainWorlds_turn_last_cell : Addr} {od_PlainWorlds_turn_last_cell an_PlainWorlds_turn_last_cell : Option Addr} {sl_PlainWorlds_turn_last_cell : Array (Option Value)} {oc_PlainWorlds_turn_last_cell kV_PlainWorlds_turn_last_cell dc_PlainWorlds_turn_last_cell pm_PlainWorlds_turn_last_cell cd_PlainWorlds_turn_last_cell ct_PlainWorlds_turn_last_cell : Value}
    {f_PlainWorlds_number_next : Addr} {od_PlainWorlds_number_next an_PlainWorlds_number_next : Option Addr} {sl_PlainWorlds_number_next : Array (Option Value)} {oc_PlainWorlds_number_next kV_PlainWorlds_number_next dc_PlainWorlds_number_next pm_PlainWorlds_number_next cd_PlainWorlds_number_next ct_PlainWorlds_number_next : Value}
    {f_world_told : Addr} {od_world_told an_world_told : Option Addr} {sl_world_told : Array (Option Value)} {oc_world_told kV_world_told dc_world_told pm_world_told cd_world_told ct_world_told : Value}
    {f_bad_run_told : Addr} {od_bad_run_told an_bad_run_told : Option Addr} {sl_bad_run_told : Array (Option Value)} {oc_bad_run_told kV_bad_run_told dc_bad_run_told pm_bad_run_told cd_bad_run_told ct_bad_run_told : Value}
    {f_triple : Addr} {od_triple an_triple : Option Addr} {sl_triple : Array (Option Value)} {oc_triple kV_triple dc_triple pm_triple cd_triple ct_triple : Value}
    {f_safe : Addr} {od_safe an_safe : Option Addr} {sl_safe : Array (Option Value)} {oc_safe kV_safe dc_safe pm_safe cd_safe ct_safe : Value}
    {f_says : Addr} {od_says an_says : Option Addr} {sl_says : Array (Option Value)} {oc_says kV_says dc_says pm_says cd_says ct_says : Value}
    {f_frame : Addr} {od_frame an_frame : Option Addr} {sl_frame : Array (Option Value)} {oc_frame kV_frame dc_frame pm_frame cd_frame ct_frame : Value}
    {f_sort_piece : Addr} {od_sort_piece an_sort_piece : Option Addr} {sl_sort_piece : Array (Option Value)} {oc_sort_piece kV_sort_piece dc_sort_piece pm_sort_piece cd_sort_piece ct_sort_piece : Value}
    {f_can : Addr} {od_can an_can : Option Addr} {sl_can : Array (Option Value)} {oc_can kV_can dc_can pm_can cd_can ct_can : Value}
    {f_surely : Addr} {od_surely an_surely : Option Addr} {sl_surely : Array (Option Value)} {oc_surely kV_surely dc_surely pm_surely cd_surely ct_surely : Value}
    {f_is_world : Addr} {od_is_world an_is_world : Option Addr} {sl_is_world : Array (Option Value)} {oc_is_world kV_is_world dc_is_world pm_is_world cd_is_world ct_is_world : Value}
    {f_names_of : Addr} {od_names_of an_names_of : Option Addr} {sl_names_of : Array (Option Value)} {oc_names_of kV_names_of dc_names_of pm_names_of cd_names_of ct_names_of : Value}
    {f_heap_of : Addr} {od_heap_of an_heap_of : Option Addr} {sl_heap_of : Array (Option Value)} {oc_heap_of kV_heap_of dc_heap_of pm_heap_of cd_heap_of ct_heap_of : Value}
    {f_fits : Addr} {od_fits an_fits : Option Addr} {sl_fits : Array (Option Value)} {oc_fits kV_fits dc_fits pm_fits cd_fits ct_fits : Value}
    {f_run : Addr} {od_run an_run : Option Addr} {sl_run : Array (Option Value)} {oc_run kV_run dc_run pm_run cd_run ct_run : Value}
    {f_answers : Addr} {od_answers an_answers : Option Addr} {sl_answers : Array (Option Value)} {oc_answers kV_answers dc_answers pm_answers cd_answers ct_answers : Value}
    {f_end_of_call : Addr} {od_end_of_call an_end_of_call : Option Addr} {sl_end_of_call : Array (Option Value)} {oc_end_of_call kV_end_of_call dc_end_of_call pm_end_of_call cd_end_of_call ct_end_of_call : Value}
    {f_answer : Addr} {od_answer an_answer : Option Addr} {sl_answer : Array (Option Value)} {oc_answer kV_answer dc_answer pm_answer cd_answer ct_answer : Value}
    {f_answer_of_writing : Addr} {od_answer_of_writing an_answer_of_writing : Option Addr} {sl_answer_of_writing : Array (Option Value)} {oc_answer_of_writing kV_answer_of_writing dc_answer_of_writing pm_answer_of_writing cd_answer_of_writing ct_answer_of_writing : Value}
    {f_answer_of_asking : Addr} {od_answer_of_asking an_answer_of_asking : Option Addr} {sl_answer_of_asking : Array (Option Value)} {oc_answer_of_asking kV_answer_of_asking dc_answer_of_asking pm_answer_of_asking cd_answer_of_asking ct_answer_of_asking : Value}
    (z_all : PySem.W.nsIn K mainGlobals "all" = some none)
    (z_any : PySem.W.nsIn K mainGlobals "any" = some none)
    (z_dict : PySem.W.nsIn K mainGlobals "dict" = some none)
    (z_enumerate : PySem.W.nsIn K mainGlobals "enumerate" = some none)
    (z_len : PySem.W.nsIn K mainGlobals "len" = some none)
    (z_list : PySem.W.nsIn K mainGlobals "list" = some none)
    (z_max : PySem.W.nsIn K mainGlobals "max" = some none)
    (z_range : PySem.W.nsIn K mainGlobals "range" = some none)
    (z_set : PySem.W.nsIn K mainGlobals "set" = some none)
    (z_sorted : PySem.W.nsIn K mainGlobals "sorted" = some none)
    (z_zip : PySem.W.nsIn K mainGlobals "zip" = some none)
    (a0_START : PySem.W.nsIn K mainGlobals "START" = some (some (.int (0) t_START)))
    (a0_SAME : PySem.W.nsIn K mainGlobals "SAME" = some (some (.int (1) t_SAME)))
    (a0_DIFFER : PySem.W.nsIn K mainGlobals "DIFFER" = some (some (.int (2) t_DIFFER)))
    (a0_CELL : PySem.W.nsIn K mainGlobals "CELL" = some (some (.int (3) t_CELL)))
    (a0_CHAIN : PySem.W.nsIn K mainGlobals "CHAIN" = some (some (.int (4) t_CHAIN)))
    (a0_CLEAR : PySem.W.nsIn K mainGlobals "CLEAR" = some (some (.int (5) t_CLEAR)))
    (a0_LET : PySem.W.nsIn K mainGlobals "LET" = some (some (.int (6) t_LET)))
    (a0_LOAD : PySem.W.nsIn K mainGlobals "LOAD" = some (some (.int (7) t_LOAD)))
    (a0_STORE : PySem.W.nsIn K mainGlobals "STORE" = some (some (.int (8) t_STORE)))
    (a0_NEW : PySem.W.nsIn K mainGlobals "NEW" = some (some (.int (9) t_NEW)))
    (a0_FREE : PySem.W.nsIn K mainGlobals "FREE" = some (some (.int (10) t_FREE)))
    (a0_UNDO : PySem.W.nsIn K mainGlobals "UNDO" = some (some (.int (11) t_UNDO)))
    (a0_SWAP : PySem.W.nsIn K mainGlobals "SWAP" = some (some (.int (12) t_SWAP)))
    (a0_TRIPLE : PySem.W.nsIn K mainGlobals "TRIPLE" = some (some (.int (13) t_TRIPLE)))
    (a0_SAFE : PySem.W.nsIn K mainGlobals "SAFE" = some (some (.int (14) t_SAFE)))
    (a0_SAYS : PySem.W.nsIn K mainGlobals "SAYS" = some (some (.int (15) t_SAYS)))
    (a0_FRAME : PySem.W.nsIn K mainGlobals "FRAME" = some (some (.int (16) t_FRAME)))
    (a0_CAN : PySem.W.nsIn K mainGlobals "CAN" = some (some (.int (17) t_CAN)))
    (a0_SURELY : PySem.W.nsIn K mainGlobals "SURELY" = some (some (.int (18) t_SURELY)))
    (a0_FITS : PySem.W.nsIn K mainGlobals "FITS" = some (some (.int (19) t_FITS)))
    (a0_RUN : PySem.W.nsIn K mainGlobals "RUN" = some (some (.int (20) t_RUN)))
    (a0_NOT_ALLOWED : PySem.W.nsIn K mainGlobals "NOT_ALLOWED" = some (some (.int (-1) t_NOT_ALLOWED)))
    (a0_NO_SUCH_NAME : PySem.W.nsIn K mainGlobals "NO_SUCH_NAME" = some (some (.int (-2) t_NO_SUCH_NAME)))
    (a0_NO_WORLD_TOLD : PySem.W.nsIn K mainGlobals "NO_WORLD_TOLD" = some (some (.int (-3) t_NO_WORLD_TOLD)))
    (a0_FULL : PySem.W.nsIn K mainGlobals "FULL" = some (some (.int (-5) t_FULL)))
    (a0_NEVER_SO : PySem.W.nsIn K mainGlobals "NEVER_SO" = some (some (.int (-6) t_NEVER_SO)))
    (a0_NONE_THERE : PySem.W.nsIn K mainGlobals "NONE_THERE" = some (some (.int (-7) t_NONE_THERE)))
    (a0_FIRST_GREATEST : PySem.W.nsIn K mainGlobals "FIRST_GREATEST" = some (some (.int (3) t_FIRST_GREATEST)))
    (a0_MOST_GREATEST : PySem.W.nsIn K mainGlobals "MOST_GREATEST" = some (some (.int (4) t_MOST_GREATEST)))
    (a0_MOST_FACTS : PySem.W.nsIn K mainGlobals "MOST_FACTS" = some (some (.int (8) t_MOST_FACTS)))
    (a0_MOST_CHAINS : PySem.W.nsIn K mainGlobals "MOST_CHAINS" = some (some (.int (3) t_MOST_CHAINS)))
    (a0_MOST_STEPS : PySem.W.nsIn K mainGlobals "MOST_STEPS" = some (some (.int (4) t_MOST_STEPS)))
    (a0_MOST_OF_SAYS : PySem.W.nsIn K mainGlobals "MOST_OF_SAYS" = some (some (.int (2) t_MOST_OF_SAYS)))
    (a0_MOST_OF_CAN : PySem.W.nsIn K mainGlobals "MOST_OF_CAN" = some (some (.int (1) t_MOST_OF_CAN)))
    (a0_MOST_ABOVE_STEPS : PySem.W.nsIn K mainGlobals "MOST_ABOVE_STEPS" = some (some (.int (2) t_MOST_ABOVE_STEPS)))
    (a0_NUMBERS_BEHIND : PySem.W.nsIn K mainGlobals "NUMBERS_BEHIND" = some (some (.ref a_NUMBERS_BEHIND)))
    (l0_NUMBERS_BEHIND : K.lookup a_NUMBERS_BEHIND = some ⟨.type "tuple", none, .seq i_NUMBERS_BEHIND n_NUMBERS_BEHIND, o_NUMBERS_BEHIND⟩)
    (v0_NUMBERS_BEHIND : i_NUMBERS_BEHIND.toList.map absV = [V.int (1), V.int (3), V.int (3), V.int (3), V.int (3), V.int (1), V.int (2), V.int (2), V.int (2), V.int (1), V.int (1), V.int (0), V.int (0), V.int (0), V.int (0), V.int (0), V.int (0), V.int (1), V.int (3), V.int (2), V.int (1)].map some)
    (s0_NUMBERS_BEHIND : i_NUMBERS_BEHIND.size ≤ sizeLine)
    (a0_Line : PySem.W.nsIn K mainGlobals "Line" = some (some (.ref C_Line)))
    (pg_Line : PySem.W.plainGet K C_Line Str.empty = true)
    (hd_Line : PySem.W.hasDictIn K C_Line = true)
    (po_Line : PySem.W.plainOver K C_Line = true)
    (sa_Line : PySem.W.findIn K (.ref C_Line) "__setattr__" = some (some (.builtin "object.__setattr__")))
    (mk_Line : PySem.W.makesIn K C_Line = true)
    (kc_Line : PySem.W.keepIn K (.ref C_Line) = true)
    (no_Line_greatest : PySem.W.findIn K (.ref C_Line) "greatest" = some none)
    (no_Line_tellings : PySem.W.findIn K (.ref C_Line) "tellings" = some none)
    (no_Line_steps : PySem.W.findIn K (.ref C_Line) "steps" = some none)
    (a0_PlainWorlds : PySem.W.nsIn K mainGlobals "PlainWorlds" = some (some (.ref C_PlainWorlds)))
    (pg_PlainWorlds : PySem.W.plainGet K C_PlainWorlds Str.empty = true)
    (hd_PlainWorlds : PySem.W.hasDictIn K C_PlainWorlds = true)
    (po_PlainWorlds : PySem.W.plainOver K C_PlainWorlds = true)
    (sa_PlainWorlds : PySem.W.findIn K (.ref C_PlainWorlds) "__setattr__" = some (some (.builtin "object.__setattr__")))
    (mk_PlainWorlds : PySem.W.makesIn K C_PlainWorlds = true)
    (kc_PlainWorlds : PySem.W.keepIn K (.ref C_PlainWorlds) = true)
    (no_PlainWorlds_telling : PySem.W.findIn K (.ref C_PlainWorlds) "telling" = some none)
    (no_PlainWorlds_most : PySem.W.findIn K (.ref C_PlainWorlds) "most" = some none)
    (no_PlainWorlds_rows : PySem.W.findIn K (.ref C_PlainWorlds) "rows" = some none)
    (no_PlainWorlds_next_row : PySem.W.findIn K (.ref C_PlainWorlds) "next_row" = some none)
    (no_PlainWorlds_names : PySem.W.findIn K (.ref C_PlainWorlds) "names" = some none)
    (no_PlainWorlds_heap : PySem.W.findIn K (.ref C_PlainWorlds) "heap" = some none)
    (no_PlainWorlds_chains : PySem.W.findIn K (.ref C_PlainWorlds) "chains" = some none)
    (no_PlainWorlds_laid : PySem.W.findIn K (.ref C_PlainWorlds) "laid" = some none)
    (no_PlainWorlds_passages : PySem.W.findIn K (.ref C_PlainWorlds) "passages" = some none)
    (no_PlainWorlds_first_free : PySem.W.findIn K (.ref C_PlainWorlds) "first_free" = some none)
    (no_PlainWorlds_next_free : PySem.W.findIn K (.ref C_PlainWorlds) "next_free" = some none)
    (a_Line_init : PySem.W.findIn K (.ref C_Line) "__init__" = some (some (.ref f_Line_init)))
    (i_Line_init : PySem.W.isFn K (.ref f_Line_init) = true)
    (l_Line_init : K.lookup f_Line_init = some ⟨oc_Line_init, od_Line_init, .func (PySem.W.fnOf "__init__" "Line.__init__" (defArgs s_Line_init) (defBody s_Line_init) (defScope s_Line_init) .none kV_Line_init dc_Line_init pm_Line_init an_Line_init cd_Line_init ct_Line_init), sl_Line_init⟩)
    (c_Line_init : PySem.W.codeIn K cd_Line_init "Line.__init__" = true)
    (k_Line_init : PySem.W.keepIn K (.ref f_Line_init) = true)
    (a_start : PySem.W.nsIn K mainGlobals "start" = some (some (.ref f_start)))
    (l_start : K.lookup f_start = some ⟨oc_start, od_start, .func (PySem.W.fnOf "start" "start" (defArgs s_start) (defBody s_start) (defScope s_start) .none kV_start dc_start pm_start an_start cd_start ct_start), sl_start⟩)
    (c_start : PySem.W.codeIn K cd_start "start" = true)
    (k_start : PySem.W.keepIn K (.ref f_start) = true)
    (a_is_telling : PySem.W.nsIn K mainGlobals "is_telling" = some (some (.ref f_is_telling)))
    (l_is_telling : K.lookup f_is_telling = some ⟨oc_is_telling, od_is_telling, .func (PySem.W.fnOf "is_telling" "is_telling" (defArgs s_is_telling) (defBody s_is_telling) (defScope s_is_telling) .none kV_is_telling dc_is_telling pm_is_telling an_is_telling cd_is_telling ct_is_telling), sl_is_telling⟩)
    (c_is_telling : PySem.W.codeIn K cd_is_telling "is_telling" = true)
    (k_is_telling : PySem.W.keepIn K (.ref f_is_telling) = true)
    (a_are_names : PySem.W.nsIn K mainGlobals "are_names" = some (some (.ref f_are_names)))
    (l_are_names : K.lookup f_are_names = some ⟨oc_are_names, od_are_names, .func (PySem.W.fnOf "are_names" "are_names" (defArgs s_are_names) (defBody s_are_names) (defScope s_are_names) .none kV_are_names dc_are_names pm_are_names an_are_names cd_are_names ct_are_names), sl_are_names⟩)
    (c_are_names : PySem.W.codeIn K cd_are_names "are_names" = true)
    (k_are_names : PySem.W.keepIn K (.ref f_are_names) = true)
    (a_count_chains : PySem.W.nsIn K mainGlobals "count_chains" = some (some (.ref f_count_chains)))
    (l_count_chains : K.lookup f_count_chains = some ⟨oc_count_chains, od_count_chains, .func (PySem.W.fnOf "count_chains" "count_chains" (defArgs s_count_chains) (defBody s_count_chains) (defScope s_count_chains) .none kV_count_chains dc_count_chains pm_count_chains an_count_chains cd_count_chains ct_count_chains), sl_count_chains⟩)
    (c_count_chains : PySem.W.codeIn K cd_count_chains "count_chains" = true)
    (k_count_chains : PySem.W.keepIn K (.ref f_count_chains) = true)
    (a_is_full_for : PySem.W.nsIn K mainGlobals "is_full_for" = some (some (.ref f_is_full_for)))
    (l_is_full_for : K.lookup f_is_full_for = some ⟨oc_is_full_for, od_is_full_for, .func (PySem.W.fnOf "is_full_for" "is_full_for" (defArgs s_is_full_for) (defBody s_is_full_for) (defScope s_is_full_for) .none kV_is_full_for dc_is_full_for pm_is_full_for an_is_full_for cd_is_full_for ct_is_full_for), sl_is_full_for⟩)
    (c_is_full_for : PySem.W.codeIn K cd_is_full_for "is_full_for" = true)
    (k_is_full_for : PySem.W.keepIn K (.ref f_is_full_for) = true)
    (a_add_fact : PySem.W.nsIn K mainGlobals "add_fact" = some (some (.ref f_add_fact)))
    (l_add_fact : K.lookup f_add_fact = some ⟨oc_add_fact, od_add_fact, .func (PySem.W.fnOf "add_fact" "add_fact" (defArgs s_add_fact) (defBody s_add_fact) (defScope s_add_fact) .none kV_add_fact dc_add_fact pm_add_fact an_add_fact cd_add_fact ct_add_fact), sl_add_fact⟩)
    (c_add_fact : PySem.W.codeIn K cd_add_fact "add_fact" = true)
    (k_add_fact : PySem.W.keepIn K (.ref f_add_fact) = true)
    (a_clear_telling : PySem.W.nsIn K mainGlobals "clear_telling" = some (some (.ref f_clear_telling)))
    (l_clear_telling : K.lookup f_clear_telling = some ⟨oc_clear_telling, od_clear_telling, .func (PySem.W.fnOf "clear_telling" "clear_telling" (defArgs s_clear_telling) (defBody s_clear_telling) (defScope s_clear_telling) .none kV_clear_telling dc_clear_telling pm_clear_telling an_clear_telling cd_clear_telling ct_clear_telling), sl_clear_telling⟩)
    (c_clear_telling : PySem.W.codeIn K cd_clear_telling "clear_telling" = true)
    (k_clear_telling : PySem.W.keepIn K (.ref f_clear_telling) = true)
    (a_sets_its_name : PySem.W.nsIn K mainGlobals "sets_its_name" = some (some (.ref f_sets_its_name)))
    (l_sets_its_name : K.lookup f_sets_its_name = some ⟨oc_sets_its_name, od_sets_its_name, .func (PySem.W.fnOf "sets_its_name" "sets_its_name" (defArgs s_sets_its_name) (defBody s_sets_its_name) (defScope s_sets_its_name) .none kV_sets_its_name dc_sets_its_name pm_sets_its_name an_sets_its_name cd_sets_its_name ct_sets_its_name), sl_sets_its_name⟩)
    (c_sets_its_name : PySem.W.codeIn K cd_sets_its_name "sets_its_name" = true)
    (k_sets_its_name : PySem.W.keepIn K (.ref f_sets_its_name) = true)
    (a_add_step : PySem.W.nsIn K mainGlobals "add_step" = some (some (.ref f_add_step)))
    (l_add_step : K.lookup f_add_step = some ⟨oc_add_step, od_add_step, .func (PySem.W.fnOf "add_step" "add_step" (defArgs s_add_step) (defBody s_add_step) (defScope s_add_step) .none kV_add_step dc_add_step pm_add_step an_add_step cd_add_step ct_add_step), sl_add_step⟩)
    (c_add_step : PySem.W.codeIn K cd_add_step "add_step" = true)
    (k_add_step : PySem.W.keepIn K (.ref f_add_step) = true)
    (a_undo_step : PySem.W.nsIn K mainGlobals "undo_step" = some (some (.ref f_undo_step)))
    (l_undo_step : K.lookup f_undo_step = some ⟨oc_undo_step, od_undo_step, .func (PySem.W.fnOf "undo_step" "undo_step" (defArgs s_undo_step) (defBody s_undo_step) (defScope s_undo_step) .none kV_undo_step dc_undo_step pm_undo_step an_undo_step cd_undo_step ct_undo_step), sl_undo_step⟩)
    (c_undo_step : PySem.W.codeIn K cd_undo_step "undo_step" = true)
    (k_undo_step : PySem.W.keepIn K (.ref f_undo_step) = true)
    (a_swap_tellings : PySem.W.nsIn K mainGlobals "swap_tellings" = some (some (.ref f_swap_tellings)))
    (l_swap_tellings : K.lookup f_swap_tellings = some ⟨oc_swap_tellings, od_swap_tellings, .func (PySem.W.fnOf "swap_tellings" "swap_tellings" (defArgs s_swap_tellings) (defBody s_swap_tellings) (defScope s_swap_tellings) .none kV_swap_tellings dc_swap_tellings pm_swap_tellings an_swap_tellings cd_swap_tellings ct_swap_tellings), sl_swap_tellings⟩)
    (c_swap_tellings : PySem.W.codeIn K cd_swap_tellings "swap_tellings" = true)
    (k_swap_tellings : PySem.W.keepIn K (.ref f_swap_tellings) = true)
    (a_is_so : PySem.W.nsIn K mainGlobals "is_so" = some (some (.ref f_is_so)))
    (l_is_so : K.lookup f_is_so = some ⟨oc_is_so, od_is_so, .func (PySem.W.fnOf "is_so" "is_so" (defArgs s_is_so) (defBody s_is_so) (defScope s_is_so) .none kV_is_so dc_is_so pm_is_so an_is_so cd_is_so ct_is_so), sl_is_so⟩)
    (c_is_so : PySem.W.codeIn K cd_is_so "is_so" = true)
    (k_is_so : PySem.W.keepIn K (.ref f_is_so) = true)
    (a_places_taken : PySem.W.nsIn K mainGlobals "places_taken" = some (some (.ref f_places_taken)))
    (l_places_taken : K.lookup f_places_taken = some ⟨oc_places_taken, od_places_taken, .func (PySem.W.fnOf "places_taken" "places_taken" (defArgs s_places_taken) (defBody s_places_taken) (defScope s_places_taken) .none kV_places_taken dc_places_taken pm_places_taken an_places_taken cd_places_taken ct_places_taken), sl_places_taken⟩)
    (c_places_taken : PySem.W.codeIn K cd_places_taken "places_taken" = true)
    (k_places_taken : PySem.W.keepIn K (.ref f_places_taken) = true)
    (a_take_cell : PySem.W.nsIn K mainGlobals "take_cell" = some (some (.ref f_take_cell)))
    (l_take_cell : K.lookup f_take_cell = some ⟨oc_take_cell, od_take_cell, .func (PySem.W.fnOf "take_cell" "take_cell" (defArgs s_take_cell) (defBody s_take_cell) (defScope s_take_cell) .none kV_take_cell dc_take_cell pm_take_cell an_take_cell cd_take_cell ct_take_cell), sl_take_cell⟩)
    (c_take_cell : PySem.W.codeIn K cd_take_cell "take_cell" = true)
    (k_take_cell : PySem.W.keepIn K (.ref f_take_cell) = true)
    (a_take_chain : PySem.W.nsIn K mainGlobals "take_chain" = some (some (.ref f_take_chain)))
    (l_take_chain : K.lookup f_take_chain = some ⟨oc_take_chain, od_take_chain, .func (PySem.W.fnOf "take_chain" "take_chain" (defArgs s_take_chain) (defBody s_take_chain) (defScope s_take_chain) .none kV_take_chain dc_take_chain pm_take_chain an_take_chain cd_take_chain ct_take_chain), sl_take_chain⟩)
    (c_take_chain : PySem.W.codeIn K cd_take_chain "take_chain" = true)
    (k_take_chain : PySem.W.keepIn K (.ref f_take_chain) = true)
    (a_do_step : PySem.W.nsIn K mainGlobals "do_step" = some (some (.ref f_do_step)))
    (l_do_step : K.lookup f_do_step = some ⟨oc_do_step, od_do_step, .func (PySem.W.fnOf "do_step" "do_step" (defArgs s_do_step) (defBody s_do_step) (defScope s_do_step) .none kV_do_step dc_do_step pm_do_step an_do_step cd_do_step ct_do_step), sl_do_step⟩)
    (c_do_step : PySem.W.codeIn K cd_do_step "do_step" = true)
    (k_do_step : PySem.W.keepIn K (.ref f_do_step) = true)
    (a_do_new : PySem.W.nsIn K mainGlobals "do_new" = some (some (.ref f_do_new)))
    (l_do_new : K.lookup f_do_new = some ⟨oc_do_new, od_do_new, .func (PySem.W.fnOf "do_new" "do_new" (defArgs s_do_new) (defBody s_do_new) (defScope s_do_new) .none kV_do_new dc_do_new pm_do_new an_do_new cd_do_new ct_do_new), sl_do_new⟩)
    (c_do_new : PySem.W.codeIn K cd_do_new "do_new" = true)
    (k_do_new : PySem.W.keepIn K (.ref f_do_new) = true)
    (a_place_above_all : PySem.W.nsIn K mainGlobals "place_above_all" = some (some (.ref f_place_above_all)))
    (l_place_above_all : K.lookup f_place_above_all = some ⟨oc_place_above_all, od_place_above_all, .func (PySem.W.fnOf "place_above_all" "place_above_all" (defArgs s_place_above_all) (defBody s_place_above_all) (defScope s_place_above_all) .none kV_place_above_all dc_place_above_all pm_place_above_all an_place_above_all cd_place_above_all ct_place_above_all), sl_place_above_all⟩)
    (c_place_above_all : PySem.W.codeIn K cd_place_above_all "place_above_all" = true)
    (k_place_above_all : PySem.W.keepIn K (.ref f_place_above_all) = true)
    (a_new_places : PySem.W.nsIn K mainGlobals "new_places" = some (some (.ref f_new_places)))
    (l_new_places : K.lookup f_new_places = some ⟨oc_new_places, od_new_places, .func (PySem.W.fnOf "new_places" "new_places" (defArgs s_new_places) (defBody s_new_places) (defScope s_new_places) .none kV_new_places dc_new_places pm_new_places an_new_places cd_new_places ct_new_places), sl_new_places⟩)
    (c_new_places : PySem.W.codeIn K cd_new_places "new_places" = true)
    (k_new_places : PySem.W.keepIn K (.ref f_new_places) = true)
    (a_last_run : PySem.W.nsIn K mainGlobals "last_run" = some (some (.ref f_last_run)))
    (l_last_run : K.lookup f_last_run = some ⟨oc_last_run, od_last_run, .func (PySem.W.fnOf "last_run" "last_run" (defArgs s_last_run) (defBody s_last_run) (defScope s_last_run) .none kV_last_run dc_last_run pm_last_run an_last_run cd_last_run ct_last_run), sl_last_run⟩)
    (c_last_run : PySem.W.codeIn K cd_last_run "last_run" = true)
    (k_last_run : PySem.W.keepIn K (.ref f_last_run) = true)
    (a_first_bad_run : PySem.W.nsIn K mainGlobals "first_bad_run" = some (some (.ref f_first_bad_run)))
    (l_first_bad_run : K.lookup f_first_bad_run = some ⟨oc_first_bad_run, od_first_bad_run, .func (PySem.W.fnOf "first_bad_run" "first_bad_run" (defArgs s_first_bad_run) (defBody s_first_bad_run) (defScope s_first_bad_run) .none kV_first_bad_run dc_first_bad_run pm_first_bad_run an_first_bad_run cd_first_bad_run ct_first_bad_run), sl_first_bad_run⟩)
    (c_first_bad_run : PySem.W.codeIn K cd_first_bad_run "first_bad_run" = true)
    (k_first_bad_run : PySem.W.keepIn K (.ref f_first_bad_run) = true)
    (a_first_bad_from : PySem.W.nsIn K mainGlobals "first_bad_from" = some (some (.ref f_first_bad_from)))
    (l_first_bad_from : K.lookup f_first_bad_from = some ⟨oc_first_bad_from, od_first_bad_from, .func (PySem.W.fnOf "first_bad_from" "first_bad_from" (defArgs s_first_bad_from) (defBody s_first_bad_from) (defScope s_first_bad_from) .none kV_first_bad_from dc_first_bad_from pm_first_bad_from an_first_bad_from cd_first_bad_from ct_first_bad_from), sl_first_bad_from⟩)
    (c_first_bad_from : PySem.W.codeIn K cd_first_bad_from "first_bad_from" = true)
    (k_first_bad_from : PySem.W.keepIn K (.ref f_first_bad_from) = true)
    (a_first_bad_new : PySem.W.nsIn K mainGlobals "first_bad_new" = some (some (.ref f_first_bad_new)))
    (l_first_bad_new : K.lookup f_first_bad_new = some ⟨oc_first_bad_new, od_first_bad_new, .func (PySem.W.fnOf "first_bad_new" "first_bad_new" (defArgs s_first_bad_new) (defBody s_first_bad_new) (defScope s_first_bad_new) .none kV_first_bad_new dc_first_bad_new pm_first_bad_new an_first_bad_new cd_first_bad_new ct_first_bad_new), sl_first_bad_new⟩)
    (c_first_bad_new : PySem.W.codeIn K cd_first_bad_new "first_bad_new" = true)
    (k_first_bad_new : PySem.W.keepIn K (.ref f_first_bad_new) = true)
    (a_plain_names : PySem.W.nsIn K mainGlobals "plain_names" = some (some (.ref f_plain_names)))
    (l_plain_names : K.lookup f_plain_names = some ⟨oc_plain_names, od_plain_names, .func (PySem.W.fnOf "plain_names" "plain_names" (defArgs s_plain_names) (defBody s_plain_names) (defScope s_plain_names) .none kV_plain_names dc_plain_names pm_plain_names an_plain_names cd_plain_names ct_plain_names), sl_plain_names⟩)
    (c_plain_names : PySem.W.codeIn K cd_plain_names "plain_names" = true)
    (k_plain_names : PySem.W.keepIn K (.ref f_plain_names) = true)
    (a_cells_told : PySem.W.nsIn K mainGlobals "cells_told" = some (some (.ref f_cells_told)))
    (l_cells_told : K.lookup f_cells_told = some ⟨oc_cells_told, od_cells_told, .func (PySem.W.fnOf "cells_told" "cells_told" (defArgs s_cells_told) (defBody s_cells_told) (defScope s_cells_told) .none kV_cells_told dc_cells_told pm_cells_told an_cells_told cd_cells_told ct_cells_told), sl_cells_told⟩)
    (c_cells_told : PySem.W.codeIn K cd_cells_told "cells_told" = true)
    (k_cells_told : PySem.W.keepIn K (.ref f_cells_told) = true)
    (a_chains_told : PySem.W.nsIn K mainGlobals "chains_told" = some (some (.ref f_chains_told)))
    (l_chains_told : K.lookup f_chains_told = some ⟨oc_chains_told, od_chains_told, .func (PySem.W.fnOf "chains_told" "chains_told" (defArgs s_chains_told) (defBody s_chains_told) (defScope s_chains_told) .none kV_chains_told dc_chains_told pm_chains_told an_chains_told cd_chains_told ct_chains_told), sl_chains_told⟩)
    (c_chains_told : PySem.W.codeIn K cd_chains_told "chains_told" = true)
    (k_chains_told : PySem.W.keepIn K (.ref f_chains_told) = true)
    (a_can_be_so : PySem.W.nsIn K mainGlobals "can_be_so" = some (some (.ref f_can_be_so)))
    (l_can_be_so : K.lookup f_can_be_so = some ⟨oc_can_be_so, od_can_be_so, .func (PySem.W.fnOf "can_be_so" "can_be_so" (defArgs s_can_be_so) (defBody s_can_be_so) (defScope s_can_be_so) .none kV_can_be_so dc_can_be_so pm_can_be_so an_can_be_so cd_can_be_so ct_can_be_so), sl_can_be_so⟩)
    (c_can_be_so : PySem.W.codeIn K cd_can_be_so "can_be_so" = true)
    (k_can_be_so : PySem.W.keepIn K (.ref f_can_be_so) = true)
    (a_PlainWorlds_init : PySem.W.findIn K (.ref C_PlainWorlds) "__init__" = some (some (.ref f_PlainWorlds_init)))
    (i_PlainWorlds_init : PySem.W.isFn K (.ref f_PlainWorlds_init) = true)
    (l_PlainWorlds_init : K.lookup f_PlainWorlds_init = some ⟨oc_PlainWorlds_init, od_PlainWorlds_init, .func (PySem.W.fnOf "__init__" "PlainWorlds.__init__" (defArgs s_PlainWorlds_init) (defBody s_PlainWorlds_init) (defScope s_PlainWorlds_init) .none kV_PlainWorlds_init dc_PlainWorlds_init pm_PlainWorlds_init an_PlainWorlds_init cd_PlainWorlds_init ct_PlainWorlds_init), sl_PlainWorlds_init⟩)
    (c_PlainWorlds_init : PySem.W.codeIn K cd_PlainWorlds_init "PlainWorlds.__init__" = true)
    (k_PlainWorlds_init : PySem.W.keepIn K (.ref f_PlainWorlds_init) = true)
    (a_PlainWorlds_go_on : PySem.W.findIn K (.ref C_PlainWorlds) "go_on" = some (some (.ref f_PlainWorlds_go_on)))
    (i_PlainWorlds_go_on : PySem.W.isFn K (.ref f_PlainWorlds_go_on) = true)
    (l_PlainWorlds_go_on : K.lookup f_PlainWorlds_go_on = some ⟨oc_PlainWorlds_go_on, od_PlainWorlds_go_on, .func (PySem.W.fnOf "go_on" "PlainWorlds.go_on" (defArgs s_PlainWorlds_go_on) (defBody s_PlainWorlds_go_on) (defScope s_PlainWorlds_go_on) .none kV_PlainWorlds_go_on dc_PlainWorlds_go_on pm_PlainWorlds_go_on an_PlainWorlds_go_on cd_PlainWorlds_go_on ct_PlainWorlds_go_on), sl_PlainWorlds_go_on⟩)
    (c_PlainWorlds_go_on : PySem.W.codeIn K cd_PlainWorlds_go_on "PlainWorlds.go_on" = true)
    (k_PlainWorlds_go_on : PySem.W.keepIn K (.ref f_PlainWorlds_go_on) = true)
    (a_PlainWorlds_begin : PySem.W.findIn K (.ref C_PlainWorlds) "begin" = some (some (.ref f_PlainWorlds_begin)))
    (i_PlainWorlds_begin : PySem.W.isFn K (.ref f_PlainWorlds_begin) = true)
    (l_PlainWorlds_begin : K.lookup f_PlainWorlds_begin = some ⟨oc_PlainWorlds_begin, od_PlainWorlds_begin, .func (PySem.W.fnOf "begin" "PlainWorlds.begin" (defArgs s_PlainWorlds_begin) (defBody s_PlainWorlds_begin) (defScope s_PlainWorlds_begin) .none kV_PlainWorlds_begin dc_PlainWorlds_begin pm_PlainWorlds_begin an_PlainWorlds_begin cd_PlainWorlds_begin ct_PlainWorlds_begin), sl_PlainWorlds_begin⟩)
    (c_PlainWorlds_begin : PySem.W.codeIn K cd_PlainWorlds_begin "PlainWorlds.begin" = true)
    (k_PlainWorlds_begin : PySem.W.keepIn K (.ref f_PlainWorlds_begin) = true)
    (a_PlainWorlds_lay_chains : PySem.W.findIn K (.ref C_PlainWorlds) "lay_chains" = some (some (.ref f_PlainWorlds_lay_chains)))
    (i_PlainWorlds_lay_chains : PySem.W.isFn K (.ref f_PlainWorlds_lay_chains) = true)
    (l_PlainWorlds_lay_chains : K.lookup f_PlainWorlds_lay_chains = some ⟨oc_PlainWorlds_lay_chains, od_PlainWorlds_lay_chains, .func (PySem.W.fnOf "lay_chains" "PlainWorlds.lay_chains" (defArgs s_PlainWorlds_lay_chains) (defBody s_PlainWorlds_lay_chains) (defScope s_PlainWorlds_lay_chains) .none kV_PlainWorlds_lay_chains dc_PlainWorlds_lay_chains pm_PlainWorlds_lay_chains an_PlainWorlds_lay_chains cd_PlainWorlds_lay_chains ct_PlainWorlds_lay_chains), sl_PlainWorlds_lay_chains⟩)
    (c_PlainWorlds_lay_chains : PySem.W.codeIn K cd_PlainWorlds_lay_chains "PlainWorlds.lay_chains" = true)
    (k_PlainWorlds_lay_chains : PySem.W.keepIn K (.ref f_PlainWorlds_lay_chains) = true)
    (a_PlainWorlds_lay_cell : PySem.W.findIn K (.ref C_PlainWorlds) "lay_cell" = some (some (.ref f_PlainWorlds_lay_cell)))
    (i_PlainWorlds_lay_cell : PySem.W.isFn K (.ref f_PlainWorlds_lay_cell) = true)
    (l_PlainWorlds_lay_cell : K.lookup f_PlainWorlds_lay_cell = some ⟨oc_PlainWorlds_lay_cell, od_PlainWorlds_lay_cell, .func (PySem.W.fnOf "lay_cell" "PlainWorlds.lay_cell" (defArgs s_PlainWorlds_lay_cell) (defBody s_PlainWorlds_lay_cell) (defScope s_PlainWorlds_lay_cell) .none kV_PlainWorlds_lay_cell dc_PlainWorlds_lay_cell pm_PlainWorlds_lay_cell an_PlainWorlds_lay_cell cd_PlainWorlds_lay_cell ct_PlainWorlds_lay_cell), sl_PlainWorlds_lay_cell⟩)
    (c_PlainWorlds_lay_cell : PySem.W.codeIn K cd_PlainWorlds_lay_cell "PlainWorlds.lay_cell" = true)
    (k_PlainWorlds_lay_cell : PySem.W.keepIn K (.ref f_PlainWorlds_lay_cell) = true)
    (a_PlainWorlds_take_up_last_cell : PySem.W.findIn K (.ref C_PlainWorlds) "take_up_last_cell" = some (some (.ref f_PlainWorlds_take_up_last_cell)))
    (i_PlainWorlds_take_up_last_cell : PySem.W.isFn K (.ref f_PlainWorlds_take_up_last_cell) = true)
    (l_PlainWorlds_take_up_last_cell : K.lookup f_PlainWorlds_take_up_last_cell = some ⟨oc_PlainWorlds_take_up_last_cell, od_PlainWorlds_take_up_last_cell, .func (PySem.W.fnOf "take_up_last_cell" "PlainWorlds.take_up_last_cell" (defArgs s_PlainWorlds_take_up_last_cell) (defBody s_PlainWorlds_take_up_last_cell) (defScope s_PlainWorlds_take_up_last_cell) .none kV_PlainWorlds_take_up_last_cell dc_PlainWorlds_take_up_last_cell pm_PlainWorlds_take_up_last_cell an_PlainWorlds_take_up_last_cell cd_PlainWorlds_take_up_last_cell ct_PlainWorlds_take_up_last_cell), sl_PlainWorlds_take_up_last_cell⟩)
    (c_PlainWorlds_take_up_last_cell : PySem.W.codeIn K cd_PlainWorlds_take_up_last_cell "PlainWorlds.take_up_last_cell" = true)
    (k_PlainWorlds_take_up_last_cell : PySem.W.keepIn K (.ref f_PlainWorlds_take_up_last_cell) = true)
    (a_PlainWorlds_turn_last_cell : PySem.W.findIn K (.ref C_PlainWorlds) "turn_last_cell" = some (some (.ref f_PlainWorlds_turn_last_cell)))
    (i_PlainWorlds_turn_last_cell : PySem.W.isFn K (.ref f_PlainWorlds_turn_last_cell) = true)
    (l_PlainWorlds_turn_last_cell : K.lookup f_PlainWorlds_turn_last_cell = some ⟨oc_PlainWorlds_turn_last_cell, od_PlainWorlds_turn_last_cell, .func (PySem.W.fnOf "turn_last_cell" "PlainWorlds.turn_last_cell" (defArgs s_PlainWorlds_turn_last_cell) (defBody s_PlainWorlds_turn_last_cell) (defScope s_PlainWorlds_turn_last_cell) .none kV_PlainWorlds_turn_last_cell dc_PlainWorlds_turn_last_cell pm_PlainWorlds_turn_last_cell an_PlainWorlds_turn_last_cell cd_PlainWorlds_turn_last_cell ct_PlainWorlds_turn_last_cell), sl_PlainWorlds_turn_last_cell⟩)
    (c_PlainWorlds_turn_last_cell : PySem.W.codeIn K cd_PlainWorlds_turn_last_cell "PlainWorlds.turn_last_cell" = true)
    (k_PlainWorlds_turn_last_cell : PySem.W.keepIn K (.ref f_PlainWorlds_turn_last_cell) = true)
    (a_PlainWorlds_number_next : PySem.W.findIn K (.ref C_PlainWorlds) "number_next" = some (some (.ref f_PlainWorlds_number_next)))
    (i_PlainWorlds_number_next : PySem.W.isFn K (.ref f_PlainWorlds_number_next) = true)
    (l_PlainWorlds_number_next : K.lookup f_PlainWorlds_number_next = some ⟨oc_PlainWorlds_number_next, od_PlainWorlds_number_next, .func (PySem.W.fnOf "number_next" "PlainWorlds.number_next" (defArgs s_PlainWorlds_number_next) (defBody s_PlainWorlds_number_next) (defScope s_PlainWorlds_number_next) .none kV_PlainWorlds_number_next dc_PlainWorlds_number_next pm_PlainWorlds_number_next an_PlainWorlds_number_next cd_PlainWorlds_number_next ct_PlainWorlds_number_next), sl_PlainWorlds_number_next⟩)
    (c_PlainWorlds_number_next : PySem.W.codeIn K cd_PlainWorlds_number_next "PlainWorlds.number_next" = true)
    (k_PlainWorlds_number_next : PySem.W.keepIn K (.ref f_PlainWorlds_number_next) = true)
    (a_world_told : PySem.W.nsIn K mainGlobals "world_told" = some (some (.ref f_world_told)))
    (l_world_told : K.lookup f_world_told = some ⟨oc_world_told, od_world_told, .func (PySem.W.fnOf "world_told" "world_told" (defArgs s_world_told) (defBody s_world_told) (defScope s_world_told) .none kV_world_told dc_world_told pm_world_told an_world_told cd_world_told ct_world_told), sl_world_told⟩)
    (c_world_told : PySem.W.codeIn K cd_world_told "world_told" = true)
    (k_world_told : PySem.W.keepIn K (.ref f_world_told) = true)
    (a_bad_run_told : PySem.W.nsIn K mainGlobals "bad_run_told" = some (some (.ref f_bad_run_told)))
    (l_bad_run_told : K.lookup f_bad_run_told = some ⟨oc_bad_run_told, od_bad_run_told, .func (PySem.W.fnOf "bad_run_told" "bad_run_told" (defArgs s_bad_run_told) (defBody s_bad_run_told) (defScope s_bad_run_told) .none kV_bad_run_told dc_bad_run_told pm_bad_run_told an_bad_run_told cd_bad_run_told ct_bad_run_told), sl_bad_run_told⟩)
    (c_bad_run_told : PySem.W.codeIn K cd_bad_run_told "bad_run_told" = true)
    (k_bad_run_told : PySem.W.keepIn K (.ref f_bad_run_told) = true)
    (a_triple : PySem.W.nsIn K mainGlobals "triple" = some (some (.ref f_triple)))
    (l_triple : K.lookup f_triple = some ⟨oc_triple, od_triple, .func (PySem.W.fnOf "triple" "triple" (defArgs s_triple) (defBody s_triple) (defScope s_triple) .none kV_triple dc_triple pm_triple an_triple cd_triple ct_triple), sl_triple⟩)
    (c_triple : PySem.W.codeIn K cd_triple "triple" = true)
    (k_triple : PySem.W.keepIn K (.ref f_triple) = true)
    (a_safe : PySem.W.nsIn K mainGlobals "safe" = some (some (.ref f_safe)))
    (l_safe : K.lookup f_safe = some ⟨oc_safe, od_safe, .func (PySem.W.fnOf "safe" "safe" (defArgs s_safe) (defBody s_safe) (defScope s_safe) .none kV_safe dc_safe pm_safe an_safe cd_safe ct_safe), sl_safe⟩)
    (c_safe : PySem.W.codeIn K cd_safe "safe" = true)
    (k_safe : PySem.W.keepIn K (.ref f_safe) = true)
    (a_says : PySem.W.nsIn K mainGlobals "says" = some (some (.ref f_says)))
    (l_says : K.lookup f_says = some ⟨oc_says, od_says, .func (PySem.W.fnOf "says" "says" (defArgs s_says) (defBody s_says) (defScope s_says) .none kV_says dc_says pm_says an_says cd_says ct_says), sl_says⟩)
    (c_says : PySem.W.codeIn K cd_says "says" = true)
    (k_says : PySem.W.keepIn K (.ref f_says) = true)
    (a_frame : PySem.W.nsIn K mainGlobals "frame" = some (some (.ref f_frame)))
    (l_frame : K.lookup f_frame = some ⟨oc_frame, od_frame, .func (PySem.W.fnOf "frame" "frame" (defArgs s_frame) (defBody s_frame) (defScope s_frame) .none kV_frame dc_frame pm_frame an_frame cd_frame ct_frame), sl_frame⟩)
    (c_frame : PySem.W.codeIn K cd_frame "frame" = true)
    (k_frame : PySem.W.keepIn K (.ref f_frame) = true)
    (a_sort_piece : PySem.W.nsIn K mainGlobals "sort_piece" = some (some (.ref f_sort_piece)))
    (l_sort_piece : K.lookup f_sort_piece = some ⟨oc_sort_piece, od_sort_piece, .func (PySem.W.fnOf "sort_piece" "sort_piece" (defArgs s_sort_piece) (defBody s_sort_piece) (defScope s_sort_piece) .none kV_sort_piece dc_sort_piece pm_sort_piece an_sort_piece cd_sort_piece ct_sort_piece), sl_sort_piece⟩)
    (c_sort_piece : PySem.W.codeIn K cd_sort_piece "sort_piece" = true)
    (k_sort_piece : PySem.W.keepIn K (.ref f_sort_piece) = true)
    (a_can : PySem.W.nsIn K mainGlobals "can" = some (some (.ref f_can)))
    (l_can : K.lookup f_can = some ⟨oc_can, od_can, .func (PySem.W.fnOf "can" "can" (defArgs s_can) (defBody s_can) (defScope s_can) .none kV_can dc_can pm_can an_can cd_can ct_can), sl_can⟩)
    (c_can : PySem.W.codeIn K cd_can "can" = true)
    (k_can : PySem.W.keepIn K (.ref f_can) = true)
    (a_surely : PySem.W.nsIn K mainGlobals "surely" = some (some (.ref f_surely)))
    (l_surely : K.lookup f_surely = some ⟨oc_surely, od_surely, .func (PySem.W.fnOf "surely" "surely" (defArgs s_surely) (defBody s_surely) (defScope s_surely) .none kV_surely dc_surely pm_surely an_surely cd_surely ct_surely), sl_surely⟩)
    (c_surely : PySem.W.codeIn K cd_surely "surely" = true)
    (k_surely : PySem.W.keepIn K (.ref f_surely) = true)
    (a_is_world : PySem.W.nsIn K mainGlobals "is_world" = some (some (.ref f_is_world)))
    (l_is_world : K.lookup f_is_world = some ⟨oc_is_world, od_is_world, .func (PySem.W.fnOf "is_world" "is_world" (defArgs s_is_world) (defBody s_is_world) (defScope s_is_world) .none kV_is_world dc_is_world pm_is_world an_is_world cd_is_world ct_is_world), sl_is_world⟩)
    (c_is_world : PySem.W.codeIn K cd_is_world "is_world" = true)
    (k_is_world : PySem.W.keepIn K (.ref f_is_world) = true)
    (a_names_of : PySem.W.nsIn K mainGlobals "names_of" = some (some (.ref f_names_of)))
    (l_names_of : K.lookup f_names_of = some ⟨oc_names_of, od_names_of, .func (PySem.W.fnOf "names_of" "names_of" (defArgs s_names_of) (defBody s_names_of) (defScope s_names_of) .none kV_names_of dc_names_of pm_names_of an_names_of cd_names_of ct_names_of), sl_names_of⟩)
    (c_names_of : PySem.W.codeIn K cd_names_of "names_of" = true)
    (k_names_of : PySem.W.keepIn K (.ref f_names_of) = true)
    (a_heap_of : PySem.W.nsIn K mainGlobals "heap_of" = some (some (.ref f_heap_of)))
    (l_heap_of : K.lookup f_heap_of = some ⟨oc_heap_of, od_heap_of, .func (PySem.W.fnOf "heap_of" "heap_of" (defArgs s_heap_of) (defBody s_heap_of) (defScope s_heap_of) .none kV_heap_of dc_heap_of pm_heap_of an_heap_of cd_heap_of ct_heap_of), sl_heap_of⟩)
    (c_heap_of : PySem.W.codeIn K cd_heap_of "heap_of" = true)
    (k_heap_of : PySem.W.keepIn K (.ref f_heap_of) = true)
    (a_fits : PySem.W.nsIn K mainGlobals "fits" = some (some (.ref f_fits)))
    (l_fits : K.lookup f_fits = some ⟨oc_fits, od_fits, .func (PySem.W.fnOf "fits" "fits" (defArgs s_fits) (defBody s_fits) (defScope s_fits) .none kV_fits dc_fits pm_fits an_fits cd_fits ct_fits), sl_fits⟩)
    (c_fits : PySem.W.codeIn K cd_fits "fits" = true)
    (k_fits : PySem.W.keepIn K (.ref f_fits) = true)
    (a_run : PySem.W.nsIn K mainGlobals "run" = some (some (.ref f_run)))
    (l_run : K.lookup f_run = some ⟨oc_run, od_run, .func (PySem.W.fnOf "run" "run" (defArgs s_run) (defBody s_run) (defScope s_run) .none kV_run dc_run pm_run an_run cd_run ct_run), sl_run⟩)
    (c_run : PySem.W.codeIn K cd_run "run" = true)
    (k_run : PySem.W.keepIn K (.ref f_run) = true)
    (a_answers : PySem.W.nsIn K mainGlobals "answers" = some (some (.ref f_answers)))
    (l_answers : K.lookup f_answers = some ⟨oc_answers, od_answers, .func (PySem.W.fnOf "answers" "answers" (defArgs s_answers) (defBody s_answers) (defScope s_answers) .none kV_answers dc_answers pm_answers an_answers cd_answers ct_answers), sl_answers⟩)
    (c_answers : PySem.W.codeIn K cd_answers "answers" = true)
    (k_answers : PySem.W.keepIn K (.ref f_answers) = true)
    (a_end_of_call : PySem.W.nsIn K mainGlobals "end_of_call" = some (some (.ref f_end_of_call)))
    (l_end_of_call : K.lookup f_end_of_call = some ⟨oc_end_of_call, od_end_of_call, .func (PySem.W.fnOf "end_of_call" "end_of_call" (defArgs s_end_of_call) (defBody s_end_of_call) (defScope s_end_of_call) .none kV_end_of_call dc_end_of_call pm_end_of_call an_end_of_call cd_end_of_call ct_end_of_call), sl_end_of_call⟩)
    (c_end_of_call : PySem.W.codeIn K cd_end_of_call "end_of_call" = true)
    (k_end_of_call : PySem.W.keepIn K (.ref f_end_of_call) = true)
    (a_answer : PySem.W.nsIn K mainGlobals "answer" = some (some (.ref f_answer)))
    (l_answer : K.lookup f_answer = some ⟨oc_answer, od_answer, .func (PySem.W.fnOf "answer" "answer" (defArgs s_answer) (defBody s_answer) (defScope s_answer) .none kV_answer dc_answer pm_answer an_answer cd_answer ct_answer), sl_answer⟩)
    (c_answer : PySem.W.codeIn K cd_answer "answer" = true)
    (k_answer : PySem.W.keepIn K (.ref f_answer) = true)
    (a_answer_of_writing : PySem.W.nsIn K mainGlobals "answer_of_writing" = some (some (.ref f_answer_of_writing)))
    (l_answer_of_writing : K.lookup f_answer_of_writing = some ⟨oc_answer_of_writing, od_answer_of_writing, .func (PySem.W.fnOf "answer_of_writing" "answer_of_writing" (defArgs s_answer_of_writing) (defBody s_answer_of_writing) (defScope s_answer_of_writing) .none kV_answer_of_writing dc_answer_of_writing pm_answer_of_writing an_answer_of_writing cd_answer_of_writing ct_answer_of_writing), sl_answer_of_writing⟩)
    (c_answer_of_writing : PySem.W.codeIn K cd_answer_of_writing "answer_of_writing" = true)
    (k_answer_of_writing : PySem.W.keepIn K (.ref f_answer_of_writing) = true)
    (a_answer_of_asking : PySem.W.nsIn K mainGlobals "answer_of_asking" = some (some (.ref f_answer_of_asking)))
    (l_answer_of_asking : K.lookup f_answer_of_asking = some ⟨oc_answer_of_asking, od_answer_of_asking, .func (PySem.W.fnOf "answer_of_asking" "answer_of_asking" (defArgs s_answer_of_asking) (defBody s_answer_of_asking) (defScope s_answer_of_asking) .none kV_answer_of_asking dc_answer_of_asking pm_answer_of_asking an_answer_of_asking cd_answer_of_asking ct_answer_of_asking), sl_answer_of_asking⟩)
    (c_answer_of_asking : PySem.W.codeIn K cd_answer_of_asking "answer_of_asking" = true)
    (k_answer_of_asking : PySem.W.keepIn K (.ref f_answer_of_asking) = true)
    : Top K mg where
  n_all := PySem.W.mg_none_of X G z_all
  n_any := PySem.W.mg_none_of X G z_any
  n_dict := PySem.W.mg_none_of X G z_dict
  n_enumerate := PySem.W.mg_none_of X G z_enumerate
  n_len := PySem.W.mg_none_of X G z_len
  n_list := PySem.W.mg_none_of X G z_list
  n_max := PySem.W.mg_none_of X G z_max
  n_range := PySem.W.mg_none_of X G z_range
  n_set := PySem.W.mg_none_of X G z_set
  n_sorted := PySem.W.mg_none_of X G z_sorted
  n_zip := PySem.W.mg_none_of X G z_zip
  t_START := t_START
  g_START := PySem.W.mg_of X G a0_START
  t_SAME := t_SAME
  g_SAME := PySem.W.mg_of X G a0_SAME
  t_DIFFER := t_DIFFER
  g_DIFFER := PySem.W.mg_of X G a0_DIFFER
  t_CELL := t_CELL
  g_CELL := PySem.W.mg_of X G a0_CELL
  t_CHAIN := t_CHAIN
  g_CHAIN := PySem.W.mg_of X G a0_CHAIN
  t_CLEAR := t_CLEAR
  g_CLEAR := PySem.W.mg_of X G a0_CLEAR
  t_LET := t_LET
  g_LET := PySem.W.mg_of X G a0_LET
  t_LOAD := t_LOAD
  g_LOAD := PySem.W.mg_of X G a0_LOAD
  t_STORE := t_STORE
  g_STORE := PySem.W.mg_of X G a0_STORE
  t_NEW := t_NEW
  g_NEW := PySem.W.mg_of X G a0_NEW
  t_FREE := t_FREE
  g_FREE := PySem.W.mg_of X G a0_FREE
  t_UNDO := t_UNDO
  g_UNDO := PySem.W.mg_of X G a0_UNDO
  t_SWAP := t_SWAP
  g_SWAP := PySem.W.mg_of X G a0_SWAP
  t_TRIPLE := t_TRIPLE
  g_TRIPLE := PySem.W.mg_of X G a0_TRIPLE
  t_SAFE := t_SAFE
  g_SAFE := PySem.W.mg_of X G a0_SAFE
  t_SAYS := t_SAYS
  g_SAYS := PySem.W.mg_of X G a0_SAYS
  t_FRAME := t_FRAME
  g_FRAME := PySem.W.mg_of X G a0_FRAME
  t_CAN := t_CAN
  g_CAN := PySem.W.mg_of X G a0_CAN
  t_SURELY := t_SURELY
  g_SURELY := PySem.W.mg_of X G a0_SURELY
  t_FITS := t_FITS
  g_FITS := PySem.W.mg_of X G a0_FITS
  t_RUN := t_RUN
  g_RUN := PySem.W.mg_of X G a0_RUN
  t_NOT_ALLOWED := t_NOT_ALLOWED
  g_NOT_ALLOWED := PySem.W.mg_of X G a0_NOT_ALLOWED
  t_NO_SUCH_NAME := t_NO_SUCH_NAME
  g_NO_SUCH_NAME := PySem.W.mg_of X G a0_NO_SUCH_NAME
  t_NO_WORLD_TOLD := t_NO_WORLD_TOLD
  g_NO_WORLD_TOLD := PySem.W.mg_of X G a0_NO_WORLD_TOLD
  t_FULL := t_FULL
  g_FULL := PySem.W.mg_of X G a0_FULL
  t_NEVER_SO := t_NEVER_SO
  g_NEVER_SO := PySem.W.mg_of X G a0_NEVER_SO
  t_NONE_THERE := t_NONE_THERE
  g_NONE_THERE := PySem.W.mg_of X G a0_NONE_THERE
  t_FIRST_GREATEST := t_FIRST_GREATEST
  g_FIRST_GREATEST := PySem.W.mg_of X G a0_FIRST_GREATEST
  t_MOST_GREATEST := t_MOST_GREATEST
  g_MOST_GREATEST := PySem.W.mg_of X G a0_MOST_GREATEST
  t_MOST_FACTS := t_MOST_FACTS
  g_MOST_FACTS := PySem.W.mg_of X G a0_MOST_FACTS
  t_MOST_CHAINS := t_MOST_CHAINS
  g_MOST_CHAINS := PySem.W.mg_of X G a0_MOST_CHAINS
  t_MOST_STEPS := t_MOST_STEPS
  g_MOST_STEPS := PySem.W.mg_of X G a0_MOST_STEPS
  t_MOST_OF_SAYS := t_MOST_OF_SAYS
  g_MOST_OF_SAYS := PySem.W.mg_of X G a0_MOST_OF_SAYS
  t_MOST_OF_CAN := t_MOST_OF_CAN
  g_MOST_OF_CAN := PySem.W.mg_of X G a0_MOST_OF_CAN
  t_MOST_ABOVE_STEPS := t_MOST_ABOVE_STEPS
  g_MOST_ABOVE_STEPS := PySem.W.mg_of X G a0_MOST_ABOVE_STEPS
  a_NUMBERS_BEHIND := a_NUMBERS_BEHIND
  g_NUMBERS_BEHIND := PySem.W.mg_of X G a0_NUMBERS_BEHIND
  q_NUMBERS_BEHIND := fun H => .inr ⟨_, i_NUMBERS_BEHIND, n_NUMBERS_BEHIND, l0_NUMBERS_BEHIND, rfl, rfl, s0_NUMBERS_BEHIND, vals_of v0_NUMBERS_BEHIND⟩
  C_Line := C_Line
  g_Line := PySem.W.mg_of X G a0_Line
  cl_Line := ⟨pg_Line, hd_Line, po_Line, sa_Line⟩
  no_Line_greatest := no_Line_greatest
  no_Line_tellings := no_Line_tellings
  no_Line_steps := no_Line_steps
  C_PlainWorlds := C_PlainWorlds
  g_PlainWorlds := PySem.W.mg_of X G a0_PlainWorlds
  cl_PlainWorlds := ⟨pg_PlainWorlds, hd_PlainWorlds, po_PlainWorlds, sa_PlainWorlds⟩
  no_PlainWorlds_telling := no_PlainWorlds_telling
  no_PlainWorlds_most := no_PlainWorlds_most
  no_PlainWorlds_rows := no_PlainWorlds_rows
  no_PlainWorlds_next_row := no_PlainWorlds_next_row
  no_PlainWorlds_names := no_PlainWorlds_names
  no_PlainWorlds_heap := no_PlainWorlds_heap
  no_PlainWorlds_chains := no_PlainWorlds_chains
  no_PlainWorlds_laid := no_PlainWorlds_laid
  no_PlainWorlds_passages := no_PlainWorlds_passages
  no_PlainWorlds_first_free := no_PlainWorlds_first_free
  no_PlainWorlds_next_free := no_PlainWorlds_next_free
  f_Line_init := f_Line_init
  fd_Line_init := _
  F_Line_init := fun_mk (st := s_Line_init) l_Line_init c_Line_init k_Line_init
  b_Line_init := (fun_mk (st := s_Line_init) l_Line_init c_Line_init k_Line_init).binds (ps := ["self"]) fun _ _ _ _ _ _ us hl => match us, hl with | [_], _ => rfl
  m_Line_init := ⟨a_Line_init, i_Line_init, k_Line_init⟩
  M_Line := ⟨mk_Line, a_Line_init, i_Line_init, kc_Line⟩
  g_start := PySem.W.mg_of X G a_start
  f_start := f_start
  fd_start := _
  F_start := fun_mk (st := s_start) l_start c_start k_start
  b_start := (fun_mk (st := s_start) l_start c_start k_start).binds (ps := ["line", "greatest"]) fun _ _ _ _ _ _ us hl => match us, hl with | [_, _], _ => rfl
  g_is_telling := PySem.W.mg_of X G a_is_telling
  f_is_telling := f_is_telling
  fd_is_telling := _
  F_is_telling := fun_mk (st := s_is_telling) l_is_telling c_is_telling k_is_telling
  b_is_telling := (fun_mk (st := s_is_telling) l_is_telling c_is_telling k_is_telling).binds (ps := ["p"]) fun _ _ _ _ _ _ us hl => match us, hl with | [_], _ => rfl
  g_are_names := PySem.W.mg_of X G a_are_names
  f_are_names := f_are_names
  fd_are_names := _
  F_are_names := fun_mk (st := s_are_names) l_are_names c_are_names k_are_names
  b_are_names := (fun_mk (st := s_are_names) l_are_names c_are_names k_are_names).binds (ps := ["line", "x", "y"]) fun _ _ _ _ _ _ us hl => match us, hl with | [_, _, _], _ => rfl
  g_count_chains := PySem.W.mg_of X G a_count_chains
  f_count_chains := f_count_chains
  fd_count_chains := _
  F_count_chains := fun_mk (st := s_count_chains) l_count_chains c_count_chains k_count_chains
  b_count_chains := (fun_mk (st := s_count_chains) l_count_chains c_count_chains k_count_chains).binds (ps := ["telling"]) fun _ _ _ _ _ _ us hl => match us, hl with | [_], _ => rfl
  g_is_full_for := PySem.W.mg_of X G a_is_full_for
  f_is_full_for := f_is_full_for
  fd_is_full_for := _
  F_is_full_for := fun_mk (st := s_is_full_for) l_is_full_for c_is_full_for k_is_full_for
  b_is_full_for := (fun_mk (st := s_is_full_for) l_is_full_for c_is_full_for k_is_full_for).binds (ps := ["telling", "kind"]) fun _ _ _ _ _ _ us hl => match us, hl with | [_, _], _ => rfl
  g_add_fact := PySem.W.mg_of X G a_add_fact
  f_add_fact := f_add_fact
  fd_add_fact := _
  F_add_fact := fun_mk (st := s_add_fact) l_add_fact c_add_fact k_add_fact
  b_add_fact := (fun_mk (st := s_add_fact) l_add_fact c_add_fact k_add_fact).binds (ps := ["line", "kind", "p", "x", "y"]) fun _ _ _ _ _ _ us hl => match us, hl with | [_, _, _, _, _], _ => rfl
  g_clear_telling := PySem.W.mg_of X G a_clear_telling
  f_clear_telling := f_clear_telling
  fd_clear_telling := _
  F_clear_telling := fun_mk (st := s_clear_telling) l_clear_telling c_clear_telling k_clear_telling
  b_clear_telling := (fun_mk (st := s_clear_telling) l_clear_telling c_clear_telling k_clear_telling).binds (ps := ["line", "p"]) fun _ _ _ _ _ _ us hl => match us, hl with | [_, _], _ => rfl
  g_sets_its_name := PySem.W.mg_of X G a_sets_its_name
  f_sets_its_name := f_sets_its_name
  fd_sets_its_name := _
  F_sets_its_name := fun_mk (st := s_sets_its_name) l_sets_its_name c_sets_its_name k_sets_its_name
  b_sets_its_name := (fun_mk (st := s_sets_its_name) l_sets_its_name c_sets_its_name k_sets_its_name).binds (ps := ["kind"]) fun _ _ _ _ _ _ us hl => match us, hl with | [_], _ => rfl
  g_add_step := PySem.W.mg_of X G a_add_step
  f_add_step := f_add_step
  fd_add_step := _
  F_add_step := fun_mk (st := s_add_step) l_add_step c_add_step k_add_step
  b_add_step := (fun_mk (st := s_add_step) l_add_step c_add_step k_add_step).binds (ps := ["line", "kind", "x", "y"]) fun _ _ _ _ _ _ us hl => match us, hl with | [_, _, _, _], _ => rfl
  g_undo_step := PySem.W.mg_of X G a_undo_step
  f_undo_step := f_undo_step
  fd_undo_step := _
  F_undo_step := fun_mk (st := s_undo_step) l_undo_step c_undo_step k_undo_step
  b_undo_step := (fun_mk (st := s_undo_step) l_undo_step c_undo_step k_undo_step).binds (ps := ["line"]) fun _ _ _ _ _ _ us hl => match us, hl with | [_], _ => rfl
  g_swap_tellings := PySem.W.mg_of X G a_swap_tellings
  f_swap_tellings := f_swap_tellings
  fd_swap_tellings := _
  F_swap_tellings := fun_mk (st := s_swap_tellings) l_swap_tellings c_swap_tellings k_swap_tellings
  b_swap_tellings := (fun_mk (st := s_swap_tellings) l_swap_tellings c_swap_tellings k_swap_tellings).binds (ps := ["line"]) fun _ _ _ _ _ _ us hl => match us, hl with | [_], _ => rfl
  g_is_so := PySem.W.mg_of X G a_is_so
  f_is_so := f_is_so
  fd_is_so := _
  F_is_so := fun_mk (st := s_is_so) l_is_so c_is_so k_is_so
  b_is_so := (fun_mk (st := s_is_so) l_is_so c_is_so k_is_so).binds (ps := ["telling", "names", "heap"]) fun _ _ _ _ _ _ us hl => match us, hl with | [_, _, _], _ => rfl
  g_places_taken := PySem.W.mg_of X G a_places_taken
  f_places_taken := f_places_taken
  fd_places_taken := _
  F_places_taken := fun_mk (st := s_places_taken) l_places_taken c_places_taken k_places_taken
  b_places_taken := (fun_mk (st := s_places_taken) l_places_taken c_places_taken k_places_taken).binds (ps := ["telling", "names", "heap"]) fun _ _ _ _ _ _ us hl => match us, hl with | [_, _, _], _ => rfl
  g_take_cell := PySem.W.mg_of X G a_take_cell
  f_take_cell := f_take_cell
  fd_take_cell := _
  F_take_cell := fun_mk (st := s_take_cell) l_take_cell c_take_cell k_take_cell
  b_take_cell := (fun_mk (st := s_take_cell) l_take_cell c_take_cell k_take_cell).binds (ps := ["taken", "place", "end", "heap"]) fun _ _ _ _ _ _ us hl => match us, hl with | [_, _, _, _], _ => rfl
  g_take_chain := PySem.W.mg_of X G a_take_chain
  f_take_chain := f_take_chain
  fd_take_chain := _
  F_take_chain := fun_mk (st := s_take_chain) l_take_chain c_take_chain k_take_chain
  b_take_chain := (fun_mk (st := s_take_chain) l_take_chain c_take_chain k_take_chain).binds (ps := ["taken", "first", "end", "heap"]) fun _ _ _ _ _ _ us hl => match us, hl with | [_, _, _, _], _ => rfl
  g_do_step := PySem.W.mg_of X G a_do_step
  f_do_step := f_do_step
  fd_do_step := _
  F_do_step := fun_mk (st := s_do_step) l_do_step c_do_step k_do_step
  b_do_step := (fun_mk (st := s_do_step) l_do_step c_do_step k_do_step).binds (ps := ["step", "names", "heap"]) fun _ _ _ _ _ _ us hl => match us, hl with | [_, _, _], _ => rfl
  g_do_new := PySem.W.mg_of X G a_do_new
  f_do_new := f_do_new
  fd_do_new := _
  F_do_new := fun_mk (st := s_do_new) l_do_new c_do_new k_do_new
  b_do_new := (fun_mk (st := s_do_new) l_do_new c_do_new k_do_new).binds (ps := ["step", "place", "names", "heap"]) fun _ _ _ _ _ _ us hl => match us, hl with | [_, _, _, _], _ => rfl
  g_place_above_all := PySem.W.mg_of X G a_place_above_all
  f_place_above_all := f_place_above_all
  fd_place_above_all := _
  F_place_above_all := fun_mk (st := s_place_above_all) l_place_above_all c_place_above_all k_place_above_all
  b_place_above_all := (fun_mk (st := s_place_above_all) l_place_above_all c_place_above_all k_place_above_all).binds (ps := ["names", "heap"]) fun _ _ _ _ _ _ us hl => match us, hl with | [_, _], _ => rfl
  g_new_places := PySem.W.mg_of X G a_new_places
  f_new_places := f_new_places
  fd_new_places := _
  F_new_places := fun_mk (st := s_new_places) l_new_places c_new_places k_new_places
  b_new_places := (fun_mk (st := s_new_places) l_new_places c_new_places k_new_places).binds (ps := ["names", "heap"]) fun _ _ _ _ _ _ us hl => match us, hl with | [_, _], _ => rfl
  g_last_run := PySem.W.mg_of X G a_last_run
  f_last_run := f_last_run
  fd_last_run := _
  F_last_run := fun_mk (st := s_last_run) l_last_run c_last_run k_last_run
  b_last_run := (fun_mk (st := s_last_run) l_last_run c_last_run k_last_run).binds (ps := ["steps", "names", "heap"]) fun _ _ _ _ _ _ us hl => match us, hl with | [_, _, _], _ => rfl
  g_first_bad_run := PySem.W.mg_of X G a_first_bad_run
  f_first_bad_run := f_first_bad_run
  fd_first_bad_run := _
  F_first_bad_run := fun_mk (st := s_first_bad_run) l_first_bad_run c_first_bad_run k_first_bad_run
  b_first_bad_run := (fun_mk (st := s_first_bad_run) l_first_bad_run c_first_bad_run k_first_bad_run).binds (ps := ["steps", "names", "heap", "behind"]) fun _ _ _ _ _ _ us hl => match us, hl with | [_, _, _, _], _ => rfl
  g_first_bad_from := PySem.W.mg_of X G a_first_bad_from
  f_first_bad_from := f_first_bad_from
  fd_first_bad_from := _
  F_first_bad_from := fun_mk (st := s_first_bad_from) l_first_bad_from c_first_bad_from k_first_bad_from
  b_first_bad_from := (fun_mk (st := s_first_bad_from) l_first_bad_from c_first_bad_from k_first_bad_from).binds (ps := ["first", "steps", "names", "heap", "places", "behind"]) fun _ _ _ _ _ _ us hl => match us, hl with | [_, _, _, _, _, _], _ => rfl
  g_first_bad_new := PySem.W.mg_of X G a_first_bad_new
  f_first_bad_new := f_first_bad_new
  fd_first_bad_new := _
  F_first_bad_new := fun_mk (st := s_first_bad_new) l_first_bad_new c_first_bad_new k_first_bad_new
  b_first_bad_new := (fun_mk (st := s_first_bad_new) l_first_bad_new c_first_bad_new k_first_bad_new).binds (ps := ["at", "steps", "names", "heap", "places", "behind"]) fun _ _ _ _ _ _ us hl => match us, hl with | [_, _, _, _, _, _], _ => rfl
  g_plain_names := PySem.W.mg_of X G a_plain_names
  f_plain_names := f_plain_names
  fd_plain_names := _
  F_plain_names := fun_mk (st := s_plain_names) l_plain_names c_plain_names k_plain_names
  b_plain_names := (fun_mk (st := s_plain_names) l_plain_names c_plain_names k_plain_names).binds (ps := ["greatest"]) fun _ _ _ _ _ _ us hl => match us, hl with | [_], _ => rfl
  g_cells_told := PySem.W.mg_of X G a_cells_told
  f_cells_told := f_cells_told
  fd_cells_told := _
  F_cells_told := fun_mk (st := s_cells_told) l_cells_told c_cells_told k_cells_told
  b_cells_told := (fun_mk (st := s_cells_told) l_cells_told c_cells_told k_cells_told).binds (ps := ["telling", "names"]) fun _ _ _ _ _ _ us hl => match us, hl with | [_, _], _ => rfl
  g_chains_told := PySem.W.mg_of X G a_chains_told
  f_chains_told := f_chains_told
  fd_chains_told := _
  F_chains_told := fun_mk (st := s_chains_told) l_chains_told c_chains_told k_chains_told
  b_chains_told := (fun_mk (st := s_chains_told) l_chains_told c_chains_told k_chains_told).binds (ps := ["telling", "names"]) fun _ _ _ _ _ _ us hl => match us, hl with | [_, _], _ => rfl
  g_can_be_so := PySem.W.mg_of X G a_can_be_so
  f_can_be_so := f_can_be_so
  fd_can_be_so := _
  F_can_be_so := fun_mk (st := s_can_be_so) l_can_be_so c_can_be_so k_can_be_so
  b_can_be_so := (fun_mk (st := s_can_be_so) l_can_be_so c_can_be_so k_can_be_so).binds (ps := ["telling", "names"]) fun _ _ _ _ _ _ us hl => match us, hl with | [_, _], _ => rfl
  f_PlainWorlds_init := f_PlainWorlds_init
  fd_PlainWorlds_init := _
  F_PlainWorlds_init := fun_mk (st := s_PlainWorlds_init) l_PlainWorlds_init c_PlainWorlds_init k_PlainWorlds_init
  b_PlainWorlds_init := (fun_mk (st := s_PlainWorlds_init) l_PlainWorlds_init c_PlainWorlds_init k_PlainWorlds_init).binds (ps := ["self", "telling", "greatest", "most"]) fun _ _ _ _ _ _ us hl => match us, hl with | [_, _, _, _], _ => rfl
  m_PlainWorlds_init := ⟨a_PlainWorlds_init, i_PlainWorlds_init, k_PlainWorlds_init⟩
  M_PlainWorlds := ⟨mk_PlainWorlds, a_PlainWorlds_init, i_PlainWorlds_init, kc_PlainWorlds⟩
  f_PlainWorlds_go_on := f_PlainWorlds_go_on
  fd_PlainWorlds_go_on := _
  F_PlainWorlds_go_on := fun_mk (st := s_PlainWorlds_go_on) l_PlainWorlds_go_on c_PlainWorlds_go_on k_PlainWorlds_go_on
  b_PlainWorlds_go_on := (fun_mk (st := s_PlainWorlds_go_on) l_PlainWorlds_go_on c_PlainWorlds_go_on k_PlainWorlds_go_on).binds (ps := ["self"]) fun _ _ _ _ _ _ us hl => match us, hl with | [_], _ => rfl
  m_PlainWorlds_go_on := ⟨a_PlainWorlds_go_on, i_PlainWorlds_go_on, k_PlainWorlds_go_on⟩
  f_PlainWorlds_begin := f_PlainWorlds_begin
  fd_PlainWorlds_begin := _
  F_PlainWorlds_begin := fun_mk (st := s_PlainWorlds_begin) l_PlainWorlds_begin c_PlainWorlds_begin k_PlainWorlds_begin
  b_PlainWorlds_begin := (fun_mk (st := s_PlainWorlds_begin) l_PlainWorlds_begin c_PlainWorlds_begin k_PlainWorlds_begin).binds (ps := ["self", "names"]) fun _ _ _ _ _ _ us hl => match us, hl with | [_, _], _ => rfl
  m_PlainWorlds_begin := ⟨a_PlainWorlds_begin, i_PlainWorlds_begin, k_PlainWorlds_begin⟩
  f_PlainWorlds_lay_chains := f_PlainWorlds_lay_chains
  fd_PlainWorlds_lay_chains := _
  F_PlainWorlds_lay_chains := fun_mk (st := s_PlainWorlds_lay_chains) l_PlainWorlds_lay_chains c_PlainWorlds_lay_chains k_PlainWorlds_lay_chains
  b_PlainWorlds_lay_chains := (fun_mk (st := s_PlainWorlds_lay_chains) l_PlainWorlds_lay_chains c_PlainWorlds_lay_chains k_PlainWorlds_lay_chains).binds (ps := ["self", "first"]) fun _ _ _ _ _ _ us hl => match us, hl with | [_, _], _ => rfl
  m_PlainWorlds_lay_chains := ⟨a_PlainWorlds_lay_chains, i_PlainWorlds_lay_chains, k_PlainWorlds_lay_chains⟩
  f_PlainWorlds_lay_cell := f_PlainWorlds_lay_cell
  fd_PlainWorlds_lay_cell := _
  F_PlainWorlds_lay_cell := fun_mk (st := s_PlainWorlds_lay_cell) l_PlainWorlds_lay_cell c_PlainWorlds_lay_cell k_PlainWorlds_lay_cell
  b_PlainWorlds_lay_cell := (fun_mk (st := s_PlainWorlds_lay_cell) l_PlainWorlds_lay_cell c_PlainWorlds_lay_cell k_PlainWorlds_lay_cell).binds (ps := ["self", "which", "place", "count"]) fun _ _ _ _ _ _ us hl => match us, hl with | [_, _, _, _], _ => rfl
  m_PlainWorlds_lay_cell := ⟨a_PlainWorlds_lay_cell, i_PlainWorlds_lay_cell, k_PlainWorlds_lay_cell⟩
  f_PlainWorlds_take_up_last_cell := f_PlainWorlds_take_up_last_cell
  fd_PlainWorlds_take_up_last_cell := _
  F_PlainWorlds_take_up_last_cell := fun_mk (st := s_PlainWorlds_take_up_last_cell) l_PlainWorlds_take_up_last_cell c_PlainWorlds_take_up_last_cell k_PlainWorlds_take_up_last_cell
  b_PlainWorlds_take_up_last_cell := (fun_mk (st := s_PlainWorlds_take_up_last_cell) l_PlainWorlds_take_up_last_cell c_PlainWorlds_take_up_last_cell k_PlainWorlds_take_up_last_cell).binds (ps := ["self"]) fun _ _ _ _ _ _ us hl => match us, hl with | [_], _ => rfl
  m_PlainWorlds_take_up_last_cell := ⟨a_PlainWorlds_take_up_last_cell, i_PlainWorlds_take_up_last_cell, k_PlainWorlds_take_up_last_cell⟩
  f_PlainWorlds_turn_last_cell := f_PlainWorlds_turn_last_cell
  fd_PlainWorlds_turn_last_cell := _
  F_PlainWorlds_turn_last_cell := fun_mk (st := s_PlainWorlds_turn_last_cell) l_PlainWorlds_turn_last_cell c_PlainWorlds_turn_last_cell k_PlainWorlds_turn_last_cell
  b_PlainWorlds_turn_last_cell := (fun_mk (st := s_PlainWorlds_turn_last_cell) l_PlainWorlds_turn_last_cell c_PlainWorlds_turn_last_cell k_PlainWorlds_turn_last_cell).binds (ps := ["self"]) fun _ _ _ _ _ _ us hl => match us, hl with | [_], _ => rfl
  m_PlainWorlds_turn_last_cell := ⟨a_PlainWorlds_turn_last_cell, i_PlainWorlds_turn_last_cell, k_PlainWorlds_turn_last_cell⟩
  f_PlainWorlds_number_next := f_PlainWorlds_number_next
  fd_PlainWorlds_number_next := _
  F_PlainWorlds_number_next := fun_mk (st := s_PlainWorlds_number_next) l_PlainWorlds_number_next c_PlainWorlds_number_next k_PlainWorlds_number_next
  b_PlainWorlds_number_next := (fun_mk (st := s_PlainWorlds_number_next) l_PlainWorlds_number_next c_PlainWorlds_number_next k_PlainWorlds_number_next).binds (ps := ["self", "held", "end", "count"]) fun _ _ _ _ _ _ us hl => match us, hl with | [_, _, _, _], _ => rfl
  m_PlainWorlds_number_next := ⟨a_PlainWorlds_number_next, i_PlainWorlds_number_next, k_PlainWorlds_number_next⟩
  g_world_told := PySem.W.mg_of X G a_world_told
  f_world_told := f_world_told
  fd_world_told := _
  F_world_told := fun_mk (st := s_world_told) l_world_told c_world_told k_world_told
  b_world_told := (fun_mk (st := s_world_told) l_world_told c_world_told k_world_told).binds (ps := ["names", "heap"]) fun _ _ _ _ _ _ us hl => match us, hl with | [_, _], _ => rfl
  g_bad_run_told := PySem.W.mg_of X G a_bad_run_told
  f_bad_run_told := f_bad_run_told
  fd_bad_run_told := _
  F_bad_run_told := fun_mk (st := s_bad_run_told) l_bad_run_told c_bad_run_told k_bad_run_told
  b_bad_run_told := (fun_mk (st := s_bad_run_told) l_bad_run_told c_bad_run_told k_bad_run_told).binds (ps := ["line", "behind"]) fun _ _ _ _ _ _ us hl => match us, hl with | [_, _], _ => rfl
  g_triple := PySem.W.mg_of X G a_triple
  f_triple := f_triple
  fd_triple := _
  F_triple := fun_mk (st := s_triple) l_triple c_triple k_triple
  b_triple := (fun_mk (st := s_triple) l_triple c_triple k_triple).binds (ps := ["line"]) fun _ _ _ _ _ _ us hl => match us, hl with | [_], _ => rfl
  g_safe := PySem.W.mg_of X G a_safe
  f_safe := f_safe
  fd_safe := _
  F_safe := fun_mk (st := s_safe) l_safe c_safe k_safe
  b_safe := (fun_mk (st := s_safe) l_safe c_safe k_safe).binds (ps := ["line"]) fun _ _ _ _ _ _ us hl => match us, hl with | [_], _ => rfl
  g_says := PySem.W.mg_of X G a_says
  f_says := f_says
  fd_says := _
  F_says := fun_mk (st := s_says) l_says c_says k_says
  b_says := (fun_mk (st := s_says) l_says c_says k_says).binds (ps := ["line"]) fun _ _ _ _ _ _ us hl => match us, hl with | [_], _ => rfl
  g_frame := PySem.W.mg_of X G a_frame
  f_frame := f_frame
  fd_frame := _
  F_frame := fun_mk (st := s_frame) l_frame c_frame k_frame
  b_frame := (fun_mk (st := s_frame) l_frame c_frame k_frame).binds (ps := ["line"]) fun _ _ _ _ _ _ us hl => match us, hl with | [_], _ => rfl
  g_sort_piece := PySem.W.mg_of X G a_sort_piece
  f_sort_piece := f_sort_piece
  fd_sort_piece := _
  F_sort_piece := fun_mk (st := s_sort_piece) l_sort_piece c_sort_piece k_sort_piece
  b_sort_piece := (fun_mk (st := s_sort_piece) l_sort_piece c_sort_piece k_sort_piece).binds (ps := ["at", "fact", "worlds", "taken", "left", "gone"]) fun _ _ _ _ _ _ us hl => match us, hl with | [_, _, _, _, _, _], _ => rfl
  g_can := PySem.W.mg_of X G a_can
  f_can := f_can
  fd_can := _
  F_can := fun_mk (st := s_can) l_can c_can k_can
  b_can := (fun_mk (st := s_can) l_can c_can k_can).binds (ps := ["line", "p"]) fun _ _ _ _ _ _ us hl => match us, hl with | [_, _], _ => rfl
  g_surely := PySem.W.mg_of X G a_surely
  f_surely := f_surely
  fd_surely := _
  F_surely := fun_mk (st := s_surely) l_surely c_surely k_surely
  b_surely := (fun_mk (st := s_surely) l_surely c_surely k_surely).binds (ps := ["line", "p", "x", "y"]) fun _ _ _ _ _ _ us hl => match us, hl with | [_, _, _, _], _ => rfl
  g_is_world := PySem.W.mg_of X G a_is_world
  f_is_world := f_is_world
  fd_is_world := _
  F_is_world := fun_mk (st := s_is_world) l_is_world c_is_world k_is_world
  b_is_world := (fun_mk (st := s_is_world) l_is_world c_is_world k_is_world).binds (ps := ["greatest", "numbers"]) fun _ _ _ _ _ _ us hl => match us, hl with | [_, _], _ => rfl
  g_names_of := PySem.W.mg_of X G a_names_of
  f_names_of := f_names_of
  fd_names_of := _
  F_names_of := fun_mk (st := s_names_of) l_names_of c_names_of k_names_of
  b_names_of := (fun_mk (st := s_names_of) l_names_of c_names_of k_names_of).binds (ps := ["greatest", "numbers"]) fun _ _ _ _ _ _ us hl => match us, hl with | [_, _], _ => rfl
  g_heap_of := PySem.W.mg_of X G a_heap_of
  f_heap_of := f_heap_of
  fd_heap_of := _
  F_heap_of := fun_mk (st := s_heap_of) l_heap_of c_heap_of k_heap_of
  b_heap_of := (fun_mk (st := s_heap_of) l_heap_of c_heap_of k_heap_of).binds (ps := ["greatest", "numbers"]) fun _ _ _ _ _ _ us hl => match us, hl with | [_, _], _ => rfl
  g_fits := PySem.W.mg_of X G a_fits
  f_fits := f_fits
  fd_fits := _
  F_fits := fun_mk (st := s_fits) l_fits c_fits k_fits
  b_fits := (fun_mk (st := s_fits) l_fits c_fits k_fits).binds (ps := ["line", "p", "numbers"]) fun _ _ _ _ _ _ us hl => match us, hl with | [_, _, _], _ => rfl
  g_run := PySem.W.mg_of X G a_run
  f_run := f_run
  fd_run := _
  F_run := fun_mk (st := s_run) l_run c_run k_run
  b_run := (fun_mk (st := s_run) l_run c_run k_run).binds (ps := ["line", "numbers"]) fun _ _ _ _ _ _ us hl => match us, hl with | [_, _], _ => rfl
  g_answers := PySem.W.mg_of X G a_answers
  f_answers := f_answers
  fd_answers := _
  F_answers := fun_mk (st := s_answers) l_answers c_answers k_answers
  b_answers := (fun_mk (st := s_answers) l_answers c_answers k_answers).binds (ps := ["calls"]) fun _ _ _ _ _ _ us hl => match us, hl with | [_], _ => rfl
  g_end_of_call := PySem.W.mg_of X G a_end_of_call
  f_end_of_call := f_end_of_call
  fd_end_of_call := _
  F_end_of_call := fun_mk (st := s_end_of_call) l_end_of_call c_end_of_call k_end_of_call
  b_end_of_call := (fun_mk (st := s_end_of_call) l_end_of_call c_end_of_call k_end_of_call).binds (ps := ["calls", "at"]) fun _ _ _ _ _ _ us hl => match us, hl with | [_, _], _ => rfl
  g_answer := PySem.W.mg_of X G a_answer
  f_answer := f_answer
  fd_answer := _
  F_answer := fun_mk (st := s_answer) l_answer c_answer k_answer
  b_answer := (fun_mk (st := s_answer) l_answer c_answer k_answer).binds (ps := ["line", "call", "numbers"]) fun _ _ _ _ _ _ us hl => match us, hl with | [_, _, _], _ => rfl
  g_answer_of_writing := PySem.W.mg_of X G a_answer_of_writing
  f_answer_of_writing := f_answer_of_writing
  fd_answer_of_writing := _
  F_answer_of_writing := fun_mk (st := s_answer_of_writing) l_answer_of_writing c_answer_of_writing k_answer_of_writing
  b_answer_of_writing := (fun_mk (st := s_answer_of_writing) l_answer_of_writing c_answer_of_writing k_answer_of_writing).binds (ps := ["line", "call", "numbers"]) fun _ _ _ _ _ _ us hl => match us, hl with | [_, _, _], _ => rfl
  g_answer_of_asking := PySem.W.mg_of X G a_answer_of_asking
  f_answer_of_asking := f_answer_of_asking
  fd_answer_of_asking := _
  F_answer_of_asking := fun_mk (st := s_answer_of_asking) l_answer_of_asking c_answer_of_asking k_answer_of_asking
  b_answer_of_asking := (fun_mk (st := s_answer_of_asking) l_answer_of_asking c_answer_of_asking k_answer_of_asking).binds (ps := ["line", "call", "numbers"]) fun _ _ _ _ _ _ us hl => match us, hl with | [_, _, _], _ => rfl
end Ph
namespace Ph
open PySem PySem.Spec PyProof.Rows L2
/-! ### small words -/
theorem dInt (a b : Int) : decide (V.int a = V.int b) = decide (a = b) := by
  by_cases h : a = b
  · subst h
    simp
  · rw [decide_eq_false h, decide_eq_false (fun e => h (V.int.inj e))]
theorem if_true_of {c : Bool} {A B : Prop} (hc : c = true) (h : A) : if c = true then A else B := by
  rw [if_pos hc]
  exact h
theorem if_false_of {c : Bool} {A B : Prop} (hc : c = false) (h : B) : if c = true then A else B := by
  rw [hc, if_neg Bool.false_ne_true]
  exact h
theorem lk_here {k : Str} {v : V} {r : List (Str × V)} : List.lookup k ((k, v) :: r) = some v := by
  have e : (k == k) = true := beq_self_eq_true k
  simp only [List.lookup, e]
theorem lk_past {k g : Str} {v : V} {r : List (Str × V)} (h : (k == g) = false) : List.lookup k ((g, v) :: r) = List.lookup k r := by
  simp only [List.lookup, h]
theorem put_here {f : Str} {v x : V} {r : List (Str × V)} : putF f v ((f, x) :: r) = (f, v) :: r := if_pos rfl
theorem put_past {f g : Str} {v x : V} {r : List (Str × V)} (h : ¬ g = f) : putF f v ((g, x) :: r) = (g, x) :: putF f v r := if_neg h
theorem same_upd {H : Hp} {p : Addr} {o : HO} (h : H p = none) : Same H (upd H p o) := fun b x e => by
  rw [upd_ne (ne_of_none e h)]
  exact e
/-! ### pairs of rows -/
inductive All2 {α β : Type} (R : α → β → Prop) : List α → List β → Prop
  | nil : All2 R [] []
  | cons {a : α} {b : β} {l : List α} {m : List β} : R a b → All2 R l m → All2 R (a :: l) (b :: m)
theorem All2.imp {α β : Type} {R S : α → β → Prop} (h : ∀ a b, R a b → S a b) : ∀ {l : List α} {m : List β}, All2 R l m → All2 S l m
  | _, _, .nil => .nil
  | _, _, .cons a r => .cons (h _ _ a) (r.imp h)
theorem All2.length {α β : Type} {R : α → β → Prop} : ∀ {l : List α} {m : List β}, All2 R l m → l.length = m.length
  | _, _, .nil => rfl
  | _, _, .cons _ r => congrArg (· + 1) r.length
theorem All2.snoc {α β : Type} {R : α → β → Prop} {a : α} {b : β} : ∀ {l : List α} {m : List β}, All2 R l m → R a b → All2 R (l ++ [a]) (m ++ [b])
  | _, _, .nil, h => .cons h .nil
  | _, _, .cons x r, h => .cons x (r.snoc h)
theorem All2.at {α β : Type} {R : α → β → Prop} : ∀ {l : List α} {m : List β} (_ : All2 R l m) {i : Nat} {a : α}, l[i]? = some a → ∃ b, m[i]? = some b ∧ R a b
  | _, _, .cons x _, 0, a, h => by
    have e := Option.some.inj h
    subst e
    exact ⟨_, rfl, x⟩
  | _, _, .cons _ r, i + 1, a, h => r.at h
/-! ### facts and steps as they lie -/
abbrev Tri := Int × Int × Int
def TriAt (H : Hp) (v : V) (t : Tri) : Prop := ∃ p, v = .ref p ∧ H p = some (.tup [.int t.1, .int t.2.1, .int t.2.2])
abbrev TrisAt (H : Hp) : List V → List Tri → Prop := All2 (TriAt H)
theorem TriAt.same {H H' : Hp} (e : Same H H') {v : V} {t : Tri} : TriAt H v t → TriAt H' v t := fun ⟨p, a, b⟩ => ⟨p, a, e _ _ b⟩
theorem TrisAt.same {H H' : Hp} (e : Same H H') {l : List V} {m : List Tri} (h : TrisAt H l m) : TrisAt H' l m := h.imp fun _ _ => TriAt.same e
def encF : Sm11.Fact → Tri
  | .same x y => (1, x, y)
  | .differ x y => (2, x, y)
  | .cell x y => (3, x, y)
  | .chain x y => (4, x, y)
def encS : Sm11.Step → Tri
  | .let_ x y => (6, x, y)
  | .load x y => (7, x, y)
  | .store x y => (8, x, y)
  | .new x => (9, x, 0)
  | .free x => (10, x, 0)
/-- the line's object: F is what is its own to change -/
structure LineAt (C : Addr) (H : Hp) (a : Addr) (s : Sm11.St) (dx T S t0 t1 : Addr) (f0 f1 fs : List V) : Prop where
  ob : H a = some (.ins C dx [("greatest", .int s.n), ("tellings", .ref T), ("steps", .ref S)])
  hT : H T = some (.lst [.ref t0, .ref t1])
  h0 : H t0 = some (.lst f0)
  h1 : H t1 = some (.lst f1)
  hS : H S = some (.lst fs)
  nd : [T, S, t0, t1].Nodup
  w0 : TrisAt H f0 (s.before.map encF)
  w1 : TrisAt H f1 (s.behind.map encF)
  wS : TrisAt H fs (s.prog.map encS)
theorem LineAt.same {C : Addr} {H H' : Hp} (e : Same H H') {a : Addr} {s : Sm11.St} {dx T S t0 t1 : Addr} {f0 f1 fs : List V} (h : LineAt C H a s dx T S t0 t1 f0 f1 fs) : LineAt C H' a s dx T S t0 t1 f0 f1 fs :=
  ⟨e _ _ h.ob, e _ _ h.hT, e _ _ h.h0, e _ _ h.h1, e _ _ h.hS, h.nd, h.w0.same e, h.w1.same e, h.wS.same e⟩
/-- a line lies at a, its own places are F -/
def LineIs (C : Addr) (H : Hp) (a : Addr) (s : Sm11.St) (F : List Addr) : Prop := ∃ dx T S t0 t1 f0 f1 fs, F = [a, T, S, t0, t1] ∧ LineAt C H a s dx T S t0 t1 f0 f1 fs
theorem LineIs.same {C : Addr} {H H' : Hp} (e : Same H H') {a : Addr} {s : Sm11.St} {F : List Addr} : LineIs C H a s F → LineIs C H' a s F := fun ⟨dx, T, S, t0, t1, f0, f1, fs, q, h⟩ => ⟨dx, T, S, t0, t1, f0, f1, fs, q, h.same e⟩
def Keeps (F : List Addr) (H H' : Hp) : Prop := ∀ b o, H b = some o → b ∉ F → H' b = some o
def Grown (F : List Addr) (H : Hp) (F' : List Addr) : Prop := ∀ b ∈ F', b ∈ F ∨ H b = none
theorem Keeps.of {F : List Addr} {H H' : Hp} (e : Same H H') : Keeps F H H' := fun b o h _ => e b o h
theorem Grown.refl {F : List Addr} {H : Hp} : Grown F H F := fun _ h => .inl h
theorem TrisAt.upd {H : Hp} {t : Addr} {xs : List V} {o : HO} (h : H t = some (.lst xs)) {l : List V} {m : List Tri} (q : TrisAt H l m) : TrisAt (L2.upd H t o) l m := q.imp fun v _ ⟨p, e, z⟩ => ⟨p, e, by
  rw [upd_ne (ne_of z h (by intro z; cases z))]
  exact z⟩
section
variable {C : Addr} {H : Hp} {a : Addr} {s : Sm11.St} {dx T S t0 t1 : Addr} {f0 f1 fs : List V}
theorem LineAt.aT (h : LineAt C H a s dx T S t0 t1 f0 f1 fs) : a ≠ T := ne_of h.ob h.hT (by intro z; cases z)
theorem LineAt.aS (h : LineAt C H a s dx T S t0 t1 f0 f1 fs) : a ≠ S := ne_of h.ob h.hS (by intro z; cases z)
theorem LineAt.a0 (h : LineAt C H a s dx T S t0 t1 f0 f1 fs) : a ≠ t0 := ne_of h.ob h.h0 (by intro z; cases z)
theorem LineAt.a1 (h : LineAt C H a s dx T S t0 t1 f0 f1 fs) : a ≠ t1 := ne_of h.ob h.h1 (by intro z; cases z)
theorem LineAt.nds (h : LineAt C H a s dx T S t0 t1 f0 f1 fs) : T ≠ S ∧ T ≠ t0 ∧ T ≠ t1 ∧ S ≠ t0 ∧ S ≠ t1 ∧ t0 ≠ t1 := by
  have := h.nd
  simp only [List.nodup_cons, List.mem_cons, List.not_mem_nil, or_false, not_or, not_false_eq_true, List.nodup_nil, and_true] at this
  obtain ⟨⟨a, b, c⟩, ⟨d, e⟩, f⟩ := this
  exact ⟨a, b, c, d, e, f⟩
theorem LineAt.set0 (h : LineAt C H a s dx T S t0 t1 f0 f1 fs) {g : List V} {l : List Sm11.Fact} (q : TrisAt H g (l.map encF)) : LineAt C (L2.upd H t0 (.lst g)) a ⟨s.n, l, s.behind, s.prog⟩ dx T S t0 t1 g f1 fs := by
  obtain ⟨n1, n2, n3, n4, n5, n6⟩ := h.nds
  refine ⟨?_, ?_, upd_same, ?_, ?_, h.nd, q.upd h.h0, h.w1.upd h.h0, h.wS.upd h.h0⟩
  · rw [upd_ne h.a0]
    exact h.ob
  · rw [upd_ne n2]
    exact h.hT
  · rw [upd_ne n6.symm]
    exact h.h1
  · rw [upd_ne n4]
    exact h.hS
theorem LineAt.set1 (h : LineAt C H a s dx T S t0 t1 f0 f1 fs) {g : List V} {l : List Sm11.Fact} (q : TrisAt H g (l.map encF)) : LineAt C (L2.upd H t1 (.lst g)) a ⟨s.n, s.before, l, s.prog⟩ dx T S t0 t1 f0 g fs := by
  obtain ⟨n1, n2, n3, n4, n5, n6⟩ := h.nds
  refine ⟨?_, ?_, ?_, upd_same, ?_, h.nd, h.w0.upd h.h1, q.upd h.h1, h.wS.upd h.h1⟩
  · rw [upd_ne h.a1]
    exact h.ob
  · rw [upd_ne n3]
    exact h.hT
  · rw [upd_ne n6]
    exact h.h0
  · rw [upd_ne n5]
    exact h.hS
theorem LineAt.setS (h : LineAt C H a s dx T S t0 t1 f0 f1 fs) {g : List V} {l : List Sm11.Step} (q : TrisAt H g (l.map encS)) : LineAt C (L2.upd H S (.lst g)) a ⟨s.n, s.before, s.behind, l⟩ dx T S t0 t1 f0 f1 g := by
  obtain ⟨n1, n2, n3, n4, n5, n6⟩ := h.nds
  refine ⟨?_, ?_, ?_, ?_, upd_same, h.nd, h.w0.upd h.hS, h.w1.upd h.hS, q.upd h.hS⟩
  · rw [upd_ne h.aS]
    exact h.ob
  · rw [upd_ne n1]
    exact h.hT
  · rw [upd_ne n4.symm]
    exact h.h0
  · rw [upd_ne n5.symm]
    exact h.h1
end
theorem keeps_upd {F : List Addr} {H H1 : Hp} {p : Addr} {o : HO} (e : Same H H1) (hp : p ∈ F) : Keeps F H (upd H1 p o) := fun b x z nb => by
  have q : b ≠ p := fun q => nb (by rw [q]; exact hp)
  rw [upd_ne q]
  exact e _ _ z
variable {P : Program} {w : World} {K : PySem.W.Frag} {mg : Str → Option Value} {base : Heap}
/-! ### the promises -/
def sp_is_telling : Sp := fun vs H Q _ => ∃ p : Int, vs = [.int p] ∧ Q (.bl (decide (p = 0 ∨ p = 1))) H
theorem ok_is_telling (T : Top K mg) : FnOk P w K mg base CX0 1 T.f_is_telling T.fd_is_telling ["p"] sp_is_telling := by
  refine T.F_is_telling.ok sc_is_telling (fun vs H Q E h => ?_) (fun cdv A outer s H vs Q E hr h => ?_)
  · obtain ⟨p, rfl, _⟩ := h
    rfl
  · obtain ⟨p, rfl, q⟩ := h
    refine ⟨_, (pss_one (ps_ret (pe_or (pe_cmpR op_eq (pv 0) pe_int (nomark _)) (pe_one (pe_cmpR op_eq (pv 0) pe_int (nomark _)))))), ?_⟩
    refine ⟨_, rfl, rfl, _, rfl, ?_⟩
    rw [dInt]
    by_cases h0 : p = 0
    · rw [decide_eq_true (Or.inl h0)] at q
      exact if_true_of (decide_eq_true h0) q
    · refine if_false_of (decide_eq_false h0) ⟨_, rfl, rfl, ?_⟩
      show Q _ _
      rw [dInt, show decide (p = 1) = decide (p = 0 ∨ p = 1) by simp [h0]]
      exact q
def sp_are_names (C : Addr) : Sp := fun vs H Q _ => ∃ (a dx : Addr) (fl : List (Str × V)) (n x y : Int), vs = [.ref a, .int x, .int y] ∧ H a = some (.ins C dx fl) ∧ List.lookup ("greatest" : Str) fl = some (.int n) ∧
  Q (.bl (decide (x ≤ n) && decide (y ≤ n))) H
theorem ok_are_names (T : Top K mg) : FnOk P w K mg base CX0 1 T.f_are_names T.fd_are_names ["line", "x", "y"] (sp_are_names T.C_Line) := by
  refine T.F_are_names.ok sc_are_names (fun vs H Q E h => ?_) (fun cdv A outer s H vs Q E hr h => ?_)
  · obtain ⟨_, _, _, _, _, _, rfl, _⟩ := h
    rfl
  · obtain ⟨a, dx, fl, n, x, y, rfl, ho, hl, q⟩ := h
    refine ⟨_, (pss_one (ps_ret (pe_and (pe_cmpR op_le (pv 1) (pe_fld (pv 0) rfl) (nomark _)) (pe_one (pe_cmpR op_le (pv 2) (pe_fld (pv 0) rfl) (nomark _)))))), ?_⟩
    refine ⟨_, rfl, _, rfl, a, _, dx, fl, _, rfl, ho, T.cl_Line, T.no_Line_greatest, hl, _, _, rfl, rfl, _, rfl, ?_⟩
    by_cases h0 : x ≤ n
    · refine if_true_of (decide_eq_true h0) ⟨_, rfl, _, rfl, a, _, dx, fl, _, rfl, ho, T.cl_Line, T.no_Line_greatest, hl, _, _, rfl, rfl, ?_⟩
      rw [decide_eq_true h0] at q
      exact q
    · refine if_false_of (decide_eq_false h0) ?_
      rw [decide_eq_false h0] at q
      exact q
def isCh (t : Tri) : Bool := decide (t.1 = 4)
def sp_count_chains : Sp := fun vs H Q _ => ∃ (t : Addr) (us : List V) (l : List Tri), vs = [.ref t] ∧ H t = some (.lst us) ∧ TrisAt H us l ∧ us.length ≤ 1000 ∧
  ∀ H', Same H H' → Q (.int (l.filter isCh).length) H'
theorem ok_count_chains (T : Top K mg) : FnOk P w K mg base CX0 1 T.f_count_chains T.fd_count_chains ["telling"] sp_count_chains := by
  refine T.F_count_chains.ok sc_count_chains (fun vs H Q E h => ?_) (fun cdv A outer s H vs Q E hr h => ?_)
  · obtain ⟨_, _, _, rfl, _⟩ := h
    rfl
  · obtain ⟨t, us, l, rfl, ht, hl, hn, q⟩ := h
    refine ⟨_, (pss_one (ps_ret (pe_callB call_len_seq (by rfl) T.n_len PySem.boot_len (pa_cons (pe_lc (own := [("fact", 1)]) (g := gName 1) rfl sc_count_chains.nd (pi_list (pv 0)) (blkOk_by (own := [("fact", 1)]) (N := ["telling", "fact"]) (sc := defScope s_count_chains) (by decide +kernel)) (fun _ _ _ _ _ => (pg_name (i := 1) sc_count_chains.nd rfl (Or.inl rfl))) (fun _ _ _ _ _ => (pts_one (pt_cmpR op_eq (pe_ix (r := rIxT K) ix_tup (pv 1) pe_int (fun _ _ => rfl)) (pe_glob (v := .int (4)) rfl T.g_CHAIN ⟨_, rfl⟩) (nomark _)))) (fun _ _ _ _ _ => (pv 1))) pa_nil)))), ?_⟩
    refine ⟨_, rfl, t, rfl, ⟨_, .inl (.inl ht)⟩, fun D hD => lc_list (K := K) (a := t) (xs := us) (fun i H' => Same H H' ∧ ∃ acc, H' D = some (.lst acc) ∧ acc.length = ((l.take i).filter isCh).length) ?_ ?_ ?_ ?_⟩
    · exact ⟨same_upd hD, [], upd_same, rfl⟩
    · exact fun i H' _ ⟨e, _⟩ => .inl (.inl (e _ _ ht))
    · rintro i y H' hi ⟨e, acc, hA, hc⟩
      obtain ⟨b, hb, p, rfl, hp⟩ := hl.at hi
      have hlen := hl.length
      have hacc : acc.length ≤ 1000 := by
        rw [hc]
        exact Nat.le_trans (List.length_filter_le _ _) (Nat.le_trans (List.length_take_le' _ _) (by omega))
      refine ⟨rfl, _, rfl, p, _, 0, _, rfl, rfl, SqT.of (e _ _ hp), atI_nat (j := 0) rfl, rfl, _, rfl, ?_⟩
      rw [dInt]
      rw [List.take_add_one, hb, List.filter_append]
      by_cases h4 : b.1 = 4
      · refine if_true_of (decide_eq_true h4) ⟨_, rfl, acc, hA, small1000 hacc, fun c o z => ?_, _, upd_same, ?_⟩
        · rw [upd_ne (ne_of_none z hD)]
          exact e _ _ z
        · rw [List.length_append, List.length_append, hc]
          simp [isCh, h4]
      · refine if_false_of (decide_eq_false h4) ⟨e, acc, hA, ?_⟩
        rw [List.length_append, hc]
        simp [isCh, h4]
    · rintro H' ⟨e, acc, hA, hc⟩
      refine ⟨D, acc, rfl, .inl (SqL.of hA), ?_⟩
      rw [hl.length, List.take_length] at hc
      rw [hc]
      exact q H' e
def sp_is_full_for : Sp := fun vs H Q _ => ∃ (t : Addr) (us : List V) (l : List Tri) (k : Int), vs = [.ref t, .int k] ∧ H t = some (.lst us) ∧ TrisAt H us l ∧ us.length ≤ 1000 ∧
  ∀ H', Same H H' → Q (.bl (decide (8 ≤ l.length) || (decide (k = 4) && decide (3 ≤ (l.filter isCh).length)))) H'
theorem ok_is_full_for (T : Top K mg) : FnOk P w K mg base CX0 2 T.f_is_full_for T.fd_is_full_for ["telling", "kind"] sp_is_full_for := by
  have G_count_chains : FnOk P w K mg base CX0 1 T.f_count_chains T.fd_count_chains ["telling"] sp_count_chains := ok_count_chains T
  refine T.F_is_full_for.ok sc_is_full_for (fun vs H Q E h => ?_) (fun cdv A outer s H vs Q E hr h => ?_)
  · obtain ⟨_, _, _, _, rfl, _⟩ := h
    rfl
  · obtain ⟨t, us, l, k, rfl, ht, hl, hn, q⟩ := h
    refine ⟨_, (pss_cons (ps_if (pt_cmpR op_ge (pe_callB call_len_seq (by rfl) T.n_len PySem.boot_len (pa_cons (pv 0) pa_nil)) (pe_glob (v := .int (8)) rfl T.g_MOST_FACTS ⟨_, rfl⟩) (nomark _))
          (pss_one (ps_ret pe_bl))
          pss_nil)
        (pss_one (ps_ret (pe_and (pe_cmpR op_eq (pv 1) (pe_glob (v := .int (4)) rfl T.g_CHAIN ⟨_, rfl⟩) (nomark _)) (pe_one (pe_cmpR op_ge (pe_call G_count_chains (hr.mono (by decide)) (by rfl) T.g_count_chains T.F_count_chains.kp T.b_count_chains .nil pass0 (pa_cons (pv 0) pa_nil)) (pe_glob (v := .int (3)) rfl T.g_MOST_CHAINS ⟨_, rfl⟩) (nomark _))))))), ?_⟩
    refine ⟨_, rfl, t, us, rfl, .inl (SqL.of ht), _, _, rfl, rfl, _, rfl, ?_⟩
    have hlen := hl.length
    by_cases h8 : 8 ≤ l.length
    · refine if_true_of (decide_eq_true (by omega)) ?_
      have := q H (Same.refl H)
      rw [decide_eq_true h8] at this
      exact this
    · refine if_false_of (decide_eq_false (by omega)) ?_
      refine ⟨_, rfl, rfl, _, rfl, ?_⟩
      rw [dInt]
      by_cases h4 : k = 4
      · refine if_true_of (decide_eq_true h4) ⟨_, rfl, t, us, l, rfl, ht, hl, hn, fun H' e => ⟨_, _, rfl, rfl, ?_⟩⟩
        have := q H' e
        rw [decide_eq_false h8, decide_eq_true h4, Bool.false_or, Bool.true_and] at this
        have ee : decide ((3 : Int) ≤ ((l.filter isCh).length : Int)) = decide (3 ≤ (l.filter isCh).length) := by
          rw [Bool.eq_iff_iff, decide_eq_true_iff, decide_eq_true_iff]
          omega
        rw [← ee] at this
        exact this
      · refine if_false_of (decide_eq_false h4) ?_
        have := q H (Same.refl H)
        rw [decide_eq_false h8, decide_eq_false h4] at this
        exact this
theorem ch_filter (l : List Sm11.Fact) : ((l.map encF).filter isCh).length = (l.filter Sm11.isChain).length := by
  induction l with
  | nil => rfl
  | cons f r ih =>
    cases f <;> simp [encF, isCh, Sm11.isChain, List.filter_cons] at ih ⊢ <;> exact ih
/-- a line's call: whatever the specification says of it -/
def Post (C : Addr) (H : Hp) (a : Addr) (F : List Addr) (s' : Sm11.St) (r : List Int) (Q : VK) : Prop := ∀ (H' : Hp) (F' : List Addr) (z : Int), r = [z] → LineIs C H' a s' F' → Keeps F H H' → Grown F H F' → Q (.int z) H'
def kindF : Sm11.Fact → Int := fun f => (encF f).1
def xF : Sm11.Fact → Nat
  | .same x _ => x
  | .differ x _ => x
  | .cell x _ => x
  | .chain x _ => x
def yF : Sm11.Fact → Nat
  | .same _ y => y
  | .differ _ y => y
  | .cell _ y => y
  | .chain _ y => y
theorem encF_eq (f : Sm11.Fact) : encF f = (kindF f, (xF f : Int), (yF f : Int)) := by cases f <;> rfl
theorem kind4 (f : Sm11.Fact) : decide (kindF f = 4) = Sm11.isChain f := by cases f <;> rfl
theorem names_F (f : Sm11.Fact) (n : Nat) : (Sm11.namesIn f).any (fun x => decide (n < x)) = !(decide ((xF f : Int) ≤ n) && decide ((yF f : Int) ≤ n)) := by
  rw [Bool.eq_iff_iff]
  cases f <;> simp [Sm11.namesIn, xF, yF] <;> omega
theorem fact1 {s : Sm11.St} {p : Nat} {f : Sm11.Fact} (h : 1 < p) : Sm11.step s (.fact p f) = (s, [-1]) := if_pos h
theorem fact2 {s : Sm11.St} {p : Nat} {f : Sm11.Fact} (h : ¬ 1 < p) (n : (Sm11.namesIn f).any (fun x => decide (s.n < x)) = true) : Sm11.step s (.fact p f) = (s, [-2]) := (if_neg h).trans (if_pos n)
theorem fact5 {s : Sm11.St} {p : Nat} {f : Sm11.Fact} (h : ¬ 1 < p) (n : ¬ (Sm11.namesIn f).any (fun x => decide (s.n < x)) = true) (c : 8 ≤ (Sm11.side s p).length ∨ (Sm11.isChain f = true ∧ 3 ≤ ((Sm11.side s p).filter Sm11.isChain).length)) :
    Sm11.step s (.fact p f) = (s, [-5]) := (if_neg h).trans ((if_neg n).trans (if_pos c))
theorem fact_p {s : Sm11.St} {p : Nat} {f : Sm11.Fact} (h : ¬ 1 < p) (n : ¬ (Sm11.namesIn f).any (fun x => decide (s.n < x)) = true) (c : ¬ (8 ≤ (Sm11.side s p).length ∨ (Sm11.isChain f = true ∧ 3 ≤ ((Sm11.side s p).filter Sm11.isChain).length))) :
    Sm11.step s (.fact p f) = if p = 0 then (⟨s.n, s.before ++ [f], s.behind, s.prog⟩, [((s.before.length + 1 : Nat) : Int)]) else (⟨s.n, s.before, s.behind ++ [f], s.prog⟩, [((s.behind.length + 1 : Nat) : Int)]) := (if_neg h).trans ((if_neg n).trans (if_neg c))
def sp_add_fact (C : Addr) : Sp := fun vs H Q _ => ∃ (a : Addr) (s : Sm11.St) (F : List Addr) (p : Nat) (f : Sm11.Fact), vs = [.ref a, .int (kindF f), .int p, .int (xF f), .int (yF f)] ∧ LineIs C H a s F ∧ s.before.length ≤ 8 ∧ s.behind.length ≤ 8 ∧
  Post C H a F (Sm11.step s (.fact p f)).1 (Sm11.step s (.fact p f)).2 Q
theorem ok_add_fact (T : Top K mg) : FnOk P w K mg base CX0 3 T.f_add_fact T.fd_add_fact ["line", "kind", "p", "x", "y"] (sp_add_fact T.C_Line) := by
  have G_is_telling : FnOk P w K mg base CX0 1 T.f_is_telling T.fd_is_telling ["p"] sp_is_telling := ok_is_telling T
  have G_are_names : FnOk P w K mg base CX0 1 T.f_are_names T.fd_are_names ["line", "x", "y"] (sp_are_names T.C_Line) := ok_are_names T
  have G_is_full_for : FnOk P w K mg base CX0 2 T.f_is_full_for T.fd_is_full_for ["telling", "kind"] sp_is_full_for := ok_is_full_for T
  refine T.F_add_fact.ok sc_add_fact (fun vs H Q E h => ?_) (fun cdv A outer s H vs Q E hr h => ?_)
  · obtain ⟨_, _, _, _, _, rfl, _⟩ := h
    rfl
  · obtain ⟨a, s, F, p, f, rfl, ⟨dx, U, S, t0, t1, f0, f1, fs, rfl, hL⟩, b0, b1, q⟩ := h
    refine ⟨_, (pss_cons (ps_if (pt_not (pt_val (pe_call G_is_telling (hr.mono (by decide)) (by rfl) T.g_is_telling T.F_is_telling.kp T.b_is_telling .nil pass0 (pa_cons (pv 2) pa_nil))))
          (pss_one (ps_ret (pe_glob (v := .int (-1)) rfl T.g_NOT_ALLOWED ⟨_, rfl⟩)))
          pss_nil)
        (pss_cons (ps_if (pt_not (pt_val (pe_call G_are_names (hr.mono (by decide)) (by rfl) T.g_are_names T.F_are_names.kp T.b_are_names .nil pass0 (pa_cons (pv 0) (pa_cons (pv 3) (pa_cons (pv 4) pa_nil))))))
          (pss_one (ps_ret (pe_glob (v := .int (-2)) rfl T.g_NO_SUCH_NAME ⟨_, rfl⟩)))
          pss_nil)
        (pss_cons (ps_set (i := 5) sc_add_fact.nd rfl (Or.inl rfl) (pe_ix (r := rIxL K) ix_list (pe_fld (pv 0) rfl) (pv 2) (fun _ _ => rfl)))
        (pss_cons (ps_if (pt_val (pe_call G_is_full_for (hr.mono (by decide)) (by rfl) T.g_is_full_for T.F_is_full_for.kp T.b_is_full_for .nil pass0 (pa_cons (pv 5) (pa_cons (pv 1) pa_nil))))
          (pss_one (ps_ret (pe_glob (v := .int (-5)) rfl T.g_FULL ⟨_, rfl⟩)))
          pss_nil)
        (pss_cons (ps_expr (pe_bm PySem.F.plainAttrs_list PySem.F.slot_list_append PySem.F.type_list_append mt_append (pv 5) (pa_cons (pe_tup (pa_cons (pv 1) (pa_cons (pv 3) (pa_cons (pv 4) pa_nil)))) pa_nil)))
        (pss_one (ps_ret (pe_callB call_len_seq (by rfl) T.n_len PySem.boot_len (pa_cons (pv 5) pa_nil))))))))), ?_⟩
    refine ⟨_, rfl, (p : Int), rfl, _, rfl, ?_⟩
    by_cases hp : 1 < p
    · refine if_true_of (by simp; omega) ?_
      rw [fact1 hp] at q
      exact q H _ _ rfl ⟨dx, U, S, t0, t1, f0, f1, fs, rfl, hL⟩ (Keeps.of (Same.refl H)) Grown.refl
    · refine if_false_of (by simp; omega) ?_
      refine ⟨_, rfl, _, rfl, _, rfl, a, dx, _, (s.n : Int), (xF f : Int), (yF f : Int), rfl, hL.ob, lk_here, _, rfl, ?_⟩
      by_cases hn : (Sm11.namesIn f).any (fun x => decide (s.n < x)) = true
      · rw [fact2 hp hn] at q
        rw [names_F] at hn
        refine if_true_of hn ?_
        exact q H _ _ rfl ⟨dx, U, S, t0, t1, f0, f1, fs, rfl, hL⟩ (Keeps.of (Same.refl H)) Grown.refl
      · refine if_false_of ((names_F f s.n).symm.trans (Bool.eq_false_iff.mpr hn)) ?_
        obtain ⟨m1, m2, m3, m4, m5, m6⟩ := hL.nds
        -- telling = line.tellings[p]
        refine ⟨_, rfl, a, _, dx, _, _, rfl, hL.ob, T.cl_Line, T.no_Line_tellings, (lk_past (by decide +kernel)).trans lk_here, _, rfl, U, _, (p : Int), (if p = 0 then .ref t0 else .ref t1), rfl, rfl, SqL.of hL.hT, ?_, ?_⟩
        · obtain rfl | rfl : p = 0 ∨ p = 1 := by omega
          · exact atI_nat (j := 0) rfl
          · exact atI_nat (j := 1) rfl
        · obtain rfl | rfl : p = 0 ∨ p = 1 := by omega
          · refine ⟨_, rfl, _, rfl, t0, f0, _, kindF f, rfl, hL.h0, hL.w0, ?_, fun H1 e => ⟨_, rfl, ?_⟩⟩
            · rw [hL.w0.length, List.length_map]
              omega
            · rw [List.length_map, ch_filter, kind4]
              by_cases hc : 8 ≤ s.before.length ∨ (Sm11.isChain f = true ∧ 3 ≤ (s.before.filter Sm11.isChain).length)
              · rw [fact5 hp hn hc] at q
                refine if_true_of ?_ (q H1 _ _ rfl ⟨dx, U, S, t0, t1, f0, f1, fs, rfl, hL.same e⟩ (Keeps.of e) Grown.refl)
                simpa using hc
              · rw [fact_p hp hn hc, if_pos rfl] at q
                refine if_false_of ?_ ?_
                · rw [Bool.eq_false_iff]
                  simpa using hc
                · have L1 := hL.same e
                  refine ⟨_, rfl, .inl ⟨rfl, _, SqL.of L1.h0⟩, _, rfl, _, rfl, _, rfl, (by show 3 ≤ sizeLine; decide), fun r nr => ?_⟩
                  have e2 : Same H1 (upd H1 r (.tup [.int (kindF f), .int (xF f), .int (yF f)])) := same_upd nr
                  have L2 := L1.same e2
                  have hlen : f0.length = s.before.length := L2.w0.length.trans (List.length_map _)
                  refine ⟨t0, f0, _, rfl, rfl, L2.h0, small1000 (by omega), ?_⟩
                  have L3 := L2.set0 (g := f0 ++ [.ref r]) (l := s.before ++ [f]) (by
                    rw [List.map_append]
                    exact L2.w0.snoc ⟨r, rfl, by rw [encF_eq]; exact upd_same⟩)
                  refine ⟨_, rfl, t0, _, rfl, .inl (SqL.of L3.h0), ?_⟩
                  rw [List.length_append, hlen]
                  exact q _ _ _ rfl ⟨dx, U, S, t0, t1, _, f1, fs, rfl, L3⟩ (keeps_upd (e.trans e2) (by simp)) Grown.refl
          · refine ⟨_, rfl, _, rfl, t1, f1, _, kindF f, rfl, hL.h1, hL.w1, ?_, fun H1 e => ⟨_, rfl, ?_⟩⟩
            · rw [hL.w1.length, List.length_map]
              omega
            · rw [List.length_map, ch_filter, kind4]
              by_cases hc : 8 ≤ s.behind.length ∨ (Sm11.isChain f = true ∧ 3 ≤ (s.behind.filter Sm11.isChain).length)
              · rw [fact5 hp hn hc] at q
                refine if_true_of ?_ (q H1 _ _ rfl ⟨dx, U, S, t0, t1, f0, f1, fs, rfl, hL.same e⟩ (Keeps.of e) Grown.refl)
                simpa using hc
              · rw [fact_p hp hn hc, if_neg (by decide)] at q
                refine if_false_of ?_ ?_
                · rw [Bool.eq_false_iff]
                  simpa using hc
                · have L1 := hL.same e
                  refine ⟨_, rfl, .inl ⟨rfl, _, SqL.of L1.h1⟩, _, rfl, _, rfl, _, rfl, (by show 3 ≤ sizeLine; decide), fun r nr => ?_⟩
                  have e2 : Same H1 (upd H1 r (.tup [.int (kindF f), .int (xF f), .int (yF f)])) := same_upd nr
                  have L2 := L1.same e2
                  have hlen : f1.length = s.behind.length := L2.w1.length.trans (List.length_map _)
                  refine ⟨t1, f1, _, rfl, rfl, L2.h1, small1000 (by omega), ?_⟩
                  have L3 := L2.set1 (g := f1 ++ [.ref r]) (l := s.behind ++ [f]) (by
                    rw [List.map_append]
                    exact L2.w1.snoc ⟨r, rfl, by rw [encF_eq]; exact upd_same⟩)
                  refine ⟨_, rfl, t1, _, rfl, .inl (SqL.of L3.h1), ?_⟩
                  rw [List.length_append, hlen]
                  exact q _ _ _ rfl ⟨dx, U, S, t0, t1, f0, _, fs, rfl, L3⟩ (keeps_upd (e.trans e2) (by simp)) Grown.refl
end Ph
namespace Ph
open PySem PySem.Spec PyProof.Rows L2
variable {P : Program} {w : World} {K : PySem.W.Frag} {mg : Str → Option Value} {base : Heap}
/-- a test that comes out as b, the heap then is one of P -/
def Tests (t : TT) (σ : L2.St) (H : Hp) (b : Bool) (P : Hp → Prop) : Prop := ∀ Q : Bool → Hp → Prop, (∀ H', P H' → Q b H') → t σ H Q
theorem if_tests {c : TT} {t u : TS} {D : Ends} {σ : L2.St} {H : Hp} (b : Bool) (P : Hp → Prop) (h : Tests c σ H b P) (k : ∀ H1, P H1 → if b = true then t D σ H1 else u D σ H1) : tIfS c t u D σ H := h _ k
theorem nxt {D : Ends} {σ : L2.St} {H : Hp} (h : D.nx σ H) : tNext D σ H := h
/-! ### clear -/
theorem LineAt.setT0 {C : Addr} {H : Hp} {a : Addr} {s : Sm11.St} {dx T S t0 t1 : Addr} {f0 f1 fs : List V} (h : LineAt C H a s dx T S t0 t1 f0 f1 fs) {n0 : Addr} (h0 : H n0 = some (.lst [])) (nn : n0 ≠ T ∧ n0 ≠ S ∧ n0 ≠ t1) :
    LineAt C (upd H T (.lst [.ref n0, .ref t1])) a ⟨s.n, [], s.behind, s.prog⟩ dx T S n0 t1 [] f1 fs := by
  obtain ⟨n1, n2, n3, n4, n5, n6⟩ := h.nds
  refine ⟨?_, upd_same, ?_, ?_, ?_, ?_, .nil, h.w1.upd h.hT, h.wS.upd h.hT⟩
  · rw [upd_ne h.aT]
    exact h.ob
  · rw [upd_ne nn.1]
    exact h0
  · rw [upd_ne n3.symm]
    exact h.h1
  · rw [upd_ne n1.symm]
    exact h.hS
  · simp only [List.nodup_cons, List.mem_cons, List.not_mem_nil, or_false, not_or, not_false_eq_true, List.nodup_nil, and_true]
    exact ⟨⟨n1, nn.1.symm, n3⟩, ⟨nn.2.1.symm, n5⟩, nn.2.2⟩
theorem LineAt.setT1 {C : Addr} {H : Hp} {a : Addr} {s : Sm11.St} {dx T S t0 t1 : Addr} {f0 f1 fs : List V} (h : LineAt C H a s dx T S t0 t1 f0 f1 fs) {n0 : Addr} (h0 : H n0 = some (.lst [])) (nn : n0 ≠ T ∧ n0 ≠ S ∧ n0 ≠ t0) :
    LineAt C (upd H T (.lst [.ref t0, .ref n0])) a ⟨s.n, s.before, [], s.prog⟩ dx T S t0 n0 f0 [] fs := by
  obtain ⟨n1, n2, n3, n4, n5, n6⟩ := h.nds
  refine ⟨?_, upd_same, ?_, ?_, ?_, ?_, h.w0.upd h.hT, .nil, h.wS.upd h.hT⟩
  · rw [upd_ne h.aT]
    exact h.ob
  · rw [upd_ne n2.symm]
    exact h.h0
  · rw [upd_ne nn.1]
    exact h0
  · rw [upd_ne n1.symm]
    exact h.hS
  · simp only [List.nodup_cons, List.mem_cons, List.not_mem_nil, or_false, not_or, not_false_eq_true, List.nodup_nil, and_true]
    exact ⟨⟨n1, n2, nn.1.symm⟩, ⟨n4, nn.2.1.symm⟩, nn.2.2.symm⟩
def sp_clear_telling (C : Addr) : Sp := fun vs H Q _ => ∃ (a : Addr) (s : Sm11.St) (F : List Addr) (p : Nat), vs = [.ref a, .int p] ∧ LineIs C H a s F ∧
  Post C H a F (Sm11.step s (.clear p)).1 (Sm11.step s (.clear p)).2 Q
theorem clear1 {s : Sm11.St} {p : Nat} (h : 1 < p) : Sm11.step s (.clear p) = (s, [-1]) := if_pos h
theorem clear_p {s : Sm11.St} {p : Nat} (h : ¬ 1 < p) : Sm11.step s (.clear p) = if p = 0 then (⟨s.n, [], s.behind, s.prog⟩, [(s.before.length : Int)]) else (⟨s.n, s.before, [], s.prog⟩, [(s.behind.length : Int)]) := if_neg h
theorem ok_clear_telling (T : Top K mg) : FnOk P w K mg base CX0 2 T.f_clear_telling T.fd_clear_telling ["line", "p"] (sp_clear_telling T.C_Line) := by
  have G_is_telling : FnOk P w K mg base CX0 1 T.f_is_telling T.fd_is_telling ["p"] sp_is_telling := ok_is_telling T
  refine T.F_clear_telling.ok sc_clear_telling (fun vs H Q E h => ?_) (fun cdv A outer s H vs Q E hr h => ?_)
  · obtain ⟨_, _, _, _, rfl, _⟩ := h
    rfl
  · obtain ⟨a, s, F, p, rfl, ⟨dx, U, S, t0, t1, f0, f1, fs, rfl, hL⟩, q⟩ := h
    refine ⟨_, (pss_cons (ps_if (pt_not (pt_val (pe_call G_is_telling (hr.mono (by decide)) (by rfl) T.g_is_telling T.F_is_telling.kp T.b_is_telling .nil pass0 (pa_cons (pv 1) pa_nil))))
          (pss_one (ps_ret (pe_glob (v := .int (-1)) rfl T.g_NOT_ALLOWED ⟨_, rfl⟩)))
          pss_nil)
        (pss_cons (ps_set (i := 2) sc_clear_telling.nd rfl (Or.inl rfl) (pe_callB call_len_seq (by rfl) T.n_len PySem.boot_len (pa_cons (pe_ix (r := rIxL K) ix_list (pe_fld (pv 0) rfl) (pv 1) (fun _ _ => rfl)) pa_nil)))
        (pss_cons (ps_asg (pe_lst pa_nil) (pg_sub (pe_fld (pv 0) rfl) (pv 1) set_list))
        (pss_one (ps_ret (pv 2)))))), ?_⟩
    refine ⟨_, rfl, (p : Int), rfl, _, rfl, ?_⟩
    by_cases hp : 1 < p
    · refine if_true_of (by simp; omega) ?_
      rw [clear1 hp] at q
      exact q H _ _ rfl ⟨dx, U, S, t0, t1, f0, f1, fs, rfl, hL⟩ (Keeps.of (Same.refl H)) Grown.refl
    · refine if_false_of (by simp; omega) ?_
      have hlk : List.lookup ("tellings" : Str) ([("greatest", .int s.n), ("tellings", .ref U), ("steps", .ref S)] : List (Str × V)) = some (.ref U) := (lk_past (by decide +kernel)).trans lk_here
      refine ⟨_, rfl, a, _, dx, _, _, rfl, hL.ob, T.cl_Line, T.no_Line_tellings, hlk, _, rfl, U, _, (p : Int), (if p = 0 then .ref t0 else .ref t1), rfl, rfl, SqL.of hL.hT, ?_, (if p = 0 then t0 else t1), (if p = 0 then f0 else f1), ?_, ?_, ?_⟩
      · obtain rfl | rfl : p = 0 ∨ p = 1 := by omega
        · exact atI_nat (j := 0) rfl
        · exact atI_nat (j := 1) rfl
      · obtain rfl | rfl : p = 0 ∨ p = 1 := by omega
        · rfl
        · rfl
      · obtain rfl | rfl : p = 0 ∨ p = 1 := by omega
        · exact .inl (SqL.of hL.h0)
        · exact .inl (SqL.of hL.h1)
      · -- line.tellings[p] = []
        refine ⟨(Nat.zero_le _), fun r nr => ?_⟩
        have e1 : Same H (upd H r (.lst [])) := same_upd nr
        have L1 := hL.same e1
        have r1 : r ≠ U := fun z => by rw [z, hL.hT] at nr; cases nr
        have r2 : r ≠ S := fun z => by rw [z, hL.hS] at nr; cases nr
        have r3 : r ≠ t0 := fun z => by rw [z, hL.h0] at nr; cases nr
        have r4 : r ≠ t1 := fun z => by rw [z, hL.h1] at nr; cases nr
        refine ⟨_, rfl, a, _, dx, _, _, rfl, L1.ob, T.cl_Line, T.no_Line_tellings, hlk, _, rfl, U, _, (p : Int), p, rfl, rfl, L1.hT, ?_, ?_⟩
        · obtain rfl | rfl : p = 0 ∨ p = 1 := by omega
          · rfl
          · rfl
        · rw [clear_p hp] at q
          obtain rfl | rfl : p = 0 ∨ p = 1 := by omega
          · rw [if_pos rfl] at q
            refine ⟨_, rfl, ?_⟩
            have := q _ _ _ rfl ⟨dx, U, S, r, t1, [], f1, fs, rfl, L1.setT0 upd_same ⟨r1, r2, r4⟩⟩ (keeps_upd e1 (by simp)) (fun b hb => ?_)
            · rw [← (hL.w0.length.trans (List.length_map _))] at this
              exact this
            · simp only [List.mem_cons, List.not_mem_nil, or_false] at hb ⊢
              rcases hb with h | h | h | h | h
              · exact .inl (.inl h)
              · exact .inl (.inr (.inl h))
              · exact .inl (.inr (.inr (.inl h)))
              · exact .inr (h ▸ nr)
              · exact .inl (.inr (.inr (.inr (.inr h))))
          · rw [if_neg (by decide)] at q
            refine ⟨_, rfl, ?_⟩
            have := q _ _ _ rfl ⟨dx, U, S, t0, r, f0, [], fs, rfl, L1.setT1 upd_same ⟨r1, r2, r3⟩⟩ (keeps_upd e1 (by simp)) (fun b hb => ?_)
            · rw [← (hL.w1.length.trans (List.length_map _))] at this
              exact this
            · simp only [List.mem_cons, List.not_mem_nil, or_false] at hb ⊢
              rcases hb with h | h | h | h | h
              · exact .inl (.inl h)
              · exact .inl (.inr (.inl h))
              · exact .inl (.inr (.inr (.inl h)))
              · exact .inl (.inr (.inr (.inr (.inl h))))
              · exact .inr (h ▸ nr)
/-! ### steps -/
def sp_sets_its_name : Sp := fun vs H Q _ => ∃ k : Int, vs = [.int k] ∧ ∀ H', Same H H' → Q (.bl (decide (k = 6 ∨ k = 7 ∨ k = 9))) H'
theorem ok_sets_its_name (T : Top K mg) : FnOk P w K mg base CX0 1 T.f_sets_its_name T.fd_sets_its_name ["kind"] sp_sets_its_name := by
  refine T.F_sets_its_name.ok sc_sets_its_name (fun vs H Q E h => ?_) (fun cdv A outer s H vs Q E hr h => ?_)
  · obtain ⟨_, rfl, _⟩ := h
    rfl
  · obtain ⟨k, rfl, q⟩ := h
    refine ⟨_, (pss_one (ps_ret (pe_cmpR op_in_seq (pv 0) (pe_tup (pa_cons (pe_glob (v := .int (6)) rfl T.g_LET ⟨_, rfl⟩) (pa_cons (pe_glob (v := .int (7)) rfl T.g_LOAD ⟨_, rfl⟩) (pa_cons (pe_glob (v := .int (9)) rfl T.g_NEW ⟨_, rfl⟩) pa_nil)))) (by rfl)))), ?_⟩
    refine ⟨_, rfl, (by show 3 ≤ sizeLine; decide), fun r nr => ?_⟩
    refine ⟨r, _, rfl, .inr (SqT.of upd_same), ?_⟩
    refine ⟨rfl, rfl, ?_⟩
    have := q _ (same_upd (o := .tup [.int 6, .int 7, .int 9]) nr)
    have e : decide (k = 6 ∨ k = 7 ∨ k = 9) = inV (V.int k) [.int 6, .int 7, .int 9] := by
      rw [Bool.eq_iff_iff]
      simp [inV, eqV]
      omega
    rw [e] at this
    exact this
/-- let, load, store, new, free: the number of its call, its names (0 where there's no second) -/
theorem step_names (c : Sm11.Step) (n : Nat) : (Sm11.readsOf c ++ Sm11.setsOf c).any (fun x => decide (n < x)) = !(decide ((encS c).2.1 ≤ n) && decide ((encS c).2.2 ≤ n)) := by
  rw [Bool.eq_iff_iff]
  cases c <;> simp [Sm11.readsOf, Sm11.setsOf, encS] <;> omega
theorem step_zero (c : Sm11.Step) : (Sm11.setsOf c).contains 0 = (decide ((encS c).2.1 = 0) && decide ((encS c).1 = 6 ∨ (encS c).1 = 7 ∨ (encS c).1 = 9)) := by
  rw [Bool.eq_iff_iff]
  cases c <;> simp [Sm11.setsOf, encS] <;> omega
def sp_add_step (C : Addr) : Sp := fun vs H Q _ => ∃ (a : Addr) (s : Sm11.St) (F : List Addr) (c : Sm11.Step), vs = [.ref a, .int (encS c).1, .int (encS c).2.1, .int (encS c).2.2] ∧ LineIs C H a s F ∧ s.prog.length ≤ 4 ∧
  Post C H a F (Sm11.step s (.step c)).1 (Sm11.step s (.step c)).2 Q
theorem step2 {s : Sm11.St} {c : Sm11.Step} (h : (Sm11.readsOf c ++ Sm11.setsOf c).any (fun x => decide (s.n < x)) = true) : Sm11.step s (.step c) = (s, [-2]) := if_pos h
theorem step1 {s : Sm11.St} {c : Sm11.Step} (h : ¬ (Sm11.readsOf c ++ Sm11.setsOf c).any (fun x => decide (s.n < x)) = true) (z : (Sm11.setsOf c).contains 0 = true) : Sm11.step s (.step c) = (s, [-1]) := (if_neg h).trans (if_pos z)
theorem step5 {s : Sm11.St} {c : Sm11.Step} (h : ¬ (Sm11.readsOf c ++ Sm11.setsOf c).any (fun x => decide (s.n < x)) = true) (z : ¬ (Sm11.setsOf c).contains 0 = true) (l : 4 ≤ s.prog.length) : Sm11.step s (.step c) = (s, [-5]) := (if_neg h).trans ((if_neg z).trans (if_pos l))
theorem step_p {s : Sm11.St} {c : Sm11.Step} (h : ¬ (Sm11.readsOf c ++ Sm11.setsOf c).any (fun x => decide (s.n < x)) = true) (z : ¬ (Sm11.setsOf c).contains 0 = true) (l : ¬ 4 ≤ s.prog.length) : Sm11.step s (.step c) = (⟨s.n, s.before, s.behind, s.prog ++ [c]⟩, [((s.prog.length + 1 : Nat) : Int)]) := (if_neg h).trans ((if_neg z).trans (if_neg l))
theorem ok_add_step (T : Top K mg) : FnOk P w K mg base CX0 2 T.f_add_step T.fd_add_step ["line", "kind", "x", "y"] (sp_add_step T.C_Line) := by
  have G_are_names : FnOk P w K mg base CX0 1 T.f_are_names T.fd_are_names ["line", "x", "y"] (sp_are_names T.C_Line) := ok_are_names T
  have G_sets_its_name : FnOk P w K mg base CX0 1 T.f_sets_its_name T.fd_sets_its_name ["kind"] sp_sets_its_name := ok_sets_its_name T
  refine T.F_add_step.ok sc_add_step (fun vs H Q E h => ?_) (fun cdv A outer s H vs Q E hr h => ?_)
  · obtain ⟨_, _, _, _, rfl, _⟩ := h
    rfl
  · obtain ⟨a, s, F, c, rfl, ⟨dx, U, S, t0, t1, f0, f1, fs, rfl, hL⟩, b4, q⟩ := h
    refine ⟨_, (pss_cons (ps_if (pt_not (pt_val (pe_call G_are_names (hr.mono (by decide)) (by rfl) T.g_are_names T.F_are_names.kp T.b_are_names .nil pass0 (pa_cons (pv 0) (pa_cons (pv 2) (pa_cons (pv 3) pa_nil))))))
          (pss_one (ps_ret (pe_glob (v := .int (-2)) rfl T.g_NO_SUCH_NAME ⟨_, rfl⟩)))
          pss_nil)
        (pss_cons (ps_if (PW.pt (pw_and (pt_cmpR op_eq (pv 2) pe_int (nomark _)) (pw_and1 (pt_val (pe_call G_sets_its_name (hr.mono (by decide)) (by rfl) T.g_sets_its_name T.F_sets_its_name.kp T.b_sets_its_name .nil pass0 (pa_cons (pv 1) pa_nil))))))
          (pss_one (ps_ret (pe_glob (v := .int (-1)) rfl T.g_NOT_ALLOWED ⟨_, rfl⟩)))
          pss_nil)
        (pss_cons (ps_if (pt_cmpR op_ge (pe_callB call_len_seq (by rfl) T.n_len PySem.boot_len (pa_cons (pe_fld (pv 0) rfl) pa_nil)) (pe_glob (v := .int (4)) rfl T.g_MOST_STEPS ⟨_, rfl⟩) (nomark _))
          (pss_one (ps_ret (pe_glob (v := .int (-5)) rfl T.g_FULL ⟨_, rfl⟩)))
          pss_nil)
        (pss_cons (ps_expr (pe_bm PySem.F.plainAttrs_list PySem.F.slot_list_append PySem.F.type_list_append mt_append (pe_fld (pv 0) rfl) (pa_cons (pe_tup (pa_cons (pv 1) (pa_cons (pv 2) (pa_cons (pv 3) pa_nil)))) pa_nil)))
        (pss_one (ps_ret (pe_callB call_len_seq (by rfl) T.n_len PySem.boot_len (pa_cons (pe_fld (pv 0) rfl) pa_nil)))))))), ?_⟩
    refine ⟨_, rfl, _, rfl, _, rfl, a, dx, _, (s.n : Int), (encS c).2.1, (encS c).2.2, rfl, hL.ob, lk_here, _, rfl, ?_⟩
    by_cases hn : (Sm11.readsOf c ++ Sm11.setsOf c).any (fun x => decide (s.n < x)) = true
    · rw [step2 hn] at q
      rw [step_names] at hn
      exact if_true_of hn (q H _ _ rfl ⟨dx, U, S, t0, t1, f0, f1, fs, rfl, hL⟩ (Keeps.of (Same.refl H)) Grown.refl)
    · refine if_false_of ((step_names c s.n).symm.trans (Bool.eq_false_iff.mpr hn)) ?_
      dsimp only [tNext]
      refine if_tests ((Sm11.setsOf c).contains 0) (Same H) (fun Qb k => ?_) (fun H1 e => ?_)
      · refine ⟨_, rfl, rfl, _, rfl, ?_⟩
        rw [dInt]
        rw [step_zero] at k
        by_cases h0 : (encS c).2.1 = 0
        · refine if_true_of (decide_eq_true h0) ⟨_, rfl, _, rfl, fun H1 e => ⟨_, rfl, ?_⟩⟩
          have := k H1 e
          rw [decide_eq_true h0, Bool.true_and] at this
          exact this
        · refine if_false_of (decide_eq_false h0) ?_
          have := k H (Same.refl H)
          rw [decide_eq_false h0, Bool.false_and] at this
          exact this
      · have L1 := hL.same e
        by_cases hz : (Sm11.setsOf c).contains 0 = true
        · rw [step1 hn hz] at q
          exact if_true_of hz (q H1 _ _ rfl ⟨dx, U, S, t0, t1, f0, f1, fs, rfl, L1⟩ (Keeps.of e) Grown.refl)
        · refine if_false_of (Bool.eq_false_iff.mpr hz) ?_
          have hlk : List.lookup ("steps" : Str) ([("greatest", .int s.n), ("tellings", .ref U), ("steps", .ref S)] : List (Str × V)) = some (.ref S) := (lk_past (by decide +kernel)).trans ((lk_past (by decide +kernel)).trans lk_here)
          have hlen : fs.length = s.prog.length := L1.wS.length.trans (List.length_map _)
          refine ⟨_, rfl, a, _, dx, _, _, rfl, L1.ob, T.cl_Line, T.no_Line_steps, hlk, S, _, rfl, .inl (SqL.of L1.hS), _, _, rfl, rfl, _, rfl, ?_⟩
          by_cases h4 : 4 ≤ s.prog.length
          · rw [step5 hn hz h4] at q
            exact if_true_of (decide_eq_true (by omega)) (q H1 _ _ rfl ⟨dx, U, S, t0, t1, f0, f1, fs, rfl, L1⟩ (Keeps.of e) Grown.refl)
          · rw [step_p hn hz h4] at q
            refine if_false_of (decide_eq_false (by omega)) ?_
            refine ⟨_, rfl, a, _, dx, _, _, rfl, L1.ob, T.cl_Line, T.no_Line_steps, hlk, .inl ⟨rfl, _, SqL.of L1.hS⟩, _, rfl, _, rfl, _, rfl, (by show 3 ≤ sizeLine; decide), fun r nr => ?_⟩
            have e2 : Same H1 (upd H1 r (.tup [.int (encS c).1, .int (encS c).2.1, .int (encS c).2.2])) := same_upd nr
            have L2 := L1.same e2
            refine ⟨S, fs, _, rfl, rfl, L2.hS, small1000 (by omega), ?_⟩
            have L3 := L2.setS (g := fs ++ [.ref r]) (l := s.prog ++ [c]) (by
              rw [List.map_append]
              exact L2.wS.snoc ⟨r, rfl, upd_same⟩)
            refine ⟨_, rfl, a, _, dx, _, _, rfl, L3.ob, T.cl_Line, T.no_Line_steps, hlk, S, _, rfl, .inl (SqL.of L3.hS), ?_⟩
            rw [List.length_append, hlen]
            exact q _ _ _ rfl ⟨dx, U, S, t0, t1, f0, f1, _, rfl, L3⟩ (keeps_upd (e.trans e2) (by simp)) Grown.refl
/-! ### start -/
def lnF (n : Int) (U S : Addr) : List (Str × V) := [("greatest", .int n), ("tellings", .ref U), ("steps", .ref S)]
theorem lnF_t (n : Int) (U S U2 : Addr) : putF "tellings" (.ref U2) (lnF n U S) = lnF n U2 S := (put_past (by decide +kernel)).trans (congrArg _ put_here)
theorem lnF_s (n : Int) (U S S2 : Addr) : putF "steps" (.ref S2) (lnF n U S) = lnF n U S2 := (put_past (by decide +kernel)).trans (congrArg _ ((put_past (by decide +kernel)).trans (congrArg _ put_here)))
def sp_start (C : Addr) : Sp := fun vs H Q _ => ∃ (a : Addr) (s : Sm11.St) (F : List Addr) (n : Nat), vs = [.ref a, .int n] ∧ LineIs C H a s F ∧
  Post C H a F (Sm11.step s (.start n)).1 (Sm11.step s (.start n)).2 Q
theorem start1 {s : Sm11.St} {n : Nat} (h : n = 0 ∨ 4 < n) : Sm11.step s (.start n) = (s, [-1]) := if_pos h
theorem start_p {s : Sm11.St} {n : Nat} (h : ¬ (n = 0 ∨ 4 < n)) : Sm11.step s (.start n) = (⟨n, [], [], []⟩, [(n : Int)]) := if_neg h
theorem ok_start (T : Top K mg) : FnOk P w K mg base CX0 1 T.f_start T.fd_start ["line", "greatest"] (sp_start T.C_Line) := by
  refine T.F_start.ok sc_start (fun vs H Q E h => ?_) (fun cdv A outer s H vs Q E hr h => ?_)
  · obtain ⟨_, _, _, _, rfl, _⟩ := h
    rfl
  · obtain ⟨a, s, F, n, rfl, ⟨dx, U, S, t0, t1, f0, f1, fs, rfl, hL⟩, q⟩ := h
    refine ⟨_, (pss_cons (ps_if (PW.pt (pw_or (pt_cmpR op_lt (pv 1) pe_int (nomark _)) (pw_or1 (pt_cmpR op_gt (pv 1) (pe_glob (v := .int (4)) rfl T.g_MOST_GREATEST ⟨_, rfl⟩) (nomark _)))))
          (pss_one (ps_ret (pe_glob (v := .int (-1)) rfl T.g_NOT_ALLOWED ⟨_, rfl⟩)))
          pss_nil)
        (pss_cons (ps_fld (pv 0) (pv 1) rfl)
        (pss_cons (ps_fld (pv 0) (pe_lst (pa_cons (pe_lst pa_nil) (pa_cons (pe_lst pa_nil) pa_nil))) rfl)
        (pss_cons (ps_fld (pv 0) (pe_lst pa_nil) rfl)
        (pss_one (ps_ret (pv 1))))))), ?_⟩
    refine if_tests (decide (n = 0 ∨ 4 < n)) (· = H) (fun Qb k => ?_) (fun H1 e => ?_)
    · refine ⟨_, rfl, _, _, rfl, rfl, _, rfl, ?_⟩
      have := k H rfl
      by_cases h0 : n = 0
      · refine if_true_of (decide_eq_true (by omega)) ?_
        rw [decide_eq_true (.inl h0)] at this
        exact this
      · refine if_false_of (decide_eq_false (by omega)) ⟨_, rfl, _, _, rfl, rfl, _, rfl, ?_⟩
        rw [show decide (n = 0 ∨ 4 < n) = decide ((4 : Int) < (n : Int)) by
          rw [Bool.eq_iff_iff, decide_eq_true_iff, decide_eq_true_iff]
          omega] at this
        exact this
    · subst e
      by_cases h : n = 0 ∨ 4 < n
      · rw [start1 h] at q
        exact if_true_of (decide_eq_true h) (q _ _ _ rfl ⟨dx, U, S, t0, t1, f0, f1, fs, rfl, hL⟩ (Keeps.of (Same.refl _)) Grown.refl)
      · rw [start_p h] at q
        refine if_false_of (decide_eq_false h) ?_
        -- line.greatest = greatest
        refine ⟨_, rfl, _, rfl, a, _, dx, _, rfl, hL.ob, T.cl_Line, T.no_Line_greatest, (by show 3 < 1000; decide), ?_⟩
        rw [put_here]
        have hA : (upd H1 a (.ins T.C_Line dx [("greatest", .int n), ("tellings", .ref U), ("steps", .ref S)])) a = some (.ins T.C_Line dx [("greatest", .int n), ("tellings", .ref U), ("steps", .ref S)]) := upd_same
        have k2 : ∀ b, b ≠ a → (upd H1 a (.ins T.C_Line dx [("greatest", .int n), ("tellings", .ref U), ("steps", .ref S)])) b = H1 b := fun b z => upd_ne z
        generalize upd H1 a (.ins T.C_Line dx [("greatest", .int n), ("tellings", .ref U), ("steps", .ref S)]) = H2 at hA k2 ⊢
        -- [[], []]
        refine ⟨Nat.zero_le _, fun u0 n0 => ⟨Nat.zero_le _, fun u1 n1 => ⟨(by show 2 ≤ sizeLine; decide), fun U2 n2 => ?_⟩⟩⟩
        have e0 := same_upd (o := .lst []) n0
        have e1 := same_upd (o := .lst []) n1
        have e2 := same_upd (o := .lst [.ref u0, .ref u1]) n2
        have g0 : (upd H2 u0 (.lst [])) u0 = some (.lst []) := upd_same
        have g1 : (upd (upd H2 u0 (.lst [])) u1 (.lst [])) u1 = some (.lst []) := upd_same
        have g2 : (upd (upd (upd H2 u0 (.lst [])) u1 (.lst [])) U2 (.lst [.ref u0, .ref u1])) U2 = some (.lst [.ref u0, .ref u1]) := upd_same
        have d01 : u0 ≠ u1 := ne_of_none g0 n1
        have d02 : u0 ≠ U2 := ne_of_none (e1 _ _ g0) n2
        have d12 : u1 ≠ U2 := ne_of_none g1 n2
        have a0 : a ≠ u0 := ne_of_none hA n0
        have a1 : a ≠ u1 := ne_of_none (e0 _ _ hA) n1
        have a2 : a ≠ U2 := ne_of_none (e1 _ _ (e0 _ _ hA)) n2
        have f1 : H2 u1 = none := e0.free n1
        have f2 : H2 U2 = none := e0.free (e1.free n2)
        have eT := e0.trans (e1.trans e2)
        have x0 := e2 _ _ (e1 _ _ g0)
        have x1 := e2 _ _ g1
        generalize upd (upd (upd H2 u0 (.lst [])) u1 (.lst [])) U2 (.lst [.ref u0, .ref u1]) = H3 at eT x0 x1 g2 ⊢
        refine ⟨_, rfl, a, _, dx, _, rfl, eT _ _ hA, T.cl_Line, T.no_Line_tellings, (by show 3 < 1000; decide), ?_⟩
        have ep := lnF_t n U S U2
        unfold lnF at ep
        rw [ep]
        have hA4 : (upd H3 a (.ins T.C_Line dx [("greatest", .int n), ("tellings", .ref U2), ("steps", .ref S)])) a = some (.ins T.C_Line dx [("greatest", .int n), ("tellings", .ref U2), ("steps", .ref S)]) := upd_same
        have k4 : ∀ b, b ≠ a → (upd H3 a (.ins T.C_Line dx [("greatest", .int n), ("tellings", .ref U2), ("steps", .ref S)])) b = H3 b := fun b z => upd_ne z
        generalize upd H3 a (.ins T.C_Line dx [("greatest", .int n), ("tellings", .ref U2), ("steps", .ref S)]) = H4 at hA4 k4 ⊢
        refine ⟨Nat.zero_le _, fun S2 n3 => ?_⟩
        have e5 := same_upd (o := .lst []) n3
        have g5 : (upd H4 S2 (.lst [])) S2 = some (.lst []) := upd_same
        have aS : a ≠ S2 := ne_of_none hA4 n3
        have x0' : H4 u0 = some (.lst []) := (k4 _ a0.symm).trans x0
        have x1' : H4 u1 = some (.lst []) := (k4 _ a1.symm).trans x1
        have x2' : H4 U2 = some (.lst [.ref u0, .ref u1]) := (k4 _ a2.symm).trans g2
        have s0 : u0 ≠ S2 := ne_of_none x0' n3
        have s1 : u1 ≠ S2 := ne_of_none x1' n3
        have s2 : U2 ≠ S2 := ne_of_none x2' n3
        have f5 : H2 S2 = none := eT.free (by rw [← k4 _ aS.symm]; exact n3)
        generalize upd H4 S2 (.lst []) = H5 at e5 g5 ⊢
        refine ⟨_, rfl, a, _, dx, _, rfl, e5 _ _ hA4, T.cl_Line, T.no_Line_steps, (by show 3 < 1000; decide), _, rfl, ?_⟩
        have ep2 := lnF_s n U2 S S2
        unfold lnF at ep2
        rw [ep2]
        have k6 : ∀ b, b ≠ a → (upd H5 a (.ins T.C_Line dx [("greatest", .int n), ("tellings", .ref U2), ("steps", .ref S2)])) b = H5 b := fun b z => upd_ne z
        refine q _ [a, U2, S2, u0, u1] _ rfl ⟨dx, U2, S2, u0, u1, [], [], [], rfl, ⟨upd_same, ?_, ?_, ?_, ?_, ?_, .nil, .nil, .nil⟩⟩ (fun b o z nb => ?_) (fun b hb => ?_)
        · exact (k6 _ a2.symm).trans (e5 _ _ x2')
        · exact (k6 _ a0.symm).trans (e5 _ _ x0')
        · exact (k6 _ a1.symm).trans (e5 _ _ x1')
        · exact (k6 _ aS.symm).trans g5
        · simp only [List.nodup_cons, List.mem_cons, List.not_mem_nil, or_false, not_or, not_false_eq_true, List.nodup_nil, and_true]
          exact ⟨⟨s2, d02.symm, d12.symm⟩, ⟨s0.symm, s1.symm⟩, d01⟩
        · have nb' : b ≠ a := fun y => nb (by rw [y]; simp)
          rw [k6 _ nb']
          refine e5 _ _ ?_
          rw [k4 _ nb']
          refine eT _ _ ?_
          rw [k2 _ nb']
          exact z
        · simp only [List.mem_cons, List.not_mem_nil, or_false] at hb ⊢
          rcases hb with h | h | h | h | h
          · exact .inl (.inl h)
          · exact .inr (by rw [h, ← k2 _ a2.symm]; exact f2)
          · exact .inr (by rw [h, ← k2 _ aS.symm]; exact f5)
          · exact .inr (by rw [h, ← k2 _ a0.symm]; exact n0)
          · exact .inr (by rw [h, ← k2 _ a1.symm]; exact f1)
end Ph
namespace Ph
open PySem PySem.Spec PyProof.Rows L2
/-! ### heaps, names, tellings as they lie -/
def encC (c : Nat × Nat) : Key × V := (Sum.inl (c.1 : Int), .int c.2)
def encT (a : Nat) : Key × V := (Sum.inl (a : Int), .bl true)
def natV (l : List Nat) : List V := l.map fun (n : Nat) => V.int n
theorem natV_append (l m : List Nat) : natV (l ++ m) = natV l ++ natV m := List.map_append
theorem natV_len (l : List Nat) : (natV l).length = l.length := List.length_map _
theorem natV_at {l : List Nat} {i : Nat} (h : i < l.length) : (natV l)[i]? = some (.int (l.getD i 0 : Nat)) := by
  unfold natV
  rw [List.getElem?_map, List.getElem?_eq_getElem h, List.getD_eq_getElem?_getD, List.getElem?_eq_getElem h]
  rfl
theorem natV_set (l : List Nat) (i v : Nat) : (natV l).set i (.int v) = natV (l.set i v) := by
  unfold natV
  rw [List.map_set]
theorem key_inj {a b : Nat} : (Sum.inl (a : Int) : Key) = Sum.inl (b : Int) ↔ a = b := by
  constructor
  · intro h
    have := Sum.inl.inj h
    omega
  · intro h
    rw [h]
theorem valV_enc (a : Nat) : ∀ l : List (Nat × Nat), valV (l.map encC) (Sum.inl (a : Int)) = (Sm11.at_ l a).map fun (v : Nat) => V.int v
  | [] => rfl
  | c :: l => by
    rw [List.map_cons, at_cons]
    by_cases e : c.1 = a
    · rw [if_pos e, valV_pos (p := encC c) (key_inj.mpr e)]
      rfl
    · rw [if_neg e, valV_neg (p := encC c) (fun z => e (key_inj.mp z)), valV_enc a l]
theorem valV_encT (a : Nat) : ∀ l : List Nat, valV (l.map encT) (Sum.inl (a : Int)) = if a ∈ l then some (V.bl true) else none
  | [] => rfl
  | c :: l => by
    rw [List.map_cons]
    by_cases e : c = a
    · rw [valV_pos (p := encT c) (key_inj.mpr e), if_pos (by simp [e])]
      rfl
    · have e' : ¬ a = c := fun z => e z.symm
      rw [valV_neg (p := encT c) (fun z => e (key_inj.mp z)), valV_encT a l]
      simp [e']
theorem put_encT {a : Nat} {l : List Nat} (h : a ∉ l) : putK (l.map encT) (Sum.inl (a : Int)) (.bl true) = (l ++ [a]).map encT := by
  rw [putK_new _ (by rw [valV_encT, if_neg h]), List.map_append]
  rfl
theorem enc_fst {c : Nat × Nat} {a : Nat} : (encC c).1 = Sum.inl (a : Int) ↔ c.1 = a := key_inj
theorem any_enc (a : Nat) (l : List (Nat × Nat)) : ((l.map encC).any fun kv => decide (kv.1 = Sum.inl (a : Int))) = l.any fun c => decide (c.1 = a) := by
  rw [List.any_map]
  congr 1
  funext c
  exact decide_eq_decide.mpr enc_fst
theorem put_enc (l : List (Nat × Nat)) (a v : Nat) : putK (l.map encC) (Sum.inl (a : Int)) (.int v) = (dput l a v).map encC := by
  unfold putK dput
  rw [any_enc]
  split
  · rw [List.map_map, List.map_map]
    refine List.map_congr_left fun c _ => ?_
    simp only [Function.comp]
    by_cases e : c.1 = a
    · rw [if_pos e, if_pos (enc_fst.mpr e)]
      rfl
    · rw [if_neg e, if_neg (fun z => e (enc_fst.mp z))]
  · rw [List.map_append]
    rfl
theorem drop_enc (l : List (Nat × Nat)) (a : Nat) : dropK (l.map encC) (Sum.inl (a : Int)) = (l.filter fun d => d.1 != a).map encC := by
  unfold dropK
  rw [List.filter_map]
  congr 1
  refine List.filter_congr fun c _ => ?_
  show decide ((encC c).1 ≠ Sum.inl (a : Int)) = (c.1 != a)
  by_cases e : c.1 = a
  · rw [decide_eq_false (fun z => z (enc_fst.mpr e))]
    simp [e]
  · rw [decide_eq_true (show (encC c).1 ≠ Sum.inl (a : Int) from fun z => e (enc_fst.mp z))]
    exact (bne_iff_ne.mpr e).symm
/-- a heap's dict -/
def HeapAt (H : Hp) (d : Addr) (h : List (Nat × Nat)) : Prop := ∃ l, H d = some (.dK (l.map encC)) ∧ Like l h ∧ Asc h
theorem HeapAt.keep {H H' : Hp} {d : Addr} {h : List (Nat × Nat)} (k : ∀ o, H d = some o → H' d = some o) : HeapAt H d h → HeapAt H' d h := fun ⟨l, a, b, c⟩ => ⟨l, k _ a, b, c⟩
theorem HeapAt.get {H : Hp} {d : Addr} {h : List (Nat × Nat)} (k : HeapAt H d h) (a : Nat) : DGet H d (.int a) ((Sm11.at_ h a).map fun (v : Nat) => V.int v) := by
  obtain ⟨l, e, hl, _⟩ := k
  have := DGet.k (k := Sum.inl (a : Int)) e
  rw [valV_enc, hl.at_] at this
  exact this
theorem HeapAt.getS {H : Hp} {d : Addr} {h : List (Nat × Nat)} (k : HeapAt H d h) {a v : Nat} (e : Sm11.at_ h a = some v) : DGet H d (.int a) (some (.int v)) := by
  have := k.get a
  rw [e] at this
  exact this
def TakenAt (H : Hp) (t : Addr) (ks : List Nat) : Prop := H t = some (.dK (ks.map encT))
theorem TakenAt.get {H : Hp} {t : Addr} {ks : List Nat} (k : TakenAt H t ks) (a : Nat) : DGet H t (.int a) (if a ∈ ks then some (V.bl true) else none) := by
  have := DGet.k (k := Sum.inl (a : Int)) k
  rw [valV_encT] at this
  exact this
theorem TakenAt.put {H : Hp} {t : Addr} {ks : List Nat} (k : TakenAt H t ks) {a : Nat} (h : a ∉ ks) (hl : ks.length ≤ 1000) : DPut H t (.int a) (.bl true) (upd H t (.dK ((ks ++ [a]).map encT))) := by
  have := DPut.k (k := Sum.inl (a : Int)) (v := .bl true) k (by rw [List.length_map]; exact small1000 hl)
  rw [put_encT h] at this
  exact this
abbrev NamesAt (H : Hp) (n : Addr) (vals : List Nat) : Prop := H n = some (.lst (natV vals))
/-- a telling's list -/
def TellAt (H : Hp) (t : Addr) (l : List Sm11.Fact) : Prop := ∃ us, H t = some (.lst us) ∧ TrisAt H us (l.map encF)
def StepsAt (H : Hp) (t : Addr) (l : List Sm11.Step) : Prop := ∃ us, H t = some (.lst us) ∧ TrisAt H us (l.map encS)
theorem TriAt.keepF {F : List Addr} {H H' : Hp} (e : Keeps F H H') (nt : ∀ b ∈ F, ∀ xs, H b ≠ some (.tup xs)) {v : V} {t : Tri} : TriAt H v t → TriAt H' v t := fun ⟨p, a, b⟩ => ⟨p, a, e _ _ b (fun z => nt _ z _ b)⟩
theorem Keeps.refl {F : List Addr} {H : Hp} : Keeps F H H := fun _ _ h _ => h
theorem Keeps.trans {F : List Addr} {H H' H'' : Hp} (a : Keeps F H H') (b : Keeps F H' H'') : Keeps F H H'' := fun c o h n => b c o (a c o h n) n
theorem Keeps.upd {F : List Addr} {H : Hp} {p : Addr} {o : HO} (h : p ∈ F) : Keeps F H (L2.upd H p o) := keeps_upd (Same.refl H) h
theorem Keeps.new {F : List Addr} {H H' : Hp} (a : Keeps F H H') {p : Addr} {o : HO} (h : H' p = none) : Keeps F H (L2.upd H' p o) := fun c x e n => by
  have := a c x e n
  rw [upd_ne (ne_of_none this h)]
  exact this
theorem Keeps.mono {F G : List Addr} {H H' : Hp} (a : Keeps F H H') (h : ∀ x ∈ F, x ∈ G) : Keeps G H H' := fun c x e n => a c x e fun z => n (h c z)
variable {P : Program} {w : World} {K : PySem.W.Frag} {mg : Str → Option Value} {base : Heap}
theorem notBl {b : Bool} {A B : Prop} (h : if b = true then A else B) : if (!b) = true then B else A := by
  cases b
  · exact h
  · exact h
/-! ### take_cell -/
def sp_take_cell : Sp := fun vs H Q _ => ∃ (t d : Addr) (ks : List Nat) (a e : Nat) (h : List (Nat × Nat)), vs = [.ref t, .int a, .int e, .ref d] ∧ TakenAt H t ks ∧ HeapAt H d h ∧ ks.length ≤ 1000 ∧
  (a ∉ ks → Sm11.at_ h a = some e → Q (.bl true) (upd H t (.dK ((ks ++ [a]).map encT)))) ∧ (¬ (a ∉ ks ∧ Sm11.at_ h a = some e) → Q (.bl false) H)
theorem ok_take_cell (T : Top K mg) : FnOk P w K mg base CX0 1 T.f_take_cell T.fd_take_cell ["taken", "place", "end", "heap"] sp_take_cell := by
  refine T.F_take_cell.ok sc_take_cell (fun vs H Q E h => ?_) (fun cdv A outer s H vs Q E hr h => ?_)
  · obtain ⟨_, _, _, _, _, _, rfl, _⟩ := h
    rfl
  · obtain ⟨t, d, ks, a, e, h, rfl, ht, hd, hn, q1, q2⟩ := h
    refine ⟨_, (pss_cons (ps_if (PW.pt (pw_or (pt_cmp (pc_din (hu_of hr) (pv 1) (pv 0))) (pw_or (pt_cmp (pc_dnotin (hu_of hr) (pv 1) (pv 3))) (pw_or1 (pt_cmpR op_ne (pe_dget (hu_of hr) (pv 3) (pv 1) (fun _ _ => rfl)) (pv 2) (nomark _))))))
          (pss_one (ps_ret pe_bl))
          pss_nil)
        (pss_cons (ps_dput (hu_of hr) (pv 0) (pv 1) pe_bl rfl)
        (pss_one (ps_ret pe_bl)))), ?_⟩
    refine if_tests (!(decide (a ∉ ks) && decide (Sm11.at_ h a = some e))) (· = H) (fun Qb k => ?_) (fun H1 e1 => ?_)
    · have k := k H rfl
      refine ⟨_, rfl, _, rfl, t, _, rfl, ht.get a, _, rfl, ?_⟩
      by_cases h1 : a ∈ ks
      · rw [if_pos h1]
        refine if_true_of rfl ?_
        simpa [h1] using k
      · rw [if_neg h1]
        refine if_false_of rfl ⟨_, rfl, _, rfl, d, _, rfl, hd.get a, _, rfl, ?_⟩
        cases h2 : Sm11.at_ h a with
        | none =>
          refine if_true_of rfl ?_
          simpa [h2] using k
        | some v =>
          refine if_false_of rfl ⟨_, rfl, _, rfl, d, _, rfl, hd.getS h2, _, rfl, rfl, _, rfl, ?_⟩
          rw [dInt]
          have : (!decide ((v : Int) = (e : Int))) = (!(decide (a ∉ ks) && decide (Sm11.at_ h a = some e))) := by
            rw [h2]
            by_cases ve : v = e
            · simp [ve, h1]
            · have : ¬ (v : Int) = (e : Int) := by omega
              simp [ve, h1, this]
          rw [this]
          exact k
    · subst e1
      by_cases hc : a ∉ ks ∧ Sm11.at_ h a = some e
      · refine if_false_of (by simp [hc.1, hc.2]) ?_
        exact ⟨_, rfl, _, rfl, t, _, rfl, ht.put hc.1 hn, q1 hc.1 hc.2⟩
      · refine if_true_of ?_ (q2 hc)
        rw [Bool.not_eq_true', Bool.and_eq_false_iff, decide_eq_false_iff_not, decide_eq_false_iff_not]
        by_cases z : a ∉ ks
        · exact .inr fun y => hc ⟨z, y⟩
        · exact .inl z
/-! ### take_chain -/
theorem not_two {A B : Prop} {c : Bool} (hc : c = true) (h : B) : if (!c) = true then A else B := by
  rw [hc]
  exact if_neg Bool.false_ne_true ▸ h
def sp_take_chain : Sp := fun vs H Q _ => ∃ (t d : Addr) (ks : List Nat) (a e : Nat) (h : List (Nat × Nat)), vs = [.ref t, .int a, .int e, .ref d] ∧ TakenAt H t ks ∧ HeapAt H d h ∧ h.length ≤ 1000 ∧ t ≠ d ∧ ks.Nodup ∧ (∀ x ∈ ks, x ∈ Sm11.places h) ∧
  (∀ l H', Path h a e l → (ks ++ l).Nodup → Keeps [t] H H' → TakenAt H' t (ks ++ l) → Q (.bl true) H') ∧ ((∀ l, Path h a e l → ¬ (ks ++ l).Nodup) → ∀ H', Keeps [t] H H' → Q (.bl false) H')
def chW (t d : Addr) (a e : Nat) (ks : List Nat) (h : List (Nat × Nat)) (H : Hp) (m : Nat) (σ : L2.St) (H1 : Hp) : Prop := ∃ (l : List Nat) (p : Nat), σ = [some (.ref t), some (.int a), some (.int e), some (.ref d), some (.int p)] ∧ Keeps [t] H H1 ∧ TakenAt H1 t (ks ++ l) ∧ Reach h a e l p ∧
  (ks ++ l).Nodup ∧ (∀ x ∈ ks ++ l, x ∈ Sm11.places h) ∧ m = h.length - (ks ++ l).length
theorem ok_take_chain (T : Top K mg) : FnOk P w K mg base CX0 1 T.f_take_chain T.fd_take_chain ["taken", "first", "end", "heap"] sp_take_chain := by
  refine T.F_take_chain.ok sc_take_chain (fun vs H Q E h => ?_) (fun cdv A outer s H vs Q E hr h => ?_)
  · obtain ⟨_, _, _, _, _, _, rfl, _⟩ := h
    rfl
  · obtain ⟨t, d, ks, a, e, h, rfl, ht, hd, hn, htd, nd, sub, q1, q2⟩ := h
    refine ⟨_, (pss_cons (ps_set (i := 4) sc_take_chain.nd rfl (Or.inl rfl) (pv 1))
        (pss_cons (ps_while PassesOwn.never (pt_cmpR op_ne (pv 4) (pv 2) (nomark _))
          (pss_cons (ps_if (PW.pt (pw_or (pt_cmp (pc_din (hu_of hr) (pv 4) (pv 0))) (pw_or1 (pt_cmp (pc_dnotin (hu_of hr) (pv 4) (pv 3))))))
            (pss_one (ps_ret pe_bl))
            pss_nil)
          (pss_cons (ps_dput (hu_of hr) (pv 0) (pv 4) pe_bl rfl)
          (pss_one (ps_set (i := 4) sc_take_chain.nd rfl (Or.inl rfl) (pe_dget (hu_of hr) (pv 3) (pv 4) (fun _ _ => rfl)))))))
        (pss_one (ps_ret pe_bl)))), ?_⟩
    refine ⟨_, rfl, ?_⟩
    refine ⟨chW t d a e ks h H, ⟨_, [], a, rfl, Keeps.refl, by rw [List.append_nil]; exact ht, .nil, by rw [List.append_nil]; exact nd, by rw [List.append_nil]; exact sub, rfl⟩, ?_⟩
    rintro m σ H1 ⟨l, p, rfl, kp, tk, re, nd1, sub1, rfl⟩
    have hd1 : HeapAt H1 d h := hd.keep fun o z => kp _ _ z (by simpa using htd.symm)
    have hlen : (ks ++ l).length ≤ h.length := by
      have := nodup_le nd1 sub1
      rwa [Sm11.places, List.length_map] at this
    refine ⟨_, rfl, _, rfl, rfl, _, rfl, ?_⟩
    rw [dInt]
    by_cases pe : p = e
    · refine if_false_of (by simp [pe]) ?_
      subst pe
      have := re.path (.here p)
      rw [List.append_nil] at this
      exact q1 l H1 this nd1 kp tk
    · refine if_true_of (by simp; omega) ?_
      refine ⟨fun σ' H' => ∃ m', m' < h.length - (ks ++ l).length ∧ chW t d a e ks h H m' σ' H', fun _ _ z => z, ?_⟩
      refine if_tests (decide (p ∈ ks ++ l) || (Sm11.at_ h p).isNone) (· = H1) (fun Qb k => ?_) (fun H2 e1 => ?_)
      · have k := k H1 rfl
        refine ⟨_, rfl, _, rfl, t, _, rfl, tk.get p, _, rfl, ?_⟩
        by_cases h1 : p ∈ ks ++ l
        · rw [if_pos h1]
          refine if_true_of rfl ?_
          rw [decide_eq_true h1] at k
          exact k
        · rw [if_neg h1]
          refine if_false_of rfl ⟨_, rfl, _, rfl, d, _, rfl, hd1.get p, _, rfl, ?_⟩
          rw [decide_eq_false h1, Bool.false_or] at k
          cases h2 : Sm11.at_ h p with
          | none =>
            rw [h2] at k
            exact k
          | some v =>
            rw [h2] at k
            exact k
      · subst e1
        by_cases h1 : p ∈ ks ++ l
        · refine if_true_of (by rw [decide_eq_true h1]; rfl) (q2 (fun m pm nm => ?_) _ kp)
          rcases List.mem_append.mp h1 with z | z
          · obtain ⟨m', e', pm'⟩ := re.split pm
            cases pm' with
            | here => exact pe rfl
            | next _ _ _ =>
              rw [e'] at nm
              exact (List.nodup_append.mp nm).2.2 p z p (by simp) rfl
          · exact re.round z pm
        · cases h2 : Sm11.at_ h p with
          | none =>
            refine if_true_of (by simp) (q2 (fun m pm nm => ?_) _ kp)
            obtain ⟨m', e', pm'⟩ := re.split pm
            cases pm' with
            | here => exact pe rfl
            | next _ hz _ =>
              rw [h2] at hz
              cases hz
          | some z =>
            refine if_false_of (by rw [decide_eq_false h1]; rfl) ?_
            have htk : TakenAt (upd H2 t (.dK ((ks ++ l ++ [p]).map encT))) t (ks ++ (l ++ [p])) := by
              rw [← List.append_assoc]
              exact upd_same
            have kp2 : Keeps [t] H (upd H2 t (.dK ((ks ++ l ++ [p]).map encT))) := kp.trans (Keeps.upd (by simp))
            have hd2 : HeapAt (upd H2 t (.dK ((ks ++ l ++ [p]).map encT))) d h := hd.keep fun o y => kp2 _ _ y (by simpa using htd.symm)
            have hp : p ∈ Sm11.places h := at_isSome.mp (by rw [h2]; rfl)
            have nd2 : (ks ++ (l ++ [p])).Nodup := by
              rw [← List.append_assoc, List.nodup_append]
              refine ⟨nd1, by simp, fun x hx y hy q => h1 ?_⟩
              rw [List.mem_singleton.mp hy] at q
              rw [← q]
              exact hx
            have sub2 : ∀ x ∈ ks ++ (l ++ [p]), x ∈ Sm11.places h := fun x hx => by
              rw [← List.append_assoc] at hx
              rcases List.mem_append.mp hx with y | y
              · exact sub1 x y
              · rw [List.mem_singleton.mp y]
                exact hp
            have hlen2 : (ks ++ (l ++ [p])).length ≤ h.length := by
              have := nodup_le nd2 sub2
              rwa [Sm11.places, List.length_map] at this
            refine ⟨_, rfl, _, rfl, t, _, rfl, tk.put h1 (by omega), ?_⟩
            refine ⟨_, rfl, _, rfl, d, _, rfl, hd2.getS h2, _, ?_, l ++ [p], z, rfl, kp2, htk, .snoc re pe h2, nd2, sub2, rfl⟩
            simp only [List.length_append, List.length_cons, List.length_nil] at hlen2 ⊢
            omega
end Ph
namespace Ph
open PySem PySem.Spec PyProof.Rows L2
variable {P : Program} {w : World} {K : PySem.W.Frag} {mg : Str → Option Value} {base : Heap}
/-! ### places_taken, is_so -/
def NamesOk (l : List Sm11.Fact) (n : Nat) : Prop := ∀ f ∈ l, xF f < n ∧ yF f < n
theorem TellAt.same {H H' : Hp} {t : Addr} {l : List Sm11.Fact} (e : Same H H') : TellAt H t l → TellAt H' t l := fun ⟨us, a, b⟩ => ⟨us, e _ _ a, b.same e⟩
theorem HeapAt.same {H H' : Hp} {d : Addr} {h : List (Nat × Nat)} (e : Same H H') : HeapAt H d h → HeapAt H' d h := HeapAt.keep fun o => e _ o
def sp_places_taken : Sp := fun vs H Q _ => ∃ (t n d : Addr) (l : List Sm11.Fact) (vals : List Nat) (h : List (Nat × Nat)), vs = [.ref t, .ref n, .ref d] ∧ TellAt H t l ∧ NamesAt H n vals ∧ HeapAt H d h ∧ h.length ≤ 1000 ∧ NamesOk l vals.length ∧
  (good ⟨vals, h⟩ l = true → ∀ H' p, Same H H' → H p = none → TakenAt H' p (lsOf ⟨vals, h⟩ l) → Q (.ref p) H') ∧ (good ⟨vals, h⟩ l = false → ∀ H', Same H H' → Q .non H')
theorem Keeps.same {p : Addr} {H H0 H1 : Hp} (hp : H p = none) (e : Same H H0) (k : Keeps [p] H0 H1) : Same H H1 := fun b o z => k b o (e b o z) (by simpa using ne_of_none z hp)
def ptW (t n d p : Addr) (l : List Sm11.Fact) (vals : List Nat) (h : List (Nat × Nat)) (H : Hp) (i : Nat) (σ : L2.St) (H1 : Hp) : Prop := (∃ o4 o5 o6 o7, σ = [some (.ref t), some (.ref n), some (.ref d), some (.ref p), o4, o5, o6, o7]) ∧ Same H H1 ∧ TakenAt H1 p (lsOf ⟨vals, h⟩ (l.take i)) ∧ good ⟨vals, h⟩ (l.take i) = true
theorem ok_places_taken (T : Top K mg) : FnOk P w K mg base CX0 2 T.f_places_taken T.fd_places_taken ["telling", "names", "heap"] sp_places_taken := by
  have G_take_cell : FnOk P w K mg base CX0 1 T.f_take_cell T.fd_take_cell ["taken", "place", "end", "heap"] sp_take_cell := ok_take_cell T
  have G_take_chain : FnOk P w K mg base CX0 1 T.f_take_chain T.fd_take_chain ["taken", "first", "end", "heap"] sp_take_chain := ok_take_chain T
  refine T.F_places_taken.ok sc_places_taken (fun vs H Q E h => ?_) (fun cdv A outer s H vs Q E hr h => ?_)
  · obtain ⟨_, _, _, _, _, _, rfl, _⟩ := h
    rfl
  · obtain ⟨t, n, d, l, vals, h, rfl, ⟨us, ht, hus⟩, hn, hd, hz, ok, q1, q2⟩ := h
    refine ⟨_, (pss_cons (ps_set (i := 3) sc_places_taken.nd rfl (Or.inl rfl) pe_dnewK)
        (pss_cons (ps_for PassesOwn.never rfl (pi_list (pv 0)) (pg_tup rfl (pgs_cons (pg_name (i := 4) sc_places_taken.nd rfl (Or.inl rfl)) (pgs_cons (pg_name (i := 5) sc_places_taken.nd rfl (Or.inl rfl)) (pgs_cons (pg_name (i := 6) sc_places_taken.nd rfl (Or.inl rfl)) pgs_nil))))
          (pss_cons (ps_if (pt_cmpR op_eq (pv 4) (pe_glob (v := .int (1)) rfl T.g_SAME ⟨_, rfl⟩) (nomark _))
            (pss_one (ps_set (i := 7) sc_places_taken.nd rfl (Or.inl rfl) (pe_cmpR op_eq (pe_ix (r := rIxL K) ix_list (pv 1) (pv 5) (fun _ _ => rfl)) (pe_ix (r := rIxL K) ix_list (pv 1) (pv 6) (fun _ _ => rfl)) (nomark _))))
            (pss_one (ps_if (pt_cmpR op_eq (pv 4) (pe_glob (v := .int (2)) rfl T.g_DIFFER ⟨_, rfl⟩) (nomark _))
              (pss_one (ps_set (i := 7) sc_places_taken.nd rfl (Or.inl rfl) (pe_cmpR op_ne (pe_ix (r := rIxL K) ix_list (pv 1) (pv 5) (fun _ _ => rfl)) (pe_ix (r := rIxL K) ix_list (pv 1) (pv 6) (fun _ _ => rfl)) (nomark _))))
              (pss_one (ps_if (pt_cmpR op_eq (pv 4) (pe_glob (v := .int (3)) rfl T.g_CELL ⟨_, rfl⟩) (nomark _))
                (pss_one (ps_set (i := 7) sc_places_taken.nd rfl (Or.inl rfl) (pe_call G_take_cell (hr.mono (by decide)) (by rfl) T.g_take_cell T.F_take_cell.kp T.b_take_cell .nil pass0 (pa_cons (pv 3) (pa_cons (pe_ix (r := rIxL K) ix_list (pv 1) (pv 5) (fun _ _ => rfl)) (pa_cons (pe_ix (r := rIxL K) ix_list (pv 1) (pv 6) (fun _ _ => rfl)) (pa_cons (pv 2) pa_nil)))))))
                (pss_one (ps_set (i := 7) sc_places_taken.nd rfl (Or.inl rfl) (pe_call G_take_chain (hr.mono (by decide)) (by rfl) T.g_take_chain T.F_take_chain.kp T.b_take_chain .nil pass0 (pa_cons (pv 3) (pa_cons (pe_ix (r := rIxL K) ix_list (pv 1) (pv 5) (fun _ _ => rfl)) (pa_cons (pe_ix (r := rIxL K) ix_list (pv 1) (pv 6) (fun _ _ => rfl)) (pa_cons (pv 2) pa_nil))))))))))))
          (pss_one (ps_if (pt_not (pt_val (pv 7)))
            (pss_one (ps_ret pe_non))
            pss_nil))))
        (pss_one (ps_ret (pv 3))))), ?_⟩
    intro p hp
    have e0 : Same H (upd H p (.dK [])) := same_upd hp
    refine ⟨_, rfl, t, rfl, ⟨us, SqL.of (e0 _ _ ht)⟩, for_list (xs := us) (ptW t n d p l vals h H) ⟨⟨_, _, _, _, rfl⟩, e0, upd_same, rfl⟩ (fun i σ H1 _ z => SqL.of (z.2.1 _ _ ht)) ?_ ?_⟩
    · rintro i x σ H1 hi ⟨⟨o4, o5, o6, o7, rfl⟩, e, tk, gd⟩
      obtain ⟨tri, htri, r, rfl, hr0⟩ := hus.at hi
      rw [List.getElem?_map, Option.map_eq_some_iff] at htri
      obtain ⟨f, hf, rfl⟩ := htri
      have hfm := List.mem_of_getElem? hf
      obtain ⟨okx, oky⟩ := ok f hfm
      have htake : l.take (i + 1) = l.take i ++ [f] := by
        rw [List.take_add_one, hf]
        rfl
      have gnot : good ⟨vals, h⟩ (l.take i ++ [f]) = false → good ⟨vals, h⟩ l = false := fun z => by
        cases g : good ⟨vals, h⟩ l with
        | false => rfl
        | true =>
          rw [← List.take_append_drop (i + 1) l, htake] at g
          rw [good_left g] at z
          cases z
      have hd1 := hd.same e
      have hn1 : NamesAt H1 n vals := e _ _ hn
      have fin : ∀ (b : Bool) (H2 : Hp) (o4 o5 o6 : Option V), Same H H2 → (b = true → TakenAt H2 p (lsOf ⟨vals, h⟩ (l.take i ++ [f])) ∧ good ⟨vals, h⟩ (l.take i ++ [f]) = true) → (b = false → good ⟨vals, h⟩ (l.take i ++ [f]) = false) →
          if (!b) = true then Q .non H2 else ptW t n d p l vals h H (i + 1) [some (.ref t), some (.ref n), some (.ref d), some (.ref p), o4, o5, o6, some (.bl b)] H2 := by
        intro b H2 o4 o5 o6 e2 y1 y2
        cases b with
        | true =>
          obtain ⟨y3, y4⟩ := y1 rfl
          refine if_false_of rfl ⟨⟨_, _, _, _, rfl⟩, e2, ?_, ?_⟩
          · rw [htake]; exact y3
          · rw [htake]; exact y4
        | false => exact if_true_of rfl (q2 (gnot (y2 rfl)) H2 e2)
      have hlen : (lsOf ⟨vals, h⟩ (l.take i)).length ≤ h.length := lsOf_len gd
      have hpd : p ≠ d := by
        obtain ⟨l0, z, _⟩ := hd
        exact (ne_of_none z hp).symm
      have e1 := hr0
      rw [encF_eq] at e1
      refine ⟨r, _, rfl, SqT.of (e _ _ e1), rfl, _, _, rfl, _, _, rfl, _, _, rfl, rfl, ?_⟩
      refine ⟨_, rfl, rfl, _, rfl, ?_⟩
      rw [dInt]
      cases f with
      | same a b =>
        have okx : a < vals.length := okx
        have oky : b < vals.length := oky
        refine if_true_of rfl ?_
        refine ⟨_, rfl, _, rfl, n, _, _, .int (vals.getD a 0 : Nat), rfl, rfl, SqL.of hn1, atI_nat (natV_at okx), _, rfl, _, rfl, n, _, _, .int (vals.getD b 0 : Nat), rfl, rfl, SqL.of hn1, atI_nat (natV_at oky), rfl, ?_⟩
        refine ⟨_, rfl, _, rfl, ?_⟩
        rw [dInt]
        refine fin _ H1 _ _ _ e (fun z => ?_) (fun z => ?_)
        · have : vals.getD a 0 = vals.getD b 0 := by
            have := of_decide_eq_true z
            omega
          refine ⟨by rw [lsOf_append, lsOf_one]; simpa [Sm11.takes] using tk, good_snoc.mpr ⟨gd, by simpa [Sm11.plainSo, Sm11.val] using this, rfl, by simpa [Sm11.takes] using (good_iff.mp gd).2.2⟩⟩
        · rw [Bool.eq_false_iff]
          intro y
          have := (good_snoc.mp y).2.1
          have y2 : vals.getD a 0 = vals.getD b 0 := eq_of_beq this
          exact of_decide_eq_false z (by rw [y2])
      | differ a b =>
        have okx : a < vals.length := okx
        have oky : b < vals.length := oky
        refine if_false_of rfl ⟨_, rfl, rfl, _, rfl, ?_⟩
        rw [dInt]
        refine if_true_of rfl ?_
        refine ⟨_, rfl, _, rfl, n, _, _, .int (vals.getD a 0 : Nat), rfl, rfl, SqL.of hn1, atI_nat (natV_at okx), _, rfl, _, rfl, n, _, _, .int (vals.getD b 0 : Nat), rfl, rfl, SqL.of hn1, atI_nat (natV_at oky), rfl, ?_⟩
        refine ⟨_, rfl, _, rfl, ?_⟩
        rw [dInt]
        refine fin _ H1 _ _ _ e (fun z => ?_) (fun z => ?_)
        · have : ¬ vals.getD a 0 = vals.getD b 0 := fun y => by
            rw [y] at z
            simp at z
          refine ⟨by rw [lsOf_append, lsOf_one]; simpa [Sm11.takes] using tk, good_snoc.mpr ⟨gd, by simpa [Sm11.plainSo, Sm11.val] using this, rfl, by simpa [Sm11.takes] using (good_iff.mp gd).2.2⟩⟩
        · rw [Bool.eq_false_iff]
          intro y
          have := (good_snoc.mp y).2.1
          have y2 : vals.getD a 0 ≠ vals.getD b 0 := bne_iff_ne.mp this
          rw [Bool.not_eq_false'] at z
          have := of_decide_eq_true z
          omega
      | cell a b =>
        have okx : a < vals.length := okx
        have oky : b < vals.length := oky
        refine if_false_of rfl ⟨_, rfl, rfl, _, rfl, ?_⟩
        rw [dInt]
        refine if_false_of rfl ⟨_, rfl, rfl, _, rfl, ?_⟩
        rw [dInt]
        refine if_true_of rfl ?_
        refine ⟨_, rfl, _, rfl, _, rfl, n, _, _, .int (vals.getD a 0 : Nat), rfl, rfl, SqL.of hn1, atI_nat (natV_at okx), _, rfl, _, rfl, n, _, _, .int (vals.getD b 0 : Nat), rfl, rfl, SqL.of hn1, atI_nat (natV_at oky), _, rfl, ?_⟩
        have htk : Sm11.takes ⟨vals, h⟩ (.cell a b) = if Sm11.at_ h (vals.getD a 0) = some (vals.getD b 0) then some [vals.getD a 0] else none := rfl
        refine ⟨p, d, _, _, _, h, rfl, tk, hd1, by omega, fun z1 z2 => ?_, fun z => ?_⟩
        · refine ⟨_, rfl, _, rfl, ?_⟩
          refine fin true _ _ _ _ ((Keeps.upd (F := [p]) (by simp)).same hp e) (fun _ => ?_) (fun z => by cases z)
          rw [lsOf_append, lsOf_one, good_snoc, htk, if_pos z2]
          refine ⟨upd_same, gd, rfl, rfl, ?_⟩
          rw [List.nodup_append]
          refine ⟨(good_iff.mp gd).2.2, by simp, fun x hx y hy q => z1 ?_⟩
          have : y = vals.getD a 0 := by simpa using hy
          rw [← this, ← q]
          exact hx
        · refine ⟨_, rfl, _, rfl, ?_⟩
          refine fin false _ _ _ _ e (fun z => by cases z) (fun _ => ?_)
          rw [Bool.eq_false_iff]
          intro y
          obtain ⟨_, _, y2, y3⟩ := good_snoc.mp y
          rw [htk] at y2 y3
          by_cases c : Sm11.at_ h (vals.getD a 0) = some (vals.getD b 0)
          · refine z ⟨fun m => ?_, c⟩
            rw [if_pos c] at y3
            exact (List.nodup_append.mp y3).2.2 _ m _ (by simp) rfl
          · rw [if_neg c] at y2
            cases y2
      | chain a b =>
        have okx : a < vals.length := okx
        have oky : b < vals.length := oky
        refine if_false_of rfl ⟨_, rfl, rfl, _, rfl, ?_⟩
        rw [dInt]
        refine if_false_of rfl ⟨_, rfl, rfl, _, rfl, ?_⟩
        rw [dInt]
        refine if_false_of rfl ?_
        refine ⟨_, rfl, _, rfl, _, rfl, n, _, _, .int (vals.getD a 0 : Nat), rfl, rfl, SqL.of hn1, atI_nat (natV_at okx), _, rfl, _, rfl, n, _, _, .int (vals.getD b 0 : Nat), rfl, rfl, SqL.of hn1, atI_nat (natV_at oky), _, rfl, ?_⟩
        refine ⟨p, d, _, _, _, h, rfl, tk, hd1, hz, hpd, (good_iff.mp gd).2.2, fun x hx => lsOf_mem (w := ⟨vals, h⟩) x hx, fun m H2 pm nm k2 tk2 => ?_, fun z H2 k2 => ?_⟩
        · have htk : Sm11.takes ⟨vals, h⟩ (.chain a b) = some m := follow_iff.mpr pm
          refine ⟨_, rfl, _, rfl, ?_⟩
          refine fin true _ _ _ _ (k2.same hp e) (fun _ => ?_) (fun z => by cases z)
          rw [lsOf_append, lsOf_one, good_snoc, htk]
          exact ⟨tk2, gd, rfl, rfl, nm⟩
        · refine ⟨_, rfl, _, rfl, ?_⟩
          refine fin false _ _ _ _ (k2.same hp e) (fun z => by cases z) (fun _ => ?_)
          rw [Bool.eq_false_iff]
          intro y
          obtain ⟨_, _, y2, y3⟩ := good_snoc.mp y
          obtain ⟨m, hm⟩ := Option.isSome_iff_exists.mp y2
          rw [hm] at y3
          exact z m (follow_iff.mp hm) y3
    · rintro σ H1 ⟨⟨o4, o5, o6, o7, rfl⟩, e, tk, gd⟩
      rw [hus.length, List.length_map, List.take_length] at tk gd
      exact ⟨_, rfl, q1 gd H1 p e hp tk⟩
end Ph
namespace Ph
open PySem PySem.Spec PyProof.Rows L2
variable {P : Program} {w : World} {K : PySem.W.Frag} {mg : Str → Option Value} {base : Heap}
def sp_is_so : Sp := fun vs H Q _ => ∃ (t n d : Addr) (l : List Sm11.Fact) (vals : List Nat) (h : List (Nat × Nat)), vs = [.ref t, .ref n, .ref d] ∧ TellAt H t l ∧ NamesAt H n vals ∧ HeapAt H d h ∧ h.length ≤ 1000 ∧ NamesOk l vals.length ∧
  ∀ H', Same H H' → Q (.bl (Sm11.isSo ⟨vals, h⟩ l)) H'
theorem ok_is_so (T : Top K mg) : FnOk P w K mg base CX0 3 T.f_is_so T.fd_is_so ["telling", "names", "heap"] sp_is_so := by
  have G_places_taken : FnOk P w K mg base CX0 2 T.f_places_taken T.fd_places_taken ["telling", "names", "heap"] sp_places_taken := ok_places_taken T
  refine T.F_is_so.ok sc_is_so (fun vs H Q E h => ?_) (fun cdv A outer s H vs Q E hr h => ?_)
  · obtain ⟨_, _, _, _, _, _, rfl, _⟩ := h
    rfl
  · obtain ⟨t, n, d, l, vals, h, rfl, ht, hn, hd, hz, ok, q⟩ := h
    refine ⟨_, (pss_cons (ps_set (i := 3) sc_is_so.nd rfl (Or.inl rfl) (pe_call G_places_taken (hr.mono (by decide)) (by rfl) T.g_places_taken T.F_places_taken.kp T.b_places_taken .nil pass0 (pa_cons (pv 0) (pa_cons (pv 1) (pa_cons (pv 2) pa_nil)))))
        (pss_one (ps_ret (pe_and (pe_cmpR op_notN (pv 3) pe_non (nomark _)) (pe_one (pe_cmpR op_eq (pe_callB call_lenD (by rfl) T.n_len PySem.boot_len (pa_cons (pv 3) pa_nil)) (pe_callB call_lenD (by rfl) T.n_len PySem.boot_len (pa_cons (pv 2) pa_nil)) (nomark _))))))), ?_⟩
    refine ⟨_, rfl, _, rfl, _, rfl, t, n, d, l, vals, h, rfl, ht, hn, hd, hz, ok, fun g H1 p e hp tk => ?_, fun g H1 e => ?_⟩
    · obtain ⟨m, hm, hlk, ha⟩ := hd.same e
      refine ⟨_, rfl, rfl, _, rfl, if_true_of rfl ⟨_, rfl, p, _, rfl, tk, _, rfl, d, _, rfl, hm, rfl, ?_⟩⟩
      have := q H1 e
      rw [isSo_good, g, Bool.true_and] at this
      rw [dInt, List.length_map, List.length_map, hlk.length ha]
      have e2 : decide (((lsOf ⟨vals, h⟩ l).length : Int) = (h.length : Int)) = ((lsOf ⟨vals, h⟩ l).length == h.length) := by
        rw [Bool.eq_iff_iff, decide_eq_true_iff, beq_iff_eq]
        omega
      rw [e2]
      exact this
    · refine ⟨_, rfl, rfl, _, rfl, if_false_of rfl ?_⟩
      have := q H1 e
      rw [isSo_good, g, Bool.false_and] at this
      exact this
/-! ### steps -/
def xS : Sm11.Step → Nat
  | .let_ x _ => x
  | .load x _ => x
  | .store x _ => x
  | .new x => x
  | .free x => x
def yS : Sm11.Step → Nat
  | .let_ _ y => y
  | .load _ y => y
  | .store _ y => y
  | .new _ => 0
  | .free _ => 0
def kS (s : Sm11.Step) : Int := (encS s).1
theorem encS_eq (s : Sm11.Step) : encS s = (kS s, (xS s : Int), (yS s : Int)) := by cases s <;> rfl
def StepOk (n : Nat) (s : Sm11.Step) : Prop := xS s < n ∧ yS s < n
theorem ixN_nat {n j : Nat} (h : j < n) : ixN n (j : Int) = some j := by
  unfold ixN
  rw [if_pos (by omega), if_pos (by omega)]
  simp
def sp_do_step : Sp := fun vs H Q _ => ∃ (r n d : Addr) (st : Sm11.Step) (vals : List Nat) (h : List (Nat × Nat)), vs = [.ref r, .ref n, .ref d] ∧ H r = some (.tup [.int (kS st), .int (xS st), .int (yS st)]) ∧ isNew st = false ∧ NamesAt H n vals ∧ HeapAt H d h ∧ h.length ≤ 1000 ∧ StepOk vals.length st ∧
  (Sm11.after ⟨vals, h⟩ 0 st = none → Q (.bl false) H) ∧ (∀ v, Sm11.after ⟨vals, h⟩ 0 st = some v → ∀ H', Keeps [n, d] H H' → NamesAt H' n v.vals → HeapAt H' d v.heap → Q (.bl true) H')
theorem ok_do_step (T : Top K mg) : FnOk P w K mg base CX0 1 T.f_do_step T.fd_do_step ["step", "names", "heap"] sp_do_step := by
  refine T.F_do_step.ok sc_do_step (fun vs H Q E h => ?_) (fun cdv A outer s H vs Q E hr h => ?_)
  · obtain ⟨_, _, _, _, _, _, rfl, _⟩ := h
    rfl
  · obtain ⟨r, n, d, st, vals, h, rfl, hr0, hnew, hn, hd, hz, ⟨okx, oky⟩, q1, q2⟩ := h
    refine ⟨_, (pss_cons (ps_set (i := 3) sc_do_step.nd rfl (Or.inl rfl) (pe_ix (r := rIxT K) ix_tup (pv 0) pe_int (fun _ _ => rfl)))
        (pss_cons (ps_set (i := 4) sc_do_step.nd rfl (Or.inl rfl) (pe_ix (r := rIxT K) ix_tup (pv 0) pe_int (fun _ _ => rfl)))
        (pss_cons (ps_set (i := 5) sc_do_step.nd rfl (Or.inl rfl) (pe_ix (r := rIxT K) ix_tup (pv 0) pe_int (fun _ _ => rfl)))
        (pss_cons (ps_if (pt_cmpR op_eq (pv 3) (pe_glob (v := .int (6)) rfl T.g_LET ⟨_, rfl⟩) (nomark _))
          (pss_cons (ps_asg (pe_ix (r := rIxL K) ix_list (pv 1) (pv 5) (fun _ _ => rfl)) (pg_sub (pv 1) (pv 4) set_list))
          (pss_one (ps_ret pe_bl)))
          pss_nil)
        (pss_cons (ps_set (i := 6) sc_do_step.nd rfl (Or.inl rfl) (pe_ifExp (pt_cmpR op_eq (pv 3) (pe_glob (v := .int (7)) rfl T.g_LOAD ⟨_, rfl⟩) (nomark _)) (pe_ix (r := rIxL K) ix_list (pv 1) (pv 5) (fun _ _ => rfl)) (pe_ix (r := rIxL K) ix_list (pv 1) (pv 4) (fun _ _ => rfl))))
        (pss_cons (ps_if (pt_cmp (pc_dnotin (hu_of hr) (pv 6) (pv 2)))
          (pss_one (ps_ret pe_bl))
          pss_nil)
        (pss_cons (ps_if (pt_cmpR op_eq (pv 3) (pe_glob (v := .int (7)) rfl T.g_LOAD ⟨_, rfl⟩) (nomark _))
          (pss_one (ps_asg (pe_dget (hu_of hr) (pv 2) (pv 6) (fun _ _ => rfl)) (pg_sub (pv 1) (pv 4) set_list)))
          (pss_one (ps_if (pt_cmpR op_eq (pv 3) (pe_glob (v := .int (8)) rfl T.g_STORE ⟨_, rfl⟩) (nomark _))
            (pss_one (ps_dput (hu_of hr) (pv 2) (pv 6) (pe_ix (r := rIxL K) ix_list (pv 1) (pv 5) (fun _ _ => rfl)) rfl))
            (pss_one (ps_expr (pe_dpop1 (pv 2) (pv 6) ⟨rfl, rfl, rfl, rfl⟩))))))
        (pss_one (ps_ret pe_bl))))))))), ?_⟩
    obtain ⟨l, hl, lk, asc⟩ := id hd
    have hnd : n ≠ d := ne_of hn hl (by intro z; cases z)
    have hlen := lk.length asc
    have nK : ∀ vals', Keeps [n, d] H (upd H n (.lst (natV vals'))) := fun _ => Keeps.upd (by simp)
    have dK : ∀ l' : List (Nat × Nat), Keeps [n, d] H (upd H d (.dK (l'.map encC))) := fun _ => Keeps.upd (by simp)
    have nH : ∀ vals', HeapAt (upd H n (.lst (natV vals'))) d h := fun _ => hd.keep fun o z => by rw [upd_ne hnd.symm]; exact z
    have dN : ∀ l' : List (Nat × Nat), NamesAt (upd H d (.dK (l'.map encC))) n vals := fun _ => by
      show upd _ _ _ _ = _
      rw [upd_ne hnd]
      exact hn
    refine ⟨_, rfl, r, _, 0, _, rfl, rfl, SqT.of hr0, atI_nat (j := 0) rfl, ?_⟩
    refine ⟨_, rfl, r, _, 1, _, rfl, rfl, SqT.of hr0, atI_nat (j := 1) rfl, ?_⟩
    refine ⟨_, rfl, r, _, 2, _, rfl, rfl, SqT.of hr0, atI_nat (j := 2) rfl, ?_⟩
    refine ⟨_, rfl, rfl, _, rfl, ?_⟩
    rw [dInt]
    cases st with
    | new x => cases hnew
    | let_ x y =>
      have okx : x < vals.length := okx
      have oky : y < vals.length := oky
      refine if_true_of rfl ?_
      refine ⟨_, rfl, _, rfl, n, _, _, .int (vals.getD y 0 : Nat), rfl, rfl, SqL.of hn, atI_nat (natV_at oky), _, rfl, _, rfl, n, _, _, x, rfl, rfl, hn, by rw [natV_len]; exact ixN_nat okx, ?_⟩
      rw [natV_set]
      exact q2 _ rfl _ (nK _) upd_same (nH _)
    | load x y =>
      have okx : x < vals.length := okx
      have oky : y < vals.length := oky
      refine if_false_of rfl ?_
      refine ⟨_, rfl, rfl, _, rfl, ?_⟩
      rw [dInt]
      refine if_true_of rfl ⟨_, rfl, _, rfl, n, _, _, .int (vals.getD y 0 : Nat), rfl, rfl, SqL.of hn, atI_nat (natV_at oky), ?_⟩
      refine ⟨_, rfl, _, rfl, d, _, rfl, hd.get _, _, rfl, ?_⟩
      cases e : Sm11.at_ h (vals.getD y 0) with
      | none =>
        refine if_true_of rfl (q1 ?_)
        show (Sm11.at_ h (vals.getD y 0)).map _ = none
        rw [e]
        rfl
      | some v =>
        refine if_false_of rfl ?_
        refine ⟨_, rfl, rfl, _, rfl, ?_⟩
        rw [dInt]
        refine if_true_of rfl ⟨_, rfl, _, rfl, d, _, rfl, hd.getS e, _, rfl, _, rfl, n, _, _, x, rfl, rfl, hn, by rw [natV_len]; exact ixN_nat okx, ?_⟩
        rw [natV_set]
        refine q2 ⟨vals.set x v, h⟩ ?_ _ (nK _) upd_same (nH _)
        show (Sm11.at_ h (vals.getD y 0)).map _ = _
        rw [e]
        rfl
    | store x y =>
      have okx : x < vals.length := okx
      have oky : y < vals.length := oky
      refine if_false_of rfl ?_
      refine ⟨_, rfl, rfl, _, rfl, ?_⟩
      rw [dInt]
      refine if_false_of rfl ⟨_, rfl, _, rfl, n, _, _, .int (vals.getD x 0 : Nat), rfl, rfl, SqL.of hn, atI_nat (natV_at okx), ?_⟩
      refine ⟨_, rfl, _, rfl, d, _, rfl, hd.get _, _, rfl, ?_⟩
      cases e : Sm11.at_ h (vals.getD x 0) with
      | none =>
        refine if_true_of rfl (q1 ?_)
        show (if (Sm11.at_ h (vals.getD x 0)).isSome = true then _ else none) = none
        rw [e]
        rfl
      | some v =>
        refine if_false_of rfl ?_
        refine ⟨_, rfl, rfl, _, rfl, ?_⟩
        rw [dInt]
        refine if_false_of rfl ⟨_, rfl, rfl, _, rfl, ?_⟩
        rw [dInt]
        refine if_true_of rfl ⟨_, rfl, _, rfl, n, _, _, .int (vals.getD y 0 : Nat), rfl, rfl, SqL.of hn, atI_nat (natV_at oky), _, rfl, _, rfl, d, _, rfl, DPut.k (k := Sum.inl (vals.getD x 0 : Nat)) hl (by rw [List.length_map]; exact small1000 (by omega)), ?_⟩
        rw [put_enc]
        refine q2 ⟨vals, Sm11.put (vals.getD x 0) (vals.getD y 0) h⟩ ?_ _ (dK _) (dN _) ⟨_, upd_same, lk.put asc _ _, asc.put⟩
        show (if (Sm11.at_ h (vals.getD x 0)).isSome = true then _ else none) = _
        rw [e]
        rfl
    | free x =>
      have okx : x < vals.length := okx
      refine if_false_of rfl ?_
      refine ⟨_, rfl, rfl, _, rfl, ?_⟩
      rw [dInt]
      refine if_false_of rfl ⟨_, rfl, _, rfl, n, _, _, .int (vals.getD x 0 : Nat), rfl, rfl, SqL.of hn, atI_nat (natV_at okx), ?_⟩
      refine ⟨_, rfl, _, rfl, d, _, rfl, hd.get _, _, rfl, ?_⟩
      cases e : Sm11.at_ h (vals.getD x 0) with
      | none =>
        refine if_true_of rfl (q1 ?_)
        show (if (Sm11.at_ h (vals.getD x 0)).isSome = true then _ else none) = none
        rw [e]
        rfl
      | some v =>
        refine if_false_of rfl ?_
        refine ⟨_, rfl, rfl, _, rfl, ?_⟩
        rw [dInt]
        refine if_false_of rfl ⟨_, rfl, rfl, _, rfl, ?_⟩
        rw [dInt]
        refine if_false_of rfl ⟨_, rfl, d, rfl, .inl ⟨_, .inl hl⟩, _, rfl, _, Sum.inl (vals.getD x 0 : Nat), _, hl, rfl, by rw [valV_enc, lk.at_, e]; rfl, ?_⟩
        rw [drop_enc]
        refine q2 ⟨vals, h.filter fun c => c.1 != vals.getD x 0⟩ ?_ _ (dK _) (dN _) ⟨_, upd_same, lk.drop _, asc.drop⟩
        show (if (Sm11.at_ h (vals.getD x 0)).isSome = true then _ else none) = _
        rw [e]
        rfl
/-! ### new cells -/
def sp_do_new : Sp := fun vs H Q _ => ∃ (r n d : Addr) (x c : Nat) (vals : List Nat) (h : List (Nat × Nat)), vs = [.ref r, .int c, .ref n, .ref d] ∧ H r = some (.tup [.int 9, .int x, .int 0]) ∧ NamesAt H n vals ∧ HeapAt H d h ∧ h.length ≤ 1000 ∧ x < vals.length ∧
  ∀ H', Keeps [n, d] H H' → NamesAt H' n (vals.set x c) → HeapAt H' d (Sm11.put c 0 h) → Q .non H'
theorem ok_do_new (T : Top K mg) : FnOk P w K mg base CX0 1 T.f_do_new T.fd_do_new ["step", "place", "names", "heap"] sp_do_new := by
  refine T.F_do_new.ok sc_do_new (fun vs H Q E h => ?_) (fun cdv A outer s H vs Q E hr h => ?_)
  · obtain ⟨_, _, _, _, _, _, _, rfl, _⟩ := h
    rfl
  · obtain ⟨r, n, d, x, c, vals, h, rfl, hr0, hn, hd, hz, okx, q⟩ := h
    refine ⟨_, (pss_cons (ps_dput (hu_of hr) (pv 3) (pv 1) pe_int rfl)
        (pss_one (ps_asg (pv 1) (pg_sub (pv 2) (pe_ix (r := rIxT K) ix_tup (pv 0) pe_int (fun _ _ => rfl)) set_list)))), ?_⟩
    obtain ⟨l, hl, lk, asc⟩ := id hd
    have hnd : n ≠ d := ne_of hn hl (by intro z; cases z)
    have hrd : r ≠ d := ne_of hr0 hl (by intro z; cases z)
    have hlen := lk.length asc
    refine ⟨_, rfl, _, rfl, d, _, rfl, DPut.k (k := Sum.inl (c : Int)) (v := .int (0 : Nat)) hl (by rw [List.length_map]; exact small1000 (by omega)), ?_⟩
    rw [put_enc]
    have hd1 : HeapAt (upd H d (.dK ((dput l c 0).map encC))) d (Sm11.put c 0 h) := ⟨_, upd_same, lk.put asc _ _, asc.put⟩
    have k1 : Keeps [n, d] H (upd H d (.dK ((dput l c 0).map encC))) := Keeps.upd (by simp)
    have hn1 : NamesAt (upd H d (.dK ((dput l c 0).map encC))) n vals := by
      show upd _ _ _ _ = _
      rw [upd_ne hnd]
      exact hn
    have hr1 : (upd H d (.dK ((dput l c 0).map encC))) r = some (.tup [.int 9, .int x, .int 0]) := by
      rw [upd_ne hrd]
      exact hr0
    generalize upd H d (.dK ((dput l c 0).map encC)) = H1 at hd1 k1 hn1 hr1 ⊢
    refine ⟨_, rfl, _, rfl, _, rfl, r, _, 1, _, rfl, rfl, SqT.of hr1, atI_nat (j := 1) rfl, n, _, _, x, rfl, rfl, hn1, by rw [natV_len]; exact ixN_nat okx, ?_⟩
    rw [natV_set]
    exact q _ (k1.trans (Keeps.upd (by simp))) upd_same (hd1.keep fun o z => by rw [upd_ne hnd.symm]; exact z)
end Ph
namespace Ph
open PySem PySem.Spec PyProof.Rows L2
variable {P : Program} {w : World} {K : PySem.W.Frag} {mg : Str → Option Value} {base : Heap}
def natI (l : List Nat) : List Int := l.map fun (n : Nat) => (n : Int)
theorem natV_I (l : List Nat) : natV l = (natI l).map V.int := by
  unfold natV natI
  rw [List.map_map]
  rfl
theorem mem_natI {l : List Nat} {m : Int} : m ∈ natI l ↔ ∃ k ∈ l, m = (k : Int) := by
  unfold natI
  rw [List.mem_map]
  constructor
  · rintro ⟨k, a, b⟩
    exact ⟨k, a, b.symm⟩
  · rintro ⟨k, a, b⟩
    exact ⟨k, a, b.symm⟩
theorem nu3 (a b c : Nat) : nuMax3 (.int a) (.int b) (.int c) = some (.int ((max (max a b) c : Nat) : Int)) := by
  have e2 : ∀ a b : Nat, nuMax2 (.int (a : Int)) (.int (b : Int)) = some (.int ((max a b : Nat) : Int)) := by
    intro a b
    show some (if decide ((a : Int) < (b : Int)) = true then V.int (b : Int) else V.int (a : Int)) = _
    by_cases h : a < b
    · rw [if_pos (by simpa using h)]
      congr 3
      omega
    · rw [if_neg (by simpa using h)]
      congr 3
      omega
  unfold nuMax3
  rw [e2 a b]
  exact e2 _ _
theorem Same.upd2 {H : Hp} {d : Addr} {u v : HO} {H' : Hp} (hd : H d = some u) (e : Same (upd H d v) H') : Same H (upd H' d u) := fun b o z => by
  by_cases q : b = d
  · subst q
    rw [upd_same, ← z, hd]
  · rw [upd_ne q]
    refine e b o ?_
    rw [upd_ne q]
    exact z
def sp_place_above_all : Sp := fun vs H Q _ => ∃ (n d : Addr) (vals : List Nat) (h : List (Nat × Nat)), vs = [.ref n, .ref d] ∧ NamesAt H n vals ∧ 0 < vals.length ∧ HeapAt H d h ∧ ∀ H', Same H H' → Q (.int (Sm11.free_ ⟨vals, h⟩ : Nat)) H'
def paW (n d : Addr) (vals : List Nat) (l : List (Nat × Nat)) (H : Hp) (i : Nat) (σ : L2.St) (H1 : Hp) : Prop := ∃ (g : Nat) (o3 o4 : Option V), σ = [some (.ref n), some (.ref d), some (.int g), o3, o4] ∧ Same H H1 ∧ g ∈ vals ++ Sm11.places (l.take i) ++ (l.take i).map (fun c => c.2) ∧ ∀ x ∈ vals ++ Sm11.places (l.take i) ++ (l.take i).map (fun c => c.2), x ≤ g
theorem ok_place_above_all (T : Top K mg) : FnOk P w K mg base CX0 1 T.f_place_above_all T.fd_place_above_all ["names", "heap"] sp_place_above_all := by
  refine T.F_place_above_all.ok sc_place_above_all (fun vs H Q E h => ?_) (fun cdv A outer s H vs Q E hr h => ?_)
  · obtain ⟨_, _, _, _, rfl, _⟩ := h
    rfl
  · obtain ⟨n, d, vals, h, rfl, hn, h0, ⟨l, hl, lk, asc⟩, q⟩ := h
    refine ⟨_, (pss_cons (ps_set (i := 2) sc_place_above_all.nd rfl (Or.inl rfl) (pe_callB (cr_max rfl) (by rfl) T.n_max (by decide +kernel) (pa_cons (pv 0) pa_nil)))
        (pss_cons (ps_lock (ps_for PassesOwn.never rfl (pi_items (pv 1)) (pg_tup rfl (pgs_cons (pg_name (i := 3) sc_place_above_all.nd rfl (Or.inl rfl)) (pgs_cons (pg_name (i := 4) sc_place_above_all.nd rfl (Or.inl rfl)) pgs_nil)))
          (pss_one (ps_set (i := 2) sc_place_above_all.nd rfl (Or.inl rfl) (pe_callB (call_max3Nu rfl) (by rfl) T.n_max (by decide +kernel) (pa_cons (pv 2) (pa_cons (pv 3) (pa_cons (pv 4) pa_nil))))))))
        (pss_one (ps_ret (pe_op op_add (pv 2) pe_int))))), ?_⟩
    refine ⟨_, rfl, n, natI vals, rfl, by rw [← natV_I]; exact SqL.of hn, by unfold natI; rw [List.length_map]; exact h0, fun m hm hle => ?_⟩
    obtain ⟨k, hk, rfl⟩ := mem_natI.mp hm
    have hkle : ∀ x ∈ vals, x ≤ k := fun x hx => by
      have := hle (x : Int) (mem_natI.mpr ⟨x, hx, rfl⟩)
      omega
    refine ⟨d, _, hl, trivial, fun od => ?_⟩
    refine ⟨_, rfl, d, od, l.map encC, rfl, upd_same, for_it (walk_items (d := d) (o := od)) (paW n d vals l (upd H d (.frz od (.dK (l.map encC))))) ?_ ?_ ?_ ?_⟩
    · exact ⟨k, _, _, rfl, Same.refl _, by simp [Sm11.places, hk], fun x hx => hkle x (by simpa [Sm11.places] using hx)⟩
    · rintro i σ H1 _ ⟨_, _, _, _, e, _⟩
      exact e _ _ upd_same
    · rintro i x σ H1 H2 hi ⟨g, o3, o4, rfl, e, g1, g2⟩ ⟨Tt, x1, x2, rfl, hT, rfl, e1, e2⟩
      rw [List.length_map] at hi
      have hli : (l.map encC)[i]? = some (encC l[i]) := by simp [hi]
      dsimp only at e1 e2
      rw [hli] at e1 e2
      obtain rfl := Option.some.inj e1
      obtain rfl := Option.some.inj e2
      have es := same_upd (o := .tup [.int (l[i].1 : Nat), .int (l[i].2 : Nat)]) hT
      refine ⟨Tt, _, rfl, SqT.of upd_same, rfl, _, _, rfl, _, _, rfl, rfl, ?_⟩
      refine ⟨_, rfl, _, rfl, _, rfl, _, _, _, _, rfl, nu3 g l[i].1 l[i].2, ?_⟩
      have htk : l.take (i + 1) = l.take i ++ [l[i]] := by
        rw [List.take_add_one, List.getElem?_eq_getElem hi]
        rfl
      refine ⟨_, _, _, rfl, e.trans es, ?_, ?_⟩
      · rw [htk]
        simp only [Sm11.places, List.map_append, List.map_cons, List.map_nil, List.mem_append, List.mem_cons, List.not_mem_nil, or_false] at g1 ⊢
        rcases Nat.le_total (max g l[i].1) l[i].2 with z | z
        · exact .inr (.inr (by omega))
        · rcases Nat.le_total g l[i].1 with y | y
          · exact .inl (.inr (.inr (by omega)))
          · have : max (max g l[i].1) l[i].2 = g := by omega
            rw [this]
            rcases g1 with (g1 | g1) | g1
            · exact .inl (.inl g1)
            · exact .inl (.inr (.inl g1))
            · exact .inr (.inl g1)
      · rw [htk]
        intro x hx
        simp only [Sm11.places, List.map_append, List.map_cons, List.map_nil, List.mem_append, List.mem_cons, List.not_mem_nil, or_false] at hx g2
        rcases hx with (hx | hx | hx) | hx | hx
        · have := g2 x (.inl (.inl hx))
          omega
        · have := g2 x (.inl (.inr hx))
          omega
        · omega
        · have := g2 x (.inr hx)
          omega
        · omega
    · rintro σ H1 ⟨g, o3, o4, rfl, e, g1, g2⟩
      rw [List.length_map, List.take_length] at g1 g2
      refine ⟨e _ _ upd_same, _, rfl, _, _, rfl, rfl, ?_⟩
      have hp := lk.perm asc
      have ef : Sm11.free_ ⟨vals, h⟩ = g + 1 := by
        refine free_eq ?_ fun x hx => ?_
        · simp only [List.mem_append] at g1 ⊢
          rcases g1 with (g1 | g1) | g1
          · exact .inl (.inl g1)
          · exact .inl (.inr ((List.Perm.map _ hp).mem_iff.mp g1))
          · exact .inr ((List.Perm.map _ hp).mem_iff.mp g1)
        · refine g2 x ?_
          simp only [List.mem_append] at hx ⊢
          rcases hx with (hx | hx) | hx
          · exact .inl (.inl hx)
          · exact .inl (.inr ((List.Perm.map _ hp).mem_iff.mpr hx))
          · exact .inr ((List.Perm.map _ hp).mem_iff.mpr hx)
      have := q _ (Same.upd2 hl e)
      rw [ef] at this
      exact this
/-! ### the places of new cells -/
theorem asc_eqI : ∀ {l m : List Int}, l.Pairwise (· < ·) → m.Pairwise (· < ·) → (∀ x, x ∈ l ↔ x ∈ m) → l = m
  | [], [], _, _, _ => rfl
  | [], b :: m, _, _, h => absurd ((h b).mpr (by simp)) (by simp)
  | a :: l, [], _, _, h => absurd ((h a).mp (by simp)) (by simp)
  | a :: l, b :: m, hl, hm, h => by
    have hl' := List.pairwise_cons.mp hl
    have hm' := List.pairwise_cons.mp hm
    have e : a = b := by
      rcases List.mem_cons.mp ((h a).mp (by simp)) with e | e
      · exact e
      · rcases List.mem_cons.mp ((h b).mpr (by simp)) with e' | e'
        · exact e'.symm
        · have := hl'.1 b e'
          have := hm'.1 a e
          omega
    subst e
    rw [asc_eqI hl'.2 hm'.2 fun x => ?_]
    constructor
    · intro q
      rcases List.mem_cons.mp ((h x).mp (by simp [q])) with e | e
      · have := hl'.1 x q
        omega
      · exact e
    · intro q
      rcases List.mem_cons.mp ((h x).mpr (by simp [q])) with e | e
      · have := hm'.1 x q
        omega
      · exact e
theorem asc_natI {l : List Nat} (h : l.Pairwise (· < ·)) : (natI l).Pairwise (· < ·) := by
  unfold natI
  rw [List.pairwise_map]
  exact h.imp fun q => by omega
def sp_new_places : Sp := fun vs H Q _ => ∃ (n d : Addr) (vals : List Nat) (h : List (Nat × Nat)), vs = [.ref n, .ref d] ∧ NamesAt H n vals ∧ 0 < vals.length ∧ HeapAt H d h ∧ vals.length + h.length ≤ 60 ∧
  ∀ H' p, Same H H' → H p = none → H' p = some (.lst (natV (Sm11.loose ⟨vals, h⟩ ++ [Sm11.free_ ⟨vals, h⟩]))) → Q (.ref p) H'
def kept (h : List (Nat × Nat)) (x : Nat) : Bool := x != 0 && (Sm11.at_ h x).isNone
theorem ok_new_places (T : Top K mg) : FnOk P w K mg base CX0 2 T.f_new_places T.fd_new_places ["names", "heap"] sp_new_places := by
  have G_place_above_all : FnOk P w K mg base CX0 1 T.f_place_above_all T.fd_place_above_all ["names", "heap"] sp_place_above_all := ok_place_above_all T
  refine T.F_new_places.ok sc_new_places (fun vs H Q E h => ?_) (fun cdv A outer s H vs Q E hr h => ?_)
  · obtain ⟨_, _, _, _, rfl, _⟩ := h
    rfl
  · obtain ⟨n, d, vals, h, rfl, hn, h0, hd, hz, q⟩ := h
    refine ⟨_, (pss_cons (ps_set (i := 2) sc_new_places.nd rfl (Or.inl rfl) (pe_op op_cat (pv 0) (pe_listVals rfl (pv 1) (by rfl) T.n_list)))
        (pss_cons (ps_set (i := 3) sc_new_places.nd rfl (Or.inl rfl) (pe_callB (cr_sortedSet rfl) (by rfl) T.n_sorted (by decide +kernel) (pa_cons (pe_callTy (cr_setL rfl) (by rfl) T.n_set (by decide +kernel) (pa_cons (pe_lc (own := [("number", 4)]) (g := gName 4) rfl sc_new_places.nd (pi_list (pv 2)) (blkOk_by (own := [("number", 4)]) (N := ["names", "heap", "known", "places", "number"]) (sc := defScope s_new_places) (by decide +kernel)) (fun _ _ _ _ _ => (pg_name (i := 4) sc_new_places.nd rfl (Or.inl rfl))) (fun _ _ _ _ _ => (pts_one (PW.pt (pw_and (pt_cmpR op_ne (pv 4) pe_int (nomark _)) (pw_and1 (pt_cmp (pc_dnotin (hu_of hr) (pv 4) (pv 1)))))))) (fun _ _ _ _ _ => (pv 4))) pa_nil)) pa_nil)))
        (pss_cons (ps_expr (pe_bm PySem.F.plainAttrs_list PySem.F.slot_list_append PySem.F.type_list_append mt_append (pv 3) (pa_cons (pe_call G_place_above_all (hr.mono (by decide)) (by rfl) T.g_place_above_all T.F_place_above_all.kp T.b_place_above_all .nil pass0 (pa_cons (pv 0) (pa_cons (pv 1) pa_nil))) pa_nil)))
        (pss_one (ps_ret (pv 3)))))), ?_⟩
    obtain ⟨l, hl, lk, asc⟩ := id hd
    have hlen := lk.length asc
    refine ⟨_, rfl, _, rfl, d, _, rfl, hl, fun p1 hp1 => ?_⟩
    have e1 := same_upd (o := .lst ((l.map encC).map fun kv => kv.2)) hp1
    have ev : ((l.map encC).map fun kv => kv.2) = natV (l.map fun c => c.2) := by
      unfold natV
      rw [List.map_map, List.map_map]
      rfl
    have h1 : (upd H p1 (.lst ((l.map encC).map fun kv => kv.2))) p1 = some (.lst (natV (l.map fun c => c.2))) := by
      rw [← ev]
      exact upd_same
    generalize upd H p1 (.lst ((l.map encC).map fun kv => kv.2)) = H1 at e1 h1 ⊢
    refine ⟨n, p1, _, _, rfl, rfl, e1 _ _ hn, h1, by rw [natV_len, natV_len, List.length_map]; exact Nat.le_trans (by omega : _ ≤ 1000) (by decide), fun p2 hp2 => ?_⟩
    rw [← natV_append]
    have e2 := e1.trans (same_upd (o := .lst (natV (vals ++ l.map fun c => c.2))) hp2)
    have h2 : (upd H1 p2 (.lst (natV (vals ++ l.map fun c => c.2)))) p2 = some (.lst (natV (vals ++ l.map fun c => c.2))) := upd_same
    generalize upd H1 p2 (.lst (natV (vals ++ l.map fun c => c.2))) = H2 at e2 h2 ⊢
    generalize hkn : (vals ++ l.map fun c => c.2) = known at h2 ⊢
    have klen : known.length ≤ 60 := by
      rw [← hkn, List.length_append, List.length_map]
      omega
    refine ⟨_, rfl, p2, rfl, ⟨_, SqL.of h2⟩, fun D hD => lc_list (K := K) (a := p2) (xs := natV known) (fun i H' => Same H2 H' ∧ H' D = some (.lst (natV ((known.take i).filter (kept h))))) ?_ ?_ ?_ ?_⟩
    · exact ⟨same_upd hD, upd_same⟩
    · exact fun i H' _ z => SqL.of (z.1 _ _ h2)
    · rintro i y H' hi ⟨e3, hA⟩
      have hik : i < known.length := by
        have := (List.getElem?_eq_some_iff.mp hi).1
        rwa [natV_len] at this
      rw [natV_at hik] at hi
      obtain rfl := Option.some.inj hi
      have htk : known.take (i + 1) = known.take i ++ [known.getD i 0] := by
        rw [List.take_add_one, List.getElem?_eq_getElem hik, List.getD_eq_getElem?_getD, List.getElem?_eq_getElem hik]
        rfl
      generalize hx : known.getD i 0 = x at htk
      have hd3 : HeapAt H' d h := hd.same (e2.trans e3)
      refine ⟨rfl, _, rfl, rfl, _, rfl, ?_⟩
      rw [dInt, htk, List.filter_append]
      have hacc : (natV ((known.take i).filter (kept h))).length < sizeLine := by
        rw [natV_len]
        refine small1000 (Nat.le_trans (List.length_filter_le _ _) (Nat.le_trans (List.length_take_le' _ _) (by omega)))
      by_cases x0 : x = 0
      · refine if_false_of (by simp [x0]) ⟨e3, ?_⟩
        rw [show [x].filter (kept h) = [] by simp [kept, x0], List.append_nil]
        exact hA
      · refine if_true_of (by simp; omega) ⟨_, rfl, _, rfl, d, _, rfl, hd3.get x, _, rfl, ?_⟩
        cases ex : Sm11.at_ h x with
        | none =>
          refine if_true_of rfl ⟨_, rfl, _, hA, hacc, fun b o z => ?_, ?_⟩
          · rw [upd_ne (ne_of_none z hD)]
            exact e3 _ _ z
          · rw [show [x].filter (kept h) = [x] by simp [kept, x0, ex], natV_append]
            exact upd_same
        | some v =>
          refine if_false_of rfl ⟨e3, ?_⟩
          rw [show [x].filter (kept h) = [] by simp [kept, ex], List.append_nil]
          exact hA
    · rintro H3 ⟨e3, hA⟩
      rw [natV_len, List.take_length] at hA
      refine ⟨D, natI (known.filter (kept h)), rfl, by rw [← natV_I]; exact SqL.of hA, ?_, fun a S m ha hS hm => ?_⟩
      · unfold natI
        rw [List.length_map]
        exact Nat.le_trans (List.length_filter_le _ _) (by omega)
      have hm2 : m < 64 := by
        unfold natI at hm
        rw [List.length_map] at hm
        have := List.length_filter_le (kept h) known
        omega
      refine ⟨a, S, m, rfl, upd_same, hm2, fun ns p3 s1 s2 s3 hp3 => ?_⟩
      have ens : ns = natI (Sm11.loose ⟨vals, h⟩) := by
        refine asc_eqI s1 (asc_natI (loose_asc _)) fun x => ?_
        rw [s2, hS, mem_natI, mem_natI]
        have key : ∀ k : Nat, k ∈ known.filter (kept h) ↔ k ∈ Sm11.loose ⟨vals, h⟩ := by
          intro k
          rw [loose_mem, List.mem_filter, ← hkn, List.mem_append, kept, Bool.and_eq_true, bne_iff_ne, Option.isNone_iff_eq_none, at_none]
          have hp := lk.perm asc
          rw [(List.Perm.map (fun c : Nat × Nat => c.2) hp).mem_iff]
        constructor
        · rintro ⟨k, a, b⟩
          exact ⟨k, (key k).mp a, b⟩
        · rintro ⟨k, a, b⟩
          exact ⟨k, (key k).mpr a, b⟩
      rw [ens, ← natV_I]
      generalize SetO _ a S m = so at hp3 ⊢
      have e4 : Same H2 (upd H3 a so) := e3.trans (same_upd ha)
      have e5 := e4.trans (same_upd (o := .lst (natV (Sm11.loose ⟨vals, h⟩))) hp3)
      have h5 : (upd (upd H3 a so) p3 (.lst (natV (Sm11.loose ⟨vals, h⟩)))) p3 = some (.lst (natV (Sm11.loose ⟨vals, h⟩))) := upd_same
      have np3 : H p3 = none := e2.free (e4.free hp3)
      generalize upd (upd H3 a so) p3 (.lst (natV (Sm11.loose ⟨vals, h⟩))) = H5 at e5 h5 ⊢
      have e6 := e2.trans e5
      refine ⟨_, rfl, .inl ⟨rfl, _, SqL.of h5⟩, _, rfl, _, rfl, n, d, vals, h, rfl, e6 _ _ hn, h0, hd.same e6, fun H6 e7 => ?_⟩
      refine ⟨p3, _, _, rfl, rfl, e7 _ _ h5, ?_, _, rfl, ?_⟩
      · rw [natV_len]
        refine small1000 ?_
        have : (natI (Sm11.loose ⟨vals, h⟩)).length = m := by rw [← ens]; exact s3
        unfold natI at this
        rw [List.length_map] at this
        omega
      · refine q _ p3 (fun b o z => ?_) np3 ?_
        · rw [upd_ne (ne_of_none z np3)]
          exact e7 _ _ (e6 _ _ z)
        · rw [natV_append]
          exact upd_same
end Ph
namespace Ph
open PySem PySem.Spec PyProof.Rows L2
variable {P : Program} {w : World} {K : PySem.W.Frag} {mg : Str → Option Value} {base : Heap}
theorem put_len (a v : Nat) : ∀ h : List (Nat × Nat), (Sm11.put a v h).length ≤ h.length + 1
  | [] => by simp [Sm11.put]
  | c :: h => by
    have := put_len a v h
    unfold Sm11.put
    split
    · simp
    · split
      · simp
      · simp only [List.length_cons]
        omega
theorem after_len {w v : Sm11.World} {c : Nat} {p : Sm11.Step} (e : Sm11.after w c p = some v) : v.heap.length ≤ w.heap.length + 1 := by
  cases p with
  | let_ x y => injection e with e; rw [← e]; exact Nat.le_succ _
  | load x y =>
    obtain ⟨z, _, e⟩ := Option.map_eq_some_iff.mp (show (Sm11.at_ w.heap (Sm11.val w y)).map _ = some v from e)
    rw [← e]
    exact Nat.le_succ _
  | store x y =>
    unfold Sm11.after at e
    simp only at e
    split at e
    · injection e with e
      rw [← e]
      exact put_len _ _ _
    · cases e
  | new x => injection e with e; rw [← e]; exact put_len _ _ _
  | free x =>
    unfold Sm11.after at e
    simp only at e
    split at e
    · injection e with e
      rw [← e]
      exact Nat.le_succ_of_le (List.length_filter_le _ _)
    · cases e
theorem after_free (w : Sm11.World) (c c' : Nat) {p : Sm11.Step} (h : isNew p = false) : Sm11.after w c p = Sm11.after w c' p := by
  cases p <;> first | rfl | cases h
def StepsOk (p : List Sm11.Step) (n : Nat) : Prop := ∀ s ∈ p, StepOk n s
theorem kS9 (s : Sm11.Step) : decide (kS s = 9) = isNew s := by cases s <;> rfl
theorem Keeps.tris {F : List Addr} {H H' : Hp} (k : Keeps F H H') (nt : ∀ b ∈ F, ∀ xs, H b ≠ some (.tup xs)) {us : List V} {m : List Tri} (h : TrisAt H us m) : TrisAt H' us m := h.imp fun _ _ => TriAt.keepF k nt
theorem no_tup {n d : Addr} {H : Hp} {vals : List Nat} {h : List (Nat × Nat)} (hn : NamesAt H n vals) (hd : HeapAt H d h) : ∀ b ∈ [n, d], ∀ xs, H b ≠ some (.tup xs) := by
  intro b hb xs z
  obtain ⟨l, hl, _⟩ := hd
  simp only [List.mem_cons, List.not_mem_nil, or_false] at hb
  rcases hb with e | e
  · rw [e, hn] at z
    cases z
  · rw [e, hl] at z
    cases z
theorem StepsAt.keep {H H' : Hp} {S n d : Addr} {p : List Sm11.Step} {vals : List Nat} {h : List (Nat × Nat)} (s : StepsAt H S p) (k : Keeps [n, d] H H') (hS : S ≠ n) (hn : NamesAt H n vals) (hd : HeapAt H d h) : StepsAt H' S p := by
  obtain ⟨us, a, b⟩ := s
  obtain ⟨l, hl, _⟩ := id hd
  have : S ≠ d := ne_of a hl (by intro z; cases z)
  exact ⟨us, k _ _ a (by simp [hS, this]), k.tris (no_tup hn hd) b⟩
theorem TellAt.keep {H H' : Hp} {S n d : Addr} {p : List Sm11.Fact} {vals : List Nat} {h : List (Nat × Nat)} (s : TellAt H S p) (k : Keeps [n, d] H H') (hS : S ≠ n) (hn : NamesAt H n vals) (hd : HeapAt H d h) : TellAt H' S p := by
  obtain ⟨us, a, b⟩ := s
  obtain ⟨l, hl, _⟩ := id hd
  have : S ≠ d := ne_of a hl (by intro z; cases z)
  exact ⟨us, k _ _ a (by simp [hS, this]), k.tris (no_tup hn hd) b⟩
theorem StepsAt.at {H : Hp} {S : Addr} {p : List Sm11.Step} {us : List V} (b : TrisAt H us (p.map encS)) {i : Nat} {x : V} (h : us[i]? = some x) : ∃ st r, p[i]? = some st ∧ x = .ref r ∧ H r = some (.tup [.int (kS st), .int (xS st), .int (yS st)]) := by
  obtain ⟨tri, ht, r, rfl, hr⟩ := All2.at b h
  rw [List.getElem?_map, Option.map_eq_some_iff] at ht
  obtain ⟨st, hs, rfl⟩ := ht
  rw [encS_eq] at hr
  exact ⟨st, r, hs, rfl, hr⟩
def sp_last_run : Sp := fun vs H Q _ => ∃ (S n d : Addr) (p : List Sm11.Step) (vals : List Nat) (h : List (Nat × Nat)), vs = [.ref S, .ref n, .ref d] ∧ StepsAt H S p ∧ S ≠ n ∧ NamesAt H n vals ∧ 0 < vals.length ∧ HeapAt H d h ∧ h.length + p.length ≤ 1000 ∧ StepsOk p vals.length ∧
  (∀ k, lastEnd 0 p ⟨vals, h⟩ = .fault k → ∀ H', Keeps [n, d] H H' → Q (.int (k : Nat)) H') ∧ (∀ v, lastEnd 0 p ⟨vals, h⟩ = .done v → ∀ H', Keeps [n, d] H H' → NamesAt H' n v.vals → HeapAt H' d v.heap → Q (.int (p.length : Nat)) H')
def lrW (S n d : Addr) (p : List Sm11.Step) (us : List V) (vals : List Nat) (h : List (Nat × Nat)) (H : Hp) (i : Nat) (σ : L2.St) (H1 : Hp) : Prop := ∃ (v : Sm11.World) (o3 o4 : Option V), σ = [some (.ref S), some (.ref n), some (.ref d), o3, o4] ∧ Keeps [n, d] H H1 ∧ H1 S = some (.lst us) ∧ TrisAt H1 us (p.map encS) ∧ NamesAt H1 n v.vals ∧ HeapAt H1 d v.heap ∧
  v.vals.length = vals.length ∧ v.heap.length ≤ h.length + i ∧ lastEnd 0 p ⟨vals, h⟩ = lastEnd i (p.drop i) v
theorem ok_last_run (T : Top K mg) : FnOk P w K mg base CX0 2 T.f_last_run T.fd_last_run ["steps", "names", "heap"] sp_last_run := by
  have G_place_above_all : FnOk P w K mg base CX0 1 T.f_place_above_all T.fd_place_above_all ["names", "heap"] sp_place_above_all := ok_place_above_all T
  have G_do_new : FnOk P w K mg base CX0 1 T.f_do_new T.fd_do_new ["step", "place", "names", "heap"] sp_do_new := ok_do_new T
  have G_do_step : FnOk P w K mg base CX0 1 T.f_do_step T.fd_do_step ["step", "names", "heap"] sp_do_step := ok_do_step T
  refine T.F_last_run.ok sc_last_run (fun vs H Q E h => ?_) (fun cdv A outer s H vs Q E hr h => ?_)
  · obtain ⟨_, _, _, _, _, _, rfl, _⟩ := h
    rfl
  · obtain ⟨S, n, d, p, vals, h, rfl, ⟨us, hS, hus⟩, hSn, hn, h0, hd, hz, ok, q1, q2⟩ := h
    refine ⟨_, (pss_cons (ps_for PassesOwn.never rfl (pi_enum (by rfl) T.n_enumerate (pa_cons (pv 0) pa_nil)) (pg_tup rfl (pgs_cons (pg_name (i := 3) sc_last_run.nd rfl (Or.inl rfl)) (pgs_cons (pg_name (i := 4) sc_last_run.nd rfl (Or.inl rfl)) pgs_nil)))
          (pss_one (ps_if (pt_cmpR op_eq (pe_ix (r := rIxT K) ix_tup (pv 4) pe_int (fun _ _ => rfl)) (pe_glob (v := .int (9)) rfl T.g_NEW ⟨_, rfl⟩) (nomark _))
            (pss_one (ps_expr (pe_call G_do_new (hr.mono (by decide)) (by rfl) T.g_do_new T.F_do_new.kp T.b_do_new .nil pass0 (pa_cons (pv 4) (pa_cons (pe_call G_place_above_all (hr.mono (by decide)) (by rfl) T.g_place_above_all T.F_place_above_all.kp T.b_place_above_all .nil pass0 (pa_cons (pv 1) (pa_cons (pv 2) pa_nil))) (pa_cons (pv 1) (pa_cons (pv 2) pa_nil)))))))
            (pss_one (ps_if (pt_not (pt_val (pe_call G_do_step (hr.mono (by decide)) (by rfl) T.g_do_step T.F_do_step.kp T.b_do_step .nil pass0 (pa_cons (pv 4) (pa_cons (pv 1) (pa_cons (pv 2) pa_nil))))))
              (pss_one (ps_ret (pv 3)))
              pss_nil)))))
        (pss_one (ps_ret (pe_callB call_len_seq (by rfl) T.n_len PySem.boot_len (pa_cons (pv 0) pa_nil))))), ?_⟩
    have hul : us.length = p.length := by
      rw [hus.length, List.length_map]
    refine ⟨_, rfl, S, us, rfl, SqL.of hS, for_it (walk_enum (K := K) (a := S) (xs := us)) (lrW S n d p us vals h H) ?_ ?_ ?_ ?_⟩
    · exact ⟨⟨vals, h⟩, _, _, rfl, Keeps.refl, hS, hus, hn, hd, rfl, Nat.le_refl _, rfl⟩
    · rintro i σ H1 _ ⟨v, o3, o4, rfl, k, hS1, _⟩
      exact SqL.of hS1
    · rintro i x σ H1 H2 hi ⟨v, o3, o4, rfl, k, hS1, hus1, hn1, hd1, hvl, hhl, hle⟩ ⟨Tt, x1, x2, rfl, hT, rfl, e1, e2⟩
      obtain rfl := Option.some.inj e1
      obtain ⟨st, r, hst, rfl, hr1⟩ := StepsAt.at (S := S) hus1 e2
      have es := same_upd (o := .tup [.int (i : Nat), .ref r]) hT
      have hip : i < p.length := by omega
      have hsti : p[i] = st := (List.getElem?_eq_some_iff.mp hst).2
      have hok : StepOk v.vals.length st := by
        rw [hvl]
        exact ok st (List.mem_of_getElem? hst)
      have hdrop : p.drop i = st :: p.drop (i + 1) := by
        rw [List.drop_eq_getElem_cons hip, hsti]
      rw [hdrop] at hle
      refine ⟨Tt, _, rfl, SqT.of upd_same, rfl, _, _, rfl, _, _, rfl, rfl, ?_⟩
      have k2 : Keeps [n, d] H (upd H1 Tt (.tup [.int (i : Nat), .ref r])) := k.new hT
      have hS2 := es _ _ hS1
      have hus2 := hus1.same es
      have hn2 : NamesAt _ n v.vals := es _ _ hn1
      have hd2 := hd1.same es
      have hr2 := es _ _ hr1
      generalize upd H1 Tt (.tup [.int (i : Nat), .ref r]) = H2 at k2 hS2 hus2 hn2 hd2 hr2 ⊢
      refine ⟨_, rfl, r, _, 0, _, rfl, rfl, SqT.of hr2, atI_nat (j := 0) rfl, rfl, _, rfl, ?_⟩
      rw [dInt, kS9]
      cases hnw : isNew st with
      | true =>
        refine if_true_of rfl ?_
        obtain ⟨x, rfl⟩ : ∃ x, st = .new x := by
          cases st <;> first | exact ⟨_, rfl⟩ | cases hnw
        refine ⟨_, rfl, _, rfl, _, rfl, n, d, v.vals, v.heap, rfl, hn2, by omega, hd2, fun H3 e3 => ?_⟩
        refine ⟨_, rfl, _, rfl, r, n, d, x, _, v.vals, v.heap, rfl, e3 _ _ hr2, e3 _ _ hn2, hd2.same e3, by omega, hok.1, fun H4 k4 hn4 hd4 => ?_⟩
        have k5 : Keeps [n, d] H2 H4 := (Keeps.of e3).trans k4
        obtain ⟨us4, y1, y2⟩ := StepsAt.keep ⟨us, hS2, hus2⟩ k5 hSn hn2 hd2
        have y1' := k5 _ _ hS2 (by
          obtain ⟨l, hl, _⟩ := hd2
          have : S ≠ d := ne_of hS2 hl (by intro z; cases z)
          simp [hSn, this])
        refine ⟨⟨v.vals.set x (Sm11.free_ v), Sm11.put (Sm11.free_ v) 0 v.heap⟩, _, _, rfl, k2.trans k5, y1', k5.tris (no_tup hn2 hd2) hus2, hn4, hd4, by simp [hvl], ?_, hle⟩
        have := put_len (Sm11.free_ v) 0 v.heap
        show (Sm11.put (Sm11.free_ v) 0 v.heap).length ≤ _
        omega
      | false =>
        refine if_false_of rfl ?_
        rw [lastEnd, after_free v _ 0 hnw] at hle
        refine ⟨_, rfl, _, rfl, _, rfl, r, n, d, st, v.vals, v.heap, rfl, hr2, hnw, hn2, hd2, by omega, hok, fun hf => ?_, fun v2 hf H4 k5 hn4 hd4 => ?_⟩
        · refine ⟨_, rfl, if_true_of rfl ⟨_, rfl, ?_⟩⟩
          rw [show Sm11.after v 0 st = none from hf] at hle
          exact q1 i hle H2 k2
        · refine ⟨_, rfl, if_false_of rfl ?_⟩
          rw [show Sm11.after v 0 st = some v2 from hf] at hle
          have y1' := k5 _ _ hS2 (by
            obtain ⟨l, hl, _⟩ := hd2
            have : S ≠ d := ne_of hS2 hl (by intro z; cases z)
            simp [hSn, this])
          have := after_len hf
          have := after_vals hf
          have e3 : v2.heap.length ≤ h.length + (i + 1) := by
            have : v2.heap.length ≤ v.heap.length + 1 := after_len hf
            omega
          have e4 : v2.vals.length = vals.length := by
            have : v2.vals.length = v.vals.length := after_vals hf
            omega
          exact ⟨v2, _, _, rfl, k2.trans k5, y1', k5.tris (no_tup hn2 hd2) hus2, hn4, hd4, e4, e3, hle⟩
    · rintro σ H1 ⟨v, o3, o4, rfl, k, hS1, hus1, hn1, hd1, hvl, hhl, hle⟩
      rw [hul, List.drop_length] at hle
      refine ⟨_, rfl, S, us, rfl, .inl (SqL.of hS1), ?_⟩
      rw [hul]
      exact q2 v hle H1 k hn1 hd1
end Ph
namespace Ph
open PySem PySem.Spec PyProof.Rows L2
variable {P : Program} {w : World} {K : PySem.W.Frag} {mg : Str → Option Value} {base : Heap}
theorem StepsAt.same' {H H' : Hp} {t : Addr} {l : List Sm11.Step} (s : StepsAt H t l) (e : Same H H') : StepsAt H' t l := by
  obtain ⟨us, a, b⟩ := s
  exact ⟨us, e _ _ a, b.same e⟩
/-! ### the first bad run -/
def BadQ (r : Option (List Nat × Nat)) (F : List Addr) (H : Hp) (Q : VK) : Prop := (r = none → ∀ H', Keeps F H H' → Q .non H') ∧ ∀ g j, r = some (g, j) → ∀ (H' : Hp) (q pl : Addr), Keeps F H H' → H' q = some (.tup [.ref pl, .int (j : Nat)]) → H' pl = some (.lst (natV g)) → Q (.ref q) H'
def BehindAt (H : Hp) (bv : V) (b : Option (List Sm11.Fact)) (n : Nat) (nm : Addr) : Prop := (bv = .non ∧ b = none) ∨ ∃ t l, bv = .ref t ∧ b = some l ∧ TellAt H t l ∧ NamesOk l n ∧ t ≠ nm
structure BadIn (H : Hp) (k : Nat) (S n d pl : Addr) (bv : V) (p : List Sm11.Step) (vals : List Nat) (h : List (Nat × Nat)) (got : List Nat) (b : Option (List Sm11.Fact)) : Prop where
  st : StepsAt H S p
  sn : S ≠ n
  nm : NamesAt H n vals
  n0 : 0 < vals.length
  hp : HeapAt H d h
  gt : H pl = some (.lst (natV got))
  pn : pl ≠ n
  bh : BehindAt H bv b vals.length n
  kp : k ≤ p.length
  sz : vals.length + h.length + (p.length - k) ≤ 60
  gz : got.length + (p.length - k) ≤ 100
  pz : p.length ≤ 1000
  ok : StepsOk p vals.length
def sp_from (m : Nat) : Sp := fun vs H Q _ => ∃ (k : Nat) (S n d pl : Addr) (bv : V) (p : List Sm11.Step) (vals : List Nat) (h : List (Nat × Nat)) (got : List Nat) (b : Option (List Sm11.Fact)), vs = [.int k, .ref S, .ref n, .ref d, .ref pl, bv] ∧ BadIn H k S n d pl bv p vals h got b ∧ p.length ≤ k + m ∧
  BadQ (firstBad b p.length k (p.drop k) ⟨vals, h⟩ got) [n, d] H Q
def sp_new (m : Nat) : Sp := fun vs H Q _ => ∃ (k x : Nat) (S n d pl : Addr) (bv : V) (p : List Sm11.Step) (vals : List Nat) (h : List (Nat × Nat)) (got : List Nat) (b : Option (List Sm11.Fact)), vs = [.int k, .ref S, .ref n, .ref d, .ref pl, bv] ∧ BadIn H k S n d pl bv p vals h got b ∧ p[k]? = some (.new x) ∧ p.length ≤ k + 1 + m ∧
  BadQ (firstBad b p.length k (p.drop k) ⟨vals, h⟩ got) [] H Q
theorem Keeps.fresh {F : List Addr} {H H5 H6 : Hp} (e : Same H H5) (k : Keeps F H5 H6) (f : ∀ x ∈ F, H x = none) : Same H H6 := fun b o z => k b o (e b o z) fun q => by
  rw [f b q] at z
  cases z
theorem Keeps.nil {H H' : Hp} (k : Keeps [] H H') : Same H H' := fun b o z => k b o z (by simp)
theorem BehindAt.same {H H' : Hp} (e : Same H H') {bv : V} {b : Option (List Sm11.Fact)} {n : Nat} {nm : Addr} : BehindAt H bv b n nm → BehindAt H' bv b n nm
  | .inl h => .inl h
  | .inr ⟨t, l, a, b, c, d⟩ => .inr ⟨t, l, a, b, c.same e, d⟩
def fnW (S n d pl : Addr) (bv : V) (k L : Nat) (tot : Option (List Nat × Nat)) (places : List Nat) (f : Nat → Option (List Nat × Nat)) (H : Hp) (i : Nat) (σ : L2.St) (H1 : Hp) : Prop := (∃ o6 o7 o8 o9, σ = [some (.int k), some (.ref S), some (.ref n), some (.ref d), some (.ref pl), some bv, o6, o7, o8, o9]) ∧ Same H H1 ∧ H1 L = some (.lst (natV places)) ∧ tot = (places.drop i).findSome? f
theorem ok_new (T : Top K mg) (m : Nat) (G_first_bad_from : FnOk P w K mg base CX0 (2 * m + 4) T.f_first_bad_from T.fd_first_bad_from ["first", "steps", "names", "heap", "places", "behind"] (sp_from m)) :
    FnOk P w K mg base CX0 (2 * m + 5) T.f_first_bad_new T.fd_first_bad_new ["at", "steps", "names", "heap", "places", "behind"] (sp_new m) := by
  have G_new_places : FnOk P w K mg base CX0 2 T.f_new_places T.fd_new_places ["names", "heap"] sp_new_places := ok_new_places T
  have G_do_new : FnOk P w K mg base CX0 1 T.f_do_new T.fd_do_new ["step", "place", "names", "heap"] sp_do_new := ok_do_new T
  refine T.F_first_bad_new.ok sc_first_bad_new (fun vs H Q E h => ?_) (fun cdv A outer s H vs Q E hr h => ?_)
  · obtain ⟨_, _, _, _, _, _, _, _, _, _, _, _, rfl, _⟩ := h
    rfl
  · obtain ⟨k, x, S, n, d, pl, bv, p, vals, h, got, b, rfl, I, hk, hm, q1, q2⟩ := h
    refine ⟨_, (pss_cons (ps_for PassesOwn.never rfl (pi_list (pe_call G_new_places (hr.mono (by omega)) (by rfl) T.g_new_places T.F_new_places.kp T.b_new_places .nil pass0 (pa_cons (pv 2) (pa_cons (pv 3) pa_nil)))) (pg_name (i := 6) sc_first_bad_new.nd rfl (Or.inl rfl))
          (pss_cons (ps_set (i := 7) sc_first_bad_new.nd rfl (Or.inl rfl) (pe_callTy call_list_of (by rfl) T.n_list (by decide +kernel) (pa_cons (pv 2) pa_nil)))
          (pss_cons (ps_set (i := 8) sc_first_bad_new.nd rfl (Or.inl rfl) (pe_callTy call_dictD (by rfl) T.n_dict (by decide +kernel) (pa_cons (pv 3) pa_nil)))
          (pss_cons (ps_expr (pe_call G_do_new (hr.mono (by omega)) (by rfl) T.g_do_new T.F_do_new.kp T.b_do_new .nil pass0 (pa_cons (pe_ix (r := rIxL K) ix_list (pv 1) (pv 0) (fun _ _ => rfl)) (pa_cons (pv 6) (pa_cons (pv 7) (pa_cons (pv 8) pa_nil))))))
          (pss_cons (ps_set (i := 9) sc_first_bad_new.nd rfl (Or.inl rfl) (pe_call G_first_bad_from (hr.mono (by omega)) (by rfl) T.g_first_bad_from T.F_first_bad_from.kp T.b_first_bad_from .nil pass0 (pa_cons (pe_op op_add (pv 0) pe_int) (pa_cons (pv 1) (pa_cons (pv 7) (pa_cons (pv 8) (pa_cons (pe_op op_cat (pv 4) (pe_lst (pa_cons (pv 6) pa_nil))) (pa_cons (pv 5) pa_nil))))))))
          (pss_one (ps_if (pt_cmpR op_notN (pv 9) pe_non (nomark _))
            (pss_one (ps_ret (pv 9)))
            pss_nil)))))))
        (pss_one (ps_ret pe_non))), ?_⟩
    obtain ⟨us, hS, hus⟩ := id I.st
    have hkp : k < p.length := (List.getElem?_eq_some_iff.mp hk).1
    have hsz := I.sz
    have hgz := I.gz
    have hxok : x < vals.length := (I.ok _ (List.mem_of_getElem? hk)).1
    have htot : firstBad b p.length k (p.drop k) ⟨vals, h⟩ got = (Sm11.loose ⟨vals, h⟩ ++ [Sm11.free_ ⟨vals, h⟩]).findSome? fun c => firstBad b p.length (k + 1) (p.drop (k + 1)) ⟨vals.set x c, Sm11.put c 0 h⟩ (got ++ [c]) := by
      rw [List.drop_eq_getElem_cons hkp, (List.getElem?_eq_some_iff.mp hk).2, firstBad_new]
    refine ⟨_, rfl, _, rfl, n, d, vals, h, rfl, I.nm, I.n0, I.hp, by omega, fun H1 L e1 hL0 hL => ?_⟩
    refine ⟨L, rfl, ⟨_, SqL.of hL⟩, for_list (xs := natV (Sm11.loose ⟨vals, h⟩ ++ [Sm11.free_ ⟨vals, h⟩])) (fnW S n d pl bv k L (firstBad b p.length k (p.drop k) ⟨vals, h⟩ got) (Sm11.loose ⟨vals, h⟩ ++ [Sm11.free_ ⟨vals, h⟩]) (fun c => firstBad b p.length (k + 1) (p.drop (k + 1)) ⟨vals.set x c, Sm11.put c 0 h⟩ (got ++ [c])) H) ?_ ?_ ?_ ?_⟩
    · exact ⟨⟨_, _, _, _, rfl⟩, e1, hL, htot⟩
    · rintro i σ H2 _ ⟨_, _, hL2, _⟩
      exact SqL.of hL2
    · rintro i y σ H2 hi ⟨⟨o6, o7, o8, o9, rfl⟩, e2, hL2, ht⟩
      generalize (Sm11.loose ⟨vals, h⟩ ++ [Sm11.free_ ⟨vals, h⟩]) = places at hi hL2 ht ⊢
      have hip : i < places.length := by
        have := (List.getElem?_eq_some_iff.mp hi).1
        rwa [natV_len] at this
      rw [natV_at hip] at hi
      obtain rfl := Option.some.inj hi
      have hdr : places.drop i = places.getD i 0 :: places.drop (i + 1) := by
        rw [List.drop_eq_getElem_cons hip, List.getD_eq_getElem?_getD, List.getElem?_eq_getElem hip]
        rfl
      generalize places.getD i 0 = c at hdr ⊢
      rw [hdr, List.findSome?_cons] at ht
      -- names_then = list(names)
      refine ⟨_, rfl, n, _, rfl, .inl (SqL.of (e2 _ _ I.nm)), fun n2 hn2 => ?_⟩
      have e3 := e2.trans (same_upd (o := .lst (natV vals)) hn2)
      have fn2 : H n2 = none := e2.free hn2
      have hL3 : (upd H2 n2 (.lst (natV vals))) L = _ := same_upd hn2 _ _ hL2
      have nm3 : NamesAt (upd H2 n2 (.lst (natV vals))) n2 vals := upd_same
      generalize upd H2 n2 (.lst (natV vals)) = H3 at e3 hL3 nm3 ⊢
      -- heap_then = dict(heap)
      obtain ⟨l, hl, lk, asc⟩ := I.hp.same e3
      refine ⟨_, rfl, d, _, rfl, .inl hl, fun d2 hd2 => ?_⟩
      have es4 := same_upd (o := .dK (l.map encC)) hd2
      have e4 := e3.trans es4
      have fd2 : H d2 = none := e3.free hd2
      have nm4 : NamesAt (upd H3 d2 (.dK (l.map encC))) n2 vals := es4 _ _ nm3
      have hp4 : HeapAt (upd H3 d2 (.dK (l.map encC))) d2 h := ⟨l, upd_same, lk, asc⟩
      have hL4 := es4 _ _ hL3
      have nd2 : n2 ≠ d2 := ne_of_none nm3 hd2
      generalize upd H3 d2 (.dK (l.map encC)) = H4 at e4 nm4 hp4 hL4 ⊢
      -- do_new
      obtain ⟨us4, hS4, hus4⟩ := I.st.same' e4
      obtain ⟨v4, hv4⟩ : ∃ v4, us4[k]? = some v4 := ⟨us4[k]'(by rw [hus4.length, List.length_map]; exact hkp), List.getElem?_eq_getElem _⟩
      obtain ⟨st, r, hst, rfl, hr4⟩ := StepsAt.at (S := S) hus4 hv4
      rw [hk] at hst
      obtain rfl := Option.some.inj hst
      refine ⟨_, rfl, _, rfl, S, us4, _, _, rfl, rfl, SqL.of hS4, atI_nat hv4, _, rfl, _, rfl, _, rfl, r, n2, d2, x, c, vals, h, rfl, hr4, nm4, hp4, by omega, hxok, fun H5 k5 nm5 hp5 => ?_⟩
      have e5 : Same H H5 := k5.fresh e4 (by
        intro z hz
        simp only [List.mem_cons, List.not_mem_nil, or_false] at hz
        rcases hz with q | q
        · rw [q]; exact fn2
        · rw [q]; exact fd2)
      have hL5 : H5 L = some (.lst (natV places)) := k5 _ _ hL4 (by
        obtain ⟨l4, hl4, _⟩ := hp4
        have a1 : L ≠ d2 := ne_of hL4 hl4 (by intro z; cases z)
        have a2 : L ≠ n2 := ne_of_none hL2 hn2
        simp [a1, a2])
      -- places + [place]
      refine ⟨_, rfl, _, _, rfl, rfl, _, rfl, _, rfl, _, rfl, _, rfl, _, rfl, (by show 1 ≤ sizeLine; decide), fun g1 hg1 => ?_⟩
      have es6 := same_upd (o := .lst [.int c]) hg1
      have e6 := e5.trans es6
      refine ⟨pl, g1, _, _, rfl, rfl, e6 _ _ I.gt, upd_same, by rw [natV_len]; exact Nat.le_trans (by show _ + 1 ≤ 1000; omega) (by decide), fun g2 hg2 => ?_⟩
      have es7 := es6.trans (same_upd (o := .lst (natV got ++ [.int c])) hg2)
      have e7 := e5.trans es7
      have pl7 : (upd (upd H5 g1 (.lst [.int c])) g2 (.lst (natV got ++ [.int c]))) g2 = some (.lst (natV (got ++ [c]))) := by
        rw [upd_same, natV_append]
        rfl
      have n2g : n2 ≠ g2 := ne_of_none (es6 _ _ nm5) hg2
      have nm7 : NamesAt (upd (upd H5 g1 (.lst [.int c])) g2 (.lst (natV got ++ [.int c]))) n2 (vals.set x c) := es7 _ _ nm5
      have hp7 := hp5.same es7
      have hL7 := es7 _ _ hL5
      generalize upd (upd H5 g1 (.lst [.int c])) g2 (.lst (natV got ++ [.int c])) = H7 at es7 e7 pl7 nm7 hp7 hL7 ⊢
      have hbh : BehindAt H7 bv b (vals.set x c).length n2 := by
        rw [List.length_set]
        rcases I.bh.same e7 with z | ⟨t, l', a1, a2, a3, a4, a5⟩
        · exact .inl z
        · refine .inr ⟨t, l', a1, a2, a3, a4, ?_⟩
          rcases I.bh with ⟨z, _⟩ | ⟨t', l'', b1, b2, ⟨us0, b3, _⟩, _⟩
          · rw [a1] at z
            cases z
          · rw [a1] at b1
            cases b1
            exact ne_of_none b3 fn2
      have hpl := put_len c 0 h
      have fr : ∀ z ∈ [n2, d2], H z = none := by
        intro z hz
        simp only [List.mem_cons, List.not_mem_nil, or_false] at hz
        rcases hz with q | q
        · rw [q]; exact fn2
        · rw [q]; exact fd2
      have B : BadIn H7 (k + 1) S n2 d2 g2 bv p (vals.set x c) (Sm11.put c 0 h) (got ++ [c]) b := by
        refine ⟨I.st.same' e7, ne_of_none hS fn2, nm7, by rw [List.length_set]; exact I.n0, hp7, pl7, n2g.symm, hbh, hkp, by rw [List.length_set]; omega, by simp only [List.length_append, List.length_cons, List.length_nil]; omega, I.pz, by rw [List.length_set]; exact I.ok⟩
      refine ⟨_, rfl, k + 1, S, n2, d2, g2, bv, p, vals.set x c, Sm11.put c 0 h, got ++ [c], b, rfl, B, by omega, fun hr1 H8 k8 => ?_, fun g j hr1 H8 q8 pl8 k8 hq hpl8 => ?_⟩
      · refine ⟨_, rfl, rfl, _, rfl, if_false_of rfl ⟨⟨_, _, _, _, rfl⟩, k8.fresh e7 fr, ?_, ?_⟩⟩
        · refine k8 _ _ hL7 ?_
          have a2 : L ≠ n2 := ne_of_none hL2 hn2
          have a1 : L ≠ d2 := ne_of_none hL3 hd2
          simp [a1, a2]
        · rw [ht, hr1]
      · refine ⟨_, rfl, rfl, _, rfl, if_true_of rfl ⟨_, rfl, ?_⟩⟩
        rw [hr1] at ht
        exact q2 g j ht H8 q8 pl8 (Keeps.of (k8.fresh e7 fr)) hq hpl8
    · rintro σ H2 ⟨⟨o6, o7, o8, o9, rfl⟩, e2, hL2, ht⟩
      rw [natV_len, List.drop_length] at ht
      exact q1 ht H2 (Keeps.of e2)
/-! ### from a step on -/
def sp_no : Sp := fun _ _ _ _ => False
theorem ok_no_new (T : Top K mg) : FnOk P w K mg base CX0 1 T.f_first_bad_new T.fd_first_bad_new ["at", "steps", "names", "heap", "places", "behind"] sp_no := by
  exact T.F_first_bad_new.ok sc_first_bad_new (fun vs H Q E h => h.elim) (fun cdv A outer s H vs Q E hr h => h.elim)
def ffW (S n d pl : Addr) (bv : V) (k : Nat) (p : List Sm11.Step) (us : List V) (vals : List Nat) (h : List (Nat × Nat)) (got : List Nat) (b : Option (List Sm11.Fact)) (H : Hp) (i : Nat) (σ : L2.St) (H1 : Hp) : Prop := ∃ (v : Sm11.World) (o6 : Option V), σ = [some (.int k), some (.ref S), some (.ref n), some (.ref d), some (.ref pl), some bv, o6] ∧ Keeps [n, d] H H1 ∧
  NamesAt H1 n v.vals ∧ HeapAt H1 d v.heap ∧ v.vals.length = vals.length ∧ v.heap.length ≤ h.length + i ∧ firstBad b p.length k (p.drop k) ⟨vals, h⟩ got = firstBad b p.length (k + i) (p.drop (k + i)) v got
theorem ok_from_by (T : Top K mg) (m lv : Nat) {sp : Sp} (hlv : lv ≤ 2 * m + 3) (G_first_bad_new : FnOk P w K mg base CX0 lv T.f_first_bad_new T.fd_first_bad_new ["at", "steps", "names", "heap", "places", "behind"] sp)
    (hsp : ∀ (m' : Nat) vs H Q E, m = m' + 1 → sp_new m' vs H Q E → sp vs H Q E) :
    FnOk P w K mg base CX0 (2 * m + 4) T.f_first_bad_from T.fd_first_bad_from ["first", "steps", "names", "heap", "places", "behind"] (sp_from m) := by
  have G_do_step : FnOk P w K mg base CX0 1 T.f_do_step T.fd_do_step ["step", "names", "heap"] sp_do_step := ok_do_step T
  have G_is_so : FnOk P w K mg base CX0 3 T.f_is_so T.fd_is_so ["telling", "names", "heap"] sp_is_so := ok_is_so T
  refine T.F_first_bad_from.ok sc_first_bad_from (fun vs H Q E h => ?_) (fun cdv A outer s H vs Q E hr h => ?_)
  · obtain ⟨_, _, _, _, _, _, _, _, _, _, _, rfl, _⟩ := h
    rfl
  · obtain ⟨k, S, n, d, pl, bv, p, vals, h, got, b, rfl, I, hm, q1, q2⟩ := h
    refine ⟨_, (pss_cons (ps_for PassesOwn.never rfl (pi_range2 (by rfl) T.n_range (pa_cons (pv 0) (pa_cons (pe_callB call_len_seq (by rfl) T.n_len PySem.boot_len (pa_cons (pv 1) pa_nil)) pa_nil))) (pg_name (i := 6) sc_first_bad_from.nd rfl (Or.inl rfl))
          (pss_cons (ps_if (pt_cmpR op_eq (pe_ix (r := rIxT K) ix_tup (pe_ix (r := rIxL K) ix_list (pv 1) (pv 6) (fun _ _ => rfl)) pe_int (fun _ _ => rfl)) (pe_glob (v := .int (9)) rfl T.g_NEW ⟨_, rfl⟩) (nomark _))
            (pss_one (ps_ret (pe_call G_first_bad_new (hr.mono (by omega)) (by rfl) T.g_first_bad_new T.F_first_bad_new.kp T.b_first_bad_new .nil pass0 (pa_cons (pv 6) (pa_cons (pv 1) (pa_cons (pv 2) (pa_cons (pv 3) (pa_cons (pv 4) (pa_cons (pv 5) pa_nil)))))))))
            pss_nil)
          (pss_one (ps_if (pt_not (pt_val (pe_call G_do_step (hr.mono (by omega)) (by rfl) T.g_do_step T.F_do_step.kp T.b_do_step .nil pass0 (pa_cons (pe_ix (r := rIxL K) ix_list (pv 1) (pv 6) (fun _ _ => rfl)) (pa_cons (pv 2) (pa_cons (pv 3) pa_nil))))))
            (pss_one (ps_ret (pe_tup (pa_cons (pv 4) (pa_cons (pv 6) pa_nil)))))
            pss_nil))))
        (pss_cons (ps_if (PW.pt (pw_or (pt_cmpR op_isN (pv 5) pe_non (nomark _)) (pw_or1 (pt_val (pe_call G_is_so (hr.mono (by omega)) (by rfl) T.g_is_so T.F_is_so.kp T.b_is_so .nil pass0 (pa_cons (pv 5) (pa_cons (pv 2) (pa_cons (pv 3) pa_nil))))))))
          (pss_one (ps_ret pe_non))
          pss_nil)
        (pss_one (ps_ret (pe_tup (pa_cons (pv 4) (pa_cons (pe_callB call_len_seq (by rfl) T.n_len PySem.boot_len (pa_cons (pv 1) pa_nil)) pa_nil))))))), ?_⟩
    obtain ⟨us, hS, hus⟩ := id I.st
    have hul : us.length = p.length := by rw [hus.length, List.length_map]
    have hsz := I.sz
    have hgz := I.gz
    have hpz := I.pz
    have hkp := I.kp
    obtain ⟨l0, hl0, _⟩ := id I.hp
    have hSd : S ≠ d := ne_of hS hl0 (by intro z; cases z)
    have hpd : pl ≠ d := ne_of I.gt hl0 (by intro z; cases z)
    refine ⟨_, rfl, _, rfl, S, us, rfl, .inl (SqL.of hS), (k : Int), (us.length : Int), rfl, ⟨by omega, by omega, by omega, by omega⟩, ?_⟩
    rw [show ((us.length : Int) - (k : Int)).toNat = p.length - k by omega]
    refine for_range (lo := (k : Int)) (n := p.length - k) (ffW S n d pl bv k p us vals h got b H) ?_ ?_ ?_
    · exact ⟨⟨vals, h⟩, _, rfl, Keeps.refl, I.nm, I.hp, rfl, Nat.le_refl _, rfl⟩
    · rintro i σ H1 hi ⟨v, o6, rfl, kp, nm1, hp1, vl, hl, ht⟩
      have hS1 := kp _ _ hS (by simp [I.sn, hSd])
      have hus1 := kp.tris (no_tup I.nm I.hp) hus
      have hi2 : k + i < p.length := by omega
      obtain ⟨v1, hv1⟩ : ∃ v1, us[k + i]? = some v1 := ⟨us[k + i]'(by omega), List.getElem?_eq_getElem _⟩
      obtain ⟨st, r, hst, rfl, hr1⟩ := StepsAt.at (S := S) hus1 hv1
      have hdr : p.drop (k + i) = st :: p.drop (k + i + 1) := by
        rw [List.drop_eq_getElem_cons hi2, (List.getElem?_eq_some_iff.mp hst).2]
      have hok : StepOk v.vals.length st := by
        rw [vl]
        exact I.ok st (List.mem_of_getElem? hst)
      rw [show ((k : Int) + (i : Int)) = ((k + i : Nat) : Int) by omega]
      refine ⟨_, rfl, _, rfl, S, us, _, _, rfl, rfl, SqL.of hS1, atI_nat hv1, r, _, 0, _, rfl, rfl, SqT.of hr1, atI_nat (j := 0) rfl, rfl, _, rfl, ?_⟩
      rw [dInt, kS9]
      have hbh1 : BehindAt H1 bv b v.vals.length n := by
        rw [vl]
        rcases I.bh with z | ⟨t, l', a1, a2, a3, a4, a5⟩
        · exact .inl z
        · exact .inr ⟨t, l', a1, a2, a3.keep kp a5 I.nm I.hp, a4, a5⟩
      have pl1 := kp _ _ I.gt (by simp [I.pn, hpd])
      cases hnw : isNew st with
      | true =>
        refine if_true_of rfl ?_
        obtain ⟨x, rfl⟩ : ∃ x, st = .new x := by
          cases st <;> first | exact ⟨_, rfl⟩ | cases hnw
        obtain ⟨m', rfl⟩ : ∃ m', m = m' + 1 := ⟨m - 1, by omega⟩
        refine ⟨_, rfl, _, rfl, _, rfl, _, rfl, _, rfl, _, rfl, hsp m' _ _ _ _ rfl ?_⟩
        refine ⟨k + i, x, S, n, d, pl, bv, p, v.vals, v.heap, got, b, rfl, ⟨⟨us, hS1, hus1⟩, I.sn, nm1, by rw [vl]; exact I.n0, hp1, pl1, I.pn, hbh1, by omega, by omega, by omega, hpz, by rw [vl]; exact I.ok⟩, hst, by omega, fun z H2 k2 => ?_, fun g j z H2 q2' pl2 k2 y1 y2 => ?_⟩
        · exact q1 (ht.trans z) H2 (kp.trans (Keeps.of k2.nil))
        · exact q2 g j (ht.trans z) H2 q2' pl2 (kp.trans (Keeps.of k2.nil)) y1 y2
      | false =>
        refine if_false_of rfl ?_
        rw [hdr, firstBad_old hnw] at ht
        refine ⟨_, rfl, _, rfl, S, us, _, _, rfl, rfl, SqL.of hS1, atI_nat hv1, _, rfl, _, rfl, r, n, d, st, v.vals, v.heap, rfl, hr1, hnw, nm1, hp1, by omega, hok, fun hf => ?_, fun v2 hf H2 k2 nm2 hp2 => ?_⟩
        · rw [show Sm11.after v 0 st = none from hf] at ht
          refine ⟨_, rfl, if_true_of rfl ⟨_, rfl, _, rfl, (by show 2 ≤ sizeLine; decide), fun t ht0 => ?_⟩⟩
          exact q2 got (k + i) ht _ t pl (kp.new ht0) upd_same (same_upd ht0 _ _ pl1)
        · rw [show Sm11.after v 0 st = some v2 from hf] at ht
          have e3 : v2.heap.length ≤ v.heap.length + 1 := after_len hf
          have e4 : v2.vals.length = v.vals.length := after_vals hf
          exact ⟨_, rfl, if_false_of rfl ⟨v2, _, rfl, kp.trans k2, nm2, hp2, by omega, by omega, ht⟩⟩
    · rintro σ H1 ⟨v, o6, rfl, kp, nm1, hp1, vl, hl, ht⟩
      rw [show k + (p.length - k) = p.length by omega, List.drop_length, firstBad_nil] at ht
      have hS1 := kp _ _ hS (by simp [I.sn, hSd])
      have pl1 := kp _ _ I.gt (by simp [I.pn, hpd])
      have bad : ∀ H2, Same H1 H2 → firstBad b p.length k (p.drop k) ⟨vals, h⟩ got = some (got, p.length) → tRet (tTup (tCons (tVar 4) (tCons (tCB (fun xs H Q => ∃ (p : Addr) (ys : List V), xs = [.ref p] ∧ (SqL K H p ys ∨ SqT K H p ys) ∧ Q (.int ys.length) H) (tCons (tVar 1) tNil)) tNil))) { nx := fun _ H' => Q .non H', rt := Q } [some (.int k), some (.ref S), some (.ref n), some (.ref d), some (.ref pl), some bv, o6] H2 := by
        intro H2 e2 z
        refine ⟨_, rfl, _, rfl, S, us, rfl, .inl (SqL.of (e2 _ _ hS1)), (by show 2 ≤ sizeLine; decide), fun t ht0 => ?_⟩
        rw [hul]
        exact q2 got p.length z _ t pl ((kp.trans (Keeps.of e2)).new ht0) upd_same (same_upd ht0 _ _ (e2 _ _ pl1))
      rcases I.bh with ⟨rfl, rfl⟩ | ⟨t, l', rfl, rfl, a3, a4, a5⟩
      · refine ⟨_, rfl, rfl, _, rfl, if_true_of rfl ?_⟩
        exact q1 ht H1 kp
      · refine ⟨_, rfl, rfl, _, rfl, if_false_of rfl ?_⟩
        refine ⟨_, rfl, _, rfl, _, rfl, t, n, d, l', v.vals, v.heap, rfl, a3.keep kp a5 I.nm I.hp, nm1, hp1, by omega, by rw [vl]; exact a4, fun H2 e2 => ⟨_, rfl, ?_⟩⟩
        cases hso : Sm11.isSo v l' with
        | true =>
          refine if_true_of rfl (q1 ?_ H2 (kp.trans (Keeps.of e2)))
          rw [ht]
          simp [hso]
        | false =>
          refine if_false_of rfl (bad H2 e2 ?_)
          rw [ht]
          simp [hso]
theorem ok_from (T : Top K mg) : ∀ m, FnOk P w K mg base CX0 (2 * m + 4) T.f_first_bad_from T.fd_first_bad_from ["first", "steps", "names", "heap", "places", "behind"] (sp_from m)
  | 0 => ok_from_by T 0 1 (by omega) (ok_no_new T) (fun m' _ _ _ _ z => by cases z)
  | m + 1 => ok_from_by T (m + 1) (2 * m + 5) (by omega) (ok_new T m (ok_from T m)) (fun m' _ _ _ _ z h => by
      cases z
      exact h)
/-! ### first_bad_run -/
def sp_first_bad_run : Sp := fun vs H Q _ => ∃ (S n d : Addr) (bv : V) (p : List Sm11.Step) (vals : List Nat) (h : List (Nat × Nat)) (b : Option (List Sm11.Fact)), vs = [.ref S, .ref n, .ref d, bv] ∧ StepsAt H S p ∧ NamesAt H n vals ∧ 0 < vals.length ∧ HeapAt H d h ∧ ((bv = .non ∧ b = none) ∨ ∃ t l, bv = .ref t ∧ b = some l ∧ TellAt H t l ∧ NamesOk l vals.length) ∧
  p.length ≤ 4 ∧ vals.length + h.length + p.length ≤ 60 ∧ StepsOk p vals.length ∧ BadQ (firstBad b p.length 0 p ⟨vals, h⟩ []) [] H Q
theorem ok_first_bad_run (T : Top K mg) : FnOk P w K mg base CX0 17 T.f_first_bad_run T.fd_first_bad_run ["steps", "names", "heap", "behind"] sp_first_bad_run := by
  have G_first_bad_from : FnOk P w K mg base CX0 12 T.f_first_bad_from T.fd_first_bad_from ["first", "steps", "names", "heap", "places", "behind"] (sp_from 4) := ok_from T 4
  refine T.F_first_bad_run.ok sc_first_bad_run (fun vs H Q E h => ?_) (fun cdv A outer s H vs Q E hr h => ?_)
  · obtain ⟨_, _, _, _, _, _, _, _, rfl, _⟩ := h
    rfl
  · obtain ⟨S, n, d, bv, p, vals, h, b, rfl, ⟨us, hS, hus⟩, nm, n0, hp, hb, p4, sz, ok, q1, q2⟩ := h
    refine ⟨_, (pss_one (ps_ret (pe_call G_first_bad_from (hr.mono (by decide)) (by rfl) T.g_first_bad_from T.F_first_bad_from.kp T.b_first_bad_from .nil pass0 (pa_cons pe_int (pa_cons (pv 0) (pa_cons (pe_callTy call_list_of (by rfl) T.n_list (by decide +kernel) (pa_cons (pv 1) pa_nil)) (pa_cons (pe_callTy call_dictD (by rfl) T.n_dict (by decide +kernel) (pa_cons (pv 2) pa_nil)) (pa_cons (pe_lst pa_nil) (pa_cons (pv 3) pa_nil))))))))), ?_⟩
    refine ⟨_, rfl, _, rfl, n, _, rfl, .inl (SqL.of nm), fun n2 hn2 => ?_⟩
    have e1 := same_upd (o := .lst (natV vals)) hn2
    have nm1 : NamesAt (upd H n2 (.lst (natV vals))) n2 vals := upd_same
    generalize upd H n2 (.lst (natV vals)) = H1 at e1 nm1 ⊢
    obtain ⟨l, hl, lk, asc⟩ := hp.same e1
    refine ⟨_, rfl, d, _, rfl, .inl hl, fun d2 hd2 => ?_⟩
    have es2 := same_upd (o := .dK (l.map encC)) hd2
    have e2 := e1.trans es2
    have hp2 : HeapAt (upd H1 d2 (.dK (l.map encC))) d2 h := ⟨l, upd_same, lk, asc⟩
    have nm2 : NamesAt (upd H1 d2 (.dK (l.map encC))) n2 vals := es2 _ _ nm1
    have fd2 : H d2 = none := e1.free hd2
    generalize upd H1 d2 (.dK (l.map encC)) = H2 at e2 hp2 nm2 ⊢
    refine ⟨Nat.zero_le _, fun g hg => ⟨_, rfl, ?_⟩⟩
    have es3 := same_upd (o := .lst []) hg
    have e3 := e2.trans es3
    have fr : ∀ z ∈ [n2, d2], H z = none := by
      intro z hz
      simp only [List.mem_cons, List.not_mem_nil, or_false] at hz
      rcases hz with q | q
      · rw [q]; exact hn2
      · rw [q]; exact fd2
    refine ⟨0, S, n2, d2, g, bv, p, vals, h, [], b, rfl, ⟨⟨us, e3 _ _ hS, hus.same e3⟩, ne_of_none hS hn2, es3 _ _ nm2, n0, hp2.same es3, upd_same, (ne_of_none nm2 hg).symm, ?_, Nat.zero_le _, by omega, by simp; omega, by omega, ok⟩, by omega, fun z H4 k4 => ?_, fun g' j z H4 q4 pl4 k4 y1 y2 => ?_⟩
    · rcases hb with z | ⟨t, l', a1, a2, a3, a4⟩
      · exact .inl z
      · obtain ⟨us', b1, _⟩ := id a3
        exact .inr ⟨t, l', a1, a2, a3.same e3, a4, ne_of_none b1 hn2⟩
    · exact q1 z H4 (Keeps.of (k4.fresh e3 fr))
    · exact q2 g' j z H4 q4 pl4 (Keeps.of (k4.fresh e3 fr)) y1 y2
end Ph
namespace Ph
open PySem PySem.Spec PyProof.Rows L2
variable {P : Program} {w : World} {K : PySem.W.Frag} {mg : Str → Option Value} {base : Heap}
/-! ### pairs of numbers as they lie -/
def PairAt (H : Hp) (v : V) (c : Nat × Nat) : Prop := ∃ q, v = .ref q ∧ H q = some (.tup [.int (c.1 : Nat), .int (c.2 : Nat)])
abbrev PairsAt (H : Hp) : List V → List (Nat × Nat) → Prop := All2 (PairAt H)
def PairsL (H : Hp) (a : Addr) (l : List (Nat × Nat)) : Prop := ∃ us, H a = some (.lst us) ∧ PairsAt H us l
theorem PairAt.keep {H H' : Hp} (k : ∀ b xs, H b = some (.tup xs) → H' b = some (.tup xs)) {v : V} {c : Nat × Nat} : PairAt H v c → PairAt H' v c := fun ⟨q, a, b⟩ => ⟨q, a, k _ _ b⟩
theorem PairsAt.keep {H H' : Hp} (k : ∀ b xs, H b = some (.tup xs) → H' b = some (.tup xs)) {us : List V} {l : List (Nat × Nat)} (h : PairsAt H us l) : PairsAt H' us l := h.imp fun _ _ => PairAt.keep k
theorem PairsAt.same {H H' : Hp} (e : Same H H') {us : List V} {l : List (Nat × Nat)} (h : PairsAt H us l) : PairsAt H' us l := h.keep fun b xs => e b _
theorem PairsL.same {H H' : Hp} (e : Same H H') {a : Addr} {l : List (Nat × Nat)} : PairsL H a l → PairsL H' a l := fun ⟨us, x, y⟩ => ⟨us, e _ _ x, y.same e⟩
theorem PairsAt.updL {H : Hp} {D : Addr} {acc acc' : List V} (h : H D = some (.lst acc)) {us : List V} {l : List (Nat × Nat)} (p : PairsAt H us l) : PairsAt (upd H D (.lst acc')) us l := p.keep fun b xs z => by
  rw [upd_ne (ne_of z h (by intro y; cases y))]
  exact z
def chainF0 (vals : List Nat) : Sm11.Fact → List (Nat × Nat)
  | .chain x y => [(vals.getD x 0, vals.getD y 0)]
  | _ => []
theorem chains_filter (vals : List Nat) : ∀ l : List Sm11.Fact, chainsT vals l = (l.flatMap (chainF0 vals)).filter fun c => c.1 != c.2
  | [] => rfl
  | f :: l => by
    have ih := chains_filter vals l
    rw [List.flatMap_cons, List.filter_append, ← ih]
    show chainF vals f ++ chainsT vals l = _
    congr 1
    cases f with
    | same x y => rfl
    | differ x y => rfl
    | cell x y => rfl
    | chain x y =>
      show (if vals.getD x 0 = vals.getD y 0 then [] else [(vals.getD x 0, vals.getD y 0)]) = List.filter (fun c => c.1 != c.2) [(vals.getD x 0, vals.getD y 0)]
      by_cases e : vals.getD x 0 = vals.getD y 0
      · rw [if_pos e, List.filter_cons, if_neg (by simp only [e, bne_self_eq_false]; exact Bool.false_ne_true)]
        rfl
      · rw [if_neg e, List.filter_cons, if_pos (bne_iff_ne.mpr e)]
        rfl
theorem flat_len {vals : List Nat} {g : Sm11.Fact → List (Nat × Nat)} (hg : ∀ f, (g f).length ≤ 1) : ∀ l : List Sm11.Fact, (l.flatMap g).length ≤ l.length
  | [] => Nat.le_refl _
  | f :: l => by
    rw [List.flatMap_cons, List.length_append, List.length_cons]
    have := hg f
    have := flat_len (vals := vals) hg l
    omega
theorem same_updL {H H1 : Hp} {D : Addr} {o : HO} (hD : H D = none) (e : Same H H1) : Same H (upd H1 D o) := fun b x z => by
  rw [upd_ne (ne_of_none z hD)]
  exact e _ _ z
theorem facts_at {H : Hp} {us : List V} {l : List Sm11.Fact} (hus : TrisAt H us (l.map encF)) {i : Nat} {x : V} (h : us[i]? = some x) : ∃ f r, l[i]? = some f ∧ x = .ref r ∧ H r = some (.tup [.int (kindF f), .int (xF f), .int (yF f)]) := by
  obtain ⟨tri, ht, r, rfl, hr⟩ := hus.at h
  rw [List.getElem?_map, Option.map_eq_some_iff] at ht
  obtain ⟨f, hf, rfl⟩ := ht
  rw [encF_eq] at hr
  exact ⟨f, r, hf, rfl, hr⟩
theorem take_snoc {α : Type} {l : List α} {i : Nat} {f : α} (h : l[i]? = some f) : l.take (i + 1) = l.take i ++ [f] := by
  rw [List.take_add_one, h]
  rfl
/-- what a comprehension over a telling's facts of one kind gives -/
theorem kind3 (f : Sm11.Fact) : decide (kindF f = 3) = match f with
    | .cell _ _ => true
    | _ => false := by cases f <;> rfl
def sp_told (g : List Nat → List Sm11.Fact → List (Nat × Nat)) : Sp := fun vs H Q _ => ∃ (t n : Addr) (l : List Sm11.Fact) (vals : List Nat), vs = [.ref t, .ref n] ∧ TellAt H t l ∧ NamesAt H n vals ∧ NamesOk l vals.length ∧ l.length ≤ 1000 ∧
  ∀ H' p, Same H H' → H p = none → PairsL H' p (g vals l) → Q (.ref p) H'
theorem cellF_not {vals : List Nat} {f : Sm11.Fact} (h : ¬ kindF f = 3) : cellF vals f = [] := by
  cases f <;> first | rfl | exact absurd rfl h
theorem cellF_is {vals : List Nat} {f : Sm11.Fact} (h : kindF f = 3) : cellF vals f = [(vals.getD (xF f) 0, vals.getD (yF f) 0)] := by
  cases f <;> first | rfl | cases h
theorem chainF0_not {vals : List Nat} {f : Sm11.Fact} (h : ¬ kindF f = 4) : chainF0 vals f = [] := by
  cases f <;> first | rfl | exact absurd rfl h
theorem chainF0_is {vals : List Nat} {f : Sm11.Fact} (h : kindF f = 4) : chainF0 vals f = [(vals.getD (xF f) 0, vals.getD (yF f) 0)] := by
  cases f <;> first | rfl | cases h
theorem ok_cells_told (T : Top K mg) : FnOk P w K mg base CX0 1 T.f_cells_told T.fd_cells_told ["telling", "names"] (sp_told cellsT) := by
  refine T.F_cells_told.ok sc_cells_told (fun vs H Q E h => ?_) (fun cdv A outer s H vs Q E hr h => ?_)
  · obtain ⟨_, _, _, _, rfl, _⟩ := h
    rfl
  · obtain ⟨t, n, l, vals, rfl, ⟨us, ht, hus⟩, hn, ok, hz, q⟩ := h
    refine ⟨_, (pss_one (ps_ret (pe_lc (own := [("kind", 2), ("x", 3), ("y", 4)]) (g := gTup K 3 (gCons (gName 2) (gCons (gName 3) (gCons (gName 4) gNil)))) rfl sc_cells_told.nd (pi_list (pv 0)) (blkOk_by (own := [("kind", 2), ("x", 3), ("y", 4)]) (N := ["telling", "names", "kind", "x", "y"]) (sc := defScope s_cells_told) (by decide +kernel)) (fun _ _ _ _ _ => (pg_tup rfl (pgs_cons (pg_name (i := 2) sc_cells_told.nd rfl (Or.inl rfl)) (pgs_cons (pg_name (i := 3) sc_cells_told.nd rfl (Or.inl rfl)) (pgs_cons (pg_name (i := 4) sc_cells_told.nd rfl (Or.inl rfl)) pgs_nil))))) (fun _ _ _ _ _ => (pts_one (pt_cmpR op_eq (pv 2) (pe_glob (v := .int (3)) rfl T.g_CELL ⟨_, rfl⟩) (nomark _)))) (fun _ _ _ _ _ => (pe_tup (pa_cons (pe_ix (r := rIxL K) ix_list (pv 1) (pv 3) (fun _ _ => rfl)) (pa_cons (pe_ix (r := rIxL K) ix_list (pv 1) (pv 4) (fun _ _ => rfl)) pa_nil))))))), ?_⟩
    refine ⟨_, rfl, t, rfl, ⟨_, SqL.of ht⟩, fun D hD => lc_list (K := K) (a := t) (xs := us) (fun i H' => Same H H' ∧ ∃ acc, H' D = some (.lst acc) ∧ PairsAt H' acc (cellsT vals (l.take i))) ?_ ?_ ?_ ?_⟩
    · exact ⟨same_upd hD, [], upd_same, .nil⟩
    · exact fun i H' _ z => SqL.of (z.1 _ _ ht)
    · rintro i x H' hi ⟨e, acc, hA, hp⟩
      obtain ⟨f, r, hf, rfl, hr0⟩ := facts_at hus hi
      obtain ⟨okx, oky⟩ := ok f (List.mem_of_getElem? hf)
      have hlen : acc.length ≤ 1000 := by
        rw [hp.length]
        refine Nat.le_trans (flat_len (vals := vals) (fun f => by cases f <;> simp [cellF]) _) (Nat.le_trans (List.length_take_le' _ _) hz)
      refine ⟨r, _, rfl, SqT.of (e _ _ hr0), rfl, _, _, rfl, _, _, rfl, _, _, rfl, rfl, rfl, _, rfl, rfl, _, rfl, ?_⟩
      rw [dInt, take_snoc hf]
      have ec : cellsT vals (l.take i ++ [f]) = cellsT vals (l.take i) ++ cellF vals f := by simp [cellsT]
      rw [ec]
      by_cases h3 : kindF f = 3
      · refine if_true_of (decide_eq_true h3) ⟨_, rfl, _, rfl, n, _, _, .int (vals.getD (xF f) 0 : Nat), rfl, rfl, SqL.of (e _ _ hn), atI_nat (natV_at okx), _, rfl, _, rfl, n, _, _, .int (vals.getD (yF f) 0 : Nat), rfl, rfl, SqL.of (e _ _ hn), atI_nat (natV_at oky), (by show 2 ≤ sizeLine; decide), fun q2 hq2 => ?_⟩
        have es := same_upd (o := .tup [.int (vals.getD (xF f) 0 : Nat), .int (vals.getD (yF f) 0 : Nat)]) hq2
        have hA2 := es _ _ hA
        refine ⟨acc, hA2, small1000 hlen, same_updL hD (e.trans es), _, upd_same, ?_⟩
        rw [cellF_is h3]
        exact PairsAt.updL hA2 (All2.snoc (PairsAt.same es hp) (b := (vals.getD (xF f) 0, vals.getD (yF f) 0)) ⟨q2, rfl, upd_same⟩)
      · refine if_false_of (decide_eq_false h3) ⟨e, acc, hA, ?_⟩
        rw [cellF_not h3, List.append_nil]
        exact hp
    · rintro H' ⟨e, acc, hA, hp⟩
      rw [hus.length, List.length_map, List.take_length] at hp
      exact q H' D e hD ⟨acc, hA, hp⟩
theorem ok_chains_told (T : Top K mg) : FnOk P w K mg base CX0 1 T.f_chains_told T.fd_chains_told ["telling", "names"] (sp_told chainsT) := by
  refine T.F_chains_told.ok sc_chains_told (fun vs H Q E h => ?_) (fun cdv A outer s H vs Q E hr h => ?_)
  · obtain ⟨_, _, _, _, rfl, _⟩ := h
    rfl
  · obtain ⟨t, n, l, vals, rfl, ⟨us, ht, hus⟩, hn, ok, hz, q⟩ := h
    refine ⟨_, (pss_cons (ps_setLc (i := 2) (own := [("kind", 3), ("x", 4), ("y", 5)]) (g := gTup K 3 (gCons (gName 3) (gCons (gName 4) (gCons (gName 5) gNil)))) rfl sc_chains_told.nd rfl rfl (sw_true rfl rfl rfl (by decide +kernel)) (pi_list (pv 0)) (blkOk_by (own := [("kind", 3), ("x", 4), ("y", 5)]) (N := ["telling", "names", "found", "kind", "x", "y", "ends"]) (sc := defScope s_chains_told) (by decide +kernel)) (fun _ _ _ _ _ => (pg_tup rfl (pgs_cons (pg_name (i := 3) sc_chains_told.nd rfl (Or.inl rfl)) (pgs_cons (pg_name (i := 4) sc_chains_told.nd rfl (Or.inl rfl)) (pgs_cons (pg_name (i := 5) sc_chains_told.nd rfl (Or.inl rfl)) pgs_nil))))) (fun _ _ _ _ _ => (pts_one (pt_cmpR op_eq (pv 3) (pe_glob (v := .int (4)) rfl T.g_CHAIN ⟨_, rfl⟩) (nomark _)))) (fun _ _ _ _ _ => (pe_tup (pa_cons (pe_ix (r := rIxL K) ix_list (pv 1) (pv 4) (fun _ _ => rfl)) (pa_cons (pe_ix (r := rIxL K) ix_list (pv 1) (pv 5) (fun _ _ => rfl)) pa_nil)))))
        (pss_one (ps_ret (pe_lc (own := [("ends", 6)]) (g := gName 6) rfl sc_chains_told.nd (pi_list (pv 2)) (blkOk_by (own := [("ends", 6)]) (N := ["telling", "names", "found", "kind", "x", "y", "ends"]) (sc := defScope s_chains_told) (by decide +kernel)) (fun _ _ _ _ _ => (pg_name (i := 6) sc_chains_told.nd rfl (Or.inl rfl))) (fun _ _ _ _ _ => (pts_one (pt_cmpR op_ne (pe_ix (r := rIxT K) ix_tup (pv 6) pe_int (fun _ _ => rfl)) (pe_ix (r := rIxT K) ix_tup (pv 6) pe_int (fun _ _ => rfl)) (nomark _)))) (fun _ _ _ _ _ => (pv 6)))))), ?_⟩
    refine ⟨_, rfl, t, rfl, ⟨_, SqL.of ht⟩, fun D hD => lc_list (K := K) (a := t) (xs := us) (fun i H' => Same H H' ∧ ∃ acc, H' D = some (.lst acc) ∧ PairsAt H' acc ((l.take i).flatMap (chainF0 vals))) ?_ ?_ ?_ ?_⟩
    · exact ⟨same_upd hD, [], upd_same, .nil⟩
    · exact fun i H' _ z => SqL.of (z.1 _ _ ht)
    · rintro i x H' hi ⟨e, acc, hA, hp⟩
      obtain ⟨f, r, hf, rfl, hr0⟩ := facts_at hus hi
      obtain ⟨okx, oky⟩ := ok f (List.mem_of_getElem? hf)
      have hlen : acc.length ≤ 1000 := by
        rw [hp.length]
        refine Nat.le_trans (flat_len (vals := vals) (fun f => by cases f <;> simp [chainF0]) _) (Nat.le_trans (List.length_take_le' _ _) hz)
      refine ⟨r, _, rfl, SqT.of (e _ _ hr0), rfl, _, _, rfl, _, _, rfl, _, _, rfl, rfl, rfl, _, rfl, rfl, _, rfl, ?_⟩
      rw [dInt, take_snoc hf]
      have ec : (l.take i ++ [f]).flatMap (chainF0 vals) = (l.take i).flatMap (chainF0 vals) ++ chainF0 vals f := by simp
      rw [ec]
      by_cases h3 : kindF f = 4
      · refine if_true_of (decide_eq_true h3) ⟨_, rfl, _, rfl, n, _, _, .int (vals.getD (xF f) 0 : Nat), rfl, rfl, SqL.of (e _ _ hn), atI_nat (natV_at okx), _, rfl, _, rfl, n, _, _, .int (vals.getD (yF f) 0 : Nat), rfl, rfl, SqL.of (e _ _ hn), atI_nat (natV_at oky), (by show 2 ≤ sizeLine; decide), fun q2 hq2 => ?_⟩
        have es := same_upd (o := .tup [.int (vals.getD (xF f) 0 : Nat), .int (vals.getD (yF f) 0 : Nat)]) hq2
        have hA2 := es _ _ hA
        refine ⟨acc, hA2, small1000 hlen, same_updL hD (e.trans es), _, upd_same, ?_⟩
        rw [chainF0_is h3]
        exact PairsAt.updL hA2 (All2.snoc (PairsAt.same es hp) (b := (vals.getD (xF f) 0, vals.getD (yF f) 0)) ⟨q2, rfl, upd_same⟩)
      · refine if_false_of (decide_eq_false h3) ⟨e, acc, hA, ?_⟩
        rw [chainF0_not h3, List.append_nil]
        exact hp
    · rintro H1 ⟨e1, acc1, hA1, hp1⟩
      rw [hus.length, List.length_map, List.take_length] at hp1
      have hlen1 : acc1.length ≤ 1000 := by
        rw [hp1.length]
        refine Nat.le_trans (flat_len (vals := vals) (fun f => by cases f <;> simp [chainF0]) _) hz
      generalize hall : l.flatMap (chainF0 vals) = all at hp1
      refine ⟨_, rfl, D, rfl, ⟨_, SqL.of hA1⟩, fun D2 hD2 => lc_list (K := K) (a := D) (xs := acc1) (fun i H' => Same H1 H' ∧ ∃ acc, H' D2 = some (.lst acc) ∧ PairsAt H' acc ((all.take i).filter fun c => c.1 != c.2)) ?_ ?_ ?_ ?_⟩
      · exact ⟨same_upd hD2, [], upd_same, .nil⟩
      · exact fun i H' _ z => SqL.of (z.1 _ _ hA1)
      · rintro i x H' hi ⟨e, acc, hA, hp⟩
        obtain ⟨c, hc, r, rfl, hr0⟩ := hp1.at hi
        have hlen : acc.length ≤ 1000 := by
          rw [hp.length]
          refine Nat.le_trans (List.length_filter_le _ _) (Nat.le_trans (List.length_take_le' _ _) ?_)
          rw [← hp1.length]
          exact hlen1
        refine ⟨rfl, _, rfl, r, _, 0, _, rfl, rfl, SqT.of (e _ _ hr0), atI_nat (j := 0) rfl, _, rfl, r, _, 1, _, rfl, rfl, SqT.of (e _ _ hr0), atI_nat (j := 1) rfl, rfl, _, rfl, ?_⟩
        rw [dInt, take_snoc hc, List.filter_append]
        by_cases h3 : c.1 = c.2
        · refine if_false_of (by simp [h3]) ⟨e, acc, hA, ?_⟩
          rw [show [c].filter (fun c => c.1 != c.2) = [] by simp [h3], List.append_nil]
          exact hp
        · refine if_true_of (by simp; omega) ⟨_, rfl, acc, hA, small1000 hlen, same_updL hD2 e, _, upd_same, ?_⟩
          rw [show [c].filter (fun c => c.1 != c.2) = [c] by simp [h3]]
          exact PairsAt.updL hA (All2.snoc hp (b := c) ⟨r, rfl, e _ _ hr0⟩)
      · rintro H' ⟨e, acc, hA, hp⟩
        rw [hp1.length, List.take_length, ← hall, ← chains_filter] at hp
        exact q H' D2 (e1.trans e) (e1.free hD2) ⟨acc, hA, hp⟩
theorem All2.append {α β : Type} {R : α → β → Prop} {l' : List α} {m' : List β} (h : All2 R l' m') : ∀ {l : List α} {m : List β}, All2 R l m → All2 R (l ++ l') (m ++ m')
  | _, _, .nil => h
  | _, _, .cons a r => .cons a (All2.append h r)
/-! ### can_be_so -/
theorem nodup_leG {α : Type} [DecidableEq α] : ∀ {l m : List α}, l.Nodup → (∀ x ∈ l, x ∈ m) → l.length ≤ m.length
  | [], _, _, _ => Nat.zero_le _
  | a :: l, m, h, s => by
    have ha : a ∈ m := s a (by simp)
    have hn := List.nodup_cons.mp h
    have := nodup_leG (l := l) (m := m.erase a) hn.2 (fun x hx => (List.mem_erase_of_ne (fun (e : x = a) => hn.1 (e ▸ hx))).mpr (s x (by simp [hx])))
    rw [List.length_erase_of_mem ha] at this
    have : 0 < m.length := List.length_pos_of_mem ha
    simp only [List.length_cons]
    omega
theorem nodup_cover {α : Type} [DecidableEq α] : ∀ {l m : List α}, l.Nodup → (∀ x ∈ l, x ∈ m) → m.length ≤ l.length → m.Nodup
  | [], m, _, _, h => by
    rw [List.length_eq_zero_iff.mp (Nat.le_zero.mp h)]
    exact List.nodup_nil
  | a :: l, m, h, s, hl => by
    have ha : a ∈ m := s a (by simp)
    have hn := List.nodup_cons.mp h
    have sub : ∀ x ∈ l, x ∈ m.erase a := fun x hx => (List.mem_erase_of_ne (fun (e : x = a) => hn.1 (e ▸ hx))).mpr (s x (by simp [hx]))
    have le := List.length_erase_of_mem ha
    have pos : 0 < m.length := List.length_pos_of_mem ha
    simp only [List.length_cons] at hl
    have ih := nodup_cover hn.2 sub (by omega)
    refine (List.perm_cons_erase ha).nodup_iff.mpr (List.nodup_cons.mpr ⟨fun z => ?_, ih⟩)
    have := nodup_leG (l := a :: l) (m := m.erase a) h (fun x hx => by
      rcases List.mem_cons.mp hx with e | e
      · rw [e]; exact z
      · exact sub x e)
    simp only [List.length_cons] at this
    omega
theorem nodup_natI {l : List Nat} : (natI l).Nodup ↔ l.Nodup := by
  unfold natI
  rw [List.Nodup, List.pairwise_map]
  constructor
  · exact fun h => h.imp fun q e => q (by rw [e])
  · exact fun h => h.imp fun q e => q (by omega)
theorem in_nat (l : List Nat) : inV (V.int 0) (natV l) = l.contains 0 := by
  rw [Bool.eq_iff_iff, List.contains_iff_mem]
  unfold inV natV
  rw [List.any_map, List.any_eq_true]
  constructor
  · rintro ⟨x, hx, h⟩
    have : (x : Int) = 0 := eq_of_beq h
    have : x = 0 := by omega
    rw [← this]
    exact hx
  · intro h
    exact ⟨0, h, rfl⟩
theorem flat_nat (l : List Nat) : (natV l).all flatV = true := by
  unfold natV
  rw [List.all_map, List.all_eq_true]
  exact fun x _ => rfl
def sp_can_be_so : Sp := fun vs H Q _ => ∃ (t n : Addr) (l : List Sm11.Fact) (vals : List Nat), vs = [.ref t, .ref n] ∧ TellAt H t l ∧ NamesAt H n vals ∧ NamesOk l vals.length ∧ l.length ≤ 400 ∧ ∀ H', Same H H' → Q (.bl (canBe l vals)) H'
def cbW (t n : Addr) (l : List Sm11.Fact) (vals : List Nat) (H : Hp) (i : Nat) (σ : L2.St) (H1 : Hp) : Prop := (∃ o2 o3 o4 o5 o6, σ = [some (.ref t), some (.ref n), o2, o3, o4, o5, o6]) ∧ H1 = H ∧ (l.take i).all (Sm11.plainSo ⟨vals, []⟩) = true
theorem ok_can_be_so (T : Top K mg) : FnOk P w K mg base CX0 2 T.f_can_be_so T.fd_can_be_so ["telling", "names"] sp_can_be_so := by
  have G_cells_told : FnOk P w K mg base CX0 1 T.f_cells_told T.fd_cells_told ["telling", "names"] (sp_told cellsT) := ok_cells_told T
  have G_chains_told : FnOk P w K mg base CX0 1 T.f_chains_told T.fd_chains_told ["telling", "names"] (sp_told chainsT) := ok_chains_told T
  refine T.F_can_be_so.ok sc_can_be_so (fun vs H Q E h => ?_) (fun cdv A outer s H vs Q E hr h => ?_)
  · obtain ⟨_, _, _, _, rfl, _⟩ := h
    rfl
  · obtain ⟨t, n, l, vals, rfl, ⟨us, ht, hus⟩, hn, ok, hz, q⟩ := h
    refine ⟨_, (pss_cons (ps_for PassesOwn.never rfl (pi_list (pv 0)) (pg_tup rfl (pgs_cons (pg_name (i := 2) sc_can_be_so.nd rfl (Or.inl rfl)) (pgs_cons (pg_name (i := 3) sc_can_be_so.nd rfl (Or.inl rfl)) (pgs_cons (pg_name (i := 4) sc_can_be_so.nd rfl (Or.inl rfl)) pgs_nil))))
          (pss_cons (ps_if (PW.pt (pw_and (pt_cmpR op_eq (pv 2) (pe_glob (v := .int (1)) rfl T.g_SAME ⟨_, rfl⟩) (nomark _)) (pw_and1 (pt_cmpR op_ne (pe_ix (r := rIxL K) ix_list (pv 1) (pv 3) (fun _ _ => rfl)) (pe_ix (r := rIxL K) ix_list (pv 1) (pv 4) (fun _ _ => rfl)) (nomark _)))))
            (pss_one (ps_ret pe_bl))
            pss_nil)
          (pss_one (ps_if (PW.pt (pw_and (pt_cmpR op_eq (pv 2) (pe_glob (v := .int (2)) rfl T.g_DIFFER ⟨_, rfl⟩) (nomark _)) (pw_and1 (pt_cmpR op_eq (pe_ix (r := rIxL K) ix_list (pv 1) (pv 3) (fun _ _ => rfl)) (pe_ix (r := rIxL K) ix_list (pv 1) (pv 4) (fun _ _ => rfl)) (nomark _)))))
            (pss_one (ps_ret pe_bl))
            pss_nil))))
        (pss_cons (ps_setLc (i := 5) (own := [("ends", 6)]) (g := gName 6) (tt := tYes) rfl sc_can_be_so.nd rfl rfl (sw_true rfl rfl rfl (by decide +kernel)) (pi_list (pe_op op_cat (pe_call G_cells_told (hr.mono (by decide)) (by rfl) T.g_cells_told T.F_cells_told.kp T.b_cells_told .nil pass0 (pa_cons (pv 0) (pa_cons (pv 1) pa_nil))) (pe_call G_chains_told (hr.mono (by decide)) (by rfl) T.g_chains_told T.F_chains_told.kp T.b_chains_told .nil pass0 (pa_cons (pv 0) (pa_cons (pv 1) pa_nil))))) (blkOk_by (own := [("ends", 6)]) (N := ["telling", "names", "kind", "x", "y", "firsts", "ends"]) (sc := defScope s_can_be_so) (by decide +kernel)) (fun _ _ _ _ _ => (pg_name (i := 6) sc_can_be_so.nd rfl (Or.inl rfl))) (fun _ _ _ _ _ => pts_nil) (fun _ _ _ _ _ => (pe_ix (r := rIxT K) ix_tup (pv 6) pe_int (fun _ _ => rfl))))
        (pss_one (ps_ret (pe_and (pe_cmpR op_notIn_seq pe_int (pv 5) (by rfl)) (pe_one (pe_cmpR op_eq (pe_callB cr_lenSet (by rfl) T.n_len PySem.boot_len (pa_cons (pe_callTy (cr_setL rfl) (by rfl) T.n_set (by decide +kernel) (pa_cons (pv 5) pa_nil)) pa_nil)) (pe_callB call_len_seq (by rfl) T.n_len PySem.boot_len (pa_cons (pv 5) pa_nil)) (nomark _)))))))), ?_⟩
    refine ⟨_, rfl, t, rfl, ⟨_, SqL.of ht⟩, for_list (xs := us) (cbW t n l vals H) ⟨⟨_, _, _, _, _, rfl⟩, rfl, rfl⟩ (fun i σ H1 _ z => by rw [z.2.1]; exact SqL.of ht) ?_ ?_⟩
    · rintro i x σ H1 hi ⟨⟨o2, o3, o4, o5, o6, rfl⟩, rfl, ha⟩
      obtain ⟨f, r, hf, rfl, hr0⟩ := facts_at hus hi
      obtain ⟨okx, oky⟩ := ok f (List.mem_of_getElem? hf)
      have htk := take_snoc hf
      have no : Sm11.plainSo ⟨vals, []⟩ f = false → Q (.bl false) H1 := fun z => by
        have := q H1 (Same.refl _)
        rw [show canBe l vals = false by
          unfold canBe
          rw [show l.all (Sm11.plainSo ⟨vals, []⟩) = false by
            rw [Bool.eq_false_iff]
            intro y
            rw [List.all_eq_true.mp y f (List.mem_of_getElem? hf)] at z
            cases z]
          rfl] at this
        exact this
      have go : Sm11.plainSo ⟨vals, []⟩ f = true → (l.take (i + 1)).all (Sm11.plainSo ⟨vals, []⟩) = true := fun z => by
        rw [htk, List.all_append, ha]
        simp [z]
      refine ⟨r, _, rfl, SqT.of hr0, rfl, _, _, rfl, _, _, rfl, _, _, rfl, rfl, ?_⟩
      refine if_tests (decide (kindF f = 1) && decide (¬ vals.getD (xF f) 0 = vals.getD (yF f) 0)) (· = H1) (fun Qb k => ?_) (fun H2 e2 => ?_)
      · have k := k H1 rfl
        refine ⟨_, rfl, rfl, _, rfl, ?_⟩
        rw [dInt]
        by_cases h1 : kindF f = 1
        · rw [decide_eq_true h1, Bool.true_and] at k
          refine if_true_of (decide_eq_true h1) ⟨_, rfl, _, rfl, n, _, _, .int (vals.getD (xF f) 0 : Nat), rfl, rfl, SqL.of hn, atI_nat (natV_at okx), _, rfl, _, rfl, n, _, _, .int (vals.getD (yF f) 0 : Nat), rfl, rfl, SqL.of hn, atI_nat (natV_at oky), rfl, _, rfl, ?_⟩
          rw [dInt]
          have e : (!decide ((vals.getD (xF f) 0 : Int) = (vals.getD (yF f) 0 : Int))) = decide (¬ vals.getD (xF f) 0 = vals.getD (yF f) 0) := by
            rw [Bool.eq_iff_iff]
            simp only [Bool.not_eq_true', decide_eq_false_iff_not, decide_eq_true_iff]
            omega
          rw [e]
          exact k
        · rw [decide_eq_false h1, Bool.false_and] at k
          exact if_false_of (decide_eq_false h1) k
      · subst e2
        by_cases h1 : kindF f = 1 ∧ ¬ vals.getD (xF f) 0 = vals.getD (yF f) 0
        · refine if_true_of (by rw [decide_eq_true h1.1, decide_eq_true h1.2]; rfl) (no ?_)
          cases f with
          | same a b =>
            rw [Bool.eq_false_iff]
            intro y
            exact h1.2 (eq_of_beq y)
          | differ a b => cases h1.1
          | cell a b => cases h1.1
          | chain a b => cases h1.1
        · refine if_false_of (by
            rw [Bool.and_eq_false_iff, decide_eq_false_iff_not, decide_eq_false_iff_not]
            by_cases z : kindF f = 1
            · exact .inr fun y => h1 ⟨z, y⟩
            · exact .inl z) ?_
          dsimp only [tNext]
          refine if_tests (decide (kindF f = 2) && decide (vals.getD (xF f) 0 = vals.getD (yF f) 0)) (· = H2) (fun Qb k => ?_) (fun H3 e3 => ?_)
          · have k := k H2 rfl
            refine ⟨_, rfl, rfl, _, rfl, ?_⟩
            rw [dInt]
            by_cases h2 : kindF f = 2
            · rw [decide_eq_true h2, Bool.true_and] at k
              refine if_true_of (decide_eq_true h2) ⟨_, rfl, _, rfl, n, _, _, .int (vals.getD (xF f) 0 : Nat), rfl, rfl, SqL.of hn, atI_nat (natV_at okx), _, rfl, _, rfl, n, _, _, .int (vals.getD (yF f) 0 : Nat), rfl, rfl, SqL.of hn, atI_nat (natV_at oky), rfl, _, rfl, ?_⟩
              rw [dInt]
              have e : decide ((vals.getD (xF f) 0 : Int) = (vals.getD (yF f) 0 : Int)) = decide (vals.getD (xF f) 0 = vals.getD (yF f) 0) := by
                rw [Bool.eq_iff_iff, decide_eq_true_iff, decide_eq_true_iff]
                omega
              rw [e]
              exact k
            · rw [decide_eq_false h2, Bool.false_and] at k
              exact if_false_of (decide_eq_false h2) k
          · subst e3
            by_cases h2 : kindF f = 2 ∧ vals.getD (xF f) 0 = vals.getD (yF f) 0
            · refine if_true_of (by rw [decide_eq_true h2.1, decide_eq_true h2.2]; rfl) (no ?_)
              cases f with
              | differ a b =>
                rw [Bool.eq_false_iff]
                intro y
                exact (bne_iff_ne.mp y) h2.2
              | same a b => cases h2.1
              | cell a b => cases h2.1
              | chain a b => cases h2.1
            · refine if_false_of (by
                rw [Bool.and_eq_false_iff, decide_eq_false_iff_not, decide_eq_false_iff_not]
                by_cases z : kindF f = 2
                · exact .inr fun y => h2 ⟨z, y⟩
                · exact .inl z) ⟨⟨_, _, _, _, _, rfl⟩, rfl, go ?_⟩
              cases f with
              | same a b =>
                have : vals.getD a 0 = vals.getD b 0 := Decidable.byContradiction fun z => h1 ⟨rfl, z⟩
                exact beq_iff_eq.mpr this
              | differ a b => exact bne_iff_ne.mpr fun z => h2 ⟨rfl, z⟩
              | cell a b => rfl
              | chain a b => rfl
    · rintro σ H1 ⟨⟨o2, o3, o4, o5, o6, rfl⟩, rfl, ha⟩
      rw [hus.length, List.length_map, List.take_length] at ha
      refine ⟨_, rfl, _, rfl, t, n, l, vals, rfl, ⟨us, ht, hus⟩, hn, ok, by omega, fun H2 p2 e2 _ hp2 => ?_⟩
      refine ⟨_, rfl, _, rfl, t, n, l, vals, rfl, ⟨us, e2 _ _ ht, hus.same e2⟩, e2 _ _ hn, ok, by omega, fun H3 p3 e3 _ hp3 => ?_⟩
      obtain ⟨ca, hca, hcp⟩ := hp2.same e3
      obtain ⟨cb, hcb, hdp⟩ := hp3
      have lc : ca.length ≤ l.length := by
        rw [hcp.length]
        exact flat_len (vals := vals) (fun f => by cases f <;> simp [cellF]) l
      have ld : cb.length ≤ l.length := by
        rw [hdp.length]
        refine flat_len (vals := vals) (fun f => ?_) l
        cases f with
        | chain x y =>
          show (if vals.getD x 0 = vals.getD y 0 then [] else [(vals.getD x 0, vals.getD y 0)]).length ≤ 1
          split <;> simp
        | same x y => simp [chainF]
        | differ x y => simp [chainF]
        | cell x y => simp [chainF]
      refine ⟨p2, p3, _, _, rfl, rfl, hca, hcb, Nat.le_trans (by omega : _ ≤ 1000) (by decide), fun p4 hp4 => ?_⟩
      have es4 := same_upd (o := .lst (ca ++ cb)) hp4
      have h4 : (upd H3 p4 (.lst (ca ++ cb))) p4 = some (.lst (ca ++ cb)) := upd_same
      have e4 : Same H1 (upd H3 p4 (.lst (ca ++ cb))) := (e2.trans e3).trans es4
      have hall : PairsAt (upd H3 p4 (.lst (ca ++ cb))) (ca ++ cb) (cellsT vals l ++ chainsT vals l) := by
        exact All2.append (PairsAt.same es4 hdp) (PairsAt.same es4 hcp)
      generalize upd H3 p4 (.lst (ca ++ cb)) = H4 at h4 e4 hall ⊢
      have clen : (ca ++ cb).length ≤ 1000 := by
        rw [List.length_append]
        omega
      generalize ca ++ cb = xs at h4 hall clen ⊢
      have efirst : firsts vals l = Sm11.places (cellsT vals l ++ chainsT vals l) := rfl
      generalize cellsT vals l ++ chainsT vals l = cs at hall efirst
      refine ⟨p4, rfl, ⟨_, SqL.of h4⟩, fun D hD => lc_list (K := K) (a := p4) (xs := xs) (fun i H' => Same H4 H' ∧ H' D = some (.lst (natV (Sm11.places (cs.take i))))) ?_ ?_ ?_ ?_⟩
      · exact ⟨same_upd hD, upd_same⟩
      · exact fun i H' _ z => SqL.of (z.1 _ _ h4)
      · rintro i x H' hi ⟨e5, hA⟩
        obtain ⟨c, hc, r, rfl, hr0⟩ := hall.at hi
        have hlen : (natV (Sm11.places (cs.take i))).length ≤ 1000 := by
          rw [natV_len, Sm11.places, List.length_map]
          refine Nat.le_trans (List.length_take_le' _ _) ?_
          rw [← hall.length]
          exact clen
        refine ⟨rfl, ?_⟩
        dsimp only [tYes]
        rw [if_pos rfl]
        refine ⟨_, rfl, r, _, 0, _, rfl, rfl, SqT.of (e5 _ _ hr0), atI_nat (j := 0) rfl, _, hA, small1000 hlen, same_updL hD e5, ?_⟩
        rw [take_snoc hc, show Sm11.places (cs.take i ++ [c]) = Sm11.places (cs.take i) ++ [c.1] by simp [Sm11.places], natV_append]
        exact upd_same
      · rintro H5 ⟨e5, hA⟩
        rw [hall.length, List.take_length, ← efirst] at hA
        have flen : (firsts vals l).length ≤ 1000 := by
          rw [efirst, Sm11.places, List.length_map, ← hall.length]
          exact clen
        refine ⟨_, rfl, D, _, rfl, .inl (SqL.of hA), rfl, flat_nat _, _, rfl, ?_⟩
        have e6 := e4.trans e5
        have hcan : canBe l vals = (!(firsts vals l).contains 0 && Sm11.once (firsts vals l)) := by
          unfold canBe
          rw [ha, Bool.true_and]
        show if (!inV (V.int 0) (natV (firsts vals l))) = true then _ else _
        rw [in_nat]
        cases h0 : (firsts vals l).contains 0 with
        | true =>
          refine if_false_of rfl ?_
          have := q H5 e6
          rw [hcan, h0] at this
          exact this
        | false =>
          refine if_true_of rfl ⟨_, rfl, D, natI (firsts vals l), rfl, by rw [← natV_I]; exact SqL.of hA, by unfold natI; rw [List.length_map]; exact flen, fun a S m ha0 hS hm => ?_⟩
          refine ⟨a, S, m, rfl, upd_same, fun ks k1 k2 k3 => ⟨_, rfl, D, _, rfl, .inl (SqL.of (same_upd ha0 _ _ hA)), rfl, ?_⟩⟩
          rw [dInt, natV_len]
          rw [show decide ((m : Int) = ((firsts vals l).length : Int)) = canBe l vals by
            rw [hcan, h0, Bool.eq_iff_iff, decide_eq_true_iff, Bool.not_false, Bool.true_and, once_iff, ← nodup_natI]
            have nl : (natI (firsts vals l)).length = (firsts vals l).length := List.length_map _
            constructor
            · intro y
              refine nodup_cover k1 (fun x hx => (hS x).mp ((k2 x).mp hx)) ?_
              omega
            · intro y
              have := (perm_nodup k1 y fun x => (k2 x).trans (hS x)).length_eq
              omega]
          exact q _ (e6.trans (same_upd ha0))
end Ph
namespace Ph
open PySem PySem.Spec PyProof.Rows L2
variable {P : Program} {w : World} {K : PySem.W.Frag} {mg : Str → Option Value} {base : Heap}
/-! ### rows of names -/
def RowAt (H : Hp) (v : V) (r : List Nat) : Prop := ∃ q, v = .ref q ∧ H q = some (.lst (natV r))
abbrev RowsAt (H : Hp) : List V → List (List Nat) → Prop := All2 (RowAt H)
theorem RowsAt.same {H H' : Hp} (e : Same H H') {us : List V} {rs : List (List Nat)} (h : RowsAt H us rs) : RowsAt H' us rs := h.imp fun _ _ ⟨q, a, b⟩ => ⟨q, a, e _ _ b⟩
def ext (r : List Nat) : List (List Nat) := (List.range (Sm11.width r + 1)).map fun x => r ++ [x]
theorem rows_ext (n : Nat) : rows (n + 1) = (rows n).flatMap ext := rfl
theorem rows_first : ∀ n, ∃ r rs, rows n = r :: rs
  | 0 => ⟨_, _, rfl⟩
  | n + 1 => by
    obtain ⟨r, rs, e⟩ := rows_first n
    rw [rows_ext, e, List.flatMap_cons]
    unfold ext
    rw [List.range_succ_eq_map]
    exact ⟨_, _, rfl⟩
theorem sub_len {α : Type} {l m : List α} (h : l.Sublist m) : l.length ≤ m.length := h.length_le
theorem take_flat {α β : Type} (f : α → List β) (l : List α) (i : Nat) : ((l.take i).flatMap f).length ≤ (l.flatMap f).length := by
  conv => rhs; rw [← List.take_append_drop i l, List.flatMap_append, List.length_append]
  exact Nat.le_add_right _ _
def sp_plain_names : Sp := fun vs H Q _ => ∃ g : Nat, vs = [.int g] ∧ g ≤ 4 ∧ ∀ H' p us, Same H H' → H p = none → H' p = some (.lst us) → RowsAt H' us (rows g) → Q (.ref p) H'
def pnW (g : Nat) (H : Hp) (m : Nat) (σ : L2.St) (H1 : Hp) : Prop := ∃ (k : Nat) (R : Addr) (us : List V) (o2 o3 o4 : Option V), σ = [some (.int g), some (.ref R), o2, o3, o4] ∧ Same H H1 ∧ H R = none ∧ H1 R = some (.lst us) ∧ RowsAt H1 us (rows k) ∧ k ≤ g ∧ m = g - k
def pnV (g : Nat) (R L : Addr) (rs : List (List Nat)) (H1 : Hp) (i : Nat) (σ : L2.St) (H2 : Hp) : Prop := (∃ o3 o4, σ = [some (.int g), some (.ref R), some (.ref L), o3, o4]) ∧ Same H1 H2 ∧ ∃ acc, H2 L = some (.lst acc) ∧ RowsAt H2 acc ((rs.take i).flatMap ext)
theorem RowsAt.updL {H : Hp} {D : Addr} {o : HO} {us : List V} {rs : List (List Nat)} (h : RowsAt H us rs) (hD : ∀ q, (.ref q) ∈ us → q ≠ D) : RowsAt (upd H D o) us rs := by
  induction h with
  | nil => exact .nil
  | cons x _ ih =>
    obtain ⟨q, rfl, hq⟩ := x
    refine .cons ⟨q, rfl, ?_⟩ (ih fun q' hq' => hD q' (by simp [hq']))
    rw [upd_ne (hD q (by simp))]
    exact hq
theorem RowsAt.refs {H : Hp} {us : List V} {rs : List (List Nat)} (h : RowsAt H us rs) : ∀ q, (.ref q) ∈ us → ∃ r ∈ rs, H q = some (.lst (natV r)) := by
  induction h with
  | nil => intro q hq; cases hq
  | cons x _ ih =>
    intro q hq
    obtain ⟨q', rfl, hq'⟩ := x
    rcases List.mem_cons.mp hq with e | e
    · cases e
      exact ⟨_, by simp, hq'⟩
    · obtain ⟨r, hr, h⟩ := ih q e
      exact ⟨r, by simp [hr], h⟩
theorem ok_plain_names (T : Top K mg) : FnOk P w K mg base CX0 1 T.f_plain_names T.fd_plain_names ["greatest"] sp_plain_names := by
  refine T.F_plain_names.ok sc_plain_names (fun vs H Q E h => ?_) (fun cdv A outer s H vs Q E hr h => ?_)
  · obtain ⟨_, rfl, _⟩ := h
    rfl
  · obtain ⟨g, rfl, g4, q⟩ := h
    refine ⟨_, (pss_cons (ps_set (i := 1) sc_plain_names.nd rfl (Or.inl rfl) (pe_lst (pa_cons (pe_lst (pa_cons pe_int pa_nil)) pa_nil)))
        (pss_cons (ps_while PassesOwn.never (pt_cmpR op_le (pe_callB call_len_seq (by rfl) T.n_len PySem.boot_len (pa_cons (pe_ix (r := rIxL K) ix_list (pv 1) pe_int (fun _ _ => rfl)) pa_nil)) (pv 0) (nomark _))
          (pss_cons (ps_set (i := 2) sc_plain_names.nd rfl (Or.inl rfl) (pe_lst pa_nil))
          (pss_cons (ps_for PassesOwn.never rfl (pi_list (pv 1)) (pg_name (i := 3) sc_plain_names.nd rfl (Or.inr rfl))
            (pss_one (ps_expr (pe_bm PySem.F.plainAttrs_list PySem.F.slot_list_extend PySem.F.type_list_extend mt_extend (pv 2) (pa_cons (pe_lc (own := [("number", 4)]) (g := gName 4) (tt := tYes) rfl sc_plain_names.nd (pi_range1 (by rfl) T.n_range (pa_cons (pe_op op_add (pe_callB (cr_max rfl) (by rfl) T.n_max (by decide +kernel) (pa_cons (pv 3) pa_nil)) pe_int) pa_nil)) (blkOk_by (own := [("number", 4)]) (N := ["greatest", "rows", "longer", "row", "number"]) (sc := defScope s_plain_names) (by decide +kernel)) (fun _ _ _ _ _ => (pg_name (i := 4) sc_plain_names.nd rfl (Or.inl rfl))) (fun _ _ _ _ _ => pts_nil) (fun _ _ _ _ _ => (pe_op op_cat (pv 3) (pe_lst (pa_cons (pv 4) pa_nil))))) pa_nil)))))
          (pss_one (ps_set (i := 1) sc_plain_names.nd rfl (Or.inl rfl) (pv 2))))))
        (pss_one (ps_ret (pv 1))))), ?_⟩
    refine ⟨(by show 1 ≤ sizeLine; decide), fun r0 hr0 => ⟨(by show 1 ≤ sizeLine; decide), fun R hR => ?_⟩⟩
    have es0 := same_upd (o := .lst [.int 0]) hr0
    have es1 := same_upd (o := .lst [.ref r0]) hR
    have h0 : (upd (upd H r0 (.lst [.int 0])) R (.lst [.ref r0])) r0 = some (.lst (natV [0])) := es1 _ _ upd_same
    have h1 : (upd (upd H r0 (.lst [.int 0])) R (.lst [.ref r0])) R = some (.lst [.ref r0]) := upd_same
    have fR : H R = none := es0.free hR
    have e1 := es0.trans es1
    generalize upd (upd H r0 (.lst [.int 0])) R (.lst [.ref r0]) = H0 at h0 h1 e1 ⊢
    refine ⟨pnW g H, ⟨_, 0, R, [.ref r0], _, _, _, rfl, e1, fR, h1, .cons ⟨r0, rfl, h0⟩ .nil, Nat.zero_le _, rfl⟩, ?_⟩
    rintro m σ H1 ⟨k, R, us, o2, o3, o4, rfl, e, fR, hR1, hus, hk, rfl⟩
    obtain ⟨r, rs, ers⟩ := rows_first k
    have hlen : r.length = k + 1 := (rows_in (by rw [ers]; simp)).1
    obtain ⟨v0, hv0⟩ : ∃ v0, us[0]? = some v0 := ⟨us[0]'(by rw [hus.length, ers]; simp), List.getElem?_eq_getElem _⟩
    obtain ⟨r', hr', q0, rfl, hq0⟩ := hus.at hv0
    rw [ers] at hr'
    obtain rfl : r = r' := Option.some.inj hr'
    refine ⟨_, rfl, R, us, 0, _, rfl, rfl, SqL.of hR1, atI_nat (j := 0) hv0, q0, _, rfl, .inl (SqL.of hq0), _, rfl, _, _, rfl, rfl, _, rfl, ?_⟩
    rw [natV_len, hlen]
    by_cases hkg : k + 1 ≤ g
    · refine if_true_of (decide_eq_true (by omega)) ⟨fun σ' H' => ∃ m', m' < g - k ∧ pnW g H m' σ' H', fun _ _ z => z, ?_⟩
      refine ⟨Nat.zero_le _, fun L hL => ?_⟩
      have es2 := same_upd (o := .lst []) hL
      have hLn : H L = none := e.free hL
      have hRL : R ≠ L := ne_of_none hR1 hL
      have key : (rows (k + 1)).length ≤ 52 := rows_len (by omega)
      refine ⟨_, rfl, R, rfl, ⟨_, SqL.of (es2 _ _ hR1)⟩, for_list (xs := us) (pnV g R L (rows k) H1) ⟨⟨_, _, rfl⟩, es2, [], upd_same, .nil⟩ (fun i σ H2 _ z => SqL.of (z.2.1 _ _ hR1)) ?_ ?_⟩
      · rintro i x σ H2 hi ⟨⟨o3, o4, rfl⟩, e2, acc, hA, hacc⟩
        obtain ⟨row, hrow, qr, rfl, hqr⟩ := hus.at hi
        obtain ⟨rl, _, r00, rle⟩ := rows_in (List.mem_of_getElem? hrow)
        have hqr2 := e2 _ _ hqr
        have alen : acc.length ≤ 52 := by
          rw [hacc.length]
          exact Nat.le_trans (take_flat ext _ i) key
        have alen2 : ((rows k).take (i + 1)).flatMap ext = ((rows k).take i).flatMap ext ++ ext row := by
          rw [take_snoc hrow, List.flatMap_append]
          simp
        have blen : acc.length + (ext row).length ≤ 52 := by
          rw [hacc.length, ← List.length_append, ← alen2]
          exact Nat.le_trans (take_flat ext _ (i + 1)) key
        refine ⟨_, rfl, .inl ⟨rfl, _, SqL.of hA⟩, ?_⟩
        refine ⟨_, rfl, qr, natI row, rfl, by rw [← natV_I]; exact SqL.of hqr2, by unfold natI; rw [List.length_map]; omega, fun mx hmx hle => ?_⟩
        obtain ⟨kx, hkx, rfl⟩ := mem_natI.mp hmx
        have hw : Sm11.width row = kx + 1 := width_eq hkx fun y hy => by
          have := hle (y : Int) (mem_natI.mpr ⟨y, hy, rfl⟩)
          omega
        have hkx4 := rle kx hkx
        refine ⟨_, _, rfl, rfl, (kx : Int) + 2, rfl, by omega, by omega, ?_⟩
        rw [show ((kx : Int) + 2).toNat = Sm11.width row + 1 by omega]
        have elen : (ext row).length = Sm11.width row + 1 := by
          unfold ext
          rw [List.length_map, List.length_range]
        intro D hD
        refine lc_range (lo := 0) (n := Sm11.width row + 1) (fun j H' => Same H2 H' ∧ ∃ acc2, H' D = some (.lst acc2) ∧ RowsAt H' acc2 ((ext row).take j) ∧ ∀ q, (.ref q) ∈ acc2 → q ≠ D) ?_ ?_ ?_
        · exact ⟨same_upd hD, [], upd_same, .nil, fun q hq => by cases hq⟩
        · rintro j H3 hj ⟨e3, acc2, hA2, hacc2, nD⟩
          have hqr3 := e3 _ _ hqr2
          refine ⟨rfl, ?_⟩
          dsimp only [tYes]
          rw [if_pos rfl]
          refine ⟨_, rfl, _, rfl, (by show 1 ≤ sizeLine; decide), fun p3 hp3 => ?_⟩
          have es3 := same_upd (o := .lst [.int (0 + (j : Int))]) hp3
          have hp3' : (upd H3 p3 (.lst [.int (0 + (j : Int))])) p3 = some (.lst (natV [j])) := by
            rw [upd_same]
            simp [natV]
          generalize upd H3 p3 (.lst [.int (0 + (j : Int))]) = H4 at es3 hp3' ⊢
          refine ⟨qr, p3, _, _, rfl, rfl, es3 _ _ hqr3, hp3', by rw [natV_len, natV_len, rl]; exact Nat.le_trans (by show _ + 1 ≤ 1000; omega) (by decide), fun p4 hp4 => ?_⟩
          rw [← natV_append]
          have es4 := same_upd (o := .lst (natV (row ++ [j]))) hp4
          have hA4 := es4 _ _ (es3 _ _ hA2)
          have hDn : p4 ≠ D := (ne_of_none (es3 _ _ hA2) hp4).symm
          have alen3 : acc2.length ≤ 1000 := by
            rw [hacc2.length, List.length_take]
            omega
          refine ⟨acc2, hA4, small1000 alen3, same_updL hD ((e3.trans es3).trans es4), _, upd_same, ?_, ?_⟩
          · have hex : (ext row)[j]? = some (row ++ [j]) := by
              unfold ext
              simp [hj]
            rw [take_snoc hex]
            refine RowsAt.updL (All2.snoc (RowsAt.same (es3.trans es4) hacc2) ⟨p4, rfl, upd_same⟩) fun q' hq' => ?_
            rcases List.mem_append.mp hq' with z | z
            · exact nD q' z
            · cases List.mem_singleton.mp z
              exact hDn
          · intro q' hq'
            rcases List.mem_append.mp hq' with z | z
            · exact nD q' z
            · cases List.mem_singleton.mp z
              exact hDn
        · rintro H3 ⟨e3, acc2, hA2, hacc2, nD⟩
          rw [← elen, List.take_length] at hacc2
          have hLD : L ≠ D := ne_of_none hA hD
          have nL : ∀ q, (.ref q) ∈ acc ++ acc2 → q ≠ L := by
            intro q hq
            rcases List.mem_append.mp hq with z | z
            · obtain ⟨r', hr', h'⟩ := hacc.refs q z
              intro y
              rw [y, hA] at h'
              have hh := congrArg (fun o => match o with | some (HO.lst l) => l | _ => []) h'
              simp only at hh
              obtain ⟨row', hrow', he'⟩ := List.mem_flatMap.mp hr'
              obtain ⟨x', _, rfl⟩ := List.mem_map.mp he'
              rw [hh] at z
              obtain ⟨y', _, hy'⟩ := List.mem_map.mp z
              cases hy'
            · obtain ⟨r', hr', h'⟩ := hacc2.refs q z
              intro y
              have hA3 := e3 _ _ hA
              rw [y, hA3] at h'
              have hh := congrArg (fun o => match o with | some (HO.lst l) => l | _ => []) h'
              simp only at hh
              obtain ⟨x', _, rfl⟩ := List.mem_map.mp hr'
              have hne : acc ≠ [] := by
                intro z0
                rw [z0] at hh
                have := congrArg List.length hh
                rw [natV_len] at this
                simp at this
              obtain ⟨v, l', hvl⟩ := List.exists_cons_of_ne_nil hne
              have hv : v ∈ natV (row ++ [x']) := by rw [← hh, hvl]; simp
              obtain ⟨y', _, hy'⟩ := List.mem_map.mp hv
              rw [hvl] at hacc
              generalize ((rows k).take i).flatMap ext = gg at hacc
              cases hacc with
              | cons b _ =>
                obtain ⟨q', hq', _⟩ := b
                rw [hq'] at hy'
                cases hy'
          refine ⟨L, D, acc, acc2, rfl, rfl, e3 _ _ hA, hA2, ?_, ?_⟩
          · rw [hacc2.length]
            exact Nat.le_trans (by omega : _ ≤ 1000) (by decide)
          · refine ⟨⟨_, _, rfl⟩, same_updL hL (e2.trans e3), acc ++ acc2, upd_same, ?_⟩
            rw [alen2]
            exact RowsAt.updL (All2.append hacc2 (RowsAt.same e3 hacc)) nL
      · rintro σ H2 ⟨⟨o3, o4, rfl⟩, e2, acc, hA, hacc⟩
        rw [hus.length, List.take_length, ← rows_ext] at hacc
        exact ⟨_, rfl, g - (k + 1), by omega, k + 1, L, acc, _, _, _, rfl, e.trans e2, hLn, hA, hacc, hkg, rfl⟩
    · refine if_false_of (decide_eq_false (by omega)) ⟨_, rfl, ?_⟩
      obtain rfl : k = g := by omega
      exact q H1 R us e fR hR1 hus
end Ph
namespace Ph
open PySem PySem.Spec PyProof.Rows L2
variable {P : Program} {w : World} {K : PySem.W.Frag} {mg : Str → Option Value} {base : Heap}
/-! ### dicts in any order -/
theorem at_dput (l : List (Nat × Nat)) (a v b : Nat) : Sm11.at_ (dput l a v) b = if b = a then some v else Sm11.at_ l b := by
  unfold dput
  by_cases e : (l.any fun c => decide (c.1 = a)) = true
  · rw [if_pos e, at_map]
    by_cases z : b = a
    · subst z
      rw [if_pos rfl, if_pos rfl]
      obtain ⟨x, hx⟩ := Option.isSome_iff_exists.mp (at_isSome.mpr (any_places.mp e))
      rw [hx]
      rfl
    · rw [if_neg z, if_neg z]
  · rw [if_neg e, at_append, at_cons, at_nil]
    have ne : a ∉ Sm11.places l := fun z => e (any_places.mpr z)
    by_cases z : b = a
    · subst z
      rw [at_none.mpr ne]
      simp
    · have z' : ¬ a = b := fun y => z y.symm
      simp [z, z']
theorem nodup_dput {l : List (Nat × Nat)} (h : (Sm11.places l).Nodup) (a v : Nat) : (Sm11.places (dput l a v)).Nodup := by
  unfold dput
  split
  · rw [places_map]
    exact h
  · rename_i e
    have ne : a ∉ Sm11.places l := fun z => e (any_places.mpr z)
    rw [show Sm11.places (l ++ [(a, v)]) = Sm11.places l ++ [a] by simp [Sm11.places], List.nodup_append]
    refine ⟨h, by simp, fun x hx y hy q => ne ?_⟩
    rw [List.mem_singleton.mp hy] at q
    rw [← q]
    exact hx
theorem at_last {hp : List (Nat × Nat)} {a v : Nat} (h : a ∉ Sm11.places hp) (b : Nat) : Sm11.at_ (hp ++ [(a, v)]) b = if b = a then some v else Sm11.at_ hp b := by
  rw [at_append, at_cons, at_nil]
  by_cases z : b = a
  · subst z
    rw [at_none.mpr h]
    simp
  · have z' : ¬ a = b := fun y => z y.symm
    simp [z, z']
theorem Like.snoc {l hp : List (Nat × Nat)} (k : Like l hp) {a v : Nat} (h : a ∉ Sm11.places hp) : Like (dput l a v) (hp ++ [(a, v)]) := ⟨nodup_dput k.nd _ _, fun b => by rw [at_dput, at_last h, k.at_]⟩
theorem Like.last {l hp : List (Nat × Nat)} {a v : Nat} (k : Like l (hp ++ [(a, v)])) (h : a ∉ Sm11.places hp) (n : Nat) : Like (dput l a n) (hp ++ [(a, n)]) := ⟨nodup_dput k.nd _ _, fun b => by
  rw [at_dput, at_last h, k.at_, at_last h]
  split <;> rfl⟩
theorem Like.pop {l hp : List (Nat × Nat)} {a v : Nat} (k : Like l (hp ++ [(a, v)])) (h : a ∉ Sm11.places hp) : Like (l.filter fun d => d.1 != a) hp := ⟨nodup_drop k.nd, fun b => by
  rw [at_drop, k.at_, at_last h]
  by_cases z : b = a
  · rw [if_pos z, z, at_none.mpr h]
  · rw [if_neg z, if_neg z]⟩
/-! ### the object that goes through plain worlds -/
structure PF where
  tl : Addr
  most : Nat
  rw : Addr
  nr : Nat
  nm : Addr
  hp : Addr
  ch : Addr
  ld : Addr
  pa : Addr
  ff : Nat
  nf : Nat
def PF.fl (f : PF) : List (Str × V) := [("telling", .ref f.tl), ("most", .int f.most), ("rows", .ref f.rw), ("next_row", .int f.nr), ("names", .ref f.nm), ("heap", .ref f.hp), ("chains", .ref f.ch), ("laid", .ref f.ld), ("passages", .ref f.pa), ("first_free", .int f.ff), ("next_free", .int f.nf)]
section
variable (f : PF)
theorem PF.l_telling : List.lookup ("telling" : Str) f.fl = some (.ref f.tl) := by
  unfold PF.fl
  repeat (first | exact lk_here | refine (lk_past (by decide +kernel)).trans ?_)
theorem PF.l_most : List.lookup ("most" : Str) f.fl = some (.int f.most) := by
  unfold PF.fl
  repeat (first | exact lk_here | refine (lk_past (by decide +kernel)).trans ?_)
theorem PF.l_rows : List.lookup ("rows" : Str) f.fl = some (.ref f.rw) := by
  unfold PF.fl
  repeat (first | exact lk_here | refine (lk_past (by decide +kernel)).trans ?_)
theorem PF.l_next_row : List.lookup ("next_row" : Str) f.fl = some (.int f.nr) := by
  unfold PF.fl
  repeat (first | exact lk_here | refine (lk_past (by decide +kernel)).trans ?_)
theorem PF.l_names : List.lookup ("names" : Str) f.fl = some (.ref f.nm) := by
  unfold PF.fl
  repeat (first | exact lk_here | refine (lk_past (by decide +kernel)).trans ?_)
theorem PF.l_heap : List.lookup ("heap" : Str) f.fl = some (.ref f.hp) := by
  unfold PF.fl
  repeat (first | exact lk_here | refine (lk_past (by decide +kernel)).trans ?_)
theorem PF.l_chains : List.lookup ("chains" : Str) f.fl = some (.ref f.ch) := by
  unfold PF.fl
  repeat (first | exact lk_here | refine (lk_past (by decide +kernel)).trans ?_)
theorem PF.l_laid : List.lookup ("laid" : Str) f.fl = some (.ref f.ld) := by
  unfold PF.fl
  repeat (first | exact lk_here | refine (lk_past (by decide +kernel)).trans ?_)
theorem PF.l_passages : List.lookup ("passages" : Str) f.fl = some (.ref f.pa) := by
  unfold PF.fl
  repeat (first | exact lk_here | refine (lk_past (by decide +kernel)).trans ?_)
theorem PF.l_first_free : List.lookup ("first_free" : Str) f.fl = some (.int f.ff) := by
  unfold PF.fl
  repeat (first | exact lk_here | refine (lk_past (by decide +kernel)).trans ?_)
theorem PF.l_next_free : List.lookup ("next_free" : Str) f.fl = some (.int f.nf) := by
  unfold PF.fl
  repeat (first | exact lk_here | refine (lk_past (by decide +kernel)).trans ?_)
theorem PF.p_next_row (n : Nat) : putF "next_row" (.int n) f.fl = PF.fl { f with nr := n } := by
  unfold PF.fl
  repeat (first | exact put_here | refine (put_past (by decide +kernel)).trans (congrArg _ ?_))
theorem PF.p_names (n : Addr) : putF "names" (.ref n) f.fl = PF.fl { f with nm := n } := by
  unfold PF.fl
  repeat (first | exact put_here | refine (put_past (by decide +kernel)).trans (congrArg _ ?_))
theorem PF.p_heap (n : Addr) : putF "heap" (.ref n) f.fl = PF.fl { f with hp := n } := by
  unfold PF.fl
  repeat (first | exact put_here | refine (put_past (by decide +kernel)).trans (congrArg _ ?_))
theorem PF.p_chains (n : Addr) : putF "chains" (.ref n) f.fl = PF.fl { f with ch := n } := by
  unfold PF.fl
  repeat (first | exact put_here | refine (put_past (by decide +kernel)).trans (congrArg _ ?_))
theorem PF.p_passages (n : Addr) : putF "passages" (.ref n) f.fl = PF.fl { f with pa := n } := by
  unfold PF.fl
  repeat (first | exact put_here | refine (put_past (by decide +kernel)).trans (congrArg _ ?_))
theorem PF.p_first_free (n : Nat) : putF "first_free" (.int n) f.fl = PF.fl { f with ff := n } := by
  unfold PF.fl
  repeat (first | exact put_here | refine (put_past (by decide +kernel)).trans (congrArg _ ?_))
theorem PF.p_next_free (n : Nat) : putF "next_free" (.int n) f.fl = PF.fl { f with nf := n } := by
  unfold PF.fl
  repeat (first | exact put_here | refine (put_past (by decide +kernel)).trans (congrArg _ ?_))
end
def encL (c : Nat × Nat × Nat) : Tri := ((c.1 : Int), (c.2.1 : Int), (c.2.2 : Int))
/-- its own part that changes as cells are laid -/
structure Dyn (C : Addr) (H : Hp) (a dx : Addr) (f : PF) (st : List (Nat × Nat × Nat)) (hpl : List (Nat × Nat)) (lus : List V) (l : List (Nat × Nat)) : Prop where
  ob : H a = some (.ins C dx f.fl)
  la : H f.ld = some (.lst lus)
  tr : TrisAt H lus (st.reverse.map encL)
  he : H f.hp = some (.dK (l.map encC))
  lk : Like l hpl
theorem Dyn.ne {C : Addr} {H : Hp} {a dx : Addr} {f : PF} {st : List (Nat × Nat × Nat)} {hpl : List (Nat × Nat)} {lus : List V} {l : List (Nat × Nat)} (d : Dyn C H a dx f st hpl lus l) : a ≠ f.ld ∧ a ≠ f.hp ∧ f.ld ≠ f.hp :=
  ⟨ne_of d.ob d.la (by intro z; cases z), ne_of d.ob d.he (by intro z; cases z), ne_of d.la d.he (by intro z; cases z)⟩
theorem Dyn.noTup {C : Addr} {H : Hp} {a dx : Addr} {f : PF} {st : List (Nat × Nat × Nat)} {hpl : List (Nat × Nat)} {lus : List V} {l : List (Nat × Nat)} (d : Dyn C H a dx f st hpl lus l) : ∀ b ∈ [a, f.hp, f.ld], ∀ xs, H b ≠ some (.tup xs) := by
  intro b hb xs z
  simp only [List.mem_cons, List.not_mem_nil, or_false] at hb
  rcases hb with e | e | e
  · rw [e, d.ob] at z; cases z
  · rw [e, d.he] at z; cases z
  · rw [e, d.la] at z; cases z
theorem Keeps.pairs {F : List Addr} {H H' : Hp} (k : Keeps F H H') (nt : ∀ b ∈ F, ∀ xs, H b ≠ some (.tup xs)) {us : List V} {m : List (Nat × Nat)} (h : PairsAt H us m) : PairsAt H' us m := h.keep fun b xs z => k b _ z fun y => nt b y xs z
theorem Dyn.setF {C : Addr} {H : Hp} {a dx : Addr} {f f' : PF} {st : List (Nat × Nat × Nat)} {hpl : List (Nat × Nat)} {lus : List V} {l : List (Nat × Nat)} (d : Dyn C H a dx f st hpl lus l) (h1 : f'.ld = f.ld) (h2 : f'.hp = f.hp) : Dyn C (upd H a (.ins C dx f'.fl)) a dx f' st hpl lus l := by
  obtain ⟨n1, n2, n3⟩ := d.ne
  refine ⟨upd_same, ?_, ?_, ?_, d.lk⟩
  · rw [h1, upd_ne n1.symm]; exact d.la
  · exact (Keeps.upd (F := [a]) (by simp)).tris (fun b hb xs z => by
      rw [List.mem_singleton.mp hb, d.ob] at z
      cases z) d.tr
  · rw [h2, upd_ne n2.symm]; exact d.he
/-! ### lay_cell -/
def sp_lay_cell (C : Addr) : Sp := fun vs H Q _ => ∃ (a dx : Addr) (f : PF) (st : List (Nat × Nat × Nat)) (hpl : List (Nat × Nat)) (lus : List V) (l Cs : List (Nat × Nat)) (i c run : Nat) (e : Nat × Nat), vs = [.ref a, .int i, .int c, .int run] ∧ Dyn C H a dx f st hpl lus l ∧ PairsL H f.ch Cs ∧ Cs[i]? = some e ∧ f.ch ≠ f.ld ∧
  c ∉ Sm11.places hpl ∧ l.length ≤ 1000 ∧ st.length ≤ 1000 ∧ ∀ H' lus' l', Keeps [a, f.hp, f.ld] H H' → Dyn C H' a dx { f with nf := nx c f.nf } ((i, c, run) :: st) (hpl ++ [(c, e.2)]) lus' l' → Q .non H'
theorem ok_lay_cell (T : Top K mg) : FnOk P w K mg base CX0 1 T.f_PlainWorlds_lay_cell T.fd_PlainWorlds_lay_cell ["self", "which", "place", "count"] (sp_lay_cell T.C_PlainWorlds) := by
  refine T.F_PlainWorlds_lay_cell.ok sc_PlainWorlds_lay_cell (fun vs H Q E h => ?_) (fun cdv A outer s H vs Q E hr h => ?_)
  · obtain ⟨_, _, _, _, _, _, _, _, _, _, _, _, rfl, _⟩ := h
    rfl
  · obtain ⟨a, dx, f, st, hpl, lus, l, Cs, i, c, run, e, rfl, D, ⟨cus, hc, hcp⟩, hi, hcl, nc, hl, hst, q⟩ := h
    refine ⟨_, (pss_cons (ps_dput (hu_of hr) (pe_fld (pv 0) rfl) (pv 2) (pe_ix (r := rIxT K) ix_tup (pe_ix (r := rIxL K) ix_list (pe_fld (pv 0) rfl) (pv 1) (fun _ _ => rfl)) pe_int (fun _ _ => rfl)) rfl)
        (pss_cons (ps_expr (pe_bm PySem.F.plainAttrs_list PySem.F.slot_list_append PySem.F.type_list_append mt_append (pe_fld (pv 0) rfl) (pa_cons (pe_tup (pa_cons (pv 1) (pa_cons (pv 2) (pa_cons (pv 3) pa_nil)))) pa_nil)))
        (pss_one (ps_if (pt_cmpR op_eq (pv 2) (pe_fld (pv 0) rfl) (nomark _))
          (pss_one (ps_fldaug (pv 0) pe_int in_add))
          pss_nil)))), ?_⟩
    obtain ⟨n1, n2, n3⟩ := D.ne
    obtain ⟨v1, hv1⟩ : ∃ v1, cus[i]? = some v1 := ⟨cus[i]'(by rw [hcp.length]; exact (List.getElem?_eq_some_iff.mp hi).1), List.getElem?_eq_getElem _⟩
    obtain ⟨e', he', r, rfl, hr1⟩ := hcp.at hv1
    rw [hi] at he'
    obtain rfl := Option.some.inj he'
    refine ⟨_, rfl, a, _, dx, _, _, rfl, D.ob, T.cl_PlainWorlds, T.no_PlainWorlds_chains, f.l_chains, _, rfl, f.ch, cus, _, _, rfl, rfl, SqL.of hc, atI_nat hv1, r, _, 1, _, rfl, rfl, SqT.of hr1, atI_nat (j := 1) rfl, ?_⟩
    refine ⟨_, rfl, a, _, dx, _, _, rfl, D.ob, T.cl_PlainWorlds, T.no_PlainWorlds_heap, f.l_heap, _, rfl, f.hp, _, rfl, DPut.k (k := Sum.inl (c : Int)) D.he (by rw [List.length_map]; exact small1000 hl), ?_⟩
    rw [put_enc]
    have k1 : Keeps [a, f.hp, f.ld] H (upd H f.hp (.dK ((dput l c e.2).map encC))) := Keeps.upd (by simp)
    have D1 : Dyn T.C_PlainWorlds (upd H f.hp (.dK ((dput l c e.2).map encC))) a dx f st (hpl ++ [(c, e.2)]) lus (dput l c e.2) := by
      refine ⟨?_, ?_, k1.tris D.noTup D.tr, upd_same, D.lk.snoc nc⟩
      · rw [upd_ne n2]; exact D.ob
      · rw [upd_ne n3]; exact D.la
    generalize upd H f.hp (.dK ((dput l c e.2).map encC)) = H1 at k1 D1 ⊢
    refine ⟨_, rfl, a, _, dx, _, _, rfl, D1.ob, T.cl_PlainWorlds, T.no_PlainWorlds_laid, f.l_laid, .inl ⟨rfl, _, SqL.of D1.la⟩, _, rfl, _, rfl, _, rfl, (by show 3 ≤ sizeLine; decide), fun t ht => ?_⟩
    have es := same_upd (o := .tup [.int (i : Int), .int (c : Int), .int (run : Int)]) ht
    have hla2 := es _ _ D1.la
    have hlen : lus.length ≤ 1000 := by
      rw [D1.tr.length, List.length_map, List.length_reverse]
      exact hst
    refine ⟨f.ld, lus, _, rfl, rfl, hla2, small1000 hlen, ?_⟩
    have k2 : Keeps [a, f.hp, f.ld] H (upd (upd H1 t (.tup [.int (i : Int), .int (c : Int), .int (run : Int)])) f.ld (.lst (lus ++ [.ref t]))) := (k1.new ht).trans (Keeps.upd (by simp))
    have D2 : Dyn T.C_PlainWorlds (upd (upd H1 t (.tup [.int (i : Int), .int (c : Int), .int (run : Int)])) f.ld (.lst (lus ++ [.ref t]))) a dx f ((i, c, run) :: st) (hpl ++ [(c, e.2)]) (lus ++ [.ref t]) (dput l c e.2) := by
      refine ⟨?_, upd_same, ?_, ?_, D1.lk⟩
      · rw [upd_ne n1]; exact es _ _ D1.ob
      · rw [List.reverse_cons, List.map_append]
        exact TrisAt.upd hla2 (All2.snoc (D1.tr.same es) ⟨t, rfl, upd_same⟩)
      · rw [upd_ne n3.symm]; exact es _ _ D1.he
    generalize upd (upd H1 t (.tup [.int (i : Int), .int (c : Int), .int (run : Int)])) f.ld (.lst (lus ++ [.ref t])) = H2 at k2 D2 ⊢
    refine ⟨_, rfl, _, rfl, a, _, dx, _, _, rfl, D2.ob, T.cl_PlainWorlds, T.no_PlainWorlds_next_free, f.l_next_free, rfl, _, rfl, ?_⟩
    rw [dInt]
    by_cases hcn : c = f.nf
    · refine if_true_of (decide_eq_true (by omega)) ?_
      refine ⟨_, rfl, a, _, dx, _, _, rfl, D2.ob, T.cl_PlainWorlds, T.no_PlainWorlds_next_free, f.l_next_free, _, _, rfl, rfl, _, _, D2.ob, (by show 11 < 1000; decide), ?_⟩
      rw [show (V.int ((f.nf : Int) + 1)) = V.int ((f.nf + 1 : Nat) : Int) by rfl, f.p_next_free]
      have e2 : nx c f.nf = f.nf + 1 := if_pos hcn
      rw [← e2]
      exact q _ _ _ (k2.trans (Keeps.upd (by simp))) (D2.setF rfl rfl)
    · refine if_false_of (decide_eq_false (by omega)) ?_
      have e2 : nx c f.nf = f.nf := if_neg hcn
      refine q H2 (lus ++ [.ref t]) (dput l c e.2) k2 ?_
      rw [e2]
      exact D2
/-! ### take_up_last_cell -/
def sp_take_up (C : Addr) : Sp := fun vs H Q _ => ∃ (a dx : Addr) (f : PF) (st : List (Nat × Nat × Nat)) (hpl : List (Nat × Nat)) (lus : List V) (l : List (Nat × Nat)) (i c run v : Nat), vs = [.ref a] ∧ Dyn C H a dx f ((i, c, run) :: st) (hpl ++ [(c, v)]) lus l ∧ c ∉ Sm11.places hpl ∧
  ∀ H' lus' l', Keeps [a, f.hp, f.ld] H H' → Dyn C H' a dx { f with nf := if f.ff ≤ c then c else f.nf } st hpl lus' l' → Q .non H'
theorem All2.unsnoc {α β : Type} {R : α → β → Prop} : ∀ {l : List α} {m : List β} {b : β}, All2 R l (m ++ [b]) → ∃ l' a, l = l' ++ [a] ∧ All2 R l' m ∧ R a b
  | _, [], b, .cons h .nil => ⟨[], _, rfl, .nil, h⟩
  | _, _ :: m, b, .cons h r => by
    obtain ⟨l', a, rfl, r', h'⟩ := All2.unsnoc r
    exact ⟨_ :: l', a, rfl, .cons h r', h'⟩
theorem ok_take_up (T : Top K mg) : FnOk P w K mg base CX0 1 T.f_PlainWorlds_take_up_last_cell T.fd_PlainWorlds_take_up_last_cell ["self"] (sp_take_up T.C_PlainWorlds) := by
  refine T.F_PlainWorlds_take_up_last_cell.ok sc_PlainWorlds_take_up_last_cell (fun vs H Q E h => ?_) (fun cdv A outer s H vs Q E hr h => ?_)
  · obtain ⟨_, _, _, _, _, _, _, _, _, _, _, rfl, _⟩ := h
    rfl
  · obtain ⟨a, dx, f, st, hpl, lus, l, i, c, run, v, rfl, D, nc, q⟩ := h
    refine ⟨_, (pss_cons (ps_set (i := 1) sc_PlainWorlds_take_up_last_cell.nd rfl (Or.inl rfl) (pe_ix (r := rIxT K) ix_tup (pe_bm0 PySem.F.plainAttrs_list PySem.F.slot_list_pop PySem.F.type_list_pop mt_pop (pe_fld (pv 0) rfl)) pe_int (fun _ _ => rfl)))
        (pss_cons (ps_expr (pe_dpop1 (pe_fld (pv 0) rfl) (pv 1) ⟨rfl, rfl, rfl, rfl⟩))
        (pss_one (ps_if (pt_cmpR op_ge (pv 1) (pe_fld (pv 0) rfl) (nomark _))
          (pss_one (ps_fld (pv 0) (pv 1) rfl))
          pss_nil)))), ?_⟩
    obtain ⟨n1, n2, n3⟩ := D.ne
    have tr := D.tr
    rw [List.reverse_cons, List.map_append] at tr
    obtain ⟨lus0, x, rfl, tr0, r, rfl, hr0⟩ := All2.unsnoc tr
    refine ⟨_, rfl, a, _, dx, _, _, rfl, D.ob, T.cl_PlainWorlds, T.no_PlainWorlds_laid, f.l_laid, .inl ⟨rfl, _, SqL.of D.la⟩, f.ld, _, .ref r, rfl, rfl, D.la, by simp, ?_⟩
    rw [List.dropLast_concat]
    have k1 : Keeps [a, f.hp, f.ld] H (upd H f.ld (.lst lus0)) := Keeps.upd (by simp)
    have hr1 : (upd H f.ld (.lst lus0)) r = some (.tup [.int i, .int c, .int run]) := k1 _ _ hr0 (fun z => D.noTup r z _ hr0)
    have D1 : Dyn T.C_PlainWorlds (upd H f.ld (.lst lus0)) a dx f st (hpl ++ [(c, v)]) lus0 l := by
      refine ⟨?_, upd_same, k1.tris D.noTup tr0, ?_, D.lk⟩
      · rw [upd_ne n1]; exact D.ob
      · rw [upd_ne n3.symm]; exact D.he
    generalize upd H f.ld (.lst lus0) = H1 at k1 hr1 D1 ⊢
    refine ⟨r, _, 1, _, rfl, rfl, SqT.of hr1, atI_nat (j := 1) rfl, ?_⟩
    refine ⟨_, rfl, a, _, dx, _, _, rfl, D1.ob, T.cl_PlainWorlds, T.no_PlainWorlds_heap, f.l_heap, f.hp, rfl, .inl ⟨_, .inl D1.he⟩, _, rfl, _, Sum.inl (c : Int), .int (v : Nat), D1.he, rfl, ?_, ?_⟩
    · rw [valV_enc, D1.lk.at_, at_last nc, if_pos rfl]
      rfl
    rw [drop_enc]
    have k2 : Keeps [a, f.hp, f.ld] H (upd H1 f.hp (.dK ((l.filter fun d => d.1 != c).map encC))) := k1.trans (Keeps.upd (by simp))
    have D2 : Dyn T.C_PlainWorlds (upd H1 f.hp (.dK ((l.filter fun d => d.1 != c).map encC))) a dx f st hpl lus0 (l.filter fun d => d.1 != c) := by
      refine ⟨?_, ?_, (Keeps.upd (F := [a, f.hp, f.ld]) (by simp)).tris D1.noTup D1.tr, upd_same, D1.lk.pop nc⟩
      · rw [upd_ne n2]; exact D1.ob
      · rw [upd_ne n3]; exact D1.la
    generalize upd H1 f.hp (.dK ((l.filter fun d => d.1 != c).map encC)) = H2 at k2 D2 ⊢
    refine ⟨_, rfl, _, rfl, a, _, dx, _, _, rfl, D2.ob, T.cl_PlainWorlds, T.no_PlainWorlds_first_free, f.l_first_free, _, _, rfl, rfl, _, rfl, ?_⟩
    by_cases hc : f.ff ≤ c
    · refine if_true_of (decide_eq_true (by omega)) ⟨_, rfl, _, rfl, a, _, dx, _, rfl, D2.ob, T.cl_PlainWorlds, T.no_PlainWorlds_next_free, (by show 11 < 1000; decide), ?_⟩
      rw [f.p_next_free]
      have := q _ _ _ (k2.trans (Keeps.upd (by simp))) (D2.setF (f' := { f with nf := if f.ff ≤ c then c else f.nf }) rfl rfl)
      rw [if_pos hc] at this
      exact this
    · refine if_false_of (decide_eq_false (by omega)) ?_
      have := q H2 lus0 (l.filter fun d => d.1 != c) k2
      rw [if_neg hc] at this
      exact this D2
/-! ### number_next -/
def cand (e : Nat) (us : List Nat) (v c : Nat) : Bool := c != 0 && (c != e && !us.contains c) && (decide (v = e) || decide (v < c))
theorem aft_eq (pas : List Nat) (e : Nat) (us : List Nat) (W most run p v : Nat) : aft pas e us W most run p v = if W ≤ v then [] else pas.filter (cand e us v) ++ (if run < most then [p] else []) := by
  unfold aft
  split
  · rfl
  · congr 1
    unfold opts cand
    split
    · rename_i h
      refine List.filter_congr fun c _ => ?_
      rw [decide_eq_true h]
      simp
    · rename_i h
      rw [List.filter_filter]
      refine List.filter_congr fun c _ => ?_
      rw [decide_eq_false h, Bool.false_or, Bool.and_comm]
def optV : Option Nat → V
  | none => .non
  | some n => .int n
def sp_number_next (C : Addr) : Sp := fun vs H Q _ => ∃ (a dx : Addr) (f : PF) (pas : List Nat) (l hp : List (Nat × Nat)) (v e run : Nat), vs = [.ref a, .int v, .int e, .int run] ∧ H a = some (.ins C dx f.fl) ∧ H f.pa = some (.lst (natV pas)) ∧ (∀ c ∈ pas, c ≠ 0) ∧ H f.hp = some (.dK (l.map encC)) ∧ Like l hp ∧
  Q (optV (aft pas e (Sm11.places hp) f.ff f.most run f.nf v).head?) H
def nnW (a : Addr) (f : PF) (pas : List Nat) (hp : List (Nat × Nat)) (v e run : Nat) (H : Hp) (i : Nat) (σ : L2.St) (H1 : Hp) : Prop := (∃ o4, σ = [some (.ref a), some (.int v), some (.int e), some (.int run), o4]) ∧ H1 = H ∧ (pas.take i).filter (cand e (Sm11.places hp) v) = []
theorem ok_number_next (T : Top K mg) : FnOk P w K mg base CX0 1 T.f_PlainWorlds_number_next T.fd_PlainWorlds_number_next ["self", "held", "end", "count"] (sp_number_next T.C_PlainWorlds) := by
  refine T.F_PlainWorlds_number_next.ok sc_PlainWorlds_number_next (fun vs H Q E h => ?_) (fun cdv A outer s H vs Q E hr h => ?_)
  · obtain ⟨_, _, _, _, _, _, _, _, _, rfl, _⟩ := h
    rfl
  · obtain ⟨a, dx, f, pas, l, hp, v, e, run, rfl, ho, hpa, p0, hd, lk, q⟩ := h
    refine ⟨_, (pss_cons (ps_if (pt_cmpR op_ge (pv 1) (pe_fld (pv 0) rfl) (nomark _))
          (pss_one (ps_ret pe_non))
          pss_nil)
        (pss_cons (ps_for PassesOwn.never rfl (pi_list (pe_fld (pv 0) rfl)) (pg_name (i := 4) sc_PlainWorlds_number_next.nd rfl (Or.inl rfl))
          (pss_one (ps_if (PW.pt (pw_and (pt_cmpR op_ne (pv 4) (pv 2) (nomark _)) (pw_and (pt_cmp (pc_dnotin (hu_of hr) (pv 4) (pe_fld (pv 0) rfl))) (pw_and1 (PW.pt (pw_or (pt_cmpR op_eq (pv 1) (pv 2) (nomark _)) (pw_or1 (pt_cmpR op_gt (pv 4) (pv 1) (nomark _)))))))))
            (pss_one (ps_ret (pv 4)))
            pss_nil)))
        (pss_one (ps_ret (pe_ifExp (pt_cmpR op_lt (pv 3) (pe_fld (pv 0) rfl) (nomark _)) (pe_fld (pv 0) rfl) pe_non))))), ?_⟩
    rw [aft_eq] at q
    refine ⟨_, rfl, _, rfl, a, _, dx, _, _, rfl, ho, T.cl_PlainWorlds, T.no_PlainWorlds_first_free, f.l_first_free, _, _, rfl, rfl, _, rfl, ?_⟩
    by_cases hw : f.ff ≤ v
    · rw [if_pos hw] at q
      exact if_true_of (decide_eq_true (by omega)) q
    · rw [if_neg hw] at q
      refine if_false_of (decide_eq_false (by omega)) ?_
      refine ⟨_, rfl, a, _, dx, _, _, rfl, ho, T.cl_PlainWorlds, T.no_PlainWorlds_passages, f.l_passages, f.pa, rfl, ⟨_, SqL.of hpa⟩, for_list (xs := natV pas) (nnW a f pas hp v e run H) ⟨⟨_, rfl⟩, rfl, rfl⟩ (fun i σ H1 _ z => by rw [z.2.1]; exact SqL.of hpa) ?_ ?_⟩
      · rintro i x σ H1 hi ⟨⟨o4, rfl⟩, rfl, hno⟩
        have hip : i < pas.length := by
          have := (List.getElem?_eq_some_iff.mp hi).1
          rwa [natV_len] at this
        rw [natV_at hip] at hi
        obtain rfl := Option.some.inj hi
        have hc : pas[i]? = some (pas.getD i 0) := by
          rw [List.getD_eq_getElem?_getD, List.getElem?_eq_getElem hip]
          rfl
        generalize pas.getD i 0 = c at hc ⊢
        have hcm := List.mem_of_getElem? hc
        have hc0 := p0 c hcm
        have hget : DGet H1 f.hp (.int c) ((Sm11.at_ hp c).map fun (v : Nat) => V.int v) := by
          have := DGet.k (k := Sum.inl (c : Int)) hd
          rw [valV_enc, lk.at_] at this
          exact this
        have hcand : cand e (Sm11.places hp) v c = (!decide (c = e) && ((Sm11.at_ hp c).isNone && (decide (v = e) || decide (v < c)))) := by
          unfold cand
          rw [show (c != 0) = true from bne_iff_ne.mpr hc0, Bool.true_and, Bool.and_assoc]
          congr 1
          congr 1
          rw [Bool.eq_iff_iff, Bool.not_eq_true', Option.isNone_iff_eq_none, at_none, Bool.eq_false_iff, ne_eq, List.contains_iff_mem]
        refine if_tests (cand e (Sm11.places hp) v c) (· = H1) (fun Qb k => ?_) (fun H2 e2 => ?_)
        · have k := k H1 rfl
          rw [hcand] at k
          refine ⟨_, rfl, _, rfl, rfl, _, rfl, ?_⟩
          rw [dInt]
          by_cases h1 : c = e
          · rw [decide_eq_true h1] at k
            exact if_false_of (by simp [h1]) k
          · rw [decide_eq_false h1, Bool.not_false, Bool.true_and] at k
            refine if_true_of (by simp; omega) ⟨_, rfl, _, rfl, a, _, dx, _, _, rfl, ho, T.cl_PlainWorlds, T.no_PlainWorlds_heap, f.l_heap, f.hp, _, rfl, hget, _, rfl, ?_⟩
            cases h2 : Sm11.at_ hp c with
            | some x =>
              rw [h2] at k
              exact if_false_of rfl k
            | none =>
              rw [h2, Option.isNone_none, Bool.true_and] at k
              refine if_true_of rfl ⟨_, rfl, _, rfl, rfl, _, rfl, ?_⟩
              rw [dInt]
              by_cases h3 : v = e
              · rw [decide_eq_true h3, Bool.true_or] at k
                exact if_true_of (decide_eq_true (by omega)) k
              · rw [decide_eq_false h3, Bool.false_or] at k
                refine if_false_of (decide_eq_false (by omega)) ⟨_, rfl, _, rfl, _, _, rfl, rfl, _, rfl, ?_⟩
                rw [show decide ((v : Int) < (c : Int)) = decide (v < c) by
                  rw [Bool.eq_iff_iff, decide_eq_true_iff, decide_eq_true_iff]
                  omega]
                exact k
        · subst e2
          cases hcc : cand e (Sm11.places hp) v c with
          | true =>
            refine if_true_of rfl ⟨_, rfl, ?_⟩
            have hsplit : pas.filter (cand e (Sm11.places hp) v) = c :: (pas.drop (i + 1)).filter (cand e (Sm11.places hp) v) := by
              conv => lhs; rw [← List.take_append_drop (i + 1) pas, List.filter_append, take_snoc hc, List.filter_append, hno]
              simp [hcc]
            rw [hsplit] at q
            exact q
          | false =>
            refine if_false_of rfl ⟨⟨_, rfl⟩, rfl, ?_⟩
            rw [take_snoc hc, List.filter_append, hno]
            simp [hcc]
      · rintro σ H1 ⟨⟨o4, rfl⟩, rfl, hno⟩
        rw [natV_len, List.take_length] at hno
        rw [hno, List.nil_append] at q
        refine ⟨_, rfl, _, rfl, a, _, dx, _, _, rfl, ho, T.cl_PlainWorlds, T.no_PlainWorlds_most, f.l_most, _, _, rfl, rfl, _, rfl, ?_⟩
        by_cases hr0 : run < f.most
        · rw [if_pos hr0] at q
          exact if_true_of (decide_eq_true (by omega)) ⟨_, rfl, a, _, dx, _, _, rfl, ho, T.cl_PlainWorlds, T.no_PlainWorlds_next_free, f.l_next_free, q⟩
        · rw [if_neg hr0] at q
          exact if_false_of (decide_eq_false (by omega)) q
end Ph
namespace Ph
open PySem PySem.Spec PyProof.Rows L2
variable {P : Program} {w : World} {K : PySem.W.Frag} {mg : Str → Option Value} {base : Heap}
theorem Like.permN {l hp : List (Nat × Nat)} (k : Like l hp) (n : (Sm11.places hp).Nodup) : l.Perm hp := by
  refine perm_nodup (nodup_places k.nd) (nodup_places n) fun ⟨x, v⟩ => ?_
  rw [← at_mem k.nd, ← at_mem n, k.at_]
theorem Laid.stlen {pas : List Nat} {Cs hp0 : List (Nat × Nat)} {W most fu : Nat} {st : List (Nat × Nat × Nat)} {hp : List (Nat × Nat)} {p : Nat} {rem : List (List (Nat × Nat))} (h : Laid pas Cs hp0 W most fu st hp p rem) : st.length + hp0.length = hp.length := by
  induction h with
  | nil => simp
  | cons _ _ _ _ _ _ _ _ ih =>
    simp only [List.length_append, List.length_cons, List.length_nil]
    omega
section
variable (f : PF)
theorem PF.n_turn : List.lookup ("turn_last_cell" : Str) f.fl = none := by
  unfold PF.fl
  repeat (refine (lk_past (by decide +kernel)).trans ?_)
  rfl
theorem PF.n_take : List.lookup ("take_up_last_cell" : Str) f.fl = none := by
  unfold PF.fl
  repeat (refine (lk_past (by decide +kernel)).trans ?_)
  rfl
theorem PF.n_begin : List.lookup ("begin" : Str) f.fl = none := by
  unfold PF.fl
  repeat (refine (lk_past (by decide +kernel)).trans ?_)
  rfl
theorem PF.n_lay_cell : List.lookup ("lay_cell" : Str) f.fl = none := by
  unfold PF.fl
  repeat (refine (lk_past (by decide +kernel)).trans ?_)
  rfl
theorem PF.n_lay_chains : List.lookup ("lay_chains" : Str) f.fl = none := by
  unfold PF.fl
  repeat (refine (lk_past (by decide +kernel)).trans ?_)
  rfl
theorem PF.n_number : List.lookup ("number_next" : Str) f.fl = none := by
  unfold PF.fl
  repeat (refine (lk_past (by decide +kernel)).trans ?_)
  rfl
theorem PF.n_go_on : List.lookup ("go_on" : Str) f.fl = none := by
  unfold PF.fl
  repeat (refine (lk_past (by decide +kernel)).trans ?_)
  rfl
end
/-- its part that stays while a row is gone through -/
structure Stat (H : Hp) (f : PF) (t : List Sm11.Fact) (vals : List Nat) : Prop where
  nm : NamesAt H f.nm vals
  ch : PairsL H f.ch (chainsT vals t)
  pa : H f.pa = some (.lst (natV (pasOf vals t)))
  d1 : f.ch ≠ f.ld
  d2 : f.pa ≠ f.ld
  d3 : f.nm ≠ f.ld
  ff : f.ff = Sm11.width vals
theorem Stat.keep {C : Addr} {H H' : Hp} {a dx : Addr} {f : PF} {st : List (Nat × Nat × Nat)} {hpl : List (Nat × Nat)} {lus : List V} {l : List (Nat × Nat)} {t : List Sm11.Fact} {vals : List Nat} (s : Stat H f t vals) (d : Dyn C H a dx f st hpl lus l) (k : Keeps [a, f.hp, f.ld] H H') (n : Nat) : Stat H' { f with nf := n } t vals := by
  obtain ⟨cus, c1, c2⟩ := s.ch
  have na : ∀ b xs, H b = some (.lst xs) → b ≠ f.ld → b ∉ [a, f.hp, f.ld] := fun b xs h h2 => by
    have e1 : b ≠ a := ne_of h d.ob (by intro z; cases z)
    have e2 : b ≠ f.hp := ne_of h d.he (by intro z; cases z)
    simp [e1, e2, h2]
  exact ⟨k _ _ s.nm (na _ _ s.nm s.d3), ⟨cus, k _ _ c1 (na _ _ c1 s.d1), k.pairs d.noTup c2⟩, k _ _ s.pa (na _ _ s.pa s.d2), s.d1, s.d2, s.d3, s.ff⟩
abbrev LawnR (vals : List Nat) (t : List Sm11.Fact) (most : Nat) : Prop := Lawn (pasOf vals t) (chainsT vals t) (cellsT vals t) (Sm11.width vals) most (fuel vals most)
abbrev LaidR (vals : List Nat) (t : List Sm11.Fact) (most : Nat) := Laid (pasOf vals t) (chainsT vals t) (cellsT vals t) (Sm11.width vals) most (fuel vals most)
abbrev genR (vals : List Nat) (t : List Sm11.Fact) (most : Nat) := gen (pasOf vals t) most (fuel vals most)
def Small (vals : List Nat) (t : List Sm11.Fact) (most : Nat) : Prop := (cellsT vals t).length + ((pasOf vals t).length + (chainsT vals t).length) * most ≤ 900
/-! ### lay_chains -/
def sp_lay_chains (C : Addr) : Sp := fun vs H Q _ => ∃ (a dx : Addr) (f : PF) (t : List Sm11.Fact) (vals : List Nat) (most i : Nat) (st : List (Nat × Nat × Nat)) (hpl : List (Nat × Nat)) (lus : List V) (l : List (Nat × Nat)) (rem : List (List (Nat × Nat))), vs = [.ref a, .int i] ∧ Dyn C H a dx f st hpl lus l ∧ Stat H f t vals ∧ LawnR vals t most ∧ Small vals t most ∧
  LaidR vals t most st hpl f.nf rem ∧ i ≤ (chainsT vals t).length ∧ (∀ i0 a0 r0 st', st = (i0, a0, r0) :: st' → i0 < i) ∧ (∀ j d, i ≤ j → (chainsT vals t)[j]? = some d → d.1 ∉ Sm11.places hpl) ∧
  ∀ H' st' hpl' lus' l' rem', Keeps [a, f.hp, f.ld] H H' → Dyn C H' a dx f st' hpl' lus' l' → LaidR vals t most st' hpl' f.nf rem' → genR vals t most ((chainsT vals t).drop i) hpl f.nf ++ rem = hpl' :: rem' → Q .non H'
def lcW (C a dx : Addr) (f : PF) (t : List Sm11.Fact) (vals : List Nat) (most i : Nat) (tot : List (List (Nat × Nat))) (H : Hp) (j : Nat) (σ : L2.St) (H1 : Hp) : Prop := ∃ (o2 : Option V) (st : List (Nat × Nat × Nat)) (hpl : List (Nat × Nat)) (lus : List V) (l : List (Nat × Nat)) (rem : List (List (Nat × Nat))), σ = [some (.ref a), some (.int i), o2] ∧ Keeps [a, f.hp, f.ld] H H1 ∧ Dyn C H1 a dx f st hpl lus l ∧
  LaidR vals t most st hpl f.nf rem ∧ (∀ i0 a0 r0 st', st = (i0, a0, r0) :: st' → i0 < i + j) ∧ (∀ j' d, i + j ≤ j' → (chainsT vals t)[j']? = some d → d.1 ∉ Sm11.places hpl) ∧ tot = genR vals t most ((chainsT vals t).drop (i + j)) hpl f.nf ++ rem
theorem ok_lay_chains (T : Top K mg) : FnOk P w K mg base CX0 2 T.f_PlainWorlds_lay_chains T.fd_PlainWorlds_lay_chains ["self", "first"] (sp_lay_chains T.C_PlainWorlds) := by
  have G_PlainWorlds_lay_cell : FnOk P w K mg base CX0 1 T.f_PlainWorlds_lay_cell T.fd_PlainWorlds_lay_cell ["self", "which", "place", "count"] (sp_lay_cell T.C_PlainWorlds) := ok_lay_cell T
  refine T.F_PlainWorlds_lay_chains.ok sc_PlainWorlds_lay_chains (fun vs H Q E h => ?_) (fun cdv A outer s H vs Q E hr h => ?_)
  · obtain ⟨_, _, _, _, _, _, _, _, _, _, _, _, rfl, _⟩ := h
    rfl
  · obtain ⟨a, dx, f, t, vals, most, i, st, hpl, lus, l, rem, rfl, D, S, L, sm, Y, hi, hix, hu, q⟩ := h
    refine ⟨_, (pss_one (ps_for PassesOwn.never rfl (pi_range2 (by rfl) T.n_range (pa_cons (pv 1) (pa_cons (pe_callB call_len_seq (by rfl) T.n_len PySem.boot_len (pa_cons (pe_fld (pv 0) rfl) pa_nil)) pa_nil))) (pg_name (i := 2) sc_PlainWorlds_lay_chains.nd rfl (Or.inl rfl))
          (pss_one (ps_expr (pe_meth (pv 0) T.cl_PlainWorlds T.m_PlainWorlds_lay_cell G_PlainWorlds_lay_cell (hr.mono (by decide)) T.b_PlainWorlds_lay_cell .nil pass0 (pa_cons (pv 2) (pa_cons (pe_ix (r := rIxT K) ix_tup (pe_ix (r := rIxL K) ix_list (pe_fld (pv 0) rfl) (pv 2) (fun _ _ => rfl)) pe_int (fun _ _ => rfl)) (pa_cons pe_int pa_nil)))))))), ?_⟩
    obtain ⟨cus, hc, hcp⟩ := S.ch
    have hcl : cus.length = (chainsT vals t).length := hcp.length
    have hcs : (chainsT vals t).length ≤ 900 := by
      have h1 := L.m1
      have h2 : (pasOf vals t).length + (chainsT vals t).length ≤ ((pasOf vals t).length + (chainsT vals t).length) * most := Nat.le_mul_of_pos_right _ h1
      unfold Small at sm
      omega
    refine ⟨_, rfl, _, rfl, a, _, dx, _, _, rfl, D.ob, T.cl_PlainWorlds, T.no_PlainWorlds_chains, f.l_chains, f.ch, cus, rfl, .inl (SqL.of hc), (i : Int), (cus.length : Int), rfl, ⟨by omega, by omega, by omega, by omega⟩, ?_⟩
    rw [show ((cus.length : Int) - (i : Int)).toNat = (chainsT vals t).length - i by omega]
    refine for_range (lo := (i : Int)) (n := (chainsT vals t).length - i) (lcW T.C_PlainWorlds a dx f t vals most i (genR vals t most ((chainsT vals t).drop i) hpl f.nf ++ rem) H) ?_ ?_ ?_
    · exact ⟨_, st, hpl, lus, l, rem, rfl, Keeps.refl, D, Y, hix, hu, rfl⟩
    · rintro j σ H1 hj ⟨o2, st1, hpl1, lus1, l1, rem1, rfl, k1, D1, Y1, hix1, hu1, ht1⟩
      have hij : i + j < (chainsT vals t).length := by omega
      obtain ⟨c, hc1⟩ : ∃ c, (chainsT vals t)[i + j]? = some c := ⟨_, List.getElem?_eq_getElem hij⟩
      obtain ⟨rem2, Y2, e2, hu2⟩ := Y1.lay L hc1 hix1 hu1
      obtain ⟨fr1, fr2, fr3⟩ := Y1.fresh L
      have S1 := S.keep D k1 f.nf
      obtain ⟨cus1, hc2, hcp1⟩ := S1.ch
      obtain ⟨v1, hv1⟩ : ∃ v1, cus1[i + j]? = some v1 := ⟨cus1[i + j]'(by rw [hcp1.length]; exact hij), List.getElem?_eq_getElem _⟩
      obtain ⟨c', hc', r, rfl, hr1⟩ := hcp1.at hv1
      rw [hc1] at hc'
      obtain rfl := Option.some.inj hc'
      rw [show ((i : Int) + (j : Int)) = ((i + j : Nat) : Int) by omega]
      have hlen : l1.length ≤ 1000 := by
        rw [(D1.lk.permN fr2).length_eq]
        have := Y1.len
        unfold Small at sm
        omega
      have hstl : st1.length ≤ 1000 := by
        have := Y1.stlen
        have := Y1.len
        unfold Small at sm
        omega
      have hnx : nx c.1 f.nf = f.nf := if_neg (by
        have := (L.csW c (List.mem_of_getElem? hc1)).1
        omega)
      refine ⟨_, rfl, a, dx, _, rfl, D1.ob, f.n_lay_cell, _, rfl, _, rfl, a, _, dx, _, _, rfl, D1.ob, T.cl_PlainWorlds, T.no_PlainWorlds_chains, f.l_chains, _, rfl, f.ch, cus1, _, _, rfl, rfl, SqL.of hc2, atI_nat hv1, r, _, 0, _, rfl, rfl, SqT.of hr1, atI_nat (j := 0) rfl, ?_⟩
      refine ⟨a, dx, f, st1, hpl1, lus1, l1, chainsT vals t, i + j, c.1, 1, c, rfl, D1, ⟨cus1, hc2, hcp1⟩, hc1, S.d1, hu1 (i + j) c (Nat.le_refl _) hc1, hlen, hstl, fun H2 lus2 l2 k2 D2 => ?_⟩
      rw [hnx] at D2
      refine ⟨_, _, _, lus2, l2, rem2, rfl, k1.trans k2, D2, Y2, fun i0 a0 r0 st' z => ?_, hu2, ?_⟩
      · injection z with z _
        injection z with z _
        omega
      · rw [ht1]
        exact e2
    · rintro σ H1 ⟨o2, st1, hpl1, lus1, l1, rem1, rfl, k1, D1, Y1, hix1, hu1, ht1⟩
      rw [show i + ((chainsT vals t).length - i) = (chainsT vals t).length by omega, List.drop_length] at ht1
      exact q H1 st1 hpl1 lus1 l1 rem1 k1 D1 Y1 ht1
/-! ### turn_last_cell -/
def sp_turn (C : Addr) : Sp := fun vs H Q _ => ∃ (a dx : Addr) (f : PF) (t : List Sm11.Fact) (vals : List Nat) (i c run : Nat) (st : List (Nat × Nat × Nat)) (hpl : List (Nat × Nat)) (lus : List V) (l : List (Nat × Nat)) (rem : List (List (Nat × Nat))), vs = [.ref a] ∧ Dyn C H a dx f ((i, c, run) :: st) hpl lus l ∧ Stat H f t vals ∧ LawnR vals t f.most ∧ Small vals t f.most ∧
  LaidR vals t f.most ((i, c, run) :: st) hpl f.nf rem ∧
  (∀ hp v p0, hpl = hp ++ [(c, v)] → c ∉ Sm11.places hp → f.nf = nx c p0 → (c = p0 ∨ c < Sm11.width vals) → Sm11.width vals ≤ p0 → LaidR vals t f.most st hp p0 rem → Q (.bl false) H) ∧
  (∀ H' st' hpl' lus' l' p' rem', Keeps [a, f.hp, f.ld] H H' → Dyn C H' a dx { f with nf := p' } st' hpl' lus' l' → LaidR vals t f.most st' hpl' p' rem' → rem = hpl' :: rem' → Q (.bl true) H')
theorem ok_turn (T : Top K mg) : FnOk P w K mg base CX0 3 T.f_PlainWorlds_turn_last_cell T.fd_PlainWorlds_turn_last_cell ["self"] (sp_turn T.C_PlainWorlds) := by
  have G_PlainWorlds_lay_cell : FnOk P w K mg base CX0 1 T.f_PlainWorlds_lay_cell T.fd_PlainWorlds_lay_cell ["self", "which", "place", "count"] (sp_lay_cell T.C_PlainWorlds) := ok_lay_cell T
  have G_PlainWorlds_lay_chains : FnOk P w K mg base CX0 2 T.f_PlainWorlds_lay_chains T.fd_PlainWorlds_lay_chains ["self", "first"] (sp_lay_chains T.C_PlainWorlds) := ok_lay_chains T
  have G_PlainWorlds_number_next : FnOk P w K mg base CX0 1 T.f_PlainWorlds_number_next T.fd_PlainWorlds_number_next ["self", "held", "end", "count"] (sp_number_next T.C_PlainWorlds) := ok_number_next T
  refine T.F_PlainWorlds_turn_last_cell.ok sc_PlainWorlds_turn_last_cell (fun vs H Q E h => ?_) (fun cdv A outer s H vs Q E hr h => ?_)
  · obtain ⟨_, _, _, _, _, _, _, _, _, _, _, _, _, rfl, _⟩ := h
    rfl
  · obtain ⟨a, dx, f, t, vals, i, c, run, st, hpl, lus, l, rem, rfl, D, S, L, sm, Y, q1, q2⟩ := h
    refine ⟨_, (pss_cons (ps_set (i := 1) sc_PlainWorlds_turn_last_cell.nd rfl (Or.inl rfl) (pe_ix (r := rIxL K) ix_list (pe_fld (pv 0) rfl) (pe_un un_neg pe_int) (fun _ _ => rfl)))
        (pss_cons (ps_set (i := 2) sc_PlainWorlds_turn_last_cell.nd rfl (Or.inl rfl) (pe_meth (pv 0) T.cl_PlainWorlds T.m_PlainWorlds_number_next G_PlainWorlds_number_next (hr.mono (by decide)) T.b_PlainWorlds_number_next .nil pass0 (pa_cons (pe_dget (hu_of hr) (pe_fld (pv 0) rfl) (pe_ix (r := rIxT K) ix_tup (pv 1) pe_int (fun _ _ => rfl)) (fun _ _ => rfl)) (pa_cons (pe_ix (r := rIxT K) ix_tup (pe_ix (r := rIxL K) ix_list (pe_fld (pv 0) rfl) (pe_ix (r := rIxT K) ix_tup (pv 1) pe_int (fun _ _ => rfl)) (fun _ _ => rfl)) pe_int (fun _ _ => rfl)) (pa_cons (pe_ix (r := rIxT K) ix_tup (pv 1) pe_int (fun _ _ => rfl)) pa_nil)))))
        (pss_cons (ps_if (pt_cmpR op_isN (pv 2) pe_non (nomark _))
          (pss_one (ps_ret pe_bl))
          pss_nil)
        (pss_cons (ps_dput (hu_of hr) (pe_fld (pv 0) rfl) (pe_ix (r := rIxT K) ix_tup (pv 1) pe_int (fun _ _ => rfl)) (pv 2) rfl)
        (pss_cons (ps_expr (pe_meth (pv 0) T.cl_PlainWorlds T.m_PlainWorlds_lay_cell G_PlainWorlds_lay_cell (hr.mono (by decide)) T.b_PlainWorlds_lay_cell .nil pass0 (pa_cons (pe_ix (r := rIxT K) ix_tup (pv 1) pe_int (fun _ _ => rfl)) (pa_cons (pv 2) (pa_cons (pe_ifExp (pt_cmpR op_eq (pv 2) (pe_fld (pv 0) rfl) (nomark _)) (pe_op op_add (pe_ix (r := rIxT K) ix_tup (pv 1) pe_int (fun _ _ => rfl)) pe_int) pe_int) pa_nil)))))
        (pss_cons (ps_expr (pe_meth (pv 0) T.cl_PlainWorlds T.m_PlainWorlds_lay_chains G_PlainWorlds_lay_chains (hr.mono (by decide)) T.b_PlainWorlds_lay_chains .nil pass0 (pa_cons (pe_op op_add (pe_ix (r := rIxT K) ix_tup (pv 1) pe_int (fun _ _ => rfl)) pe_int) pa_nil)))
        (pss_one (ps_ret pe_bl)))))))), ?_⟩
    obtain ⟨n1, n2, n3⟩ := D.ne
    obtain ⟨hp, v, e, p0, rem0, rfl, he, hnf, nc, hcp, hWp, heW, hv, hcase⟩ := Y.turn L
    obtain ⟨fr1, fr2, fr3⟩ := Y.fresh L
    have tr := D.tr
    rw [List.reverse_cons, List.map_append] at tr
    obtain ⟨lus0, x, rfl, tr0, r, rfl, hr0⟩ := All2.unsnoc tr
    obtain ⟨cus, hc, hcpr⟩ := S.ch
    obtain ⟨v1, hv1⟩ : ∃ v1, cus[i]? = some v1 := ⟨cus[i]'(by rw [hcpr.length]; exact (List.getElem?_eq_some_iff.mp he).1), List.getElem?_eq_getElem _⟩
    obtain ⟨e', he', rc, rfl, hrc⟩ := hcpr.at hv1
    rw [he] at he'
    obtain rfl := Option.some.inj he'
    have hlen : l.length ≤ 900 := by
      rw [(D.lk.permN fr2).length_eq]
      have := Y.len
      unfold Small at sm
      omega
    have hstl := Y.stlen
    have hYl := Y.len
    have hget : DGet H f.hp (.int c) (some (.int (v : Nat))) := by
      have := DGet.k (k := Sum.inl (c : Int)) D.he
      rw [valV_enc, D.lk.at_, at_last nc, if_pos rfl] at this
      exact this
    have aftE : aft (pasOf vals t) e.2 (Sm11.places (hp ++ [(c, v)])) f.ff f.most run f.nf v = aft (pasOf vals t) e.2 (c :: Sm11.places hp) (Sm11.width vals) f.most run f.nf v := by
      rw [S.ff]
      unfold aft
      rw [opts_us (us' := c :: Sm11.places hp) (fun x _ => by
        rw [show Sm11.places (hp ++ [(c, v)]) = Sm11.places hp ++ [c] by simp [Sm11.places], List.mem_append, List.mem_singleton, List.mem_cons]
        exact Or.comm)]
    refine ⟨_, rfl, a, _, dx, _, _, rfl, D.ob, T.cl_PlainWorlds, T.no_PlainWorlds_laid, f.l_laid, 1, rfl, f.ld, _, -1, .ref r, rfl, rfl, SqL.of D.la, atI_last _ _, ?_⟩
    refine ⟨_, rfl, a, dx, _, rfl, D.ob, f.n_number, ?_⟩
    refine ⟨_, rfl, a, _, dx, _, _, rfl, D.ob, T.cl_PlainWorlds, T.no_PlainWorlds_heap, f.l_heap, _, rfl, r, _, 1, _, rfl, rfl, SqT.of hr0, atI_nat (j := 1) rfl, f.hp, _, rfl, hget, ?_⟩
    refine ⟨_, rfl, a, _, dx, _, _, rfl, D.ob, T.cl_PlainWorlds, T.no_PlainWorlds_chains, f.l_chains, _, rfl, r, _, 0, _, rfl, rfl, SqT.of hr0, atI_nat (j := 0) rfl, f.ch, cus, _, _, rfl, rfl, SqL.of hc, atI_nat hv1, rc, _, 1, _, rfl, rfl, SqT.of hrc, atI_nat (j := 1) rfl, ?_⟩
    refine ⟨_, rfl, r, _, 2, _, rfl, rfl, SqT.of hr0, atI_nat (j := 2) rfl, ?_⟩
    refine ⟨a, dx, f, pasOf vals t, l, hp ++ [(c, v)], v, e.2, run, rfl, D.ob, S.pa, fun y hy => (L.pasW y hy).2, D.he, D.lk, ?_⟩
    rw [aftE]
    rcases hcase with ⟨ha, Y0, rfl⟩ | ⟨n, tl, rem2, ha, nn, Y2, er, hu2⟩
    · rw [ha]
      refine ⟨_, rfl, rfl, _, rfl, if_true_of rfl ?_⟩
      exact q1 hp v p0 rfl nc hnf hcp hWp Y0
    · rw [ha, show optV (List.head? (n :: tl)) = V.int (n : Int) from rfl]
      refine ⟨_, rfl, rfl, _, rfl, if_false_of rfl ?_⟩
      -- heap[cell[1]] = number
      refine ⟨_, rfl, _, rfl, a, _, dx, _, _, rfl, D.ob, T.cl_PlainWorlds, T.no_PlainWorlds_heap, f.l_heap, _, rfl, r, _, 1, _, rfl, rfl, SqT.of hr0, atI_nat (j := 1) rfl, f.hp, _, rfl, DPut.k (k := Sum.inl (c : Int)) (v := .int (n : Nat)) D.he (by rw [List.length_map]; exact small1000 (by omega)), ?_⟩
      rw [put_enc]
      have k1 : Keeps [a, f.hp, f.ld] H (upd H f.hp (.dK ((dput l c n).map encC))) := Keeps.upd (by simp)
      have hr1 : (upd H f.hp (.dK ((dput l c n).map encC))) r = some (.tup [.int i, .int c, .int run]) := k1 _ _ hr0 (fun z => D.noTup r z _ hr0)
      have D1 : Dyn T.C_PlainWorlds (upd H f.hp (.dK ((dput l c n).map encC))) a dx f ((i, c, run) :: st) (hp ++ [(c, n)]) (lus0 ++ [.ref r]) (dput l c n) := by
        refine ⟨?_, ?_, k1.tris D.noTup D.tr, upd_same, D.lk.last nc n⟩
        · rw [upd_ne n2]; exact D.ob
        · rw [upd_ne n3]; exact D.la
      have S1 := S.keep D k1 f.nf
      generalize upd H f.hp (.dK ((dput l c n).map encC)) = H1 at k1 hr1 D1 S1 ⊢
      have dlen : (dput l c n).length ≤ 1000 := by
        unfold dput
        split
        · rw [List.length_map]; omega
        · simp only [List.length_append, List.length_cons, List.length_nil]; omega
      -- lay_cell
      refine ⟨_, rfl, a, dx, _, rfl, D1.ob, f.n_lay_cell, ?_⟩
      refine ⟨_, rfl, r, _, 0, _, rfl, rfl, SqT.of hr1, atI_nat (j := 0) rfl, _, rfl, ?_⟩
      refine ⟨_, rfl, _, rfl, a, _, dx, _, _, rfl, D1.ob, T.cl_PlainWorlds, T.no_PlainWorlds_next_free, f.l_next_free, rfl, _, rfl, ?_⟩
      have lay : ∀ (H2 : Hp), H2 = H1 → sp_lay_cell T.C_PlainWorlds [.ref a, .int i, .int n, .int ((if n = f.nf then run + 1 else 1 : Nat) : Int)] H2 (fun v H3 => tSeq (tDrop (tMeth T.C_PlainWorlds "lay_chains" (sp_lay_chains T.C_PlainWorlds) [] E0 (tVar 0) (tCons (tOp (rI0 fun i j => .int (i + j)) (tOp (rIxT K) (tVar 1) (tC (.int 0))) (tC (.int 1))) tNil))) (tRet (tC (.bl true))) { nx := fun _ H' => Q .non H', rt := Q } [some (.ref a), some (.ref r), some (.int n)] H3) E0 := by
        rintro H2 rfl
        refine ⟨a, dx, f, (i, c, run) :: st, hp ++ [(c, n)], lus0 ++ [.ref r], dput l c n, chainsT vals t, i, n, (if n = f.nf then run + 1 else 1), e, rfl, D1, S1.ch, he, S.d1, nn, dlen, by simp only [List.length_cons] at hstl ⊢; unfold Small at sm; omega, fun H3 lus3 l3 k3 D3 => ?_⟩
        have k13 := k1.trans k3
        have hr3 : H3 r = some (.tup [.int i, .int c, .int run]) := k3 _ _ hr1 (fun z => D1.noTup r z _ hr1)
        have S3 := S1.keep D1 k3 (nx n f.nf)
        refine ⟨_, rfl, a, dx, _, rfl, D3.ob, PF.n_lay_chains _, ?_⟩
        refine ⟨_, rfl, r, _, 0, _, rfl, rfl, SqT.of hr3, atI_nat (j := 0) rfl, _, _, rfl, rfl, ?_⟩
        refine ⟨a, dx, { f with nf := nx n f.nf }, t, vals, f.most, i + 1, (i, n, (if n = f.nf then run + 1 else 1)) :: (i, c, run) :: st, hp ++ [(c, n)] ++ [(n, e.2)], lus3, l3, rem2, rfl, D3, S3, L, sm, Y2, ?_, fun i0 a0 r0 st' z => ?_, hu2, fun H4 st4 hpl4 lus4 l4 rem4 k4 D4 Y4 e4 => ?_⟩
        · exact (List.getElem?_eq_some_iff.mp he).1
        · injection z with z _
          injection z with z _
          omega
        · refine q2 H4 st4 hpl4 lus4 l4 (nx n f.nf) rem4 (k13.trans k4) D4 Y4 ?_
          rw [er]
          exact e4
      by_cases hn : n = f.nf
      · refine if_true_of (show decide (V.int (n : Int) = V.int (f.nf : Int)) = true by rw [dInt]; exact decide_eq_true (by omega)) ⟨_, rfl, r, _, 2, _, rfl, rfl, SqT.of hr1, atI_nat (j := 2) rfl, _, _, rfl, rfl, ?_⟩
        have := lay H1 rfl
        rw [if_pos hn] at this
        exact this
      · refine if_false_of (show decide (V.int (n : Int) = V.int (f.nf : Int)) = false by rw [dInt]; exact decide_eq_false (by omega)) ?_
        have := lay H1 rfl
        rw [if_neg hn] at this
        exact this
end Ph
namespace Ph
open PySem PySem.Spec PyProof.Rows L2
variable {P : Program} {w : World} {K : PySem.W.Frag} {mg : Str → Option Value} {base : Heap}
theorem pe_fldK {X : Cx} {K : PySem.W.Frag} {e : Expr} {f : Str} {pos : Pos} {ta : TE} (he : PE X e ta) (hb : attributeBase e f X.env (eval e X.env) = eval e X.env) (hK : X.K = K := by rfl) : PE X (.Attribute e f pos) (tFld K ta f) := by
  subst hK
  exact pe_fld he hb
def rLenK (K : PySem.W.Frag) : List V → Hp → VK → Prop := fun xs H Q => ∃ (p : Addr) (ys : List V), xs = [.ref p] ∧ (SqL K H p ys ∨ SqT K H p ys) ∧ Q (.int ys.length) H
/-! ### all but an object's own place -/
section
variable {H H' : Hp} {a C dx : Addr} {fl : List (Str × V)}
theorem notIns {b : Addr} {o : HO} (ha : H a = some (.ins C dx fl)) (hb : H b = some o) (h : ∀ C dx fl, o ≠ .ins C dx fl) : b ∉ [a] := by
  intro z
  rw [List.mem_singleton.mp z, ha] at hb
  injection hb with hb
  exact h _ _ _ hb.symm
theorem tupA (ha : H a = some (.ins C dx fl)) : ∀ b ∈ [a], ∀ xs, H b ≠ some (.tup xs) := fun b hb xs z => notIns ha z (fun _ _ _ y => by cases y) hb
theorem TellAt.keepA {t : Addr} {l : List Sm11.Fact} (s : TellAt H t l) (ha : H a = some (.ins C dx fl)) (k : Keeps [a] H H') : TellAt H' t l := by
  obtain ⟨us, x, y⟩ := s
  exact ⟨us, k _ _ x (notIns ha x fun _ _ _ y => by cases y), k.tris (tupA ha) y⟩
theorem PairsL.keepA {t : Addr} {l : List (Nat × Nat)} (s : PairsL H t l) (ha : H a = some (.ins C dx fl)) (k : Keeps [a] H H') : PairsL H' t l := by
  obtain ⟨us, x, y⟩ := s
  exact ⟨us, k _ _ x (notIns ha x fun _ _ _ y => by cases y), k.pairs (tupA ha) y⟩
theorem lstA {b : Addr} {xs : List V} (hb : H b = some (.lst xs)) (ha : H a = some (.ins C dx fl)) (k : Keeps [a] H H') : H' b = some (.lst xs) := k _ _ hb (notIns ha hb fun _ _ _ y => by cases y)
theorem dKA {b : Addr} {xs : List (Key × V)} (hb : H b = some (.dK xs)) (ha : H a = some (.ins C dx fl)) (k : Keeps [a] H H') : H' b = some (.dK xs) := k _ _ hb (notIns ha hb fun _ _ _ y => by cases y)
end
theorem keepsA {a : Addr} {H : Hp} {o : HO} : Keeps [a] H (upd H a o) := Keeps.upd (by simp)
theorem merge_enc : ∀ (cs acc : List (Nat × Nat)), (Sm11.places (acc ++ cs)).Nodup → mergeK (acc.map encC) (cs.map encC) = (acc ++ cs).map encC
  | [], acc, _ => by simp [mergeK]
  | c :: cs, acc, h => by
    have hc : c.1 ∉ Sm11.places acc := by
      intro z
      rw [show Sm11.places (acc ++ c :: cs) = Sm11.places acc ++ (c.1 :: Sm11.places cs) by simp [Sm11.places]] at h
      exact (List.nodup_append.mp h).2.2 c.1 z c.1 (by simp) rfl
    have e : putK (acc.map encC) (encC c).1 (encC c).2 = (acc ++ [c]).map encC := by
      show putK (acc.map encC) (Sum.inl (c.1 : Int)) (.int (c.2 : Nat)) = _
      rw [put_enc, dput, if_neg (fun z => hc (any_places.mp z))]
    have ih := merge_enc cs (acc ++ [c]) (by rw [List.append_assoc]; exact h)
    rw [List.map_cons]
    show mergeK (putK (acc.map encC) (encC c).1 (encC c).2) (cs.map encC) = _
    rw [e, ih, List.append_assoc]
    rfl
theorem paired_pairs {K : PySem.W.Frag} {H : Hp} : ∀ {us : List V} {cs : List (Nat × Nat)}, PairsAt H us cs → ∃ ps : List Addr, us = ps.map V.ref ∧ Paired (fun p kv => SqT K H p [kV kv.1, kv.2]) ps (cs.map encC)
  | _, _, .nil => ⟨[], rfl, .nil⟩
  | _, _, .cons ⟨q, e, h⟩ r => by
    obtain ⟨ps, rfl, hp⟩ := paired_pairs r
    exact ⟨q :: ps, by rw [e]; rfl, .cons (SqT.of h) hp⟩
theorem pas_range (vals : List Nat) (t : List Sm11.Fact) : pasOf vals t = ((List.range (Sm11.width vals - 1)).map fun j => 1 + j).filter fun c => !(firsts vals t).contains c := by
  unfold pasOf
  cases hW : Sm11.width vals with
  | zero => rfl
  | succ n =>
    rw [List.range_succ_eq_map, List.filter_cons, if_neg (by simp)]
    rw [show n + 1 - 1 = n from rfl, List.filter_map, List.filter_map]
    rw [show (Nat.succ : Nat → Nat) = fun j => 1 + j from funext fun j => by omega]
    congr 1
    refine List.filter_congr fun j _ => ?_
    simp only [Function.comp]
    rw [show (1 + j != 0) = true from bne_iff_ne.mpr (by omega), Bool.true_and]
/-! ### begin -/
structure BeginIn (C : Addr) (H : Hp) (a dx nm : Addr) (f : PF) (t : List Sm11.Fact) (vals : List Nat) : Prop where
  ob : H a = some (.ins C dx f.fl)
  tl : TellAt H f.tl t
  ok : NamesOk t vals.length
  tz : t.length ≤ 8
  na : NamesAt H nm vals
  v0 : 0 ∈ vals
  v4 : ∀ x ∈ vals, x ≤ 4
  cb : canBe t vals = true
  m1 : 1 ≤ f.most
  sm : Small vals t f.most
  la : H f.ld = some (.lst [])
  d1 : nm ≠ f.ld
def sp_begin (C : Addr) : Sp := fun vs H Q _ => ∃ (a dx nm : Addr) (f : PF) (t : List Sm11.Fact) (vals : List Nat), vs = [.ref a, .ref nm] ∧ BeginIn C H a dx nm f t vals ∧
  ∀ H' f' st hpl lus l rem, Keeps [a, f.ld] H H' → H f'.hp = none → f'.tl = f.tl → f'.rw = f.rw → f'.nr = f.nr → f'.ld = f.ld → f'.most = f.most → Dyn C H' a dx f' st hpl lus l → Stat H' f' t vals → LaidR vals t f.most st hpl f'.nf rem → rowGen t f.most vals = hpl :: rem → Q .non H'
theorem ok_begin (T : Top K mg) : FnOk P w K mg base CX0 3 T.f_PlainWorlds_begin T.fd_PlainWorlds_begin ["self", "names"] (sp_begin T.C_PlainWorlds) := by
  have G_cells_told : FnOk P w K mg base CX0 1 T.f_cells_told T.fd_cells_told ["telling", "names"] (sp_told cellsT) := ok_cells_told T
  have G_chains_told : FnOk P w K mg base CX0 1 T.f_chains_told T.fd_chains_told ["telling", "names"] (sp_told chainsT) := ok_chains_told T
  have G_PlainWorlds_lay_chains : FnOk P w K mg base CX0 2 T.f_PlainWorlds_lay_chains T.fd_PlainWorlds_lay_chains ["self", "first"] (sp_lay_chains T.C_PlainWorlds) := ok_lay_chains T
  refine T.F_PlainWorlds_begin.ok sc_PlainWorlds_begin (fun vs H Q E h => ?_) (fun cdv A outer s H vs Q E hr h => ?_)
  · obtain ⟨_, _, _, _, _, _, rfl, _⟩ := h
    rfl
  · obtain ⟨a, dx, nm, f, t, vals, rfl, I, q⟩ := h
    refine ⟨_, (pss_cons (ps_fld (pv 0) (pv 1) rfl)
        (pss_cons (ps_fld (pv 0) (pe_callTy (call_dictP rfl) (by rfl) T.n_dict (by decide +kernel) (pa_cons (pe_call G_cells_told (hr.mono (by decide)) (by rfl) T.g_cells_told T.F_cells_told.kp T.b_cells_told .nil pass0 (pa_cons (pe_fld (pv 0) rfl) (pa_cons (pv 1) pa_nil))) pa_nil)) rfl)
        (pss_cons (ps_fld (pv 0) (pe_call G_chains_told (hr.mono (by decide)) (by rfl) T.g_chains_told T.F_chains_told.kp T.b_chains_told .nil pass0 (pa_cons (pe_fld (pv 0) rfl) (pa_cons (pv 1) pa_nil))) rfl)
        (pss_cons (ps_set (i := 2) sc_PlainWorlds_begin.nd rfl (Or.inr rfl) (pe_lc (own := [("ends", 3)]) (g := gName 3) (tt := tYes) rfl sc_PlainWorlds_begin.nd (pi_list (pe_fld (pv 0) rfl)) (blkOk_by (own := [("ends", 3)]) (N := ["self", "names", "firsts", "ends", "number"]) (sc := defScope s_PlainWorlds_begin) (by decide +kernel)) (fun _ _ _ _ _ => (pg_name (i := 3) sc_PlainWorlds_begin.nd rfl (Or.inl rfl))) (fun _ _ _ _ _ => pts_nil) (fun _ _ _ _ _ => (pe_ix (r := rIxT K) ix_tup (pv 3) pe_int (fun _ _ => rfl)))))
        (pss_cons (ps_fld (pv 0) (pe_op op_add (pe_callB (cr_max rfl) (by rfl) T.n_max (by decide +kernel) (pa_cons (pv 1) pa_nil)) pe_int) rfl)
        (pss_cons (ps_fld (pv 0) (pe_fld (pv 0) rfl) rfl)
        (pss_cons (ps_fld (pv 0) (pe_lc (own := [("number", 4)]) (g := gName 4) rfl sc_PlainWorlds_begin.nd (pi_range2 (by rfl) T.n_range (pa_cons pe_int (pa_cons (pe_fld (pv 0) rfl) pa_nil))) (blkOk_by (own := [("number", 4)]) (N := ["self", "names", "firsts", "ends", "number"]) (sc := defScope s_PlainWorlds_begin) (by decide +kernel)) (fun _ _ _ _ _ => (pg_name (i := 4) sc_PlainWorlds_begin.nd rfl (Or.inl rfl))) (fun _ _ _ _ _ => (pts_one (PW.pt (pw_and (pt_cmp (pc_dnotin (hu_of hr) (pv 4) (pe_fldK (K := K) (pv 0) rfl))) (pw_and1 (pt_cmpR (r := rIn K true) op_notIn_seq (pv 4) (pv 2) (by rfl))))))) (fun _ _ _ _ _ => (pv 4))) rfl)
        (pss_one (ps_expr (pe_meth (pv 0) T.cl_PlainWorlds T.m_PlainWorlds_lay_chains G_PlainWorlds_lay_chains (hr.mono (by decide)) T.b_PlainWorlds_lay_chains .nil pass0 (pa_cons pe_int pa_nil))))))))))), ?_⟩
    have L := lawn_of I.v0 I.cb I.m1
    have vlen : 0 < vals.length := List.length_pos_of_mem I.v0
    -- self.names = names
    refine ⟨_, rfl, _, rfl, a, _, dx, _, rfl, I.ob, T.cl_PlainWorlds, T.no_PlainWorlds_names, (by show 11 < 1000; decide), ?_⟩
    rw [f.p_names]
    have k1 : Keeps [a] H (upd H a (.ins T.C_PlainWorlds dx (PF.fl { f with nm := nm }))) := keepsA
    have ob1 : (upd H a (.ins T.C_PlainWorlds dx (PF.fl { f with nm := nm }))) a = some (.ins T.C_PlainWorlds dx (PF.fl { f with nm := nm })) := upd_same
    generalize upd H a (.ins T.C_PlainWorlds dx (PF.fl { f with nm := nm })) = H1 at k1 ob1 ⊢
    have tl1 := I.tl.keepA I.ob k1
    have nm1 : NamesAt H1 nm vals := lstA I.na I.ob k1
    -- self.heap = dict(cells_told(self.telling, names))
    refine ⟨_, rfl, a, _, dx, _, _, rfl, ob1, T.cl_PlainWorlds, T.no_PlainWorlds_telling, PF.l_telling _, _, rfl, f.tl, nm, t, vals, rfl, tl1, nm1, I.ok, by have := I.tz; omega, fun H2 p2 e2 _ hp2 => ?_⟩
    obtain ⟨us2, hu2, hup2⟩ := hp2
    obtain ⟨ps, rfl, hpp⟩ := paired_pairs (K := K) hup2
    have hnd : (Sm11.places (cellsT vals t)).Nodup := (List.nodup_append.mp L.nd).1
    refine ⟨p2, ps, _, rfl, SqL.of hu2, hpp, fun d3 hd3 => ?_⟩
    have em : mergeK [] ((cellsT vals t).map encC) = (cellsT vals t).map encC := merge_enc (cellsT vals t) [] hnd
    rw [em]
    have es3 := same_upd (o := .dK ((cellsT vals t).map encC)) hd3
    have hd3' : (upd H2 d3 (.dK ((cellsT vals t).map encC))) d3 = some (.dK ((cellsT vals t).map encC)) := upd_same
    have k3 : Keeps [a] H (upd H2 d3 (.dK ((cellsT vals t).map encC))) := (k1.trans (Keeps.of e2)).new hd3
    have ob3 := es3 _ _ (e2 _ _ ob1)
    have fd3 : H d3 = none := by
      cases z : H d3 with
      | none => rfl
      | some o =>
        by_cases y : d3 = a
        · rw [y] at hd3
          rw [e2 _ _ ob1] at hd3
          cases hd3
        · rw [e2 _ _ (k1 _ _ z (by simpa using y))] at hd3
          cases hd3
    generalize upd H2 d3 (.dK ((cellsT vals t).map encC)) = H3 at es3 hd3' k3 ob3 ⊢
    refine ⟨_, rfl, a, _, dx, _, rfl, ob3, T.cl_PlainWorlds, T.no_PlainWorlds_heap, (by show 11 < 1000; decide), ?_⟩
    rw [PF.p_heap]
    have k4 : Keeps [a] H3 (upd H3 a (.ins T.C_PlainWorlds dx (PF.fl { f with nm := nm, hp := d3 }))) := keepsA
    have ob4 : (upd H3 a (.ins T.C_PlainWorlds dx (PF.fl { f with nm := nm, hp := d3 }))) a = some (.ins T.C_PlainWorlds dx (PF.fl { f with nm := nm, hp := d3 })) := upd_same
    generalize upd H3 a (.ins T.C_PlainWorlds dx (PF.fl { f with nm := nm, hp := d3 })) = H4 at k4 ob4 ⊢
    have d4 := dKA hd3' ob3 k4
    have k04 := k3.trans k4
    -- self.chains = chains_told(self.telling, names)
    refine ⟨_, rfl, a, _, dx, _, _, rfl, ob4, T.cl_PlainWorlds, T.no_PlainWorlds_telling, PF.l_telling _, _, rfl, f.tl, nm, t, vals, rfl, I.tl.keepA I.ob k04, lstA I.na I.ob k04, I.ok, by have := I.tz; omega, fun H5 p5 e5 fp5 hp5 => ?_⟩
    have ob5 := e5 _ _ ob4
    refine ⟨_, rfl, a, _, dx, _, rfl, ob5, T.cl_PlainWorlds, T.no_PlainWorlds_chains, (by show 11 < 1000; decide), ?_⟩
    rw [PF.p_chains]
    have k6 : Keeps [a] H5 (upd H5 a (.ins T.C_PlainWorlds dx (PF.fl { f with nm := nm, hp := d3, ch := p5 }))) := keepsA
    have ob6 : (upd H5 a (.ins T.C_PlainWorlds dx (PF.fl { f with nm := nm, hp := d3, ch := p5 }))) a = some (.ins T.C_PlainWorlds dx (PF.fl { f with nm := nm, hp := d3, ch := p5 })) := upd_same
    generalize upd H5 a (.ins T.C_PlainWorlds dx (PF.fl { f with nm := nm, hp := d3, ch := p5 })) = H6 at k6 ob6 ⊢
    have d6 := dKA (e5 _ _ d4) ob5 k6
    have ch6 := hp5.keepA ob5 k6
    have k06 := (k04.trans (Keeps.of e5)).trans k6
    have la4 := lstA I.la I.ob k04
    have nch : p5 ≠ f.ld := (ne_of_none la4 fp5).symm
    -- firsts = [ends[0] for ends in self.chains]
    obtain ⟨cus, hcu, hcp⟩ := id ch6
    have clen : cus.length ≤ 1000 := by
      rw [hcp.length]
      have h2 : (pasOf vals t).length + (chainsT vals t).length ≤ ((pasOf vals t).length + (chainsT vals t).length) * f.most := Nat.le_mul_of_pos_right _ I.m1
      have := I.sm
      unfold Small at this
      omega
    refine ⟨_, rfl, a, _, dx, _, _, rfl, ob6, T.cl_PlainWorlds, T.no_PlainWorlds_chains, PF.l_chains _, p5, rfl, ⟨_, SqL.of hcu⟩, fun D hD => lc_list (K := K) (a := p5) (xs := cus) (fun i H' => Same H6 H' ∧ H' D = some (.lst (natV (Sm11.places ((chainsT vals t).take i))))) ?_ ?_ ?_ ?_⟩
    · exact ⟨same_upd hD, upd_same⟩
    · exact fun i H' _ z => SqL.of (z.1 _ _ hcu)
    · rintro i x H' hi ⟨e7, hA⟩
      obtain ⟨c, hc, r, rfl, hr0⟩ := hcp.at hi
      have hlen : (natV (Sm11.places ((chainsT vals t).take i))).length ≤ 1000 := by
        rw [natV_len, Sm11.places, List.length_map]
        refine Nat.le_trans (List.length_take_le' _ _) ?_
        rw [← hcp.length]
        exact clen
      refine ⟨rfl, ?_⟩
      dsimp only [tYes]
      rw [if_pos rfl]
      refine ⟨_, rfl, r, _, 0, _, rfl, rfl, SqT.of (e7 _ _ hr0), atI_nat (j := 0) rfl, _, hA, small1000 hlen, same_updL hD e7, ?_⟩
      rw [take_snoc hc, show Sm11.places ((chainsT vals t).take i ++ [c]) = Sm11.places ((chainsT vals t).take i) ++ [c.1] by simp [Sm11.places], natV_append]
      exact upd_same
    rintro H7 ⟨e7, hA⟩
    rw [hcp.length, List.take_length] at hA
    have ob7 := e7 _ _ ob6
    have k07 := k06.trans (Keeps.of e7)
    have nm7 : NamesAt H7 nm vals := lstA I.na I.ob k07
    -- self.first_free = max(names) + 1
    refine ⟨_, rfl, nm, natI vals, rfl, by rw [← natV_I]; exact SqL.of nm7, by unfold natI; rw [List.length_map]; exact vlen, fun mx hmx hle => ?_⟩
    obtain ⟨kx, hkx, rfl⟩ := mem_natI.mp hmx
    have hW : Sm11.width vals = kx + 1 := width_eq hkx fun y hy => by
      have := hle (y : Int) (mem_natI.mpr ⟨y, hy, rfl⟩)
      omega
    have hk4 := I.v4 kx hkx
    refine ⟨_, _, rfl, rfl, ?_⟩
    refine ⟨_, rfl, a, _, dx, _, rfl, ob7, T.cl_PlainWorlds, T.no_PlainWorlds_first_free, (by show 11 < 1000; decide), ?_⟩
    rw [show ((fun (i j : Int) => V.int (i + j)) (kx : Int) 1) = V.int ((Sm11.width vals : Nat) : Int) by rw [hW]; rfl, PF.p_first_free]
    have k8 : Keeps [a] H7 (upd H7 a (.ins T.C_PlainWorlds dx (PF.fl { f with nm := nm, hp := d3, ch := p5, ff := Sm11.width vals }))) := keepsA
    have ob8 : (upd H7 a (.ins T.C_PlainWorlds dx (PF.fl { f with nm := nm, hp := d3, ch := p5, ff := Sm11.width vals }))) a = some (.ins T.C_PlainWorlds dx (PF.fl { f with nm := nm, hp := d3, ch := p5, ff := Sm11.width vals })) := upd_same
    generalize upd H7 a (.ins T.C_PlainWorlds dx (PF.fl { f with nm := nm, hp := d3, ch := p5, ff := Sm11.width vals })) = H8 at k8 ob8 ⊢
    -- self.next_free = self.first_free
    refine ⟨_, rfl, a, _, dx, _, _, rfl, ob8, T.cl_PlainWorlds, T.no_PlainWorlds_first_free, PF.l_first_free _, _, rfl, a, _, dx, _, rfl, ob8, T.cl_PlainWorlds, T.no_PlainWorlds_next_free, (by show 11 < 1000; decide), ?_⟩
    rw [PF.p_next_free]
    have k9 : Keeps [a] H8 (upd H8 a (.ins T.C_PlainWorlds dx (PF.fl { f with nm := nm, hp := d3, ch := p5, ff := Sm11.width vals, nf := Sm11.width vals }))) := keepsA
    have ob9 : (upd H8 a (.ins T.C_PlainWorlds dx (PF.fl { f with nm := nm, hp := d3, ch := p5, ff := Sm11.width vals, nf := Sm11.width vals }))) a = some (.ins T.C_PlainWorlds dx (PF.fl { f with nm := nm, hp := d3, ch := p5, ff := Sm11.width vals, nf := Sm11.width vals })) := upd_same
    generalize upd H8 a (.ins T.C_PlainWorlds dx (PF.fl { f with nm := nm, hp := d3, ch := p5, ff := Sm11.width vals, nf := Sm11.width vals })) = H9 at k9 ob9 ⊢
    have k09 := (k07.trans k8).trans k9
    have d9 := dKA (dKA (e7 _ _ d6) ob7 k8) ob8 k9
    have fi9 := lstA (lstA hA ob7 k8) ob8 k9
    have ch9 := ((PairsL.same e7 ch6).keepA ob7 k8).keepA ob8 k9
    -- self.passages
    refine ⟨_, rfl, a, _, dx, _, _, rfl, ob9, T.cl_PlainWorlds, T.no_PlainWorlds_first_free, PF.l_first_free _, (1 : Int), (Sm11.width vals : Int), rfl, ⟨by omega, by omega, by omega, by omega⟩, fun D2 hD2 => ?_⟩
    rw [show ((Sm11.width vals : Int) - 1).toNat = Sm11.width vals - 1 by omega]
    have hfs : ∀ c, (firsts vals t).contains c = ((Sm11.at_ (cellsT vals t) c).isSome || (Sm11.places (chainsT vals t)).contains c) := by
      intro c
      rw [Bool.eq_iff_iff, Bool.or_eq_true, List.contains_iff_mem, List.contains_iff_mem, at_isSome, firsts, show Sm11.places (cellsT vals t ++ chainsT vals t) = Sm11.places (cellsT vals t) ++ Sm11.places (chainsT vals t) by simp [Sm11.places], List.mem_append]
    have in_natG : ∀ (c : Nat) (l : List Nat), inV (V.int (c : Int)) (natV l) = l.contains c := by
      intro c l
      rw [Bool.eq_iff_iff, List.contains_iff_mem]
      unfold inV natV
      rw [List.any_map, List.any_eq_true]
      constructor
      · rintro ⟨x, hx, h⟩
        have : (x : Int) = (c : Int) := eq_of_beq h
        have : x = c := by omega
        rw [← this]
        exact hx
      · intro h
        exact ⟨c, h, beq_self_eq_true (c : Int)⟩
    refine lc_range (lo := 1) (n := Sm11.width vals - 1) (fun j H' => Same H9 H' ∧ H' D2 = some (.lst (natV ((((List.range (Sm11.width vals - 1)).map fun j => 1 + j).take j).filter fun c => !(firsts vals t).contains c)))) ?_ ?_ ?_
    · exact ⟨same_upd hD2, upd_same⟩
    · rintro j H10 hj ⟨e10, hA10⟩
      have hx : (((List.range (Sm11.width vals - 1)).map fun j => 1 + j))[j]? = some (1 + j) := by simp [hj]
      have hlen : (natV ((((List.range (Sm11.width vals - 1)).map fun j => 1 + j).take j).filter fun c => !(firsts vals t).contains c)).length ≤ 1000 := by
        rw [natV_len]
        refine Nat.le_trans (List.length_filter_le _ _) (Nat.le_trans (List.length_take_le' _ _) ?_)
        rw [List.length_map, List.length_range]
        omega
      rw [show ((1 : Int) + (j : Int)) = ((1 + j : Nat) : Int) by omega, take_snoc hx, List.filter_append]
      generalize 1 + j = c
      have hget : DGet H10 d3 (.int c) ((Sm11.at_ (cellsT vals t) c).map fun (v : Nat) => V.int v) := by
        have := DGet.k (k := Sum.inl (c : Int)) (e10 _ _ d9)
        rw [valV_enc] at this
        exact this
      refine ⟨rfl, _, rfl, _, rfl, a, _, dx, _, _, rfl, e10 _ _ ob9, T.cl_PlainWorlds, T.no_PlainWorlds_heap, PF.l_heap _, d3, _, rfl, hget, _, rfl, ?_⟩
      cases hc1 : Sm11.at_ (cellsT vals t) c with
      | some y =>
        refine if_false_of rfl ⟨e10, ?_⟩
        rw [show [c].filter (fun c => !(firsts vals t).contains c) = [] by
          rw [List.filter_cons, if_neg (by rw [hfs, hc1]; simp)]
          rfl, List.append_nil]
        exact hA10
      | none =>
        refine if_true_of rfl ⟨_, rfl, _, rfl, D, _, rfl, .inl (SqL.of (e10 _ _ fi9)), rfl, flat_nat _, _, rfl, ?_⟩
        show if (!inV (V.int (c : Int)) (natV (Sm11.places (chainsT vals t)))) = true then _ else _
        rw [in_natG]
        cases hc2 : (Sm11.places (chainsT vals t)).contains c with
        | true =>
          refine if_false_of rfl ⟨e10, ?_⟩
          rw [show [c].filter (fun c => !(firsts vals t).contains c) = [] by
            rw [List.filter_cons, if_neg (by rw [hfs, hc1, hc2]; simp)]
            rfl, List.append_nil]
          exact hA10
        | false =>
          refine if_true_of rfl ⟨_, rfl, _, hA10, small1000 hlen, same_updL hD2 e10, ?_⟩
          rw [show [c].filter (fun c => !(firsts vals t).contains c) = [c] by
            rw [List.filter_cons, if_pos (by rw [hfs, hc1, hc2]; rfl)]
            rfl, natV_append]
          exact upd_same
    rintro H10 ⟨e10, hA10⟩
    have etk : ((List.range (Sm11.width vals - 1)).map fun j => 1 + j).take (Sm11.width vals - 1) = (List.range (Sm11.width vals - 1)).map fun j => 1 + j := List.take_of_length_le (by simp)
    rw [etk, ← pas_range] at hA10
    have ob10 := e10 _ _ ob9
    refine ⟨_, rfl, a, _, dx, _, rfl, ob10, T.cl_PlainWorlds, T.no_PlainWorlds_passages, (by show 11 < 1000; decide), ?_⟩
    rw [PF.p_passages]
    have k11 : Keeps [a] H10 (upd H10 a (.ins T.C_PlainWorlds dx (PF.fl { f with nm := nm, hp := d3, ch := p5, ff := Sm11.width vals, nf := Sm11.width vals, pa := D2 }))) := keepsA
    have ob11 : (upd H10 a (.ins T.C_PlainWorlds dx (PF.fl { f with nm := nm, hp := d3, ch := p5, ff := Sm11.width vals, nf := Sm11.width vals, pa := D2 }))) a = some (.ins T.C_PlainWorlds dx (PF.fl { f with nm := nm, hp := d3, ch := p5, ff := Sm11.width vals, nf := Sm11.width vals, pa := D2 })) := upd_same
    generalize upd H10 a (.ins T.C_PlainWorlds dx (PF.fl { f with nm := nm, hp := d3, ch := p5, ff := Sm11.width vals, nf := Sm11.width vals, pa := D2 })) = H11 at k11 ob11 ⊢
    have k011 := (k09.trans (Keeps.of e10)).trans k11
    have la9 := lstA I.la I.ob k09
    have nD2 : D2 ≠ f.ld := (ne_of_none la9 hD2).symm
    have la11 := lstA I.la I.ob k011
    have D11 : Dyn T.C_PlainWorlds H11 a dx { f with nm := nm, hp := d3, ch := p5, ff := Sm11.width vals, nf := Sm11.width vals, pa := D2 } [] (cellsT vals t) [] (cellsT vals t) := ⟨ob11, la11, .nil, dKA (e10 _ _ d9) ob10 k11, hnd, fun _ => rfl⟩
    have S11 : Stat H11 { f with nm := nm, hp := d3, ch := p5, ff := Sm11.width vals, nf := Sm11.width vals, pa := D2 } t vals := ⟨lstA I.na I.ob k011, (PairsL.same e10 ch9).keepA ob10 k11, lstA hA10 ob10 k11, nch, nD2, I.d1, rfl⟩
    refine ⟨_, rfl, a, dx, _, rfl, ob11, PF.n_lay_chains _, a, dx, _, t, vals, f.most, 0, [], cellsT vals t, [], cellsT vals t, [], rfl, D11, S11, L, I.sm, .nil, Nat.zero_le _, (fun _ _ _ _ z => by cases z), lawn_under L, fun H12 st hpl lus l rem k12 D12 Y12 e12 => ?_⟩
    rw [List.append_nil, List.drop_zero] at e12
    refine q H12 { f with nm := nm, hp := d3, ch := p5, ff := Sm11.width vals, nf := Sm11.width vals, pa := D2 } st hpl lus l rem (fun b o z nb => ?_) fd3 rfl rfl rfl rfl rfl D12 (S11.keep D11 k12 _) Y12 e12
    simp only [List.mem_cons, List.not_mem_nil, or_false, not_or] at nb
    refine k12 _ _ (k011 _ _ z (by simpa using nb.1)) ?_
    have : b ≠ d3 := ne_of_none z fd3
    simp only [List.mem_cons, List.not_mem_nil, or_false, not_or]
    exact ⟨nb.1, this, nb.2⟩
end Ph
namespace Ph
open PySem PySem.Spec PyProof.Rows L2
variable {P : Program} {w : World} {K : PySem.W.Frag} {mg : Str → Option Value} {base : Heap}
/-! ### the object, whatever is still to come -/
def rowWorlds (t : List Sm11.Fact) (most : Nat) (rs : List (List Nat)) : List Sm11.World := rs.flatMap fun vals => (rowGen t most vals).map (fin vals)
structure PWAll (C : Addr) (H : Hp) (a dx : Addr) (f : PF) (t : List Sm11.Fact) (n : Nat) (rs : List (List Nat)) (lus : List V) : Prop where
  ob : H a = some (.ins C dx f.fl)
  tl : TellAt H f.tl t
  ok : NamesOk t (n + 1)
  tz : t.length ≤ 8
  n4 : n ≤ 4
  rw : ∃ us, H f.rw = some (.lst us) ∧ RowsAt H us rs ∧ ∀ q, .ref q ∈ us → q ≠ f.ld
  rr : ∀ r ∈ rs, r ∈ rows n ∧ canBe t r = true
  m1 : 1 ≤ f.most
  m6 : f.most ≤ 6
  la : H f.ld = some (.lst lus)
  he : ∃ kvs, H f.hp = some (.dK kvs)
  nr : f.nr ≤ rs.length
  rz : rs.length ≤ 1000
  d1 : f.tl ≠ f.ld
  d2 : f.rw ≠ f.ld
/-- at rest, or on the way back -/
inductive PWNow (C : Addr) (H : Hp) (a dx : Addr) (f : PF) (t : List Sm11.Fact) (n : Nat) (lus : List V) : List Sm11.World → Prop
  | idle : lus = [] → PWNow C H a dx f t n lus []
  | row {vals : List Nat} {st : List (Nat × Nat × Nat)} {hpl l : List (Nat × Nat)} {rem : List (List (Nat × Nat))} : Dyn C H a dx f st hpl lus l → Stat H f t vals → LawnR vals t f.most → Small vals t f.most → LaidR vals t f.most st hpl f.nf rem → vals ∈ rows n → canBe t vals = true → PWNow C H a dx f t n lus (rem.map (fin vals))
def PWIs (C : Addr) (H : Hp) (a : Addr) (F : List Addr) (t : List Sm11.Fact) (n most : Nat) (fut : List Sm11.World) : Prop := ∃ dx f rs lus now, F = [a, f.hp, f.ld] ∧ f.most = most ∧ PWAll C H a dx f t n rs lus ∧ PWNow C H a dx f t n lus now ∧ fut = now ++ rowWorlds t f.most (rs.drop f.nr)
/-- the world it stands at -/
def PWCur (C : Addr) (H : Hp) (a : Addr) (w : Sm11.World) : Prop := ∃ dx nm hp fl, H a = some (.ins C dx fl) ∧ List.lookup ("names" : Str) fl = some (.ref nm) ∧ List.lookup ("heap" : Str) fl = some (.ref hp) ∧ NamesAt H nm w.vals ∧ HeapAt H hp w.heap
theorem small_row {n most : Nat} {vals : List Nat} {t : List Sm11.Fact} (h : vals ∈ rows n) (n4 : n ≤ 4) (hc : canBe t vals = true) (m1 : 1 ≤ most) : (cellsT vals t).length + ((pasOf vals t).length + (chainsT vals t).length) * most ≤ 4 * most := by
  obtain ⟨r1, r2, r3, r4⟩ := rows_in h
  have L := lawn_of r3 hc m1
  have hW : Sm11.width vals ≤ 5 := by
    obtain ⟨_, _, r⟩ := fold_max vals 0
    rcases r with r | ⟨y, hy, r⟩
    · show List.foldl _ 0 vals ≤ 5
      omega
    · have := r4 y hy
      show List.foldl _ 0 vals ≤ 5
      omega
  obtain ⟨c1, c2, c3⟩ := canBe_iff.mp hc
  have hnd : (firsts vals t ++ pasOf vals t).Nodup := by
    rw [List.nodup_append]
    refine ⟨c3, List.Pairwise.imp (fun q => Nat.ne_of_lt q) L.asc, fun x hx y hy z => ?_⟩
    subst z
    have := (List.mem_filter.mp hy).2
    simp [hx] at this
  have hsub : ∀ x ∈ firsts vals t ++ pasOf vals t, x ∈ (List.range (Sm11.width vals)).erase 0 := by
    intro x hx
    have hx0 : x ≠ 0 ∧ x < Sm11.width vals := by
      rcases List.mem_append.mp hx with z | z
      · refine ⟨fun y => c2 (y ▸ z), ?_⟩
        exact later_lt r3 x ((firsts_perm vals t).mem_iff.mp z)
      · exact ⟨(L.pasW x z).2, (L.pasW x z).1⟩
    exact (List.mem_erase_of_ne hx0.1).mpr (List.mem_range.mpr hx0.2)
  have hle := nodup_le hnd hsub
  have he : ((List.range (Sm11.width vals)).erase 0).length = Sm11.width vals - 1 := by
    rw [List.length_erase_of_mem (List.mem_range.mpr (width_pos r3)), List.length_range]
  rw [he, List.length_append, firsts, Sm11.places, List.length_map, List.length_append] at hle
  have h1 : (cellsT vals t).length ≤ (cellsT vals t).length * most := Nat.le_mul_of_pos_right _ m1
  have h2 : ((cellsT vals t).length + ((pasOf vals t).length + (chainsT vals t).length)) * most ≤ 4 * most := Nat.mul_le_mul_right most (by omega)
  rw [Nat.add_mul] at h2
  omega
theorem small_ok {n most : Nat} {vals : List Nat} {t : List Sm11.Fact} (h : vals ∈ rows n) (n4 : n ≤ 4) (hc : canBe t vals = true) (m1 : 1 ≤ most) (m6 : most ≤ 6) : Small vals t most := by
  have := small_row h n4 hc m1
  unfold Small
  omega
def sp_go_on (C : Addr) : Sp := fun vs H Q _ => ∃ (a : Addr) (F : List Addr) (t : List Sm11.Fact) (n most : Nat) (fut : List Sm11.World), vs = [.ref a] ∧ PWIs C H a F t n most fut ∧ (fut = [] → ∀ H', Keeps F H H' → Q (.bl false) H') ∧
  (∀ w fut', fut = w :: fut' → ∀ H' F', Keeps F H H' → Grown F H F' → PWIs C H' a F' t n most fut' → PWCur C H' a w → w.vals.length = n + 1 → w.heap.length ≤ 24 → Q (.bl true) H')
def goW (C a dx : Addr) (t : List Sm11.Fact) (n most : Nat) (rs : List (List Nat)) (fut : List Sm11.World) (hp ld : Addr) (nr : Nat) (H : Hp) (m : Nat) (σ : L2.St) (H1 : Hp) : Prop := ∃ (f : PF) (lus : List V) (now : List Sm11.World), σ = [some (.ref a)] ∧ f.hp = hp ∧ f.ld = ld ∧ f.nr = nr ∧ f.most = most ∧ Keeps [a, hp, ld] H H1 ∧ PWAll C H1 a dx f t n rs lus ∧ PWNow C H1 a dx f t n lus now ∧ fut = now ++ rowWorlds t most (rs.drop nr) ∧ m = lus.length
theorem PWAll.keep {C : Addr} {H H' : Hp} {a dx : Addr} {f f' : PF} {t : List Sm11.Fact} {n : Nat} {rs : List (List Nat)} {lus lus' : List V} (I : PWAll C H a dx f t n rs lus) (k : Keeps [a, f.hp, f.ld] H H') (hob : H' a = some (.ins C dx f'.fl)) (e1 : f'.tl = f.tl) (e2 : f'.rw = f.rw) (e3 : f'.most = f.most) (e4 : f'.ld = f.ld) (hla : H' f'.ld = some (.lst lus')) (hhe : ∃ kvs, H' f'.hp = some (.dK kvs)) (hnr : f'.nr ≤ rs.length) : PWAll C H' a dx f' t n rs lus' := by
  obtain ⟨kv, hkv⟩ := I.he
  have na : ∀ b xs, H b = some (.lst xs) → b ≠ f.ld → b ∉ [a, f.hp, f.ld] := fun b xs h h2 => by
    have q1 : b ≠ a := ne_of h I.ob (by intro z; cases z)
    have q2 : b ≠ f.hp := ne_of h hkv (by intro z; cases z)
    simp [q1, q2, h2]
  have nt : ∀ b ∈ [a, f.hp, f.ld], ∀ xs, H b ≠ some (.tup xs) := by
    intro b hb xs z
    simp only [List.mem_cons, List.not_mem_nil, or_false] at hb
    rcases hb with e | e | e
    · rw [e, I.ob] at z; cases z
    · rw [e, hkv] at z; cases z
    · rw [e, I.la] at z; cases z
  obtain ⟨us, h1, h2, h3⟩ := I.rw
  obtain ⟨tus, t1, t2⟩ := I.tl
  refine ⟨hob, ⟨tus, by rw [e1]; exact k _ _ t1 (na _ _ t1 I.d1), k.tris nt t2⟩, I.ok, I.tz, I.n4, ⟨us, by rw [e2]; exact k _ _ h1 (na _ _ h1 I.d2), ?_, by rw [e4]; exact h3⟩, I.rr, by rw [e3]; exact I.m1, by rw [e3]; exact I.m6, hla, hhe, hnr, I.rz, by rw [e1, e4]; exact I.d1, by rw [e2, e4]; exact I.d2⟩
  have go : ∀ (us : List V) (rs : List (List Nat)), RowsAt H us rs → (∀ q, .ref q ∈ us → q ≠ f.ld) → RowsAt H' us rs := by
    intro us rs h
    induction h with
    | nil => intro _; exact .nil
    | cons x _ ih =>
      intro hn
      obtain ⟨q, rfl, hq⟩ := x
      exact .cons ⟨q, rfl, k _ _ hq (na _ _ hq (hn q (by simp)))⟩ (ih fun q' hq' => hn q' (by simp [hq']))
  exact go us rs h2 h3
theorem ok_go_on (T : Top K mg) : FnOk P w K mg base CX0 4 T.f_PlainWorlds_go_on T.fd_PlainWorlds_go_on ["self"] (sp_go_on T.C_PlainWorlds) := by
  have G_PlainWorlds_turn_last_cell : FnOk P w K mg base CX0 3 T.f_PlainWorlds_turn_last_cell T.fd_PlainWorlds_turn_last_cell ["self"] (sp_turn T.C_PlainWorlds) := ok_turn T
  have G_PlainWorlds_take_up_last_cell : FnOk P w K mg base CX0 1 T.f_PlainWorlds_take_up_last_cell T.fd_PlainWorlds_take_up_last_cell ["self"] (sp_take_up T.C_PlainWorlds) := ok_take_up T
  have G_PlainWorlds_begin : FnOk P w K mg base CX0 3 T.f_PlainWorlds_begin T.fd_PlainWorlds_begin ["self", "names"] (sp_begin T.C_PlainWorlds) := ok_begin T
  refine T.F_PlainWorlds_go_on.ok sc_PlainWorlds_go_on (fun vs H Q E h => ?_) (fun cdv A outer s H vs Q E hr h => ?_)
  · obtain ⟨_, _, _, _, _, _, rfl, _⟩ := h
    rfl
  · obtain ⟨a, F, t, n, most, fut, rfl, ⟨dx, f, rs, lus, now, rfl, rfl, I, N, hfut⟩, q1, q2⟩ := h
    refine ⟨_, (pss_cons (ps_while PassesOwn.never (pt_cmpR op_gt (pe_callB call_len_seq (by rfl) T.n_len PySem.boot_len (pa_cons (pe_fld (pv 0) rfl) pa_nil)) pe_int (nomark _))
          (pss_cons (ps_if (pt_val (pe_meth0 (pv 0) T.cl_PlainWorlds T.m_PlainWorlds_turn_last_cell G_PlainWorlds_turn_last_cell (hr.mono (by decide)) T.b_PlainWorlds_turn_last_cell .nil pass0))
            (pss_one (ps_ret pe_bl))
            pss_nil)
          (pss_one (ps_expr (pe_meth0 (pv 0) T.cl_PlainWorlds T.m_PlainWorlds_take_up_last_cell G_PlainWorlds_take_up_last_cell (hr.mono (by decide)) T.b_PlainWorlds_take_up_last_cell .nil pass0)))))
        (pss_cons (ps_if (pt_cmpR op_eq (pe_fld (pv 0) rfl) (pe_callB call_len_seq (by rfl) T.n_len PySem.boot_len (pa_cons (pe_fld (pv 0) rfl) pa_nil)) (nomark _))
          (pss_one (ps_ret pe_bl))
          pss_nil)
        (pss_cons (ps_expr (pe_meth (pv 0) T.cl_PlainWorlds T.m_PlainWorlds_begin G_PlainWorlds_begin (hr.mono (by decide)) T.b_PlainWorlds_begin .nil pass0 (pa_cons (pe_ix (r := rIxL K) ix_list (pe_fld (pv 0) rfl) (pe_fld (pv 0) rfl) (fun _ _ => rfl)) pa_nil)))
        (pss_cons (ps_fldaug (pv 0) pe_int in_add)
        (pss_one (ps_ret pe_bl)))))), ?_⟩
    refine ⟨goW T.C_PlainWorlds a dx t n f.most rs fut f.hp f.ld f.nr H, ⟨_, f, lus, now, rfl, rfl, rfl, rfl, rfl, Keeps.refl, I, N, hfut, rfl⟩, ?_⟩
    rintro m σ H1 ⟨f1, lus1, now1, rfl, ehp, eld, enr, em, k1, I1, N1, hf1, rfl⟩
    rw [← ehp, ← eld] at k1
    refine ⟨_, rfl, a, _, dx, _, _, rfl, I1.ob, T.cl_PlainWorlds, T.no_PlainWorlds_laid, f1.l_laid, f1.ld, lus1, rfl, .inl (SqL.of I1.la), _, _, rfl, rfl, _, rfl, ?_⟩
    by_cases hl : 0 < lus1.length
    · refine if_true_of (decide_eq_true (by omega)) ⟨fun σ' H' => ∃ m', m' < lus1.length ∧ goW T.C_PlainWorlds a dx t n f.most rs fut f.hp f.ld f.nr H m' σ' H', fun _ _ z => z, ?_⟩
      cases N1 with
      | idle h => rw [h] at hl; cases hl
      | @row vals st hpl l rem D S L sm Y hvr hvc =>
        have hstl : lus1.length = st.length := by
          rw [D.tr.length, List.length_map, List.length_reverse]
        cases st with
        | nil => rw [hstl] at hl; cases hl
        | cons top st =>
          obtain ⟨i, c, run⟩ := top
          refine ⟨_, rfl, a, dx, _, rfl, D.ob, f1.n_turn, a, dx, f1, t, vals, i, c, run, st, hpl, lus1, l, rem, rfl, D, S, L, sm, Y, ?_, ?_⟩
          · rintro hp v p0 rfl nc hnf hcp hWp Y0
            refine ⟨_, rfl, if_false_of rfl ?_⟩
            refine ⟨_, rfl, a, dx, _, rfl, D.ob, f1.n_take, a, dx, f1, st, hp, lus1, l, i, c, run, v, rfl, D, nc, fun H2 lus2 l2 k2 D2 => ?_⟩
            have enf : (if f1.ff ≤ c then c else f1.nf) = p0 := by
              rw [S.ff, hnf]
              unfold nx
              split
              · omega
              · split <;> omega
            rw [enf] at D2
            have hl2 : lus2.length = st.length := by
              rw [D2.tr.length, List.length_map, List.length_reverse]
            refine ⟨lus2.length, by simp only [List.length_cons] at hstl; omega, { f1 with nf := p0 }, lus2, _, rfl, ehp, eld, enr, em, ?_, I1.keep k2 D2.ob rfl rfl rfl rfl D2.la ⟨_, D2.he⟩ I1.nr, .row D2 (S.keep D k2 p0) L sm Y0 hvr hvc, hf1, rfl⟩
            rw [← ehp, ← eld]
            exact k1.trans k2
          · rintro H2 st2 hpl2 lus2 l2 p2 rem2 k2 D2 Y2 rfl
            refine ⟨_, rfl, if_true_of rfl ?_⟩
            have S2 := S.keep D k2 p2
            obtain ⟨fr1, fr2, fr3⟩ := Y2.fresh L
            have hlf := like_fold fr2
            have hasc : Asc (fin vals hpl2).heap := asc_fold hpl2 Asc.nil
            have k02 := k1.trans k2
            refine q2 (fin vals hpl2) (rem2.map (fin vals) ++ rowWorlds t f.most (rs.drop f.nr)) hf1 H2 [a, f1.hp, f1.ld] (by rw [← ehp, ← eld]; exact k02) (by rw [← ehp, ← eld]; exact Grown.refl) ?_ ?_ ?_ ?_
            · refine ⟨dx, { f1 with nf := p2 }, rs, lus2, rem2.map (fin vals), rfl, em, I1.keep k2 D2.ob rfl rfl rfl rfl D2.la ⟨_, D2.he⟩ I1.nr, .row D2 S2 L sm Y2 hvr hvc, ?_⟩
              show _ = _ ++ rowWorlds t f1.most (rs.drop f1.nr)
              rw [em, enr]
            · exact ⟨dx, f1.nm, f1.hp, _, D2.ob, PF.l_names _, PF.l_heap _, S2.nm, l2, D2.he, ⟨D2.lk.nd, fun b => by rw [D2.lk.at_]; exact hlf.at_ b⟩, hasc⟩
            · exact (rows_in hvr).1
            · have h1 := Y2.len
              have h2 := small_row hvr I1.n4 hvc I1.m1
              have h3 := I1.m6
              have h4 : 4 * f1.most ≤ 24 := by omega
              have h5 : (fin vals hpl2).heap.length = hpl2.length := ((hlf.perm hasc).length_eq).symm
              rw [h5]
              omega
    · have hl0 : lus1 = [] := List.length_eq_zero_iff.mp (by omega)
      subst hl0
      have hnow : now1 = [] := by
        cases N1 with
        | idle _ => rfl
        | @row vals st hpl l rem D S L sm Y hvr hvc =>
          have hstl : st.length = 0 := by
            have := D.tr.length
            rw [List.length_map, List.length_reverse] at this
            exact this.symm
          cases st with
          | nil =>
            generalize f1.nf = pp at Y
            generalize Sm11.width vals = WW at Y
            cases Y
            rfl
          | cons _ _ => cases hstl
      subst hnow
      rw [List.nil_append] at hf1
      refine if_false_of (decide_eq_false (by omega)) ?_
      obtain ⟨us, hrw, hrows, hnd⟩ := I1.rw
      have hul : us.length = rs.length := hrows.length
      refine ⟨_, rfl, a, _, dx, _, _, rfl, I1.ob, T.cl_PlainWorlds, T.no_PlainWorlds_next_row, f1.l_next_row, _, rfl, a, _, dx, _, _, rfl, I1.ob, T.cl_PlainWorlds, T.no_PlainWorlds_rows, f1.l_rows, f1.rw, us, rfl, .inl (SqL.of hrw), rfl, _, rfl, ?_⟩
      rw [dInt]
      by_cases he : f1.nr = rs.length
      · refine if_true_of (decide_eq_true (by omega)) (q1 ?_ H1 (by rw [← ehp, ← eld]; exact k1))
        rw [hf1, ← enr, he, List.drop_length]
        rfl
      · have hlt : f1.nr < rs.length := by
          have := I1.nr
          omega
        refine if_false_of (decide_eq_false (by omega)) ?_
        obtain ⟨v1, hv1⟩ : ∃ v1, us[f1.nr]? = some v1 := ⟨us[f1.nr]'(by omega), List.getElem?_eq_getElem _⟩
        obtain ⟨vals, hvals, qr, rfl, hqr⟩ := hrows.at hv1
        obtain ⟨hr1, hr2⟩ := I1.rr vals (List.mem_of_getElem? hvals)
        obtain ⟨vl, _, v0, v4⟩ := rows_in hr1
        have sm := small_ok hr1 I1.n4 hr2 I1.m1 I1.m6
        have hqld : qr ≠ f1.ld := hnd qr (List.mem_of_getElem? hv1)
        refine ⟨_, rfl, a, dx, _, rfl, I1.ob, f1.n_begin, _, rfl, a, _, dx, _, _, rfl, I1.ob, T.cl_PlainWorlds, T.no_PlainWorlds_rows, f1.l_rows, _, rfl, a, _, dx, _, _, rfl, I1.ob, T.cl_PlainWorlds, T.no_PlainWorlds_next_row, f1.l_next_row, f1.rw, us, _, _, rfl, rfl, SqL.of hrw, atI_nat hv1, ?_⟩
        refine ⟨a, dx, qr, f1, t, vals, rfl, ⟨I1.ob, I1.tl, by rw [vl]; exact I1.ok, I1.tz, hqr, v0, fun x hx => Nat.le_trans (v4 x hx) I1.n4, hr2, I1.m1, sm, I1.la, hqld⟩, fun H2 f2 st hpl lus2 l rem k2 fr2 c1 c2 c3 c4 c5 D2 S2 Y2 eg => ?_⟩
        -- self.next_row += 1
        refine ⟨_, rfl, a, _, dx, _, _, rfl, D2.ob, T.cl_PlainWorlds, T.no_PlainWorlds_next_row, f2.l_next_row, _, _, rfl, rfl, _, _, D2.ob, (by show 11 < 1000; decide), ?_⟩
        rw [show (V.int ((f2.nr : Int) + 1)) = V.int ((f2.nr + 1 : Nat) : Int) from rfl, f2.p_next_row]
        have D3 := D2.setF (f' := { f2 with nr := f2.nr + 1 }) rfl rfl
        have k3 : Keeps [a, f2.hp, f2.ld] H2 (upd H2 a (.ins T.C_PlainWorlds dx (PF.fl { f2 with nr := f2.nr + 1 }))) := Keeps.upd (by simp)
        have S3 : Stat (upd H2 a (.ins T.C_PlainWorlds dx (PF.fl { f2 with nr := f2.nr + 1 }))) { f2 with nr := f2.nr + 1 } t vals := by
          have := S2.keep D2 k3 f2.nf
          exact ⟨this.nm, this.ch, this.pa, this.d1, this.d2, this.d3, this.ff⟩
        obtain ⟨fr1, fr2', fr3⟩ := Y2.fresh (lawn_of v0 hr2 I1.m1)
        have hlf := like_fold fr2'
        have hasc : Asc (fin vals hpl).heap := asc_fold hpl Asc.nil
        have hdr : rs.drop f1.nr = vals :: rs.drop (f1.nr + 1) := by
          rw [List.drop_eq_getElem_cons hlt, (List.getElem?_eq_some_iff.mp hvals).2]
        have hfut2 : fut = fin vals hpl :: (rem.map (fin vals) ++ rowWorlds t f.most (rs.drop (f1.nr + 1))) := by
          rw [hf1, ← enr, hdr]
          show (rowGen t f.most vals).map (fin vals) ++ rowWorlds t f.most (rs.drop (f1.nr + 1)) = _
          rw [← em, eg]
          rfl
        have I2 : PWAll T.C_PlainWorlds (upd H2 a (.ins T.C_PlainWorlds dx (PF.fl { f2 with nr := f2.nr + 1 }))) a dx { f2 with nr := f2.nr + 1 } t n rs lus2 := by
          refine I1.keep (f' := { f2 with nr := f2.nr + 1 }) ?_ D3.ob c1 c2 c5 c4 D3.la ⟨_, D3.he⟩ (by rw [c3]; exact hlt)
          intro b o z nb
          simp only [List.mem_cons, List.not_mem_nil, or_false, not_or] at nb
          have z2 := k2 b o z (by simp [nb.1, nb.2.2])
          rw [upd_ne nb.1]
          exact z2
        refine q2 (fin vals hpl) _ hfut2 _ [a, f2.hp, f2.ld] ?_ ?_ ?_ ?_ vl ?_
        · rw [← ehp, ← eld]
          intro b o z nb
          have z1 := k1 b o z nb
          simp only [List.mem_cons, List.not_mem_nil, or_false, not_or] at nb
          have z2 := k2 b o z1 (by simp [nb.1, nb.2.2])
          rw [upd_ne nb.1]
          exact z2
        · intro b hb
          simp only [List.mem_cons, List.not_mem_nil, or_false] at hb
          rcases hb with e | e | e
          · exact .inl (by simp [e])
          · refine .inr ?_
            rw [e]
            cases z : H f2.hp with
            | none => rfl
            | some o =>
              by_cases nb : f2.hp ∈ [a, f1.hp, f1.ld]
              · obtain ⟨kv, hkv⟩ := I1.he
                simp only [List.mem_cons, List.not_mem_nil, or_false] at nb
                rcases nb with y | y | y
                · rw [y, I1.ob] at fr2; cases fr2
                · rw [y, hkv] at fr2; cases fr2
                · rw [y, I1.la] at fr2; cases fr2
              · rw [k1 _ _ z nb] at fr2
                cases fr2
          · exact .inl (by rw [e, c4, eld]; simp)
        · refine ⟨dx, { f2 with nr := f2.nr + 1 }, rs, lus2, rem.map (fin vals), rfl, c5.trans em, I2, .row D3 S3 ?_ ?_ ?_ hr1 hr2, ?_⟩
          · show LawnR vals t f2.most
            rw [c5]
            exact lawn_of v0 hr2 I1.m1
          · show Small vals t f2.most
            rw [c5]
            exact sm
          · show LaidR vals t f2.most st hpl f2.nf rem
            rw [c5]
            exact Y2
          · show _ = _ ++ rowWorlds t f2.most (rs.drop (f2.nr + 1))
            rw [c5, c3, em]
        · exact ⟨dx, f2.nm, f2.hp, _, D3.ob, PF.l_names _, PF.l_heap _, S3.nm, l, D3.he, ⟨D3.lk.nd, fun b => by rw [D3.lk.at_]; exact hlf.at_ b⟩, hasc⟩
        · have h1 := Y2.len
          have h2 := small_row hr1 I1.n4 hr2 I1.m1
          have h3 := I1.m6
          have h5 : (fin vals hpl).heap.length = hpl.length := ((hlf.perm hasc).length_eq).symm
          rw [h5]
          omega
end Ph
namespace Ph
open PySem PySem.Spec PyProof.Rows L2
variable {P : Program} {w : World} {K : PySem.W.Frag} {mg : Str → Option Value} {base : Heap}
/-! ### PlainWorlds.__init__ -/
theorem put_new {f : Str} {v : V} : putF f v [] = [(f, v)] := rfl
def sp_PW_init (C : Addr) : Sp := fun vs H Q _ => ∃ (a dx tl : Addr) (t : List Sm11.Fact) (g most : Nat), vs = [.ref a, .ref tl, .int g, .int most] ∧ H a = some (.ins C dx []) ∧ TellAt H tl t ∧ NamesOk t (g + 1) ∧ t.length ≤ 8 ∧ g ≤ 4 ∧ 1 ≤ most ∧ most ≤ 6 ∧
  ∀ H' F, Keeps [a] H H' → (∀ b ∈ F, b = a ∨ H b = none) → PWIs C H' a F t g most (Sm11.worlds g t most) → Q .non H'
theorem ok_PW_init (T : Top K mg) : FnOk P w K mg base CX0 3 T.f_PlainWorlds_init T.fd_PlainWorlds_init ["self", "telling", "greatest", "most"] (sp_PW_init T.C_PlainWorlds) := by
  have G_plain_names : FnOk P w K mg base CX0 1 T.f_plain_names T.fd_plain_names ["greatest"] sp_plain_names := ok_plain_names T
  have G_can_be_so : FnOk P w K mg base CX0 2 T.f_can_be_so T.fd_can_be_so ["telling", "names"] sp_can_be_so := ok_can_be_so T
  refine T.F_PlainWorlds_init.ok sc_PlainWorlds_init (fun vs H Q E h => ?_) (fun cdv A outer s H vs Q E hr h => ?_)
  · obtain ⟨_, _, _, _, _, _, rfl, _⟩ := h
    rfl
  · obtain ⟨a, dx, tl, t, g, most, rfl, ob, htl, ok, tz, g4, m1, m6, q⟩ := h
    refine ⟨_, (pss_cons (ps_fld (pv 0) (pv 1) rfl)
        (pss_cons (ps_fld (pv 0) (pv 3) rfl)
        (pss_cons (ps_fld (pv 0) (pe_lc (own := [("row", 4)]) (g := gName 4) rfl sc_PlainWorlds_init.nd (pi_list (pe_call G_plain_names (hr.mono (by decide)) (by rfl) T.g_plain_names T.F_plain_names.kp T.b_plain_names .nil pass0 (pa_cons (pv 2) pa_nil))) (blkOk_by (own := [("row", 4)]) (N := ["self", "telling", "greatest", "most", "row"]) (sc := defScope s_PlainWorlds_init) (by decide +kernel)) (fun _ _ _ _ _ => (pg_name (i := 4) sc_PlainWorlds_init.nd rfl (Or.inl rfl))) (fun _ _ _ _ _ => (pts_one (pt_val (pe_call G_can_be_so (hr.mono (by decide)) (by rfl) T.g_can_be_so T.F_can_be_so.kp T.b_can_be_so .nil pass0 (pa_cons (pv 1) (pa_cons (pv 4) pa_nil)))))) (fun _ _ _ _ _ => (pv 4))) rfl)
        (pss_cons (ps_fld (pv 0) pe_int rfl)
        (pss_cons (ps_fld (pv 0) (pe_lst pa_nil) rfl)
        (pss_cons (ps_fld (pv 0) pe_dnewK rfl)
        (pss_cons (ps_fld (pv 0) (pe_lst pa_nil) rfl)
        (pss_cons (ps_fld (pv 0) (pe_lst pa_nil) rfl)
        (pss_cons (ps_fld (pv 0) (pe_lst pa_nil) rfl)
        (pss_cons (ps_fld (pv 0) pe_int rfl)
        (pss_one (ps_fld (pv 0) pe_int rfl)))))))))))), ?_⟩
    refine ⟨_, rfl, _, rfl, a, _, dx, _, rfl, ob, T.cl_PlainWorlds, T.no_PlainWorlds_telling, (by show 0 < 1000; decide), ?_⟩
    rw [put_new]
    have k1 : Keeps [a] H (upd H a (.ins T.C_PlainWorlds dx [("telling", .ref tl)])) := keepsA
    have ob1 : (upd H a (.ins T.C_PlainWorlds dx [("telling", .ref tl)])) a = some (.ins T.C_PlainWorlds dx [("telling", .ref tl)]) := upd_same
    generalize upd H a (.ins T.C_PlainWorlds dx [("telling", .ref tl)]) = H1 at k1 ob1 ⊢
    refine ⟨_, rfl, _, rfl, a, _, dx, _, rfl, ob1, T.cl_PlainWorlds, T.no_PlainWorlds_most, (by show 1 < 1000; decide), ?_⟩
    rw [put_past (by decide +kernel), put_new]
    have k2 : Keeps [a] H (upd H1 a (.ins T.C_PlainWorlds dx [("telling", .ref tl), ("most", .int most)])) := k1.trans keepsA
    have ob2 : (upd H1 a (.ins T.C_PlainWorlds dx [("telling", .ref tl), ("most", .int most)])) a = some (.ins T.C_PlainWorlds dx [("telling", .ref tl), ("most", .int most)]) := upd_same
    generalize upd H1 a (.ins T.C_PlainWorlds dx [("telling", .ref tl), ("most", .int most)]) = H2 at k2 ob2 ⊢
    refine ⟨_, rfl, g, rfl, g4, fun H3 p us e3 fp hp hus => ?_⟩
    have key : (rows g).length ≤ 52 := rows_len g4
    have tl3 : TellAt H3 tl t := (htl.keepA ob k2).same e3
    have ob3 := e3 _ _ ob2
    refine ⟨p, rfl, ⟨_, SqL.of hp⟩, fun D hD => lc_list (K := K) (a := p) (xs := us) (fun i H' => Same H3 H' ∧ ∃ acc, H' D = some (.lst acc) ∧ RowsAt H' acc (((rows g).take i).filter (canBe t)) ∧ ∀ q, (.ref q) ∈ acc → ∃ o, H3 q = some o) ?_ ?_ ?_ ?_⟩
    · exact ⟨same_upd hD, [], upd_same, .nil, fun q hq => by cases hq⟩
    · exact fun i H' _ z => SqL.of (z.1 _ _ hp)
    · rintro i x H' hi ⟨e4, acc, hA, hacc, hex⟩
      obtain ⟨r, hrow, qr, rfl, hqr⟩ := hus.at hi
      obtain ⟨rl, _⟩ := rows_in (List.mem_of_getElem? hrow)
      have alen : acc.length ≤ 1000 := by
        rw [hacc.length]
        refine Nat.le_trans (List.length_filter_le _ _) (Nat.le_trans (List.length_take_le' _ _) (by omega))
      refine ⟨rfl, _, rfl, _, rfl, tl, qr, t, r, rfl, tl3.same e4, e4 _ _ hqr, by rw [rl]; exact ok, by omega, fun H5 e5 => ⟨_, rfl, ?_⟩⟩
      rw [take_snoc hrow, List.filter_append]
      have hA5 := e5 _ _ hA
      cases hcb : canBe t r with
      | true =>
        refine if_true_of rfl ⟨_, rfl, acc, hA5, small1000 alen, same_updL hD (e4.trans e5), _, upd_same, ?_, ?_⟩
        · rw [show [r].filter (canBe t) = [r] by simp [hcb]]
          have nD : ∀ q', (.ref q') ∈ acc ++ [V.ref qr] → q' ≠ D := by
            intro q' hq'
            rcases List.mem_append.mp hq' with z | z
            · obtain ⟨o, ho⟩ := hex q' z
              exact ne_of_none ho hD
            · cases List.mem_singleton.mp z
              exact ne_of_none hqr hD
          exact RowsAt.updL (All2.snoc (RowsAt.same e5 hacc) ⟨qr, rfl, e5 _ _ (e4 _ _ hqr)⟩) nD
        · intro q' hq'
          rcases List.mem_append.mp hq' with z | z
          · exact hex q' z
          · cases List.mem_singleton.mp z
            exact ⟨_, hqr⟩
      | false =>
        refine if_false_of rfl ⟨e4.trans e5, acc, hA5, ?_, hex⟩
        rw [show [r].filter (canBe t) = [] by simp [hcb], List.append_nil]
        exact RowsAt.same e5 hacc
    rintro H4 ⟨e4, acc, hA, hacc, hex⟩
    rw [hus.length, List.take_length] at hacc
    have ob4 := e4 _ _ ob3
    have k4 : Keeps [a] H H4 := (k2.trans (Keeps.of e3)).trans (Keeps.of e4)
    refine ⟨_, rfl, a, _, dx, _, rfl, ob4, T.cl_PlainWorlds, T.no_PlainWorlds_rows, (by show 2 < 1000; decide), ?_⟩
    rw [put_past (by decide +kernel), put_past (by decide +kernel), put_new]
    have k5' : Keeps [a] H4 (upd H4 a (.ins T.C_PlainWorlds dx [("telling", .ref tl), ("most", .int most), ("rows", .ref D)])) := keepsA
    have ob5 : (upd H4 a (.ins T.C_PlainWorlds dx [("telling", .ref tl), ("most", .int most), ("rows", .ref D)])) a = some (.ins T.C_PlainWorlds dx [("telling", .ref tl), ("most", .int most), ("rows", .ref D)]) := upd_same
    generalize upd H4 a (.ins T.C_PlainWorlds dx [("telling", .ref tl), ("most", .int most), ("rows", .ref D)]) = H5 at k5' ob5 ⊢
    have hA5 := lstA hA ob4 k5'
    have hrow5 : RowsAt H5 acc ((rows g).filter (canBe t)) := by
      have go : ∀ (us : List V) (rs : List (List Nat)), RowsAt H4 us rs → RowsAt H5 us rs := by
        intro us rs h
        exact h.imp fun v r ⟨q', e', h'⟩ => ⟨q', e', lstA h' ob4 k5'⟩
      exact go _ _ hacc
    have k05 := k4.trans k5'
    -- next_row
    refine ⟨_, rfl, a, _, dx, _, rfl, ob5, T.cl_PlainWorlds, T.no_PlainWorlds_next_row, (by show 3 < 1000; decide), ?_⟩
    rw [put_past (by decide +kernel), put_past (by decide +kernel), put_past (by decide +kernel), put_new]
    have k6' : Keeps [a] H5 (upd H5 a (.ins T.C_PlainWorlds dx [("telling", .ref tl), ("most", .int most), ("rows", .ref D), ("next_row", .int 0)])) := keepsA
    have ob6 : (upd H5 a (.ins T.C_PlainWorlds dx [("telling", .ref tl), ("most", .int most), ("rows", .ref D), ("next_row", .int 0)])) a = some (.ins T.C_PlainWorlds dx [("telling", .ref tl), ("most", .int most), ("rows", .ref D), ("next_row", .int 0)]) := upd_same
    generalize upd H5 a (.ins T.C_PlainWorlds dx [("telling", .ref tl), ("most", .int most), ("rows", .ref D), ("next_row", .int 0)]) = H6 at k6' ob6 ⊢
    -- names
    refine ⟨Nat.zero_le _, fun x7 h7 => ?_⟩
    have e7 := same_upd (o := .lst []) h7
    have ob7 := e7 _ _ ob6
    generalize upd H6 x7 (.lst []) = H7 at e7 ob7 ⊢
    refine ⟨_, rfl, a, _, dx, _, rfl, ob7, T.cl_PlainWorlds, T.no_PlainWorlds_names, (by show 4 < 1000; decide), ?_⟩
    rw [put_past (by decide +kernel), put_past (by decide +kernel), put_past (by decide +kernel), put_past (by decide +kernel), put_new]
    have k8' : Keeps [a] H7 (upd H7 a (.ins T.C_PlainWorlds dx [("telling", .ref tl), ("most", .int most), ("rows", .ref D), ("next_row", .int 0), ("names", .ref x7)])) := keepsA
    have ob8 : (upd H7 a (.ins T.C_PlainWorlds dx [("telling", .ref tl), ("most", .int most), ("rows", .ref D), ("next_row", .int 0), ("names", .ref x7)])) a = some (.ins T.C_PlainWorlds dx [("telling", .ref tl), ("most", .int most), ("rows", .ref D), ("next_row", .int 0), ("names", .ref x7)]) := upd_same
    generalize upd H7 a (.ins T.C_PlainWorlds dx [("telling", .ref tl), ("most", .int most), ("rows", .ref D), ("next_row", .int 0), ("names", .ref x7)]) = H8 at k8' ob8 ⊢
    -- heap
    intro x9 h9
    have e9 := same_upd (o := .dK []) h9
    have ob9 := e9 _ _ ob8
    have d9 : (upd H8 x9 (.dK [])) x9 = some (.dK []) := upd_same
    generalize upd H8 x9 (.dK []) = H9 at e9 ob9 d9 ⊢
    refine ⟨_, rfl, a, _, dx, _, rfl, ob9, T.cl_PlainWorlds, T.no_PlainWorlds_heap, (by show 5 < 1000; decide), ?_⟩
    rw [put_past (by decide +kernel), put_past (by decide +kernel), put_past (by decide +kernel), put_past (by decide +kernel), put_past (by decide +kernel), put_new]
    have k10' : Keeps [a] H9 (upd H9 a (.ins T.C_PlainWorlds dx [("telling", .ref tl), ("most", .int most), ("rows", .ref D), ("next_row", .int 0), ("names", .ref x7), ("heap", .ref x9)])) := keepsA
    have ob10 : (upd H9 a (.ins T.C_PlainWorlds dx [("telling", .ref tl), ("most", .int most), ("rows", .ref D), ("next_row", .int 0), ("names", .ref x7), ("heap", .ref x9)])) a = some (.ins T.C_PlainWorlds dx [("telling", .ref tl), ("most", .int most), ("rows", .ref D), ("next_row", .int 0), ("names", .ref x7), ("heap", .ref x9)]) := upd_same
    generalize upd H9 a (.ins T.C_PlainWorlds dx [("telling", .ref tl), ("most", .int most), ("rows", .ref D), ("next_row", .int 0), ("names", .ref x7), ("heap", .ref x9)]) = H10 at k10' ob10 ⊢
    have d10 := dKA d9 ob9 k10'
    -- chains
    refine ⟨Nat.zero_le _, fun x11 h11 => ?_⟩
    have e11 := same_upd (o := .lst []) h11
    have ob11 := e11 _ _ ob10
    generalize upd H10 x11 (.lst []) = H11 at e11 ob11 ⊢
    refine ⟨_, rfl, a, _, dx, _, rfl, ob11, T.cl_PlainWorlds, T.no_PlainWorlds_chains, (by show 6 < 1000; decide), ?_⟩
    rw [put_past (by decide +kernel), put_past (by decide +kernel), put_past (by decide +kernel), put_past (by decide +kernel), put_past (by decide +kernel), put_past (by decide +kernel), put_new]
    have k12' : Keeps [a] H11 (upd H11 a (.ins T.C_PlainWorlds dx [("telling", .ref tl), ("most", .int most), ("rows", .ref D), ("next_row", .int 0), ("names", .ref x7), ("heap", .ref x9), ("chains", .ref x11)])) := keepsA
    have ob12 : (upd H11 a (.ins T.C_PlainWorlds dx [("telling", .ref tl), ("most", .int most), ("rows", .ref D), ("next_row", .int 0), ("names", .ref x7), ("heap", .ref x9), ("chains", .ref x11)])) a = some (.ins T.C_PlainWorlds dx [("telling", .ref tl), ("most", .int most), ("rows", .ref D), ("next_row", .int 0), ("names", .ref x7), ("heap", .ref x9), ("chains", .ref x11)]) := upd_same
    generalize upd H11 a (.ins T.C_PlainWorlds dx [("telling", .ref tl), ("most", .int most), ("rows", .ref D), ("next_row", .int 0), ("names", .ref x7), ("heap", .ref x9), ("chains", .ref x11)]) = H12 at k12' ob12 ⊢
    have k012 := (((((k05.trans k6').trans (Keeps.of e7)).trans k8').trans (Keeps.of e9)).trans k10').trans (Keeps.of e11) |>.trans k12'
    have kD : Keeps [a] H5 H12 := ((((k6'.trans (Keeps.of e7)).trans k8').trans (Keeps.of e9)).trans k10').trans (Keeps.of e11) |>.trans k12'
    have hA12 := lstA hA5 ob5 kD
    have d12 := dKA (e11 _ _ d10) ob11 k12'
    -- laid
    refine ⟨Nat.zero_le _, fun x13 h13 => ?_⟩
    have e13 := same_upd (o := .lst []) h13
    have ob13 := e13 _ _ ob12
    have l13 : (upd H12 x13 (.lst [])) x13 = some (.lst []) := upd_same
    generalize upd H12 x13 (.lst []) = H13 at e13 ob13 l13 ⊢
    refine ⟨_, rfl, a, _, dx, _, rfl, ob13, T.cl_PlainWorlds, T.no_PlainWorlds_laid, (by show 7 < 1000; decide), ?_⟩
    rw [put_past (by decide +kernel), put_past (by decide +kernel), put_past (by decide +kernel), put_past (by decide +kernel), put_past (by decide +kernel), put_past (by decide +kernel), put_past (by decide +kernel), put_new]
    have k14' : Keeps [a] H13 (upd H13 a (.ins T.C_PlainWorlds dx [("telling", .ref tl), ("most", .int most), ("rows", .ref D), ("next_row", .int 0), ("names", .ref x7), ("heap", .ref x9), ("chains", .ref x11), ("laid", .ref x13)])) := keepsA
    have ob14 : (upd H13 a (.ins T.C_PlainWorlds dx [("telling", .ref tl), ("most", .int most), ("rows", .ref D), ("next_row", .int 0), ("names", .ref x7), ("heap", .ref x9), ("chains", .ref x11), ("laid", .ref x13)])) a = some (.ins T.C_PlainWorlds dx [("telling", .ref tl), ("most", .int most), ("rows", .ref D), ("next_row", .int 0), ("names", .ref x7), ("heap", .ref x9), ("chains", .ref x11), ("laid", .ref x13)]) := upd_same
    generalize upd H13 a (.ins T.C_PlainWorlds dx [("telling", .ref tl), ("most", .int most), ("rows", .ref D), ("next_row", .int 0), ("names", .ref x7), ("heap", .ref x9), ("chains", .ref x11), ("laid", .ref x13)]) = H14 at k14' ob14 ⊢
    -- passages
    refine ⟨Nat.zero_le _, fun x15 h15 => ?_⟩
    have e15 := same_upd (o := .lst []) h15
    have ob15 := e15 _ _ ob14
    generalize upd H14 x15 (.lst []) = H15 at e15 ob15 ⊢
    refine ⟨_, rfl, a, _, dx, _, rfl, ob15, T.cl_PlainWorlds, T.no_PlainWorlds_passages, (by show 8 < 1000; decide), ?_⟩
    rw [put_past (by decide +kernel), put_past (by decide +kernel), put_past (by decide +kernel), put_past (by decide +kernel), put_past (by decide +kernel), put_past (by decide +kernel), put_past (by decide +kernel), put_past (by decide +kernel), put_new]
    have k16' : Keeps [a] H15 (upd H15 a (.ins T.C_PlainWorlds dx [("telling", .ref tl), ("most", .int most), ("rows", .ref D), ("next_row", .int 0), ("names", .ref x7), ("heap", .ref x9), ("chains", .ref x11), ("laid", .ref x13), ("passages", .ref x15)])) := keepsA
    have ob16 : (upd H15 a (.ins T.C_PlainWorlds dx [("telling", .ref tl), ("most", .int most), ("rows", .ref D), ("next_row", .int 0), ("names", .ref x7), ("heap", .ref x9), ("chains", .ref x11), ("laid", .ref x13), ("passages", .ref x15)])) a = some (.ins T.C_PlainWorlds dx [("telling", .ref tl), ("most", .int most), ("rows", .ref D), ("next_row", .int 0), ("names", .ref x7), ("heap", .ref x9), ("chains", .ref x11), ("laid", .ref x13), ("passages", .ref x15)]) := upd_same
    generalize upd H15 a (.ins T.C_PlainWorlds dx [("telling", .ref tl), ("most", .int most), ("rows", .ref D), ("next_row", .int 0), ("names", .ref x7), ("heap", .ref x9), ("chains", .ref x11), ("laid", .ref x13), ("passages", .ref x15)]) = H16 at k16' ob16 ⊢
    -- first_free, next_free
    refine ⟨_, rfl, a, _, dx, _, rfl, ob16, T.cl_PlainWorlds, T.no_PlainWorlds_first_free, (by show 9 < 1000; decide), ?_⟩
    rw [put_past (by decide +kernel), put_past (by decide +kernel), put_past (by decide +kernel), put_past (by decide +kernel), put_past (by decide +kernel), put_past (by decide +kernel), put_past (by decide +kernel), put_past (by decide +kernel), put_past (by decide +kernel), put_new]
    have k17' : Keeps [a] H16 (upd H16 a (.ins T.C_PlainWorlds dx [("telling", .ref tl), ("most", .int most), ("rows", .ref D), ("next_row", .int 0), ("names", .ref x7), ("heap", .ref x9), ("chains", .ref x11), ("laid", .ref x13), ("passages", .ref x15), ("first_free", .int 0)])) := keepsA
    have ob17 : (upd H16 a (.ins T.C_PlainWorlds dx [("telling", .ref tl), ("most", .int most), ("rows", .ref D), ("next_row", .int 0), ("names", .ref x7), ("heap", .ref x9), ("chains", .ref x11), ("laid", .ref x13), ("passages", .ref x15), ("first_free", .int 0)])) a = some (.ins T.C_PlainWorlds dx [("telling", .ref tl), ("most", .int most), ("rows", .ref D), ("next_row", .int 0), ("names", .ref x7), ("heap", .ref x9), ("chains", .ref x11), ("laid", .ref x13), ("passages", .ref x15), ("first_free", .int 0)]) := upd_same
    generalize upd H16 a (.ins T.C_PlainWorlds dx [("telling", .ref tl), ("most", .int most), ("rows", .ref D), ("next_row", .int 0), ("names", .ref x7), ("heap", .ref x9), ("chains", .ref x11), ("laid", .ref x13), ("passages", .ref x15), ("first_free", .int 0)]) = H17 at k17' ob17 ⊢
    refine ⟨_, rfl, a, _, dx, _, rfl, ob17, T.cl_PlainWorlds, T.no_PlainWorlds_next_free, (by show 10 < 1000; decide), ?_⟩
    rw [put_past (by decide +kernel), put_past (by decide +kernel), put_past (by decide +kernel), put_past (by decide +kernel), put_past (by decide +kernel), put_past (by decide +kernel), put_past (by decide +kernel), put_past (by decide +kernel), put_past (by decide +kernel), put_past (by decide +kernel), put_new]
    let f : PF := ⟨tl, most, D, 0, x7, x9, x11, x13, x15, 0, 0⟩
    have k18' : Keeps [a] H17 (upd H17 a (.ins T.C_PlainWorlds dx f.fl)) := keepsA
    have ob18 : (upd H17 a (.ins T.C_PlainWorlds dx f.fl)) a = some (.ins T.C_PlainWorlds dx f.fl) := upd_same
    show Q .non (upd H17 a (.ins T.C_PlainWorlds dx f.fl))
    generalize upd H17 a (.ins T.C_PlainWorlds dx f.fl) = H18 at k18' ob18 ⊢
    have k1218 : Keeps [a] H12 H18 := (((((Keeps.of e13).trans k14').trans (Keeps.of e15)).trans k16').trans k17').trans k18'
    have k1318 : Keeps [a] H13 H18 := ((((k14'.trans (Keeps.of e15)).trans k16').trans k17')).trans k18'
    have k018 := k012.trans k1218
    have k518 := kD.trans k1218
    have free : ∀ (x : Addr) {Hk : Hp} {C' dx' : Addr} {fl' : List (Str × V)}, Hk a = some (.ins C' dx' fl') → Keeps [a] H Hk → Hk x = none → H x = none := by
      intro x Hk C' dx' fl' hob kk hx
      cases z : H x with
      | none => rfl
      | some o =>
        by_cases y : x = a
        · rw [y, hob] at hx; cases hx
        · rw [kk _ _ z (by simpa using y)] at hx; cases hx
    have tl12 := htl.keepA ob k012
    refine q H18 [a, x9, x13] k018 (fun b hb => ?_) ?_
    · simp only [List.mem_cons, List.not_mem_nil, or_false] at hb
      rcases hb with e | e | e
      · exact .inl e
      · rw [e]
        exact .inr (free x9 ob8 (((k05.trans k6').trans (Keeps.of e7)).trans k8') h9)
      · rw [e]
        exact .inr (free x13 ob12 k012 h13)
    · refine ⟨dx, f, (rows g).filter (canBe t), [], [], rfl, rfl, ?_, .idle rfl, ?_⟩
      · refine ⟨ob18, htl.keepA ob k018, ok, tz, g4, ⟨acc, lstA hA12 ob12 k1218, ?_, ?_⟩, fun r hr => List.mem_filter.mp hr, m1, m6, lstA l13 ob13 k1318, ⟨[], dKA d12 ob12 k1218⟩, Nat.zero_le _, Nat.le_trans (List.length_filter_le _ _) (by omega), ?_, ?_⟩
        · exact hrow5.imp fun v r ⟨q', e', h'⟩ => ⟨q', e', lstA h' ob5 k518⟩
        · intro q' hq'
          obtain ⟨r', hr', h'⟩ := hrow5.refs q' hq'
          exact ne_of_none (lstA h' ob5 kD) h13
        · obtain ⟨us', u1, _⟩ := tl12
          exact ne_of_none u1 h13
        · exact ne_of_none hA12 h13
      · rw [worlds_eq]
        rfl
end Ph
namespace Ph
open PySem PySem.Spec PyProof.Rows L2
variable {P : Program} {w : World} {K : PySem.W.Frag} {mg : Str → Option Value} {base : Heap}
/-! ### cuts -/
theorem cut_from (xs : List V) (k : Nat) : cutV xs (some (k : Int)) none = xs.drop k := by
  unfold cutV
  rw [HT.sIx_nat, HT.sIx_none]
  by_cases h : k ≤ xs.length
  · rw [Nat.min_eq_left h, List.take_of_length_le (by rw [List.length_drop]; omega)]
  · rw [Nat.min_eq_right (by omega), List.drop_of_length_le (i := k) (by omega), List.drop_of_length_le (Nat.le_refl _), List.take_nil]
theorem cut_to (xs : List V) (k : Nat) : cutV xs none (some (k : Int)) = xs.take k := by
  unfold cutV
  rw [HT.sIx_nat, HT.sIx_none, List.drop_zero, Nat.sub_zero]
  by_cases h : k ≤ xs.length
  · rw [Nat.min_eq_left h]
  · rw [Nat.min_eq_right (by omega), List.take_of_length_le (by omega), List.take_of_length_le (by omega)]
theorem cut_mid (xs : List V) {i j : Nat} (hi : i ≤ xs.length) (hj : j ≤ xs.length) : cutV xs (some (i : Int)) (some (j : Int)) = (xs.drop i).take (j - i) := by
  unfold cutV
  rw [HT.sIx_nat, HT.sIx_nat, Nat.min_eq_left hi, Nat.min_eq_left hj]
theorem natV_drop (l : List Nat) (k : Nat) : (natV l).drop k = natV (l.drop k) := List.map_drop.symm
theorem natV_take (l : List Nat) (k : Nat) : (natV l).take k = natV (l.take k) := List.map_take.symm
theorem ints_V (l : List Nat) : (Sm11.ints l).map V.int = natV l := (natV_I l).symm
theorem natV_cons (a : Nat) (l : List Nat) : natV (a :: l) = .int (a : Nat) :: natV l := rfl
/-! ### Line.__init__ -/
def sp_Line_init (C : Addr) : Sp := fun vs H Q _ => ∃ (a dx : Addr), vs = [.ref a] ∧ H a = some (.ins C dx []) ∧
  ∀ H' F', LineIs C H' a Sm11.init F' → Keeps [a] H H' → (∀ b ∈ F', b = a ∨ H b = none) → Q .non H'
theorem ok_Line_init (T : Top K mg) : FnOk P w K mg base CX0 1 T.f_Line_init T.fd_Line_init ["self"] (sp_Line_init T.C_Line) := by
  refine T.F_Line_init.ok sc_Line_init (fun vs H Q E h => ?_) (fun cdv A outer s H vs Q E hr h => ?_)
  · obtain ⟨_, _, rfl, _⟩ := h
    rfl
  · obtain ⟨a, dx, rfl, ob, q⟩ := h
    refine ⟨_, (pss_cons (ps_fld (pv 0) (pe_glob (v := .int (3)) rfl T.g_FIRST_GREATEST ⟨_, rfl⟩) rfl)
        (pss_cons (ps_fld (pv 0) (pe_lst (pa_cons (pe_lst pa_nil) (pa_cons (pe_lst pa_nil) pa_nil))) rfl)
        (pss_one (ps_fld (pv 0) (pe_lst pa_nil) rfl)))), ?_⟩
    refine ⟨_, rfl, a, _, dx, _, rfl, ob, T.cl_Line, T.no_Line_greatest, (by show 0 < 1000; decide), ?_⟩
    rw [put_new]
    have hA : (upd H a (.ins T.C_Line dx [("greatest", .int 3)])) a = some (.ins T.C_Line dx [("greatest", .int 3)]) := upd_same
    have k2 : ∀ b, b ≠ a → (upd H a (.ins T.C_Line dx [("greatest", .int 3)])) b = H b := fun b z => upd_ne z
    generalize upd H a (.ins T.C_Line dx [("greatest", .int 3)]) = H2 at hA k2 ⊢
    refine ⟨Nat.zero_le _, fun u0 n0 => ⟨Nat.zero_le _, fun u1 n1 => ⟨(by show 2 ≤ sizeLine; decide), fun U2 n2 => ?_⟩⟩⟩
    have e0 := same_upd (o := .lst []) n0
    have e1 := same_upd (o := .lst []) n1
    have e2 := same_upd (o := .lst [.ref u0, .ref u1]) n2
    have g0 : (upd H2 u0 (.lst [])) u0 = some (.lst []) := upd_same
    have g1 : (upd (upd H2 u0 (.lst [])) u1 (.lst [])) u1 = some (.lst []) := upd_same
    have g2 : (upd (upd (upd H2 u0 (.lst [])) u1 (.lst [])) U2 (.lst [.ref u0, .ref u1])) U2 = some (.lst [.ref u0, .ref u1]) := upd_same
    have d01 : u0 ≠ u1 := ne_of_none g0 n1
    have d02 : u0 ≠ U2 := ne_of_none (e1 _ _ g0) n2
    have d12 : u1 ≠ U2 := ne_of_none g1 n2
    have a0 : a ≠ u0 := ne_of_none hA n0
    have a1 : a ≠ u1 := ne_of_none (e0 _ _ hA) n1
    have a2 : a ≠ U2 := ne_of_none (e1 _ _ (e0 _ _ hA)) n2
    have f1 : H2 u1 = none := e0.free n1
    have f2 : H2 U2 = none := e0.free (e1.free n2)
    have eT := e0.trans (e1.trans e2)
    have x0 := e2 _ _ (e1 _ _ g0)
    have x1 := e2 _ _ g1
    generalize upd (upd (upd H2 u0 (.lst [])) u1 (.lst [])) U2 (.lst [.ref u0, .ref u1]) = H3 at eT x0 x1 g2 ⊢
    refine ⟨_, rfl, a, _, dx, _, rfl, eT _ _ hA, T.cl_Line, T.no_Line_tellings, (by show 1 < 1000; decide), ?_⟩
    rw [put_past (by decide +kernel), put_new]
    have hA4 : (upd H3 a (.ins T.C_Line dx [("greatest", .int 3), ("tellings", .ref U2)])) a = some (.ins T.C_Line dx [("greatest", .int 3), ("tellings", .ref U2)]) := upd_same
    have k4 : ∀ b, b ≠ a → (upd H3 a (.ins T.C_Line dx [("greatest", .int 3), ("tellings", .ref U2)])) b = H3 b := fun b z => upd_ne z
    generalize upd H3 a (.ins T.C_Line dx [("greatest", .int 3), ("tellings", .ref U2)]) = H4 at hA4 k4 ⊢
    refine ⟨Nat.zero_le _, fun S2 n3 => ?_⟩
    have e5 := same_upd (o := .lst []) n3
    have g5 : (upd H4 S2 (.lst [])) S2 = some (.lst []) := upd_same
    have aS : a ≠ S2 := ne_of_none hA4 n3
    have x0' : H4 u0 = some (.lst []) := (k4 _ a0.symm).trans x0
    have x1' : H4 u1 = some (.lst []) := (k4 _ a1.symm).trans x1
    have x2' : H4 U2 = some (.lst [.ref u0, .ref u1]) := (k4 _ a2.symm).trans g2
    have s0 : u0 ≠ S2 := ne_of_none x0' n3
    have s1 : u1 ≠ S2 := ne_of_none x1' n3
    have s2 : U2 ≠ S2 := ne_of_none x2' n3
    have f5 : H2 S2 = none := eT.free (by rw [← k4 _ aS.symm]; exact n3)
    generalize upd H4 S2 (.lst []) = H5 at e5 g5 ⊢
    refine ⟨_, rfl, a, _, dx, _, rfl, e5 _ _ hA4, T.cl_Line, T.no_Line_steps, (by show 2 < 1000; decide), ?_⟩
    rw [put_past (by decide +kernel), put_past (by decide +kernel), put_new]
    have k6 : ∀ b, b ≠ a → (upd H5 a (.ins T.C_Line dx [("greatest", .int 3), ("tellings", .ref U2), ("steps", .ref S2)])) b = H5 b := fun b z => upd_ne z
    refine q _ [a, U2, S2, u0, u1] ⟨dx, U2, S2, u0, u1, [], [], [], rfl, ⟨upd_same, ?_, ?_, ?_, ?_, ?_, .nil, .nil, .nil⟩⟩ (fun b o z nb => ?_) (fun b hb => ?_)
    · exact (k6 _ a2.symm).trans (e5 _ _ x2')
    · exact (k6 _ a0.symm).trans (e5 _ _ x0')
    · exact (k6 _ a1.symm).trans (e5 _ _ x1')
    · exact (k6 _ aS.symm).trans g5
    · simp only [List.nodup_cons, List.mem_cons, List.not_mem_nil, or_false, not_or, not_false_eq_true, List.nodup_nil, and_true]
      exact ⟨⟨s2, d02.symm, d12.symm⟩, ⟨s0.symm, s1.symm⟩, d01⟩
    · have nb' : b ≠ a := fun y => nb (by rw [y]; simp)
      rw [k6 _ nb']
      refine e5 _ _ ?_
      rw [k4 _ nb']
      refine eT _ _ ?_
      rw [k2 _ nb']
      exact z
    · simp only [List.mem_cons, List.not_mem_nil, or_false] at hb ⊢
      rcases hb with h | h | h | h | h
      · exact .inl h
      · exact .inr (by rw [h, ← k2 _ a2.symm]; exact f2)
      · exact .inr (by rw [h, ← k2 _ aS.symm]; exact f5)
      · exact .inr (by rw [h, ← k2 _ a0.symm]; exact n0)
      · exact .inr (by rw [h, ← k2 _ a1.symm]; exact f1)
/-! ### undo -/
theorem All2.init {α β : Type} {R : α → β → Prop} : ∀ {l : List α} {m : List β}, All2 R l m → All2 R l.dropLast m.dropLast
  | _, _, .nil => .nil
  | _, _, .cons _ .nil => .nil
  | _, _, .cons x (.cons y r) => .cons x (All2.init (.cons y r))
theorem undo0 {s : Sm11.St} (h : s.prog = []) : Sm11.step s .undo = (s, [-7]) := by
  show (match s.prog.reverse with
    | [] => (s, [-7])
    | _ :: r => ((⟨s.n, s.before, s.behind, r.reverse⟩ : Sm11.St), [(r.length : Int)])) = _
  rw [h]
  rfl
theorem undo_p {s : Sm11.St} (h : s.prog ≠ []) : Sm11.step s .undo = (⟨s.n, s.before, s.behind, s.prog.dropLast⟩, [(s.prog.dropLast.length : Int)]) := by
  show (match s.prog.reverse with
    | [] => (s, [-7])
    | _ :: r => ((⟨s.n, s.before, s.behind, r.reverse⟩ : Sm11.St), [(r.length : Int)])) = _
  obtain ⟨l, x, e⟩ : ∃ l x, s.prog = l ++ [x] := ⟨s.prog.dropLast, s.prog.getLast h, (List.dropLast_concat_getLast h).symm⟩
  rw [e]
  simp
def sp_undo (C : Addr) : Sp := fun vs H Q _ => ∃ (a : Addr) (s : Sm11.St) (F : List Addr), vs = [.ref a] ∧ LineIs C H a s F ∧
  Post C H a F (Sm11.step s .undo).1 (Sm11.step s .undo).2 Q
theorem ok_undo_step (T : Top K mg) : FnOk P w K mg base CX0 1 T.f_undo_step T.fd_undo_step ["line"] (sp_undo T.C_Line) := by
  refine T.F_undo_step.ok sc_undo_step (fun vs H Q E h => ?_) (fun cdv A outer s H vs Q E hr h => ?_)
  · obtain ⟨_, _, _, rfl, _⟩ := h
    rfl
  · obtain ⟨a, s, F, rfl, ⟨dx, U, S, t0, t1, f0, f1, fs, rfl, hL⟩, q⟩ := h
    refine ⟨_, (pss_cons (ps_if (pt_cmpR op_eq (pe_callB call_len_seq (by rfl) T.n_len PySem.boot_len (pa_cons (pe_fld (pv 0) rfl) pa_nil)) pe_int (nomark _))
          (pss_one (ps_ret (pe_glob (v := .int (-7)) rfl T.g_NONE_THERE ⟨_, rfl⟩)))
          pss_nil)
        (pss_cons (ps_expr (pe_bm0 PySem.F.plainAttrs_list PySem.F.slot_list_pop PySem.F.type_list_pop mt_pop (pe_fld (pv 0) rfl)))
        (pss_one (ps_ret (pe_callB call_len_seq (by rfl) T.n_len PySem.boot_len (pa_cons (pe_fld (pv 0) rfl) pa_nil)))))), ?_⟩
    have lk : List.lookup ("steps" : Str) [("greatest", V.int s.n), ("tellings", .ref U), ("steps", .ref S)] = some (.ref S) := (lk_past (by decide +kernel)).trans ((lk_past (by decide +kernel)).trans lk_here)
    have hlen : fs.length = s.prog.length := hL.wS.length.trans (List.length_map _)
    refine ⟨_, rfl, a, _, dx, _, _, rfl, hL.ob, T.cl_Line, T.no_Line_steps, lk, S, fs, rfl, .inl (SqL.of hL.hS), rfl, _, rfl, ?_⟩
    rw [dInt]
    by_cases h0 : s.prog = []
    · rw [undo0 h0] at q
      refine if_true_of (decide_eq_true (by rw [hlen, h0]; rfl)) (q H _ _ rfl ⟨dx, U, S, t0, t1, f0, f1, fs, rfl, hL⟩ (Keeps.of (Same.refl H)) Grown.refl)
    · have hp : 0 < s.prog.length := List.length_pos_iff.mpr h0
      rw [undo_p h0] at q
      refine if_false_of (decide_eq_false (by omega)) ?_
      refine ⟨_, rfl, a, _, dx, _, _, rfl, hL.ob, T.cl_Line, T.no_Line_steps, lk, .inl ⟨rfl, _, SqL.of hL.hS⟩, S, fs, fs[fs.length - 1]'(by omega), rfl, rfl, hL.hS, List.getElem?_eq_getElem _, ?_⟩
      have L3 := hL.setS (g := fs.dropLast) (l := s.prog.dropLast) (by
        rw [List.map_dropLast]
        exact hL.wS.init)
      refine ⟨_, rfl, a, _, dx, _, _, rfl, L3.ob, T.cl_Line, T.no_Line_steps, lk, S, _, rfl, .inl (SqL.of L3.hS), ?_⟩
      have hz : fs.dropLast.length = s.prog.dropLast.length := by
        rw [List.length_dropLast, List.length_dropLast, hlen]
      rw [hz]
      exact q _ _ _ rfl ⟨dx, U, S, t0, t1, _, f1, _, rfl, L3⟩ (keeps_upd (Same.refl H) (by simp)) Grown.refl
/-! ### swap -/
def PostL (C : Addr) (H : Hp) (a : Addr) (F : List Addr) (s' : Sm11.St) (r : List Int) (Q : VK) : Prop := ∀ (H' : Hp) (F' : List Addr) (p : Addr), LineIs C H' a s' F' → Keeps F H H' → Grown F H F' → H p = none → H' p = some (.lst (r.map V.int)) → Q (.ref p) H'
def sp_swap (C : Addr) : Sp := fun vs H Q _ => ∃ (a : Addr) (s : Sm11.St) (F : List Addr), vs = [.ref a] ∧ LineIs C H a s F ∧
  PostL C H a F (Sm11.step s .swap).1 (Sm11.step s .swap).2 Q
theorem ok_swap_tellings (T : Top K mg) : FnOk P w K mg base CX0 1 T.f_swap_tellings T.fd_swap_tellings ["line"] (sp_swap T.C_Line) := by
  refine T.F_swap_tellings.ok sc_swap_tellings (fun vs H Q E h => ?_) (fun cdv A outer s H vs Q E hr h => ?_)
  · obtain ⟨_, _, _, rfl, _⟩ := h
    rfl
  · obtain ⟨a, s, F, rfl, ⟨dx, U, S, t0, t1, f0, f1, fs, rfl, hL⟩, q⟩ := h
    refine ⟨_, (pss_cons (ps_expr (pe_bm0 PySem.F.plainAttrs_list PySem.F.slot_list_reverse PySem.F.type_list_reverse mt_reverse (pe_fld (pv 0) rfl)))
        (pss_one (ps_ret (pe_lc (own := [("telling", 1)]) (g := gName 1) (tt := tYes) rfl sc_swap_tellings.nd (pi_list (pe_fld (pv 0) rfl)) (blkOk_by (own := [("telling", 1)]) (N := ["line", "telling"]) (sc := defScope s_swap_tellings) (by decide +kernel)) (fun _ _ _ _ _ => (pg_name (i := 1) sc_swap_tellings.nd rfl (Or.inl rfl))) (fun _ _ _ _ _ => pts_nil) (fun _ _ _ _ _ => (pe_callB (r := rLenK K) call_len_seq (by rfl) T.n_len PySem.boot_len (pa_cons (pv 1) pa_nil))))))), ?_⟩
    have lk : List.lookup ("tellings" : Str) [("greatest", V.int s.n), ("tellings", .ref U), ("steps", .ref S)] = some (.ref U) := (lk_past (by decide +kernel)).trans lk_here
    obtain ⟨m1, m2, m3, m4, m5, m6⟩ := hL.nds
    refine ⟨_, rfl, a, _, dx, _, _, rfl, hL.ob, T.cl_Line, T.no_Line_tellings, lk, .inl ⟨rfl, _, SqL.of hL.hT⟩, U, _, rfl, rfl, hL.hT, ?_⟩
    have L3 : LineAt T.C_Line (upd H U (.lst [.ref t1, .ref t0])) a ⟨s.n, s.behind, s.before, s.prog⟩ dx U S t1 t0 f1 f0 fs := by
      refine ⟨?_, upd_same, ?_, ?_, ?_, ?_, hL.w1.upd hL.hT, hL.w0.upd hL.hT, hL.wS.upd hL.hT⟩
      · rw [upd_ne hL.aT]
        exact hL.ob
      · rw [upd_ne m3.symm]
        exact hL.h1
      · rw [upd_ne m2.symm]
        exact hL.h0
      · rw [upd_ne m1.symm]
        exact hL.hS
      · simp only [List.nodup_cons, List.mem_cons, List.not_mem_nil, or_false, not_or, not_false_eq_true, List.nodup_nil, and_true]
        exact ⟨⟨m1, m3, m2⟩, ⟨m5, m4⟩, m6.symm⟩
    have k3 : Keeps [a, U, S, t0, t1] H (upd H U (.lst [.ref t1, .ref t0])) := keeps_upd (Same.refl H) (by simp)
    have fr : ∀ D, (upd H U (.lst [.ref t1, .ref t0])) D = none → H D = none := by
      intro D hD
      cases z : H D with
      | none => rfl
      | some o =>
        by_cases y : D = U
        · rw [y, upd_same] at hD
          cases hD
        · rw [upd_ne y, z] at hD
          cases hD
    rw [show ([V.ref t0, V.ref t1].reverse) = [V.ref t1, V.ref t0] from rfl]
    generalize upd H U (.lst [.ref t1, .ref t0]) = H3 at L3 k3 fr ⊢
    have l0 : f0.length = s.before.length := hL.w0.length.trans (List.length_map _)
    have l1 : f1.length = s.behind.length := hL.w1.length.trans (List.length_map _)
    refine ⟨_, rfl, a, _, dx, _, _, rfl, L3.ob, T.cl_Line, T.no_Line_tellings, lk, U, rfl, ⟨_, SqL.of L3.hT⟩, fun D hD => lc_list (K := K) (a := U) (xs := [.ref t1, .ref t0]) (fun i H' => Same H3 H' ∧ H' D = some (.lst (natV ([s.behind.length, s.before.length].take i)))) ?_ ?_ ?_ ?_⟩
    · exact ⟨same_upd hD, upd_same⟩
    · exact fun i H' _ z => SqL.of (z.1 _ _ L3.hT)
    · rintro i x H' hi ⟨e4, hA⟩
      refine ⟨rfl, ?_⟩
      dsimp only [tYes]
      rw [if_pos rfl]
      have L4 := L3.same e4
      match i, hi with
      | 0, hi =>
        obtain rfl := Option.some.inj hi
        refine ⟨_, rfl, t1, f1, rfl, .inl (SqL.of L4.h0), _, hA, small1000 (by show 0 ≤ 1000; omega), same_updL hD e4, ?_⟩
        rw [upd_same, l1]
        rfl
      | 1, hi =>
        obtain rfl := Option.some.inj hi
        refine ⟨_, rfl, t0, f0, rfl, .inl (SqL.of L4.h1), _, hA, small1000 (by show 1 ≤ 1000; omega), same_updL hD e4, ?_⟩
        rw [upd_same, l0]
        rfl
      | i + 2, hi => cases hi
    · rintro H4 ⟨e4, hA⟩
      refine q H4 [a, U, S, t1, t0] D ⟨dx, U, S, t1, t0, f1, f0, fs, rfl, L3.same e4⟩ (k3.trans (Keeps.of e4)) (fun b hb => .inl ?_) (fr D hD) ?_
      · simp only [List.mem_cons, List.not_mem_nil, or_false] at hb ⊢
        rcases hb with h | h | h | h | h <;> simp [h]
      · exact hA
/-! ### world_told -/
def sp_world_told : Sp := fun vs H Q _ => ∃ (n d : Addr) (vals : List Nat) (h : List (Nat × Nat)), vs = [.ref n, .ref d] ∧ NamesAt H n vals ∧ HeapAt H d h ∧ vals.length + 2 * h.length ≤ 900 ∧
  ∀ H' p, Same H H' → H p = none → H' p = some (.lst ((Sm11.toldWorld ⟨vals, h⟩).map V.int)) → Q (.ref p) H'
def toldN (vals : List Nat) (h : List (Nat × Nat)) (i : Nat) : List Nat := vals.drop 1 ++ h.length :: (h.take i).flatMap fun c => [c.1, c.2]
def wtW (n d p : Addr) (vals : List Nat) (h : List (Nat × Nat)) (H : Hp) (L : Addr) (i : Nat) (σ : L2.St) (H1 : Hp) : Prop := (∃ o3, σ = [some (.ref n), some (.ref d), some (.ref p), o3]) ∧ Same H H1 ∧ H1 L = some (.lst ((natI (Sm11.places h)).map V.int)) ∧ H1 p = some (.lst (natV (toldN vals h i)))
theorem told_len (vals : List Nat) (h : List (Nat × Nat)) (i : Nat) : (toldN vals h i).length ≤ vals.length + 1 + 2 * h.length := by
  unfold toldN
  have : ∀ l : List (Nat × Nat), (l.flatMap fun c => [c.1, c.2]).length = 2 * l.length := by
    intro l
    induction l with
    | nil => rfl
    | cons c l ih =>
      rw [List.flatMap_cons, List.length_append, ih]
      simp only [List.length_cons, List.length_nil]
      omega
  rw [List.length_append, List.length_cons, this, List.length_drop, List.length_take]
  omega
theorem sorted_asc {l m : List Nat} {ys : List Int} (hl : l.Perm m) (hm : m.Pairwise (· < ·)) (hp : ys.Perm (natI l)) (hs : ys.Pairwise (· ≤ ·)) : ys = natI m := by
  have hn : ys.Nodup := hp.nodup_iff.mpr (nodup_natI.mpr (hl.nodup_iff.mpr (List.Pairwise.imp (fun q => Nat.ne_of_lt q) hm)))
  refine asc_eqI ?_ (asc_natI hm) fun x => ?_
  · refine (hs.and hn).imp fun q => ?_
    have := q.1
    have := q.2
    omega
  · rw [hp.mem_iff, mem_natI, mem_natI]
    constructor
    · rintro ⟨k, a, b⟩
      exact ⟨k, hl.mem_iff.mp a, b⟩
    · rintro ⟨k, a, b⟩
      exact ⟨k, hl.mem_iff.mpr a, b⟩
theorem ok_world_told (T : Top K mg) : FnOk P w K mg base CX0 1 T.f_world_told T.fd_world_told ["names", "heap"] sp_world_told := by
  refine T.F_world_told.ok sc_world_told (fun vs H Q E h => ?_) (fun cdv A outer s H vs Q E hr h => ?_)
  · obtain ⟨_, _, _, _, rfl, _⟩ := h
    rfl
  · obtain ⟨n, d, vals, h, rfl, hn, hd, hz, q⟩ := h
    refine ⟨_, (pss_cons (ps_set (i := 2) sc_world_told.nd rfl (Or.inl rfl) (pe_slice sl_list (pv 0) (po_some pe_int) po_none))
        (pss_cons (ps_expr (pe_bm PySem.F.plainAttrs_list PySem.F.slot_list_append PySem.F.type_list_append mt_append (pv 2) (pa_cons (pe_callB call_lenD (by rfl) T.n_len PySem.boot_len (pa_cons (pv 1) pa_nil)) pa_nil)))
        (pss_cons (ps_for PassesOwn.never rfl (pi_list (pe_callB (cr_sortD rfl) (by rfl) T.n_sorted (by decide +kernel) (pa_cons (pv 1) pa_nil))) (pg_name (i := 3) sc_world_told.nd rfl (Or.inl rfl))
          (pss_cons (ps_expr (pe_bm PySem.F.plainAttrs_list PySem.F.slot_list_append PySem.F.type_list_append mt_append (pv 2) (pa_cons (pv 3) pa_nil)))
          (pss_one (ps_expr (pe_bm PySem.F.plainAttrs_list PySem.F.slot_list_append PySem.F.type_list_append mt_append (pv 2) (pa_cons (pe_dget (hu_of hr) (pv 1) (pv 3) (fun _ _ => rfl)) pa_nil))))))
        (pss_one (ps_ret (pv 2)))))), ?_⟩
    refine ⟨_, rfl, (1 : Nat), rfl, n, _, rfl, SqL.of hn, fun p hp => ?_⟩
    rw [cut_from, natV_drop]
    have e1 := same_upd (o := .lst (natV (vals.drop 1))) hp
    have hA : (upd H p (.lst (natV (vals.drop 1)))) p = some (.lst (natV (vals.drop 1))) := upd_same
    generalize upd H p (.lst (natV (vals.drop 1))) = H1 at e1 hA ⊢
    obtain ⟨l, hl, hlk, hasc⟩ := hd.same e1
    have hll : l.length = h.length := hlk.length hasc
    refine ⟨_, rfl, .inl ⟨rfl, _, SqL.of hA⟩, _, rfl, d, _, rfl, hl, p, _, _, rfl, rfl, hA, small1000 (by rw [natV_len, List.length_drop]; omega), ?_⟩
    have e2 : Same H (upd H1 p (.lst (natV (vals.drop 1) ++ [.int ((l.map encC).length : Nat)]))) := same_updL hp e1
    have hA2 : (upd H1 p (.lst (natV (vals.drop 1) ++ [.int ((l.map encC).length : Nat)]))) p = some (.lst (natV (toldN vals h 0))) := by
      rw [upd_same, List.length_map, hll]
      unfold toldN
      rw [natV_append]
      rfl
    have hl2 : (upd H1 p (.lst (natV (vals.drop 1) ++ [.int ((l.map encC).length : Nat)]))) d = some (.dK (l.map encC)) := by
      rw [upd_ne (ne_of hl hA (by intro z; cases z))]
      exact hl
    generalize upd H1 p (.lst (natV (vals.drop 1) ++ [.int ((l.map encC).length : Nat)])) = H2 at e2 hA2 hl2 ⊢
    refine ⟨_, rfl, d, _, natI (Sm11.places l), rfl, Rd.of hl2, ?_, fun ys L hperm hsort hL => ?_⟩
    · unfold natI Sm11.places
      rw [List.map_map, List.map_map, List.map_map]
      rfl
    have hys : ys = natI (Sm11.places h) := sorted_asc ((hlk.perm hasc).map _) hasc hperm hsort
    subst hys
    have e3 : Same H2 (upd H2 L (.lst ((natI (Sm11.places h)).map V.int))) := same_upd hL
    have hL3 : (upd H2 L (.lst ((natI (Sm11.places h)).map V.int))) L = some (.lst ((natI (Sm11.places h)).map V.int)) := upd_same
    have hpL : p ≠ L := ne_of_none hA2 hL
    generalize upd H2 L (.lst ((natI (Sm11.places h)).map V.int)) = H3 at e3 hL3 ⊢
    refine ⟨L, rfl, ⟨_, SqL.of hL3⟩, for_list (xs := (natI (Sm11.places h)).map V.int) (wtW n d p vals h H L) ⟨⟨_, rfl⟩, e2.trans e3, hL3, e3 _ _ hA2⟩ (fun i σ H1 _ z => SqL.of z.2.2.1) ?_ ?_⟩
    · rintro i x σ H4 hi ⟨⟨o3, rfl⟩, e4, hL4, hA4⟩
      have hip : i < h.length := by
        have := (List.getElem?_eq_some_iff.mp hi).1
        rwa [List.length_map, natI, List.length_map, Sm11.places, List.length_map] at this
      have hc : h[i]? = some h[i] := List.getElem?_eq_getElem hip
      have hx : x = .int ((h[i].1 : Nat) : Int) := by
        rw [List.getElem?_map, natI, List.getElem?_map, Sm11.places, List.getElem?_map, hc] at hi
        exact (Option.some.inj hi).symm
      subst hx
      have hget : Sm11.at_ h h[i].1 = some h[i].2 := (at_mem hasc.nodup).mpr (List.mem_of_getElem? hc)
      have tl := told_len vals h i
      refine ⟨_, rfl, .inl ⟨rfl, _, SqL.of hA4⟩, _, rfl, p, _, _, rfl, rfl, hA4, small1000 (by rw [natV_len]; omega), ?_⟩
      have e5 : Same H (upd H4 p (.lst (natV (toldN vals h i) ++ [.int ((h[i].1 : Nat) : Int)]))) := same_updL hp e4
      have hA5 : (upd H4 p (.lst (natV (toldN vals h i) ++ [.int ((h[i].1 : Nat) : Int)]))) p = some (.lst (natV (toldN vals h i) ++ [.int ((h[i].1 : Nat) : Int)])) := upd_same
      have hL5 : (upd H4 p (.lst (natV (toldN vals h i) ++ [.int ((h[i].1 : Nat) : Int)]))) L = some (.lst ((natI (Sm11.places h)).map V.int)) := by
        rw [upd_ne hpL.symm]
        exact hL4
      generalize upd H4 p (.lst (natV (toldN vals h i) ++ [.int ((h[i].1 : Nat) : Int)])) = H5 at e5 hA5 hL5 ⊢
      refine ⟨_, rfl, .inl ⟨rfl, _, SqL.of hA5⟩, _, rfl, _, rfl, d, _, rfl, (hd.same e5).getS hget, p, _, _, rfl, rfl, hA5, small1000 (by rw [List.length_append, natV_len]; simp only [List.length_cons, List.length_nil]; omega), ⟨_, rfl⟩, same_updL hp e5, ?_, ?_⟩
      · rw [upd_ne hpL.symm]
        exact hL5
      · rw [upd_same]
        unfold toldN
        rw [take_snoc hc]
        generalize h[i] = c
        simp [natV]
    · rintro σ H4 ⟨⟨o3, rfl⟩, e4, hL4, hA4⟩
      refine ⟨_, rfl, q H4 p e4 hp ?_⟩
      rw [hA4, show Sm11.toldWorld ⟨vals, h⟩ = Sm11.ints (vals.drop 1 ++ h.length :: h.flatMap fun c => [c.1, c.2]) from rfl, ints_V]
      unfold toldN
      rw [List.length_map, natI, List.length_map, Sm11.places, List.length_map, List.take_length]
/-! ### worlds handed in -/
def sp_names_of : Sp := fun vs H Q _ => ∃ (n : Nat) (a : Addr) (l : List Nat), vs = [.int n, .ref a] ∧ NamesAt H a l ∧ l.length ≤ 900 ∧ ∀ H' p, Same H H' → H p = none → NamesAt H' p (0 :: l.take n) → Q (.ref p) H'
theorem ok_names_of (T : Top K mg) : FnOk P w K mg base CX0 1 T.f_names_of T.fd_names_of ["greatest", "numbers"] sp_names_of := by
  refine T.F_names_of.ok sc_names_of (fun vs H Q E h => ?_) (fun cdv A outer s H vs Q E hr h => ?_)
  · obtain ⟨_, _, _, rfl, _⟩ := h
    rfl
  · obtain ⟨n, a, l, rfl, ha, hz, q⟩ := h
    refine ⟨_, (pss_one (ps_ret (pe_op op_cat (pe_lst (pa_cons pe_int pa_nil)) (pe_slice sl_list (pv 1) po_none (po_some (pv 0)))))), ?_⟩
    refine ⟨(by show 1 ≤ sizeLine; decide), fun x hx => ?_⟩
    have e1 := same_upd (o := .lst [.int 0]) hx
    have h1 : (upd H x (.lst [.int 0])) x = some (.lst [.int 0]) := upd_same
    generalize upd H x (.lst [.int 0]) = H1 at e1 h1 ⊢
    refine ⟨_, rfl, _, rfl, (n : Nat), rfl, a, _, rfl, SqL.of (e1 _ _ ha), fun y hy => ?_⟩
    rw [cut_to, natV_take]
    have e2 := same_upd (o := .lst (natV (l.take n))) hy
    have h2 : (upd H1 y (.lst (natV (l.take n)))) y = some (.lst (natV (l.take n))) := upd_same
    generalize upd H1 y (.lst (natV (l.take n))) = H2 at e2 h2 ⊢
    refine ⟨x, y, _, _, rfl, rfl, e2 _ _ h1, h2, ?_, fun p hp => ?_⟩
    · have := small1000 (show 1 + (l.take n).length ≤ 1000 by rw [List.length_take]; omega)
      rw [natV_len]
      exact Nat.le_of_lt this
    · exact q _ p (e1.trans (e2.trans (same_upd hp))) (e1.free (e2.free hp)) upd_same
def sp_heap_of : Sp := fun vs H Q _ => ∃ (n : Nat) (a : Addr) (l : List Nat) (g : List (Nat × Nat)), vs = [.int n, .ref a] ∧ NamesAt H a l ∧ Asc g ∧ Sm11.places g = evens (l.drop n) ∧ (g.map fun c => c.2) = evens (l.drop (n + 1)) ∧ ∀ H' p, Same H H' → H p = none → HeapAt H' p g → Q (.ref p) H'
theorem evens_nat (l : List Nat) : evens (natV l) = natV (evens l) := (evens_map _ l).symm
theorem zip_enc : ∀ g : List (Nat × Nat), zipK (natI (Sm11.places g)) (natV (g.map fun c => c.2)) = g.map encC
  | [] => rfl
  | c :: g => by
    have := zip_enc g
    unfold zipK natI natV Sm11.places at *
    simp only [List.map_cons, List.zip_cons_cons, this]
    rfl
theorem ok_heap_of (T : Top K mg) : FnOk P w K mg base CX0 1 T.f_heap_of T.fd_heap_of ["greatest", "numbers"] sp_heap_of := by
  refine T.F_heap_of.ok sc_heap_of (fun vs H Q E h => ?_) (fun cdv A outer s H vs Q E hr h => ?_)
  · obtain ⟨_, _, _, _, rfl, _⟩ := h
    rfl
  · obtain ⟨n, a, l, g, rfl, ha, hasc, hp1, hp2, q⟩ := h
    refine ⟨_, (pss_one (ps_ret (pe_dictZip rfl (by rfl) T.n_dict (by rfl) T.n_zip (pa_cons (pe_step2 (pv 1) (pv 0)) (pa_cons (pe_step2 (pv 1) (pe_op op_add (pv 0) pe_int)) pa_nil))))), ?_⟩
    refine ⟨_, rfl, _, rfl, (n : Nat), rfl, a, _, n, rfl, rfl, SqL.of ha, fun x hx => ?_⟩
    rw [natV_drop, evens_nat, ← hp1, natV_I]
    have e1 := same_upd (o := .lst ((natI (Sm11.places g)).map V.int)) hx
    have h1 : (upd H x (.lst ((natI (Sm11.places g)).map V.int))) x = some (.lst ((natI (Sm11.places g)).map V.int)) := upd_same
    generalize upd H x (.lst ((natI (Sm11.places g)).map V.int)) = H1 at e1 h1 ⊢
    refine ⟨_, rfl, _, rfl, _, _, rfl, rfl, ((n + 1 : Nat) : Int), rfl, a, _, n + 1, rfl, rfl, SqL.of (e1 _ _ ha), fun y hy => ?_⟩
    rw [natV_drop, evens_nat, ← hp2]
    have e2 := same_upd (o := .lst (natV (g.map fun c => c.2))) hy
    have h2 : (upd H1 y (.lst (natV (g.map fun c => c.2)))) y = some (.lst (natV (g.map fun c => c.2))) := upd_same
    generalize upd H1 y (.lst (natV (g.map fun c => c.2))) = H2 at e2 h2 ⊢
    refine ⟨x, y, _, _, rfl, SqL.of (e2 _ _ h1), SqL.of h2, ?_, fun p hp => ?_⟩
    · rw [natV_len, natI, List.length_map, Sm11.places, List.length_map, List.length_map]
    · rw [zip_enc]
      refine q _ p (e1.trans (e2.trans (same_upd hp))) (e1.free (e2.free hp)) ⟨g, ?_, Like.refl hasc, hasc⟩
      rw [upd_same]
      have := merge_enc g [] (by simpa using hasc.nodup)
      rw [List.map_nil, List.nil_append] at this
      rw [this]
def sp_is_world : Sp := fun vs H Q _ => ∃ (n : Nat) (a : Addr) (l : List Nat), vs = [.int n, .ref a] ∧ NamesAt H a l ∧ ∀ H', Same H H' → Q (.bl (isWorld n l)) H'
def iwW (n : Nat) (a p : Addr) (l : List Nat) (H : Hp) (i : Nat) (σ : L2.St) (H1 : Hp) : Prop := ∃ (low : Nat) (o3 : Option V), σ = [some (.int n), some (.ref a), some (.int low), o3] ∧ Same H H1 ∧ H1 p = some (.lst (natV l)) ∧ upFrom 1 l = upFrom low (l.drop i)
theorem ok_is_world (T : Top K mg) : FnOk P w K mg base CX0 1 T.f_is_world T.fd_is_world ["greatest", "numbers"] sp_is_world := by
  refine T.F_is_world.ok sc_is_world (fun vs H Q E h => ?_) (fun cdv A outer s H vs Q E hr h => ?_)
  · obtain ⟨_, _, _, rfl, _⟩ := h
    rfl
  · obtain ⟨n, a, l, rfl, ha, q⟩ := h
    refine ⟨_, (pss_cons (ps_if (PW.pt (pw_or (pt_cmpR op_lt (pe_callB call_len_seq (by rfl) T.n_len PySem.boot_len (pa_cons (pv 1) pa_nil)) (pv 0) (nomark _)) (pw_or1 (pt_cmpR op_ne (pe_op op_mod (pe_op op_sub (pe_callB call_len_seq (by rfl) T.n_len PySem.boot_len (pa_cons (pv 1) pa_nil)) (pv 0)) pe_int) pe_int (nomark _)))))
          (pss_one (ps_ret pe_bl))
          pss_nil)
        (pss_cons (ps_set (i := 2) sc_is_world.nd rfl (Or.inl rfl) pe_int)
        (pss_cons (ps_for PassesOwn.never rfl (pi_list (pe_step2 (pv 1) (pv 0))) (pg_name (i := 3) sc_is_world.nd rfl (Or.inl rfl))
          (pss_cons (ps_if (pt_cmpR op_lt (pv 3) (pv 2) (nomark _))
            (pss_one (ps_ret pe_bl))
            pss_nil)
          (pss_one (ps_set (i := 2) sc_is_world.nd rfl (Or.inl rfl) (pe_op op_add (pv 3) pe_int)))))
        (pss_one (ps_ret pe_bl))))), ?_⟩
    refine if_tests (!(decide (n ≤ l.length) && decide ((l.length - n) % 2 = 0))) (· = H) (fun Qb k => ?_) (fun H1 e => ?_)
    · refine ⟨_, rfl, a, _, rfl, .inl (SqL.of ha), _, rfl, _, _, rfl, rfl, _, rfl, ?_⟩
      have := k H rfl
      rw [natV_len]
      by_cases h0 : l.length < n
      · refine if_true_of (decide_eq_true (by omega)) ?_
        rw [decide_eq_false (show ¬ n ≤ l.length by omega)] at this
        exact this
      · refine if_false_of (decide_eq_false (by omega)) ?_
        rw [decide_eq_true (show n ≤ l.length by omega), Bool.true_and] at this
        refine ⟨_, rfl, a, _, rfl, .inl (SqL.of ha), _, rfl, _, _, rfl, rfl, _, _, rfl, rfl, (by show (0 : Int) < 2; decide), rfl, _, rfl, ?_⟩
        rw [natV_len, dInt]
        rw [show (!decide ((l.length - n) % 2 = 0)) = !decide (((l.length : Int) - (n : Int)) % 2 = 0) by
          congr 1
          rw [Bool.eq_iff_iff, decide_eq_true_iff, decide_eq_true_iff]
          omega] at this
        exact this
    · subst e
      by_cases h1 : (decide (n ≤ l.length) && decide ((l.length - n) % 2 = 0)) = true
      · refine if_false_of (by rw [h1]; rfl) ?_
        have hw : isWorld n l = upFrom 1 (evens (l.drop n)) := by
          unfold isWorld
          rw [← Bool.and_assoc, h1, Bool.true_and]
        refine ⟨_, rfl, _, rfl, (n : Nat), rfl, a, _, n, rfl, rfl, SqL.of ha, fun p hp => ?_⟩
        rw [natV_drop, evens_nat]
        refine ⟨p, rfl, ⟨_, SqL.of upd_same⟩, for_list (xs := natV (evens (l.drop n))) (iwW n a p (evens (l.drop n)) H1) ⟨1, _, rfl, same_upd hp, upd_same, by rw [List.drop_zero]⟩ (fun i σ H1 _ ⟨_, _, _, _, z, _⟩ => SqL.of z) ?_ ?_⟩
        · rintro i x σ H4 hi ⟨low, o3, rfl, e4, h4, hup⟩
          have hip : i < (evens (l.drop n)).length := by
            have := (List.getElem?_eq_some_iff.mp hi).1
            rwa [natV_len] at this
          rw [natV_at hip] at hi
          obtain rfl := Option.some.inj hi
          have hc : (evens (l.drop n))[i]? = some ((evens (l.drop n)).getD i 0) := by
            rw [List.getD_eq_getElem?_getD, List.getElem?_eq_getElem hip]
            rfl
          generalize (evens (l.drop n)).getD i 0 = c at hc ⊢
          have hdr : (evens (l.drop n)).drop i = c :: (evens (l.drop n)).drop (i + 1) := by
            rw [List.drop_eq_getElem_cons hip, (List.getElem?_eq_some_iff.mp hc).2]
          rw [hdr, upFrom] at hup
          refine ⟨_, rfl, _, rfl, _, _, rfl, rfl, _, rfl, ?_⟩
          by_cases hlt : c < low
          · refine if_true_of (decide_eq_true (by omega)) ?_
            have := q H4 e4
            rw [hw, hup, decide_eq_false (by omega)] at this
            exact this
          · refine if_false_of (decide_eq_false (by omega)) ⟨_, rfl, _, _, rfl, rfl, c + 1, _, rfl, e4, h4, ?_⟩
            rw [hup, decide_eq_true (by omega), Bool.true_and]
        · rintro σ H4 ⟨low, o3, rfl, e4, h4, hup⟩
          have := q H4 e4
          rw [natV_len, List.drop_length] at hup
          rw [hw, hup] at this
          exact this
      · rw [Bool.not_eq_true] at h1
        refine if_true_of (by rw [h1]; rfl) ?_
        have := q H1 (Same.refl H1)
        rw [show isWorld n l = false by unfold isWorld; rw [← Bool.and_assoc, h1, Bool.false_and]] at this
        exact this
end Ph
namespace Ph
open PySem PySem.Spec PyProof.Rows L2
variable {P : Program} {w : World} {K : PySem.W.Frag} {mg : Str → Option Value} {base : Heap}
/-! ### the state -/
structure Sok (s : Sm11.St) : Prop where
  n1 : 1 ≤ s.n
  n4 : s.n ≤ 4
  b0 : NamesOk s.before (s.n + 1)
  b1 : NamesOk s.behind (s.n + 1)
  z0 : s.before.length ≤ 8
  z1 : s.behind.length ≤ 8
  zp : s.prog.length ≤ 4
  pr : StepsOk s.prog (s.n + 1)
section
variable {C : Addr} {H : Hp} {a : Addr} {s : Sm11.St} {dx T S t0 t1 : Addr} {f0 f1 fs : List V}
theorem LineAt.tell0 (h : LineAt C H a s dx T S t0 t1 f0 f1 fs) : TellAt H t0 s.before := ⟨f0, h.h0, h.w0⟩
theorem LineAt.tell1 (h : LineAt C H a s dx T S t0 t1 f0 f1 fs) : TellAt H t1 s.behind := ⟨f1, h.h1, h.w1⟩
theorem LineAt.steps (h : LineAt C H a s dx T S t0 t1 f0 f1 fs) : StepsAt H S s.prog := ⟨fs, h.hS, h.wS⟩
theorem LineAt.lg {n : Int} {T S : Addr} : List.lookup ("greatest" : Str) [("greatest", V.int n), ("tellings", .ref T), ("steps", .ref S)] = some (.int n) := lk_here
theorem LineAt.lt {n : Int} {T S : Addr} : List.lookup ("tellings" : Str) [("greatest", V.int n), ("tellings", .ref T), ("steps", .ref S)] = some (.ref T) := (lk_past (by decide +kernel)).trans lk_here
theorem LineAt.ls {n : Int} {T S : Addr} : List.lookup ("steps" : Str) [("greatest", V.int n), ("tellings", .ref T), ("steps", .ref S)] = some (.ref S) := (lk_past (by decide +kernel)).trans ((lk_past (by decide +kernel)).trans lk_here)
end
theorem PF.n_go (f : PF) : List.lookup ("go_on" : Str) f.fl = none := by
  unfold PF.fl
  repeat (refine (lk_past (by decide +kernel)).trans ?_)
  rfl
/-! ### plain worlds stay where all stays -/
theorem PWAll.same {C : Addr} {H H' : Hp} {a dx : Addr} {f : PF} {t : List Sm11.Fact} {n : Nat} {rs : List (List Nat)} {lus : List V} (e : Same H H') (I : PWAll C H a dx f t n rs lus) : PWAll C H' a dx f t n rs lus := by
  obtain ⟨us, u1, u2, u3⟩ := I.rw
  obtain ⟨kv, h1⟩ := I.he
  exact ⟨e _ _ I.ob, I.tl.same e, I.ok, I.tz, I.n4, ⟨us, e _ _ u1, RowsAt.same e u2, u3⟩, I.rr, I.m1, I.m6, e _ _ I.la, ⟨kv, e _ _ h1⟩, I.nr, I.rz, I.d1, I.d2⟩
theorem PWNow.same {C : Addr} {H H' : Hp} {a dx : Addr} {f : PF} {t : List Sm11.Fact} {n : Nat} {lus : List V} {now : List Sm11.World} (e : Same H H') : PWNow C H a dx f t n lus now → PWNow C H' a dx f t n lus now
  | .idle h => .idle h
  | .row D S L sm Y h1 h2 => .row ⟨e _ _ D.ob, e _ _ D.la, D.tr.same e, e _ _ D.he, D.lk⟩ ⟨e _ _ S.nm, S.ch.same e, e _ _ S.pa, S.d1, S.d2, S.d3, S.ff⟩ L sm Y h1 h2
theorem PWIs.same {C : Addr} {H H' : Hp} {a : Addr} {F : List Addr} {t : List Sm11.Fact} {n most : Nat} {fut : List Sm11.World} (e : Same H H') : PWIs C H a F t n most fut → PWIs C H' a F t n most fut
  | ⟨dx, f, rs, lus, now, x1, x2, I, N, x3⟩ => ⟨dx, f, rs, lus, now, x1, x2, I.same e, N.same e, x3⟩
theorem PWIs.ob {C : Addr} {H : Hp} {a : Addr} {F : List Addr} {t : List Sm11.Fact} {n most : Nat} {fut : List Sm11.World} : PWIs C H a F t n most fut → ∃ dx f, H a = some (.ins C dx (PF.fl f))
  | ⟨dx, f, _, _, _, _, _, I, _, _⟩ => ⟨dx, f, I.ob⟩
theorem PWCur.same {C : Addr} {H H' : Hp} {a : Addr} {w : Sm11.World} (e : Same H H') : PWCur C H a w → PWCur C H' a w
  | ⟨dx, nm, hp, fl, h1, h2, h3, h4, h5⟩ => ⟨dx, nm, hp, fl, e _ _ h1, h2, h3, e _ _ h4, h5.same e⟩
theorem fresh_keeps {F : List Addr} {H H1 H2 : Hp} (e : Same H H1) (fr : ∀ b ∈ F, H b = none) (k : Keeps F H1 H2) : Same H H2 := fun b o z => k b o (e b o z) fun q => by
  rw [fr b q] at z
  cases z
theorem fresh_grown {F F' : List Addr} {H H1 : Hp} (e : Same H H1) (fr : ∀ b ∈ F, H b = none) (g : Grown F H1 F') : ∀ b ∈ F', H b = none := fun b hb => by
  rcases g b hb with z | z
  · exact fr b z
  · exact e.free z
theorem same_two {H : Hp} {d x : Addr} {u v : HO} (hd : H d = none) (hx : H x = none) (ne : d ≠ x) : Same H (upd (upd H d u) x v) := fun b o z => by
  rw [upd_ne (ne_of_none z hx), upd_ne (ne_of_none z hd)]
  exact z
/-- what a made object leaves -/
theorem made_same {H Hn H2 : Hp} {x : Addr} {F : List Addr} (e0 : Same H Hn) (hx : H x = none) (k : Keeps [x] Hn H2) (fr : ∀ b ∈ F, b = x ∨ Hn b = none) : Same H H2 ∧ ∀ b ∈ F, H b = none := by
  refine ⟨fun b o z => k b o (e0 b o z) (by simpa using ne_of_none z hx), fun b hb => ?_⟩
  rcases fr b hb with z | z
  · rw [z]
    exact hx
  · exact e0.free z
theorem got_len : ∀ {l : List Sm11.Step} {k : Nat} {w : Sm11.World} {got : List Nat} {e : Sm11.End} {g : List Nat}, (e, g) ∈ Sm11.runsOf k l w got → g.length ≤ got.length + l.length
  | [], k, w, got, e, g, h => by
    have := List.mem_singleton.mp h
    injection this with _ e2
    rw [e2]
    exact Nat.le_refl _
  | p :: l, k, w, got, e, g, h => by
    rw [runsOf_cons] at h
    obtain ⟨c, _, h⟩ := List.mem_flatMap.mp h
    have hg : (gotOf p got c).length ≤ got.length + 1 := by
      unfold gotOf
      split
      · simp
      · omega
    split at h
    · have := List.mem_singleton.mp h
      injection this with _ e2
      rw [e2, List.length_cons]
      omega
    · have := got_len h
      rw [List.length_cons]
      omega
theorem badWorld_got {n : Nat} {a : List Sm11.Fact} {p : List Sm11.Step} {b : Option (List Sm11.Fact)} {m : Nat} {w : Sm11.World} {g : List Nat} {k : Nat} (h : firstBad b m 0 p w [] = some (g, k)) : g.length ≤ p.length := by
  unfold firstBad at h
  obtain ⟨⟨e, g'⟩, h1, h2⟩ := List.exists_of_findSome?_eq_some h
  have hg := got_len h1
  simp only [List.length_nil, Nat.zero_add] at hg
  have : g' = g := by
    unfold badR at h2
    split at h2
    · rename_i heq
      injection heq with _ q
      injection h2 with h2
      injection h2 with h2 _
      rw [q, h2]
    · rename_i heq
      injection heq with _ q
      split at h2
      · cases h2
      · split at h2
        · cases h2
        · injection h2 with h2
          injection h2 with h2 _
          rw [q, h2]
  rw [← this]
  exact hg
theorem toldW_len (w : Sm11.World) : (Sm11.toldWorld w).length ≤ w.vals.length + 1 + 2 * w.heap.length := by
  have := told_len w.vals w.heap w.heap.length
  unfold toldN at this
  rw [List.take_length] at this
  unfold Sm11.toldWorld Sm11.ints
  rw [List.length_map]
  exact this
/-! ### bad_run_told -/
theorem fs_none {α β : Type} {f : α → Option β} {a : α} {l : List α} (h : f a = none) : (a :: l).findSome? f = l.findSome? f := by
  rw [List.findSome?_cons, h]
theorem fs_some {α β : Type} {f : α → Option β} {a : α} {l : List α} {b : β} (h : f a = some b) : (a :: l).findSome? f = some b := by
  rw [List.findSome?_cons, h]
def BehindV (H : Hp) (bv : V) (b : Option (List Sm11.Fact)) (n : Nat) : Prop := (bv = .non ∧ b = none) ∨ ∃ t l, bv = .ref t ∧ b = some l ∧ TellAt H t l ∧ NamesOk l n
theorem BehindV.same {H H' : Hp} (e : Same H H') {bv : V} {b : Option (List Sm11.Fact)} {n : Nat} : BehindV H bv b n → BehindV H' bv b n
  | .inl z => .inl z
  | .inr ⟨t, l, a1, a2, a3, a4⟩ => .inr ⟨t, l, a1, a2, a3.same e, a4⟩
def badList (w : Sm11.World) (g : List Nat) : List Int := 0 :: Sm11.toldWorld w ++ Sm11.ints (g.length :: g)
def sp_bad_run_told (C : Addr) : Sp := fun vs H Q _ => ∃ (a : Addr) (s : Sm11.St) (F : List Addr) (bv : V) (b : Option (List Sm11.Fact)), vs = [.ref a, bv] ∧ LineIs C H a s F ∧ Sok s ∧ BehindV H bv b (s.n + 1) ∧
  (badWorld s.n s.before s.prog b = none → ∀ H', Same H H' → Q .non H') ∧
  ∀ w g k, badWorld s.n s.before s.prog b = some (w, g, k) → ∀ H' q pl, Same H H' → H' q = some (.tup [.ref pl, .int (k : Nat)]) → H' pl = some (.lst ((badList w g).map V.int)) → (badList w g).length ≤ 900 → Q (.ref q) H'
def bwW (C a S x : Addr) (bv : V) (s : Sm11.St) (b : Option (List Sm11.Fact)) (H : Hp) (m : Nat) (σ : L2.St) (H1 : Hp) : Prop := ∃ (F : List Addr) (fut : List Sm11.World) (o4 o5 : Option V), σ = [some (.ref a), some bv, some (.ref S), some (.ref x), o4, o5] ∧ Same H H1 ∧ (∀ z ∈ F, H z = none) ∧ PWIs C H1 x F s.before s.n (s.prog.length + 2) fut ∧
  badWorld s.n s.before s.prog b = (fut.findSome? fun w => (firstBad b s.prog.length 0 s.prog w []).map fun r => (w, r.1, r.2)) ∧ m = fut.length
theorem ok_bad_run_told (T : Top K mg) : FnOk P w K mg base CX0 18 T.f_bad_run_told T.fd_bad_run_told ["line", "behind"] (sp_bad_run_told T.C_Line) := by
  have G_PlainWorlds_init : FnOk P w K mg base CX0 3 T.f_PlainWorlds_init T.fd_PlainWorlds_init ["self", "telling", "greatest", "most"] (sp_PW_init T.C_PlainWorlds) := ok_PW_init T
  have G_PlainWorlds_go_on : FnOk P w K mg base CX0 4 T.f_PlainWorlds_go_on T.fd_PlainWorlds_go_on ["self"] (sp_go_on T.C_PlainWorlds) := ok_go_on T
  have G_first_bad_run : FnOk P w K mg base CX0 17 T.f_first_bad_run T.fd_first_bad_run ["steps", "names", "heap", "behind"] sp_first_bad_run := ok_first_bad_run T
  have G_world_told : FnOk P w K mg base CX0 1 T.f_world_told T.fd_world_told ["names", "heap"] sp_world_told := ok_world_told T
  refine T.F_bad_run_told.ok sc_bad_run_told (fun vs H Q E h => ?_) (fun cdv A outer s H vs Q E hr h => ?_)
  · obtain ⟨_, _, _, _, _, rfl, _⟩ := h
    rfl
  · obtain ⟨a, s, F, bv, b, rfl, ⟨dx, U, S, t0, t1, f0, f1, fs, rfl, hL⟩, ok, hbv, q1, q2⟩ := h
    refine ⟨_, (pss_cons (ps_set (i := 2) sc_bad_run_told.nd rfl (Or.inl rfl) (pe_fld (pv 0) rfl))
        (pss_cons (ps_set (i := 3) sc_bad_run_told.nd rfl (Or.inl rfl) (pe_make T.M_PlainWorlds G_PlainWorlds_init (hr.mono (by decide)) rfl T.g_PlainWorlds T.b_PlainWorlds_init .nil pass0 (pa_cons (pe_ix (r := rIxL K) ix_list (pe_fld (pv 0) rfl) pe_int (fun _ _ => rfl)) (pa_cons (pe_fld (pv 0) rfl) (pa_cons (pe_op op_add (pe_callB call_len_seq (by rfl) T.n_len PySem.boot_len (pa_cons (pv 2) pa_nil)) (pe_glob (v := .int (2)) rfl T.g_MOST_ABOVE_STEPS ⟨_, rfl⟩)) pa_nil)))))
        (pss_cons (ps_while PassesOwn.never (pt_val (pe_meth0 (pv 3) T.cl_PlainWorlds T.m_PlainWorlds_go_on G_PlainWorlds_go_on (hr.mono (by decide)) T.b_PlainWorlds_go_on .nil pass0))
          (pss_cons (ps_set (i := 4) sc_bad_run_told.nd rfl (Or.inl rfl) (pe_call G_first_bad_run (hr.mono (by decide)) (by rfl) T.g_first_bad_run T.F_first_bad_run.kp T.b_first_bad_run .nil pass0 (pa_cons (pv 2) (pa_cons (pe_fld (pv 3) rfl) (pa_cons (pe_fld (pv 3) rfl) (pa_cons (pv 1) pa_nil))))))
          (pss_one (ps_if (pt_cmpR op_notN (pv 4) pe_non (nomark _))
            (pss_cons (ps_set (i := 5) sc_bad_run_told.nd rfl (Or.inl rfl) (pe_ix (r := rIxT K) ix_tup (pv 4) pe_int (fun _ _ => rfl)))
            (pss_one (ps_ret (pe_tup (pa_cons (pe_op op_cat (pe_op op_cat (pe_op op_cat (pe_lst (pa_cons pe_int pa_nil)) (pe_call G_world_told (hr.mono (by decide)) (by rfl) T.g_world_told T.F_world_told.kp T.b_world_told .nil pass0 (pa_cons (pe_fld (pv 3) rfl) (pa_cons (pe_fld (pv 3) rfl) pa_nil)))) (pe_lst (pa_cons (pe_callB call_len_seq (by rfl) T.n_len PySem.boot_len (pa_cons (pv 5) pa_nil)) pa_nil))) (pv 5)) (pa_cons (pe_ix (r := rIxT K) ix_tup (pv 4) pe_int (fun _ _ => rfl)) pa_nil))))))
            pss_nil))))
        (pss_one (ps_ret pe_non))))), ?_⟩
    have hfs : fs.length = s.prog.length := hL.wS.length.trans (List.length_map _)
    refine ⟨_, rfl, a, _, dx, _, _, rfl, hL.ob, T.cl_Line, T.no_Line_steps, LineAt.ls, ?_⟩
    refine ⟨_, rfl, a, _, dx, _, _, rfl, hL.ob, T.cl_Line, T.no_Line_tellings, LineAt.lt, U, _, 0, _, rfl, rfl, SqL.of hL.hT, atI_nat (j := 0) rfl, ?_⟩
    refine ⟨_, rfl, a, _, dx, _, _, rfl, hL.ob, T.cl_Line, T.no_Line_greatest, LineAt.lg, _, rfl, S, fs, rfl, .inl (SqL.of hL.hS), _, _, rfl, rfl, fun x dx' hx hdx ne => ?_⟩
    have e0 : Same H (upd (upd H dx' (.own x)) x (.ins T.C_PlainWorlds dx' [])) := same_two hdx hx ne
    have hob : (upd (upd H dx' (.own x)) x (.ins T.C_PlainWorlds dx' [])) x = some (.ins T.C_PlainWorlds dx' []) := upd_same
    generalize upd (upd H dx' (.own x)) x (.ins T.C_PlainWorlds dx' []) = Hn at e0 hob ⊢
    refine ⟨x, dx', t0, s.before, s.n, s.prog.length + 2, by rw [hfs]; rfl, hob, (hL.tell0).same e0, ok.b0, ok.z0, ok.n4, by omega, by have := ok.zp; omega, fun H2 F k2 fr2 pw => ⟨rfl, ?_⟩⟩
    obtain ⟨e2, fr⟩ := made_same e0 hx k2 fr2
    refine ⟨bwW T.C_PlainWorlds a S x bv s b H, ⟨_, F, _, _, _, rfl, e2, fr, pw, rfl, rfl⟩, ?_⟩
    rintro m σ H3 ⟨F3, fut, o4, o5, rfl, e3, fr3, pw3, hbw, rfl⟩
    obtain ⟨dx3, f3, ob3⟩ := pw3.ob
    refine ⟨_, rfl, x, dx3, _, rfl, ob3, f3.n_go, x, F3, s.before, s.n, s.prog.length + 2, fut, rfl, pw3, fun he H4 k4 => ?_, fun w4 fut4 he H4 F4 k4 gr4 pw4 cur vl hl => ?_⟩
    · refine ⟨_, rfl, if_false_of rfl ?_⟩
      rw [he] at hbw
      exact q1 hbw H4 (fresh_keeps e3 fr3 k4)
    · have e4 := fresh_keeps e3 fr3 k4
      have fr4 := fresh_grown e3 fr3 gr4
      refine ⟨_, rfl, if_true_of rfl ⟨fun σ' H' => ∃ m', m' < fut.length ∧ bwW T.C_PlainWorlds a S x bv s b H m' σ' H', fun _ _ z => z, ?_⟩⟩
      obtain ⟨dx4, nm, hp, fl4, ob4, ln4, lh4, hn4, hh4⟩ := cur
      have hs4 := (hL.steps).same' e4
      rw [he] at hbw
      refine ⟨_, rfl, _, rfl, x, _, dx4, _, _, rfl, ob4, T.cl_PlainWorlds, T.no_PlainWorlds_names, ln4, _, rfl, x, _, dx4, _, _, rfl, ob4, T.cl_PlainWorlds, T.no_PlainWorlds_heap, lh4, _, rfl, S, nm, hp, bv, s.prog, w4.vals, w4.heap, b, rfl, hs4, hn4, by omega, hh4, ?_, ok.zp, ?_, by rw [vl]; exact ok.pr, fun hno H5 k5 => ?_, fun g j hso H5 q5 pl5 k5 y1 y2 => ?_⟩
      · rw [vl]
        exact hbv.same e4
      · have := ok.zp
        have := ok.n4
        omega
      · refine ⟨_, rfl, rfl, _, rfl, if_false_of rfl ?_⟩
        have e5 := e4.trans k5.nil
        refine ⟨fut4.length, by rw [he]; simp, F4, fut4, _, _, rfl, e5, fr4, pw4.same k5.nil, ?_, rfl⟩
        rw [hbw]
        exact fs_none (by rw [show firstBad b s.prog.length 0 s.prog w4 [] = none from hno]; rfl)
      · have e45 := k5.nil
        have e5 := e4.trans e45
        have hbw2 : badWorld s.n s.before s.prog b = some (w4, g, j) := by
          rw [hbw]
          exact fs_some (by rw [show firstBad b s.prog.length 0 s.prog w4 [] = some (g, j) from hso]; rfl)
        have hg : g.length ≤ s.prog.length := badWorld_got (n := 0) (a := []) hso
        have htl := toldW_len w4
        have hz4 := ok.zp
        have hn4' := ok.n4
        refine ⟨_, rfl, rfl, _, rfl, if_true_of rfl ?_⟩
        refine ⟨_, rfl, q5, _, 0, _, rfl, rfl, SqT.of y1, atI_nat (j := 0) rfl, ?_⟩
        refine ⟨(by show 1 ≤ sizeLine; decide), fun x6 hx6 => ?_⟩
        have es6 := same_upd (o := .lst [.int 0]) hx6
        have h6 : (upd H5 x6 (.lst [.int 0])) x6 = some (.lst [.int 0]) := upd_same
        generalize upd H5 x6 (.lst [.int 0]) = H6 at es6 h6 ⊢
        have e46 := e45.trans es6
        refine ⟨_, rfl, x, _, dx4, _, _, rfl, e46 _ _ ob4, T.cl_PlainWorlds, T.no_PlainWorlds_names, ln4, _, rfl, x, _, dx4, _, _, rfl, e46 _ _ ob4, T.cl_PlainWorlds, T.no_PlainWorlds_heap, lh4, nm, hp, w4.vals, w4.heap, rfl, e46 _ _ hn4, hh4.same e46, by omega, fun H7 p7 es7 _ h7 => ?_⟩
        refine ⟨x6, p7, _, _, rfl, rfl, es7 _ _ h6, h7, ?_, fun p8 hp8 => ?_⟩
        · refine Nat.le_of_lt (small1000 ?_)
          rw [List.length_map]
          show 1 + (Sm11.toldWorld w4).length ≤ 1000
          omega
        have es8 := same_upd (o := .lst ([.int 0] ++ (Sm11.toldWorld w4).map V.int)) hp8
        have h8 : (upd H7 p8 (.lst ([.int 0] ++ (Sm11.toldWorld w4).map V.int))) p8 = some (.lst ([.int 0] ++ (Sm11.toldWorld w4).map V.int)) := upd_same
        generalize upd H7 p8 (.lst ([.int 0] ++ (Sm11.toldWorld w4).map V.int)) = H8 at es8 h8 ⊢
        have e58 := es6.trans (es7.trans es8)
        refine ⟨_, rfl, pl5, _, rfl, .inl (SqL.of (e58 _ _ y2)), (by show 1 ≤ sizeLine; decide), fun x9 hx9 => ?_⟩
        rw [natV_len]
        have es9 := same_upd (o := .lst [.int (g.length : Nat)]) hx9
        have h9 : (upd H8 x9 (.lst [.int (g.length : Nat)])) x9 = some (.lst [.int (g.length : Nat)]) := upd_same
        generalize upd H8 x9 (.lst [.int (g.length : Nat)]) = H9 at es9 h9 ⊢
        refine ⟨p8, x9, _, _, rfl, rfl, es9 _ _ h8, h9, ?_, fun p10 hp10 => ?_⟩
        · refine Nat.le_of_lt (small1000 ?_)
          simp only [List.length_append, List.length_map, List.length_cons, List.length_nil]
          omega
        have es10 := same_upd (o := .lst ([.int 0] ++ (Sm11.toldWorld w4).map V.int ++ [.int (g.length : Nat)])) hp10
        have h10 : (upd H9 p10 (.lst ([.int 0] ++ (Sm11.toldWorld w4).map V.int ++ [.int (g.length : Nat)]))) p10 = some (.lst ([.int 0] ++ (Sm11.toldWorld w4).map V.int ++ [.int (g.length : Nat)])) := upd_same
        generalize upd H9 p10 (.lst ([.int 0] ++ (Sm11.toldWorld w4).map V.int ++ [.int (g.length : Nat)])) = H10 at es10 h10 ⊢
        have e510 := e58.trans (es9.trans es10)
        refine ⟨_, rfl, p10, pl5, _, _, rfl, rfl, h10, e510 _ _ y2, ?_, fun p11 hp11 => ?_⟩
        · refine Nat.le_of_lt (small1000 ?_)
          simp only [List.length_append, List.length_map, List.length_cons, List.length_nil, natV_len]
          omega
        have es11 := same_upd (o := .lst ([.int 0] ++ (Sm11.toldWorld w4).map V.int ++ [.int (g.length : Nat)] ++ natV g)) hp11
        have h11 : (upd H10 p11 (.lst ([.int 0] ++ (Sm11.toldWorld w4).map V.int ++ [.int (g.length : Nat)] ++ natV g))) p11 = some (.lst ([.int 0] ++ (Sm11.toldWorld w4).map V.int ++ [.int (g.length : Nat)] ++ natV g)) := upd_same
        generalize upd H10 p11 (.lst ([.int 0] ++ (Sm11.toldWorld w4).map V.int ++ [.int (g.length : Nat)] ++ natV g)) = H11 at es11 h11 ⊢
        have e511 := e510.trans es11
        refine ⟨_, rfl, q5, _, 1, _, rfl, rfl, SqT.of (e511 _ _ y1), atI_nat (j := 1) rfl, (by show 2 ≤ sizeLine; decide), fun r hr12 => ?_⟩
        have es12 := same_upd (o := .tup [.ref p11, .int (j : Nat)]) hr12
        refine q2 w4 g j hbw2 _ r p11 (e5.trans (e511.trans es12)) upd_same ?_ ?_
        · refine (es12 _ _ h11).trans ?_
          unfold badList
          rw [List.map_append, List.map_cons, ints_V, natV_cons]
          simp
        · unfold badList Sm11.ints
          simp only [List.length_append, List.length_map, List.length_cons, List.length_nil]
          omega
end Ph
namespace Ph
open PySem PySem.Spec PyProof.Rows L2
variable {P : Program} {w : World} {K : PySem.W.Frag} {mg : Str → Option Value} {base : Heap}
/-! ### what is asked leaves all as it was -/
def AskQ (H : Hp) (r : List Int) (Q : VK) : Prop := ∀ H' p, Same H H' → H p = none → H' p = some (.lst (r.map V.int)) → Q (.ref p) H'
theorem AskQ.new {H H1 : Hp} {r : List Int} {Q : VK} (q : AskQ H r Q) (e : Same H H1) {l : Addr} (hl : H1 l = none) {xs : List V} (hx : xs = r.map V.int) : Q (.ref l) (upd H1 l (.lst xs)) := by
  subst hx
  exact q _ l (e.trans (same_upd hl)) (e.free hl) upd_same
def sp_ask0 (C : Addr) (f : Sm11.St → List Int) : Sp := fun vs H Q _ => ∃ (a : Addr) (s : Sm11.St) (F : List Addr), vs = [.ref a] ∧ LineIs C H a s F ∧ Sok s ∧ AskQ H (f s) Q
/-! ### triple, safe -/
theorem triple_none {s : Sm11.St} (h : badWorld s.n s.before s.prog (some s.behind) = none) : (Sm11.step s .triple).2 = [1] := by
  show (match Sm11.triple s.n s.before s.prog s.behind with
    | none => [1]
    | some x => 0 :: Sm11.toldWorld x.1 ++ Sm11.ints (x.2.1.length :: x.2.1) ++ Sm11.ints x.2.2) = _
  rw [triple_eq, h]
  rfl
theorem triple_some {s : Sm11.St} {w : Sm11.World} {g : List Nat} {k : Nat} (h : badWorld s.n s.before s.prog (some s.behind) = some (w, g, k)) : (Sm11.step s .triple).2 = badList w g ++ Sm11.ints (if k = s.prog.length then [2] else [1, k]) := by
  show (match Sm11.triple s.n s.before s.prog s.behind with
    | none => [1]
    | some x => 0 :: Sm11.toldWorld x.1 ++ Sm11.ints (x.2.1.length :: x.2.1) ++ Sm11.ints x.2.2) = _
  rw [triple_eq, h]
  rfl
theorem safe_none {s : Sm11.St} (h : badWorld s.n s.before s.prog none = none) : (Sm11.step s .safe).2 = [1] := by
  show (match Sm11.safe s.n s.before s.prog with
    | none => [1]
    | some x => 0 :: Sm11.toldWorld x.1 ++ Sm11.ints (x.2.1.length :: x.2.1) ++ [(x.2.2 : Int)]) = _
  rw [safe_eq, h]
theorem safe_some {s : Sm11.St} {w : Sm11.World} {g : List Nat} {k : Nat} (h : badWorld s.n s.before s.prog none = some (w, g, k)) : (Sm11.step s .safe).2 = badList w g ++ [(k : Int)] := by
  show (match Sm11.safe s.n s.before s.prog with
    | none => [1]
    | some x => 0 :: Sm11.toldWorld x.1 ++ Sm11.ints (x.2.1.length :: x.2.1) ++ [(x.2.2 : Int)]) = _
  rw [safe_eq, h]
  rfl
theorem ok_triple (T : Top K mg) : FnOk P w K mg base CX0 19 T.f_triple T.fd_triple ["line"] (sp_ask0 T.C_Line fun s => (Sm11.step s .triple).2) := by
  have G_bad_run_told : FnOk P w K mg base CX0 18 T.f_bad_run_told T.fd_bad_run_told ["line", "behind"] (sp_bad_run_told T.C_Line) := ok_bad_run_told T
  refine T.F_triple.ok sc_triple (fun vs H Q E h => ?_) (fun cdv A outer s H vs Q E hr h => ?_)
  · obtain ⟨_, _, _, rfl, _⟩ := h
    rfl
  · obtain ⟨a, s, F, rfl, ⟨dx, U, S, t0, t1, f0, f1, fs, rfl, hL⟩, ok, q⟩ := h
    replace q : AskQ H (Sm11.step s .triple).2 Q := q
    refine ⟨_, (pss_cons (ps_set (i := 1) sc_triple.nd rfl (Or.inl rfl) (pe_call G_bad_run_told (hr.mono (by decide)) (by rfl) T.g_bad_run_told T.F_bad_run_told.kp T.b_bad_run_told .nil pass0 (pa_cons (pv 0) (pa_cons (pe_ix (r := rIxL K) ix_list (pe_fld (pv 0) rfl) pe_int (fun _ _ => rfl)) pa_nil))))
        (pss_cons (ps_if (pt_cmpR op_isN (pv 1) pe_non (nomark _))
          (pss_one (ps_ret (pe_lst (pa_cons pe_int pa_nil))))
          pss_nil)
        (pss_cons (ps_if (pt_cmpR op_eq (pe_ix (r := rIxT K) ix_tup (pv 1) pe_int (fun _ _ => rfl)) (pe_callB call_len_seq (by rfl) T.n_len PySem.boot_len (pa_cons (pe_fld (pv 0) rfl) pa_nil)) (nomark _))
          (pss_one (ps_ret (pe_op op_cat (pe_ix (r := rIxT K) ix_tup (pv 1) pe_int (fun _ _ => rfl)) (pe_lst (pa_cons pe_int pa_nil)))))
          pss_nil)
        (pss_one (ps_ret (pe_op op_cat (pe_ix (r := rIxT K) ix_tup (pv 1) pe_int (fun _ _ => rfl)) (pe_lst (pa_cons pe_int (pa_cons (pe_ix (r := rIxT K) ix_tup (pv 1) pe_int (fun _ _ => rfl)) pa_nil))))))))), ?_⟩
    have hfs : fs.length = s.prog.length := hL.wS.length.trans (List.length_map _)
    refine ⟨_, rfl, _, rfl, a, _, dx, _, _, rfl, hL.ob, T.cl_Line, T.no_Line_tellings, LineAt.lt, U, _, 1, _, rfl, rfl, SqL.of hL.hT, atI_nat (j := 1) rfl, ?_⟩
    refine ⟨a, s, _, .ref t1, some s.behind, rfl, ⟨dx, U, S, t0, t1, f0, f1, fs, rfl, hL⟩, ok, .inr ⟨t1, s.behind, rfl, rfl, hL.tell1, ok.b1⟩, fun hno H1 e1 => ?_, fun w g k hso H1 q1 pl e1 y1 y2 hz => ?_⟩
    · refine ⟨_, rfl, rfl, _, rfl, if_true_of rfl ⟨(by show 1 ≤ sizeLine; decide), fun l hl => ?_⟩⟩
      exact q.new e1 hl (by rw [triple_none hno]; rfl)
    · refine ⟨_, rfl, rfl, _, rfl, if_false_of rfl ?_⟩
      have L1 := hL.same e1
      refine ⟨_, rfl, q1, _, 1, _, rfl, rfl, SqT.of y1, atI_nat (j := 1) rfl, _, rfl, a, _, dx, _, _, rfl, L1.ob, T.cl_Line, T.no_Line_steps, LineAt.ls, S, fs, rfl, .inl (SqL.of L1.hS), rfl, _, rfl, ?_⟩
      rw [dInt]
      have hts := triple_some hso
      by_cases hk : k = s.prog.length
      · rw [if_pos hk] at hts
        refine if_true_of (decide_eq_true (by omega)) ⟨_, rfl, q1, _, 0, _, rfl, rfl, SqT.of y1, atI_nat (j := 0) rfl, (by show 1 ≤ sizeLine; decide), fun l hl => ?_⟩
        have es := same_upd (o := .lst [.int 2]) hl
        refine ⟨pl, l, _, _, rfl, rfl, es _ _ y2, upd_same, ?_, fun p hp => ?_⟩
        · refine Nat.le_of_lt (small1000 ?_)
          rw [List.length_map]
          show (badList w g).length + 1 ≤ 1000
          omega
        · refine q.new (e1.trans es) hp ?_
          rw [hts, List.map_append]
          rfl
      · rw [if_neg hk] at hts
        refine if_false_of (decide_eq_false (by omega)) ⟨_, rfl, q1, _, 0, _, rfl, rfl, SqT.of y1, atI_nat (j := 0) rfl, _, rfl, q1, _, 1, _, rfl, rfl, SqT.of y1, atI_nat (j := 1) rfl, (by show 2 ≤ sizeLine; decide), fun l hl => ?_⟩
        have es := same_upd (o := .lst [.int 1, .int (k : Nat)]) hl
        refine ⟨pl, l, _, _, rfl, rfl, es _ _ y2, upd_same, ?_, fun p hp => ?_⟩
        · refine Nat.le_of_lt (small1000 ?_)
          rw [List.length_map]
          show (badList w g).length + 2 ≤ 1000
          omega
        · refine q.new (e1.trans es) hp ?_
          rw [hts, List.map_append]
          rfl
theorem ok_safe (T : Top K mg) : FnOk P w K mg base CX0 19 T.f_safe T.fd_safe ["line"] (sp_ask0 T.C_Line fun s => (Sm11.step s .safe).2) := by
  have G_bad_run_told : FnOk P w K mg base CX0 18 T.f_bad_run_told T.fd_bad_run_told ["line", "behind"] (sp_bad_run_told T.C_Line) := ok_bad_run_told T
  refine T.F_safe.ok sc_safe (fun vs H Q E h => ?_) (fun cdv A outer s H vs Q E hr h => ?_)
  · obtain ⟨_, _, _, rfl, _⟩ := h
    rfl
  · obtain ⟨a, s, F, rfl, ⟨dx, U, S, t0, t1, f0, f1, fs, rfl, hL⟩, ok, q⟩ := h
    replace q : AskQ H (Sm11.step s .safe).2 Q := q
    refine ⟨_, (pss_cons (ps_set (i := 1) sc_safe.nd rfl (Or.inl rfl) (pe_call G_bad_run_told (hr.mono (by decide)) (by rfl) T.g_bad_run_told T.F_bad_run_told.kp T.b_bad_run_told .nil pass0 (pa_cons (pv 0) (pa_cons pe_non pa_nil))))
        (pss_cons (ps_if (pt_cmpR op_isN (pv 1) pe_non (nomark _))
          (pss_one (ps_ret (pe_lst (pa_cons pe_int pa_nil))))
          pss_nil)
        (pss_one (ps_ret (pe_op op_cat (pe_ix (r := rIxT K) ix_tup (pv 1) pe_int (fun _ _ => rfl)) (pe_lst (pa_cons (pe_ix (r := rIxT K) ix_tup (pv 1) pe_int (fun _ _ => rfl)) pa_nil))))))), ?_⟩
    refine ⟨_, rfl, a, s, _, .non, none, rfl, ⟨dx, U, S, t0, t1, f0, f1, fs, rfl, hL⟩, ok, .inl ⟨rfl, rfl⟩, fun hno H1 e1 => ?_, fun w g k hso H1 q1 pl e1 y1 y2 hz => ?_⟩
    · refine ⟨_, rfl, rfl, _, rfl, if_true_of rfl ⟨(by show 1 ≤ sizeLine; decide), fun l hl => ?_⟩⟩
      exact q.new e1 hl (by rw [safe_none hno]; rfl)
    · refine ⟨_, rfl, rfl, _, rfl, if_false_of rfl ?_⟩
      refine ⟨_, rfl, q1, _, 0, _, rfl, rfl, SqT.of y1, atI_nat (j := 0) rfl, _, rfl, q1, _, 1, _, rfl, rfl, SqT.of y1, atI_nat (j := 1) rfl, (by show 1 ≤ sizeLine; decide), fun l hl => ?_⟩
      have es := same_upd (o := .lst [.int (k : Nat)]) hl
      refine ⟨pl, l, _, _, rfl, rfl, es _ _ y2, upd_same, ?_, fun p hp => ?_⟩
      · refine Nat.le_of_lt (small1000 ?_)
        rw [List.length_map]
        show (badList w g).length + 1 ≤ 1000
        omega
      · refine q.new (e1.trans es) hp ?_
        rw [safe_some hso, List.map_append]
        rfl
/-! ### says -/
theorem says_none {s : Sm11.St} (h : Sm11.against s.n s.before s.behind = none) : (Sm11.step s .says).2 = [1] := by
  show (match Sm11.against s.n s.before s.behind with
    | none => [1]
    | some w => 0 :: Sm11.toldWorld w) = _
  rw [h]
theorem says_some {s : Sm11.St} {w : Sm11.World} (h : Sm11.against s.n s.before s.behind = some w) : (Sm11.step s .says).2 = 0 :: Sm11.toldWorld w := by
  show (match Sm11.against s.n s.before s.behind with
    | none => [1]
    | some w => 0 :: Sm11.toldWorld w) = _
  rw [h]
def syW (C a x : Addr) (s : Sm11.St) (H : Hp) (m : Nat) (σ : L2.St) (H1 : Hp) : Prop := ∃ (F : List Addr) (fut : List Sm11.World), σ = [some (.ref a), some (.ref x)] ∧ Same H H1 ∧ (∀ z ∈ F, H z = none) ∧ PWIs C H1 x F s.before s.n 2 fut ∧
  Sm11.against s.n s.before s.behind = (fut.find? fun w => !Sm11.isSo w s.behind) ∧ m = fut.length
theorem ok_says (T : Top K mg) : FnOk P w K mg base CX0 5 T.f_says T.fd_says ["line"] (sp_ask0 T.C_Line fun s => (Sm11.step s .says).2) := by
  have G_PlainWorlds_init : FnOk P w K mg base CX0 3 T.f_PlainWorlds_init T.fd_PlainWorlds_init ["self", "telling", "greatest", "most"] (sp_PW_init T.C_PlainWorlds) := ok_PW_init T
  have G_PlainWorlds_go_on : FnOk P w K mg base CX0 4 T.f_PlainWorlds_go_on T.fd_PlainWorlds_go_on ["self"] (sp_go_on T.C_PlainWorlds) := ok_go_on T
  have G_is_so : FnOk P w K mg base CX0 3 T.f_is_so T.fd_is_so ["telling", "names", "heap"] sp_is_so := ok_is_so T
  have G_world_told : FnOk P w K mg base CX0 1 T.f_world_told T.fd_world_told ["names", "heap"] sp_world_told := ok_world_told T
  refine T.F_says.ok sc_says (fun vs H Q E h => ?_) (fun cdv A outer s H vs Q E hr h => ?_)
  · obtain ⟨_, _, _, rfl, _⟩ := h
    rfl
  · obtain ⟨a, s, F, rfl, ⟨dx, U, S, t0, t1, f0, f1, fs, rfl, hL⟩, ok, q⟩ := h
    replace q : AskQ H (Sm11.step s .says).2 Q := q
    refine ⟨_, (pss_cons (ps_set (i := 1) sc_says.nd rfl (Or.inl rfl) (pe_make T.M_PlainWorlds G_PlainWorlds_init (hr.mono (by decide)) rfl T.g_PlainWorlds T.b_PlainWorlds_init .nil pass0 (pa_cons (pe_ix (r := rIxL K) ix_list (pe_fld (pv 0) rfl) pe_int (fun _ _ => rfl)) (pa_cons (pe_fld (pv 0) rfl) (pa_cons (pe_glob (v := .int (2)) rfl T.g_MOST_OF_SAYS ⟨_, rfl⟩) pa_nil)))))
        (pss_cons (ps_while PassesOwn.never (pt_val (pe_meth0 (pv 1) T.cl_PlainWorlds T.m_PlainWorlds_go_on G_PlainWorlds_go_on (hr.mono (by decide)) T.b_PlainWorlds_go_on .nil pass0))
          (pss_one (ps_if (pt_not (pt_val (pe_call G_is_so (hr.mono (by decide)) (by rfl) T.g_is_so T.F_is_so.kp T.b_is_so .nil pass0 (pa_cons (pe_ix (r := rIxL K) ix_list (pe_fld (pv 0) rfl) pe_int (fun _ _ => rfl)) (pa_cons (pe_fld (pv 1) rfl) (pa_cons (pe_fld (pv 1) rfl) pa_nil))))))
            (pss_one (ps_ret (pe_op op_cat (pe_lst (pa_cons pe_int pa_nil)) (pe_call G_world_told (hr.mono (by decide)) (by rfl) T.g_world_told T.F_world_told.kp T.b_world_told .nil pass0 (pa_cons (pe_fld (pv 1) rfl) (pa_cons (pe_fld (pv 1) rfl) pa_nil))))))
            pss_nil)))
        (pss_one (ps_ret (pe_lst (pa_cons pe_int pa_nil)))))), ?_⟩
    refine ⟨_, rfl, a, _, dx, _, _, rfl, hL.ob, T.cl_Line, T.no_Line_tellings, LineAt.lt, U, _, 0, _, rfl, rfl, SqL.of hL.hT, atI_nat (j := 0) rfl, ?_⟩
    refine ⟨_, rfl, a, _, dx, _, _, rfl, hL.ob, T.cl_Line, T.no_Line_greatest, LineAt.lg, fun x dx' hx hdx ne => ?_⟩
    have e0 : Same H (upd (upd H dx' (.own x)) x (.ins T.C_PlainWorlds dx' [])) := same_two hdx hx ne
    have hob : (upd (upd H dx' (.own x)) x (.ins T.C_PlainWorlds dx' [])) x = some (.ins T.C_PlainWorlds dx' []) := upd_same
    generalize upd (upd H dx' (.own x)) x (.ins T.C_PlainWorlds dx' []) = Hn at e0 hob ⊢
    refine ⟨x, dx', t0, s.before, s.n, 2, rfl, hob, (hL.tell0).same e0, ok.b0, ok.z0, ok.n4, by omega, by omega, fun H2 F k2 fr2 pw => ⟨rfl, ?_⟩⟩
    obtain ⟨e2, fr⟩ := made_same e0 hx k2 fr2
    refine ⟨syW T.C_PlainWorlds a x s H, ⟨_, F, _, rfl, e2, fr, pw, rfl, rfl⟩, ?_⟩
    rintro m σ H3 ⟨F3, fut, rfl, e3, fr3, pw3, hbw, rfl⟩
    obtain ⟨dx3, f3, ob3⟩ := pw3.ob
    refine ⟨_, rfl, x, dx3, _, rfl, ob3, f3.n_go, x, F3, s.before, s.n, 2, fut, rfl, pw3, fun he H4 k4 => ?_, fun w4 fut4 he H4 F4 k4 gr4 pw4 cur vl hl => ?_⟩
    · refine ⟨_, rfl, if_false_of rfl ⟨(by show 1 ≤ sizeLine; decide), fun l hl => ?_⟩⟩
      rw [he] at hbw
      exact q.new (fresh_keeps e3 fr3 k4) hl (by rw [says_none hbw]; rfl)
    · have e4 := fresh_keeps e3 fr3 k4
      have fr4 := fresh_grown e3 fr3 gr4
      refine ⟨_, rfl, if_true_of rfl ⟨fun σ' H' => ∃ m', m' < fut.length ∧ syW T.C_PlainWorlds a x s H m' σ' H', fun _ _ z => z, ?_⟩⟩
      obtain ⟨dx4, nm, hp, fl4, ob4, ln4, lh4, hn4, hh4⟩ := cur
      have L4 := hL.same e4
      rw [he] at hbw
      refine ⟨_, rfl, a, _, dx, _, _, rfl, L4.ob, T.cl_Line, T.no_Line_tellings, LineAt.lt, U, _, 1, _, rfl, rfl, SqL.of L4.hT, atI_nat (j := 1) rfl, _, rfl, x, _, dx4, _, _, rfl, ob4, T.cl_PlainWorlds, T.no_PlainWorlds_names, ln4, _, rfl, x, _, dx4, _, _, rfl, ob4, T.cl_PlainWorlds, T.no_PlainWorlds_heap, lh4, t1, nm, hp, s.behind, w4.vals, w4.heap, rfl, L4.tell1, hn4, hh4, by omega, by rw [vl]; exact ok.b1, fun H5 e45 => ⟨_, rfl, ?_⟩⟩
      have e5 := e4.trans e45
      cases hso : Sm11.isSo ⟨w4.vals, w4.heap⟩ s.behind with
      | true =>
        refine if_false_of rfl ⟨fut4.length, by rw [he]; simp, F4, fut4, rfl, e5, fr4, pw4.same e45, ?_, rfl⟩
        rw [hbw, List.find?_cons_of_neg]
        rw [show Sm11.isSo w4 s.behind = true from hso]
        decide
      | false =>
        have hag : Sm11.against s.n s.before s.behind = some w4 := by
          rw [hbw, List.find?_cons_of_pos]
          rw [show Sm11.isSo w4 s.behind = false from hso]
          rfl
        have htl := toldW_len w4
        have hn4' := ok.n4
        refine if_true_of rfl ⟨(by show 1 ≤ sizeLine; decide), fun x6 hx6 => ?_⟩
        have es6 := same_upd (o := .lst [.int 0]) hx6
        have h6 : (upd H5 x6 (.lst [.int 0])) x6 = some (.lst [.int 0]) := upd_same
        generalize upd H5 x6 (.lst [.int 0]) = H6 at es6 h6 ⊢
        have e46 := e45.trans es6
        refine ⟨_, rfl, x, _, dx4, _, _, rfl, e46 _ _ ob4, T.cl_PlainWorlds, T.no_PlainWorlds_names, ln4, _, rfl, x, _, dx4, _, _, rfl, e46 _ _ ob4, T.cl_PlainWorlds, T.no_PlainWorlds_heap, lh4, nm, hp, w4.vals, w4.heap, rfl, e46 _ _ hn4, hh4.same e46, by omega, fun H7 p7 es7 _ h7 => ?_⟩
        refine ⟨x6, p7, _, _, rfl, rfl, es7 _ _ h6, h7, ?_, fun p8 hp8 => ?_⟩
        · refine Nat.le_of_lt (small1000 ?_)
          rw [List.length_map]
          show 1 + (Sm11.toldWorld w4).length ≤ 1000
          omega
        · exact q.new ((e4.trans e46).trans es7) hp8 (by rw [says_some hag]; rfl)
/-! ### can -/
theorem side_get {t0 t1 : Addr} {p : Nat} (h : ¬ 1 < p) : [V.ref t0, V.ref t1][p]? = some (.ref (if p = 0 then t0 else t1)) := by
  obtain rfl | rfl : p = 0 ∨ p = 1 := by omega
  · rfl
  · rfl
theorem LineAt.side {C : Addr} {H : Hp} {a : Addr} {s : Sm11.St} {dx T S t0 t1 : Addr} {f0 f1 fs : List V} (h : LineAt C H a s dx T S t0 t1 f0 f1 fs) (p : Nat) : TellAt H (if p = 0 then t0 else t1) (Sm11.side s p) := by
  unfold Sm11.side
  split
  · exact h.tell0
  · exact h.tell1
theorem Sok.side {s : Sm11.St} (ok : Sok s) (p : Nat) : NamesOk (Sm11.side s p) (s.n + 1) ∧ (Sm11.side s p).length ≤ 8 := by
  unfold Sm11.side
  split
  · exact ⟨ok.b0, ok.z0⟩
  · exact ⟨ok.b1, ok.z1⟩
theorem can1 {s : Sm11.St} {p : Nat} (h : 1 < p) : (Sm11.step s (.can p)).2 = [-1] := if_pos h
theorem can_none {s : Sm11.St} {p : Nat} (h : ¬ 1 < p) (e : Sm11.worlds s.n (Sm11.side s p) 1 = []) : (Sm11.step s (.can p)).2 = [0] := by
  refine (if_neg h).trans ?_
  show (match (Sm11.worlds s.n (Sm11.side s p) 1).head? with
    | none => [0]
    | some w => 1 :: Sm11.toldWorld w) = _
  rw [e]
  rfl
theorem can_some {s : Sm11.St} {p : Nat} (h : ¬ 1 < p) {w : Sm11.World} {r : List Sm11.World} (e : Sm11.worlds s.n (Sm11.side s p) 1 = w :: r) : (Sm11.step s (.can p)).2 = 1 :: Sm11.toldWorld w := by
  refine (if_neg h).trans ?_
  show (match (Sm11.worlds s.n (Sm11.side s p) 1).head? with
    | none => [0]
    | some w => 1 :: Sm11.toldWorld w) = _
  rw [e]
  rfl
def sp_can (C : Addr) : Sp := fun vs H Q _ => ∃ (a : Addr) (s : Sm11.St) (F : List Addr) (p : Nat), vs = [.ref a, .int p] ∧ LineIs C H a s F ∧ Sok s ∧ AskQ H (Sm11.step s (.can p)).2 Q
theorem ok_can (T : Top K mg) : FnOk P w K mg base CX0 5 T.f_can T.fd_can ["line", "p"] (sp_can T.C_Line) := by
  have G_is_telling : FnOk P w K mg base CX0 1 T.f_is_telling T.fd_is_telling ["p"] sp_is_telling := ok_is_telling T
  have G_PlainWorlds_init : FnOk P w K mg base CX0 3 T.f_PlainWorlds_init T.fd_PlainWorlds_init ["self", "telling", "greatest", "most"] (sp_PW_init T.C_PlainWorlds) := ok_PW_init T
  have G_PlainWorlds_go_on : FnOk P w K mg base CX0 4 T.f_PlainWorlds_go_on T.fd_PlainWorlds_go_on ["self"] (sp_go_on T.C_PlainWorlds) := ok_go_on T
  have G_world_told : FnOk P w K mg base CX0 1 T.f_world_told T.fd_world_told ["names", "heap"] sp_world_told := ok_world_told T
  refine T.F_can.ok sc_can (fun vs H Q E h => ?_) (fun cdv A outer s H vs Q E hr h => ?_)
  · obtain ⟨_, _, _, _, rfl, _⟩ := h
    rfl
  · obtain ⟨a, s, F, p, rfl, ⟨dx, U, S, t0, t1, f0, f1, fs, rfl, hL⟩, ok, q⟩ := h
    refine ⟨_, (pss_cons (ps_if (pt_not (pt_val (pe_call G_is_telling (hr.mono (by decide)) (by rfl) T.g_is_telling T.F_is_telling.kp T.b_is_telling .nil pass0 (pa_cons (pv 1) pa_nil))))
          (pss_one (ps_ret (pe_lst (pa_cons (pe_glob (v := .int (-1)) rfl T.g_NOT_ALLOWED ⟨_, rfl⟩) pa_nil))))
          pss_nil)
        (pss_cons (ps_set (i := 2) sc_can.nd rfl (Or.inl rfl) (pe_make T.M_PlainWorlds G_PlainWorlds_init (hr.mono (by decide)) rfl T.g_PlainWorlds T.b_PlainWorlds_init .nil pass0 (pa_cons (pe_ix (r := rIxL K) ix_list (pe_fld (pv 0) rfl) (pv 1) (fun _ _ => rfl)) (pa_cons (pe_fld (pv 0) rfl) (pa_cons (pe_glob (v := .int (1)) rfl T.g_MOST_OF_CAN ⟨_, rfl⟩) pa_nil)))))
        (pss_cons (ps_if (pt_not (pt_val (pe_meth0 (pv 2) T.cl_PlainWorlds T.m_PlainWorlds_go_on G_PlainWorlds_go_on (hr.mono (by decide)) T.b_PlainWorlds_go_on .nil pass0)))
          (pss_one (ps_ret (pe_lst (pa_cons pe_int pa_nil))))
          pss_nil)
        (pss_one (ps_ret (pe_op op_cat (pe_lst (pa_cons pe_int pa_nil)) (pe_call G_world_told (hr.mono (by decide)) (by rfl) T.g_world_told T.F_world_told.kp T.b_world_told .nil pass0 (pa_cons (pe_fld (pv 2) rfl) (pa_cons (pe_fld (pv 2) rfl) pa_nil))))))))), ?_⟩
    refine ⟨_, rfl, (p : Int), rfl, _, rfl, ?_⟩
    by_cases hp1 : 1 < p
    · refine if_true_of (by simp; omega) ⟨(by show 1 ≤ sizeLine; decide), fun l hl => ?_⟩
      exact q.new (Same.refl H) hl (by rw [can1 hp1]; rfl)
    · refine if_false_of (by simp; omega) ?_
      refine ⟨_, rfl, a, _, dx, _, _, rfl, hL.ob, T.cl_Line, T.no_Line_tellings, LineAt.lt, _, rfl, U, _, (p : Int), _, rfl, rfl, SqL.of hL.hT, atI_nat (side_get hp1), ?_⟩
      refine ⟨_, rfl, a, _, dx, _, _, rfl, hL.ob, T.cl_Line, T.no_Line_greatest, LineAt.lg, fun x dx' hx hdx ne => ?_⟩
      have e0 : Same H (upd (upd H dx' (.own x)) x (.ins T.C_PlainWorlds dx' [])) := same_two hdx hx ne
      have hob : (upd (upd H dx' (.own x)) x (.ins T.C_PlainWorlds dx' [])) x = some (.ins T.C_PlainWorlds dx' []) := upd_same
      generalize upd (upd H dx' (.own x)) x (.ins T.C_PlainWorlds dx' []) = Hn at e0 hob ⊢
      refine ⟨x, dx', _, Sm11.side s p, s.n, 1, rfl, hob, (hL.side p).same e0, (ok.side p).1, (ok.side p).2, ok.n4, by omega, by omega, fun H2 F k2 fr2 pw => ⟨rfl, ?_⟩⟩
      obtain ⟨e2, fr⟩ := made_same e0 hx k2 fr2
      obtain ⟨dx3, f3, ob3⟩ := pw.ob
      refine ⟨_, rfl, x, dx3, _, rfl, ob3, f3.n_go, x, F, Sm11.side s p, s.n, 1, _, rfl, pw, fun he H4 k4 => ?_, fun w4 fut4 he H4 F4 k4 gr4 pw4 cur vl hl => ?_⟩
      · refine ⟨_, rfl, if_true_of rfl ⟨(by show 1 ≤ sizeLine; decide), fun l hl => ?_⟩⟩
        exact q.new (fresh_keeps e2 fr k4) hl (by rw [can_none hp1 he]; rfl)
      · refine ⟨_, rfl, if_false_of rfl ⟨(by show 1 ≤ sizeLine; decide), fun x6 hx6 => ?_⟩⟩
        have e4 := fresh_keeps e2 fr k4
        obtain ⟨dx4, nm, hp, fl4, ob4, ln4, lh4, hn4, hh4⟩ := cur
        have htl := toldW_len w4
        have hn4' := ok.n4
        have es6 := same_upd (o := .lst [.int 1]) hx6
        have h6 : (upd H4 x6 (.lst [.int 1])) x6 = some (.lst [.int 1]) := upd_same
        generalize upd H4 x6 (.lst [.int 1]) = H6 at es6 h6 ⊢
        refine ⟨_, rfl, x, _, dx4, _, _, rfl, es6 _ _ ob4, T.cl_PlainWorlds, T.no_PlainWorlds_names, ln4, _, rfl, x, _, dx4, _, _, rfl, es6 _ _ ob4, T.cl_PlainWorlds, T.no_PlainWorlds_heap, lh4, nm, hp, w4.vals, w4.heap, rfl, es6 _ _ hn4, hh4.same es6, by omega, fun H7 p7 es7 _ h7 => ?_⟩
        refine ⟨x6, p7, _, _, rfl, rfl, es7 _ _ h6, h7, ?_, fun p8 hp8 => ?_⟩
        · refine Nat.le_of_lt (small1000 ?_)
          rw [List.length_map]
          show 1 + (Sm11.toldWorld w4).length ≤ 1000
          omega
        · exact q.new ((e4.trans es6).trans es7) hp8 (by rw [can_some hp1 he]; rfl)
end Ph
namespace Ph
open PySem PySem.Spec PyProof.Rows L2
variable {P : Program} {w : World} {K : PySem.W.Frag} {mg : Str → Option Value} {base : Heap}
/-! ### surely -/
def sp_surely (C : Addr) : Sp := fun vs H Q _ => ∃ (a : Addr) (s : Sm11.St) (F : List Addr) (p x y : Nat), vs = [.ref a, .int p, .int x, .int y] ∧ LineIs C H a s F ∧ Sok s ∧ AskQ H (Sm11.step s (.surely p x y)).2 Q
theorem surely1 {s : Sm11.St} {p x y : Nat} (h : 1 < p) : (Sm11.step s (.surely p x y)).2 = [-1] := if_pos h
theorem surely2 {s : Sm11.St} {p x y : Nat} (h : ¬ 1 < p) (n : s.n < x ∨ s.n < y) : (Sm11.step s (.surely p x y)).2 = [-2] := (if_neg h).trans (if_pos n)
theorem surely_p {s : Sm11.St} {p x y : Nat} (h : ¬ 1 < p) (n : ¬ (s.n < x ∨ s.n < y)) : (Sm11.step s (.surely p x y)).2 = if ((rows s.n).filter (canBe (Sm11.side s p))).length = 0 then [-6] else if (((rows s.n).filter (canBe (Sm11.side s p))).map fun r => r.getD x 0 == r.getD y 0).all id = true then [1] else if (((rows s.n).filter (canBe (Sm11.side s p))).map fun r => r.getD x 0 == r.getD y 0).any id = true then [2] else [0] :=
  (if_neg h).trans ((if_neg n).trans (surely_eq _ _ _ _))
theorem ok_surely (T : Top K mg) : FnOk P w K mg base CX0 3 T.f_surely T.fd_surely ["line", "p", "x", "y"] (sp_surely T.C_Line) := by
  have G_is_telling : FnOk P w K mg base CX0 1 T.f_is_telling T.fd_is_telling ["p"] sp_is_telling := ok_is_telling T
  have G_are_names : FnOk P w K mg base CX0 1 T.f_are_names T.fd_are_names ["line", "x", "y"] (sp_are_names T.C_Line) := ok_are_names T
  have G_plain_names : FnOk P w K mg base CX0 1 T.f_plain_names T.fd_plain_names ["greatest"] sp_plain_names := ok_plain_names T
  have G_can_be_so : FnOk P w K mg base CX0 2 T.f_can_be_so T.fd_can_be_so ["telling", "names"] sp_can_be_so := ok_can_be_so T
  refine T.F_surely.ok sc_surely (fun vs H Q E h => ?_) (fun cdv A outer s H vs Q E hr h => ?_)
  · obtain ⟨_, _, _, _, _, _, rfl, _⟩ := h
    rfl
  · obtain ⟨a, s, F, p, x, y, rfl, ⟨dx, U, S, t0, t1, f0, f1, fs, rfl, hL⟩, ok, q⟩ := h
    refine ⟨_, (pss_cons (ps_if (pt_not (pt_val (pe_call G_is_telling (hr.mono (by decide)) (by rfl) T.g_is_telling T.F_is_telling.kp T.b_is_telling .nil pass0 (pa_cons (pv 1) pa_nil))))
          (pss_one (ps_ret (pe_lst (pa_cons (pe_glob (v := .int (-1)) rfl T.g_NOT_ALLOWED ⟨_, rfl⟩) pa_nil))))
          pss_nil)
        (pss_cons (ps_if (pt_not (pt_val (pe_call G_are_names (hr.mono (by decide)) (by rfl) T.g_are_names T.F_are_names.kp T.b_are_names .nil pass0 (pa_cons (pv 0) (pa_cons (pv 2) (pa_cons (pv 3) pa_nil))))))
          (pss_one (ps_ret (pe_lst (pa_cons (pe_glob (v := .int (-2)) rfl T.g_NO_SUCH_NAME ⟨_, rfl⟩) pa_nil))))
          pss_nil)
        (pss_cons (ps_setLc (i := 4) (own := [("names", 5)]) (g := gName 5) rfl sc_surely.nd rfl rfl (sw_true rfl rfl rfl (by decide +kernel)) (pi_list (pe_call G_plain_names (hr.mono (by decide)) (by rfl) T.g_plain_names T.F_plain_names.kp T.b_plain_names .nil pass0 (pa_cons (pe_fld (pv 0) rfl) pa_nil))) (blkOk_by (own := [("names", 5)]) (N := ["line", "p", "x", "y", "rows", "names", "alike"]) (sc := defScope s_surely) (by decide +kernel)) (fun _ _ _ _ _ => (pg_name (i := 5) sc_surely.nd rfl (Or.inl rfl))) (fun _ _ _ _ _ => (pts_one (pt_val (pe_call G_can_be_so (hr.mono (by decide)) (by rfl) T.g_can_be_so T.F_can_be_so.kp T.b_can_be_so .nil pass0 (pa_cons (pe_ix (r := rIxL K) ix_list (pe_fldK (K := K) (pv 0) rfl) (pv 1) (fun _ _ => rfl)) (pa_cons (pv 5) pa_nil)))))) (fun _ _ _ _ _ => (pv 5)))
        (pss_cons (ps_if (pt_cmpR op_eq (pe_callB call_len_seq (by rfl) T.n_len PySem.boot_len (pa_cons (pv 4) pa_nil)) pe_int (nomark _))
          (pss_one (ps_ret (pe_lst (pa_cons (pe_glob (v := .int (-6)) rfl T.g_NEVER_SO ⟨_, rfl⟩) pa_nil))))
          pss_nil)
        (pss_cons (ps_setLc (i := 6) (own := [("names", 5)]) (g := gName 5) (tt := tYes) rfl sc_surely.nd rfl rfl (sw_true rfl rfl rfl (by decide +kernel)) (pi_list (pv 4)) (blkOk_by (own := [("names", 5)]) (N := ["line", "p", "x", "y", "rows", "names", "alike"]) (sc := defScope s_surely) (by decide +kernel)) (fun _ _ _ _ _ => (pg_name (i := 5) sc_surely.nd rfl (Or.inl rfl))) (fun _ _ _ _ _ => pts_nil) (fun _ _ _ _ _ => (pe_cmpR op_eq (pe_ix (r := rIxL K) ix_list (pv 5) (pv 2) (fun _ _ => rfl)) (pe_ix (r := rIxL K) ix_list (pv 5) (pv 3) (fun _ _ => rfl)) (nomark _))))
        (pss_cons (ps_if (pt_val (pe_callB (cr_all rfl) (by rfl) T.n_all (by decide +kernel) (pa_cons (pv 6) pa_nil)))
          (pss_one (ps_ret (pe_lst (pa_cons pe_int pa_nil))))
          pss_nil)
        (pss_one (ps_ret (pe_ifExp (pt_val (pe_callB (cr_any rfl) (by rfl) T.n_any (by decide +kernel) (pa_cons (pv 6) pa_nil))) (pe_lst (pa_cons pe_int pa_nil)) (pe_lst (pa_cons pe_int pa_nil))))))))))), ?_⟩
    refine ⟨_, rfl, (p : Int), rfl, _, rfl, ?_⟩
    by_cases hp1 : 1 < p
    · refine if_true_of (by simp; omega) ⟨(by show 1 ≤ sizeLine; decide), fun l hl => ?_⟩
      exact q.new (Same.refl H) hl (by rw [surely1 hp1]; rfl)
    refine if_false_of (by simp; omega) ?_
    refine ⟨_, rfl, _, rfl, _, rfl, a, dx, _, (s.n : Int), (x : Int), (y : Int), rfl, hL.ob, LineAt.lg, _, rfl, ?_⟩
    by_cases hxy : s.n < x ∨ s.n < y
    · refine if_true_of (by simp; omega) ⟨(by show 1 ≤ sizeLine; decide), fun l hl => ?_⟩
      exact q.new (Same.refl H) hl (by rw [surely2 hp1 hxy]; rfl)
    refine if_false_of (by simp; omega) ?_
    rw [surely_p hp1 hxy] at q
    refine ⟨_, rfl, a, _, dx, _, _, rfl, hL.ob, T.cl_Line, T.no_Line_greatest, LineAt.lg, s.n, rfl, ok.n4, fun H3 pn us e3 fp hp hus => ?_⟩
    have key : (rows s.n).length ≤ 52 := rows_len ok.n4
    obtain ⟨sok, sz⟩ := ok.side p
    refine ⟨pn, rfl, ⟨_, SqL.of hp⟩, fun D hD => lc_list (K := K) (a := pn) (xs := us) (fun i H' => Same H3 H' ∧ ∃ acc, H' D = some (.lst acc) ∧ RowsAt H' acc (((rows s.n).take i).filter (canBe (Sm11.side s p))) ∧ ∀ q, (.ref q) ∈ acc → ∃ o, H3 q = some o) ?_ ?_ ?_ ?_⟩
    · exact ⟨same_upd hD, [], upd_same, .nil, fun q hq => by cases hq⟩
    · exact fun i H' _ z => SqL.of (z.1 _ _ hp)
    · rintro i x1 H' hi ⟨e4, acc, hA, hacc, hex⟩
      obtain ⟨r, hrow, qr, rfl, hqr⟩ := hus.at hi
      obtain ⟨rl, _⟩ := rows_in (List.mem_of_getElem? hrow)
      have alen : acc.length ≤ 1000 := by
        rw [hacc.length]
        refine Nat.le_trans (List.length_filter_le _ _) (Nat.le_trans (List.length_take_le' _ _) (by omega))
      have L4 := hL.same (e3.trans e4)
      refine ⟨rfl, _, rfl, a, _, dx, _, _, rfl, L4.ob, T.cl_Line, T.no_Line_tellings, LineAt.lt, _, rfl, U, _, (p : Int), _, rfl, rfl, SqL.of L4.hT, atI_nat (side_get hp1), _, rfl, _, qr, Sm11.side s p, r, rfl, L4.side p, e4 _ _ hqr, by rw [rl]; exact sok, by omega, fun H5 e5 => ⟨_, rfl, ?_⟩⟩
      rw [take_snoc hrow, List.filter_append]
      have hA5 := e5 _ _ hA
      cases hcb : canBe (Sm11.side s p) r with
      | true =>
        refine if_true_of rfl ⟨_, rfl, acc, hA5, small1000 alen, same_updL hD (e4.trans e5), _, upd_same, ?_, ?_⟩
        · rw [show [r].filter (canBe (Sm11.side s p)) = [r] by simp [hcb]]
          have nD : ∀ q', (.ref q') ∈ acc ++ [V.ref qr] → q' ≠ D := by
            intro q' hq'
            rcases List.mem_append.mp hq' with z | z
            · obtain ⟨o, ho⟩ := hex q' z
              exact ne_of_none ho hD
            · cases List.mem_singleton.mp z
              exact ne_of_none hqr hD
          exact RowsAt.updL (All2.snoc (RowsAt.same e5 hacc) ⟨qr, rfl, e5 _ _ (e4 _ _ hqr)⟩) nD
        · intro q' hq'
          rcases List.mem_append.mp hq' with z | z
          · exact hex q' z
          · cases List.mem_singleton.mp z
            exact ⟨_, hqr⟩
      | false =>
        refine if_false_of rfl ⟨e4.trans e5, acc, hA5, ?_, hex⟩
        rw [show [r].filter (canBe (Sm11.side s p)) = [] by simp [hcb], List.append_nil]
        exact RowsAt.same e5 hacc
    rintro H4 ⟨e4, acc, hA, hacc, _⟩
    rw [hus.length, List.take_length] at hacc
    have e04 := e3.trans e4
    have hrl : ∀ r ∈ (rows s.n).filter (canBe (Sm11.side s p)), r.length = s.n + 1 := fun r hr => (rows_in (List.mem_filter.mp hr).1).1
    have hrz : ((rows s.n).filter (canBe (Sm11.side s p))).length ≤ 52 := Nat.le_trans (List.length_filter_le _ _) key
    generalize (rows s.n).filter (canBe (Sm11.side s p)) = rs at hacc hrl hrz q
    have halen := hacc.length
    refine ⟨_, rfl, D, acc, rfl, .inl (SqL.of hA), rfl, _, rfl, ?_⟩
    rw [dInt, halen]
    by_cases h0 : rs.length = 0
    · rw [if_pos h0] at q
      exact if_true_of (decide_eq_true (by omega)) ⟨(by show 1 ≤ sizeLine; decide), fun l hl => q.new e04 hl rfl⟩
    rw [if_neg h0] at q
    refine if_false_of (decide_eq_false (by omega)) ?_
    refine ⟨_, rfl, D, rfl, ⟨_, SqL.of hA⟩, fun D2 hD2 => lc_list (K := K) (a := D) (xs := acc) (fun i H' => Same H4 H' ∧ H' D2 = some (.lst (((rs.take i).map fun r => r.getD x 0 == r.getD y 0).map V.bl))) ?_ ?_ ?_ ?_⟩
    · exact ⟨same_upd hD2, upd_same⟩
    · exact fun i H' _ z => SqL.of (z.1 _ _ hA)
    · rintro i x1 H' hi ⟨e5, hB⟩
      obtain ⟨r, hrow, qr, rfl, hqr⟩ := hacc.at hi
      have rl := hrl r (List.mem_of_getElem? hrow)
      refine ⟨rfl, ?_⟩
      dsimp only [tYes]
      rw [if_pos rfl]
      have hq5 : NamesAt H' qr r := e5 _ _ hqr
      refine ⟨_, rfl, _, rfl, qr, _, (x : Int), .int (r.getD x 0 : Nat), rfl, rfl, SqL.of hq5, atI_nat (natV_at (by omega)), _, rfl, _, rfl, qr, _, (y : Int), .int (r.getD y 0 : Nat), rfl, rfl, SqL.of hq5, atI_nat (natV_at (by omega)), rfl, _, hB, ?_, same_updL hD2 e5, ?_⟩
      · refine small1000 ?_
        rw [List.length_map, List.length_map]
        exact Nat.le_trans (List.length_take_le' _ _) (by omega)
      · rw [upd_same, take_snoc hrow, List.map_append, List.map_append, dInt]
        have eb : decide (((r.getD x 0 : Nat) : Int) = ((r.getD y 0 : Nat) : Int)) = (r.getD x 0 == r.getD y 0) := by
          rw [Bool.eq_iff_iff, decide_eq_true_iff, beq_iff_eq]
          omega
        rw [eb]
        rfl
    rintro H5 ⟨e5, hB⟩
    rw [halen, List.take_length] at hB
    have e05 := e04.trans e5
    generalize (rs.map fun r => r.getD x 0 == r.getD y 0) = bs at hB q
    refine ⟨_, rfl, D2, bs, rfl, SqL.of hB, _, rfl, ?_⟩
    by_cases hall : bs.all id = true
    · rw [if_pos hall] at q
      exact if_true_of hall ⟨(by show 1 ≤ sizeLine; decide), fun l hl => q.new e05 hl rfl⟩
    rw [if_neg hall] at q
    refine if_false_of (Bool.eq_false_iff.mpr hall) ?_
    refine ⟨_, rfl, D2, bs, rfl, SqL.of hB, _, rfl, ?_⟩
    by_cases hany : bs.any id = true
    · rw [if_pos hany] at q
      exact if_true_of hany ⟨(by show 1 ≤ sizeLine; decide), fun l hl => q.new e05 hl rfl⟩
    · rw [if_neg hany] at q
      exact if_false_of (Bool.eq_false_iff.mpr hany) ⟨(by show 1 ≤ sizeLine; decide), fun l hl => q.new e05 hl rfl⟩
/-! ### fits -/
theorem evens_half {α : Type} : ∀ l : List α, 2 * (evens l).length ≤ l.length + 1
  | [] => by simp [evens]
  | [a] => by simp [evens]
  | a :: b :: l => by
    have := evens_half l
    simp only [evens, List.length_cons]
    omega
def sp_fits (C : Addr) : Sp := fun vs H Q _ => ∃ (a : Addr) (s : Sm11.St) (F : List Addr) (p : Nat) (b : Addr) (l : List Nat), vs = [.ref a, .int p, .ref b] ∧ LineIs C H a s F ∧ Sok s ∧ NamesAt H b l ∧ l.length ≤ 700 ∧ AskQ H (Sm11.step s (.fits p l)).2 Q
theorem fits1 {s : Sm11.St} {p : Nat} {l : List Nat} (h : 1 < p) : (Sm11.step s (.fits p l)).2 = [-1] := if_pos h
theorem fits_none {s : Sm11.St} {p : Nat} {l : List Nat} (h : ¬ 1 < p) (e : Sm11.worldOf s.n l = none) : (Sm11.step s (.fits p l)).2 = [-3] := by
  refine (if_neg h).trans ?_
  rw [e]
theorem fits_some {s : Sm11.St} {p : Nat} {l : List Nat} {w : Sm11.World} (h : ¬ 1 < p) (e : Sm11.worldOf s.n l = some w) : (Sm11.step s (.fits p l)).2 = [if Sm11.isSo w (Sm11.side s p) = true then 1 else 0] := by
  refine (if_neg h).trans ?_
  rw [e]
theorem ok_fits (T : Top K mg) : FnOk P w K mg base CX0 4 T.f_fits T.fd_fits ["line", "p", "numbers"] (sp_fits T.C_Line) := by
  have G_is_telling : FnOk P w K mg base CX0 1 T.f_is_telling T.fd_is_telling ["p"] sp_is_telling := ok_is_telling T
  have G_is_world : FnOk P w K mg base CX0 1 T.f_is_world T.fd_is_world ["greatest", "numbers"] sp_is_world := ok_is_world T
  have G_is_so : FnOk P w K mg base CX0 3 T.f_is_so T.fd_is_so ["telling", "names", "heap"] sp_is_so := ok_is_so T
  have G_names_of : FnOk P w K mg base CX0 1 T.f_names_of T.fd_names_of ["greatest", "numbers"] sp_names_of := ok_names_of T
  have G_heap_of : FnOk P w K mg base CX0 1 T.f_heap_of T.fd_heap_of ["greatest", "numbers"] sp_heap_of := ok_heap_of T
  refine T.F_fits.ok sc_fits (fun vs H Q E h => ?_) (fun cdv A outer s H vs Q E hr h => ?_)
  · obtain ⟨_, _, _, _, _, _, rfl, _⟩ := h
    rfl
  · obtain ⟨a, s, F, p, b, l, rfl, ⟨dx, U, S, t0, t1, f0, f1, fs, rfl, hL⟩, ok, hb, hz, q⟩ := h
    refine ⟨_, (pss_cons (ps_if (pt_not (pt_val (pe_call G_is_telling (hr.mono (by decide)) (by rfl) T.g_is_telling T.F_is_telling.kp T.b_is_telling .nil pass0 (pa_cons (pv 1) pa_nil))))
          (pss_one (ps_ret (pe_lst (pa_cons (pe_glob (v := .int (-1)) rfl T.g_NOT_ALLOWED ⟨_, rfl⟩) pa_nil))))
          pss_nil)
        (pss_cons (ps_if (pt_not (pt_val (pe_call G_is_world (hr.mono (by decide)) (by rfl) T.g_is_world T.F_is_world.kp T.b_is_world .nil pass0 (pa_cons (pe_fld (pv 0) rfl) (pa_cons (pv 2) pa_nil)))))
          (pss_one (ps_ret (pe_lst (pa_cons (pe_glob (v := .int (-3)) rfl T.g_NO_WORLD_TOLD ⟨_, rfl⟩) pa_nil))))
          pss_nil)
        (pss_cons (ps_if (pt_val (pe_call G_is_so (hr.mono (by decide)) (by rfl) T.g_is_so T.F_is_so.kp T.b_is_so .nil pass0 (pa_cons (pe_ix (r := rIxL K) ix_list (pe_fld (pv 0) rfl) (pv 1) (fun _ _ => rfl)) (pa_cons (pe_call G_names_of (hr.mono (by decide)) (by rfl) T.g_names_of T.F_names_of.kp T.b_names_of .nil pass0 (pa_cons (pe_fld (pv 0) rfl) (pa_cons (pv 2) pa_nil))) (pa_cons (pe_call G_heap_of (hr.mono (by decide)) (by rfl) T.g_heap_of T.F_heap_of.kp T.b_heap_of .nil pass0 (pa_cons (pe_fld (pv 0) rfl) (pa_cons (pv 2) pa_nil))) pa_nil)))))
          (pss_one (ps_ret (pe_lst (pa_cons pe_int pa_nil))))
          pss_nil)
        (pss_one (ps_ret (pe_lst (pa_cons pe_int pa_nil))))))), ?_⟩
    refine ⟨_, rfl, (p : Int), rfl, _, rfl, ?_⟩
    by_cases hp1 : 1 < p
    · refine if_true_of (by simp; omega) ⟨(by show 1 ≤ sizeLine; decide), fun l hl => ?_⟩
      exact q.new (Same.refl H) hl (by rw [fits1 hp1]; rfl)
    refine if_false_of (by simp; omega) ?_
    refine ⟨_, rfl, a, _, dx, _, _, rfl, hL.ob, T.cl_Line, T.no_Line_greatest, LineAt.lg, _, rfl, s.n, b, l, rfl, hb, fun H1 e1 => ⟨_, rfl, ?_⟩⟩
    cases hw : isWorld s.n l with
    | false =>
      refine if_true_of rfl ⟨(by show 1 ≤ sizeLine; decide), fun l hl => ?_⟩
      exact q.new e1 hl (by rw [fits_none hp1 (worldOf_none hw)]; rfl)
    | true =>
      refine if_false_of rfl ?_
      obtain ⟨g, hg, hn, hasc, h1, h2, h3⟩ := worldOf_some hw
      have L1 := hL.same e1
      refine ⟨_, rfl, a, _, dx, _, _, rfl, L1.ob, T.cl_Line, T.no_Line_tellings, LineAt.lt, _, rfl, U, _, (p : Int), _, rfl, rfl, SqL.of L1.hT, atI_nat (side_get hp1), ?_⟩
      refine ⟨_, rfl, a, _, dx, _, _, rfl, L1.ob, T.cl_Line, T.no_Line_greatest, LineAt.lg, _, rfl, s.n, b, l, rfl, e1 _ _ hb, by omega, fun H2 nm e2 _ hnm => ?_⟩
      have L2 := L1.same e2
      refine ⟨_, rfl, a, _, dx, _, _, rfl, L2.ob, T.cl_Line, T.no_Line_greatest, LineAt.lg, _, rfl, s.n, b, l, g, rfl, e2 _ _ (e1 _ _ hb), hasc, h1, h2, fun H3 hp e3 _ hhp => ?_⟩
      have L3 := L2.same e3
      refine ⟨_, nm, hp, Sm11.side s p, 0 :: l.take s.n, g, rfl, L3.side p, e3 _ _ hnm, hhp, by omega, ?_, fun H4 e4 => ⟨_, rfl, ?_⟩⟩
      · rw [List.length_cons, List.length_take, Nat.min_eq_left hn]
        exact (ok.side p).1
      · have e04 := (e1.trans e2).trans (e3.trans e4)
        have hf := fits_some hp1 hg
        cases hso : Sm11.isSo ⟨0 :: l.take s.n, g⟩ (Sm11.side s p) with
        | true =>
          rw [if_pos hso] at hf
          exact if_true_of rfl ⟨(by show 1 ≤ sizeLine; decide), fun l hl => q.new e04 hl (by rw [hf]; rfl)⟩
        | false =>
          rw [if_neg (by rw [hso]; decide)] at hf
          exact if_false_of rfl ⟨(by show 1 ≤ sizeLine; decide), fun l hl => q.new e04 hl (by rw [hf]; rfl)⟩
/-! ### run -/
theorem lastEnd_lt : ∀ {l : List Sm11.Step} {k : Nat} {w : Sm11.World} {j : Nat}, lastEnd k l w = .fault j → j < k + l.length
  | [], k, w, j, h => by cases h
  | p :: l, k, w, j, h => by
    rw [lastEnd] at h
    split at h
    · injection h with h
      rw [List.length_cons]
      omega
    · have := lastEnd_lt h
      rw [List.length_cons]
      omega
theorem lastEnd_done : ∀ {l : List Sm11.Step} {k : Nat} {w v : Sm11.World}, lastEnd k l w = .done v → v.vals.length = w.vals.length ∧ v.heap.length ≤ w.heap.length + l.length
  | [], k, w, v, h => by
    injection h with h
    rw [h]
    exact ⟨rfl, Nat.le_refl _⟩
  | p :: l, k, w, v, h => by
    rw [lastEnd] at h
    split at h
    · cases h
    · rename_i u hu
      obtain ⟨h1, h2⟩ := lastEnd_done h
      have h3 := after_vals hu
      have h4 := after_len hu
      rw [List.length_cons]
      exact ⟨by omega, by omega⟩
def sp_run (C : Addr) : Sp := fun vs H Q _ => ∃ (a : Addr) (s : Sm11.St) (F : List Addr) (b : Addr) (l : List Nat), vs = [.ref a, .ref b] ∧ LineIs C H a s F ∧ Sok s ∧ NamesAt H b l ∧ l.length ≤ 700 ∧ AskQ H (Sm11.step s (.run l)).2 Q
theorem run_none {s : Sm11.St} {l : List Nat} (e : Sm11.worldOf s.n l = none) : (Sm11.step s (.run l)).2 = [-3] := by
  show (match Sm11.worldOf s.n l with
    | none => [-3]
    | some w => match (Sm11.runsOf 0 s.prog w []).getLast? with
      | some (.fault k, _) => Sm11.ints [0, k]
      | some (.done v, _) => 1 :: Sm11.toldWorld v
      | none => []) = _
  rw [e]
theorem run_fault {s : Sm11.St} {l : List Nat} {w : Sm11.World} {k : Nat} (e : Sm11.worldOf s.n l = some w) (h : lastEnd 0 s.prog w = .fault k) : (Sm11.step s (.run l)).2 = Sm11.ints [0, k] := by
  show (match Sm11.worldOf s.n l with
    | none => [-3]
    | some w => match (Sm11.runsOf 0 s.prog w []).getLast? with
      | some (.fault k, _) => Sm11.ints [0, k]
      | some (.done v, _) => 1 :: Sm11.toldWorld v
      | none => []) = _
  obtain ⟨g, hg⟩ := runs_last s.prog 0 w []
  rw [e]
  show (match (Sm11.runsOf 0 s.prog w []).getLast? with
      | some (.fault k, _) => Sm11.ints [0, k]
      | some (.done v, _) => 1 :: Sm11.toldWorld v
      | none => []) = _
  rw [hg, h]
theorem run_done {s : Sm11.St} {l : List Nat} {w v : Sm11.World} (e : Sm11.worldOf s.n l = some w) (h : lastEnd 0 s.prog w = .done v) : (Sm11.step s (.run l)).2 = 1 :: Sm11.toldWorld v := by
  show (match Sm11.worldOf s.n l with
    | none => [-3]
    | some w => match (Sm11.runsOf 0 s.prog w []).getLast? with
      | some (.fault k, _) => Sm11.ints [0, k]
      | some (.done v, _) => 1 :: Sm11.toldWorld v
      | none => []) = _
  obtain ⟨g, hg⟩ := runs_last s.prog 0 w []
  rw [e]
  show (match (Sm11.runsOf 0 s.prog w []).getLast? with
      | some (.fault k, _) => Sm11.ints [0, k]
      | some (.done v, _) => 1 :: Sm11.toldWorld v
      | none => []) = _
  rw [hg, h]
theorem ok_run (T : Top K mg) : FnOk P w K mg base CX0 3 T.f_run T.fd_run ["line", "numbers"] (sp_run T.C_Line) := by
  have G_is_world : FnOk P w K mg base CX0 1 T.f_is_world T.fd_is_world ["greatest", "numbers"] sp_is_world := ok_is_world T
  have G_names_of : FnOk P w K mg base CX0 1 T.f_names_of T.fd_names_of ["greatest", "numbers"] sp_names_of := ok_names_of T
  have G_heap_of : FnOk P w K mg base CX0 1 T.f_heap_of T.fd_heap_of ["greatest", "numbers"] sp_heap_of := ok_heap_of T
  have G_last_run : FnOk P w K mg base CX0 2 T.f_last_run T.fd_last_run ["steps", "names", "heap"] sp_last_run := ok_last_run T
  have G_world_told : FnOk P w K mg base CX0 1 T.f_world_told T.fd_world_told ["names", "heap"] sp_world_told := ok_world_told T
  refine T.F_run.ok sc_run (fun vs H Q E h => ?_) (fun cdv A outer s H vs Q E hr h => ?_)
  · obtain ⟨_, _, _, _, _, rfl, _⟩ := h
    rfl
  · obtain ⟨a, s, F, b, l, rfl, ⟨dx, U, S, t0, t1, f0, f1, fs, rfl, hL⟩, ok, hb, hz, q⟩ := h
    refine ⟨_, (pss_cons (ps_if (pt_not (pt_val (pe_call G_is_world (hr.mono (by decide)) (by rfl) T.g_is_world T.F_is_world.kp T.b_is_world .nil pass0 (pa_cons (pe_fld (pv 0) rfl) (pa_cons (pv 1) pa_nil)))))
          (pss_one (ps_ret (pe_lst (pa_cons (pe_glob (v := .int (-3)) rfl T.g_NO_WORLD_TOLD ⟨_, rfl⟩) pa_nil))))
          pss_nil)
        (pss_cons (ps_set (i := 2) sc_run.nd rfl (Or.inl rfl) (pe_call G_names_of (hr.mono (by decide)) (by rfl) T.g_names_of T.F_names_of.kp T.b_names_of .nil pass0 (pa_cons (pe_fld (pv 0) rfl) (pa_cons (pv 1) pa_nil))))
        (pss_cons (ps_set (i := 3) sc_run.nd rfl (Or.inl rfl) (pe_call G_heap_of (hr.mono (by decide)) (by rfl) T.g_heap_of T.F_heap_of.kp T.b_heap_of .nil pass0 (pa_cons (pe_fld (pv 0) rfl) (pa_cons (pv 1) pa_nil))))
        (pss_cons (ps_set (i := 4) sc_run.nd rfl (Or.inl rfl) (pe_call G_last_run (hr.mono (by decide)) (by rfl) T.g_last_run T.F_last_run.kp T.b_last_run .nil pass0 (pa_cons (pe_fld (pv 0) rfl) (pa_cons (pv 2) (pa_cons (pv 3) pa_nil)))))
        (pss_cons (ps_if (pt_cmpR op_lt (pv 4) (pe_callB call_len_seq (by rfl) T.n_len PySem.boot_len (pa_cons (pe_fld (pv 0) rfl) pa_nil)) (nomark _))
          (pss_one (ps_ret (pe_lst (pa_cons pe_int (pa_cons (pv 4) pa_nil)))))
          pss_nil)
        (pss_one (ps_ret (pe_op op_cat (pe_lst (pa_cons pe_int pa_nil)) (pe_call G_world_told (hr.mono (by decide)) (by rfl) T.g_world_told T.F_world_told.kp T.b_world_told .nil pass0 (pa_cons (pv 2) (pa_cons (pv 3) pa_nil))))))))))), ?_⟩
    refine ⟨_, rfl, a, _, dx, _, _, rfl, hL.ob, T.cl_Line, T.no_Line_greatest, LineAt.lg, _, rfl, s.n, b, l, rfl, hb, fun H1 e1 => ⟨_, rfl, ?_⟩⟩
    cases hw : isWorld s.n l with
    | false =>
      refine if_true_of rfl ⟨(by show 1 ≤ sizeLine; decide), fun l hl => ?_⟩
      exact q.new e1 hl (by rw [run_none (worldOf_none hw)]; rfl)
    | true =>
      refine if_false_of rfl ?_
      obtain ⟨g, hg, hn, hasc, h1, h2, h3⟩ := worldOf_some hw
      have hg2 : 2 * g.length ≤ 701 := by
        have := evens_half (l.drop s.n)
        rw [← h1, Sm11.places, List.length_map, List.length_drop] at this
        omega
      have hvl : (0 :: l.take s.n).length = s.n + 1 := by
        rw [List.length_cons, List.length_take, Nat.min_eq_left hn]
      have hn4 := ok.n4
      have hzp := ok.zp
      have L1 := hL.same e1
      refine ⟨_, rfl, a, _, dx, _, _, rfl, L1.ob, T.cl_Line, T.no_Line_greatest, LineAt.lg, _, rfl, s.n, b, l, rfl, e1 _ _ hb, by omega, fun H2 nm e2 fnm hnm => ?_⟩
      have L2 := L1.same e2
      refine ⟨_, rfl, a, _, dx, _, _, rfl, L2.ob, T.cl_Line, T.no_Line_greatest, LineAt.lg, _, rfl, s.n, b, l, g, rfl, e2 _ _ (e1 _ _ hb), hasc, h1, h2, fun H3 hp e3 fhp hhp => ?_⟩
      have L3 := L2.same e3
      have e03 := (e1.trans e2).trans e3
      have fr : ∀ z ∈ [nm, hp], H z = none := by
        intro z hz
        simp only [List.mem_cons, List.not_mem_nil, or_false] at hz
        rcases hz with y | y
        · rw [y]; exact e1.free fnm
        · rw [y]; exact e1.free (e2.free fhp)
      have hfs : fs.length = s.prog.length := hL.wS.length.trans (List.length_map _)
      refine ⟨_, rfl, a, _, dx, _, _, rfl, L3.ob, T.cl_Line, T.no_Line_steps, LineAt.ls, _, rfl, _, rfl, S, nm, hp, s.prog, 0 :: l.take s.n, g, rfl, L3.steps, ne_of_none L1.hS fnm, e3 _ _ hnm, by omega, hhp, by omega, by rw [hvl]; exact ok.pr, fun k hk H4 k4 => ?_, fun v hv H4 k4 hn4' hh4 => ?_⟩
      · have e4 := fresh_keeps e03 fr k4
        have L4 := hL.same e4
        have hlt := lastEnd_lt hk
        refine ⟨_, rfl, _, rfl, a, _, dx, _, _, rfl, L4.ob, T.cl_Line, T.no_Line_steps, LineAt.ls, S, fs, rfl, .inl (SqL.of L4.hS), _, _, rfl, rfl, _, rfl, ?_⟩
        refine if_true_of (decide_eq_true (by omega)) ⟨_, rfl, (by show 2 ≤ sizeLine; decide), fun l hl => ?_⟩
        exact q.new e4 hl (by rw [run_fault hg hk]; rfl)
      · have e4 := fresh_keeps e03 fr k4
        have L4 := hL.same e4
        obtain ⟨v1, v2⟩ := lastEnd_done hv
        refine ⟨_, rfl, _, rfl, a, _, dx, _, _, rfl, L4.ob, T.cl_Line, T.no_Line_steps, LineAt.ls, S, fs, rfl, .inl (SqL.of L4.hS), _, _, rfl, rfl, _, rfl, ?_⟩
        refine if_false_of (decide_eq_false (by omega)) ⟨(by show 1 ≤ sizeLine; decide), fun x6 hx6 => ?_⟩
        have htl := toldW_len v
        have v1' : v.vals.length = s.n + 1 := v1.trans hvl
        have v2' : v.heap.length ≤ g.length + s.prog.length := v2
        have es6 := same_upd (o := .lst [.int 1]) hx6
        have h6 : (upd H4 x6 (.lst [.int 1])) x6 = some (.lst [.int 1]) := upd_same
        generalize upd H4 x6 (.lst [.int 1]) = H6 at es6 h6 ⊢
        refine ⟨_, rfl, _, rfl, nm, hp, v.vals, v.heap, rfl, es6 _ _ hn4', hh4.same es6, by omega, fun H7 p7 es7 _ h7 => ?_⟩
        refine ⟨x6, p7, _, _, rfl, rfl, es7 _ _ h6, h7, ?_, fun p8 hp8 => ?_⟩
        · refine Nat.le_of_lt (small1000 ?_)
          rw [List.length_map]
          show 1 + (Sm11.toldWorld v).length ≤ 1000
          omega
        · exact q.new ((e4.trans es6).trans es7) hp8 (by rw [run_done hg hv]; rfl)
end Ph
namespace Ph
open PySem PySem.Spec PyProof.Rows L2
variable {P : Program} {w : World} {K : PySem.W.Frag} {mg : Str → Option Value} {base : Heap}
/-! ### marks -/
def addN (ls : List Nat) (i : Nat) : List Nat := if i ∈ ls then ls else ls ++ [i]
theorem put_encT_in {a : Nat} {l : List Nat} (h : a ∈ l) : putK (l.map encT) (Sum.inl (a : Int)) (.bl true) = l.map encT := by
  unfold putK
  rw [if_pos (by
    rw [List.any_eq_true]
    exact ⟨encT a, List.mem_map.mpr ⟨a, h, rfl⟩, by simp [encT]⟩), List.map_map]
  refine List.map_congr_left fun c _ => ?_
  show (if (encT c).1 = Sum.inl (a : Int) then ((encT c).1, V.bl true) else encT c) = encT c
  split
  · rfl
  · rfl
theorem TakenAt.add {H : Hp} {t : Addr} {ks : List Nat} (k : TakenAt H t ks) (a : Nat) (hl : ks.length ≤ 1000) : DPut H t (.int a) (.bl true) (upd H t (.dK ((addN ks a).map encT))) := by
  unfold addN
  split
  · rename_i h
    have := DPut.k (k := Sum.inl (a : Int)) (v := .bl true) k (by rw [List.length_map]; exact small1000 hl)
    rw [put_encT_in h] at this
    exact this
  · rename_i h
    exact k.put h hl
def Marks (ls : List Nat) (p : Nat → Prop) : Prop := ls.Nodup ∧ ∀ j, j ∈ ls ↔ p j
theorem Marks.add {ls : List Nat} {p p' : Nat → Prop} {i : Nat} (m : Marks ls p) (h : ∀ j, p' j ↔ p j ∨ j = i) : Marks (addN ls i) p' := by
  unfold addN
  split
  · rename_i hi
    refine ⟨m.1, fun j => ?_⟩
    rw [h j, m.2 j]
    constructor
    · exact .inl
    · rintro (z | z)
      · exact z
      · rw [z]
        exact (m.2 i).mp hi
  · rename_i hi
    refine ⟨List.nodup_append.mpr ⟨m.1, by simp, fun x hx y hy z => ?_⟩, fun j => ?_⟩
    · rw [List.mem_singleton.mp hy] at z
      exact hi (z ▸ hx)
    · rw [h j, List.mem_append, m.2 j, List.mem_singleton]
theorem Marks.iff {ls : List Nat} {p p' : Nat → Prop} (m : Marks ls p) (h : ∀ j, p' j ↔ p j) : Marks ls p' := ⟨m.1, fun j => (m.2 j).trans (h j).symm⟩
/-! ### sort_piece -/
def sp_sort_piece (C : Addr) : Sp := fun vs H Q _ => ∃ (i : Nat) (r x dx nm hp tk lf gn : Addr) (fl : List (Str × V)) (f : Sm11.Fact) (vals : List Nat) (h : List (Nat × Nat)) (ks ls gs : List Nat), vs = [.int i, .ref r, .ref x, .ref tk, .ref lf, .ref gn] ∧
  H r = some (.tup [.int (kindF f), .int (xF f), .int (yF f)]) ∧ H x = some (.ins C dx fl) ∧ List.lookup ("names" : Str) fl = some (.ref nm) ∧ List.lookup ("heap" : Str) fl = some (.ref hp) ∧ NamesAt H nm vals ∧ HeapAt H hp h ∧ h.length ≤ 24 ∧ NamesOk [f] vals.length ∧ good ⟨vals, h⟩ [f] = true ∧
  TakenAt H tk ks ∧ TakenAt H lf ls ∧ TakenAt H gn gs ∧ ls.length ≤ 1000 ∧ gs.length ≤ 1000 ∧ lf ≠ gn ∧
  ((0 < ((lsOf ⟨vals, h⟩ [f]).filter fun x => ks.contains x).length ∧ ((lsOf ⟨vals, h⟩ [f]).filter fun x => ks.contains x).length < (lsOf ⟨vals, h⟩ [f]).length) → ∀ H', Same H H' → Q (.bl false) H') ∧
  (¬ (0 < ((lsOf ⟨vals, h⟩ [f]).filter fun x => ks.contains x).length ∧ ((lsOf ⟨vals, h⟩ [f]).filter fun x => ks.contains x).length < (lsOf ⟨vals, h⟩ [f]).length) → ∀ H', Keeps [lf, gn] H H' →
    TakenAt H' lf (if ((lsOf ⟨vals, h⟩ [f]).filter fun x => ks.contains x).length = 0 ∧ 0 < (lsOf ⟨vals, h⟩ [f]).length then addN ls i else ls) → TakenAt H' gn (if 0 < ((lsOf ⟨vals, h⟩ [f]).filter fun x => ks.contains x).length then addN gs i else gs) → Q (.bl true) H')
theorem ok_sort_piece (T : Top K mg) : FnOk P w K mg base CX0 3 T.f_sort_piece T.fd_sort_piece ["at", "fact", "worlds", "taken", "left", "gone"] (sp_sort_piece T.C_PlainWorlds) := by
  have G_places_taken : FnOk P w K mg base CX0 2 T.f_places_taken T.fd_places_taken ["telling", "names", "heap"] sp_places_taken := ok_places_taken T
  refine T.F_sort_piece.ok sc_sort_piece (fun vs H Q E h => ?_) (fun cdv A outer s H vs Q E hr h => ?_)
  · obtain ⟨_, _, _, _, _, _, _, _, _, _, _, _, _, _, _, _, rfl, _⟩ := h
    rfl
  · obtain ⟨i, r, x, dx, nm, hp, tk, lf, gn, fl, f, vals, h, ks, ls, gs, rfl, hr1, ob, ln, lh, hnm, hhp, hz, nok, hg, htk, hlf, hgn, zl, zg, nlg, q1, q2⟩ := h
    refine ⟨_, (pss_cons (ps_set (i := 6) sc_sort_piece.nd rfl (Or.inl rfl) (pe_call G_places_taken (hr.mono (by decide)) (by rfl) T.g_places_taken T.F_places_taken.kp T.b_places_taken .nil pass0 (pa_cons (pe_lst (pa_cons (pv 1) pa_nil)) (pa_cons (pe_fld (pv 2) rfl) (pa_cons (pe_fld (pv 2) rfl) pa_nil)))))
        (pss_cons (ps_set (i := 7) sc_sort_piece.nd rfl (Or.inl rfl) (pe_callB call_len_seq (by rfl) T.n_len PySem.boot_len (pa_cons (pe_lock (pe_lc (own := [("place", 8)]) (g := gName 8) rfl sc_sort_piece.nd (pi_keys (pv 6)) (blkOk_by (own := [("place", 8)]) (N := ["at", "fact", "worlds", "taken", "left", "gone", "own", "shared", "place"]) (sc := defScope s_sort_piece) (by decide +kernel)) (fun _ _ _ _ _ => (pg_name (i := 8) sc_sort_piece.nd rfl (Or.inl rfl))) (fun _ _ _ _ _ => (pts_one (pt_cmp (pc_din (hu_of hr) (pv 8) (pv 3))))) (fun _ _ _ _ _ => (pv 8)))) pa_nil)))
        (pss_cons (ps_if (PW.pt (pw_and (pt_cmpR op_gt (pv 7) pe_int (nomark _)) (pw_and1 (pt_cmpR op_lt (pv 7) (pe_callB call_lenD (by rfl) T.n_len PySem.boot_len (pa_cons (pv 6) pa_nil)) (nomark _)))))
          (pss_one (ps_ret pe_bl))
          pss_nil)
        (pss_cons (ps_if (pt_cmpR op_gt (pv 7) pe_int (nomark _))
          (pss_one (ps_dput (hu_of hr) (pv 5) (pv 0) pe_bl rfl))
          (pss_one (ps_if (pt_cmpR op_gt (pe_callB call_lenD (by rfl) T.n_len PySem.boot_len (pa_cons (pv 6) pa_nil)) pe_int (nomark _))
            (pss_one (ps_dput (hu_of hr) (pv 4) (pv 0) pe_bl rfl))
            pss_nil)))
        (pss_one (ps_ret pe_bl)))))), ?_⟩
    refine ⟨_, rfl, (by show 1 ≤ sizeLine; decide), fun l1 hl1 => ?_⟩
    have e1 := same_upd (o := .lst [.ref r]) hl1
    have h1 : (upd H l1 (.lst [.ref r])) l1 = some (.lst [.ref r]) := upd_same
    generalize upd H l1 (.lst [.ref r]) = H1 at e1 h1 ⊢
    refine ⟨_, rfl, x, _, dx, _, _, rfl, e1 _ _ ob, T.cl_PlainWorlds, T.no_PlainWorlds_names, ln, _, rfl, x, _, dx, _, _, rfl, e1 _ _ ob, T.cl_PlainWorlds, T.no_PlainWorlds_heap, lh, l1, nm, hp, [f], vals, h, rfl, ⟨_, h1, .cons ⟨r, rfl, by rw [encF_eq]; exact e1 _ _ hr1⟩ .nil⟩, e1 _ _ hnm, hhp.same e1, by omega, nok, fun _ H2 o e2 ho tko => ?_, fun hno => by rw [hg] at hno; cases hno⟩
    have hO : (lsOf ⟨vals, h⟩ [f]).length ≤ 24 := Nat.le_trans (lsOf_len hg) hz
    generalize lsOf ⟨vals, h⟩ [f] = O at tko hO q1 q2
    have e02 := e1.trans e2
    have fo : H o = none := e1.free ho
    refine ⟨o, _, tko, trivial, fun od => ?_⟩
    refine ⟨_, rfl, o, od, rfl, .inl ⟨_, upd_same, fun D hD => lc_it (walk_keys (d := o) (o := od)) (fun i H' => (∀ b z, H2 b = some z → b ≠ o → H' b = some z) ∧ H' o = some (.frz od (.dK (O.map encT))) ∧ H' D = some (.lst (natV ((O.take i).filter fun x => ks.contains x)))) ?_ ?_ ?_ ?_⟩⟩
    · have hDo : D ≠ o := by
        intro z
        rw [z, upd_same] at hD
        cases hD
      refine ⟨fun b z hb hbo => ?_, ?_, upd_same⟩
      · have hbD : b ≠ D := by
          intro y
          rw [upd_ne hDo] at hD
          rw [y, hD] at hb
          cases hb
        rw [upd_ne hbD, upd_ne hbo]
        exact hb
      · rw [upd_ne hDo.symm, upd_same]
    · exact fun i H' _ z => z.2.1
    · rintro j y H' H'' hj ⟨p1, p2, p3⟩ ⟨rfl, k, v, hkv, rfl⟩
      rw [List.length_map] at hj
      have hc : O[j]? = some O[j] := List.getElem?_eq_getElem hj
      have hk : k = Sum.inl ((O[j] : Nat) : Int) := by
        rw [List.getElem?_map, hc] at hkv
        injection hkv with hkv
        injection hkv with hkv _
        exact hkv.symm
      subst hk
      generalize O[j] = c at hc hkv ⊢
      have ntk : tk ≠ o := ne_of_none htk fo
      have hDo : D ≠ o := by
        intro z
        rw [z, p2] at p3
        cases p3
      have hDn : H2 D = none := by
        cases z : H2 D with
        | none => rfl
        | some u =>
          rw [upd_ne hDo, z] at hD
          cases hD
      have htk' : TakenAt H'' tk ks := p1 _ _ (e02 _ _ htk) ntk
      refine ⟨rfl, _, rfl, _, rfl, tk, _, rfl, htk'.get c, _, rfl, ?_⟩
      rw [take_snoc hc, List.filter_append]
      by_cases hin : c ∈ ks
      · rw [if_pos hin]
        have hfl : [c].filter (fun x => ks.contains x) = [c] := by simp [hin]
        refine if_true_of rfl ⟨_, rfl, _, p3, small1000 ?_, fun b z hb hbo => ?_, ?_, ?_⟩
        · rw [natV_len]
          exact Nat.le_trans (List.length_filter_le _ _) (Nat.le_trans (List.length_take_le' _ _) (by omega))
        · rw [upd_ne (ne_of_none hb hDn)]
          exact p1 b z hb hbo
        · rw [upd_ne hDo.symm]
          exact p2
        · rw [upd_same, hfl, natV_append]
          rfl
      · rw [if_neg hin]
        have hfl : [c].filter (fun x => ks.contains x) = [] := by simp [hin]
        refine if_false_of rfl ⟨p1, p2, ?_⟩
        rw [hfl, List.append_nil]
        exact p3
    rintro H3 ⟨p1, p2, p3⟩
    rw [List.length_map, List.take_length] at p3
    refine ⟨p2, ?_⟩
    have hDo : D ≠ o := by
      intro z
      rw [z, p2] at p3
      cases p3
    have e3 : Same H2 (upd H3 o (.dK (O.map encT))) := fun b z hb => by
      by_cases hbo : b = o
      · rw [hbo] at hb ⊢
        rw [upd_same, ← hb]
        exact tko.symm
      · rw [upd_ne hbo]
        exact p1 b z hb hbo
    have hD3 : (upd H3 o (.dK (O.map encT))) D = some (.lst (natV (O.filter fun x => ks.contains x))) := by
      rw [upd_ne hDo]
      exact p3
    have tko3 : TakenAt (upd H3 o (.dK (O.map encT))) o O := upd_same
    generalize upd H3 o (.dK (O.map encT)) = H4 at e3 hD3 tko3 ⊢
    have e04 := e02.trans e3
    refine ⟨D, _, rfl, .inl (SqL.of hD3), ?_⟩
    rw [natV_len]
    generalize (O.filter fun x => ks.contains x).length = sh at q1 q2 ⊢
    have hlf4 : TakenAt H4 lf ls := e04 _ _ hlf
    have hgn4 : TakenAt H4 gn gs := e04 _ _ hgn
    refine ⟨_, rfl, _, _, rfl, rfl, _, rfl, ?_⟩
    by_cases h0 : 0 < sh
    · refine if_true_of (decide_eq_true (by omega)) ⟨_, rfl, _, rfl, o, _, rfl, tko3, _, _, rfl, rfl, _, rfl, ?_⟩
      rw [List.length_map]
      by_cases hlt : sh < O.length
      · exact if_true_of (decide_eq_true (by omega)) (q1 ⟨h0, hlt⟩ H4 e04)
      · refine if_false_of (decide_eq_false (by omega)) ?_
        have q := q2 (fun z => hlt z.2)
        rw [if_neg (show ¬ (sh = 0 ∧ 0 < O.length) by omega), if_pos h0] at q
        refine ⟨_, rfl, _, _, rfl, rfl, _, rfl, if_true_of (decide_eq_true (by omega)) ⟨_, rfl, _, rfl, gn, _, rfl, hgn4.add i zg, ?_⟩⟩
        refine q _ ((Keeps.of e04).trans (Keeps.upd (by simp))) ?_ upd_same
        show upd H4 gn _ lf = _
        rw [upd_ne nlg]
        exact hlf4
    · refine if_false_of (decide_eq_false (by omega)) (if_false_of rfl ?_)
      have q := q2 (fun z => h0 z.1)
      rw [if_neg h0] at q
      refine ⟨_, rfl, _, _, rfl, rfl, _, rfl, if_false_of (decide_eq_false (by omega)) ?_⟩
      refine ⟨_, rfl, o, _, rfl, tko3, _, _, rfl, rfl, _, rfl, ?_⟩
      rw [List.length_map]
      by_cases hO0 : 0 < O.length
      · rw [if_pos (show sh = 0 ∧ 0 < O.length by omega)] at q
        refine if_true_of (decide_eq_true (by omega)) ⟨_, rfl, _, rfl, lf, _, rfl, hlf4.add i zl, ?_⟩
        refine q _ ((Keeps.of e04).trans (Keeps.upd (by simp))) upd_same ?_
        show upd H4 lf _ gn = _
        rw [upd_ne nlg.symm]
        exact hgn4
      · rw [if_neg (show ¬ (sh = 0 ∧ 0 < O.length) by omega)] at q
        exact if_false_of (decide_eq_false (by omega)) (q _ (Keeps.of e04) hlf4 hgn4)
end Ph
namespace Ph
open PySem PySem.Spec PyProof.Rows L2
variable {P : Program} {w : World} {K : PySem.W.Frag} {mg : Str → Option Value} {base : Heap}
/-! ### dicts apart -/
theorem PWIs.keepD {C : Addr} {H H' : Hp} {L : List Addr} {a : Addr} {F : List Addr} {t : List Sm11.Fact} {n most : Nat} {fut : List Sm11.World} (k : Keeps L H H') (dk : ∀ b ∈ L, ∃ kvs, H b = some (.dK kvs)) (ap : ∀ b ∈ F, b ∉ L) (h : PWIs C H a F t n most fut) : PWIs C H' a F t n most fut := by
  obtain ⟨dx, f, rs, lus, now, rfl, x2, I, N, x3⟩ := h
  have nd : ∀ b o, H b = some o → (∀ kvs, o ≠ .dK kvs) → H' b = some o := fun b o hb ho => k b o hb fun z => by
    obtain ⟨kvs, hk⟩ := dk b z
    rw [hb] at hk
    exact ho kvs (Option.some.inj hk)
  have eL : ∀ b xs, H b = some (.lst xs) → H' b = some (.lst xs) := fun b xs hb => nd b _ hb (by intro _ z; cases z)
  have eT : ∀ b xs, H b = some (.tup xs) → H' b = some (.tup xs) := fun b xs hb => nd b _ hb (by intro _ z; cases z)
  have eI : ∀ b c d l, H b = some (.ins c d l) → H' b = some (.ins c d l) := fun b c d l hb => nd b _ hb (by intro _ z; cases z)
  have tris : ∀ {us : List V} {m : List Tri}, TrisAt H us m → TrisAt H' us m := fun q => q.imp fun v _ ⟨p, y, z⟩ => ⟨p, y, eT _ _ z⟩
  have hpk : ∀ o, H f.hp = some o → H' f.hp = some o := fun o ho => k _ _ ho (ap _ (by simp))
  obtain ⟨us, u1, u2, u3⟩ := I.rw
  obtain ⟨kv, h1⟩ := I.he
  obtain ⟨tus, t1, t2⟩ := I.tl
  refine ⟨dx, f, rs, lus, now, rfl, x2, ⟨eI _ _ _ _ I.ob, ⟨tus, eL _ _ t1, tris t2⟩, I.ok, I.tz, I.n4, ⟨us, eL _ _ u1, u2.imp fun v r ⟨q', e', h'⟩ => ⟨q', e', eL _ _ h'⟩, u3⟩, I.rr, I.m1, I.m6, eL _ _ I.la, ⟨kv, hpk _ h1⟩, I.nr, I.rz, I.d1, I.d2⟩, ?_, x3⟩
  cases N with
  | idle h => exact .idle h
  | row D S L sm Y h1 h2 =>
    obtain ⟨cus, c1, c2⟩ := S.ch
    exact .row ⟨eI _ _ _ _ D.ob, eL _ _ D.la, tris D.tr, hpk _ D.he, D.lk⟩ ⟨eL _ _ S.nm, ⟨cus, eL _ _ c1, c2.keep eT⟩, eL _ _ S.pa, S.d1, S.d2, S.d3, S.ff⟩ L sm Y h1 h2
theorem PWIs.hpIn {C : Addr} {H : Hp} {a : Addr} {F : List Addr} {t : List Sm11.Fact} {n most : Nat} {fut : List Sm11.World} (h : PWIs C H a F t n most fut) {dx hp : Addr} {fl : List (Str × V)} (ob : H a = some (.ins C dx fl)) (l : List.lookup ("heap" : Str) fl = some (.ref hp)) : hp ∈ F := by
  obtain ⟨dx', f, rs, lus, now, rfl, x2, I, N, x3⟩ := h
  have e := ob.symm.trans I.ob
  injection e with e
  injection e with _ _ e
  rw [e, f.l_heap] at l
  injection l with l
  injection l with l
  rw [← l]
  simp
/-! ### frame's mathematics -/
theorem good_mem {w : Sm11.World} {t : List Sm11.Fact} {f : Sm11.Fact} (h : good w t = true) (hf : f ∈ t) : good w [f] = true := by
  obtain ⟨h1, h2, h3⟩ := good_iff.mp h
  refine good_iff.mpr ⟨fun g hg => ?_, fun g hg => ?_, ?_⟩
  · rw [List.mem_singleton.mp hg]
    exact h1 f hf
  · rw [List.mem_singleton.mp hg]
    exact h2 f hf
  · rw [lsOf_one]
    obtain ⟨l, hl⟩ := Option.isSome_iff_exists.mp (h2 f hf)
    rw [hl]
    exact (takes_mem hl).1
theorem own_at {w : Sm11.World} {a : List Sm11.Fact} {i : Nat} {f : Sm11.Fact} (h : a[i]? = some f) : own w a i = lsOf w [f] := by
  unfold own
  rw [h, lsOf_one]
theorem kind_piece (f : Sm11.Fact) : inV (V.int (kindF f)) [.int 3, .int 4] = Sm11.isPiece f := by
  cases f <;> rfl
theorem ps_lt {a : List Sm11.Fact} {i : Nat} (h : i ∈ psOf a) : i < a.length := by
  obtain ⟨f, hf, _⟩ := mem_ps.mp h
  exact (List.getElem?_eq_some_iff.mp hf).1
theorem ps_asc (a : List Sm11.Fact) : (psOf a).Pairwise (· < ·) := List.Pairwise.sublist List.filter_sublist List.pairwise_lt_range
theorem frame_step (s : Sm11.St) : (Sm11.step s .frame).2 = match frameM (Sm11.worlds s.n s.before 2) s.before s.behind with
    | none => [0]
    | some l => 1 :: Sm11.ints (l.length :: l) := by
  rw [← frame_eq]
  rfl
theorem frame_bad {s : Sm11.St} {w : Sm11.World} (hw : w ∈ Sm11.worlds s.n s.before 2) (hb : badFrame w s.before s.behind = true) : (Sm11.step s .frame).2 = [0] := by
  rw [frame_step]
  unfold frameM
  rw [if_pos (List.any_eq_true.mpr ⟨w, hw, hb⟩)]
theorem frame_end {s : Sm11.St} {ls gs : List Nat} (hb : ∀ w ∈ Sm11.worlds s.n s.before 2, badFrame w s.before s.behind = false)
    (ml : Marks ls fun j => j ∈ psOf s.before ∧ ∃ w ∈ Sm11.worlds s.n s.before 2, isLeft w s.before s.behind j = true) (mg : Marks gs fun j => j ∈ psOf s.before ∧ ∃ w ∈ Sm11.worlds s.n s.before 2, isGone w s.before s.behind j = true) :
    (ls.any (fun j => decide (j ∈ gs)) = true → (Sm11.step s .frame).2 = [0]) ∧ (ls.any (fun j => decide (j ∈ gs)) = false → ∃ m, m.Pairwise (· < ·) ∧ ls.Perm m ∧ (Sm11.step s .frame).2 = 1 :: Sm11.ints (m.length :: m)) := by
  rw [frame_step]
  unfold frameM
  generalize Sm11.worlds s.n s.before 2 = ws at hb ml mg ⊢
  have h1 : ¬ ws.any (fun w => badFrame w s.before s.behind) = true := by
    rw [List.any_eq_true]
    rintro ⟨w, hw, z⟩
    rw [hb w hw] at z
    cases z
  rw [if_neg h1]
  have h2 : (psOf s.before).any (fun i => ws.any (fun w => isLeft w s.before s.behind i) && ws.any (fun w => isGone w s.before s.behind i)) = true ↔ ls.any (fun j => decide (j ∈ gs)) = true := by
    rw [List.any_eq_true, List.any_eq_true]
    constructor
    · rintro ⟨j, hj, z⟩
      rw [Bool.and_eq_true, List.any_eq_true, List.any_eq_true] at z
      exact ⟨j, (ml.2 j).mpr ⟨hj, z.1⟩, decide_eq_true ((mg.2 j).mpr ⟨hj, z.2⟩)⟩
    · rintro ⟨j, hj, z⟩
      have y1 := (ml.2 j).mp hj
      have y2 := (mg.2 j).mp (of_decide_eq_true z)
      refine ⟨j, y1.1, ?_⟩
      rw [Bool.and_eq_true, List.any_eq_true, List.any_eq_true]
      exact ⟨y1.2, y2.2⟩
  constructor
  · intro h
    rw [if_pos (h2.mpr h)]
  · intro h
    rw [if_neg (fun z => by rw [h2.mp z] at h; cases h)]
    refine ⟨_, List.Pairwise.sublist List.filter_sublist (ps_asc s.before), ?_, rfl⟩
    refine perm_nodup ml.1 (List.Nodup.sublist List.filter_sublist (nodup_ps _)) fun j => ?_
    rw [ml.2 j, List.mem_filter, List.any_eq_true]
def pI (ps : List Nat) (D : Nat → Prop) (L : Nat → Bool) (i j : Nat) : Prop := j ∈ ps ∧ (D j ∨ (j < i ∧ L j = true))
theorem pI_in {ls ps : List Nat} {D : Nat → Prop} {L : Nat → Bool} {i : Nat} (m : Marks ls (pI ps D L i)) (hi : i ∈ ps) (hL : L i = true) : Marks (addN ls i) (pI ps D L (i + 1)) := m.add fun j => by
  unfold pI
  constructor
  · rintro ⟨a, b | ⟨b, c⟩⟩
    · exact .inl ⟨a, .inl b⟩
    · by_cases e : j = i
      · exact .inr e
      · exact .inl ⟨a, .inr ⟨by omega, c⟩⟩
  · rintro (⟨a, b | ⟨b, c⟩⟩ | e)
    · exact ⟨a, .inl b⟩
    · exact ⟨a, .inr ⟨by omega, c⟩⟩
    · rw [e]
      exact ⟨hi, .inr ⟨by omega, hL⟩⟩
theorem pI_out {ls ps : List Nat} {D : Nat → Prop} {L : Nat → Bool} {i : Nat} (m : Marks ls (pI ps D L i)) (h : i ∈ ps → L i = false) : Marks ls (pI ps D L (i + 1)) := m.iff fun j => by
  unfold pI
  constructor
  · rintro ⟨a, b | ⟨b, c⟩⟩
    · exact ⟨a, .inl b⟩
    · by_cases e : j = i
      · rw [e] at a c
        rw [h a] at c
        cases c
      · exact ⟨a, .inr ⟨by omega, c⟩⟩
  · rintro ⟨a, b | ⟨b, c⟩⟩
    · exact ⟨a, .inl b⟩
    · exact ⟨a, .inr ⟨by omega, c⟩⟩
theorem pI_zero {ls ps : List Nat} {D : Nat → Prop} {L : Nat → Bool} (m : Marks ls fun j => j ∈ ps ∧ D j) : Marks ls (pI ps D L 0) := m.iff fun j => by
  unfold pI
  constructor
  · rintro ⟨a, b | ⟨b, _⟩⟩
    · exact ⟨a, b⟩
    · omega
  · rintro ⟨a, b⟩
    exact ⟨a, .inl b⟩
theorem Marks.few {ls : List Nat} {a : List Sm11.Fact} {p : Nat → Prop} (m : Marks ls p) (h : ∀ j, p j → j ∈ psOf a) : ls.length ≤ a.length := by
  have h1 := nodup_le m.1 (fun j hj => h j ((m.2 j).mp hj))
  have h2 : (psOf a).length ≤ a.length := Nat.le_trans (List.length_filter_le _ _) (by simp)
  omega
def frW (C a t0 lf gn x : Addr) (s : Sm11.St) (H : Hp) (m : Nat) (σ : L2.St) (H1 : Hp) : Prop := ∃ (F : List Addr) (fut done : List Sm11.World) (ls gs : List Nat) (o5 o6 o7 : Option V), σ = [some (.ref a), some (.ref t0), some (.ref lf), some (.ref gn), some (.ref x), o5, o6, o7] ∧ Same H H1 ∧ (∀ z ∈ F, H z = none ∧ z ∉ [lf, gn]) ∧ PWIs C H1 x F s.before s.n 2 fut ∧ TakenAt H1 lf ls ∧ TakenAt H1 gn gs ∧
  Sm11.worlds s.n s.before 2 = done ++ fut ∧ (∀ w ∈ done, badFrame w s.before s.behind = false) ∧ Marks ls (fun j => j ∈ psOf s.before ∧ ∃ w ∈ done, isLeft w s.before s.behind j = true) ∧ Marks gs (fun j => j ∈ psOf s.before ∧ ∃ w ∈ done, isGone w s.before s.behind j = true) ∧ m = fut.length
def frI (a t0 lf gn x tk : Addr) (s : Sm11.St) (done : List Sm11.World) (w : Sm11.World) (H5 : Hp) (i : Nat) (σ : L2.St) (H1 : Hp) : Prop := ∃ (ls gs : List Nat) (o6 o7 : Option V), σ = [some (.ref a), some (.ref t0), some (.ref lf), some (.ref gn), some (.ref x), some (.ref tk), o6, o7] ∧ Keeps [lf, gn] H5 H1 ∧ TakenAt H1 lf ls ∧ TakenAt H1 gn gs ∧
  Marks ls (pI (psOf s.before) (fun j => ∃ w ∈ done, isLeft w s.before s.behind j = true) (isLeft w s.before s.behind) i) ∧ Marks gs (pI (psOf s.before) (fun j => ∃ w ∈ done, isGone w s.before s.behind j = true) (isGone w s.before s.behind) i) ∧ ∀ j ∈ psOf s.before, j < i → partly w s.before s.behind j = false
theorem pI_end {ls : List Nat} {a : List Sm11.Fact} {L : Sm11.World → Nat → Bool} {done : List Sm11.World} {w : Sm11.World} (m : Marks ls (pI (psOf a) (fun j => ∃ w ∈ done, L w j = true) (L w) a.length)) : Marks ls fun j => j ∈ psOf a ∧ ∃ v ∈ done ++ [w], L v j = true := m.iff fun j => by
  unfold pI
  constructor
  · rintro ⟨a, v, hv, b⟩
    rcases List.mem_append.mp hv with z | z
    · exact ⟨a, .inl ⟨v, z, b⟩⟩
    · rw [List.mem_singleton.mp z] at b
      exact ⟨a, .inr ⟨ps_lt a, b⟩⟩
  · rintro ⟨a, ⟨v, hv, b⟩ | ⟨_, b⟩⟩
    · exact ⟨a, v, List.mem_append.mpr (.inl hv), b⟩
    · exact ⟨a, w, List.mem_append.mpr (.inr (by simp)), b⟩
theorem ok_frame (T : Top K mg) : FnOk P w K mg base CX0 5 T.f_frame T.fd_frame ["line"] (sp_ask0 T.C_Line fun s => (Sm11.step s .frame).2) := by
  have G_PlainWorlds_init : FnOk P w K mg base CX0 3 T.f_PlainWorlds_init T.fd_PlainWorlds_init ["self", "telling", "greatest", "most"] (sp_PW_init T.C_PlainWorlds) := ok_PW_init T
  have G_PlainWorlds_go_on : FnOk P w K mg base CX0 4 T.f_PlainWorlds_go_on T.fd_PlainWorlds_go_on ["self"] (sp_go_on T.C_PlainWorlds) := ok_go_on T
  have G_places_taken : FnOk P w K mg base CX0 2 T.f_places_taken T.fd_places_taken ["telling", "names", "heap"] sp_places_taken := ok_places_taken T
  have G_sort_piece : FnOk P w K mg base CX0 3 T.f_sort_piece T.fd_sort_piece ["at", "fact", "worlds", "taken", "left", "gone"] (sp_sort_piece T.C_PlainWorlds) := ok_sort_piece T
  refine T.F_frame.ok sc_frame (fun vs H Q E h => ?_) (fun cdv A outer s H vs Q E hr h => ?_)
  · obtain ⟨_, _, _, rfl, _⟩ := h
    rfl
  · obtain ⟨a, s, F, rfl, ⟨dx, U, S, t0, t1, f0, f1, fs, rfl, hL⟩, ok, q⟩ := h
    replace q : AskQ H (Sm11.step s .frame).2 Q := q
    refine ⟨_, (pss_cons (ps_set (i := 1) sc_frame.nd rfl (Or.inl rfl) (pe_ix (r := rIxL K) ix_list (pe_fld (pv 0) rfl) pe_int (fun _ _ => rfl)))
        (pss_cons (ps_set (i := 2) sc_frame.nd rfl (Or.inl rfl) pe_dnewK)
        (pss_cons (ps_set (i := 3) sc_frame.nd rfl (Or.inr rfl) pe_dnewK)
        (pss_cons (ps_set (i := 4) sc_frame.nd rfl (Or.inl rfl) (pe_make T.M_PlainWorlds G_PlainWorlds_init (hr.mono (by decide)) rfl T.g_PlainWorlds T.b_PlainWorlds_init .nil pass0 (pa_cons (pv 1) (pa_cons (pe_fld (pv 0) rfl) (pa_cons (pe_glob (v := .int (2)) rfl T.g_MOST_OF_SAYS ⟨_, rfl⟩) pa_nil)))))
        (pss_cons (ps_while PassesOwn.never (pt_val (pe_meth0 (pv 4) T.cl_PlainWorlds T.m_PlainWorlds_go_on G_PlainWorlds_go_on (hr.mono (by decide)) T.b_PlainWorlds_go_on .nil pass0))
          (pss_cons (ps_set (i := 5) sc_frame.nd rfl (Or.inl rfl) (pe_call G_places_taken (hr.mono (by decide)) (by rfl) T.g_places_taken T.F_places_taken.kp T.b_places_taken .nil pass0 (pa_cons (pe_ix (r := rIxL K) ix_list (pe_fld (pv 0) rfl) pe_int (fun _ _ => rfl)) (pa_cons (pe_fld (pv 4) rfl) (pa_cons (pe_fld (pv 4) rfl) pa_nil)))))
          (pss_cons (ps_if (pt_cmpR op_isN (pv 5) pe_non (nomark _))
            (pss_one (ps_ret (pe_lst (pa_cons pe_int pa_nil))))
            pss_nil)
          (pss_one (ps_for PassesOwn.never rfl (pi_enum (by rfl) T.n_enumerate (pa_cons (pv 1) pa_nil)) (pg_tup rfl (pgs_cons (pg_name (i := 6) sc_frame.nd rfl (Or.inl rfl)) (pgs_cons (pg_name (i := 7) sc_frame.nd rfl (Or.inl rfl)) pgs_nil)))
            (pss_one (ps_if (PW.pt (pw_and (pt_cmpR op_in_seq (pe_ix (r := rIxT K) ix_tup (pv 7) pe_int (fun _ _ => rfl)) (pe_tup (pa_cons (pe_glob (v := .int (3)) rfl T.g_CELL ⟨_, rfl⟩) (pa_cons (pe_glob (v := .int (4)) rfl T.g_CHAIN ⟨_, rfl⟩) pa_nil))) (by rfl)) (pw_and1 (pt_not (pt_val (pe_call G_sort_piece (hr.mono (by decide)) (by rfl) T.g_sort_piece T.F_sort_piece.kp T.b_sort_piece .nil pass0 (pa_cons (pv 6) (pa_cons (pv 7) (pa_cons (pv 4) (pa_cons (pv 5) (pa_cons (pv 2) (pa_cons (pv 3) pa_nil))))))))))))
              (pss_one (ps_ret (pe_lst (pa_cons pe_int pa_nil))))
              pss_nil)))))))
        (pss_cons (ps_if (pt_val (pe_callB (cr_any rfl) (by rfl) T.n_any (by decide +kernel) (pa_cons (pe_lock (pe_lc (own := [("at", 6)]) (g := gName 6) (tt := tYes) rfl sc_frame.nd (pi_keys (pv 2)) (blkOk_by (own := [("at", 6)]) (N := ["line", "before", "left", "gone", "worlds", "taken", "at", "fact"]) (sc := defScope s_frame) (by decide +kernel)) (fun _ _ _ _ _ => (pg_name (i := 6) sc_frame.nd rfl (Or.inl rfl))) (fun _ _ _ _ _ => pts_nil) (fun _ _ _ _ _ => (pe_cmp (pc_din (hu_of hr) (pv 6) (pv 3)) rfl)))) pa_nil)))
          (pss_one (ps_ret (pe_lst (pa_cons pe_int pa_nil))))
          pss_nil)
        (pss_one (ps_ret (pe_op op_cat (pe_lst (pa_cons pe_int (pa_cons (pe_callB call_lenD (by rfl) T.n_len PySem.boot_len (pa_cons (pv 2) pa_nil)) pa_nil))) (pe_callB (cr_sortD rfl) (by rfl) T.n_sorted (by decide +kernel) (pa_cons (pv 2) pa_nil))))))))))), ?_⟩
    refine ⟨_, rfl, a, _, dx, _, _, rfl, hL.ob, T.cl_Line, T.no_Line_tellings, LineAt.lt, U, _, 0, _, rfl, rfl, SqL.of hL.hT, atI_nat (j := 0) rfl, ?_⟩
    intro lf hlf
    have e1 := same_upd (o := .dK []) hlf
    have tl1 : TakenAt (upd H lf (.dK [])) lf [] := upd_same
    generalize upd H lf (.dK []) = H1 at e1 tl1 ⊢
    intro gn hgn
    have es2 := same_upd (o := .dK []) hgn
    have tg2 : TakenAt (upd H1 gn (.dK [])) gn [] := upd_same
    have nlg : lf ≠ gn := ne_of_none tl1 hgn
    have fgn : H gn = none := e1.free hgn
    generalize upd H1 gn (.dK []) = H2 at es2 tg2 ⊢
    have tl2 : TakenAt H2 lf [] := es2 _ _ tl1
    have e2 := e1.trans es2
    have L2 := hL.same e2
    refine ⟨_, rfl, _, rfl, a, _, dx, _, _, rfl, L2.ob, T.cl_Line, T.no_Line_greatest, LineAt.lg, fun x dx' hx hdx ne => ?_⟩
    have e0 : Same H2 (upd (upd H2 dx' (.own x)) x (.ins T.C_PlainWorlds dx' [])) := same_two hdx hx ne
    have hob : (upd (upd H2 dx' (.own x)) x (.ins T.C_PlainWorlds dx' [])) x = some (.ins T.C_PlainWorlds dx' []) := upd_same
    generalize upd (upd H2 dx' (.own x)) x (.ins T.C_PlainWorlds dx' []) = Hn at e0 hob ⊢
    refine ⟨x, dx', t0, s.before, s.n, 2, rfl, hob, (L2.tell0).same e0, ok.b0, ok.z0, ok.n4, by omega, by omega, fun H3 F k3 fr3 pw => ⟨rfl, ?_⟩⟩
    obtain ⟨e3, fr⟩ := made_same e0 hx k3 fr3
    have fr0 : ∀ z ∈ F, H z = none ∧ z ∉ [lf, gn] := fun z hz => ⟨e2.free (fr z hz), by
      have y1 : z ≠ lf := fun y => by
        have := fr z hz
        rw [y, tl2] at this
        cases this
      have y2 : z ≠ gn := fun y => by
        have := fr z hz
        rw [y, tg2] at this
        cases this
      simp [y1, y2]⟩
    have hmk0 : ∀ p : Nat → Prop, (∀ j, ¬ p j) → Marks [] p := fun p hp => ⟨List.nodup_nil, fun j => ⟨(fun z => by cases z), fun z => absurd z (hp j)⟩⟩
    refine ⟨frW T.C_PlainWorlds a t0 lf gn x s H, ⟨_, F, _, [], [], [], _, _, _, rfl, e2.trans e3, fr0, pw, e3 _ _ tl2, e3 _ _ tg2, rfl, (fun w hw => by cases hw), hmk0 _ (fun j ⟨_, w, hw, _⟩ => by cases hw), hmk0 _ (fun j ⟨_, w, hw, _⟩ => by cases hw), rfl⟩, ?_⟩
    rintro m σ H4 ⟨F4, fut, done, ls, gs, o5, o6, o7, rfl, e4, fr4, pw4, tl4, tg4, hws, hbad, ml, mgs, rfl⟩
    obtain ⟨dx4, f4, ob4⟩ := pw4.ob
    have fr4' : ∀ z ∈ F4, H z = none := fun z hz => (fr4 z hz).1
    have nF4 : lf ∉ F4 ∧ gn ∉ F4 := ⟨fun z => (fr4 lf z).2 (by simp), fun z => (fr4 gn z).2 (by simp)⟩
    have lsz : ls.length ≤ 8 := Nat.le_trans (ml.few fun j z => z.1) ok.z0
    have gsz : gs.length ≤ 8 := Nat.le_trans (mgs.few fun j z => z.1) ok.z0
    refine ⟨_, rfl, x, dx4, _, rfl, ob4, f4.n_go, x, F4, s.before, s.n, 2, fut, rfl, pw4, fun he H5 k5 => ?_, fun w5 fut5 he H5 F5 k5 gr5 pw5 cur vl hl => ?_⟩
    · refine ⟨_, rfl, if_false_of rfl ?_⟩
      have e5 := fresh_keeps e4 fr4' k5
      have tl5 : TakenAt H5 lf ls := k5 _ _ tl4 nF4.1
      have tg5 : TakenAt H5 gn gs := k5 _ _ tg4 nF4.2
      rw [he, List.append_nil] at hws
      rw [← hws] at hbad ml mgs
      obtain ⟨z1, z2⟩ := frame_end hbad ml mgs
      refine ⟨lf, _, tl5, trivial, fun od => ?_⟩
      refine ⟨_, rfl, lf, od, rfl, .inl ⟨_, upd_same, fun D hD => lc_it (walk_keys (d := lf) (o := od)) (fun i H' => (∀ b z, H5 b = some z → b ≠ lf → H' b = some z) ∧ H' lf = some (.frz od (.dK (ls.map encT))) ∧ H' D = some (.lst (((ls.take i).map fun j => decide (j ∈ gs)).map V.bl))) ?_ ?_ ?_ ?_⟩⟩
      · have hDo : D ≠ lf := by
          intro z
          rw [z, upd_same] at hD
          cases hD
        refine ⟨fun b z hb hbo => ?_, ?_, upd_same⟩
        · have hbD : b ≠ D := by
            intro y
            rw [upd_ne hDo] at hD
            rw [y, hD] at hb
            cases hb
          rw [upd_ne hbD, upd_ne hbo]
          exact hb
        · rw [upd_ne hDo.symm, upd_same]
      · exact fun i H' _ z => z.2.1
      · rintro j y H' H'' hj ⟨p1, p2, p3⟩ ⟨rfl, k, v, hkv, rfl⟩
        rw [List.length_map] at hj
        have hc : ls[j]? = some ls[j] := List.getElem?_eq_getElem hj
        have hk : k = Sum.inl ((ls[j] : Nat) : Int) := by
          rw [List.getElem?_map, hc] at hkv
          injection hkv with hkv
          injection hkv with hkv _
          exact hkv.symm
        subst hk
        generalize ls[j] = c at hc hkv ⊢
        have hDo : D ≠ lf := by
          intro z
          rw [z, p2] at p3
          cases p3
        have hDn : H5 D = none := by
          cases z : H5 D with
          | none => rfl
          | some u =>
            rw [upd_ne hDo, z] at hD
            cases hD
        have tg' : TakenAt H'' gn gs := p1 _ _ tg5 nlg.symm
        refine ⟨rfl, ?_⟩
        dsimp only [tYes]
        rw [if_pos rfl]
        refine ⟨_, rfl, _, rfl, gn, _, rfl, tg'.get c, _, p3, small1000 ?_, fun b z hb hbo => ?_, ?_, ?_⟩
        · rw [List.length_map, List.length_map]
          exact Nat.le_trans (List.length_take_le' _ _) (by omega)
        · rw [upd_ne (ne_of_none hb hDn)]
          exact p1 b z hb hbo
        · rw [upd_ne hDo.symm]
          exact p2
        · rw [upd_same, take_snoc hc, List.map_append, List.map_append]
          by_cases hin : c ∈ gs
          · rw [if_pos hin, List.map_cons, decide_eq_true hin]
            rfl
          · rw [if_neg hin, List.map_cons, decide_eq_false hin]
            rfl
      rintro H6 ⟨p1, p2, p3⟩
      rw [List.length_map, List.take_length] at p3
      refine ⟨p2, ?_⟩
      have hDo : D ≠ lf := by
        intro z
        rw [z, p2] at p3
        cases p3
      have es6 : Same H5 (upd H6 lf (.dK (ls.map encT))) := fun b z hb => by
        by_cases hbo : b = lf
        · rw [hbo] at hb ⊢
          rw [upd_same, ← hb]
          exact tl5.symm
        · rw [upd_ne hbo]
          exact p1 b z hb hbo
      have hD6 : (upd H6 lf (.dK (ls.map encT))) D = some (.lst ((ls.map fun j => decide (j ∈ gs)).map V.bl)) := by
        rw [upd_ne hDo]
        exact p3
      generalize upd H6 lf (.dK (ls.map encT)) = H7 at es6 hD6 ⊢
      have e7 := e5.trans es6
      have tl7 : TakenAt H7 lf ls := es6 _ _ tl5
      refine ⟨D, _, rfl, SqL.of hD6, _, rfl, ?_⟩
      rw [List.any_map]
      cases hany : ls.any (fun j => decide (j ∈ gs)) with
      | true =>
        refine if_true_of hany ⟨(by show 1 ≤ sizeLine; decide), fun l hl => ?_⟩
        exact q.new e7 hl (by rw [z1 hany]; rfl)
      | false =>
        refine if_false_of hany ?_
        obtain ⟨mm, hmm, hpm, hst⟩ := z2 hany
        refine ⟨_, rfl, lf, _, rfl, tl7, (by show 2 ≤ sizeLine; decide), fun l8 hl8 => ?_⟩
        rw [List.length_map]
        have es8 := same_upd (o := .lst [.int 1, .int (ls.length : Nat)]) hl8
        have h8 : (upd H7 l8 (.lst [.int 1, .int (ls.length : Nat)])) l8 = some (.lst [.int 1, .int (ls.length : Nat)]) := upd_same
        generalize upd H7 l8 (.lst [.int 1, .int (ls.length : Nat)]) = H8 at es8 h8 ⊢
        refine ⟨_, rfl, lf, _, natI ls, rfl, Rd.of (es8 _ _ tl7), ?_, fun ys L hperm hsort hL9 => ?_⟩
        · unfold natI
          rw [List.map_map, List.map_map]
          rfl
        have hys : ys = natI mm := sorted_asc hpm hmm hperm hsort
        subst hys
        have es9 := same_upd (o := .lst ((natI mm).map V.int)) hL9
        have hml : mm.length = ls.length := hpm.length_eq.symm
        refine ⟨l8, L, _, _, rfl, rfl, es9 _ _ h8, upd_same, ?_, fun p hp => ?_⟩
        · refine Nat.le_of_lt (small1000 ?_)
          rw [List.length_map, natI, List.length_map, hml]
          show 2 + ls.length ≤ 1000
          omega
        · refine q.new ((e7.trans es8).trans es9) hp ?_
          rw [hst, List.map_cons, ints_V, natV_cons, natV_I, hml]
          rfl
    · have e5 := fresh_keeps e4 fr4' k5
      have fr5 : ∀ z ∈ F5, H z = none ∧ z ∉ [lf, gn] := fun z hz => by
        rcases gr5 z hz with y | y
        · exact fr4 z y
        · refine ⟨e4.free y, ?_⟩
          have y1 : z ≠ lf := fun v => by
            rw [v, tl4] at y
            cases y
          have y2 : z ≠ gn := fun v => by
            rw [v, tg4] at y
            cases y
          simp [y1, y2]
      have tl5 : TakenAt H5 lf ls := k5 _ _ tl4 nF4.1
      have tg5 : TakenAt H5 gn gs := k5 _ _ tg4 nF4.2
      refine ⟨_, rfl, if_true_of rfl ⟨fun σ' H' => ∃ m', m' < fut.length ∧ frW T.C_PlainWorlds a t0 lf gn x s H m' σ' H', fun _ _ z => z, ?_⟩⟩
      obtain ⟨dx5, nm, hp, fl5, ob5, ln5, lh5, hn5, hh5⟩ := cur
      have hpn : hp ∉ [lf, gn] := (fr5 hp (pw5.hpIn ob5 lh5)).2
      have L5 := hL.same e5
      rw [he] at hws
      have hw5 : w5 ∈ Sm11.worlds s.n s.before 2 := by
        rw [hws]
        simp
      obtain ⟨hso5, hasc5⟩ := worlds_so hw5
      have hgd : good w5 s.before = true := by
        rw [isSo_good] at hso5
        exact (Bool.and_eq_true_iff.mp hso5).1
      refine ⟨_, rfl, a, _, dx, _, _, rfl, L5.ob, T.cl_Line, T.no_Line_tellings, LineAt.lt, U, _, 1, _, rfl, rfl, SqL.of L5.hT, atI_nat (j := 1) rfl, _, rfl, x, _, dx5, _, _, rfl, ob5, T.cl_PlainWorlds, T.no_PlainWorlds_names, ln5, _, rfl, x, _, dx5, _, _, rfl, ob5, T.cl_PlainWorlds, T.no_PlainWorlds_heap, lh5, t1, nm, hp, s.behind, w5.vals, w5.heap, rfl, L5.tell1, hn5, hh5, by omega, by rw [vl]; exact ok.b1, fun hgb H6 tk es6 ftk htk => ?_, fun hgb H6 es6 => ?_⟩
      · refine ⟨_, rfl, rfl, _, rfl, if_false_of rfl ?_⟩
        have hgb' : good w5 s.behind = true := hgb
        replace htk : TakenAt H6 tk (lsOf w5 s.behind) := htk
        have e6 := e5.trans es6
        have L6 := hL.same e6
        have nkl : tk ≠ lf := (ne_of_none tl5 ftk).symm
        have nkg : tk ≠ gn := (ne_of_none tg5 ftk).symm
        have f0l : f0.length = s.before.length := hL.w0.length.trans (List.length_map _)
        refine ⟨_, rfl, t0, f0, rfl, SqL.of L6.h0, for_it (walk_enum (K := K) (a := t0) (xs := f0)) (frI a t0 lf gn x tk s done w5 H6) ?_ ?_ ?_ ?_⟩
        · exact ⟨ls, gs, _, _, rfl, Keeps.refl, es6 _ _ tl5, es6 _ _ tg5, pI_zero ml, pI_zero mgs, fun j _ hj => by omega⟩
        · rintro i σ H7 _ ⟨_, _, _, _, _, k7, _⟩
          have e7 : Same H H7 := fresh_keeps e6 (by intro z hz; simp only [List.mem_cons, List.not_mem_nil, or_false] at hz; rcases hz with y | y <;> rw [y] <;> assumption) k7
          exact SqL.of (hL.same e7).h0
        · rintro i y σ H7 H8 hi ⟨ls7, gs7, o6', o7', rfl, k7, tl7, tg7, ml7, mg7, hpt⟩ ⟨Tt, x1, x2, rfl, hT, rfl, q1, q2⟩
          obtain rfl := Option.some.inj q1
          have e7 : Same H H7 := fresh_keeps e6 (by intro z hz; simp only [List.mem_cons, List.not_mem_nil, or_false] at hz; rcases hz with y | y <;> rw [y] <;> assumption) k7
          have L7 := hL.same e7
          obtain ⟨f, r, hf, rfl, hr7⟩ := facts_at L7.w0 q2
          have hfm : f ∈ s.before := List.mem_of_getElem? hf
          have es8 := same_upd (o := .tup [.int (i : Nat), .ref r]) hT
          refine ⟨Tt, _, rfl, SqT.of upd_same, rfl, _, _, rfl, _, _, rfl, rfl, ?_⟩
          have hr8 := es8 _ _ hr7
          generalize upd H7 Tt (.tup [.int (i : Nat), .ref r]) = H8 at es8 hr8 ⊢
          refine ⟨_, rfl, r, _, 0, _, rfl, rfl, SqT.of hr8, atI_nat (j := 0) rfl, (by show 2 ≤ sizeLine; decide), fun tt htt => ?_⟩
          have es9 := same_upd (o := .tup [.int 3, .int 4]) htt
          have h9 : (upd H8 tt (.tup [.int 3, .int 4])) tt = some (.tup [.int 3, .int 4]) := upd_same
          generalize upd H8 tt (.tup [.int 3, .int 4]) = H9 at es9 h9 ⊢
          have e79 := es8.trans es9
          have k9 : Keeps [lf, gn] H6 H9 := k7.trans (Keeps.of e79)
          refine ⟨tt, _, rfl, .inr (SqT.of h9), rfl, rfl, _, rfl, ?_⟩
          rw [kind_piece]
          cases hpc : Sm11.isPiece f with
          | false =>
            have hni : i ∉ psOf s.before := fun z => by
              obtain ⟨f', hf', hp'⟩ := mem_ps.mp z
              rw [hf] at hf'
              rw [← Option.some.inj hf', hpc] at hp'
              cases hp'
            refine if_false_of rfl (if_false_of rfl ?_)
            exact ⟨ls7, gs7, _, _, rfl, k9, e79 _ _ tl7, e79 _ _ tg7, pI_out ml7 (fun z => absurd z hni), pI_out mg7 (fun z => absurd z hni), fun j hj hlt => hpt j hj (by
              rcases Nat.lt_succ_iff_lt_or_eq.mp hlt with y | y
              · exact y
              · exact absurd (y ▸ hj) hni)⟩
          | true =>
            have hii : i ∈ psOf s.before := mem_ps.mpr ⟨f, hf, hpc⟩
            have z7 : ls7.length ≤ 8 := Nat.le_trans (ml7.few fun j z => z.1) ok.z0
            have y7 : gs7.length ≤ 8 := Nat.le_trans (mg7.few fun j z => z.1) ok.z0
            have k59 : Keeps [lf, gn] H5 H9 := (Keeps.of es6).trans k9
            have nD : ∀ b ∈ [lf, gn], ∃ kvs, H5 b = some (.dK kvs) := by
              intro b hb
              simp only [List.mem_cons, List.not_mem_nil, or_false] at hb
              rcases hb with y | y
              · rw [y]; exact ⟨_, tl5⟩
              · rw [y]; exact ⟨_, tg5⟩
            have nx : ∀ b o, H5 b = some o → (∀ kvs, o ≠ .dK kvs) → b ∉ [lf, gn] := fun b o hb ho z => by
              obtain ⟨kvs, hk⟩ := nD b z
              rw [hb] at hk
              exact ho kvs (Option.some.inj hk)
            have ob9 := k59 _ _ ob5 (nx _ _ ob5 (by intro _ z; cases z))
            have hn9 : NamesAt H9 nm w5.vals := k59 _ _ hn5 (nx _ _ hn5 (by intro _ z; cases z))
            have hh9 : HeapAt H9 hp w5.heap := hh5.keep fun o ho => k59 _ _ ho hpn
            have htk9 : TakenAt H9 tk (lsOf w5 s.behind) := k9 _ _ htk (by simp [nkl, nkg])
            have hown : own w5 s.before i = lsOf w5 [f] := own_at hf
            have hsh : shared w5 s.before s.behind i = ((lsOf w5 [f]).filter fun x => (lsOf w5 s.behind).contains x).length := by
              unfold shared
              rw [hown]
            refine if_true_of rfl ⟨_, rfl, _, rfl, _, rfl, _, rfl, _, rfl, _, rfl, i, r, x, dx5, nm, hp, tk, lf, gn, fl5, f, w5.vals, w5.heap, lsOf w5 s.behind, ls7, gs7, rfl, es9 _ _ hr8, ob9, ln5, lh5, hn9, hh9, hl, ?_, good_mem hgd hfm, htk9, e79 _ _ tl7, e79 _ _ tg7, by omega, by omega, nlg, fun hpart H10 es10 => ?_, fun hpart H10 k10 tl10 tg10 => ?_⟩
            · intro g hg
              rw [List.mem_singleton.mp hg, vl]
              exact ok.b0 f hfm
            · refine ⟨_, rfl, if_true_of rfl ⟨(by show 1 ≤ sizeLine; decide), fun l hl => ?_⟩⟩
              have hbd : badFrame w5 s.before s.behind = true := by
                unfold badFrame
                rw [Bool.or_eq_true, List.any_eq_true]
                refine .inr ⟨i, hii, ?_⟩
                unfold partly
                rw [Bool.and_eq_true, decide_eq_true_iff, decide_eq_true_iff, hsh, hown]
                exact hpart
              exact q.new ((e7.trans e79).trans es10) hl (by rw [frame_bad hw5 hbd]; rfl)
            · refine ⟨_, rfl, if_false_of rfl ?_⟩
              refine ⟨_, _, _, _, rfl, k9.trans k10, tl10, tg10, ?_, ?_, ?_⟩
              · split
                · rename_i hc
                  refine pI_in ml7 hii ?_
                  unfold isLeft
                  rw [Bool.and_eq_true, decide_eq_true_iff, decide_eq_true_iff, hsh, hown]
                  exact hc
                · rename_i hc
                  refine pI_out ml7 fun _ => ?_
                  unfold isLeft
                  rw [Bool.eq_false_iff, ne_eq, Bool.and_eq_true, decide_eq_true_iff, decide_eq_true_iff, hsh, hown]
                  exact hc
              · split
                · rename_i hc
                  refine pI_in mg7 hii ?_
                  unfold isGone
                  rw [decide_eq_true_iff, hsh]
                  exact hc
                · rename_i hc
                  refine pI_out mg7 fun _ => ?_
                  unfold isGone
                  rw [decide_eq_false_iff_not, hsh]
                  exact hc
              · intro j hj hlt
                rcases Nat.lt_succ_iff_lt_or_eq.mp hlt with y | y
                · exact hpt j hj y
                · rw [y]
                  unfold partly
                  rw [Bool.eq_false_iff, ne_eq, Bool.and_eq_true, decide_eq_true_iff, decide_eq_true_iff, hsh, hown]
                  exact hpart
        · rintro σ H7 ⟨ls7, gs7, o6', o7', rfl, k7, tl7, tg7, ml7, mg7, hpt⟩
          rw [f0l] at ml7 mg7 hpt
          have e7 : Same H H7 := fresh_keeps e6 (by intro z hz; simp only [List.mem_cons, List.not_mem_nil, or_false] at hz; rcases hz with y | y <;> rw [y] <;> assumption) k7
          have pw7 : PWIs T.C_PlainWorlds H7 x F5 s.before s.n 2 fut5 := by
            refine PWIs.keepD ((Keeps.of es6).trans k7) ?_ (fun b hb => (fr5 b hb).2) pw5
            intro b hb
            simp only [List.mem_cons, List.not_mem_nil, or_false] at hb
            rcases hb with y | y
            · rw [y]; exact ⟨_, tl5⟩
            · rw [y]; exact ⟨_, tg5⟩
          refine ⟨fut5.length, by rw [he]; simp, F5, fut5, done ++ [w5], ls7, gs7, _, _, _, rfl, e7, fr5, pw7, tl7, tg7, by rw [hws, List.append_assoc]; rfl, fun v hv => ?_, pI_end (L := fun w j => isLeft w s.before s.behind j) ml7, pI_end (L := fun w j => isGone w s.before s.behind j) mg7, rfl⟩
          rcases List.mem_append.mp hv with z | z
          · exact hbad v z
          · rw [List.mem_singleton.mp z]
            unfold badFrame
            rw [hgb', Bool.not_true, Bool.false_or, Bool.eq_false_iff, ne_eq, List.any_eq_true]
            rintro ⟨j, hj, y⟩
            rw [hpt j hj (ps_lt hj)] at y
            cases y
      · refine ⟨_, rfl, rfl, _, rfl, if_true_of rfl ⟨(by show 1 ≤ sizeLine; decide), fun l hl => ?_⟩⟩
        have hbd : badFrame w5 s.before s.behind = true := by
          unfold badFrame
          rw [show good w5 s.behind = false from hgb]
          rfl
        exact q.new (e5.trans es6) hl (by rw [frame_bad hw5 hbd]; rfl)
end Ph
namespace Ph
open PySem PySem.Spec PyProof.Rows L2
variable {P : Program} {w : World} {K : PySem.W.Frag} {mg : Str → Option Value} {base : Heap}
/-! ### the state stays in order -/
theorem sok_init : Sok Sm11.init := ⟨by decide, by decide, (fun f hf => by cases hf), (fun f hf => by cases hf), Nat.zero_le _, Nat.zero_le _, Nat.zero_le _, (fun f hf => by cases hf)⟩
theorem names_snoc {l : List Sm11.Fact} {n : Nat} {f : Sm11.Fact} (h : NamesOk l (n + 1)) (hn : ¬ (Sm11.namesIn f).any (fun x => decide (n < x)) = true) : NamesOk (l ++ [f]) (n + 1) := by
  intro g hg
  rcases List.mem_append.mp hg with z | z
  · exact h g z
  · rw [List.mem_singleton.mp z]
    rw [names_F] at hn
    simp at hn
    omega
theorem sok_step {s : Sm11.St} (ok : Sok s) (c : Sm11.Call) : Sok (Sm11.step s c).1 := by
  obtain ⟨n1, n4, b0, b1, z0, z1, zp, pr⟩ := id ok
  cases c with
  | start n =>
    by_cases h : n = 0 ∨ 4 < n
    · rw [start1 h]
      exact ok
    · rw [start_p h]
      exact ⟨(by show 1 ≤ n; omega), (by show n ≤ 4; omega), (fun f hf => by cases hf), (fun f hf => by cases hf), Nat.zero_le _, Nat.zero_le _, Nat.zero_le _, (fun f hf => by cases hf)⟩
  | fact p f =>
    by_cases h : 1 < p
    · rw [fact1 h]
      exact ok
    by_cases hn : (Sm11.namesIn f).any (fun x => decide (s.n < x)) = true
    · rw [fact2 h hn]
      exact ok
    by_cases hc : 8 ≤ (Sm11.side s p).length ∨ (Sm11.isChain f = true ∧ 3 ≤ ((Sm11.side s p).filter Sm11.isChain).length)
    · rw [fact5 h hn hc]
      exact ok
    · rw [fact_p h hn hc]
      have hl : (Sm11.side s p).length < 8 := by
        apply Nat.lt_of_not_le
        exact fun z => hc (.inl z)
      unfold Sm11.side at hl
      by_cases h0 : p = 0
      · rw [if_pos h0] at hl
        rw [if_pos h0]
        exact ⟨n1, n4, names_snoc b0 hn, b1, by rw [List.length_append]; exact hl, z1, zp, pr⟩
      · rw [if_neg h0] at hl
        rw [if_neg h0]
        exact ⟨n1, n4, b0, names_snoc b1 hn, z0, by rw [List.length_append]; exact hl, zp, pr⟩
  | clear p =>
    show Sok (if 1 < p then (s, ([-1] : List Int)) else if p = 0 then (⟨s.n, [], s.behind, s.prog⟩, [(s.before.length : Int)]) else (⟨s.n, s.before, [], s.prog⟩, [(s.behind.length : Int)])).1
    split
    · exact ok
    · split
      · exact ⟨n1, n4, (fun f hf => by cases hf), b1, Nat.zero_le _, z1, zp, pr⟩
      · exact ⟨n1, n4, b0, (fun f hf => by cases hf), z0, Nat.zero_le _, zp, pr⟩
  | step c =>
    show Sok (if (Sm11.readsOf c ++ Sm11.setsOf c).any (fun x => decide (s.n < x)) = true then (s, ([-2] : List Int)) else if (Sm11.setsOf c).contains 0 = true then (s, [-1]) else if 4 ≤ s.prog.length then (s, [-5]) else (⟨s.n, s.before, s.behind, s.prog ++ [c]⟩, [((s.prog.length + 1 : Nat) : Int)])).1
    split
    · exact ok
    · rename_i hn
      split
      · exact ok
      · split
        · exact ok
        · refine ⟨n1, n4, b0, b1, z0, z1, by rw [List.length_append]; show s.prog.length + 1 ≤ 4; omega, fun g hg => ?_⟩
          rcases List.mem_append.mp hg with z | z
          · exact pr g z
          · rw [List.mem_singleton.mp z]
            rw [step_names] at hn
            simp at hn
            have e := encS_eq c
            rw [e] at hn
            unfold StepOk
            dsimp only at hn ⊢
            omega
  | undo =>
    by_cases h : s.prog = []
    · rw [undo0 h]
      exact ok
    · rw [undo_p h]
      exact ⟨n1, n4, b0, b1, z0, z1, by rw [List.length_dropLast]; show s.prog.length - 1 ≤ 4; omega, fun g hg => pr g (List.dropLast_subset _ hg)⟩
  | swap => exact ⟨n1, n4, b1, b0, z1, z0, zp, pr⟩
  | triple => exact ok
  | safe => exact ok
  | says => exact ok
  | frame => exact ok
  | can p => exact ok
  | surely p x y => exact ok
  | fits p l => exact ok
  | run l => exact ok
/-! ### calls -/
theorem eqF {i j : Int} (h : i ≠ j) : decide (V.int i = V.int j) = false := by
  rw [dInt]
  exact decide_eq_false h
theorem eqT {i j : Int} (h : i = j) : decide (V.int i = V.int j) = true := by
  rw [dInt]
  exact decide_eq_true h
def natK : Sm11.Fact → Nat
  | .same _ _ => 1
  | .differ _ _ => 2
  | .cell _ _ => 3
  | .chain _ _ => 4
theorem natK_eq (f : Sm11.Fact) : ((natK f : Nat) : Int) = kindF f := by cases f <;> rfl
theorem natK_rng (f : Sm11.Fact) : 1 ≤ natK f ∧ natK f ≤ 4 := by cases f <;> simp [natK]
inductive CallIs : Nat → List Int → Sm11.Call → Prop
  | start (n : Nat) : CallIs 0 [(n : Int)] (.start n)
  | fact (q : Nat) (f : Sm11.Fact) : CallIs (natK f) [(q : Int), (xF f : Int), (yF f : Int)] (.fact q f)
  | clear (q : Nat) : CallIs 5 [(q : Int)] (.clear q)
  | let_ (x y : Nat) : CallIs 6 [(x : Int), (y : Int)] (.step (.let_ x y))
  | load (x y : Nat) : CallIs 7 [(x : Int), (y : Int)] (.step (.load x y))
  | store (x y : Nat) : CallIs 8 [(x : Int), (y : Int)] (.step (.store x y))
  | new (x : Nat) : CallIs 9 [(x : Int)] (.step (.new x))
  | free (x : Nat) : CallIs 10 [(x : Int)] (.step (.free x))
  | undo : CallIs 11 [] .undo
  | swap : CallIs 12 [] .swap
  | triple : CallIs 13 [] .triple
  | safe : CallIs 14 [] .safe
  | says : CallIs 15 [] .says
  | frame : CallIs 16 [] .frame
  | can (q : Nat) : CallIs 17 [(q : Int)] (.can q)
  | surely (q x y : Nat) : CallIs 18 [(q : Int), (x : Int), (y : Int)] (.surely q x y)
  | fits (q : Nat) (l : List Nat) : l.length ≤ 700 → CallIs 19 ((q : Int) :: (l.length : Int) :: natI l) (.fits q l)
  | run (l : List Nat) : l.length ≤ 700 → CallIs 20 ((l.length : Int) :: natI l) (.run l)
def ListI (H : Hp) (b : Addr) (ns : List Int) : Prop := H b = some (.lst (ns.map V.int))
/-! ### answer_of_writing -/
def sp_writing (C : Addr) : Sp := fun vs H Q _ => ∃ (a : Addr) (s : Sm11.St) (F : List Addr) (p : Nat) (b : Addr) (ns : List Int) (c : Sm11.Call), vs = [.ref a, .int p, .ref b] ∧ LineIs C H a s F ∧ Sok s ∧ ListI H b ns ∧ CallIs p ns c ∧ p ≤ 10 ∧
  Post C H a F (Sm11.step s c).1 (Sm11.step s c).2 Q
theorem ok_answer_of_writing (T : Top K mg) : FnOk P w K mg base CX0 4 T.f_answer_of_writing T.fd_answer_of_writing ["line", "call", "numbers"] (sp_writing T.C_Line) := by
  have G_start : FnOk P w K mg base CX0 1 T.f_start T.fd_start ["line", "greatest"] (sp_start T.C_Line) := ok_start T
  have G_add_fact : FnOk P w K mg base CX0 3 T.f_add_fact T.fd_add_fact ["line", "kind", "p", "x", "y"] (sp_add_fact T.C_Line) := ok_add_fact T
  have G_clear_telling : FnOk P w K mg base CX0 2 T.f_clear_telling T.fd_clear_telling ["line", "p"] (sp_clear_telling T.C_Line) := ok_clear_telling T
  have G_add_step : FnOk P w K mg base CX0 2 T.f_add_step T.fd_add_step ["line", "kind", "x", "y"] (sp_add_step T.C_Line) := ok_add_step T
  refine T.F_answer_of_writing.ok sc_answer_of_writing (fun vs H Q E h => ?_) (fun cdv A outer s H vs Q E hr h => ?_)
  · obtain ⟨_, _, _, _, _, _, _, rfl, _⟩ := h
    rfl
  · obtain ⟨a, s, F, p, b, ns, c, rfl, hL, ok, hb, hc, h10, q⟩ := h
    refine ⟨_, (pss_cons (ps_if (pt_cmpR op_eq (pv 1) (pe_glob (v := .int (0)) rfl T.g_START ⟨_, rfl⟩) (nomark _))
          (pss_one (ps_ret (pe_call G_start (hr.mono (by decide)) (by rfl) T.g_start T.F_start.kp T.b_start .nil pass0 (pa_cons (pv 0) (pa_cons (pe_ix (r := rIxL K) ix_list (pv 2) pe_int (fun _ _ => rfl)) pa_nil)))))
          pss_nil)
        (pss_cons (ps_if (pt_cmpR op_le (pv 1) (pe_glob (v := .int (4)) rfl T.g_CHAIN ⟨_, rfl⟩) (nomark _))
          (pss_one (ps_ret (pe_call G_add_fact (hr.mono (by decide)) (by rfl) T.g_add_fact T.F_add_fact.kp T.b_add_fact .nil pass0 (pa_cons (pv 0) (pa_cons (pv 1) (pa_cons (pe_ix (r := rIxL K) ix_list (pv 2) pe_int (fun _ _ => rfl)) (pa_cons (pe_ix (r := rIxL K) ix_list (pv 2) pe_int (fun _ _ => rfl)) (pa_cons (pe_ix (r := rIxL K) ix_list (pv 2) pe_int (fun _ _ => rfl)) pa_nil))))))))
          pss_nil)
        (pss_cons (ps_if (pt_cmpR op_eq (pv 1) (pe_glob (v := .int (5)) rfl T.g_CLEAR ⟨_, rfl⟩) (nomark _))
          (pss_one (ps_ret (pe_call G_clear_telling (hr.mono (by decide)) (by rfl) T.g_clear_telling T.F_clear_telling.kp T.b_clear_telling .nil pass0 (pa_cons (pv 0) (pa_cons (pe_ix (r := rIxL K) ix_list (pv 2) pe_int (fun _ _ => rfl)) pa_nil)))))
          pss_nil)
        (pss_cons (ps_if (pt_cmpR op_le (pv 1) (pe_glob (v := .int (8)) rfl T.g_STORE ⟨_, rfl⟩) (nomark _))
          (pss_one (ps_ret (pe_call G_add_step (hr.mono (by decide)) (by rfl) T.g_add_step T.F_add_step.kp T.b_add_step .nil pass0 (pa_cons (pv 0) (pa_cons (pv 1) (pa_cons (pe_ix (r := rIxL K) ix_list (pv 2) pe_int (fun _ _ => rfl)) (pa_cons (pe_ix (r := rIxL K) ix_list (pv 2) pe_int (fun _ _ => rfl)) pa_nil)))))))
          pss_nil)
        (pss_one (ps_ret (pe_call G_add_step (hr.mono (by decide)) (by rfl) T.g_add_step T.F_add_step.kp T.b_add_step .nil pass0 (pa_cons (pv 0) (pa_cons (pv 1) (pa_cons (pe_ix (r := rIxL K) ix_list (pv 2) pe_int (fun _ _ => rfl)) (pa_cons pe_int pa_nil))))))))))), ?_⟩
    refine ⟨_, rfl, rfl, _, rfl, ?_⟩
    cases hc with
    | start n =>
      exact if_true_of (eqT rfl) ⟨_, rfl, _, rfl, b, _, 0, _, rfl, rfl, SqL.of hb, atI_nat (j := 0) rfl, a, s, F, n, rfl, hL, q⟩
    | fact k f =>
      have hk := natK_rng f
      refine if_false_of (eqF (by omega)) ⟨_, rfl, _, _, rfl, rfl, _, rfl, if_true_of (decide_eq_true (by omega)) ?_⟩
      exact ⟨_, rfl, _, rfl, _, rfl, b, _, 0, _, rfl, rfl, SqL.of hb, atI_nat (j := 0) rfl, _, rfl, b, _, 1, _, rfl, rfl, SqL.of hb, atI_nat (j := 1) rfl, _, rfl, b, _, 2, _, rfl, rfl, SqL.of hb, atI_nat (j := 2) rfl, a, s, F, k, f, by rw [natK_eq]; rfl, hL, ok.z0, ok.z1, q⟩
    | clear k =>
      refine if_false_of (eqF (by decide)) ⟨_, rfl, _, _, rfl, rfl, _, rfl, if_false_of (decide_eq_false (by decide)) ⟨_, rfl, rfl, _, rfl, if_true_of (eqT rfl) ?_⟩⟩
      exact ⟨_, rfl, _, rfl, b, _, 0, _, rfl, rfl, SqL.of hb, atI_nat (j := 0) rfl, a, s, F, k, rfl, hL, q⟩
    | let_ x y =>
      refine if_false_of (eqF (by decide)) ⟨_, rfl, _, _, rfl, rfl, _, rfl, if_false_of (decide_eq_false (by decide)) ⟨_, rfl, rfl, _, rfl, if_false_of (eqF (by decide)) ⟨_, rfl, _, _, rfl, rfl, _, rfl, if_true_of (decide_eq_true (by decide)) ?_⟩⟩⟩
      exact ⟨_, rfl, _, rfl, _, rfl, b, _, 0, _, rfl, rfl, SqL.of hb, atI_nat (j := 0) rfl, _, rfl, b, _, 1, _, rfl, rfl, SqL.of hb, atI_nat (j := 1) rfl, a, s, F, .let_ x y, rfl, hL, ok.zp, q⟩
    | load x y =>
      refine if_false_of (eqF (by decide)) ⟨_, rfl, _, _, rfl, rfl, _, rfl, if_false_of (decide_eq_false (by decide)) ⟨_, rfl, rfl, _, rfl, if_false_of (eqF (by decide)) ⟨_, rfl, _, _, rfl, rfl, _, rfl, if_true_of (decide_eq_true (by decide)) ?_⟩⟩⟩
      exact ⟨_, rfl, _, rfl, _, rfl, b, _, 0, _, rfl, rfl, SqL.of hb, atI_nat (j := 0) rfl, _, rfl, b, _, 1, _, rfl, rfl, SqL.of hb, atI_nat (j := 1) rfl, a, s, F, .load x y, rfl, hL, ok.zp, q⟩
    | store x y =>
      refine if_false_of (eqF (by decide)) ⟨_, rfl, _, _, rfl, rfl, _, rfl, if_false_of (decide_eq_false (by decide)) ⟨_, rfl, rfl, _, rfl, if_false_of (eqF (by decide)) ⟨_, rfl, _, _, rfl, rfl, _, rfl, if_true_of (decide_eq_true (by decide)) ?_⟩⟩⟩
      exact ⟨_, rfl, _, rfl, _, rfl, b, _, 0, _, rfl, rfl, SqL.of hb, atI_nat (j := 0) rfl, _, rfl, b, _, 1, _, rfl, rfl, SqL.of hb, atI_nat (j := 1) rfl, a, s, F, .store x y, rfl, hL, ok.zp, q⟩
    | new x =>
      refine if_false_of (eqF (by decide)) ⟨_, rfl, _, _, rfl, rfl, _, rfl, if_false_of (decide_eq_false (by decide)) ⟨_, rfl, rfl, _, rfl, if_false_of (eqF (by decide)) ⟨_, rfl, _, _, rfl, rfl, _, rfl, if_false_of (decide_eq_false (by decide)) ?_⟩⟩⟩
      exact ⟨_, rfl, _, rfl, _, rfl, b, _, 0, _, rfl, rfl, SqL.of hb, atI_nat (j := 0) rfl, a, s, F, .new x, rfl, hL, ok.zp, q⟩
    | free x =>
      refine if_false_of (eqF (by decide)) ⟨_, rfl, _, _, rfl, rfl, _, rfl, if_false_of (decide_eq_false (by decide)) ⟨_, rfl, rfl, _, rfl, if_false_of (eqF (by decide)) ⟨_, rfl, _, _, rfl, rfl, _, rfl, if_false_of (decide_eq_false (by decide)) ?_⟩⟩⟩
      exact ⟨_, rfl, _, rfl, _, rfl, b, _, 0, _, rfl, rfl, SqL.of hb, atI_nat (j := 0) rfl, a, s, F, .free x, rfl, hL, ok.zp, q⟩
    | undo => exact absurd h10 (by decide)
    | swap => exact absurd h10 (by decide)
    | triple => exact absurd h10 (by decide)
    | safe => exact absurd h10 (by decide)
    | says => exact absurd h10 (by decide)
    | frame => exact absurd h10 (by decide)
    | can _ => exact absurd h10 (by decide)
    | surely _ _ _ => exact absurd h10 (by decide)
    | fits _ _ _ => exact absurd h10 (by decide)
    | run _ _ => exact absurd h10 (by decide)
/-! ### answer_of_asking -/
theorem AskQ.sm {H H1 : Hp} {r : List Int} {Q : VK} (q : AskQ H r Q) (e : Same H H1) : AskQ H1 r Q := fun H' p e' hp h => q H' p (e.trans e') (e.free hp) h
def sp_asking (C : Addr) : Sp := fun vs H Q _ => ∃ (a : Addr) (s : Sm11.St) (F : List Addr) (p : Nat) (b : Addr) (ns : List Int) (c : Sm11.Call), vs = [.ref a, .int p, .ref b] ∧ LineIs C H a s F ∧ Sok s ∧ ListI H b ns ∧ CallIs p ns c ∧ 13 ≤ p ∧ AskQ H (Sm11.step s c).2 Q
theorem ok_answer_of_asking (T : Top K mg) : FnOk P w K mg base CX0 20 T.f_answer_of_asking T.fd_answer_of_asking ["line", "call", "numbers"] (sp_asking T.C_Line) := by
  have G_triple : FnOk P w K mg base CX0 19 T.f_triple T.fd_triple ["line"] (sp_ask0 T.C_Line fun s => (Sm11.step s .triple).2) := ok_triple T
  have G_safe : FnOk P w K mg base CX0 19 T.f_safe T.fd_safe ["line"] (sp_ask0 T.C_Line fun s => (Sm11.step s .safe).2) := ok_safe T
  have G_says : FnOk P w K mg base CX0 5 T.f_says T.fd_says ["line"] (sp_ask0 T.C_Line fun s => (Sm11.step s .says).2) := ok_says T
  have G_frame : FnOk P w K mg base CX0 5 T.f_frame T.fd_frame ["line"] (sp_ask0 T.C_Line fun s => (Sm11.step s .frame).2) := ok_frame T
  have G_can : FnOk P w K mg base CX0 5 T.f_can T.fd_can ["line", "p"] (sp_can T.C_Line) := ok_can T
  have G_surely : FnOk P w K mg base CX0 3 T.f_surely T.fd_surely ["line", "p", "x", "y"] (sp_surely T.C_Line) := ok_surely T
  have G_fits : FnOk P w K mg base CX0 4 T.f_fits T.fd_fits ["line", "p", "numbers"] (sp_fits T.C_Line) := ok_fits T
  have G_run : FnOk P w K mg base CX0 3 T.f_run T.fd_run ["line", "numbers"] (sp_run T.C_Line) := ok_run T
  refine T.F_answer_of_asking.ok sc_answer_of_asking (fun vs H Q E h => ?_) (fun cdv A outer s H vs Q E hr h => ?_)
  · obtain ⟨_, _, _, _, _, _, _, rfl, _⟩ := h
    rfl
  · obtain ⟨a, s, F, p, b, ns, c, rfl, hL, ok, hb, hc, h13, q⟩ := h
    refine ⟨_, (pss_cons (ps_if (pt_cmpR op_eq (pv 1) (pe_glob (v := .int (13)) rfl T.g_TRIPLE ⟨_, rfl⟩) (nomark _))
          (pss_one (ps_ret (pe_call G_triple (hr.mono (by decide)) (by rfl) T.g_triple T.F_triple.kp T.b_triple .nil pass0 (pa_cons (pv 0) pa_nil))))
          pss_nil)
        (pss_cons (ps_if (pt_cmpR op_eq (pv 1) (pe_glob (v := .int (14)) rfl T.g_SAFE ⟨_, rfl⟩) (nomark _))
          (pss_one (ps_ret (pe_call G_safe (hr.mono (by decide)) (by rfl) T.g_safe T.F_safe.kp T.b_safe .nil pass0 (pa_cons (pv 0) pa_nil))))
          pss_nil)
        (pss_cons (ps_if (pt_cmpR op_eq (pv 1) (pe_glob (v := .int (15)) rfl T.g_SAYS ⟨_, rfl⟩) (nomark _))
          (pss_one (ps_ret (pe_call G_says (hr.mono (by decide)) (by rfl) T.g_says T.F_says.kp T.b_says .nil pass0 (pa_cons (pv 0) pa_nil))))
          pss_nil)
        (pss_cons (ps_if (pt_cmpR op_eq (pv 1) (pe_glob (v := .int (16)) rfl T.g_FRAME ⟨_, rfl⟩) (nomark _))
          (pss_one (ps_ret (pe_call G_frame (hr.mono (by decide)) (by rfl) T.g_frame T.F_frame.kp T.b_frame .nil pass0 (pa_cons (pv 0) pa_nil))))
          pss_nil)
        (pss_cons (ps_if (pt_cmpR op_eq (pv 1) (pe_glob (v := .int (17)) rfl T.g_CAN ⟨_, rfl⟩) (nomark _))
          (pss_one (ps_ret (pe_call G_can (hr.mono (by decide)) (by rfl) T.g_can T.F_can.kp T.b_can .nil pass0 (pa_cons (pv 0) (pa_cons (pe_ix (r := rIxL K) ix_list (pv 2) pe_int (fun _ _ => rfl)) pa_nil)))))
          pss_nil)
        (pss_cons (ps_if (pt_cmpR op_eq (pv 1) (pe_glob (v := .int (18)) rfl T.g_SURELY ⟨_, rfl⟩) (nomark _))
          (pss_one (ps_ret (pe_call G_surely (hr.mono (by decide)) (by rfl) T.g_surely T.F_surely.kp T.b_surely .nil pass0 (pa_cons (pv 0) (pa_cons (pe_ix (r := rIxL K) ix_list (pv 2) pe_int (fun _ _ => rfl)) (pa_cons (pe_ix (r := rIxL K) ix_list (pv 2) pe_int (fun _ _ => rfl)) (pa_cons (pe_ix (r := rIxL K) ix_list (pv 2) pe_int (fun _ _ => rfl)) pa_nil)))))))
          pss_nil)
        (pss_cons (ps_if (pt_cmpR op_eq (pv 1) (pe_glob (v := .int (19)) rfl T.g_FITS ⟨_, rfl⟩) (nomark _))
          (pss_one (ps_ret (pe_call G_fits (hr.mono (by decide)) (by rfl) T.g_fits T.F_fits.kp T.b_fits .nil pass0 (pa_cons (pv 0) (pa_cons (pe_ix (r := rIxL K) ix_list (pv 2) pe_int (fun _ _ => rfl)) (pa_cons (pe_slice sl_list (pv 2) (po_some pe_int) po_none) pa_nil))))))
          pss_nil)
        (pss_one (ps_ret (pe_call G_run (hr.mono (by decide)) (by rfl) T.g_run T.F_run.kp T.b_run .nil pass0 (pa_cons (pv 0) (pa_cons (pe_slice sl_list (pv 2) (po_some pe_int) po_none) pa_nil)))))))))))), ?_⟩
    refine ⟨_, rfl, rfl, _, rfl, ?_⟩
    cases hc with
    | start n => exact absurd h13 (by decide)
    | fact k f =>
      have hk := natK_rng f
      exact absurd h13 (by omega)
    | clear _ => exact absurd h13 (by decide)
    | let_ _ _ => exact absurd h13 (by decide)
    | load _ _ => exact absurd h13 (by decide)
    | store _ _ => exact absurd h13 (by decide)
    | new _ => exact absurd h13 (by decide)
    | free _ => exact absurd h13 (by decide)
    | undo => exact absurd h13 (by decide)
    | swap => exact absurd h13 (by decide)
    | triple => exact if_true_of (eqT rfl) ⟨_, rfl, a, s, F, rfl, hL, ok, q⟩
    | safe => exact if_false_of (eqF (by decide)) ⟨_, rfl, rfl, _, rfl, if_true_of (eqT rfl) ⟨_, rfl, a, s, F, rfl, hL, ok, q⟩⟩
    | says => exact if_false_of (eqF (by decide)) ⟨_, rfl, rfl, _, rfl, if_false_of (eqF (by decide)) ⟨_, rfl, rfl, _, rfl, if_true_of (eqT rfl) ⟨_, rfl, a, s, F, rfl, hL, ok, q⟩⟩⟩
    | frame => exact if_false_of (eqF (by decide)) ⟨_, rfl, rfl, _, rfl, if_false_of (eqF (by decide)) ⟨_, rfl, rfl, _, rfl, if_false_of (eqF (by decide)) ⟨_, rfl, rfl, _, rfl, if_true_of (eqT rfl) ⟨_, rfl, a, s, F, rfl, hL, ok, q⟩⟩⟩⟩
    | can k =>
      refine if_false_of (eqF (by decide)) ⟨_, rfl, rfl, _, rfl, if_false_of (eqF (by decide)) ⟨_, rfl, rfl, _, rfl, if_false_of (eqF (by decide)) ⟨_, rfl, rfl, _, rfl, if_false_of (eqF (by decide)) ⟨_, rfl, rfl, _, rfl, if_true_of (eqT rfl) ?_⟩⟩⟩⟩
      exact ⟨_, rfl, _, rfl, b, _, 0, _, rfl, rfl, SqL.of hb, atI_nat (j := 0) rfl, a, s, F, k, rfl, hL, ok, q⟩
    | surely k x y =>
      refine if_false_of (eqF (by decide)) ⟨_, rfl, rfl, _, rfl, if_false_of (eqF (by decide)) ⟨_, rfl, rfl, _, rfl, if_false_of (eqF (by decide)) ⟨_, rfl, rfl, _, rfl, if_false_of (eqF (by decide)) ⟨_, rfl, rfl, _, rfl, if_false_of (eqF (by decide)) ⟨_, rfl, rfl, _, rfl, if_true_of (eqT rfl) ?_⟩⟩⟩⟩⟩
      exact ⟨_, rfl, _, rfl, b, _, 0, _, rfl, rfl, SqL.of hb, atI_nat (j := 0) rfl, _, rfl, b, _, 1, _, rfl, rfl, SqL.of hb, atI_nat (j := 1) rfl, _, rfl, b, _, 2, _, rfl, rfl, SqL.of hb, atI_nat (j := 2) rfl, a, s, F, k, x, y, rfl, hL, ok, q⟩
    | fits k l hl =>
      refine if_false_of (eqF (by decide)) ⟨_, rfl, rfl, _, rfl, if_false_of (eqF (by decide)) ⟨_, rfl, rfl, _, rfl, if_false_of (eqF (by decide)) ⟨_, rfl, rfl, _, rfl, if_false_of (eqF (by decide)) ⟨_, rfl, rfl, _, rfl, if_false_of (eqF (by decide)) ⟨_, rfl, rfl, _, rfl, if_false_of (eqF (by decide)) ⟨_, rfl, rfl, _, rfl, if_true_of (eqT rfl) ?_⟩⟩⟩⟩⟩⟩
      refine ⟨_, rfl, _, rfl, b, _, 0, _, rfl, rfl, SqL.of hb, atI_nat (j := 0) rfl, _, rfl, (2 : Nat), rfl, b, _, rfl, SqL.of hb, fun p hp => ?_⟩
      rw [cut_from]
      have e := same_upd (o := .lst ((((k : Int) :: (l.length : Int) :: natI l).map V.int).drop 2)) hp
      exact ⟨a, s, F, k, p, l, rfl, hL.same e, ok, by rw [NamesAt, upd_same, natV_I]; rfl, hl, q.sm e⟩
    | run l hl =>
      refine if_false_of (eqF (by decide)) ⟨_, rfl, rfl, _, rfl, if_false_of (eqF (by decide)) ⟨_, rfl, rfl, _, rfl, if_false_of (eqF (by decide)) ⟨_, rfl, rfl, _, rfl, if_false_of (eqF (by decide)) ⟨_, rfl, rfl, _, rfl, if_false_of (eqF (by decide)) ⟨_, rfl, rfl, _, rfl, if_false_of (eqF (by decide)) ⟨_, rfl, rfl, _, rfl, if_false_of (eqF (by decide)) ?_⟩⟩⟩⟩⟩⟩
      refine ⟨_, rfl, _, rfl, (1 : Nat), rfl, b, _, rfl, SqL.of hb, fun p hp => ?_⟩
      rw [cut_from]
      have e := same_upd (o := .lst ((((l.length : Int) :: natI l).map V.int).drop 1)) hp
      exact ⟨a, s, F, p, l, rfl, hL.same e, ok, by rw [NamesAt, upd_same, natV_I]; rfl, hl, q.sm e⟩
/-! ### answer -/
def PostA (C : Addr) (H : Hp) (a : Addr) (F : List Addr) (s' : Sm11.St) (r : List Int) (Q : VK) : Prop := ∀ (H' : Hp) (F' : List Addr) (p : Addr), LineIs C H' a s' F' → Keeps F H H' → Grown F H F' → (∀ b o, H b = some o → b ∉ F → b ≠ p) → H' p = some (.lst (r.map V.int)) → Q (.ref p) H'
theorem LineIs.new {C : Addr} {H : Hp} {a : Addr} {s : Sm11.St} {F : List Addr} (h : LineIs C H a s F) {l : Addr} {o : HO} (hl : H l = none) : LineIs C (upd H l o) a s F := h.same (same_upd hl)
theorem PostA.one {C : Addr} {H : Hp} {a : Addr} {F : List Addr} {s' : Sm11.St} {r : List Int} {Q : VK} (q : PostA C H a F s' r Q) {H' : Hp} {F' : List Addr} {z : Int} (hz : r = [z]) (hL : LineIs C H' a s' F') (k : Keeps F H H') (g : Grown F H F') {l : Addr} (hl : H' l = none) : Q (.ref l) (upd H' l (.lst [.int z])) := by
  subst hz
  exact q _ F' l (hL.new hl) (k.new hl) g (fun b o hb nb => ne_of_none (k b o hb nb) hl) upd_same
theorem PostA.ask {C : Addr} {H : Hp} {a : Addr} {F : List Addr} {s' : Sm11.St} {r : List Int} {Q : VK} (q : PostA C H a F s' r Q) (hL : LineIs C H a s' F) : AskQ H r Q := fun H' p e hp h => q H' F p (hL.same e) (Keeps.of e) Grown.refl (fun b o hb _ => ne_of_none hb hp) h
def sp_answer (C : Addr) : Sp := fun vs H Q _ => ∃ (a : Addr) (s : Sm11.St) (F : List Addr) (p : Nat) (b : Addr) (ns : List Int) (c : Sm11.Call), vs = [.ref a, .int p, .ref b] ∧ LineIs C H a s F ∧ Sok s ∧ ListI H b ns ∧ CallIs p ns c ∧
  PostA C H a F (Sm11.step s c).1 (Sm11.step s c).2 Q
theorem callIs_state {s : Sm11.St} {p : Nat} {ns : List Int} {c : Sm11.Call} (h : CallIs p ns c) (h13 : 13 ≤ p) : (Sm11.step s c).1 = s := by
  cases h with
  | fact k f =>
    have hk := natK_rng f
    exact absurd h13 (by omega)
  | triple => rfl
  | safe => rfl
  | says => rfl
  | frame => rfl
  | can _ => rfl
  | surely _ _ _ => rfl
  | fits _ _ _ => rfl
  | run _ _ => rfl
  | _ => exact absurd h13 (by decide)
theorem ok_answer (T : Top K mg) : FnOk P w K mg base CX0 21 T.f_answer T.fd_answer ["line", "call", "numbers"] (sp_answer T.C_Line) := by
  have G_answer_of_writing : FnOk P w K mg base CX0 4 T.f_answer_of_writing T.fd_answer_of_writing ["line", "call", "numbers"] (sp_writing T.C_Line) := ok_answer_of_writing T
  have G_undo_step : FnOk P w K mg base CX0 1 T.f_undo_step T.fd_undo_step ["line"] (sp_undo T.C_Line) := ok_undo_step T
  have G_swap_tellings : FnOk P w K mg base CX0 1 T.f_swap_tellings T.fd_swap_tellings ["line"] (sp_swap T.C_Line) := ok_swap_tellings T
  have G_answer_of_asking : FnOk P w K mg base CX0 20 T.f_answer_of_asking T.fd_answer_of_asking ["line", "call", "numbers"] (sp_asking T.C_Line) := ok_answer_of_asking T
  refine T.F_answer.ok sc_answer (fun vs H Q E h => ?_) (fun cdv A outer s H vs Q E hr h => ?_)
  · obtain ⟨_, _, _, _, _, _, _, rfl, _⟩ := h
    rfl
  · obtain ⟨a, s, F, p, b, ns, c, rfl, hL, ok, hb, hc, q⟩ := h
    refine ⟨_, (pss_cons (ps_if (pt_cmpR op_le (pv 1) (pe_glob (v := .int (10)) rfl T.g_FREE ⟨_, rfl⟩) (nomark _))
          (pss_one (ps_ret (pe_lst (pa_cons (pe_call G_answer_of_writing (hr.mono (by decide)) (by rfl) T.g_answer_of_writing T.F_answer_of_writing.kp T.b_answer_of_writing .nil pass0 (pa_cons (pv 0) (pa_cons (pv 1) (pa_cons (pv 2) pa_nil)))) pa_nil))))
          pss_nil)
        (pss_cons (ps_if (pt_cmpR op_eq (pv 1) (pe_glob (v := .int (11)) rfl T.g_UNDO ⟨_, rfl⟩) (nomark _))
          (pss_one (ps_ret (pe_lst (pa_cons (pe_call G_undo_step (hr.mono (by decide)) (by rfl) T.g_undo_step T.F_undo_step.kp T.b_undo_step .nil pass0 (pa_cons (pv 0) pa_nil)) pa_nil))))
          pss_nil)
        (pss_cons (ps_if (pt_cmpR op_eq (pv 1) (pe_glob (v := .int (12)) rfl T.g_SWAP ⟨_, rfl⟩) (nomark _))
          (pss_one (ps_ret (pe_call G_swap_tellings (hr.mono (by decide)) (by rfl) T.g_swap_tellings T.F_swap_tellings.kp T.b_swap_tellings .nil pass0 (pa_cons (pv 0) pa_nil))))
          pss_nil)
        (pss_one (ps_ret (pe_call G_answer_of_asking (hr.mono (by decide)) (by rfl) T.g_answer_of_asking T.F_answer_of_asking.kp T.b_answer_of_asking .nil pass0 (pa_cons (pv 0) (pa_cons (pv 1) (pa_cons (pv 2) pa_nil))))))))), ?_⟩
    refine ⟨_, rfl, _, _, rfl, rfl, _, rfl, ?_⟩
    by_cases h10 : p ≤ 10
    · refine if_true_of (decide_eq_true (by omega)) ⟨_, rfl, _, rfl, _, rfl, a, s, F, p, b, ns, c, rfl, hL, ok, hb, hc, h10, fun H' F' z hz hL' k g => ⟨(by show 1 ≤ sizeLine; decide), fun l hl => ?_⟩⟩
      exact q.one hz hL' k g hl
    refine if_false_of (decide_eq_false (by omega)) ⟨_, rfl, rfl, _, rfl, ?_⟩
    by_cases h11 : p = 11
    · subst h11
      generalize hp : (11 : Nat) = p11 at hc
      cases hc with
      | undo =>
        refine if_true_of (eqT rfl) ⟨_, rfl, a, s, F, rfl, hL, fun H' F' z hz hL' k g => ⟨(by show 1 ≤ sizeLine; decide), fun l hl => ?_⟩⟩
        exact q.one hz hL' k g hl
      | fact k f =>
        have hk := natK_rng f
        exact absurd hp (by omega)
      | _ => exact absurd hp (by decide)
    refine if_false_of (eqF (by omega)) ⟨_, rfl, rfl, _, rfl, ?_⟩
    by_cases h12 : p = 12
    · subst h12
      generalize hp : (12 : Nat) = p12 at hc
      cases hc with
      | swap => exact if_true_of (eqT rfl) ⟨_, rfl, a, s, F, rfl, hL, fun H' F' l hL' k g hl h => q H' F' l hL' k g (fun b o hb _ => ne_of_none hb hl) h⟩
      | fact k f =>
        have hk := natK_rng f
        exact absurd hp (by omega)
      | _ => exact absurd hp (by decide)
    refine if_false_of (eqF (by omega)) ?_
    rw [callIs_state hc (by omega)] at q
    exact ⟨_, rfl, _, rfl, _, rfl, a, s, F, p, b, ns, c, rfl, hL, ok, hb, hc, by omega, q.ask hL⟩
end Ph
namespace Ph
open PySem PySem.Spec PyProof.Rows L2
variable {P : Program} {w : World} {K : PySem.W.Frag} {mg : Str → Option Value} {base : Heap}
/-! ### how long a call is -/
def nb (p : Nat) : Nat := [1, 3, 3, 3, 3, 1, 2, 2, 2, 1, 1, 0, 0, 0, 0, 0, 0, 1, 3, 2, 1].getD p 0
def nbV : List V := [V.int 1, V.int 3, V.int 3, V.int 3, V.int 3, V.int 1, V.int 2, V.int 2, V.int 2, V.int 1, V.int 1, V.int 0, V.int 0, V.int 0, V.int 0, V.int 0, V.int 0, V.int 1, V.int 3, V.int 2, V.int 1]
theorem nb_at : ∀ {p : Nat}, p ≤ 20 → nbV[p]? = some (.int ((nb p : Nat) : Int))
  | 0, _ => rfl
  | 1, _ => rfl
  | 2, _ => rfl
  | 3, _ => rfl
  | 4, _ => rfl
  | 5, _ => rfl
  | 6, _ => rfl
  | 7, _ => rfl
  | 8, _ => rfl
  | 9, _ => rfl
  | 10, _ => rfl
  | 11, _ => rfl
  | 12, _ => rfl
  | 13, _ => rfl
  | 14, _ => rfl
  | 15, _ => rfl
  | 16, _ => rfl
  | 17, _ => rfl
  | 18, _ => rfl
  | 19, _ => rfl
  | 20, _ => rfl
  | n + 21, h => absurd h (by omega)
theorem callEnd {p : Nat} {ns : List Int} {c : Sm11.Call} (h : CallIs p ns c) : p ≤ 20 ∧ ((p < 19 ∧ ns.length = nb p) ∨ (19 ≤ p ∧ ∃ m : Nat, ns[nb p - 1]? = some (m : Int) ∧ 1 ≤ nb p ∧ ns.length = nb p + m)) := by
  cases h with
  | fact k f => cases f <;> exact ⟨by simp [natK], .inl ⟨by simp [natK], rfl⟩⟩
  | fits q l _ => exact ⟨by decide, .inr ⟨by decide, l.length, rfl, by decide, by
      show (natI l).length + 1 + 1 = 2 + l.length
      rw [natI, List.length_map]
      omega⟩⟩
  | run l _ => exact ⟨by decide, .inr ⟨by decide, l.length, rfl, by decide, by
      show (natI l).length + 1 = 1 + l.length
      rw [natI, List.length_map]
      omega⟩⟩
  | _ => exact ⟨by decide, .inl ⟨by decide, rfl⟩⟩
theorem sqlS {K : PySem.W.Frag} {H H' : Hp} {a : Addr} {xs : List V} (h : SqL K H a xs) (e : Same H H') : SqL K H' a xs := by
  rcases h with (h | ⟨o, h⟩) | h
  · exact .inl (.inl (e _ _ h))
  · exact .inl (.inr ⟨o, e _ _ h⟩)
  · exact .inr h
theorem drop_at {l r : List Int} {i : Nat} {z : Int} (h : l.drop i = z :: r) : l[i]? = some z ∧ i < l.length ∧ l.drop (i + 1) = r := by
  have h1 : (l.drop i)[0]? = some z := by rw [h]; rfl
  rw [List.getElem?_drop, Nat.add_zero] at h1
  refine ⟨h1, (List.getElem?_eq_some_iff.mp h1).1, ?_⟩
  rw [← List.drop_drop, h]
  rfl
def sp_end_of_call (K : PySem.W.Frag) : Sp := fun vs H Q _ => ∃ (b : Addr) (l : List Int) (i p : Nat) (ns t : List Int) (c : Sm11.Call), vs = [.ref b, .int i] ∧ SqL K H b (l.map V.int) ∧ l.drop i = (p : Int) :: (ns ++ t) ∧ CallIs p ns c ∧ ∀ H', Same H H' → Q (.int ((i + 1 + ns.length : Nat) : Int)) H'
theorem in_2 (p : Nat) : inV (V.int (p : Int)) [.int 19, .int 20] = decide (p = 19 ∨ p = 20) := by
  rw [Bool.eq_iff_iff]
  simp [inV, eqV]
  omega
theorem ok_end_of_call (T : Top K mg) : FnOk P w K mg base CX0 1 T.f_end_of_call T.fd_end_of_call ["calls", "at"] (sp_end_of_call K) := by
  refine T.F_end_of_call.ok sc_end_of_call (fun vs H Q E h => ?_) (fun cdv A outer s H vs Q E hr h => ?_)
  · obtain ⟨_, _, _, _, _, _, _, rfl, _⟩ := h
    rfl
  · obtain ⟨b, l, i, p, ns, t, c, rfl, hb, hd, hc, q⟩ := h
    refine ⟨_, (pss_cons (ps_set (i := 2) sc_end_of_call.nd rfl (Or.inl rfl) (pe_op op_add (pe_op op_add (pv 1) pe_int) (pe_ix (r := rIxT K) ix_tup (pe_glob (v := .ref T.a_NUMBERS_BEHIND) rfl T.g_NUMBERS_BEHIND rfl) (pe_ix (r := rIxL K) ix_list (pv 0) (pv 1) (fun _ _ => rfl)) (fun _ _ => rfl))))
        (pss_cons (ps_if (pt_cmpR op_in_seq (pe_ix (r := rIxL K) ix_list (pv 0) (pv 1) (fun _ _ => rfl)) (pe_tup (pa_cons (pe_glob (v := .int (19)) rfl T.g_FITS ⟨_, rfl⟩) (pa_cons (pe_glob (v := .int (20)) rfl T.g_RUN ⟨_, rfl⟩) pa_nil))) (by rfl))
          (pss_one (ps_ret (pe_op op_add (pv 2) (pe_ix (r := rIxL K) ix_list (pv 0) (pe_op op_sub (pv 2) pe_int) (fun _ _ => rfl)))))
          pss_nil)
        (pss_one (ps_ret (pv 2))))), ?_⟩
    obtain ⟨h1, h2, h3⟩ := drop_at hd
    obtain ⟨p20, hend⟩ := callEnd hc
    have hat : (l.map V.int)[i]? = some (.int (p : Int)) := by
      rw [List.getElem?_map, h1]
      rfl
    refine ⟨_, rfl, _, _, rfl, rfl, _, rfl, _, rfl, b, _, (i : Int), _, rfl, rfl, hb, atI_nat hat, T.a_NUMBERS_BEHIND, _, (p : Int), _, rfl, rfl, T.q_NUMBERS_BEHIND H, atI_nat (nb_at p20), _, _, rfl, rfl, ?_⟩
    refine ⟨_, rfl, _, rfl, b, _, (i : Int), _, rfl, rfl, hb, atI_nat hat, (by show 2 ≤ sizeLine; decide), fun tt htt => ?_⟩
    have e := same_upd (o := .tup [.int 19, .int 20]) htt
    have h9 : (upd H tt (.tup [.int 19, .int 20])) tt = some (.tup [.int 19, .int 20]) := upd_same
    generalize upd H tt (.tup [.int 19, .int 20]) = H1 at e h9 ⊢
    refine ⟨tt, _, rfl, .inr (SqT.of h9), rfl, rfl, _, rfl, ?_⟩
    rw [in_2]
    rcases hend with ⟨h19, hl⟩ | ⟨h19, m, hm, hn1, hl⟩
    · refine if_false_of (decide_eq_false (by omega)) ⟨_, rfl, ?_⟩
      have := q H1 e
      rw [hl] at this
      exact this
    · have hmm : (l.map V.int)[i + nb p]? = some (.int (m : Int)) := by
        have h4 : (l.drop (i + 1))[nb p - 1]? = some (m : Int) := by
          rw [h3, List.getElem?_append_left (by omega)]
          exact hm
        rw [List.getElem?_drop, show i + 1 + (nb p - 1) = i + nb p by omega] at h4
        rw [List.getElem?_map, h4]
        rfl
      refine if_true_of (decide_eq_true (by omega)) ⟨_, rfl, _, rfl, _, rfl, _, _, rfl, rfl, b, _, _, .int (m : Int), rfl, rfl, sqlS hb e, ?_, _, _, rfl, rfl, ?_⟩
      · rw [show ((i : Int) + 1 + ((nb p : Nat) : Int) - 1) = ((i + nb p : Nat) : Int) by omega]
        exact atI_nat hmm
      · have := q H1 e
        rw [hl, show i + 1 + (nb p + m) = i + 1 + nb p + m by omega] at this
        exact this
/-! ### calls as they come in -/
theorem call_k0 {p : Int} {r : List Int} {n : Nat} {c : List (List Int)} {t : List Int} (hs : PySm11.shape p = some (n, 0)) (h : PyFlat.call PySm11.shape (p :: r) = some (c, t)) : n ≤ r.length ∧ c = [p :: r.take n] ∧ t = r.drop n := by
  unfold PyFlat.call at h
  dsimp only at h
  rw [hs] at h
  dsimp only at h
  by_cases hl : r.length < n
  · rw [if_pos hl] at h
    cases h
  · rw [if_neg hl] at h
    unfold PyFlat.rows at h
    injection h with h
    injection h with h1 h2
    exact ⟨by omega, h1.symm, h2.symm⟩
theorem call_k1 {p : Int} {r : List Int} {n : Nat} {c : List (List Int)} {t : List Int} (hs : PySm11.shape p = some (n, 1)) (h : PyFlat.call PySm11.shape (p :: r) = some (c, t)) : n ≤ r.length ∧ ∃ m r', r.drop n = m :: r' ∧ 0 ≤ m ∧ m.toNat ≤ r'.length ∧ c = [p :: r.take n, r'.take m.toNat] ∧ t = r'.drop m.toNat := by
  unfold PyFlat.call at h
  dsimp only at h
  rw [hs] at h
  dsimp only at h
  by_cases hl : r.length < n
  · rw [if_pos hl] at h
    cases h
  · rw [if_neg hl] at h
    refine ⟨by omega, ?_⟩
    unfold PyFlat.rows at h
    cases hd : r.drop n with
    | nil =>
      rw [hd] at h
      cases h
    | cons m r' =>
      rw [hd] at h
      unfold PyFlat.row at h
      dsimp only at h
      by_cases hm : 0 ≤ m ∧ m.toNat ≤ r'.length
      · rw [if_pos hm] at h
        unfold PyFlat.rows at h
        injection h with h
        injection h with h1 h2
        exact ⟨m, r', rfl, hm.1, hm.2, h1.symm, h2.symm⟩
      · rw [if_neg hm] at h
        cases h
theorem shape_rng {z : Int} {k : Nat × Nat} (h : PySm11.shape z = some k) : 0 ≤ z ∧ z ≤ 20 := by
  apply Classical.byContradiction
  intro hn
  unfold PySm11.shape at h
  rw [if_neg (by omega), if_neg (by omega), if_neg (by omega), if_neg (by omega), if_neg (by omega), if_neg (by omega), if_neg (by omega), if_neg (by omega), if_neg (by omega), if_neg (by omega), if_neg (by omega), if_neg (by omega), if_neg (by omega), if_neg (by omega), if_neg (by omega), if_neg (by omega), if_neg (by omega), if_neg (by omega), if_neg (by omega), if_neg (by omega), if_neg (by omega)] at h
  cases h
theorem nat1 {z : Int} (h : Sm11Neutral.nat z = true) : ∃ n : Nat, z = (n : Int) := by
  unfold Sm11Neutral.nat at h
  rw [Bool.and_eq_true, decide_eq_true_iff] at h
  exact ⟨z.toNat, by omega⟩
theorem nats1 : ∀ {l : List Int}, Sm11Neutral.nats l = true → ∃ m : List Nat, l = natI m ∧ l.map Int.toNat = m
  | [], _ => ⟨[], rfl, rfl⟩
  | z :: l, h => by
    unfold Sm11Neutral.nats at h
    rw [List.all_cons, Bool.and_eq_true] at h
    obtain ⟨n, rfl⟩ := nat1 h.1
    obtain ⟨m, rfl, e⟩ := nats1 (l := l) h.2
    exact ⟨n :: m, rfl, by rw [List.map_cons, e]; rfl⟩
theorem nats_two {x y : Int} (h : Sm11Neutral.nats [x, y] = true) : Sm11Neutral.nat x = true ∧ Sm11Neutral.nat y = true := by
  unfold Sm11Neutral.nats at h
  simpa using h
theorem nats_three {x y z : Int} (h : Sm11Neutral.nats [x, y, z] = true) : Sm11Neutral.nat x = true ∧ Sm11Neutral.nat y = true ∧ Sm11Neutral.nat z = true := by
  unfold Sm11Neutral.nats at h
  simpa using h
theorem some_if {b : Bool} {x : Sm11.Call} (h : (if b = true then some x else none).isSome = true) : b = true := by
  cases b with
  | true => rfl
  | false => cases h
theorem decode {r0 t : List Int} {c : List (List Int)} (h : PyFlat.call PySm11.shape r0 = some (c, t)) (hb : PyInside.call PySm11.bound c = true) (ha : Sm11Neutral.asked1 ((PySm11.whole c).headD []) = true) :
    ∃ (p : Nat) (ns : List Int) (x : Sm11.Call), r0 = (p : Int) :: (ns ++ t) ∧ CallIs p ns x ∧ Sm11Neutral.callOf ((PySm11.whole c).headD []) = some x := by
  cases r0 with
  | nil => cases h
  | cons z r =>
    have hz : 0 ≤ z ∧ z ≤ 20 := by
      cases hs : PySm11.shape z with
      | none =>
        unfold PyFlat.call at h
        dsimp only at h
        rw [hs] at h
        cases h
      | some k => exact shape_rng hs
    obtain rfl | rfl | rfl | rfl | rfl | rfl | rfl | rfl | rfl | rfl | rfl | rfl | rfl | rfl | rfl | rfl | rfl | rfl | rfl | rfl | rfl : z = 0 ∨ z = 1 ∨ z = 2 ∨ z = 3 ∨ z = 4 ∨ z = 5 ∨ z = 6 ∨ z = 7 ∨ z = 8 ∨ z = 9 ∨ z = 10 ∨ z = 11 ∨ z = 12 ∨ z = 13 ∨ z = 14 ∨ z = 15 ∨ z = 16 ∨ z = 17 ∨ z = 18 ∨ z = 19 ∨ z = 20 := by omega
    · obtain ⟨h1, rfl, rfl⟩ := call_k0 (n := 1) rfl h
      match r, h1 with
      | x0 :: r', _ =>
        have e : Sm11Neutral.callOf ((PySm11.whole [0 :: (x0 :: r').take 1]).headD []) = if Sm11Neutral.nat x0 = true then some (.start x0.toNat) else none := rfl
        unfold Sm11Neutral.asked1 at ha
        rw [e] at ha ⊢
        have hn := some_if ha
        rw [if_pos hn]
        obtain ⟨n, rfl⟩ := nat1 hn
        exact ⟨0, [(n : Int)], _, rfl, .start n, rfl⟩
    · obtain ⟨h1, rfl, rfl⟩ := call_k0 (n := 3) rfl h
      match r, h1 with
      | x0 :: x1 :: x2 :: r', _ =>
        have e : Sm11Neutral.callOf ((PySm11.whole [1 :: (x0 :: x1 :: x2 :: r').take 3]).headD []) = if Sm11Neutral.nats [x0, x1, x2] = true then some (.fact x0.toNat (.same x1.toNat x2.toNat)) else none := rfl
        unfold Sm11Neutral.asked1 at ha
        rw [e] at ha ⊢
        have hn := some_if ha
        rw [if_pos hn]
        obtain ⟨n0, n1, n2⟩ := nats_three hn
        obtain ⟨n, rfl⟩ := nat1 n0
        obtain ⟨m, rfl⟩ := nat1 n1
        obtain ⟨k, rfl⟩ := nat1 n2
        exact ⟨1, [(n : Int), (m : Int), (k : Int)], _, rfl, .fact n (.same m k), rfl⟩
      | [_, _], h1 => exact absurd h1 (by show ¬ 3 ≤ 2; omega)
      | [_], h1 => exact absurd h1 (by show ¬ 3 ≤ 1; omega)
      | [], h1 => exact absurd h1 (by show ¬ 3 ≤ 0; omega)
    · obtain ⟨h1, rfl, rfl⟩ := call_k0 (n := 3) rfl h
      match r, h1 with
      | x0 :: x1 :: x2 :: r', _ =>
        have e : Sm11Neutral.callOf ((PySm11.whole [2 :: (x0 :: x1 :: x2 :: r').take 3]).headD []) = if Sm11Neutral.nats [x0, x1, x2] = true then some (.fact x0.toNat (.differ x1.toNat x2.toNat)) else none := rfl
        unfold Sm11Neutral.asked1 at ha
        rw [e] at ha ⊢
        have hn := some_if ha
        rw [if_pos hn]
        obtain ⟨n0, n1, n2⟩ := nats_three hn
        obtain ⟨n, rfl⟩ := nat1 n0
        obtain ⟨m, rfl⟩ := nat1 n1
        obtain ⟨k, rfl⟩ := nat1 n2
        exact ⟨2, [(n : Int), (m : Int), (k : Int)], _, rfl, .fact n (.differ m k), rfl⟩
      | [_, _], h1 => exact absurd h1 (by show ¬ 3 ≤ 2; omega)
      | [_], h1 => exact absurd h1 (by show ¬ 3 ≤ 1; omega)
      | [], h1 => exact absurd h1 (by show ¬ 3 ≤ 0; omega)
    · obtain ⟨h1, rfl, rfl⟩ := call_k0 (n := 3) rfl h
      match r, h1 with
      | x0 :: x1 :: x2 :: r', _ =>
        have e : Sm11Neutral.callOf ((PySm11.whole [3 :: (x0 :: x1 :: x2 :: r').take 3]).headD []) = if Sm11Neutral.nats [x0, x1, x2] = true then some (.fact x0.toNat (.cell x1.toNat x2.toNat)) else none := rfl
        unfold Sm11Neutral.asked1 at ha
        rw [e] at ha ⊢
        have hn := some_if ha
        rw [if_pos hn]
        obtain ⟨n0, n1, n2⟩ := nats_three hn
        obtain ⟨n, rfl⟩ := nat1 n0
        obtain ⟨m, rfl⟩ := nat1 n1
        obtain ⟨k, rfl⟩ := nat1 n2
        exact ⟨3, [(n : Int), (m : Int), (k : Int)], _, rfl, .fact n (.cell m k), rfl⟩
      | [_, _], h1 => exact absurd h1 (by show ¬ 3 ≤ 2; omega)
      | [_], h1 => exact absurd h1 (by show ¬ 3 ≤ 1; omega)
      | [], h1 => exact absurd h1 (by show ¬ 3 ≤ 0; omega)
    · obtain ⟨h1, rfl, rfl⟩ := call_k0 (n := 3) rfl h
      match r, h1 with
      | x0 :: x1 :: x2 :: r', _ =>
        have e : Sm11Neutral.callOf ((PySm11.whole [4 :: (x0 :: x1 :: x2 :: r').take 3]).headD []) = if Sm11Neutral.nats [x0, x1, x2] = true then some (.fact x0.toNat (.chain x1.toNat x2.toNat)) else none := rfl
        unfold Sm11Neutral.asked1 at ha
        rw [e] at ha ⊢
        have hn := some_if ha
        rw [if_pos hn]
        obtain ⟨n0, n1, n2⟩ := nats_three hn
        obtain ⟨n, rfl⟩ := nat1 n0
        obtain ⟨m, rfl⟩ := nat1 n1
        obtain ⟨k, rfl⟩ := nat1 n2
        exact ⟨4, [(n : Int), (m : Int), (k : Int)], _, rfl, .fact n (.chain m k), rfl⟩
      | [_, _], h1 => exact absurd h1 (by show ¬ 3 ≤ 2; omega)
      | [_], h1 => exact absurd h1 (by show ¬ 3 ≤ 1; omega)
      | [], h1 => exact absurd h1 (by show ¬ 3 ≤ 0; omega)
    · obtain ⟨h1, rfl, rfl⟩ := call_k0 (n := 1) rfl h
      match r, h1 with
      | x0 :: r', _ =>
        have e : Sm11Neutral.callOf ((PySm11.whole [5 :: (x0 :: r').take 1]).headD []) = if Sm11Neutral.nat x0 = true then some (.clear x0.toNat) else none := rfl
        unfold Sm11Neutral.asked1 at ha
        rw [e] at ha ⊢
        have hn := some_if ha
        rw [if_pos hn]
        obtain ⟨n, rfl⟩ := nat1 hn
        exact ⟨5, [(n : Int)], _, rfl, .clear n, rfl⟩
    · obtain ⟨h1, rfl, rfl⟩ := call_k0 (n := 2) rfl h
      match r, h1 with
      | x0 :: x1 :: r', _ =>
        have e : Sm11Neutral.callOf ((PySm11.whole [6 :: (x0 :: x1 :: r').take 2]).headD []) = if Sm11Neutral.nats [x0, x1] = true then some (.step (.let_ x0.toNat x1.toNat)) else none := rfl
        unfold Sm11Neutral.asked1 at ha
        rw [e] at ha ⊢
        have hn := some_if ha
        rw [if_pos hn]
        obtain ⟨n0, n1⟩ := nats_two hn
        obtain ⟨n, rfl⟩ := nat1 n0
        obtain ⟨m, rfl⟩ := nat1 n1
        exact ⟨6, [(n : Int), (m : Int)], _, rfl, .let_ n m, rfl⟩
      | [_], h1 => exact absurd h1 (by show ¬ 2 ≤ 1; omega)
      | [], h1 => exact absurd h1 (by show ¬ 2 ≤ 0; omega)
    · obtain ⟨h1, rfl, rfl⟩ := call_k0 (n := 2) rfl h
      match r, h1 with
      | x0 :: x1 :: r', _ =>
        have e : Sm11Neutral.callOf ((PySm11.whole [7 :: (x0 :: x1 :: r').take 2]).headD []) = if Sm11Neutral.nats [x0, x1] = true then some (.step (.load x0.toNat x1.toNat)) else none := rfl
        unfold Sm11Neutral.asked1 at ha
        rw [e] at ha ⊢
        have hn := some_if ha
        rw [if_pos hn]
        obtain ⟨n0, n1⟩ := nats_two hn
        obtain ⟨n, rfl⟩ := nat1 n0
        obtain ⟨m, rfl⟩ := nat1 n1
        exact ⟨7, [(n : Int), (m : Int)], _, rfl, .load n m, rfl⟩
      | [_], h1 => exact absurd h1 (by show ¬ 2 ≤ 1; omega)
      | [], h1 => exact absurd h1 (by show ¬ 2 ≤ 0; omega)
    · obtain ⟨h1, rfl, rfl⟩ := call_k0 (n := 2) rfl h
      match r, h1 with
      | x0 :: x1 :: r', _ =>
        have e : Sm11Neutral.callOf ((PySm11.whole [8 :: (x0 :: x1 :: r').take 2]).headD []) = if Sm11Neutral.nats [x0, x1] = true then some (.step (.store x0.toNat x1.toNat)) else none := rfl
        unfold Sm11Neutral.asked1 at ha
        rw [e] at ha ⊢
        have hn := some_if ha
        rw [if_pos hn]
        obtain ⟨n0, n1⟩ := nats_two hn
        obtain ⟨n, rfl⟩ := nat1 n0
        obtain ⟨m, rfl⟩ := nat1 n1
        exact ⟨8, [(n : Int), (m : Int)], _, rfl, .store n m, rfl⟩
      | [_], h1 => exact absurd h1 (by show ¬ 2 ≤ 1; omega)
      | [], h1 => exact absurd h1 (by show ¬ 2 ≤ 0; omega)
    · obtain ⟨h1, rfl, rfl⟩ := call_k0 (n := 1) rfl h
      match r, h1 with
      | x0 :: r', _ =>
        have e : Sm11Neutral.callOf ((PySm11.whole [9 :: (x0 :: r').take 1]).headD []) = if Sm11Neutral.nat x0 = true then some (.step (.new x0.toNat)) else none := rfl
        unfold Sm11Neutral.asked1 at ha
        rw [e] at ha ⊢
        have hn := some_if ha
        rw [if_pos hn]
        obtain ⟨n, rfl⟩ := nat1 hn
        exact ⟨9, [(n : Int)], _, rfl, .new n, rfl⟩
    · obtain ⟨h1, rfl, rfl⟩ := call_k0 (n := 1) rfl h
      match r, h1 with
      | x0 :: r', _ =>
        have e : Sm11Neutral.callOf ((PySm11.whole [10 :: (x0 :: r').take 1]).headD []) = if Sm11Neutral.nat x0 = true then some (.step (.free x0.toNat)) else none := rfl
        unfold Sm11Neutral.asked1 at ha
        rw [e] at ha ⊢
        have hn := some_if ha
        rw [if_pos hn]
        obtain ⟨n, rfl⟩ := nat1 hn
        exact ⟨10, [(n : Int)], _, rfl, .free n, rfl⟩
    · obtain ⟨h1, rfl, rfl⟩ := call_k0 (n := 0) rfl h
      exact ⟨11, [], _, rfl, .undo, rfl⟩
    · obtain ⟨h1, rfl, rfl⟩ := call_k0 (n := 0) rfl h
      exact ⟨12, [], _, rfl, .swap, rfl⟩
    · obtain ⟨h1, rfl, rfl⟩ := call_k0 (n := 0) rfl h
      exact ⟨13, [], _, rfl, .triple, rfl⟩
    · obtain ⟨h1, rfl, rfl⟩ := call_k0 (n := 0) rfl h
      exact ⟨14, [], _, rfl, .safe, rfl⟩
    · obtain ⟨h1, rfl, rfl⟩ := call_k0 (n := 0) rfl h
      exact ⟨15, [], _, rfl, .says, rfl⟩
    · obtain ⟨h1, rfl, rfl⟩ := call_k0 (n := 0) rfl h
      exact ⟨16, [], _, rfl, .frame, rfl⟩
    · obtain ⟨h1, rfl, rfl⟩ := call_k0 (n := 1) rfl h
      match r, h1 with
      | x0 :: r', _ =>
        have e : Sm11Neutral.callOf ((PySm11.whole [17 :: (x0 :: r').take 1]).headD []) = if Sm11Neutral.nat x0 = true then some (.can x0.toNat) else none := rfl
        unfold Sm11Neutral.asked1 at ha
        rw [e] at ha ⊢
        have hn := some_if ha
        rw [if_pos hn]
        obtain ⟨n, rfl⟩ := nat1 hn
        exact ⟨17, [(n : Int)], _, rfl, .can n, rfl⟩
    · obtain ⟨h1, rfl, rfl⟩ := call_k0 (n := 3) rfl h
      match r, h1 with
      | x0 :: x1 :: x2 :: r', _ =>
        have e : Sm11Neutral.callOf ((PySm11.whole [18 :: (x0 :: x1 :: x2 :: r').take 3]).headD []) = if Sm11Neutral.nats [x0, x1, x2] = true then some (.surely x0.toNat x1.toNat x2.toNat) else none := rfl
        unfold Sm11Neutral.asked1 at ha
        rw [e] at ha ⊢
        have hn := some_if ha
        rw [if_pos hn]
        obtain ⟨n0, n1, n2⟩ := nats_three hn
        obtain ⟨n, rfl⟩ := nat1 n0
        obtain ⟨m, rfl⟩ := nat1 n1
        obtain ⟨k, rfl⟩ := nat1 n2
        exact ⟨18, [(n : Int), (m : Int), (k : Int)], _, rfl, .surely n m k, rfl⟩
      | [_, _], h1 => exact absurd h1 (by show ¬ 3 ≤ 2; omega)
      | [_], h1 => exact absurd h1 (by show ¬ 3 ≤ 1; omega)
      | [], h1 => exact absurd h1 (by show ¬ 3 ≤ 0; omega)
    · obtain ⟨h1, m, r', hd, hm0, hml, rfl, rfl⟩ := call_k1 (n := 1) rfl h
      match r, h1 with
      | x0 :: r2, _ =>
        have hr2 : r2 = m :: r' := hd
        subst hr2
        have e : Sm11Neutral.callOf ((PySm11.whole [19 :: (x0 :: m :: r').take 1, r'.take m.toNat]).headD []) = if Sm11Neutral.nat x0 = true ∧ Sm11Neutral.nats (r'.take m.toNat) = true then some (.fits x0.toNat ((r'.take m.toNat).map Int.toNat)) else none := rfl
        unfold Sm11Neutral.asked1 at ha
        rw [e] at ha ⊢
        by_cases hn : Sm11Neutral.nat x0 = true ∧ Sm11Neutral.nats (r'.take m.toNat) = true
        · rw [if_pos hn]
          have hb2 : (PyInside.each [(0, 4294967295)] [x0] && (decide (0 ≤ (r'.take m.toNat).length) && decide ((r'.take m.toNat).length ≤ 700) && (r'.take m.toNat).all (PyInside.within 0 4294967295) && PyInside.lists [] [])) = true := hb
          rw [Bool.and_eq_true, Bool.and_eq_true, Bool.and_eq_true, Bool.and_eq_true, decide_eq_true_iff, decide_eq_true_iff] at hb2
          have h700 := hb2.2.1.1.2
          have hlen : (r'.take m.toNat).length = m.toNat := by rw [List.length_take]; omega
          obtain ⟨n, rfl⟩ := nat1 hn.1
          obtain ⟨l, hl, hl2⟩ := nats1 hn.2
          rw [hl2]
          have hll : l.length = m.toNat := by rw [← hlen, hl, natI, List.length_map]
          refine ⟨19, (n : Int) :: (l.length : Int) :: natI l, _, ?_, .fits n l (by omega), rfl⟩
          have hmm : (l.length : Int) = m := by omega
          rw [hmm, ← hl]
          show (19 : Int) :: (n : Int) :: m :: r' = 19 :: (n : Int) :: m :: (r'.take m.toNat ++ r'.drop m.toNat)
          rw [List.take_append_drop]
        · rw [if_neg hn] at ha
          cases ha
    · obtain ⟨h1, m, r', hd, hm0, hml, rfl, rfl⟩ := call_k1 (n := 0) rfl h
      have hr2 : r = m :: r' := hd
      subst hr2
      have e : Sm11Neutral.callOf ((PySm11.whole [20 :: (m :: r').take 0, r'.take m.toNat]).headD []) = if Sm11Neutral.nats (r'.take m.toNat) = true then some (.run ((r'.take m.toNat).map Int.toNat)) else none := rfl
      unfold Sm11Neutral.asked1 at ha
      rw [e] at ha ⊢
      have hn := some_if ha
      rw [if_pos hn]
      have hb2 : (PyInside.each [] [] && (decide (0 ≤ (r'.take m.toNat).length) && decide ((r'.take m.toNat).length ≤ 700) && (r'.take m.toNat).all (PyInside.within 0 4294967295) && PyInside.lists [] [])) = true := hb
      rw [Bool.and_eq_true, Bool.and_eq_true, Bool.and_eq_true, Bool.and_eq_true, decide_eq_true_iff, decide_eq_true_iff] at hb2
      have h700 := hb2.2.1.1.2
      have hlen : (r'.take m.toNat).length = m.toNat := by rw [List.length_take]; omega
      obtain ⟨l, hl, hl2⟩ := nats1 hn
      rw [hl2]
      have hll : l.length = m.toNat := by rw [← hlen, hl, natI, List.length_map]
      refine ⟨20, (l.length : Int) :: natI l, _, ?_, .run l (by omega), rfl⟩
      have hmm : (l.length : Int) = m := by omega
      rw [hmm, ← hl]
      show (20 : Int) :: m :: r' = 20 :: m :: (r'.take m.toNat ++ r'.drop m.toNat)
      rw [List.take_append_drop]
end Ph
namespace Ph
open PySem PySem.Spec PyProof.Rows L2
variable {P : Program} {w : World} {K : PySem.W.Frag} {mg : Str → Option Value} {base : Heap}
/-! ### answers -/
def playN (s : Sm11.St) (raw : List (List (List Int))) : List Int := PyFlat.told (PyFlat.played (fun s c => Sm11Neutral.step s (c.headD [])) s (raw.map PySm11.whole))
theorem play_nil (s : Sm11.St) : playN s [] = [] := rfl
theorem play_cons {s : Sm11.St} {c : List (List Int)} {raw : List (List (List Int))} {x : Sm11.Call} (h : Sm11Neutral.callOf ((PySm11.whole c).headD []) = some x) : playN s (c :: raw) = (((Sm11.step s x).2.length : Int) :: (Sm11.step s x).2) ++ playN (Sm11.step s x).1 raw := by
  have e : Sm11Neutral.step s ((PySm11.whole c).headD []) = ((Sm11.step s x).1, (Sm11.step s x).2) := by
    unfold Sm11Neutral.step
    rw [h]
  unfold playN
  rw [List.map_cons]
  show PyFlat.told ((Sm11Neutral.step s ((PySm11.whole c).headD [])).2 :: PyFlat.played _ (Sm11Neutral.step s ((PySm11.whole c).headD [])).1 (raw.map PySm11.whole)) = _
  rw [e]
  rfl
def rawOk (raw : List (List (List Int))) : Prop := ∀ c ∈ raw, PyInside.call PySm11.bound c = true ∧ Sm11Neutral.asked1 ((PySm11.whole c).headD []) = true
theorem asked_raw {l : List Int} (h : PySm11.answers_asked l = true) : ∃ raw, PyFlat.calls PySm11.shape l.length l = some raw ∧ rawOk raw ∧ PySm11.answers l = playN Sm11.init raw ∧ (PySm11.answers l).length ≤ 10000000 := by
  unfold PySm11.answers_asked at h
  cases hc : PyFlat.calls PySm11.shape l.length l with
  | none =>
    rw [hc] at h
    cases h
  | some raw =>
    rw [hc] at h
    dsimp only at h
    rw [Bool.and_eq_true, Bool.and_eq_true, Bool.and_eq_true, Bool.and_eq_true] at h
    obtain ⟨⟨⟨_, h2⟩, h3⟩, h4⟩ := h
    refine ⟨raw, rfl, fun c hcm => ⟨?_, ?_⟩, ?_, ?_⟩
    · unfold PyInside.calls at h2
      exact List.all_eq_true.mp h2 c hcm
    · unfold Sm11Neutral.asked at h3
      rw [Bool.and_eq_true] at h3
      exact List.all_eq_true.mp h3.1 _ (List.mem_map.mpr ⟨_, List.mem_map.mpr ⟨c, hcm, rfl⟩, rfl⟩)
    · unfold PySm11.answers PySm11.calls
      rw [hc]
      rfl
    · unfold PyFlat.short at h4
      exact of_decide_eq_true h4
theorem calls_cons {f : Nat} {z : Int} {r : List Int} {raw : List (List (List Int))} (h : PyFlat.calls PySm11.shape f (z :: r) = some raw) : ∃ f' c t raw', PyFlat.call PySm11.shape (z :: r) = some (c, t) ∧ PyFlat.calls PySm11.shape f' t = some raw' ∧ raw = c :: raw' := by
  cases f with
  | zero => cases h
  | succ f =>
    unfold PyFlat.calls at h
    cases hc : PyFlat.call PySm11.shape (z :: r) with
    | none =>
      rw [hc] at h
      cases h
    | some ct =>
      obtain ⟨c, t⟩ := ct
      rw [hc] at h
      dsimp only at h
      cases hc2 : PyFlat.calls PySm11.shape f t with
      | none =>
        rw [hc2] at h
        cases h
      | some raw' =>
        rw [hc2] at h
        exact ⟨f, c, t, raw', rfl, hc2, (Option.some.inj h).symm⟩
theorem calls_nil {f : Nat} {raw : List (List (List Int))} (h : PyFlat.calls PySm11.shape f [] = some raw) : raw = [] := by
  cases f with
  | zero => exact (Option.some.inj h).symm
  | succ f => exact (Option.some.inj h).symm
theorem LineIs.apart {C : Addr} {H : Hp} {a : Addr} {s : Sm11.St} {F : List Addr} (h : LineIs C H a s F) {g : Addr} {xs ys : List V} (hg : H g = some (.lst xs)) (nF : g ∉ F) : LineIs C (upd H g (.lst ys)) a s F := by
  obtain ⟨dx, U, S, t0, t1, f0, f1, fs, rfl, L⟩ := h
  simp only [List.mem_cons, List.not_mem_nil, or_false, not_or] at nF
  obtain ⟨n1, n2, n3, n4, n5⟩ := nF
  refine ⟨dx, U, S, t0, t1, f0, f1, fs, rfl, ⟨?_, ?_, ?_, ?_, ?_, L.nd, L.w0.upd hg, L.w1.upd hg, L.wS.upd hg⟩⟩
  · rw [upd_ne (Ne.symm n1)]
    exact L.ob
  · rw [upd_ne (Ne.symm n2)]
    exact L.hT
  · rw [upd_ne (Ne.symm n4)]
    exact L.h0
  · rw [upd_ne (Ne.symm n5)]
    exact L.h1
  · rw [upd_ne (Ne.symm n3)]
    exact L.hS
theorem line7 {n : Nat} (h : n ≤ 10000000) : n < sizeLine := Nat.lt_of_le_of_lt h (by decide)
def spAns (K : PySem.W.Frag) : Sp := fun vs H Q _ => ∃ (a : Addr) (ns : List Int), vs = [.ref a] ∧ SqL K H a (ns.map V.int) ∧ PySm11.answers_asked ns = true ∧
  ∀ (H' : Hp) (p : Addr), H' p = some (.lst ((PySm11.answers ns).map V.int)) → Q (.ref p) H'
def anW (C cl a g : Addr) (l : List Int) (H : Hp) (m : Nat) (σ : L2.St) (H1 : Hp) : Prop := ∃ (i f : Nat) (s : Sm11.St) (F : List Addr) (gv : List Int) (raw : List (List (List Int))) (o4 o5 : Option V), σ = [some (.ref cl), some (.ref a), some (.ref g), some (.int (i : Nat)), o4, o5] ∧ Same H H1 ∧ LineIs C H1 a s F ∧ (∀ b ∈ F, H b = none) ∧ g ∉ F ∧ Sok s ∧ H1 g = some (.lst (gv.map V.int)) ∧ i ≤ l.length ∧
  PyFlat.calls PySm11.shape f (l.drop i) = some raw ∧ rawOk raw ∧ PySm11.answers l = gv ++ playN s raw ∧ m = l.length - i
theorem ok_answers (T : Top K mg) : FnOk P w K mg base CX0 22 T.f_answers T.fd_answers ["calls"] (spAns K) := by
  have G_Line_init : FnOk P w K mg base CX0 1 T.f_Line_init T.fd_Line_init ["self"] (sp_Line_init T.C_Line) := ok_Line_init T
  have G_end_of_call : FnOk P w K mg base CX0 1 T.f_end_of_call T.fd_end_of_call ["calls", "at"] (sp_end_of_call K) := ok_end_of_call T
  have G_answer : FnOk P w K mg base CX0 21 T.f_answer T.fd_answer ["line", "call", "numbers"] (sp_answer T.C_Line) := ok_answer T
  refine T.F_answers.ok sc_answers (fun vs H Q E h => ?_) (fun cdv A outer s H vs Q E hr h => ?_)
  · obtain ⟨_, _, rfl, _⟩ := h
    rfl
  · obtain ⟨cl, l, rfl, hcl, hask, q⟩ := h
    refine ⟨_, (pss_cons (ps_set (i := 1) sc_answers.nd rfl (Or.inl rfl) (pe_make0 T.M_Line G_Line_init (hr.mono (by decide)) rfl T.g_Line T.b_Line_init .nil pass0))
        (pss_cons (ps_set (i := 2) sc_answers.nd rfl (Or.inl rfl) (pe_lst pa_nil))
        (pss_cons (ps_set (i := 3) sc_answers.nd rfl (Or.inl rfl) pe_int)
        (pss_cons (ps_while PassesOwn.never (pt_cmpR op_lt (pv 3) (pe_callB call_len_seq (by rfl) T.n_len PySem.boot_len (pa_cons (pv 0) pa_nil)) (nomark _))
          (pss_cons (ps_set (i := 4) sc_answers.nd rfl (Or.inl rfl) (pe_call G_end_of_call (hr.mono (by decide)) (by rfl) T.g_end_of_call T.F_end_of_call.kp T.b_end_of_call .nil pass0 (pa_cons (pv 0) (pa_cons (pv 3) pa_nil))))
          (pss_cons (ps_set (i := 5) sc_answers.nd rfl (Or.inl rfl) (pe_call G_answer (hr.mono (by decide)) (by rfl) T.g_answer T.F_answer.kp T.b_answer .nil pass0 (pa_cons (pv 1) (pa_cons (pe_ix (r := rIxL K) ix_list (pv 0) (pv 3) (fun _ _ => rfl)) (pa_cons (pe_slice sl_list (pv 0) (po_some (pe_op op_add (pv 3) pe_int)) (po_some (pv 4))) pa_nil)))))
          (pss_cons (ps_expr (pe_bm PySem.F.plainAttrs_list PySem.F.slot_list_append PySem.F.type_list_append mt_append (pv 2) (pa_cons (pe_callB call_len_seq (by rfl) T.n_len PySem.boot_len (pa_cons (pv 5) pa_nil)) pa_nil)))
          (pss_cons (ps_expr (pe_bm PySem.F.plainAttrs_list PySem.F.slot_list_extend PySem.F.type_list_extend mt_extend (pv 2) (pa_cons (pv 5) pa_nil)))
          (pss_one (ps_set (i := 3) sc_answers.nd rfl (Or.inl rfl) (pv 4))))))))
        (pss_one (ps_ret (pv 2))))))), ?_⟩
    obtain ⟨raw, hraw, rok, hans, hz⟩ := asked_raw hask
    intro x dx hx hdx ne
    have e0 : Same H (upd (upd H dx (.own x)) x (.ins T.C_Line dx [])) := same_two hdx hx ne
    have hob : (upd (upd H dx (.own x)) x (.ins T.C_Line dx [])) x = some (.ins T.C_Line dx []) := upd_same
    generalize upd (upd H dx (.own x)) x (.ins T.C_Line dx []) = Hn at e0 hob ⊢
    refine ⟨x, dx, rfl, hob, fun H2 F hL2 k2 fr2 => ⟨rfl, ?_⟩⟩
    obtain ⟨e2, fr⟩ := made_same e0 hx k2 fr2
    refine ⟨Nat.zero_le _, fun g hg => ?_⟩
    have es3 := same_upd (o := .lst []) hg
    have hg3 : (upd H2 g (.lst [])) g = some (.lst []) := upd_same
    have fg : H g = none := e2.free hg
    have gF : g ∉ F := by
      obtain ⟨dx', U, S, t0, t1, f0, f1, fs, rfl, L⟩ := hL2
      intro z
      simp only [List.mem_cons, List.not_mem_nil, or_false] at z
      rcases z with y | y | y | y | y
      · rw [y, L.ob] at hg; cases hg
      · rw [y, L.hT] at hg; cases hg
      · rw [y, L.hS] at hg; cases hg
      · rw [y, L.h0] at hg; cases hg
      · rw [y, L.h1] at hg; cases hg
    generalize upd H2 g (.lst []) = H3 at es3 hg3 ⊢
    refine ⟨anW T.C_Line cl x g l H, ⟨_, 0, l.length, Sm11.init, F, [], raw, _, _, rfl, e2.trans es3, hL2.same es3, fr, gF, sok_init, hg3, Nat.zero_le _, by rw [List.drop_zero]; exact hraw, rok, hans, rfl⟩, ?_⟩
    rintro m σ H4 ⟨i, f, s, F4, gv, raw4, o4, o5, rfl, e4, hL4, fr4, gF4, ok4, hg4, hi4, hraw4, rok4, hans4, rfl⟩
    have hcl4 := sqlS hcl e4
    refine ⟨_, rfl, _, rfl, cl, _, rfl, .inl hcl4, _, _, rfl, rfl, _, rfl, ?_⟩
    rw [List.length_map]
    by_cases hlt : i < l.length
    · refine if_true_of (decide_eq_true (by omega)) ⟨fun σ' H' => ∃ m', m' < l.length - i ∧ anW T.C_Line cl x g l H m' σ' H', fun _ _ z => z, ?_⟩
      cases hdr : l.drop i with
      | nil =>
        rw [List.drop_eq_nil_iff] at hdr
        omega
      | cons z r =>
        rw [hdr] at hraw4
        obtain ⟨f5, c, t, raw5, hcall, hraw5, rfl⟩ := calls_cons hraw4
        obtain ⟨hb5, ha5⟩ := rok4 c (by simp)
        obtain ⟨p, ns, y, hpr, hci, hco⟩ := decode hcall hb5 ha5
        rw [hpr] at hdr
        obtain ⟨d1, d2, d3⟩ := drop_at hdr
        have hlen : i + 1 + ns.length ≤ l.length := by
          have : (l.drop (i + 1)).length = (ns ++ t).length := by rw [d3]
          rw [List.length_drop, List.length_append] at this
          omega
        have ht : l.drop (i + 1 + ns.length) = t := by
          rw [← List.drop_drop, d3, List.drop_left]
        refine ⟨_, rfl, _, rfl, cl, l, i, p, ns, t, y, rfl, hcl4, hdr, hci, fun H5 e5 => ?_⟩
        have hcl5 := sqlS hcl4 e5
        have hat : (l.map V.int)[i]? = some (.int (p : Int)) := by
          rw [List.getElem?_map, d1]
          rfl
        refine ⟨_, rfl, _, rfl, _, rfl, cl, _, (i : Int), _, rfl, rfl, hcl5, atI_nat hat, _, rfl, _, rfl, _, _, rfl, rfl, ((i + 1 : Nat) : Int), rfl, _, rfl, ((i + 1 + ns.length : Nat) : Int), rfl, cl, _, rfl, hcl5, fun b hb => ?_⟩
        have hcut : cutV (l.map V.int) (some ((i + 1 : Nat) : Int)) (some ((i + 1 + ns.length : Nat) : Int)) = ns.map V.int := by
          rw [cut_mid _ (by rw [List.length_map]; omega) (by rw [List.length_map]; exact hlen), ← List.map_drop, d3, Nat.add_sub_cancel_left, ← List.map_take, List.take_left]
        rw [hcut]
        have es6 := same_upd (o := .lst (ns.map V.int)) hb
        have hb6 : (upd H5 b (.lst (ns.map V.int))) b = some (.lst (ns.map V.int)) := upd_same
        generalize upd H5 b (.lst (ns.map V.int)) = H6 at es6 hb6 ⊢
        have e46 := e5.trans es6
        have e6 := e4.trans e46
        have hg6 := e46 _ _ hg4
        refine ⟨x, s, F4, p, b, ns, y, rfl, hL4.same e46, ok4, hb6, hci, fun H7 F7 ap hL7 k7 gr7 hne hap => ?_⟩
        have hpl := play_cons (s := s) (raw := raw5) hco
        rw [hpl, ← List.append_assoc] at hans4
        have hsz : (gv ++ (((Sm11.step s y).2.length : Int) :: (Sm11.step s y).2)).length ≤ 10000000 := by
          rw [hans4, List.length_append] at hz
          omega
        have ok7 := sok_step ok4 y
        generalize (Sm11.step s y).1 = s7 at hL7 hans4 ok7
        generalize (Sm11.step s y).2 = an at hap hans4 hsz
        rw [List.length_append, List.length_cons] at hsz
        have hg7 : H7 g = some (.lst (gv.map V.int)) := k7 _ _ hg6 gF4
        have ngp : g ≠ ap := hne g _ hg6 gF4
        have gF7 : g ∉ F7 := fun v => by
          rcases gr7 g v with y1 | y1
          · exact gF4 y1
          · rw [hg6] at y1
            cases y1
        have fr7 : ∀ b ∈ F7, H b = none := fresh_grown e6 fr4 gr7
        have e7 : Same H H7 := fresh_keeps e6 fr4 k7
        refine ⟨_, rfl, .inl ⟨rfl, _, SqL.of hg7⟩, _, rfl, ap, _, rfl, .inl (SqL.of hap), g, _, _, rfl, rfl, hg7, line7 (by rw [List.length_map]; omega), ?_⟩
        rw [List.length_map]
        have e8 : Same H (upd H7 g (.lst (gv.map V.int ++ [.int (an.length : Nat)]))) := same_updL fg e7
        have hL8 : LineIs T.C_Line (upd H7 g (.lst (gv.map V.int ++ [.int (an.length : Nat)]))) x s7 F7 := hL7.apart hg7 gF7
        have hg8 : (upd H7 g (.lst (gv.map V.int ++ [.int (an.length : Nat)]))) g = some (.lst (gv.map V.int ++ [.int (an.length : Nat)])) := upd_same
        have hap8 : (upd H7 g (.lst (gv.map V.int ++ [.int (an.length : Nat)]))) ap = some (.lst (an.map V.int)) := by
          rw [upd_ne ngp.symm]
          exact hap
        generalize upd H7 g (.lst (gv.map V.int ++ [.int (an.length : Nat)])) = H8 at e8 hL8 hg8 hap8 ⊢
        refine ⟨_, rfl, .inl ⟨rfl, _, SqL.of hg8⟩, _, rfl, g, ap, _, _, rfl, rfl, hg8, hap8, ?_, ?_⟩
        · refine Nat.le_of_lt (line7 ?_)
          rw [List.length_append, List.length_map, List.length_map]
          show gv.length + 1 + an.length ≤ _
          omega
        refine ⟨_, rfl, l.length - (i + 1 + ns.length), by omega, i + 1 + ns.length, f5, s7, F7, gv ++ ((an.length : Int) :: an), raw5, _, _, rfl, same_updL fg e8, hL8.apart hg8 gF7, fr7, gF7, ok7, ?_, hlen, by rw [ht]; exact hraw5, fun c' hc' => rok4 c' (by simp [hc']), hans4, rfl⟩
        rw [upd_same]
        simp
    · refine if_false_of (decide_eq_false (by omega)) ⟨_, rfl, q H4 g ?_⟩
      have hil : i = l.length := by omega
      rw [hil, List.drop_length] at hraw4
      rw [calls_nil hraw4, play_nil, List.append_nil] at hans4
      rw [hans4]
      exact hg4
end Ph
namespace Ph
open PySem PySem.Spec PyProof.Rows L2
theorem end_of {P : Program} {w : World} {K : PySem.W.Frag} {mg : Str → Option Value} {fa : Addr} (hfa : mg "answers" = some (.ref fa)) (T : Top K mg) :
    ∃ fd : FuncData, (∀ (s : Shared) (us : List Value), us.length = (["calls"] : List Str).length → BindsTo s fd ⟨us, []⟩ ((["calls"] : List Str).zip us)) ∧ ∀ base : Heap, K.In base → base.Ns mainGlobals mg → FnOk P w K mg base CX0 22 fa fd ["calls"] (spAns K) := by
  have e := hfa.symm.trans T.g_answers
  injection e with e
  injection e with e
  subst e
  refine ⟨T.fd_answers, fun s us hu => ?_, fun base _ _ => ok_answers T⟩
  obtain ⟨oc, od, kV, doc, pm, an, cdv, ct, osl, h, _⟩ := T.F_answers.ex
  rw [h]
  match us, hu with
  | [_], _ => exact .of_eq rfl
end Ph
open PySem PySem.W PyProof.Rows
theorem PySem.Challenge.cw_pieceheaps_s01_answers_holds : PySem.Challenge.rw_pieceheaps_s01_answers.Holds := by
  w_on; k_headS; (case hw => exact ⟨[.list [.int 17, .int 0]], by decide +kernel, by decide +kernel⟩)
  k_fillS
  refine L2.walk_specK (r := PySem.Challenge.rw_pieceheaps_s01_answers) (k := 22) (CX := L2.CX0) (ps := ["calls"]) (sp := Ph.spAns) (by decide +kernel) rfl rfl ⟨rfl, by decide, by decide⟩ (fun w h Y => PySem.W.kIn_of Y) ?F ?S (fun _ _ _ _ z => z)
  case F =>
    intro w mg fa h Y KX G hmg
    refine' Ph.end_of hmg (Ph.top_mk KX G ?z_all ?z_any ?z_dict ?z_enumerate ?z_len ?z_list ?z_max ?z_range ?z_set ?z_sorted ?z_zip ?a0_START ?a0_SAME ?a0_DIFFER ?a0_CELL ?a0_CHAIN ?a0_CLEAR ?a0_LET ?a0_LOAD ?a0_STORE ?a0_NEW ?a0_FREE ?a0_UNDO ?a0_SWAP ?a0_TRIPLE ?a0_SAFE ?a0_SAYS ?a0_FRAME ?a0_CAN ?a0_SURELY ?a0_FITS ?a0_RUN ?a0_NOT_ALLOWED ?a0_NO_SUCH_NAME ?a0_NO_WORLD_TOLD ?a0_FULL ?a0_NEVER_SO ?a0_NONE_THERE ?a0_FIRST_GREATEST ?a0_MOST_GREATEST ?a0_MOST_FACTS ?a0_MOST_CHAINS ?a0_MOST_STEPS ?a0_MOST_OF_SAYS ?a0_MOST_OF_CAN ?a0_MOST_ABOVE_STEPS ?a0_NUMBERS_BEHIND ?l0_NUMBERS_BEHIND ?v0_NUMBERS_BEHIND ?s0_NUMBERS_BEHIND ?a0_Line ?pg_Line ?hd_Line ?po_Line ?sa_Line ?mk_Line ?kc_Line ?no_Line_greatest ?no_Line_tellings ?no_Line_steps ?a0_PlainWorlds ?pg_PlainWorlds ?hd_PlainWorlds ?po_PlainWorlds ?sa_PlainWorlds ?mk_PlainWorlds ?kc_PlainWorlds ?no_PlainWorlds_telling ?no_PlainWorlds_most ?no_PlainWorlds_rows ?no_PlainWorlds_next_row ?no_PlainWorlds_names ?no_PlainWorlds_heap ?no_PlainWorlds_chains ?no_PlainWorlds_laid ?no_PlainWorlds_passages ?no_PlainWorlds_first_free ?no_PlainWorlds_next_free ?a_Line_init ?i_Line_init ?l_Line_init ?c_Line_init ?k_Line_init ?a_start ?l_start ?c_start ?k_start ?a_is_telling ?l_is_telling ?c_is_telling ?k_is_telling ?a_are_names ?l_are_names ?c_are_names ?k_are_names ?a_count_chains ?l_count_chains ?c_count_chains ?k_count_chains ?a_is_full_for ?l_is_full_for ?c_is_full_for ?k_is_full_for ?a_add_fact ?l_add_fact ?c_add_fact ?k_add_fact ?a_clear_telling ?l_clear_telling ?c_clear_telling ?k_clear_telling ?a_sets_its_name ?l_sets_its_name ?c_sets_its_name ?k_sets_its_name ?a_add_step ?l_add_step ?c_add_step ?k_add_step ?a_undo_step ?l_undo_step ?c_undo_step ?k_undo_step ?a_swap_tellings ?l_swap_tellings ?c_swap_tellings ?k_swap_tellings ?a_is_so ?l_is_so ?c_is_so ?k_is_so ?a_places_taken ?l_places_taken ?c_places_taken ?k_places_taken ?a_take_cell ?l_take_cell ?c_take_cell ?k_take_cell ?a_take_chain ?l_take_chain ?c_take_chain ?k_take_chain ?a_do_step ?l_do_step ?c_do_step ?k_do_step ?a_do_new ?l_do_new ?c_do_new ?k_do_new ?a_place_above_all ?l_place_above_all ?c_place_above_all ?k_place_above_all ?a_new_places ?l_new_places ?c_new_places ?k_new_places ?a_last_run ?l_last_run ?c_last_run ?k_last_run ?a_first_bad_run ?l_first_bad_run ?c_first_bad_run ?k_first_bad_run ?a_first_bad_from ?l_first_bad_from ?c_first_bad_from ?k_first_bad_from ?a_first_bad_new ?l_first_bad_new ?c_first_bad_new ?k_first_bad_new ?a_plain_names ?l_plain_names ?c_plain_names ?k_plain_names ?a_cells_told ?l_cells_told ?c_cells_told ?k_cells_told ?a_chains_told ?l_chains_told ?c_chains_told ?k_chains_told ?a_can_be_so ?l_can_be_so ?c_can_be_so ?k_can_be_so ?a_PlainWorlds_init ?i_PlainWorlds_init ?l_PlainWorlds_init ?c_PlainWorlds_init ?k_PlainWorlds_init ?a_PlainWorlds_go_on ?i_PlainWorlds_go_on ?l_PlainWorlds_go_on ?c_PlainWorlds_go_on ?k_PlainWorlds_go_on ?a_PlainWorlds_begin ?i_PlainWorlds_begin ?l_PlainWorlds_begin ?c_PlainWorlds_begin ?k_PlainWorlds_begin ?a_PlainWorlds_lay_chains ?i_PlainWorlds_lay_chains ?l_PlainWorlds_lay_chains ?c_PlainWorlds_lay_chains ?k_PlainWorlds_lay_chains ?a_PlainWorlds_lay_cell ?i_PlainWorlds_lay_cell ?l_PlainWorlds_lay_cell ?c_PlainWorlds_lay_cell ?k_PlainWorlds_lay_cell ?a_PlainWorlds_take_up_last_cell ?i_PlainWorlds_take_up_last_cell ?l_PlainWorlds_take_up_last_cell ?c_PlainWorlds_take_up_last_cell ?k_PlainWorlds_take_up_last_cell ?a_PlainWorlds_turn_last_cell ?i_PlainWorlds_turn_last_cell ?l_PlainWorlds_turn_last_cell ?c_PlainWorlds_turn_last_cell ?k_PlainWorlds_turn_last_cell ?a_PlainWorlds_number_next ?i_PlainWorlds_number_next ?l_PlainWorlds_number_next ?c_PlainWorlds_number_next ?k_PlainWorlds_number_next ?a_world_told ?l_world_told ?c_world_told ?k_world_told ?a_bad_run_told ?l_bad_run_told ?c_bad_run_told ?k_bad_run_told ?a_triple ?l_triple ?c_triple ?k_triple ?a_safe ?l_safe ?c_safe ?k_safe ?a_says ?l_says ?c_says ?k_says ?a_frame ?l_frame ?c_frame ?k_frame ?a_sort_piece ?l_sort_piece ?c_sort_piece ?k_sort_piece ?a_can ?l_can ?c_can ?k_can ?a_surely ?l_surely ?c_surely ?k_surely ?a_is_world ?l_is_world ?c_is_world ?k_is_world ?a_names_of ?l_names_of ?c_names_of ?k_names_of ?a_heap_of ?l_heap_of ?c_heap_of ?k_heap_of ?a_fits ?l_fits ?c_fits ?k_fits ?a_run ?l_run ?c_run ?k_run ?a_answers ?l_answers ?c_answers ?k_answers ?a_end_of_call ?l_end_of_call ?c_end_of_call ?k_end_of_call ?a_answer ?l_answer ?c_answer ?k_answer ?a_answer_of_writing ?l_answer_of_writing ?c_answer_of_writing ?k_answer_of_writing ?a_answer_of_asking ?l_answer_of_asking ?c_answer_of_asking ?k_answer_of_asking)
    (case z_all => k_is)
    (case z_any => k_is)
    (case z_dict => k_is)
    (case z_enumerate => k_is)
    (case z_len => k_is)
    (case z_list => k_is)
    (case z_max => k_is)
    (case z_range => k_is)
    (case z_set => k_is)
    (case z_sorted => k_is)
    (case z_zip => k_is)
    (case a0_START => k_is)
    (case a0_SAME => k_is)
    (case a0_DIFFER => k_is)
    (case a0_CELL => k_is)
    (case a0_CHAIN => k_is)
    (case a0_CLEAR => k_is)
    (case a0_LET => k_is)
    (case a0_LOAD => k_is)
    (case a0_STORE => k_is)
    (case a0_NEW => k_is)
    (case a0_FREE => k_is)
    (case a0_UNDO => k_is)
    (case a0_SWAP => k_is)
    (case a0_TRIPLE => k_is)
    (case a0_SAFE => k_is)
    (case a0_SAYS => k_is)
    (case a0_FRAME => k_is)
    (case a0_CAN => k_is)
    (case a0_SURELY => k_is)
    (case a0_FITS => k_is)
    (case a0_RUN => k_is)
    (case a0_NOT_ALLOWED => k_is)
    (case a0_NO_SUCH_NAME => k_is)
    (case a0_NO_WORLD_TOLD => k_is)
    (case a0_FULL => k_is)
    (case a0_NEVER_SO => k_is)
    (case a0_NONE_THERE => k_is)
    (case a0_FIRST_GREATEST => k_is)
    (case a0_MOST_GREATEST => k_is)
    (case a0_MOST_FACTS => k_is)
    (case a0_MOST_CHAINS => k_is)
    (case a0_MOST_STEPS => k_is)
    (case a0_MOST_OF_SAYS => k_is)
    (case a0_MOST_OF_CAN => k_is)
    (case a0_MOST_ABOVE_STEPS => k_is)
    (case a0_NUMBERS_BEHIND => k_is)
    (case l0_NUMBERS_BEHIND => k_is)
    (case v0_NUMBERS_BEHIND => first | rfl | decide +kernel)
    (case s0_NUMBERS_BEHIND => decide +kernel)
    (case a0_Line => k_is)
    (case pg_Line => k_is)
    (case hd_Line => k_is)
    (case po_Line => k_is)
    (case sa_Line => k_is)
    (case mk_Line => k_is)
    (case kc_Line => k_is)
    (case no_Line_greatest => k_is)
    (case no_Line_tellings => k_is)
    (case no_Line_steps => k_is)
    (case a0_PlainWorlds => k_is)
    (case pg_PlainWorlds => k_is)
    (case hd_PlainWorlds => k_is)
    (case po_PlainWorlds => k_is)
    (case sa_PlainWorlds => k_is)
    (case mk_PlainWorlds => k_is)
    (case kc_PlainWorlds => k_is)
    (case no_PlainWorlds_telling => k_is)
    (case no_PlainWorlds_most => k_is)
    (case no_PlainWorlds_rows => k_is)
    (case no_PlainWorlds_next_row => k_is)
    (case no_PlainWorlds_names => k_is)
    (case no_PlainWorlds_heap => k_is)
    (case no_PlainWorlds_chains => k_is)
    (case no_PlainWorlds_laid => k_is)
    (case no_PlainWorlds_passages => k_is)
    (case no_PlainWorlds_first_free => k_is)
    (case no_PlainWorlds_next_free => k_is)
    (case a_Line_init => k_is)
    (case i_Line_init => k_is)
    (case l_Line_init => k_is)
    (case c_Line_init => k_is)
    (case k_Line_init => k_is)
    (case a_start => k_is)
    (case l_start => k_is)
    (case c_start => k_is)
    (case k_start => k_is)
    (case a_is_telling => k_is)
    (case l_is_telling => k_is)
    (case c_is_telling => k_is)
    (case k_is_telling => k_is)
    (case a_are_names => k_is)
    (case l_are_names => k_is)
    (case c_are_names => k_is)
    (case k_are_names => k_is)
    (case a_count_chains => k_is)
    (case l_count_chains => k_is)
    (case c_count_chains => k_is)
    (case k_count_chains => k_is)
    (case a_is_full_for => k_is)
    (case l_is_full_for => k_is)
    (case c_is_full_for => k_is)
    (case k_is_full_for => k_is)
    (case a_add_fact => k_is)
    (case l_add_fact => k_is)
    (case c_add_fact => k_is)
    (case k_add_fact => k_is)
    (case a_clear_telling => k_is)
    (case l_clear_telling => k_is)
    (case c_clear_telling => k_is)
    (case k_clear_telling => k_is)
    (case a_sets_its_name => k_is)
    (case l_sets_its_name => k_is)
    (case c_sets_its_name => k_is)
    (case k_sets_its_name => k_is)
    (case a_add_step => k_is)
    (case l_add_step => k_is)
    (case c_add_step => k_is)
    (case k_add_step => k_is)
    (case a_undo_step => k_is)
    (case l_undo_step => k_is)
    (case c_undo_step => k_is)
    (case k_undo_step => k_is)
    (case a_swap_tellings => k_is)
    (case l_swap_tellings => k_is)
    (case c_swap_tellings => k_is)
    (case k_swap_tellings => k_is)
    (case a_is_so => k_is)
    (case l_is_so => k_is)
    (case c_is_so => k_is)
    (case k_is_so => k_is)
    (case a_places_taken => k_is)
    (case l_places_taken => k_is)
    (case c_places_taken => k_is)
    (case k_places_taken => k_is)
    (case a_take_cell => k_is)
    (case l_take_cell => k_is)
    (case c_take_cell => k_is)
    (case k_take_cell => k_is)
    (case a_take_chain => k_is)
    (case l_take_chain => k_is)
    (case c_take_chain => k_is)
    (case k_take_chain => k_is)
    (case a_do_step => k_is)
    (case l_do_step => k_is)
    (case c_do_step => k_is)
    (case k_do_step => k_is)
    (case a_do_new => k_is)
    (case l_do_new => k_is)
    (case c_do_new => k_is)
    (case k_do_new => k_is)
    (case a_place_above_all => k_is)
    (case l_place_above_all => k_is)
    (case c_place_above_all => k_is)
    (case k_place_above_all => k_is)
    (case a_new_places => k_is)
    (case l_new_places => k_is)
    (case c_new_places => k_is)
    (case k_new_places => k_is)
    (case a_last_run => k_is)
    (case l_last_run => k_is)
    (case c_last_run => k_is)
    (case k_last_run => k_is)
    (case a_first_bad_run => k_is)
    (case l_first_bad_run => k_is)
    (case c_first_bad_run => k_is)
    (case k_first_bad_run => k_is)
    (case a_first_bad_from => k_is)
    (case l_first_bad_from => k_is)
    (case c_first_bad_from => k_is)
    (case k_first_bad_from => k_is)
    (case a_first_bad_new => k_is)
    (case l_first_bad_new => k_is)
    (case c_first_bad_new => k_is)
    (case k_first_bad_new => k_is)
    (case a_plain_names => k_is)
    (case l_plain_names => k_is)
    (case c_plain_names => k_is)
    (case k_plain_names => k_is)
    (case a_cells_told => k_is)
    (case l_cells_told => k_is)
    (case c_cells_told => k_is)
    (case k_cells_told => k_is)
    (case a_chains_told => k_is)
    (case l_chains_told => k_is)
    (case c_chains_told => k_is)
    (case k_chains_told => k_is)
    (case a_can_be_so => k_is)
    (case l_can_be_so => k_is)
    (case c_can_be_so => k_is)
    (case k_can_be_so => k_is)
    (case a_PlainWorlds_init => k_is)
    (case i_PlainWorlds_init => k_is)
    (case l_PlainWorlds_init => k_is)
    (case c_PlainWorlds_init => k_is)
    (case k_PlainWorlds_init => k_is)
    (case a_PlainWorlds_go_on => k_is)
    (case i_PlainWorlds_go_on => k_is)
    (case l_PlainWorlds_go_on => k_is)
    (case c_PlainWorlds_go_on => k_is)
    (case k_PlainWorlds_go_on => k_is)
    (case a_PlainWorlds_begin => k_is)
    (case i_PlainWorlds_begin => k_is)
    (case l_PlainWorlds_begin => k_is)
    (case c_PlainWorlds_begin => k_is)
    (case k_PlainWorlds_begin => k_is)
    (case a_PlainWorlds_lay_chains => k_is)
    (case i_PlainWorlds_lay_chains => k_is)
    (case l_PlainWorlds_lay_chains => k_is)
    (case c_PlainWorlds_lay_chains => k_is)
    (case k_PlainWorlds_lay_chains => k_is)
    (case a_PlainWorlds_lay_cell => k_is)
    (case i_PlainWorlds_lay_cell => k_is)
    (case l_PlainWorlds_lay_cell => k_is)
    (case c_PlainWorlds_lay_cell => k_is)
    (case k_PlainWorlds_lay_cell => k_is)
    (case a_PlainWorlds_take_up_last_cell => k_is)
    (case i_PlainWorlds_take_up_last_cell => k_is)
    (case l_PlainWorlds_take_up_last_cell => k_is)
    (case c_PlainWorlds_take_up_last_cell => k_is)
    (case k_PlainWorlds_take_up_last_cell => k_is)
    (case a_PlainWorlds_turn_last_cell => k_is)
    (case i_PlainWorlds_turn_last_cell => k_is)
    (case l_PlainWorlds_turn_last_cell => k_is)
    (case c_PlainWorlds_turn_last_cell => k_is)
    (case k_PlainWorlds_turn_last_cell => k_is)
    (case a_PlainWorlds_number_next => k_is)
    (case i_PlainWorlds_number_next => k_is)
    (case l_PlainWorlds_number_next => k_is)
    (case c_PlainWorlds_number_next => k_is)
    (case k_PlainWorlds_number_next => k_is)
    (case a_world_told => k_is)
    (case l_world_told => k_is)
    (case c_world_told => k_is)
    (case k_world_told => k_is)
    (case a_bad_run_told => k_is)
    (case l_bad_run_told => k_is)
    (case c_bad_run_told => k_is)
    (case k_bad_run_told => k_is)
    (case a_triple => k_is)
    (case l_triple => k_is)
    (case c_triple => k_is)
    (case k_triple => k_is)
    (case a_safe => k_is)
    (case l_safe => k_is)
    (case c_safe => k_is)
    (case k_safe => k_is)
    (case a_says => k_is)
    (case l_says => k_is)
    (case c_says => k_is)
    (case k_says => k_is)
    (case a_frame => k_is)
    (case l_frame => k_is)
    (case c_frame => k_is)
    (case k_frame => k_is)
    (case a_sort_piece => k_is)
    (case l_sort_piece => k_is)
    (case c_sort_piece => k_is)
    (case k_sort_piece => k_is)
    (case a_can => k_is)
    (case l_can => k_is)
    (case c_can => k_is)
    (case k_can => k_is)
    (case a_surely => k_is)
    (case l_surely => k_is)
    (case c_surely => k_is)
    (case k_surely => k_is)
    (case a_is_world => k_is)
    (case l_is_world => k_is)
    (case c_is_world => k_is)
    (case k_is_world => k_is)
    (case a_names_of => k_is)
    (case l_names_of => k_is)
    (case c_names_of => k_is)
    (case k_names_of => k_is)
    (case a_heap_of => k_is)
    (case l_heap_of => k_is)
    (case c_heap_of => k_is)
    (case k_heap_of => k_is)
    (case a_fits => k_is)
    (case l_fits => k_is)
    (case c_fits => k_is)
    (case k_fits => k_is)
    (case a_run => k_is)
    (case l_run => k_is)
    (case c_run => k_is)
    (case k_run => k_is)
    (case a_answers => k_is)
    (case l_answers => k_is)
    (case c_answers => k_is)
    (case k_answers => k_is)
    (case a_end_of_call => k_is)
    (case l_end_of_call => k_is)
    (case c_end_of_call => k_is)
    (case k_end_of_call => k_is)
    (case a_answer => k_is)
    (case l_answer => k_is)
    (case c_answer => k_is)
    (case k_answer => k_is)
    (case a_answer_of_writing => k_is)
    (case l_answer_of_writing => k_is)
    (case c_answer_of_writing => k_is)
    (case k_answer_of_writing => k_is)
    (case a_answer_of_asking => k_is)
    (case l_answer_of_asking => k_is)
    (case c_answer_of_asking => k_is)
    (case k_answer_of_asking => k_is)
  case S =>
    intro K H xs a hO hwi hask hx
    cases hx with
    | cons h1 h2 =>
      cases h2
      cases h1 with
      | lst hs ha =>
        have e := L2.ints_dw a.1 _ ha
        subst e
        exact ⟨_, a.1, rfl, hs, hask, fun H' p hp => .lst (L2.SqL.of hp) (L2.dw_ints _)⟩
