import PyProof.Rows.All
import Wide.All
import OpenK.AllK
import Wide.FinOn
import PyProof.EqAt
import PyProof.EqKinds
import PyProof.TupleCall
import KE.KDictKeyed
import KE.KDictCopyH
import HandS.ForSpec
import HandS.ForMost
import HandS.SortInts
import HandS.SortOrd
import HandS.Zip
import HandS.TupAny
import HandS.SetKeys
import HandS.DictTup
import HandS.Deep
import HandS.Flow
import HandS.More
import HandS.Conv
import HandS.TryMany
import KE.SortData
import KE.DataMinMax
import KE.KDictSum
import KE.KDictZip
import HandS.Zip0
import HandS.Walk
import KE.KDictDisplayH
import HandS.ExcInit
import HandS.ExcSuper
import HandS.ExcField
import HandS.FStr
import HandS.ClsMeth
import HandS.TryOnly
import HandS.WordsExc
import HandS.Iter
import Open.SpecLaws
import KE.OsGo
import PySem.Challenge.RW_rulebooksdesk_s01_answers
/-! ## M1 -/
set_option linter.all false
set_option maxHeartbeats 1000000
/-! M1: mathematics of facts, atoms, matches. No library. -/
namespace Rb
open Dx (Fact Facts Rule Atom Fill)

/-! ### assignments -/
theorem at_nil (v : Nat) : Fill.at_ ([] : Fill) v = none := rfl
theorem at_cons (p : Nat × Nat) (s : Fill) (v : Nat) : Fill.at_ (p :: s) v = if p.1 = v then some p.2 else Fill.at_ s v := by
  unfold Fill.at_
  by_cases h : p.1 = v
  · simp [List.find?_cons, h]
  · simp [List.find?_cons, h]
theorem at_append (s t : Fill) (v : Nat) : Fill.at_ (s ++ t) v = match Fill.at_ s v with
    | some a => some a
    | none => Fill.at_ t v := by
  induction s with
  | nil => rfl
  | cons p s ih =>
    rw [List.cons_append, at_cons, at_cons]
    by_cases h : p.1 = v
    · rw [if_pos h, if_pos h]
    · rw [if_neg h, if_neg h, ih]
theorem at_snoc (s : Fill) (v a w : Nat) (h : Fill.at_ s v = none) : Fill.at_ (s ++ [(v, a)]) w = if w = v then some a else Fill.at_ s w := by
  rw [at_append, at_cons, at_nil]
  by_cases e : w = v
  · subst e; simp [h]
  · rw [if_neg e, if_neg (fun q => e q.symm)]
    cases Fill.at_ s w <;> rfl
theorem bind_some {s u : Fill} {v a : Nat} (h : Dx.bind s v a = some u) : (Fill.at_ s v = none ∨ Fill.at_ s v = some a) ∧ ∀ w, Fill.at_ u w = if w = v then some a else Fill.at_ s w := by
  unfold Dx.bind at h
  cases e : Fill.at_ s v with
  | none =>
    rw [e] at h
    cases h
    exact ⟨.inl rfl, fun w => at_snoc s v a w e⟩
  | some b =>
    rw [e] at h
    dsimp only at h
    by_cases hb : b = a
    · rw [if_pos hb] at h
      cases h
      subst hb
      refine ⟨.inr rfl, fun w => ?_⟩
      by_cases hw : w = v
      · rw [if_pos hw, hw, e]
      · rw [if_neg hw]
    · rw [if_neg hb] at h
      cases h
theorem bind_isSome {s : Fill} {v a : Nat} : (Dx.bind s v a).isSome = true ↔ (Fill.at_ s v = none ∨ Fill.at_ s v = some a) := by
  unfold Dx.bind
  cases e : Fill.at_ s v with
  | none => simp
  | some b =>
    by_cases hb : b = a
    · simp [hb]
    · simp [hb]
theorem fit_some {s u : Fill} {a : Atom} {f : Fact} (h : Dx.fit s a f = some u) : a.t = f.t ∧ ∃ s1, Dx.bind s a.x f.a = some s1 ∧ Dx.bind s1 a.y f.b = some u := by
  unfold Dx.fit at h
  by_cases ht : a.t = f.t
  · rw [if_neg (fun q => q ht)] at h
    cases e : Dx.bind s a.x f.a with
    | none => rw [e] at h; cases h
    | some s1 => rw [e] at h; exact ⟨ht, s1, rfl, h⟩
  · rw [if_pos ht] at h; cases h
theorem fit_at {s u : Fill} {a : Atom} {f : Fact} (h : Dx.fit s a f = some u) (w : Nat) : Fill.at_ u w = if w = a.y then some f.b else if w = a.x then some f.a else Fill.at_ s w := by
  obtain ⟨_, s1, h1, h2⟩ := fit_some h
  rw [(bind_some h2).2 w, (bind_some h1).2 w]
def FitOk (s : Fill) (a : Atom) (f : Fact) : Prop :=
  a.t = f.t ∧ (Fill.at_ s a.x = none ∨ Fill.at_ s a.x = some f.a) ∧ (Fill.at_ s a.y = none ∨ Fill.at_ s a.y = some f.b) ∧ (a.x = a.y → f.a = f.b)
theorem fit_iff {s : Fill} {a : Atom} {f : Fact} : (Dx.fit s a f).isSome = true ↔ FitOk s a f := by
  constructor
  · intro h
    cases e : Dx.fit s a f with
    | none => rw [e] at h; cases h
    | some u =>
      obtain ⟨ht, s1, h1, h2⟩ := fit_some e
      have k1 := bind_some h1
      have k2 := bind_some h2
      refine ⟨ht, k1.1, ?_, ?_⟩
      · by_cases hxy : a.y = a.x
        · have k := k2.1
          rw [k1.2, if_pos hxy] at k
          rcases k with k | k
          · cases k
          · have ke : f.a = f.b := Option.some.inj k
            rw [hxy, ← ke]
            exact k1.1
        · have k := k2.1
          rw [k1.2, if_neg hxy] at k
          exact k
      · intro hxy
        have k := k2.1
        rw [k1.2, if_pos hxy.symm] at k
        rcases k with k | k
        · cases k
        · exact Option.some.inj k
  · rintro ⟨ht, hx, hy, hxy⟩
    unfold Dx.fit
    rw [if_neg (fun q => q ht)]
    have k := bind_isSome.mpr hx
    cases e : Dx.bind s a.x f.a with
    | none => rw [e] at k; cases k
    | some s1 =>
      dsimp only
      refine bind_isSome.mpr ?_
      rw [(bind_some e).2]
      by_cases q : a.y = a.x
      · rw [if_pos q]; exact .inr (congrArg some (hxy q.symm))
      · rw [if_neg q]; exact hy

/-! ### one match: the facts that the atoms match, in order -/
def runm : Fill → List Atom → List Fact → Option Fill
  | s, [], [] => some s
  | s, a :: as, f :: fs => match Dx.fit s a f with
    | none => none
    | some u => runm u as fs
  | _, _, _ => none
theorem runm_cons {s s' : Fill} {a : Atom} {as : List Atom} {m : List Fact} (h : runm s (a :: as) m = some s') : ∃ f r u, m = f :: r ∧ Dx.fit s a f = some u ∧ runm u as r = some s' := by
  cases m with
  | nil => simp [runm] at h
  | cons f r =>
    cases e : Dx.fit s a f with
    | none => simp [runm, e] at h
    | some u => exact ⟨f, r, u, rfl, e, by simpa [runm, e] using h⟩
theorem runm_of {s s' u : Fill} {a : Atom} {as : List Atom} {f : Fact} {r : List Fact} (e : Dx.fit s a f = some u) (h : runm u as r = some s') : runm s (a :: as) (f :: r) = some s' := by
  simp [runm, e, h]
theorem runm_len : ∀ {as : List Atom} {s s' : Fill} {m : List Fact}, runm s as m = some s' → m.length = as.length
  | [], _, _, [], _ => rfl
  | [], _, _, _ :: _, h => by simp [runm] at h
  | a :: as, s, s', m, h => by
    obtain ⟨f, r, u, rfl, _, q⟩ := runm_cons h
    simp [runm_len q]
theorem mem_matches {l : List Fact} : ∀ {as : List Atom} {s s' : Fill}, s' ∈ Dx.matches_ l as s ↔ ∃ m, (∀ f ∈ m, f ∈ l) ∧ runm s as m = some s'
  | [], s, s' => by
    constructor
    · intro h
      have e : s' = s := by simpa [Dx.matches_] using h
      exact ⟨[], by simp, by rw [e]; rfl⟩
    · rintro ⟨m, _, h⟩
      cases m with
      | nil => have e : s = s' := by simpa [runm] using h
               simp [Dx.matches_, e]
      | cons f r => simp [runm] at h
  | a :: as, s, s' => by
    rw [Dx.matches_, List.mem_flatMap]
    constructor
    · rintro ⟨f, hf, h⟩
      cases e : Dx.fit s a f with
      | none => rw [e] at h; simp at h
      | some u =>
        rw [e] at h
        obtain ⟨m, hm, hr⟩ := mem_matches.mp h
        refine ⟨f :: m, ?_, runm_of e hr⟩
        intro g hg
        rcases List.mem_cons.mp hg with rfl | hg
        · exact hf
        · exact hm g hg
    · rintro ⟨m, hm, h⟩
      obtain ⟨f, r, u, rfl, e, q⟩ := runm_cons h
      refine ⟨f, hm f (by simp), ?_⟩
      rw [e]
      exact mem_matches.mpr ⟨r, fun g hg => hm g (by simp [hg]), q⟩
theorem empty_false {l : List Fact} {as : List Atom} {s : Fill} : (Dx.matches_ l as s).isEmpty = false ↔ ∃ m s', (∀ f ∈ m, f ∈ l) ∧ runm s as m = some s' := by
  constructor
  · intro h
    cases e : Dx.matches_ l as s with
    | nil => rw [e] at h; cases h
    | cons x r =>
      have hx : x ∈ Dx.matches_ l as s := by rw [e]; simp
      obtain ⟨m, hm, hr⟩ := mem_matches.mp hx
      exact ⟨m, x, hm, hr⟩
  · rintro ⟨m, s', hm, hr⟩
    have hx := mem_matches.mpr ⟨m, hm, hr⟩
    cases e : Dx.matches_ l as s with
    | nil => rw [e] at hx; simp at hx
    | cons x r => rfl
/-- more facts: what matched goes on matching -/
theorem empty_mono {l l' : List Fact} (hl : ∀ f ∈ l, f ∈ l') {as : List Atom} {s : Fill} (h : (Dx.matches_ l as s).isEmpty = false) : (Dx.matches_ l' as s).isEmpty = false := by
  obtain ⟨m, s', hm, hr⟩ := empty_false.mp h
  exact empty_false.mpr ⟨m, s', fun f hf => hl f (hm f hf), hr⟩
theorem empty_same {l l' : List Fact} (hl : ∀ f, f ∈ l ↔ f ∈ l') (as : List Atom) (s : Fill) : (Dx.matches_ l as s).isEmpty = (Dx.matches_ l' as s).isEmpty := by
  cases h : (Dx.matches_ l as s).isEmpty with
  | false => exact (empty_mono (fun f hf => (hl f).mp hf) h).symm
  | true =>
    cases h' : (Dx.matches_ l' as s).isEmpty with
    | true => rfl
    | false => rw [empty_mono (fun f hf => (hl f).mpr hf) h'] at h; cases h
/-- only the values of the atoms' variables count -/
def Agree (as : List Atom) (s s' : Fill) : Prop := ∀ a ∈ as, Fill.at_ s a.x = Fill.at_ s' a.x ∧ Fill.at_ s a.y = Fill.at_ s' a.y
theorem Agree.symm {as : List Atom} {s s' : Fill} (h : Agree as s s') : Agree as s' s := fun a ha => ⟨(h a ha).1.symm, (h a ha).2.symm⟩
theorem runm_agree : ∀ {as : List Atom} {s s' t : Fill} {m : List Fact}, Agree as s s' → runm s as m = some t → ∃ t', runm s' as m = some t'
  | [], s, s', t, m, _, h => by
    cases m with
    | nil => exact ⟨s', rfl⟩
    | cons f r => simp [runm] at h
  | a :: as, s, s', t, m, ag, h => by
    obtain ⟨f, r, u, rfl, e, q⟩ := runm_cons h
    have ok : FitOk s a f := fit_iff.mp (by rw [e]; rfl)
    have ag0 := ag a (by simp)
    have ok' : FitOk s' a f := by
      obtain ⟨h1, h2, h3, h4⟩ := ok
      exact ⟨h1, by rw [← ag0.1]; exact h2, by rw [← ag0.2]; exact h3, h4⟩
    cases e' : Dx.fit s' a f with
    | none => have := fit_iff.mpr ok'; rw [e'] at this; cases this
    | some u' =>
      have ag' : Agree as u u' := fun b hb => by
        have k := ag b (by simp [hb])
        constructor
        · rw [fit_at e, fit_at e', k.1]
        · rw [fit_at e, fit_at e', k.2]
      obtain ⟨t', ht⟩ := runm_agree ag' q
      exact ⟨t', runm_of e' ht⟩
theorem empty_agree {l : List Fact} {as : List Atom} {s s' : Fill} (ag : Agree as s s') : (Dx.matches_ l as s).isEmpty = (Dx.matches_ l as s').isEmpty := by
  have one : ∀ {s s' : Fill}, Agree as s s' → (Dx.matches_ l as s).isEmpty = false → (Dx.matches_ l as s').isEmpty = false := by
    intro s s' ag h
    obtain ⟨m, t, hm, hr⟩ := empty_false.mp h
    obtain ⟨t', ht⟩ := runm_agree ag hr
    exact empty_false.mpr ⟨m, t', hm, ht⟩
  cases h : (Dx.matches_ l as s).isEmpty with
  | false => exact (one ag h).symm
  | true =>
    cases h' : (Dx.matches_ l as s').isEmpty with
    | true => rfl
    | false => rw [one ag.symm h'] at h; cases h

/-! ### the order -/
def LtF (f g : Fact) : Prop := f.t < g.t ∨ (f.t = g.t ∧ (f.a < g.a ∨ (f.a = g.a ∧ f.b < g.b)))
instance (f g : Fact) : Decidable (LtF f g) := by unfold LtF; infer_instance
theorem less_iff {f g : Fact} : Dx.less f.key g.key = true ↔ LtF f g := by
  unfold Dx.Fact.key LtF
  simp [Dx.less]
theorem LtF.irrefl (f : Fact) : ¬ LtF f f := by unfold LtF; omega
theorem LtF.trans {f g h : Fact} : LtF f g → LtF g h → LtF f h := by unfold LtF; omega
theorem fact_ext {f g : Fact} (h1 : f.t = g.t) (h2 : f.a = g.a) (h3 : f.b = g.b) : f = g := by
  cases f; cases g; simp_all
theorem LtF.tri (f g : Fact) : LtF f g ∨ f = g ∨ LtF g f := by
  by_cases h1 : f.t = g.t
  · by_cases h2 : f.a = g.a
    · by_cases h3 : f.b = g.b
      · exact .inr (.inl (fact_ext h1 h2 h3))
      · unfold LtF; omega
    · unfold LtF; omega
  · unfold LtF; omega
def leM : List Fact → List Fact → Prop
  | [], _ => True
  | _ :: _, [] => False
  | f :: r, g :: s => LtF f g ∨ (f = g ∧ leM r s)
theorem leM.refl : ∀ m : List Fact, leM m m
  | [] => trivial
  | f :: r => .inr ⟨rfl, leM.refl r⟩
theorem leM.trans : ∀ {m n k : List Fact}, leM m n → leM n k → leM m k
  | [], _, _, _, _ => trivial
  | _ :: _, [], _, h, _ => h.elim
  | _ :: _, _ :: _, [], _, h => h.elim
  | f :: r, g :: s, e :: t, h1, h2 => by
    rcases h1 with h1 | ⟨rfl, h1⟩
    · rcases h2 with h2 | ⟨rfl, h2⟩
      · exact .inl (h1.trans h2)
      · exact .inl h1
    · rcases h2 with h2 | ⟨rfl, h2⟩
      · exact .inl h2
      · exact .inr ⟨rfl, leM.trans h1 h2⟩
theorem leM.antisymm : ∀ {m n : List Fact}, leM m n → leM n m → m = n
  | [], [], _, _ => rfl
  | [], _ :: _, _, h => h.elim
  | _ :: _, [], h, _ => h.elim
  | f :: r, g :: s, h1, h2 => by
    rcases h1 with h1 | ⟨rfl, h1⟩
    · rcases h2 with h2 | ⟨rfl, h2⟩
      · exact absurd (h1.trans h2) (LtF.irrefl _)
      · exact absurd h1 (LtF.irrefl _)
    · rcases h2 with h2 | ⟨_, h2⟩
      · exact absurd h2 (LtF.irrefl _)
      · rw [leM.antisymm h1 h2]
theorem leM.total : ∀ (m n : List Fact), leM m n ∨ leM n m
  | [], _ => .inl trivial
  | _ :: _, [] => .inr trivial
  | f :: r, g :: s => by
    rcases LtF.tri f g with h | h | h
    · exact .inl (.inl h)
    · subst h
      rcases leM.total r s with k | k
      · exact .inl (.inr ⟨rfl, k⟩)
      · exact .inr (.inr ⟨rfl, k⟩)
    · exact .inr (.inl h)
abbrev Sorted (l : List Fact) : Prop := l.Pairwise LtF
theorem mem_put {f g : Fact} : ∀ {l : List Fact}, g ∈ Dx.put f l ↔ g = f ∨ g ∈ l
  | [] => by simp [Dx.put]
  | e :: r => by
    unfold Dx.put
    by_cases h : f = e
    · subst h
      rw [if_pos rfl]
      simp
    · rw [if_neg h]
      by_cases h2 : Dx.less f.key e.key = true
      · rw [if_pos h2]; simp
      · rw [if_neg h2, List.mem_cons, mem_put, List.mem_cons]
        constructor
        · rintro (a | a | a)
          · exact .inr (.inl a)
          · exact .inl a
          · exact .inr (.inr a)
        · rintro (a | a | a)
          · exact .inr (.inl a)
          · exact .inl a
          · exact .inr (.inr a)
theorem put_sorted (f : Fact) : ∀ {l : List Fact}, Sorted l → Sorted (Dx.put f l)
  | [], _ => by simp [Dx.put]
  | e :: r, h => by
    unfold Dx.put
    by_cases hf : f = e
    · rw [if_pos hf]; exact h
    · rw [if_neg hf]
      have hh := List.pairwise_cons.mp h
      by_cases h2 : Dx.less f.key e.key = true
      · rw [if_pos h2]
        have k := less_iff.mp h2
        refine List.pairwise_cons.mpr ⟨fun g hg => ?_, h⟩
        rcases List.mem_cons.mp hg with rfl | hg
        · exact k
        · exact k.trans (hh.1 g hg)
      · rw [if_neg h2]
        refine List.pairwise_cons.mpr ⟨fun g hg => ?_, put_sorted f hh.2⟩
        rcases mem_put.mp hg with rfl | hg
        · rcases LtF.tri g e with k | k | k
          · exact absurd (less_iff.mpr k) h2
          · exact absurd k hf
          · exact k
        · exact hh.1 g hg
theorem foldl_put : ∀ (fs : List Fact) {l : List Fact}, Sorted l → Sorted (fs.foldl (fun l f => Dx.put f l) l) ∧ ∀ g, g ∈ fs.foldl (fun l f => Dx.put f l) l ↔ g ∈ l ∨ g ∈ fs
  | [], l, h => ⟨h, fun g => by simp⟩
  | f :: fs, l, h => by
    have k := foldl_put fs (put_sorted f h)
    refine ⟨k.1, fun g => ?_⟩
    rw [List.foldl_cons, k.2 g, mem_put, List.mem_cons]
    constructor
    · rintro ((a | a) | a)
      · exact .inr (.inl a)
      · exact .inl a
      · exact .inr (.inr a)
    · rintro (a | a | a)
      · exact .inl (.inr a)
      · exact .inl (.inl a)
      · exact .inr a
theorem sorted_ext : ∀ {l l' : List Fact}, Sorted l → Sorted l' → (∀ f, f ∈ l ↔ f ∈ l') → l = l'
  | [], [], _, _, _ => rfl
  | [], g :: r, _, _, h => absurd ((h g).mpr (by simp)) (by simp)
  | f :: r, [], _, _, h => absurd ((h f).mp (by simp)) (by simp)
  | f :: r, g :: s, h1, h2, h => by
    have a1 := List.pairwise_cons.mp h1
    have a2 := List.pairwise_cons.mp h2
    have e : f = g := by
      have m1 := (h f).mp (by simp)
      have m2 := (h g).mpr (by simp)
      rcases List.mem_cons.mp m1 with k | k
      · exact k
      · rcases List.mem_cons.mp m2 with q | q
        · exact q.symm
        · exact absurd ((a2.1 f k).trans (a1.1 g q)) (LtF.irrefl _)
    subst e
    have tl : r = s := by
      refine sorted_ext a1.2 a2.2 fun x => ?_
      have n1 : ∀ x, x ∈ r → x ≠ f := fun x hx e => by subst e; exact LtF.irrefl _ (a1.1 x hx)
      have n2 : ∀ x, x ∈ s → x ≠ f := fun x hx e => by subst e; exact LtF.irrefl _ (a2.1 x hx)
      constructor
      · intro hx
        rcases List.mem_cons.mp ((h x).mp (by simp [hx])) with k | k
        · exact absurd k (n1 x hx)
        · exact k
      · intro hx
        rcases List.mem_cons.mp ((h x).mpr (by simp [hx])) with k | k
        · exact absurd k (n2 x hx)
        · exact k
    rw [tl]
theorem sorted_nodup {l : List Fact} (h : Sorted l) : l.Nodup := h.imp fun k e => by subst e; exact LtF.irrefl _ k

/-! ### the first match -/
theorem find_flat {α β : Type} (p : β → Bool) (g : α → List β) : ∀ {l : List α} {b : β}, (l.flatMap g).find? p = some b → ∃ pre x suf, l = pre ++ x :: suf ∧ (∀ y ∈ pre, (g y).find? p = none) ∧ (g x).find? p = some b
  | [], b, h => by simp at h
  | a :: l, b, h => by
    rw [List.flatMap_cons, List.find?_append] at h
    cases e : (g a).find? p with
    | some c =>
      rw [e] at h
      exact ⟨[], a, l, rfl, by simp, by rw [e]; simpa using h⟩
    | none =>
      rw [e] at h
      obtain ⟨pre, x, suf, rfl, h1, h2⟩ := find_flat p g (l := l) (b := b) (by simpa using h)
      refine ⟨a :: pre, x, suf, rfl, fun y hy => ?_, h2⟩
      rcases List.mem_cons.mp hy with rfl | hy
      · exact e
      · exact h1 y hy
theorem find_first {l : List Fact} (hl : Sorted l) (p : Fill → Bool) : ∀ {as : List Atom} {s s' : Fill}, (Dx.matches_ l as s).find? p = some s' →
    ∃ m, (∀ f ∈ m, f ∈ l) ∧ runm s as m = some s' ∧ p s' = true ∧ ∀ m2 s2, (∀ f ∈ m2, f ∈ l) → runm s as m2 = some s2 → p s2 = true → leM m m2
  | [], s, s', h => by
    have hp := List.find?_some h
    have hm := List.mem_of_find?_eq_some h
    have e : s' = s := by simpa [Dx.matches_] using hm
    subst e
    exact ⟨[], by simp, rfl, hp, fun _ _ _ _ _ => trivial⟩
  | a :: as, s, s', h => by
    rw [Dx.matches_] at h
    obtain ⟨pre, f, suf, el, h1, h2⟩ := find_flat _ _ h
    cases e : Dx.fit s a f with
    | none => rw [e] at h2; simp at h2
    | some u =>
      rw [e] at h2
      obtain ⟨m, hm, hr, hp, hmin⟩ := find_first hl p h2
      have hf : f ∈ l := by rw [el]; simp
      refine ⟨f :: m, ?_, runm_of e hr, hp, ?_⟩
      · intro g hg
        rcases List.mem_cons.mp hg with rfl | hg
        · exact hf
        · exact hm g hg
      · intro m2 s2 hm2 hr2 hp2
        obtain ⟨f2, r2, u2, rfl, e2, q2⟩ := runm_cons hr2
        have hf2 := hm2 f2 (by simp)
        have hr2m : ∀ g ∈ r2, g ∈ l := fun g hg => hm2 g (by simp [hg])
        rw [el] at hf2 hl
        rcases List.mem_append.mp hf2 with k | k
        · have z := h1 f2 k
          rw [e2] at z
          have z' := List.find?_eq_none.mp z s2 (mem_matches.mpr ⟨r2, hr2m, q2⟩)
          exact absurd hp2 z'
        · rcases List.mem_cons.mp k with rfl | k
          · rw [e] at e2
            cases e2
            exact .inr ⟨rfl, hmin r2 s2 hr2m q2 hp2⟩
          · have w := (List.pairwise_append.mp hl).2.1
            exact .inl ((List.pairwise_cons.mp w).1 f2 k)
theorem find_is {l : List Fact} (hl : Sorted l) {p : Fill → Bool} {as : List Atom} {s s' : Fill} {m : List Fact} (hm : ∀ f ∈ m, f ∈ l) (hr : runm s as m = some s') (hp : p s' = true)
    (hmin : ∀ m2 s2, (∀ f ∈ m2, f ∈ l) → runm s as m2 = some s2 → p s2 = true → leM m m2) : (Dx.matches_ l as s).find? p = some s' := by
  cases e : (Dx.matches_ l as s).find? p with
  | none => exact absurd hp (List.find?_eq_none.mp e s' (mem_matches.mpr ⟨m, hm, hr⟩))
  | some s2 =>
    obtain ⟨m2, hm2, hr2, hp2, hmin2⟩ := find_first hl p e
    have k := leM.antisymm (hmin m2 s2 hm2 hr2 hp2) (hmin2 m s' hm hr hp)
    subst k
    rw [hr] at hr2
    exact hr2.symm
theorem find_none {l : List Fact} {p : Fill → Bool} {as : List Atom} {s : Fill} : (Dx.matches_ l as s).find? p = none ↔ ∀ m s', (∀ f ∈ m, f ∈ l) → runm s as m = some s' → p s' = false := by
  rw [List.find?_eq_none]
  constructor
  · intro h m s' hm hr
    have := h s' (mem_matches.mpr ⟨m, hm, hr⟩)
    simpa using this
  · intro h s' hs
    obtain ⟨m, hm, hr⟩ := mem_matches.mp hs
    simp [h m s' hm hr]

/-! ### variables -/
theorem mem_fold_new {v : Nat} : ∀ (l m : List Nat), v ∈ l.foldl (fun m v => if m.contains v = true then m else m ++ [v]) m ↔ v ∈ m ∨ v ∈ l
  | [], m => by simp
  | x :: l, m => by
    rw [List.foldl_cons, mem_fold_new l]
    by_cases h : m.contains x = true
    · rw [if_pos h]
      have hx : x ∈ m := by simpa using h
      constructor
      · rintro (a | a)
        · exact .inl a
        · exact .inr (by simp [a])
      · rintro (a | a)
        · exact .inl a
        · rcases List.mem_cons.mp a with rfl | a
          · exact .inl hx
          · exact .inr a
    · rw [if_neg h]
      simp only [List.mem_append, List.mem_cons, List.not_mem_nil, or_false]
      constructor
      · rintro ((a | a) | a)
        · exact .inl a
        · exact .inr (.inl a)
        · exact .inr (.inr a)
      · rintro (a | a | a)
        · exact .inl (.inl a)
        · exact .inl (.inr a)
        · exact .inr a
theorem nodup_fold_new : ∀ (l m : List Nat), m.Nodup → (l.foldl (fun m v => if m.contains v = true then m else m ++ [v]) m).Nodup
  | [], m, h => h
  | x :: l, m, h => by
    rw [List.foldl_cons]
    by_cases hx : m.contains x = true
    · rw [if_pos hx]; exact nodup_fold_new l m h
    · rw [if_neg hx]
      refine nodup_fold_new l _ ?_
      have hx' : ¬ x ∈ m := by simpa using hx
      refine List.nodup_append.mpr ⟨h, by simp, fun a ha b hb => ?_⟩
      have : b = x := by simpa using hb
      subst this
      intro e; subst e; exact hx' ha
theorem mem_places {as : List Atom} {v : Nat} : v ∈ Dx.places as ↔ ∃ a ∈ as, v = a.x ∨ v = a.y := by
  unfold Dx.places
  rw [mem_fold_new]
  simp
theorem nodup_places (as : List Atom) : (Dx.places as).Nodup := nodup_fold_new _ _ (by simp)
theorem runm_at : ∀ {as : List Atom} {s s' : Fill} {m : List Fact}, runm s as m = some s' → ∀ v, (Fill.at_ s' v).isSome = true ↔ (Fill.at_ s v).isSome = true ∨ v ∈ Dx.places as
  | [], s, s', m, h, v => by
    cases m with
    | nil =>
      have e : s = s' := by simpa [runm] using h
      subst e
      simp [Dx.places]
    | cons f r => simp [runm] at h
  | a :: as, s, s', m, h, v => by
    obtain ⟨f, r, u, rfl, e, q⟩ := runm_cons h
    rw [runm_at q v, fit_at e, mem_places, mem_places]
    constructor
    · rintro (k | ⟨b, hb, k⟩)
      · by_cases h1 : v = a.y
        · exact .inr ⟨a, by simp, .inr h1⟩
        · rw [if_neg h1] at k
          by_cases h2 : v = a.x
          · exact .inr ⟨a, by simp, .inl h2⟩
          · rw [if_neg h2] at k; exact .inl k
      · exact .inr ⟨b, by simp [hb], k⟩
    · rintro (k | ⟨b, hb, k⟩)
      · left
        by_cases h1 : v = a.y
        · rw [if_pos h1]; rfl
        · rw [if_neg h1]
          by_cases h2 : v = a.x
          · rw [if_pos h2]; rfl
          · rw [if_neg h2]; exact k
      · rcases List.mem_cons.mp hb with rfl | hb
        · left
          by_cases h1 : v = b.y
          · rw [if_pos h1]; rfl
          · rw [if_neg h1]
            rcases k with k | k
            · rw [if_pos k]; rfl
            · exact absurd k h1
        · exact .inr ⟨b, hb, k⟩
end Rb

/-! ## M2 -/
set_option linter.all false
set_option maxHeartbeats 1000000
/-! M2: the watch of one rule. No library. -/
namespace Rb
open Dx (Fact Facts Rule Atom Fill)

/-! ### association lists, as the dicts have them -/
section assoc
variable {κ β : Type} [DecidableEq κ]
def getA (kvs : List (κ × β)) (k : κ) : Option β := (kvs.find? fun kv => decide (kv.1 = k)).map (·.2)
def putA (kvs : List (κ × β)) (k : κ) (v : β) : List (κ × β) := if (kvs.any fun kv => decide (kv.1 = k)) = true then kvs.map (fun kv => if kv.1 = k then (kv.1, v) else kv) else kvs ++ [(k, v)]
def dropA (kvs : List (κ × β)) (k : κ) : List (κ × β) := kvs.filter fun kv => decide (kv.1 ≠ k)
theorem getA_some {kvs : List (κ × β)} {k : κ} {v : β} (h : getA kvs k = some v) : (k, v) ∈ kvs := by
  unfold getA at h
  cases e : kvs.find? fun kv => decide (kv.1 = k) with
  | none => rw [e] at h; cases h
  | some p =>
    rw [e] at h
    have h1 := List.find?_some e
    have h2 := List.mem_of_find?_eq_some e
    have h1' : p.1 = k := by simpa using h1
    have h3 : p.2 = v := Option.some.inj h
    rw [← h1', ← h3]
    exact h2
theorem getA_none {kvs : List (κ × β)} {k : κ} (h : getA kvs k = none) : ∀ v, (k, v) ∉ kvs := by
  intro v hv
  unfold getA at h
  cases e : kvs.find? fun kv => decide (kv.1 = k) with
  | none =>
    have := List.find?_eq_none.mp e (k, v) hv
    simp at this
  | some p => rw [e] at h; cases h
theorem getA_of {kvs : List (κ × β)} {k : κ} {v : β} (nd : (kvs.map (·.1)).Nodup) (h : (k, v) ∈ kvs) : getA kvs k = some v := by
  induction kvs with
  | nil => simp at h
  | cons p r ih =>
    have nd' := List.nodup_cons.mp nd
    unfold getA
    rw [List.find?_cons]
    rcases List.mem_cons.mp h with e | h
    · subst e; simp
    · have hp : ¬ p.1 = k := fun e => nd'.1 (List.mem_map.mpr ⟨(k, v), h, e.symm⟩)
      simp only [hp, decide_false]
      exact ih nd'.2 h
theorem any_iff {kvs : List (κ × β)} {k : κ} : (kvs.any fun kv => decide (kv.1 = k)) = true ↔ k ∈ kvs.map (·.1) := by
  simp [List.any_eq_true]
theorem keys_putA (kvs : List (κ × β)) (k : κ) (v : β) : (putA kvs k v).map (·.1) = if k ∈ kvs.map (·.1) then kvs.map (·.1) else kvs.map (·.1) ++ [k] := by
  unfold putA
  by_cases h : k ∈ kvs.map (·.1)
  · rw [if_pos (any_iff.mpr h), if_pos h, List.map_map]
    apply List.map_congr_left
    intro p _
    by_cases e : p.1 = k <;> simp [e]
  · rw [if_neg (fun q => h (any_iff.mp q)), if_neg h]
    simp
theorem nodup_putA {kvs : List (κ × β)} (nd : (kvs.map (·.1)).Nodup) (k : κ) (v : β) : ((putA kvs k v).map (·.1)).Nodup := by
  rw [keys_putA]
  by_cases h : k ∈ kvs.map (·.1)
  · rw [if_pos h]; exact nd
  · rw [if_neg h]
    refine List.nodup_append.mpr ⟨nd, by simp, fun a ha b hb => ?_⟩
    have : b = k := by simpa using hb
    subst this
    intro e; subst e; exact h ha
theorem mem_putA {kvs : List (κ × β)} {k j : κ} {v u : β} : (j, u) ∈ putA kvs k v ↔ (j = k ∧ u = v) ∨ (j ≠ k ∧ (j, u) ∈ kvs) := by
  unfold putA
  by_cases h : k ∈ kvs.map (·.1)
  · rw [if_pos (any_iff.mpr h), List.mem_map]
    constructor
    · rintro ⟨p, hp, e⟩
      by_cases q : p.1 = k
      · rw [if_pos q] at e
        cases e
        exact .inl ⟨q, rfl⟩
      · rw [if_neg q] at e
        subst e
        exact .inr ⟨q, hp⟩
    · rintro (⟨rfl, rfl⟩ | ⟨q, hp⟩)
      · obtain ⟨p, hp, e⟩ := List.mem_map.mp h
        exact ⟨p, hp, by rw [if_pos e, e]⟩
      · exact ⟨(j, u), hp, by rw [if_neg q]⟩
  · rw [if_neg (fun q => h (any_iff.mp q)), List.mem_append, List.mem_singleton]
    constructor
    · rintro (hp | e)
      · refine .inr ⟨fun e => ?_, hp⟩
        subst e
        exact h (List.mem_map.mpr ⟨(j, u), hp, rfl⟩)
      · cases e; exact .inl ⟨rfl, rfl⟩
    · rintro (⟨rfl, rfl⟩ | ⟨_, hp⟩)
      · exact .inr rfl
      · exact .inl hp
theorem length_putA (kvs : List (κ × β)) (k : κ) (v : β) : (putA kvs k v).length ≤ kvs.length + 1 := by
  unfold putA
  split <;> simp
theorem mem_dropA {kvs : List (κ × β)} {k j : κ} {u : β} : (j, u) ∈ dropA kvs k ↔ j ≠ k ∧ (j, u) ∈ kvs := by
  unfold dropA
  simp [and_comm]
theorem nodup_dropA {kvs : List (κ × β)} (nd : (kvs.map (·.1)).Nodup) (k : κ) : ((dropA kvs k).map (·.1)).Nodup :=
  List.Nodup.sublist (List.Sublist.map _ List.filter_sublist) nd
theorem length_dropA (kvs : List (κ × β)) (k : κ) : (dropA kvs k).length ≤ kvs.length := List.length_filter_le _ _
end assoc

/-! ### a rule's shared variables -/
def shared (r : Rule) : List Nat := (Dx.places r.body).filter fun v => (Dx.places r.head).contains v
def keyOf (r : Rule) (s : Fill) : List Nat := (shared r).map fun v => (Fill.at_ s v).getD 0
def fillOf (r : Rule) (k : List Nat) : Fill := (shared r).zip k
def fails (l : List Fact) (r : Rule) (k : List Nat) : Bool := (Dx.matches_ l r.head (fillOf r k)).isEmpty
theorem at_zip_map (g : Nat → Nat) (v : Nat) : ∀ l : List Nat, Fill.at_ (l.zip (l.map g)) v = if v ∈ l then some (g v) else none
  | [] => rfl
  | x :: l => by
    rw [List.map_cons, List.zip_cons_cons, at_cons, at_zip_map g v l]
    by_cases e : x = v
    · subst e; simp
    · have e' : ¬ v = x := fun q => e q.symm
      simp [e, e']
theorem mem_shared {r : Rule} {v : Nat} : v ∈ shared r ↔ v ∈ Dx.places r.body ∧ v ∈ Dx.places r.head := by simp [shared]
theorem at_fillOf {r : Rule} {s : Fill} {m : List Fact} (h : runm [] r.body m = some s) {v : Nat} (hv : v ∈ Dx.places r.head) : Fill.at_ (fillOf r (keyOf r s)) v = Fill.at_ s v := by
  unfold fillOf keyOf
  rw [at_zip_map]
  have k := runm_at h v
  by_cases hb : v ∈ Dx.places r.body
  · rw [if_pos (mem_shared.mpr ⟨hb, hv⟩)]
    have k2 : (Fill.at_ s v).isSome = true := k.mpr (.inr hb)
    cases e : Fill.at_ s v with
    | none => rw [e] at k2; cases k2
    | some a => rfl
  · rw [if_neg (fun q => hb (mem_shared.mp q).1)]
    cases e : Fill.at_ s v with
    | none => rfl
    | some a =>
      rw [e] at k
      rcases k.mp rfl with q | q
      · rw [at_nil] at q; cases q
      · exact absurd q hb
theorem agree_fillOf {r : Rule} {s : Fill} {m : List Fact} (h : runm [] r.body m = some s) : Agree r.head (fillOf r (keyOf r s)) s := fun a ha =>
  ⟨at_fillOf h (mem_places.mpr ⟨a, ha, .inl rfl⟩), at_fillOf h (mem_places.mpr ⟨a, ha, .inr rfl⟩)⟩
theorem fails_is {l : List Fact} {r : Rule} {s : Fill} {m : List Fact} (h : runm [] r.body m = some s) : fails l r (keyOf r s) = (Dx.matches_ l r.head s).isEmpty := empty_agree (agree_fillOf h)

/-! ### the watch -/
structure Wt where
  settled : List (List Nat)
  waiting : List (List Nat × List Fact)
/-- Python's < of two tuples of facts -/
def ltM : List Fact → List Fact → Bool
  | [], [] => false
  | [], _ :: _ => true
  | _ :: _, [] => false
  | f :: r, g :: s => if f = g then ltM r s else decide (LtF f g)
theorem ltM_false : ∀ {m n : List Fact}, ltM m n = false ↔ leM n m
  | [], [] => by simp [ltM, leM]
  | [], _ :: _ => by simp [ltM, leM]
  | _ :: _, [] => by simp [ltM, leM]
  | f :: r, g :: s => by
    unfold ltM leM
    by_cases e : f = g
    · subst e
      rw [if_pos rfl, ltM_false]
      constructor
      · intro h; exact .inr ⟨rfl, h⟩
      · rintro (h | h)
        · exact absurd h (LtF.irrefl _)
        · exact h.2
    · rw [if_neg e, decide_eq_false_iff_not]
      constructor
      · intro h
        rcases LtF.tri f g with k | k | k
        · exact absurd k h
        · exact absurd k e
        · exact .inl k
      · rintro (h | h) k
        · exact LtF.irrefl _ (h.trans k)
        · exact e h.1.symm
theorem ltM_true {m n : List Fact} (h : ltM m n = true) : leM m n := by
  rcases leM.total m n with k | k
  · exact k
  · rw [ltM_false.mpr k] at h; cases h
/-- min(a, b) -/
def minM (a b : List Fact) : List Fact := if ltM b a = true then b else a
theorem minM_or (a b : List Fact) : minM a b = a ∨ minM a b = b := by unfold minM; split <;> simp
theorem minM_l (a b : List Fact) : leM (minM a b) a := by
  unfold minM
  by_cases h : ltM b a = true
  · rw [if_pos h]; exact ltM_true h
  · rw [if_neg h]; exact leM.refl a
theorem minM_r (a b : List Fact) : leM (minM a b) b := by
  unfold minM
  by_cases h : ltM b a = true
  · rw [if_pos h]; exact leM.refl b
  · rw [if_neg h]
    exact ltM_false.mp (by simpa using h)
def addS (l : List (List Nat)) (k : List Nat) : List (List Nat) := if k ∈ l then l else l ++ [k]
theorem mem_addS {l : List (List Nat)} {k j : List Nat} : j ∈ addS l k ↔ j ∈ l ∨ j = k := by
  unfold addS
  by_cases h : k ∈ l
  · rw [if_pos h]
    constructor
    · exact .inl
    · rintro (h' | rfl)
      · exact h'
      · exact h
  · rw [if_neg h]; simp
def Wt.take (w : Wt) (m : List Fact) (k : List Nat) : Wt := if k ∈ w.settled then w else { w with waiting := putA w.waiting k (minM m ((getA w.waiting k).getD m)) }
structure WInv (r : Rule) (l : List Fact) (P : List Fact → Prop) (w : Wt) : Prop where
  set : ∀ k ∈ w.settled, fails l r k = false
  val : ∀ k m, (k, m) ∈ w.waiting → (∀ f ∈ m, f ∈ l) ∧ ∃ s, runm [] r.body m = some s ∧ keyOf r s = k
  cov : ∀ m s, (∀ f ∈ m, f ∈ l) → runm [] r.body m = some s → P m → keyOf r s ∈ w.settled ∨ ∃ m', (keyOf r s, m') ∈ w.waiting ∧ leM m' m
  nd : (w.waiting.map (·.1)).Nodup
theorem WInv.new {r : Rule} (hb : r.body ≠ []) : WInv r [] (fun _ => True) ⟨[], []⟩ where
  set := fun k h => by simp at h
  val := fun k m h => by simp at h
  cov := fun m s hm hr _ => by
    cases m with
    | nil =>
      cases e : r.body with
      | nil => exact absurd e hb
      | cons a as => rw [e] at hr; simp [runm] at hr
    | cons f m => exact absurd (hm f (by simp)) (by simp)
  nd := by simp
/-- more facts, fewer matches spoken of -/
theorem WInv.more {r : Rule} {l l' : List Fact} {P Q : List Fact → Prop} {w : Wt} (i : WInv r l P w) (hl : ∀ f ∈ l, f ∈ l') (hq : ∀ m, (∀ f ∈ m, f ∈ l') → Q m → (∀ f ∈ m, f ∈ l) ∧ P m) : WInv r l' Q w where
  set := fun k hk => empty_mono hl (i.set k hk)
  val := fun k m h => ⟨fun f hf => hl f ((i.val k m h).1 f hf), (i.val k m h).2⟩
  cov := fun m s hm hr q => i.cov m s (hq m hm q).1 hr (hq m hm q).2
  nd := i.nd
/-- one match is taken up -/
theorem WInv.take {r : Rule} {l : List Fact} {P : List Fact → Prop} {w : Wt} (i : WInv r l P w) {m : List Fact} {s : Fill} (hm : ∀ f ∈ m, f ∈ l) (hr : runm [] r.body m = some s) : WInv r l (fun n => P n ∨ n = m) (w.take m (keyOf r s)) := by
  unfold Wt.take
  by_cases hs : keyOf r s ∈ w.settled
  · rw [if_pos hs]
    refine ⟨i.set, i.val, fun n t hn ht q => ?_, i.nd⟩
    rcases q with q | rfl
    · exact i.cov n t hn ht q
    · rw [hr] at ht; cases ht; exact .inl hs
  · rw [if_neg hs]
    refine ⟨i.set, fun k n h => ?_, fun n t hn ht q => ?_, nodup_putA i.nd _ _⟩
    · rcases mem_putA.mp h with ⟨rfl, rfl⟩ | ⟨_, h⟩
      · rcases minM_or m ((getA w.waiting (keyOf r s)).getD m) with e | e
        · rw [e]; exact ⟨hm, s, hr, rfl⟩
        · rw [e]
          cases g : getA w.waiting (keyOf r s) with
          | none => exact ⟨hm, s, hr, rfl⟩
          | some m' => exact i.val _ _ (getA_some g)
      · exact i.val k n h
    · have old : P n → keyOf r t ∈ w.settled ∨ ∃ m', (keyOf r t, m') ∈ putA w.waiting (keyOf r s) (minM m ((getA w.waiting (keyOf r s)).getD m)) ∧ leM m' n := by
        intro q
        rcases i.cov n t hn ht q with k | ⟨m', k1, k2⟩
        · exact .inl k
        · by_cases e : keyOf r t = keyOf r s
          · refine .inr ⟨_, mem_putA.mpr (.inl ⟨e, rfl⟩), ?_⟩
            rw [e] at k1
            rw [getA_of i.nd k1]
            exact (minM_r m m').trans k2
          · exact .inr ⟨m', mem_putA.mpr (.inr ⟨e, k1⟩), k2⟩
      rcases q with q | rfl
      · exact old q
      · rw [hr] at ht; cases ht
        exact .inr ⟨_, mem_putA.mpr (.inl ⟨rfl, rfl⟩), minM_l n _⟩

/-! ### the lists that `matches` gives -/
def fitS (s : Fill) (a : Atom) (S : List Fact) : List Fact := S.filter fun f => (Dx.fit s a f).isSome
def mstep (L : List (List Fact × Fill)) (p : List Fact × Atom) : List (List Fact × Fill) := L.flatMap fun q => (fitS q.2 p.2 p.1).map fun f => (q.1 ++ [f], (Dx.fit q.2 p.2 f).getD [])
def mlist (z : List (List Fact × Atom)) (L : List (List Fact × Fill)) : List (List Fact × Fill) := z.foldl mstep L
theorem mem_mstep {L : List (List Fact × Fill)} {S : List Fact} {a : Atom} {m : List Fact} {s : Fill} : (m, s) ∈ mstep L (S, a) ↔ ∃ m0 s0 f, (m0, s0) ∈ L ∧ f ∈ S ∧ Dx.fit s0 a f = some s ∧ m = m0 ++ [f] := by
  unfold mstep
  rw [List.mem_flatMap]
  constructor
  · rintro ⟨⟨m0, s0⟩, hL, h⟩
    obtain ⟨f, hf, e⟩ := List.mem_map.mp h
    have k := List.mem_filter.mp hf
    cases g : Dx.fit s0 a f with
    | none => have := k.2; dsimp only at this; rw [g] at this; cases this
    | some u =>
      have e' : (m0 ++ [f], (Dx.fit s0 a f).getD []) = (m, s) := e
      rw [g] at e'
      cases e'
      exact ⟨m0, s0, f, hL, k.1, g, rfl⟩
  · rintro ⟨m0, s0, f, hL, hf, g, rfl⟩
    refine ⟨(m0, s0), hL, List.mem_map.mpr ⟨f, List.mem_filter.mpr ⟨hf, by dsimp only; rw [g]; rfl⟩, ?_⟩⟩
    show (m0 ++ [f], (Dx.fit s0 a f).getD []) = (m0 ++ [f], s)
    rw [g]; rfl
/-- the facts, one for each atom, each of its own source -/
inductive From : List Fact → List (List Fact × Atom) → Prop
  | nil : From [] []
  | cons {f : Fact} {m : List Fact} {S : List Fact} {a : Atom} {z : List (List Fact × Atom)} : f ∈ S → From m z → From (f :: m) ((S, a) :: z)
theorem mem_mlist : ∀ {z : List (List Fact × Atom)} {L : List (List Fact × Fill)} {m : List Fact} {s : Fill}, (m, s) ∈ mlist z L ↔ ∃ m0 s0 m1, (m0, s0) ∈ L ∧ From m1 z ∧ runm s0 (z.map (·.2)) m1 = some s ∧ m = m0 ++ m1
  | [], L, m, s => by
    constructor
    · intro h
      exact ⟨m, s, [], h, .nil, rfl, by simp⟩
    · rintro ⟨m0, s0, m1, hL, hf, hr, rfl⟩
      cases hf
      have e : s0 = s := by simpa [runm] using hr
      subst e
      simpa [mlist] using hL
  | (S, a) :: z, L, m, s => by
    show (m, s) ∈ mlist z (mstep L (S, a)) ↔ _
    rw [mem_mlist]
    constructor
    · rintro ⟨m0, s0, m1, hL, hf, hr, rfl⟩
      obtain ⟨n0, t0, f, hL', hS, g, rfl⟩ := mem_mstep.mp hL
      exact ⟨n0, t0, f :: m1, hL', .cons hS hf, runm_of g hr, by simp⟩
    · rintro ⟨m0, s0, m1, hL, hf, hr, rfl⟩
      cases hf with
      | @cons f m' _ _ _ hS hf =>
        obtain ⟨f', r', u, e, g, q⟩ := runm_cons (as := z.map (·.2)) hr
        have e1 : f = f' := (List.cons.inj e).1
        have e2 : m' = r' := (List.cons.inj e).2
        subst e1; subst e2
        exact ⟨m0 ++ [f], u, m', mem_mstep.mpr ⟨m0, s0, f, hL, hS, g, rfl⟩, hf, q, by simp⟩
theorem length_mstep {b : Nat} {L : List (List Fact × Fill)} {p : List Fact × Atom} (h : p.1.length ≤ b) : (mstep L p).length ≤ L.length * b := by
  unfold mstep
  induction L with
  | nil => simp
  | cons q L ih =>
    rw [List.flatMap_cons, List.length_append, List.length_map, List.length_cons, Nat.succ_mul]
    have h1 : (fitS q.2 p.2 p.1).length ≤ p.1.length := List.length_filter_le _ _
    omega

/-! ### meet -/
def takeAll (r : Rule) (w : Wt) (L : List (List Fact × Fill)) : Wt := L.foldl (fun w p => w.take p.1 (keyOf r p.2)) w
theorem WInv.takeAll {r : Rule} {l : List Fact} : ∀ {L : List (List Fact × Fill)} {P : List Fact → Prop} {w : Wt}, WInv r l P w → (∀ p ∈ L, (∀ f ∈ p.1, f ∈ l) ∧ runm [] r.body p.1 = some p.2) → WInv r l (fun n => P n ∨ ∃ p ∈ L, p.1 = n) (takeAll r w L)
  | [], P, w, i, _ => i.more (fun _ h => h) fun m hm h => ⟨hm, by
      rcases h with h | ⟨p, hp, _⟩
      · exact h
      · simp at hp⟩
  | p :: L, P, w, i, h => by
    have h1 := h p (by simp)
    have k := WInv.takeAll (L := L) (i.take h1.1 h1.2) fun q hq => h q (by simp [hq])
    refine k.more (fun _ h => h) fun m hm q => ⟨hm, ?_⟩
    rcases q with q | ⟨p', hp', e⟩
    · exact .inl (.inl q)
    · rcases List.mem_cons.mp hp' with rfl | hp'
      · exact .inl (.inr e.symm)
      · exact .inr ⟨p', hp', e⟩
/-- the sources of one place, zipped with the atoms -/
def srcs (body : List Atom) (Fr S : List Fact) (i : Nat) : List (List Fact × Atom) := ((body.map fun _ => S).set i Fr).zip body
theorem from_zip : ∀ {body : List Atom} {Ss : List (List Fact)} {m : List Fact}, Ss.length = body.length → (From m (Ss.zip body) ↔ m.length = body.length ∧ ∀ (j : Nat) (f : Fact), m[j]? = some f → ∃ S : List Fact, Ss[j]? = some S ∧ f ∈ S)
  | [], [], m, _ => by
    constructor
    · intro h; cases h; simp
    · rintro ⟨h, _⟩
      have : m = [] := List.length_eq_zero_iff.mp h
      subst this
      exact .nil
  | [], _ :: _, m, h => by simp at h
  | _ :: _, [], m, h => by simp at h
  | a :: body, S :: Ss, m, h => by
    have h' : Ss.length = body.length := by simpa using h
    constructor
    · intro q
      rw [List.zip_cons_cons] at q
      cases q with
      | cons hf q =>
        have k := (from_zip h').mp q
        refine ⟨by simp [k.1], fun j f e => ?_⟩
        cases j with
        | zero =>
          simp at e
          subst e
          exact ⟨S, by simp, hf⟩
        | succ j => simpa using k.2 j f (by simpa using e)
    · rintro ⟨hl, k⟩
      cases m with
      | nil => simp at hl
      | cons f m =>
        rw [List.zip_cons_cons]
        refine .cons ?_ ((from_zip h').mpr ⟨by simpa using hl, fun j g e => ?_⟩)
        · obtain ⟨S', e, q⟩ := k 0 f (by simp)
          simp at e
          subst e
          exact q
        · simpa using k (j + 1) g (by simpa using e)
theorem from_srcs {body : List Atom} {Fr S : List Fact} {i : Nat} {m : List Fact} : From m (srcs body Fr S i) ↔ m.length = body.length ∧ ∀ (j : Nat) (f : Fact), m[j]? = some f → f ∈ (if j = i then Fr else S) := by
  unfold srcs
  rw [from_zip (by simp)]
  constructor
  · rintro ⟨h, k⟩
    refine ⟨h, fun j f e => ?_⟩
    obtain ⟨S', e', q⟩ := k j f e
    have hj : j < body.length := by
      rw [← h]; exact (List.getElem?_eq_some_iff.mp e).1
    rw [List.getElem?_set] at e'
    by_cases hij : i = j
    · subst hij
      simp [hj] at e'
      rw [if_pos rfl, e']; exact q
    · rw [if_neg hij] at e'
      rw [if_neg (fun q => hij q.symm)]
      simp [hj] at e'
      rw [e']; exact q
  · rintro ⟨h, k⟩
    refine ⟨h, fun j f e => ?_⟩
    have hj : j < body.length := by
      rw [← h]; exact (List.getElem?_eq_some_iff.mp e).1
    refine ⟨if j = i then Fr else S, ?_, k j f e⟩
    rw [List.getElem?_set]
    by_cases hij : i = j
    · subst hij; simp [hj]
    · rw [if_neg hij, if_neg (fun q => hij q.symm)]; simp [hj]
theorem srcs_map {body : List Atom} {Fr S : List Fact} {i : Nat} : (srcs body Fr S i).map (·.2) = body := by
  unfold srcs
  rw [List.map_snd_zip]
  simp
def placeL (body : List Atom) (Fr S : List Fact) (i : Nat) : List (List Fact × Fill) := mlist (srcs body Fr S i) [([], [])]
theorem mem_placeL {body : List Atom} {Fr S : List Fact} {i : Nat} {m : List Fact} {s : Fill} : (m, s) ∈ placeL body Fr S i ↔ runm [] body m = some s ∧ ∀ (j : Nat) (f : Fact), m[j]? = some f → f ∈ (if j = i then Fr else S) := by
  unfold placeL
  rw [mem_mlist, srcs_map]
  constructor
  · rintro ⟨m0, s0, m1, hL, hf, hr, rfl⟩
    have e : (m0, s0) = (([], []) : List Fact × Fill) := by simpa using hL
    cases e
    exact ⟨by simpa using hr, (from_srcs.mp hf).2⟩
  · rintro ⟨hr, k⟩
    exact ⟨[], [], m, by simp, from_srcs.mpr ⟨runm_len hr, k⟩, hr, by simp⟩
def meetW (r : Rule) (w : Wt) (Fr S : List Fact) : Wt := (List.range r.body.length).foldl (fun w i => takeAll r w (placeL r.body Fr S i)) w
theorem WInv.places {r : Rule} {Fr S : List Fact} (hF : ∀ f ∈ Fr, f ∈ S) : ∀ {is : List Nat} {P : List Fact → Prop} {w : Wt}, WInv r S P w →
    WInv r S (fun n => P n ∨ ∃ i ∈ is, ∃ s, (n, s) ∈ placeL r.body Fr S i) (is.foldl (fun w i => Rb.takeAll r w (placeL r.body Fr S i)) w)
  | [], P, w, i => i.more (fun _ h => h) fun m hm h => ⟨hm, by
      rcases h with h | ⟨p, hp, _⟩
      · exact h
      · simp at hp⟩
  | j :: is, P, w, i => by
    have k1 := WInv.takeAll (L := placeL r.body Fr S j) i fun p hp => by
      obtain ⟨hr, k⟩ := mem_placeL.mp (show (p.1, p.2) ∈ _ from hp)
      refine ⟨fun f hf => ?_, hr⟩
      obtain ⟨n, hn, e⟩ := List.getElem_of_mem hf
      have := k n f (by rw [← e]; exact List.getElem?_eq_getElem hn)
      by_cases q : n = j
      · rw [if_pos q] at this; exact hF f this
      · rw [if_neg q] at this; exact this
    refine (WInv.places hF (is := is) k1).more (fun _ h => h) fun m hm q => ⟨hm, ?_⟩
    rcases q with q | ⟨j', hj, s, h⟩
    · exact .inl (.inl q)
    · rcases List.mem_cons.mp hj with rfl | hj
      · exact .inl (.inr ⟨(m, s), h, rfl⟩)
      · exact .inr ⟨j', hj, s, h⟩
theorem WInv.meet {r : Rule} {S0 Fr S : List Fact} {w : Wt} (i : WInv r S0 (fun _ => True) w) (h0 : ∀ f ∈ S0, f ∈ S) (hF : ∀ f ∈ Fr, f ∈ S) (hS : ∀ f ∈ S, f ∈ S0 ∨ f ∈ Fr) : WInv r S (fun _ => True) (meetW r w Fr S) := by
  have k0 : WInv r S (fun m => ∀ f ∈ m, f ∈ S0) w := i.more h0 fun m hm q => ⟨q, trivial⟩
  have k := WInv.places (Fr := Fr) hF (is := List.range r.body.length) k0
  refine ⟨k.set, k.val, fun m s hm hr _ => k.cov m s hm hr ?_, k.nd⟩
  by_cases q : ∀ f ∈ m, f ∈ S0
  · exact .inl q
  · right
    obtain ⟨f, hf⟩ := Classical.not_forall.mp q
    obtain ⟨hfm, hf0⟩ := Classical.not_imp.mp hf
    obtain ⟨n, hn, e⟩ := List.getElem_of_mem hfm
    have hl := runm_len hr
    refine ⟨n, by rw [List.mem_range]; omega, s, mem_placeL.mpr ⟨hr, fun j g eg => ?_⟩⟩
    by_cases hj : j = n
    · subst hj
      rw [if_pos rfl]
      rw [List.getElem?_eq_getElem hn] at eg
      have eg' := Option.some.inj eg
      rw [← eg', e]
      rcases hS f (hm f hfm) with z | z
      · exact absurd z hf0
      · exact z
    · rw [if_neg hj]
      exact hm g (List.mem_of_getElem? eg)

/-! ### the first match at which the rule does not hold -/
def ffLoop (r : Rule) (S : List Fact) : List (List Nat × List Fact) → Wt → Option (List Nat) × Wt
  | [], w => (none, w)
  | (k, _) :: rest, w => if fails S r k = true then (some k, w) else ffLoop r S rest ⟨addS w.settled k, dropA w.waiting k⟩
theorem WInv.settle {r : Rule} {S : List Fact} {w : Wt} (i : WInv r S (fun _ => True) w) {k : List Nat} (h : fails S r k = false) : WInv r S (fun _ => True) ⟨addS w.settled k, dropA w.waiting k⟩ where
  set := fun j hj => by
    rcases mem_addS.mp hj with hj | rfl
    · exact i.set j hj
    · exact h
  val := fun j m hj => i.val j m (mem_dropA.mp hj).2
  cov := fun m s hm hr _ => by
    rcases i.cov m s hm hr trivial with q | ⟨m', q1, q2⟩
    · exact .inl (mem_addS.mpr (.inl q))
    · by_cases e : keyOf r s = k
      · exact .inl (mem_addS.mpr (.inr e))
      · exact .inr ⟨m', mem_dropA.mpr ⟨e, q1⟩, q2⟩
  nd := nodup_dropA i.nd k
/-- what is still to come of the waiting, in order; what is past is settled -/
theorem ff_some {r : Rule} {S : List Fact} : ∀ {ord : List (List Nat × List Fact)} {w w' : Wt} {k : List Nat}, WInv r S (fun _ => True) w → (∀ p ∈ ord, p ∈ w.waiting) → (∀ p ∈ w.waiting, p ∈ ord) → (ord.map (·.1)).Nodup →
    ord.Pairwise (fun p q => leM p.2 q.2) → ffLoop r S ord w = (some k, w') → WInv r S (fun _ => True) w' ∧ fails S r k = true ∧ ∃ m s, (∀ f ∈ m, f ∈ S) ∧ runm [] r.body m = some s ∧ keyOf r s = k ∧
      ∀ m2 s2, (∀ f ∈ m2, f ∈ S) → runm [] r.body m2 = some s2 → fails S r (keyOf r s2) = true → leM m m2
  | [], w, w', k, i, _, _, _, _, h => by simp [ffLoop] at h
  | (j, n) :: rest, w, w', k, i, h1, h2, nd, pw, h => by
    have nd' := List.nodup_cons.mp nd
    have pw' := List.pairwise_cons.mp pw
    unfold ffLoop at h
    by_cases hf : fails S r j = true
    · rw [if_pos hf] at h
      cases h
      obtain ⟨hm, s, hr, e⟩ := i.val j n (h1 (j, n) (by simp))
      refine ⟨i, hf, n, s, hm, hr, e, fun m2 s2 hm2 hr2 hf2 => ?_⟩
      rcases i.cov m2 s2 hm2 hr2 trivial with q | ⟨m', q1, q2⟩
      · rw [i.set _ q] at hf2; cases hf2
      · rcases List.mem_cons.mp (h2 _ q1) with e2 | q3
        · cases e2; exact q2
        · exact leM.trans (pw'.1 _ q3) q2
    · rw [if_neg hf] at h
      have hf' : fails S r j = false := by simpa using hf
      refine ff_some (i.settle hf') (fun p hp => ?_) (fun p hp => ?_) nd'.2 pw'.2 h
      · refine mem_dropA.mpr ⟨fun e => ?_, h1 p (by simp [hp])⟩
        exact nd'.1 (List.mem_map.mpr ⟨p, hp, e⟩)
      · have q := mem_dropA.mp (show (p.1, p.2) ∈ _ from hp)
        rcases List.mem_cons.mp (h2 _ q.2) with e | q2
        · cases p; cases e; exact absurd rfl q.1
        · exact q2
theorem ff_none {r : Rule} {S : List Fact} : ∀ {ord : List (List Nat × List Fact)} {w w' : Wt}, WInv r S (fun _ => True) w → (∀ p ∈ w.waiting, p ∈ ord) → ffLoop r S ord w = (none, w') →
    WInv r S (fun _ => True) w' ∧ ∀ m2 s2, (∀ f ∈ m2, f ∈ S) → runm [] r.body m2 = some s2 → fails S r (keyOf r s2) = false
  | [], w, w', i, h2, h => by
    simp [ffLoop] at h
    subst h
    refine ⟨i, fun m2 s2 hm hr => ?_⟩
    rcases i.cov m2 s2 hm hr trivial with q | ⟨m', q1, _⟩
    · exact i.set _ q
    · exact absurd (h2 _ q1) (by simp)
  | (j, n) :: rest, w, w', i, h2, h => by
    unfold ffLoop at h
    by_cases hf : fails S r j = true
    · rw [if_pos hf] at h; cases h
    · rw [if_neg hf] at h
      have hf' : fails S r j = false := by simpa using hf
      refine ff_none (i.settle hf') (fun p hp => ?_) h
      have q := mem_dropA.mp (show (p.1, p.2) ∈ _ from hp)
      rcases List.mem_cons.mp (h2 _ q.2) with e | q2
      · cases p; cases e; exact absurd rfl q.1
      · exact q2
/-- in the specification's words: l is S in order -/
theorem find_of_some {r : Rule} {S l : List Fact} (hl : Sorted l) (hS : ∀ f, f ∈ S ↔ f ∈ l) {k : List Nat} (hk : fails S r k = true) (h : ∃ m s, (∀ f ∈ m, f ∈ S) ∧ runm [] r.body m = some s ∧ keyOf r s = k ∧
      ∀ m2 s2, (∀ f ∈ m2, f ∈ S) → runm [] r.body m2 = some s2 → fails S r (keyOf r s2) = true → leM m m2) :
    ∃ s m, (Dx.matches_ l r.body []).find? (fun s => (Dx.matches_ l r.head s).isEmpty) = some s ∧ keyOf r s = k ∧ runm [] r.body m = some s := by
  obtain ⟨m, s, hm, hr, e, hmin⟩ := h
  have conv : ∀ {m s}, runm [] r.body m = some s → fails S r (keyOf r s) = (Dx.matches_ l r.head s).isEmpty := fun hr => (fails_is hr).trans (empty_same hS _ _)
  refine ⟨s, m, find_is hl (m := m) (fun f hf => (hS f).mp (hm f hf)) hr (by rw [← conv hr, e]; exact hk) fun m2 s2 hm2 hr2 hp => ?_, e, hr⟩
  exact hmin m2 s2 (fun f hf => (hS f).mpr (hm2 f hf)) hr2 (by rw [conv hr2]; exact hp)
theorem find_of_none {r : Rule} {S l : List Fact} (hS : ∀ f, f ∈ S ↔ f ∈ l) (h : ∀ m2 s2, (∀ f ∈ m2, f ∈ S) → runm [] r.body m2 = some s2 → fails S r (keyOf r s2) = false) :
    (Dx.matches_ l r.body []).find? (fun s => (Dx.matches_ l r.head s).isEmpty) = none := by
  refine find_none.mpr fun m s hm hr => ?_
  have := h m s (fun f hf => (hS f).mpr (hm f hf)) hr
  rw [fails_is hr, empty_same hS] at this
  exact this
end Rb

/-! ## M3 -/
set_option linter.all false
set_option maxHeartbeats 1000000
/-! M3: the chase. No library. -/
namespace Rb
open Dx (Fact Facts Rule Atom Fill)

/-! ### existential variables -/
theorem at_opened_some : ∀ (vs : List Nat) (s : Fill) (n v a : Nat), Fill.at_ s v = some a → Fill.at_ (Dx.opened s vs n) v = some a
  | [], _, _, _, _, h => h
  | x :: vs, s, n, v, a, h => by
    unfold Dx.opened
    refine at_opened_some vs _ _ _ _ ?_
    rw [at_append, h]
theorem at_opened_congr : ∀ (vs : List Nat) (s s' : Fill) (n v : Nat), Fill.at_ s v = Fill.at_ s' v → Fill.at_ (Dx.opened s vs n) v = Fill.at_ (Dx.opened s' vs n) v
  | [], _, _, _, _, h => h
  | x :: vs, s, s', n, v, h => by
    unfold Dx.opened
    refine at_opened_congr vs _ _ _ _ ?_
    rw [at_append, at_append, h]
theorem at_opened_mem : ∀ (vs : List Nat) (s : Fill) (n v : Nat), v ∈ vs → ∃ a, Fill.at_ (Dx.opened s vs n) v = some a
  | x :: vs, s, n, v, h => by
    unfold Dx.opened
    rcases List.mem_cons.mp h with rfl | h
    · cases e : Fill.at_ s v with
      | some a => exact ⟨a, at_opened_some _ _ _ _ _ (by rw [at_append, e])⟩
      | none => exact ⟨n, at_opened_some _ _ _ _ _ (by rw [at_snoc _ _ _ _ e, if_pos rfl])⟩
    · exact at_opened_mem vs _ _ v h
theorem mem_open {r : Rule} {v : Nat} : v ∈ r.open_ ↔ v ∈ Dx.places r.head ∧ v ∉ Dx.places r.body := by simp [Rule.open_]
/-- the values that the head is written with -/
def vals (r : Rule) (k : List Nat) (n : Nat) : Fill := Dx.opened (fillOf r k) r.open_ n
theorem vals_inst {r : Rule} {s : Fill} {m : List Fact} (h : runm [] r.body m = some s) (n : Nat) : r.head.map (Dx.inst (vals r (keyOf r s) n)) = r.head.map (Dx.inst (Dx.opened s r.open_ n)) := by
  apply List.map_congr_left
  intro a ha
  have ag := agree_fillOf h a ha
  unfold Dx.inst vals
  rw [at_opened_congr _ _ _ _ _ ag.1, at_opened_congr _ _ _ _ _ ag.2]
theorem length_keyOf (r : Rule) (s : Fill) : (keyOf r s).length = (shared r).length := by simp [keyOf]
theorem at_zip_some {ks : List Nat} : ∀ {vs : List Nat} {v : Nat}, ks.length = vs.length → v ∈ vs → ∃ a, Fill.at_ (vs.zip ks) v = some a := by
  induction ks with
  | nil => intro vs v h hv; cases vs <;> simp_all
  | cons k ks ih =>
    intro vs v h hv
    cases vs with
    | nil => simp at hv
    | cons x vs =>
      rw [List.zip_cons_cons, at_cons]
      by_cases e : x = v
      · exact ⟨k, by simp [e]⟩
      · rcases List.mem_cons.mp hv with q | q
        · exact absurd q.symm e
        · obtain ⟨a, ha⟩ := ih (by simpa using h) q
          exact ⟨a, by simp [e, ha]⟩
theorem vals_at {r : Rule} {k : List Nat} (n : Nat) (hk : k.length = (shared r).length) {v : Nat} (hv : v ∈ Dx.places r.head) : ∃ a, Fill.at_ (vals r k n) v = some a := by
  unfold vals
  by_cases hb : v ∈ Dx.places r.body
  · obtain ⟨a, ha⟩ := at_zip_some hk (mem_shared.mpr ⟨hb, hv⟩)
    exact ⟨a, at_opened_some _ _ _ _ _ ha⟩
  · exact at_opened_mem _ _ _ _ (mem_open.mpr ⟨hv, hb⟩)

/-! ### put_atoms -/
def freshF (S fs : List Fact) : List Fact := fs.foldl (fun fr f => if f ∈ S then fr else if f ∈ fr then fr else fr ++ [f]) []
theorem freshF_go (S : List Fact) : ∀ (fs fr : List Fact), fr.Nodup → (fs.foldl (fun fr f => if f ∈ S then fr else if f ∈ fr then fr else fr ++ [f]) fr).Nodup ∧
    (∀ g, g ∈ fs.foldl (fun fr f => if f ∈ S then fr else if f ∈ fr then fr else fr ++ [f]) fr ↔ g ∈ fr ∨ (g ∈ fs ∧ g ∉ S)) ∧
    (fs.foldl (fun fr f => if f ∈ S then fr else if f ∈ fr then fr else fr ++ [f]) fr).length ≤ fr.length + fs.length
  | [], fr, h => ⟨h, by simp, by simp⟩
  | f :: fs, fr, h => by
    rw [List.foldl_cons]
    by_cases h1 : f ∈ S
    · rw [if_pos h1]
      have k := freshF_go S fs fr h
      refine ⟨k.1, fun g => ?_, by have := k.2.2; rw [List.length_cons]; omega⟩
      rw [k.2.1 g, List.mem_cons]
      constructor
      · rintro (a | ⟨a, b⟩)
        · exact .inl a
        · exact .inr ⟨.inr a, b⟩
      · rintro (a | ⟨a | a, b⟩)
        · exact .inl a
        · subst a; exact absurd h1 b
        · exact .inr ⟨a, b⟩
    · rw [if_neg h1]
      by_cases h2 : f ∈ fr
      · rw [if_pos h2]
        have k := freshF_go S fs fr h
        refine ⟨k.1, fun g => ?_, by have := k.2.2; rw [List.length_cons]; omega⟩
        rw [k.2.1 g, List.mem_cons]
        constructor
        · rintro (a | ⟨a, b⟩)
          · exact .inl a
          · exact .inr ⟨.inr a, b⟩
        · rintro (a | ⟨a | a, b⟩)
          · exact .inl a
          · subst a; exact .inl h2
          · exact .inr ⟨a, b⟩
      · rw [if_neg h2]
        have nd : (fr ++ [f]).Nodup := List.nodup_append.mpr ⟨h, by simp, fun a ha b hb => by
          have : b = f := by simpa using hb
          subst this
          intro e; subst e; exact h2 ha⟩
        have k := freshF_go S fs (fr ++ [f]) nd
        refine ⟨k.1, fun g => ?_, by have := k.2.2; rw [List.length_append, List.length_singleton] at this; rw [List.length_cons]; omega⟩
        rw [k.2.1 g, List.mem_append, List.mem_singleton, List.mem_cons]
        constructor
        · rintro ((a | a) | ⟨a, b⟩)
          · exact .inl a
          · subst a; exact .inr ⟨.inl rfl, h1⟩
          · exact .inr ⟨.inr a, b⟩
        · rintro (a | ⟨a | a, b⟩)
          · exact .inl (.inl a)
          · exact .inl (.inr a)
          · exact .inr ⟨a, b⟩
theorem freshF_nodup (S fs : List Fact) : (freshF S fs).Nodup := (freshF_go S fs [] (by simp)).1
theorem mem_freshF {S fs : List Fact} {g : Fact} : g ∈ freshF S fs ↔ g ∈ fs ∧ g ∉ S := by
  have := (freshF_go S fs [] (by simp)).2.1 g
  simpa [freshF] using this
theorem freshF_len (S fs : List Fact) : (freshF S fs).length ≤ fs.length := by
  have := (freshF_go S fs [] (by simp)).2.2
  simpa [freshF] using this
theorem tidy_sorted (l : List Fact) : Sorted (Dx.tidy l) := (foldl_put l (l := []) (by simp)).1
theorem mem_tidy {l : List Fact} {f : Fact} : f ∈ Dx.tidy l ↔ f ∈ l := by
  have := (foldl_put l (l := []) (by simp)).2 f
  simpa [Dx.tidy] using this
theorem nodup_perm {α : Type} [DecidableEq α] {l l' : List α} (h : l.Nodup) (h' : l'.Nodup) (e : ∀ x, x ∈ l ↔ x ∈ l') : l.Perm l' := by
  rw [List.perm_iff_count]
  intro a
  by_cases m : a ∈ l
  · have c1 : l.count a = 1 := by
      have := List.nodup_iff_count.mp h a
      have := List.count_pos_iff.mpr m
      omega
    have c2 : l'.count a = 1 := by
      have := List.nodup_iff_count.mp h' a
      have := List.count_pos_iff.mpr ((e a).mp m)
      omega
    rw [c1, c2]
  · rw [List.count_eq_zero.mpr m, List.count_eq_zero.mpr (fun q => m ((e a).mpr q))]
theorem tidy_perm {l : List Fact} (h : l.Nodup) : (Dx.tidy l).Perm l := nodup_perm (sorted_nodup (tidy_sorted l)) h fun _ => mem_tidy
theorem tidy_len {l : List Fact} (h : l.Nodup) : (Dx.tidy l).length = l.length := (tidy_perm h).length_eq
/-- a sorted arrangement is the tidy one -/
theorem tidy_eq {l l' : List Fact} (p : l'.Perm l) (h : Sorted l') : l' = Dx.tidy l := sorted_ext h (tidy_sorted l) fun f => by rw [mem_tidy, p.mem_iff]
/-- the facts behind put_atoms -/
def putF (S fs : List Fact) : List Fact := S ++ Dx.tidy (freshF S fs)
theorem mem_putF {S fs : List Fact} {f : Fact} : f ∈ putF S fs ↔ f ∈ S ∨ f ∈ fs := by
  unfold putF
  rw [List.mem_append, mem_tidy, mem_freshF]
  constructor
  · rintro (a | a)
    · exact .inl a
    · exact .inr a.1
  · rintro (a | a)
    · exact .inl a
    · by_cases h : f ∈ S
      · exact .inl h
      · exact .inr ⟨a, h⟩
theorem putF_nodup {S fs : List Fact} (h : S.Nodup) : (putF S fs).Nodup := by
  unfold putF
  refine List.nodup_append.mpr ⟨h, sorted_nodup (tidy_sorted _), fun a ha b hb e => ?_⟩
  subst e
  exact (mem_freshF.mp (mem_tidy.mp hb)).2 ha
theorem putF_len (S fs : List Fact) : (putF S fs).length ≤ S.length + fs.length := by
  unfold putF
  rw [List.length_append, tidy_len (freshF_nodup S fs)]
  have := freshF_len S fs
  omega

/-! ### sizes of the watches -/
def wsize (w : Wt) : Nat := w.settled.length + w.waiting.length
theorem wsize_take (w : Wt) (m : List Fact) (k : List Nat) : wsize (w.take m k) ≤ wsize w + 1 := by
  unfold Wt.take
  split
  · omega
  · have := length_putA w.waiting k (minM m ((getA w.waiting k).getD m))
    unfold wsize
    dsimp only
    omega
theorem wsize_takeAll (r : Rule) : ∀ (L : List (List Fact × Fill)) (w : Wt), wsize (takeAll r w L) ≤ wsize w + L.length
  | [], w => by simp [takeAll]
  | p :: L, w => by
    have h1 := wsize_takeAll r L (w.take p.1 (keyOf r p.2))
    have h2 := wsize_take w p.1 (keyOf r p.2)
    show wsize (takeAll r (w.take p.1 (keyOf r p.2)) L) ≤ _
    rw [List.length_cons]
    omega
def settle (w : Wt) (p : List Nat × List Fact) : Wt := ⟨addS w.settled p.1, dropA w.waiting p.1⟩
theorem length_dropA_lt {κ β : Type} [DecidableEq κ] {kvs : List (κ × β)} {k : κ} (h : k ∈ kvs.map (·.1)) : (dropA kvs k).length + 1 ≤ kvs.length := by
  obtain ⟨p, hp, e⟩ := List.mem_map.mp h
  have : (dropA kvs k).length < kvs.length := by
    unfold dropA
    exact List.length_filter_lt_length_iff_exists.mpr ⟨p, hp, by simp [e]⟩
  omega
theorem wsize_settle {w : Wt} {p : List Nat × List Fact} (h : p ∈ w.waiting) : wsize (settle w p) ≤ wsize w := by
  have h1 := length_dropA_lt (kvs := w.waiting) (k := p.1) (List.mem_map.mpr ⟨p, h, rfl⟩)
  have h2 : (addS w.settled p.1).length ≤ w.settled.length + 1 := by
    unfold addS
    split <;> simp
  unfold wsize settle
  dsimp only
  omega
theorem wsize_settles : ∀ (pre : List (List Nat × List Fact)) (w : Wt), (∀ p ∈ pre, p ∈ w.waiting) → (pre.map (·.1)).Nodup → wsize (pre.foldl settle w) ≤ wsize w
  | [], w, _, _ => Nat.le_refl _
  | p :: pre, w, h, nd => by
    have nd' := List.nodup_cons.mp nd
    have k := wsize_settles pre (settle w p) (fun q hq => by
      refine mem_dropA.mpr ⟨fun e => ?_, h q (by simp [hq])⟩
      exact nd'.1 (List.mem_map.mpr ⟨q, hq, e⟩)) nd'.2
    exact Nat.le_trans k (wsize_settle (h p (by simp)))
theorem ff_at {r : Rule} {S : List Fact} : ∀ (pre : List (List Nat × List Fact)) (w : Wt) {k : List Nat} {m : List Fact} {suf : List (List Nat × List Fact)}, (∀ p ∈ pre, fails S r p.1 = false) → fails S r k = true → ffLoop r S (pre ++ (k, m) :: suf) w = (some k, pre.foldl settle w)
  | [], w, k, m, suf, _, h => by simp [ffLoop, h]
  | p :: pre, w, k, m, suf, h1, h => by
    have := ff_at (r := r) (S := S) pre (settle w p) (k := k) (m := m) (suf := suf) (fun q hq => h1 q (by simp [hq])) h
    rw [List.cons_append]
    show (if fails S r p.1 = true then _ else _) = _
    rw [if_neg (by rw [h1 p (by simp)]; simp)]
    exact this
theorem ff_end {r : Rule} {S : List Fact} : ∀ (pre : List (List Nat × List Fact)) (w : Wt), (∀ p ∈ pre, fails S r p.1 = false) → ffLoop r S pre w = (none, pre.foldl settle w)
  | [], w, _ => rfl
  | p :: pre, w, h1 => by
    have := ff_end (r := r) (S := S) pre (settle w p) (fun q hq => h1 q (by simp [hq]))
    show (if fails S r p.1 = true then _ else _) = _
    rw [if_neg (by rw [h1 p (by simp)]; simp)]
    exact this
theorem length_mlist {b : Nat} : ∀ {z : List (List Fact × Atom)} {L : List (List Fact × Fill)}, (∀ p ∈ z, p.1.length ≤ b) → (mlist z L).length ≤ L.length * b ^ z.length
  | [], L, _ => by simp [mlist]
  | p :: z, L, h => by
    have h1 := length_mlist (z := z) (L := mstep L p) fun q hq => h q (by simp [hq])
    have h2 := length_mstep (L := L) (h p (by simp))
    show (mlist z (mstep L p)).length ≤ _
    rw [List.length_cons, Nat.pow_succ]
    calc (mlist z (mstep L p)).length ≤ (mstep L p).length * b ^ z.length := h1
      _ ≤ (L.length * b) * b ^ z.length := Nat.mul_le_mul_right _ h2
      _ = L.length * (b ^ z.length * b) := by rw [Nat.mul_assoc, Nat.mul_comm b]
theorem length_placeL {b : Nat} {body : List Atom} {Fr S : List Fact} {i : Nat} (hb : body.length ≤ 2) (h1 : Fr.length ≤ b) (h2 : S.length ≤ b) (hb1 : 1 ≤ b) : (placeL body Fr S i).length ≤ b * b := by
  have k := length_mlist (b := b) (z := srcs body Fr S i) (L := [([], [])]) fun p hp => by
    have := (List.of_mem_zip (a := p.1) (b := p.2) (show (p.1, p.2) ∈ ((body.map fun _ => S).set i Fr).zip body from hp)).1
    rcases List.mem_or_eq_of_mem_set this with q | q
    · obtain ⟨_, _, e⟩ := List.mem_map.mp q
      rw [← e]; exact h2
    · rw [q]; exact h1
  have hl : (srcs body Fr S i).length ≤ 2 := by
    unfold srcs
    rw [List.length_zip]
    simp
    exact hb
  unfold placeL
  refine Nat.le_trans k ?_
  rw [List.length_singleton, Nat.one_mul]
  calc b ^ (srcs body Fr S i).length ≤ b ^ 2 := Nat.pow_le_pow_right hb1 hl
    _ = b * b := Nat.pow_two b
theorem wsize_places {r : Rule} {Fr S : List Fact} {c : Nat} (h : ∀ i, (placeL r.body Fr S i).length ≤ c) : ∀ (is : List Nat) (w : Wt), wsize (is.foldl (fun w i => takeAll r w (placeL r.body Fr S i)) w) ≤ wsize w + c * is.length
  | [], w => by simp
  | i :: is, w => by
    rw [List.foldl_cons]
    have h1 := wsize_places h is (takeAll r w (placeL r.body Fr S i))
    have h2 := wsize_takeAll r (placeL r.body Fr S i) w
    have h3 := h i
    rw [List.length_cons, Nat.mul_succ]
    omega
theorem wsize_meet {r : Rule} {Fr S : List Fact} {w : Wt} {b : Nat} (hb : r.body.length ≤ 2) (h1 : Fr.length ≤ b) (h2 : S.length ≤ b) (hb1 : 1 ≤ b) : wsize (meetW r w Fr S) ≤ wsize w + b * b * 2 := by
  have k := wsize_places (r := r) (Fr := Fr) (S := S) (c := b * b) (fun i => length_placeL hb h1 h2 hb1) (List.range r.body.length) w
  rw [List.length_range] at k
  have : b * b * r.body.length ≤ b * b * 2 := Nat.mul_le_mul_left _ hb
  unfold meetW
  omega

/-! ### the chase -/
structure RuleOk (r : Rule) : Prop where
  b : Dx05.right r.body = true
  h : Dx05.right r.head = true
theorem right_len {l : List Atom} (h : Dx05.right l = true) : 1 ≤ l.length ∧ l.length ≤ 2 := by
  have e : Dx05.ATOMS = 2 := rfl
  simp [Dx05.right] at h
  omega
theorem RuleOk.ne {r : Rule} (o : RuleOk r) : r.body ≠ [] := by
  have := right_len o.b
  intro e; rw [e] at this; simp at this
theorem places_lt {l : List Atom} (h : Dx05.right l = true) {v : Nat} (hv : v ∈ Dx.places l) : v < 5 := by
  obtain ⟨a, ha, q⟩ := mem_places.mp hv
  have e : Dx.PLACES = 5 := rfl
  simp only [Dx05.right, Bool.and_eq_true, List.all_eq_true, decide_eq_true_eq] at h
  have := h.2.2 a ha
  rcases q with q | q <;> omega
theorem len_fold_new : ∀ (l m : List Nat), (l.foldl (fun m v => if m.contains v = true then m else m ++ [v]) m).length ≤ m.length + l.length
  | [], m => by simp
  | x :: l, m => by
    rw [List.foldl_cons]
    have k := len_fold_new l (if m.contains x = true then m else m ++ [x])
    have : (if m.contains x = true then m else m ++ [x]).length ≤ m.length + 1 := by split <;> simp
    rw [List.length_cons]
    omega
theorem flat_len : ∀ (l : List Atom), (l.flatMap fun a => [a.x, a.y]).length = 2 * l.length
  | [] => rfl
  | a :: l => by rw [List.flatMap_cons, List.length_append, flat_len l, List.length_cons]; simp; omega
theorem places_len (l : List Atom) : (Dx.places l).length ≤ 2 * l.length := by
  have k := len_fold_new (l.flatMap fun a => [a.x, a.y]) []
  rw [flat_len] at k
  simpa [Dx.places] using k
theorem open_len {r : Rule} (o : RuleOk r) : r.open_.length ≤ 5 := by
  have h1 : r.open_.length ≤ (Dx.places r.head).length := List.length_filter_le _ _
  have h2 := places_len r.head
  have h3 := right_len o.h
  omega
theorem shared_len {r : Rule} (o : RuleOk r) : (shared r).length ≤ 5 := by
  have h1 : (shared r).length ≤ (Dx.places r.body).length := List.length_filter_le _ _
  have h2 := places_len r.body
  have h3 := right_len o.b
  omega
theorem nodup_shared (r : Rule) : (shared r).Nodup := List.Nodup.sublist List.filter_sublist (nodup_places _)
def WB : Nat := 202 * 202 * 2
structure CInv (rs : List Rule) (c : Nat) (x : Dx05.State) (S : List Fact) (ws : List Wt) : Prop where
  so : Sorted x.facts
  me : ∀ f, f ∈ S ↔ f ∈ x.facts
  nd : S.Nodup
  sz : S.length ≤ 2 * (c + 1)
  nx : x.next ≤ 100 + 5 * c
  ln : ws.length = rs.length
  wi : ∀ (i : Nat) (r : Rule) (w : Wt), rs[i]? = some r → ws[i]? = some w → WInv r S (fun _ => True) w ∧ wsize w ≤ WB * (c + 1)
def findR (l : List Fact) (r : Rule) : Option Fill := (Dx.matches_ l r.body []).find? fun s => (Dx.matches_ l r.head s).isEmpty
theorem findSome_range {β : Type} (g : Nat → Option β) : ∀ (n : Nat) {j : Nat} {b : β}, j < n → (∀ i, i < j → g i = none) → g j = some b → (List.range n).findSome? g = some b
  | 0, j, b, h, _, _ => absurd h (Nat.not_lt_zero _)
  | n + 1, j, b, h, h1, h2 => by
    rw [List.range_succ, List.findSome?_append]
    by_cases e : j < n
    · rw [findSome_range g n e h1 h2]; rfl
    · have ej : j = n := by omega
      subst ej
      have : (List.range j).findSome? g = none := by
        rw [List.findSome?_eq_none_iff]
        intro i hi
        exact h1 i (List.mem_range.mp hi)
      rw [this]
      simp [h2]
theorem lacks_some {l : List Fact} {rs : List Rule} {j : Nat} {r : Rule} {s : Fill} (hj : rs[j]? = some r) (h : findR l r = some s) (h1 : ∀ i q, i < j → rs[i]? = some q → findR l q = none) : Dx05.lacks l rs = some (j, s) := by
  have hl : j < rs.length := (List.getElem?_eq_some_iff.mp hj).1
  refine findSome_range _ _ hl (fun i hi => ?_) ?_
  · have hi' : i < rs.length := by omega
    have e : rs[i]? = some rs[i] := List.getElem?_eq_getElem hi'
    have k := h1 i rs[i] hi e
    simp only [e]
    unfold findR at k
    rw [k]; rfl
  · simp only [hj]
    unfold findR at h
    rw [h]; rfl
theorem lacks_none {l : List Fact} {rs : List Rule} (h1 : ∀ (i : Nat) (q : Rule), rs[i]? = some q → findR l q = none) : Dx05.lacks l rs = none := by
  unfold Dx05.lacks
  rw [List.findSome?_eq_none_iff]
  intro i hi
  cases e : rs[i]? with
  | none => rfl
  | some r =>
    have k := h1 i r e
    unfold findR at k
    dsimp only
    rw [k]; rfl
theorem once_none {rs : List Rule} {x : Dx05.State} (h : Dx05.lacks x.facts rs = none) : Dx05.once rs x = none := by
  unfold Dx05.once; rw [h]
theorem once_some {rs : List Rule} {x : Dx05.State} {j : Nat} {r : Rule} {s : Fill} (h : Dx05.lacks x.facts rs = some (j, s)) (hj : rs[j]? = some r) :
    Dx05.once rs x = some (⟨(r.head.map (Dx.inst (Dx.opened s r.open_ x.next))).foldl (fun l f => Dx.put f l) x.facts, x.next + r.open_.length⟩, j) := by
  unfold Dx05.once; rw [h]; simp only [hj]
theorem go_none {rs : List Rule} {x : Dx05.State} (h : Dx05.once rs x = none) : ∀ n k, Dx05.go rs n k x = (x, k, true)
  | 0, k => by
    unfold Dx05.go
    have : Dx05.lacks x.facts rs = none := by
      cases e : Dx05.lacks x.facts rs with
      | none => rfl
      | some p =>
        obtain ⟨j, s⟩ := p
        have hj : j < rs.length := by
          unfold Dx05.lacks at e
          obtain ⟨i, hi, e2⟩ := List.exists_of_findSome?_eq_some e
          have hi' : i < rs.length := List.mem_range.mp hi
          have q : rs[i]? = some rs[i] := List.getElem?_eq_getElem hi'
          rw [q] at e2
          dsimp only at e2
          cases z : (Dx.matches_ x.facts rs[i].body []).find? fun s => (Dx.matches_ x.facts rs[i].head s).isEmpty with
          | none => rw [z] at e2; cases e2
          | some t => rw [z] at e2; cases e2; exact hi'
        rw [once_some e (List.getElem?_eq_getElem hj)] at h
        cases h
    rw [this]; rfl
  | n + 1, k => by
    unfold Dx05.go
    rw [h]
theorem go_some {rs : List Rule} {x : Dx05.State} {y : Dx05.State × Nat} (h : Dx05.once rs x = some y) {n k : Nat} (e : (Dx05.go rs n k x).2.2 = true) : ∃ n', n = n' + 1 ∧ Dx05.go rs n k x = Dx05.go rs n' (k + 1) y.1 := by
  cases n with
  | zero =>
    exfalso
    unfold Dx05.go at e
    have : Dx05.lacks x.facts rs = none := by
      cases q : Dx05.lacks x.facts rs with
      | none => rfl
      | some p => rw [q] at e; cases e
    rw [once_none this] at h
    cases h
  | succ n =>
    refine ⟨n, rfl, ?_⟩
    rw [Dx05.go, h]
theorem go_more {rs : List Rule} : ∀ {n m k : Nat} {x : Dx05.State}, (Dx05.go rs n k x).2.2 = true → n ≤ m → Dx05.go rs m k x = Dx05.go rs n k x
  | n, m, k, x, e, h => by
    cases q : Dx05.once rs x with
    | none => rw [go_none q, go_none q]
    | some y =>
      obtain ⟨n', rfl, e2⟩ := go_some q e
      have : ∃ m', m = m' + 1 := ⟨m - 1, by omega⟩
      obtain ⟨m', rfl⟩ := this
      rw [e2]
      rw [Dx05.go, q]
      rw [e2] at e
      exact go_more e (by omega)
  termination_by n => n
theorem comes_is {rs : List Rule} {r : Rule} (h : Dx06.ended 100 rs r = true) : Dx06.comes rs r = (Dx05.go rs 100 0 ⟨Dx06.frozen r.body, Dx.UNKNOWN⟩).1.facts := by
  unfold Dx06.comes
  rw [go_more (n := 100) h (by decide)]

/-- the start -/
theorem CInv.start {rs : List Rule} {fs : List Fact} (hr : ∀ r ∈ rs, RuleOk r) (hf : fs.length ≤ 2) : CInv rs 0 ⟨Dx.tidy fs, Dx.UNKNOWN⟩ (putF [] fs) (rs.map fun r => meetW r ⟨[], []⟩ (freshF [] fs) (putF [] fs)) where
  so := tidy_sorted fs
  me := fun f => by rw [mem_putF, mem_tidy]; simp
  nd := putF_nodup (by simp)
  sz := by have := putF_len [] fs; simp at this; omega
  nx := by show 100 ≤ _; omega
  ln := by simp
  wi := fun i r w h1 h2 => by
    rw [List.getElem?_map, h1] at h2
    cases h2
    have ok := hr r (List.mem_of_getElem? h1)
    have hb := right_len ok.b
    refine ⟨(WInv.new ok.ne).meet (by simp) (fun f hf => ?_) (fun f hf => ?_), ?_⟩
    · exact mem_putF.mpr (.inr (mem_freshF.mp hf).1)
    · rcases mem_putF.mp hf with q | q
      · exact .inl q
      · exact .inr (mem_freshF.mpr ⟨q, by simp⟩)
    · have l1 := freshF_len [] fs
      have l2 := putF_len [] fs
      have k := wsize_meet (r := r) (Fr := freshF [] fs) (S := putF [] fs) (w := ⟨[], []⟩) (b := 202) hb.2 (by omega) (by simp at l2; omega) (by omega)
      refine Nat.le_trans k ?_
      show 0 + 0 + 202 * 202 * 2 ≤ WB * (0 + 1)
      unfold WB
      omega
/-- one step: ws1 are the watches behind the search, k the key at which rule j fails -/
theorem CInv.step {rs : List Rule} {c : Nat} {x : Dx05.State} {S : List Fact} {ws ws1 : List Wt} (i : CInv rs c x S ws) (hr : ∀ r ∈ rs, RuleOk r) (hc : c < 100) (ln : ws1.length = rs.length)
    (w1 : ∀ (i : Nat) (r : Rule) (w : Wt), rs[i]? = some r → ws1[i]? = some w → WInv r S (fun _ => True) w ∧ wsize w ≤ WB * (c + 1))
    {j : Nat} {r : Rule} {k : List Nat} (hj : rs[j]? = some r) (hn : ∀ i q, i < j → rs[i]? = some q → findR x.facts q = none)
    {s : Fill} {m : List Fact} (hs : findR x.facts r = some s) (hk : keyOf r s = k) (hm : runm [] r.body m = some s) :
    ∃ y, Dx05.once rs x = some (y, j) ∧ y.next = x.next + r.open_.length ∧ CInv rs (c + 1) y (putF S (r.head.map (Dx.inst (vals r k x.next))))
      ((rs.zip ws1).map fun p => meetW p.1 p.2 (freshF S (r.head.map (Dx.inst (vals r k x.next)))) (putF S (r.head.map (Dx.inst (vals r k x.next))))) := by
  have e := lacks_some hj hs hn
  refine ⟨_, once_some e hj, rfl, ?_⟩
  have ok := hr r (List.mem_of_getElem? hj)
  have hh := right_len ok.h
  subst hk
  have ei := vals_inst hm x.next
  have fp := foldl_put (r.head.map (Dx.inst (Dx.opened s r.open_ x.next))) i.so
  have l0 : (r.head.map (Dx.inst (vals r (keyOf r s) x.next))).length ≤ 2 := by rw [List.length_map]; exact hh.2
  have l1 := freshF_len S (r.head.map (Dx.inst (vals r (keyOf r s) x.next)))
  have l2 := putF_len S (r.head.map (Dx.inst (vals r (keyOf r s) x.next)))
  have sz := i.sz
  refine ⟨fp.1, fun f => ?_, putF_nodup i.nd, by omega, ?_, by simp [ln], fun n q w h1 h2 => ?_⟩
  · rw [mem_putF, fp.2 f, i.me f, ei]
  · have := i.nx
    have := open_len ok
    show x.next + r.open_.length ≤ _
    omega
  · have hn2 : n < ws1.length := by rw [ln]; exact (List.getElem?_eq_some_iff.mp h1).1
    have e1 : ws1[n]? = some ws1[n] := List.getElem?_eq_getElem hn2
    have ez : (rs.zip ws1)[n]? = some (q, ws1[n]) := List.getElem?_zip_eq_some.mpr ⟨h1, e1⟩
    rw [List.getElem?_map, ez] at h2
    cases h2
    have wk := w1 n q _ h1 e1
    have okq := hr q (List.mem_of_getElem? h1)
    have hb := right_len okq.b
    refine ⟨wk.1.meet (fun f hf => mem_putF.mpr (.inl hf)) (fun f hf => ?_) (fun f hf => ?_), ?_⟩
    · exact mem_putF.mpr (.inr (mem_freshF.mp hf).1)
    · rcases mem_putF.mp hf with z | z
      · exact .inl z
      · by_cases hS : f ∈ S
        · exact .inl hS
        · exact .inr (mem_freshF.mpr ⟨z, hS⟩)
    · refine Nat.le_trans (wsize_meet (b := 202) hb.2 (by omega) (by omega) (by omega)) ?_
      have q2 : wsize ws1[n] ≤ WB * (c + 1) := wk.2
      show wsize ws1[n] + _ ≤ _
      unfold WB at q2 ⊢
      omega
end Rb

/-! ## M4 -/
set_option linter.all false
set_option maxHeartbeats 1000000
/-! M4: the criterion. No library. -/
namespace Rb
open Dx (Fact Facts Rule Atom Fill)
open Dx05 (Way Column)

theorem nat_pigeon : ∀ (n : Nat) (l : List Nat), l.Nodup → (∀ v ∈ l, v < n) → l.length ≤ n
  | 0, [], _, _ => Nat.le_refl _
  | 0, v :: l, _, b => absurd (b v (by simp)) (Nat.not_lt_zero _)
  | n + 1, l, h, b => by
    have k := nat_pigeon n (l.erase n) (h.erase n) fun v hv => by
      have hm := (List.Nodup.mem_erase_iff h).mp hv
      have := b v hm.2
      omega
    by_cases e : n ∈ l
    · rw [List.length_erase_of_mem e] at k; omega
    · rw [List.erase_of_not_mem e] at k; omega
def ColOk (c : Column) : Prop := c.1 < 4 ∧ c.2 < 2
theorem nodup_map_inj {α β : Type} {f : α → β} : ∀ {l : List α}, (∀ a ∈ l, ∀ b ∈ l, f a = f b → a = b) → l.Nodup → (l.map f).Nodup
  | [], _, _ => by simp
  | a :: l, h, nd => by
    have nd' := List.nodup_cons.mp nd
    rw [List.map_cons]
    refine List.nodup_cons.mpr ⟨fun q => ?_, nodup_map_inj (fun x hx y hy => h x (by simp [hx]) y (by simp [hy])) nd'.2⟩
    obtain ⟨b, hb, e⟩ := List.mem_map.mp q
    have := h b (by simp [hb]) a (by simp) e
    subst this
    exact nd'.1 hb
theorem col_pigeon {l : List Column} (h : l.Nodup) (b : ∀ c ∈ l, ColOk c) : l.length ≤ 8 := by
  have k := nat_pigeon 8 (l.map fun c => c.1 * 2 + c.2) (nodup_map_inj (fun x hx y hy e => by
    have := (b x hx).2
    have := (b y hy).2
    have e' : x.1 * 2 + x.2 = y.1 * 2 + y.2 := e
    exact Prod.ext (by omega) (by omega)) h) fun v hv => by
      obtain ⟨c, hc, e⟩ := List.mem_map.mp hv
      have := b c hc
      unfold ColOk at this
      omega
  simpa using k

inductive Reach (w : List Way) : Column → Column → Prop
  | refl (p : Column) : Reach w p p
  | step {p : Column} {e : Way} : e ∈ w → Reach w p e.from_ → Reach w p e.to
def Closed (w : List Way) (R : List Column) : Prop := ∀ e ∈ w, e.from_ ∈ R → e.to ∈ R
theorem reach_closed {w : List Way} {R : List Column} {p q : Column} (h : Closed w R) (hp : p ∈ R) (r : Reach w p q) : q ∈ R := by
  induction r with
  | refl => exact hp
  | step he _ ih => exact h _ he ih

/-! ### the specification's rounds -/
def rnd (m : List Column) (x : Way) : List Column := if m.contains x.from_ = true ∧ m.contains x.to = false then m ++ [x.to] else m
theorem rnd_cases (m : List Column) (x : Way) : (rnd m x = m ∧ (x.from_ ∈ m → x.to ∈ m)) ∨ (rnd m x = m ++ [x.to] ∧ x.from_ ∈ m ∧ x.to ∉ m) := by
  unfold rnd
  by_cases h : m.contains x.from_ = true ∧ m.contains x.to = false
  · rw [if_pos h]
    exact .inr ⟨rfl, by simpa using h.1, by simpa using h.2⟩
  · rw [if_neg h]
    refine .inl ⟨rfl, fun h1 => ?_⟩
    by_cases h2 : x.to ∈ m
    · exact h2
    · exact absurd ⟨by simpa using h1, by simpa using h2⟩ h
theorem rnds {p : Column} {w0 : List Way} : ∀ (w : List Way) (m : List Column), (∀ e ∈ w, e ∈ w0) → (∀ e ∈ w, ColOk e.to) → (∀ c ∈ m, Reach w0 p c) → m.Nodup → (∀ c ∈ m, ColOk c) →
    (∀ c ∈ w.foldl rnd m, Reach w0 p c) ∧ (w.foldl rnd m).Nodup ∧ (∀ c ∈ w.foldl rnd m, ColOk c) ∧ (∀ c ∈ m, c ∈ w.foldl rnd m) ∧ m.length ≤ (w.foldl rnd m).length ∧
    ((w.foldl rnd m).length = m.length → w.foldl rnd m = m ∧ ∀ e ∈ w, e.from_ ∈ m → e.to ∈ m)
  | [], m, _, _, h1, h2, h3 => ⟨h1, h2, h3, fun _ h => h, Nat.le_refl _, fun _ => ⟨rfl, by simp⟩⟩
  | x :: w, m, hw, hk, h1, h2, h3 => by
    rw [List.foldl_cons]
    rcases rnd_cases m x with ⟨e, hc⟩ | ⟨e, ha, hb⟩
    · rw [e]
      obtain ⟨a1, a2, a3, a4, a5, a6⟩ := rnds (p := p) (w0 := w0) w m (fun e he => hw e (by simp [he])) (fun e he => hk e (by simp [he])) h1 h2 h3
      refine ⟨a1, a2, a3, a4, a5, fun q => ⟨(a6 q).1, fun e he hf => ?_⟩⟩
      rcases List.mem_cons.mp he with rfl | he
      · exact hc hf
      · exact (a6 q).2 e he hf
    · rw [e]
      obtain ⟨a1, a2, a3, a4, a5, a6⟩ := rnds (p := p) (w0 := w0) w (m ++ [x.to]) (fun e he => hw e (by simp [he])) (fun e he => hk e (by simp [he]))
        (fun c hc => by
          rcases List.mem_append.mp hc with hc | hc
          · exact h1 c hc
          · have : c = x.to := by simpa using hc
            subst this
            exact .step (hw x (by simp)) (h1 _ ha))
        (List.nodup_append.mpr ⟨h2, by simp, fun a h b hb' q => by
          have : b = x.to := by simpa using hb'
          subst this; subst q
          exact hb h⟩)
        (fun c hc => by
          rcases List.mem_append.mp hc with hc | hc
          · exact h3 c hc
          · have : c = x.to := by simpa using hc
            subst this
            exact hk x (by simp))
      rw [List.length_append, List.length_singleton] at a5
      refine ⟨a1, a2, a3, fun c hc => a4 c (List.mem_append.mpr (.inl hc)), by omega, fun q => ?_⟩
      exfalso
      omega
theorem reach_spec {w : List Way} (hk : ∀ e ∈ w, ColOk e.to) {p : Column} : ∀ (n : Nat) (l : List Column), (∀ c ∈ l, Reach w p c) → l.Nodup → (∀ c ∈ l, ColOk c) → p ∈ l →
    (∀ c ∈ Dx05.reach w n l, Reach w p c) ∧ p ∈ Dx05.reach w n l ∧ (8 ≤ l.length + n - 1 ∨ Closed w l → n ≠ 0 ∨ Closed w l → Closed w (Dx05.reach w n l))
  | 0, l, h1, h2, h3, h4 => by
    refine ⟨h1, h4, fun _ q => ?_⟩
    rcases q with q | q
    · exact absurd rfl q
    · exact q
  | n + 1, l, h1, h2, h3, h4 => by
    obtain ⟨a1, a2, a3, a4, a5, a6⟩ := rnds (p := p) (w0 := w) w l (fun _ h => h) hk h1 h2 h3
    show (∀ c ∈ Dx05.reach w n (w.foldl rnd l), Reach w p c) ∧ p ∈ Dx05.reach w n (w.foldl rnd l) ∧ (_ → _ → Closed w (Dx05.reach w n (w.foldl rnd l)))
    obtain ⟨b1, b2, b3⟩ := reach_spec hk n (w.foldl rnd l) a1 a2 a3 (a4 p h4)
    refine ⟨b1, b2, fun q _ => ?_⟩
    have p8 := col_pigeon a2 a3
    by_cases e : (w.foldl rnd l).length = l.length
    · have z := a6 e
      have cl : Closed w (w.foldl rnd l) := by rw [z.1]; exact z.2
      exact b3 (.inr cl) (.inr cl)
    · have h : ¬ Closed w l := fun c => by
        -- closed: nothing is added
        have : ∀ (w' : List Way), (∀ e ∈ w', e ∈ w) → w'.foldl rnd l = l := by
          intro w'
          induction w' with
          | nil => intro _; rfl
          | cons x w' ih =>
            intro hw'
            rw [List.foldl_cons]
            rcases rnd_cases l x with ⟨e1, _⟩ | ⟨_, ha, hb⟩
            · rw [e1]; exact ih fun e he => hw' e (by simp [he])
            · exact absurd (c x (hw' x (by simp)) ha) hb
        exact e (congrArg List.length (this w fun _ h => h))
      rcases q with q | q
      · have g : 8 ≤ (w.foldl rnd l).length + n - 1 := by omega
        by_cases hn : n = 0
        · -- eight columns already, or more: then no room
          subst hn
          exfalso
          omega
        · exact b3 (.inl g) (.inl hn)
      · exact absurd q h
theorem reach8 {w : List Way} (hk : ∀ e ∈ w, ColOk e.to) {p q : Column} (hp : ColOk p) : (Dx05.reach w 8 [p]).contains q = true ↔ Reach w p q := by
  obtain ⟨h1, h2, h3⟩ := reach_spec hk (p := p) 8 [p] (fun c hc => by
    have : c = p := by simpa using hc
    subst this; exact .refl _) (by simp) (fun c hc => by
    have : c = p := by simpa using hc
    subst this; exact hp) (by simp)
  have cl := h3 (.inl (by simp)) (.inl (by decide))
  constructor
  · intro h; exact h1 q (by simpa using h)
  · intro h
    have := reach_closed cl h2 h
    simpa using this

/-! ### the program's search -/
def dfsOne (here : Column) (s : List Column × List Column) (e : Way) : List Column × List Column := if e.from_ = here ∧ e.to ∉ s.1 then (s.1 ++ [e.to], s.2 ++ [e.to]) else s
structure Dfs (w : List Way) (p : Column) (R W : List Column) : Prop where
  r : ∀ c ∈ R, Reach w p c
  nd : R.Nodup
  ok : ∀ c ∈ R, ColOk c
  st : p ∈ R
  sub : ∀ c ∈ W, c ∈ R
  cl : ∀ c ∈ R, c ∉ W → ∀ e ∈ w, e.from_ = c → e.to ∈ R
theorem Dfs.start {w : List Way} {p : Column} (hp : ColOk p) : Dfs w p [p] [p] := ⟨fun c hc => by
    have : c = p := by simpa using hc
    subst this; exact .refl _, by simp, fun c hc => by
    have : c = p := by simpa using hc
    subst this; exact hp, by simp, fun _ h => h, fun c hc hn => absurd hc hn⟩
structure DfsIn (w : List Way) (p here : Column) (done : List Way) (R W : List Column) : Prop where
  r : ∀ c ∈ R, Reach w p c
  nd : R.Nodup
  ok : ∀ c ∈ R, ColOk c
  st : p ∈ R
  sub : ∀ c ∈ W, c ∈ R
  h : here ∈ R
  cl : ∀ c ∈ R, c ∉ W → c ≠ here → ∀ e ∈ w, e.from_ = c → e.to ∈ R
  dn : ∀ e ∈ done, e.from_ = here → e.to ∈ R
theorem Dfs.pop {w : List Way} {p here : Column} {R W : List Column} (d : Dfs w p R (W ++ [here])) : DfsIn w p here [] R W where
  r := d.r
  nd := d.nd
  ok := d.ok
  st := d.st
  sub := fun c hc => d.sub c (by simp [hc])
  h := d.sub here (by simp)
  cl := fun c hc hw hn => d.cl c hc fun q => by
    rcases List.mem_append.mp q with q | q
    · exact hw q
    · exact hn (by simpa using q)
  dn := by simp
theorem DfsIn.one {w : List Way} {p here : Column} {done : List Way} {R W : List Column} (d : DfsIn w p here done R W) {e : Way} (he : e ∈ w) (hk : ColOk e.to) : DfsIn w p here (done ++ [e]) (dfsOne here (R, W) e).1 (dfsOne here (R, W) e).2 := by
  unfold dfsOne
  by_cases h : e.from_ = here ∧ e.to ∉ R
  · rw [if_pos h]
    dsimp only
    refine ⟨fun c hc => ?_, List.nodup_append.mpr ⟨d.nd, by simp, fun a ha b hb q => ?_⟩, fun c hc => ?_, by simp [d.st], fun c hc => ?_, by simp [d.h], fun c hc hw hn e' he' hf => ?_, fun e' he' hf => ?_⟩
    · rcases List.mem_append.mp hc with hc | hc
      · exact d.r c hc
      · have : c = e.to := by simpa using hc
        subst this
        exact .step he (by rw [h.1]; exact d.r _ d.h)
    · have : b = e.to := by simpa using hb
      subst this; subst q
      exact h.2 ha
    · rcases List.mem_append.mp hc with hc | hc
      · exact d.ok c hc
      · have : c = e.to := by simpa using hc
        subst this; exact hk
    · rcases List.mem_append.mp hc with hc | hc
      · exact List.mem_append.mpr (.inl (d.sub c hc))
      · exact List.mem_append.mpr (.inr hc)
    · rcases List.mem_append.mp hc with hc | hc
      · exact List.mem_append.mpr (.inl (d.cl c hc (fun q => hw (List.mem_append.mpr (.inl q))) hn e' he' hf))
      · exact absurd (List.mem_append.mpr (.inr hc)) hw
    · rcases List.mem_append.mp he' with he' | he'
      · exact List.mem_append.mpr (.inl (d.dn e' he' hf))
      · have : e' = e := by simpa using he'
        subst this; simp
  · rw [if_neg h]
    refine ⟨d.r, d.nd, d.ok, d.st, d.sub, d.h, d.cl, fun e' he' hf => ?_⟩
    rcases List.mem_append.mp he' with he' | he'
    · exact d.dn e' he' hf
    · have : e' = e := by simpa using he'
      subst this
      by_cases q : e'.to ∈ R
      · exact q
      · exact absurd ⟨hf, q⟩ h
theorem DfsIn.done {w : List Way} {p here : Column} {R W : List Column} (d : DfsIn w p here w R W) : Dfs w p R W := ⟨d.r, d.nd, d.ok, d.st, d.sub, fun c hc hw e he hf => by
  by_cases q : c = here
  · subst q; exact d.dn e he hf
  · exact d.cl c hc hw q e he hf⟩
theorem Dfs.is {w : List Way} {p q : Column} {R : List Column} (d : Dfs w p R []) : q ∈ R ↔ Reach w p q :=
  ⟨d.r q, fun h => reach_closed (fun e he hf => d.cl _ hf (by simp) e he rfl) d.st h⟩
theorem dfs_measure {R W : List Column} {here : Column} {e : Way} (h8 : (dfsOne here (R, W) e).1.length ≤ 8) : 2 * (8 - (dfsOne here (R, W) e).1.length) + (dfsOne here (R, W) e).2.length ≤ 2 * (8 - R.length) + W.length := by
  unfold dfsOne at h8 ⊢
  by_cases h : e.from_ = here ∧ e.to ∉ R
  · rw [if_pos h] at h8 ⊢
    simp at h8 ⊢
    omega
  · rw [if_neg h]; exact Nat.le_refl _
/-! ### all edges stand within the eight positions -/
theorem mem_columns {l : List Atom} {v : Nat} {c : Column} (h : c ∈ Dx05.columns l v) : ∃ a ∈ l, c.1 = a.t ∧ c.2 < 2 := by
  unfold Dx05.columns at h
  obtain ⟨a, ha, h⟩ := List.mem_flatMap.mp h
  refine ⟨a, ha, ?_⟩
  rcases List.mem_append.mp h with h | h
  · split at h
    · have e : c = (a.t, 0) := by simpa using h
      rw [e]; exact ⟨rfl, by show 0 < 2; omega⟩
    · simp at h
  · split at h
    · have e : c = (a.t, 1) := by simpa using h
      rw [e]; exact ⟨rfl, by show 1 < 2; omega⟩
    · simp at h
theorem right_t {l : List Atom} (h : Dx05.right l = true) {a : Atom} (ha : a ∈ l) : a.t < 4 ∧ a.x < 5 ∧ a.y < 5 := by
  have e : Dx.PLACES = 5 := rfl
  simp only [Dx05.right, Bool.and_eq_true, List.all_eq_true, decide_eq_true_eq] at h
  have := h.2.2 a ha
  omega
theorem columns_ok {l : List Atom} (h : Dx05.right l = true) {v : Nat} {c : Column} (hc : c ∈ Dx05.columns l v) : ColOk c := by
  obtain ⟨a, ha, h1, h2⟩ := mem_columns hc
  exact ⟨by rw [h1]; exact (right_t h ha).1, h2⟩
theorem ways_ok {rs : List Rule} (hr : ∀ r ∈ rs, RuleOk r) {e : Way} (he : e ∈ Dx05.ways rs) : ColOk e.from_ ∧ ColOk e.to := by
  unfold Dx05.ways at he
  obtain ⟨r, hm, he⟩ := List.mem_flatMap.mp he
  have ok := hr r hm
  unfold Dx05.waysOf at he
  obtain ⟨v, _, he⟩ := List.mem_flatMap.mp he
  split at he
  · simp at he
  · obtain ⟨c, hc, he⟩ := List.mem_flatMap.mp he
    rcases List.mem_append.mp he with he | he
    · obtain ⟨d, hd, rfl⟩ := List.mem_map.mp he
      exact ⟨columns_ok ok.b hc, columns_ok ok.h hd⟩
    · obtain ⟨u, _, he⟩ := List.mem_flatMap.mp he
      obtain ⟨d, hd, rfl⟩ := List.mem_map.mp he
      exact ⟨columns_ok ok.b hc, columns_ok ok.h hd⟩
/-- the edges as the program lists them -/
theorem waysOf_shared (r : Rule) : Dx05.waysOf r = (shared r).flatMap fun v => (Dx05.columns r.body v).flatMap fun c => ((Dx05.columns r.head v).map fun d => (⟨c, d, false⟩ : Way)) ++ r.open_.flatMap fun u => (Dx05.columns r.head u).map fun d => ⟨c, d, true⟩ := by
  unfold Dx05.waysOf shared
  induction Dx.places r.body with
  | nil => rfl
  | cons v l ih =>
    rw [List.flatMap_cons, ih, List.filter_cons]
    cases h : (Dx.places r.head).contains v with
    | false => simp
    | true => simp
theorem ends_true {rs : List Rule} (h : ∀ e ∈ Dx05.ways rs, e.new = true → ¬ (Dx05.reach (Dx05.ways rs) 8 [e.to]).contains e.from_ = true) : Dx05.ends rs = true := by
  unfold Dx05.ends Dx05.back
  rw [Option.isNone_iff_eq_none, List.find?_eq_none]
  intro e he q
  rw [Bool.and_eq_true] at q
  exact h e he q.1 q.2
theorem ends_false {rs : List Rule} {e : Way} (he : e ∈ Dx05.ways rs) (hn : e.new = true) (h : (Dx05.reach (Dx05.ways rs) 8 [e.to]).contains e.from_ = true) : Dx05.ends rs = false := by
  unfold Dx05.ends Dx05.back
  cases q : (Dx05.ways rs).find? fun x => x.new && (Dx05.reach (Dx05.ways rs) 8 [x.to]).contains x.from_ with
  | some _ => rfl
  | none =>
    have := List.find?_eq_none.mp q e he
    rw [hn, h] at this
    exact absurd rfl this
end Rb

/-! ## HL -/
set_option Elab.async false
set_option linter.all false
set_option maxRecDepth 100000
set_option maxHeartbeats 2000000
/-! HL: a dict whose keys are tuples of ints and None, whose values are objects: get with a default, setdefault. -/
namespace L2
open PySem PySem.Spec PyProof.Rows
def leafV : Leaf → V
  | .none => .non
  | .num i => .int i
  | .text x => .str x
abbrev LEnt := List Leaf × Addr × Addr
def lEnts (kvs : List LEnt) : List (List Leaf × Addr × Value) := kvs.map fun x => (x.1, x.2.1, Value.ref x.2.2)
def lO (P : Program) (w : World) (a : Addr) (kvs : List LEnt) : HO := .ext fun h => kvs.length ≤ sizeLine ∧ (a == sysModules) = false ∧
  ∃ o es ep, h.get? a = some o ∧ o.ExactDict ∧ o.data = .dict es ep ∧ es.toList = (lEnts kvs).map (entryOfKey (tupleKind (leafKind P w))) ∧ (kvs.map (·.1)).Nodup
def lGet (kvs : List LEnt) (k : List Leaf) : Option Addr := (kvs.find? fun x => decide (x.1 = k)).map (·.2.2)
theorem leaf_is {P : Program} {w : World} {k : Leaf} {u : Value} (r : RelV (leafV k) u) : (leafKind P w).is k u = true := by
  cases k with
  | none => have e : u = Value.none := r
            subst e; rfl
  | num i => obtain ⟨t, rfl⟩ := r
             show decide (i = i) = true
             simp
  | text x => obtain ⟨t, rfl⟩ := r
              show Value.isStrOf x (Value.str x t) = true
              simp [Value.isStrOf]
theorem leaves_are {P : Program} {w : World} : ∀ {ks : List Leaf} {us : List Value}, Vals (ks.map leafV) us → ItemsAre (leafKind P w) ks us
  | [], _, r => by rw [List.map_nil] at r; cases r; exact .nil
  | k :: ks, _, r => by
    rw [List.map_cons] at r
    cases r with
    | cons h t => exact .cons (leaf_is h) (leaves_are t)
theorem lkey_of {P : Program} {w : World} {H : Hp} {h : Heap} {a : Addr} {ks : List Leaf} (ok : HOk P w H h) (e : H a = some (.tup (ks.map leafV))) : (tupleKind (leafKind P w)).is h ks a := by
  obtain ⟨_, its, r, o, h1, h2, n, h3⟩ := (show ObjOk P w H h a (.tup (ks.map leafV)) from ok a _ e)
  exact ⟨o, its.toArray, n, h1, h2, h3, by simpa using leaves_are r⟩
theorem lEnts_get (k : List Leaf) : ∀ kvs : List LEnt, (atKey (lEnts kvs) k).map (·.2) = (lGet kvs k).map Value.ref
  | [] => rfl
  | x :: r => by
    have ih := lEnts_get k r
    unfold atKey lGet lEnts at *
    rw [List.map_cons, List.find?_cons, List.find?_cons]
    by_cases e : x.1 = k
    · simp [e]
    · simp only [e, decide_false]
      exact ih
theorem lEnts_keys (kvs : List LEnt) : (lEnts kvs).map (·.1) = kvs.map (·.1) := by
  unfold lEnts
  rw [List.map_map]
  rfl
section
variable {P : Program} {w : World} {H : Hp} {h : Heap} {a : Addr} {kvs : List LEnt}
theorem lO_at (ok : HOk P w H h) (e : H a = some (lO P w a kvs)) (hk : ∀ x ∈ kvs, H x.2.1 = some (.tup (x.1.map leafV))) : kvs.length ≤ sizeLine ∧ (a == sysModules) = false ∧ h.DictOfH (tupleKind (leafKind P w)) a (lEnts kvs) := by
  obtain ⟨⟨z, y, o, es, ep, h1, h2, h3, h4, h5⟩, _, _⟩ := (show ObjOk P w H h a (lO P w a kvs) from ok a _ e)
  refine ⟨z, y, o, es, ep, h1, h2, h3, h4, fun x hx => ?_, by rw [lEnts_keys]; exact h5⟩
  obtain ⟨y, hy, rfl⟩ := List.mem_map.mp hx
  exact lkey_of ok (hk y hy)
theorem lO_new {h' : Heap} {H' : Hp} (z : kvs.length ≤ sizeLine) (hd : (a == sysModules) = false) (dd : h'.DictOfH (tupleKind (leafKind P w)) a (lEnts kvs)) : ObjOk P w H' h' a (lO P w a kvs) := by
  obtain ⟨o, es, ep, h1, h2, h3, h4, _, h5⟩ := dd
  refine ⟨⟨z, hd, o, es, ep, h1, h2, h3, h4, by rw [← lEnts_keys]; exact h5⟩, ⟨o, h1⟩, fun g1 g2 q st => ?_⟩
  obtain ⟨z, y, o, es, ep, h1, r⟩ := q
  exact ⟨z, y, o, es, ep, st o h1, r⟩
end
section
variable {X : Cx} {pins : List (Addr × Obj)} {σ : St} {H : Hp} {s : Shared} {a b : Addr} {kvs : List LEnt} {k : List Leaf} {u r : Value} {d : V} {A : Around} {E : Value → Shared → Prop}
theorem l_get {Q : Value → Shared → Prop} (hu : A.units + 1 < cLine) (I : Inv X pins σ H s) (e : H a = some (lO X.prog X.w a kvs)) (hk : ∀ x ∈ kvs, H x.2.1 = some (.tup (x.1.map leafV))) (eb : H b = some (.tup (k.map leafV))) (rd : RelV d r)
    (h : ∀ w' s', Inv X pins σ H s' → RelV (((lGet kvs k).map V.ref).getD d) w' → Q w' s') : wpAny (model X.prog X.w) A (call (.builtin "dict.get") [.ref a, .ref b, r]) Q E s := by
  obtain ⟨z, hd, dd⟩ := lO_at I.hok e hk
  refine call_meetsIn PySem.F.slot_dict_get dd.typeIs PySem.F.entry_dict_get (PySem.F.args_dict_get_3 _ _ _) (meetsH_dict_get_default (tupleKind (leafKind X.prog X.w)) a b hd r) ⟨tupleKind_room_in1 hu, k, lEnts kvs, lkey_of I.hok eb, dd, h _ _ (I.tok _) ?_⟩
  rw [lEnts_get]
  cases lGet kvs k with
  | none => exact rd
  | some l => exact rfl
theorem l_setd {l : Addr} {Q : Value → Shared → Prop} (hu : A.units + 1 < cLine) (I : Inv X pins σ H s) (e : H a = some (lO X.prog X.w a kvs)) (hk : ∀ x ∈ kvs, H x.2.1 = some (.tup (x.1.map leafV))) (eb : H b = some (.tup (k.map leafV))) (hl : kvs.length < sizeLine)
    (h1 : ∀ v, lGet kvs k = some v → ∀ s', Inv X pins σ H s' → Q (.ref v) s') (h2 : lGet kvs k = none → ∀ s', Inv X pins σ (upd H a (lO X.prog X.w a (kvs ++ [(k, b, l)]))) s' → Q (.ref l) s') :
    wpAny (model X.prog X.w) A (call (.builtin "dict.setdefault") [.ref a, .ref b, .ref l]) Q E s := by
  obtain ⟨z, hd, dd⟩ := lO_at I.hok e hk
  have hz : (lEnts kvs).length ≤ sizeLine := by unfold lEnts; rw [List.length_map]; exact z
  refine call_setdefault_heap (hsz := hz) (tupleKind_room_in1 hu) (lkey_of I.hok eb) hd dd (fun p hp => ?_) fun hn h' dd' hs => ?_
  · have q := lEnts_get k kvs
    rw [hp] at q
    cases g : lGet kvs k with
    | none => rw [g] at q; cases q
    | some v =>
      rw [g] at q
      have q' : p.2 = Value.ref v := Option.some.inj q
      rw [q']
      exact h1 v g _ (I.tok _)
  · have q := lEnts_get k kvs
    rw [hn] at q
    have g : lGet kvs k = none := by
      cases g : lGet kvs k with
      | none => rfl
      | some v => rw [g] at q; cases q
    have he : ∃ q, h'.get? a = some q := let ⟨q, _, _, hq, _⟩ := dd'; ⟨q, hq⟩
    have es : storedH (lEnts kvs) k b (Value.ref l) = lEnts (kvs ++ [(k, b, l)]) := by
      rw [storedH_new hn]
      unfold lEnts
      rw [List.map_append]
      rfl
    rw [es] at dd'
    refine h2 g _ (d_write (t' := _) I (by rw [e]; exact True.intro) hs he (lO_new (by rw [List.length_append, List.length_singleton]; omega) hd dd'))
theorem l_isD (I : Inv X pins σ H s) (e : H a = some (lO X.prog X.w a kvs)) : s.TypeIs (.ref a) "dict" ∧ (∀ b, Value.ref a = .ref b → ∃ ob, s.heap.get? b = some ob ∧ ob.dict = none) := by
  obtain ⟨⟨z, y, o, es, ep, h1, h2, h3, h4, h5⟩, _, _⟩ := (show ObjOk X.prog X.w H s.heap a (lO X.prog X.w a kvs) from I.hok a _ e)
  exact ⟨⟨o, h1, h2.1⟩, fun b q => by cases q; exact ⟨o, h1, h2.2.1⟩⟩
end
/-- d.get(y, z) -/
def tLGet (P : Program) (w : World) (td ty tx : TE) : TE := fun σ H Q => td σ H fun x H1 => ∃ a kvs0, x = .ref a ∧ H1 a = some (lO P w a kvs0) ∧ ty σ H1 fun y H2 => tx σ H2 fun z H3 =>
  ∃ kvs k b, y = .ref b ∧ H3 a = some (lO P w a kvs) ∧ (∀ x ∈ kvs, H3 x.2.1 = some (.tup (x.1.map leafV))) ∧ H3 b = some (.tup (k.map leafV)) ∧ Q (((lGet kvs k).map V.ref).getD z) H3
/-- d.setdefault(y, z) -/
def tLSetd (P : Program) (w : World) (td ty tx : TE) : TE := fun σ H Q => td σ H fun x H1 => ∃ a kvs0, x = .ref a ∧ H1 a = some (lO P w a kvs0) ∧ ty σ H1 fun y H2 => tx σ H2 fun z H3 =>
  ∃ kvs k b l, y = .ref b ∧ z = .ref l ∧ H3 a = some (lO P w a kvs) ∧ (∀ x ∈ kvs, H3 x.2.1 = some (.tup (x.1.map leafV))) ∧ H3 b = some (.tup (k.map leafV)) ∧ kvs.length < sizeLine ∧
  (∀ v, lGet kvs k = some v → Q (.ref v) H3) ∧ (lGet kvs k = none → Q (.ref l) (upd H3 a (lO P w a (kvs ++ [(k, b, l)]))))
section
variable {X : Cx} {o e f : Expr} {td ty tx : TE} {apos cpos : Pos}
theorem pe_lget (hu : X.A.units + 1 < cLine) (ho : PE X o td) (he : PE X e ty) (hf : PE X f tx) (m : M2 X o "get" apos e f cpos) : PE X (.Call (.Attribute o "get" apos) [e, f] [] cpos) (tLGet X.prog X.w td ty tx) := by
  refine ⟨fun pins s σ H Q I h => ?_⟩
  refine wpAny_Call_method m.base m.few m.line PySem.F.plainAttrs_dict PySem.F.slot_dict_get PySem.F.type_dict_get (thn (ho.run pins s σ H _ I h) fun u s1 ⟨x, H1, I1, rx, a, kvs0, ex, d, q1⟩ => ?_)
  subst ex
  obtain rfl : u = Value.ref a := rx
  obtain ⟨t1, t2⟩ := l_isD I1 d
  refine ⟨t1, t2, ?_⟩
  rw [m.trees]
  refine Calls.callWith_builtin rfl (Calls.evalArgs_plain (Calls.spliced_cons (thn (he.run pins s1 σ H1 _ I1 q1) fun iv s2 ⟨y, H2, I2, ry, q2⟩ =>
    Calls.spliced_cons (thn (hf.run pins s2 σ H2 _ I2 q2) fun fv s3 ⟨z, H3, I3, rz, kvs, k, b, ey, ea, hk, eb, q3⟩ => Calls.spliced_nil ?_))))
  subst ey
  obtain rfl : iv = Value.ref b := ry
  exact l_get hu I3 ea hk eb rz fun w' s4 I4 rw' => ⟨_, H3, I4, rw', q3⟩
theorem pe_lsetd (hu : X.A.units + 1 < cLine) (ho : PE X o td) (he : PE X e ty) (hf : PE X f tx) (m : M2 X o "setdefault" apos e f cpos) : PE X (.Call (.Attribute o "setdefault" apos) [e, f] [] cpos) (tLSetd X.prog X.w td ty tx) := by
  refine ⟨fun pins s σ H Q I h => ?_⟩
  refine wpAny_Call_method m.base m.few m.line PySem.F.plainAttrs_dict PySem.F.slot_dict_setdefault PySem.F.type_dict_setdefault (thn (ho.run pins s σ H _ I h) fun u s1 ⟨x, H1, I1, rx, a, kvs0, ex, d, q1⟩ => ?_)
  subst ex
  obtain rfl : u = Value.ref a := rx
  obtain ⟨t1, t2⟩ := l_isD I1 d
  refine ⟨t1, t2, ?_⟩
  rw [m.trees]
  refine Calls.callWith_builtin rfl (Calls.evalArgs_plain (Calls.spliced_cons (thn (he.run pins s1 σ H1 _ I1 q1) fun iv s2 ⟨y, H2, I2, ry, q2⟩ =>
    Calls.spliced_cons (thn (hf.run pins s2 σ H2 _ I2 q2) fun fv s3 ⟨z, H3, I3, rz, kvs, k, b, l, ey, ez, ea, hk, eb, hl, q3, q4⟩ => Calls.spliced_nil ?_))))
  subst ey ez
  obtain rfl : iv = Value.ref b := ry
  obtain rfl : fv = Value.ref l := rz
  exact l_setd hu I3 ea hk eb hl (fun v hv s4 I4 => ⟨.ref v, _, I4, rfl, q3 v hv⟩) fun hn s4 I4 => ⟨.ref l, _, I4, rfl, q4 hn⟩
/-- {} -/
def tDNewL (P : Program) (w : World) : TE := fun _ H Q => ∀ p, H p = none → Q (.ref p) (upd H p (lO P w p []))
theorem pe_dnewL {pos : Pos} : PE X (.Dict [] [] pos) (tDNewL X.prog X.w) := ⟨fun pins s σ H Q I h =>
  wpAny_Dict_empty ⟨.ref s.heap.objs.size, _, I.laid (a := s.heap.objs.size) (o := lO X.prog X.w s.heap.objs.size []) (t' := s.toks) (fun _ _ q => Heap.get?_push_of_some _ q) (Nat.le_refl _)
    (lO_new (Nat.zero_le _) (beq_eq_false_iff_ne.mpr (Ne.symm (Nat.ne_of_lt I.big))) (Heap.DictOfH.new s.heap)), rfl, h _ (I.hok.fresh (Nat.le_refl _))⟩⟩
end
end L2

/-! ## H0 -/
set_option Elab.async false
set_option linter.all false
set_option maxRecDepth 100000
set_option maxHeartbeats 2000000
/-! H0: how facts, atoms, assignments lie in the heap; the program's statements by their places. -/
namespace Rb
open PySem PySem.Spec PyProof.Rows L2
open Dx (Fact Facts Atom Fill)
def topS (i : Nat) : Stmt := PySem.Challenge.pw_rulebooksdesk_s01_answers.main.body.getD i (.Pass ⟨0, 0, 0, 0⟩)
/-- built-in names that the program's own names leave alone -/
structure Blt (mg : Str → Option Value) : Prop where
  dict : mg "dict" = none
  list : mg "list" = none
  len : mg "len" = none
  sorted : mg "sorted" = none
  min : mg "min" = none
  max : mg "max" = none
  zip : mg "zip" = none
  range : mg "range" = none
  tuple : mg "tuple" = none
abbrev nI (n : Nat) : V := .int (n : Int)
def factV (f : Fact) : List V := [nI f.t, nI f.a, nI f.b]
def atomV (a : Atom) : List V := [nI a.t, nI a.x, nI a.y]
def FactAt (H : Hp) (q : Addr) (f : Fact) : Prop := H q = some (.tup (factV f))
def AtomAt (H : Hp) (q : Addr) (a : Atom) : Prop := H q = some (.tup (atomV a))
def fillK (s : Fill) : List (L2.Key × V) := s.map fun p => ((Sum.inl (p.1 : Int) : L2.Key), nI p.2)
abbrev vk (v : Nat) : L2.Key := Sum.inl (v : Int)
theorem vk_inj {a b : Nat} : (vk a = vk b) ↔ a = b := by
  constructor
  · intro h
    have h' : (a : Int) = (b : Int) := Sum.inl.inj h
    omega
  · intro h; rw [h]
theorem fillK_get (v : Nat) : ∀ s : Fill, valV (fillK s) (vk v) = (Fill.at_ s v).map nI
  | [] => rfl
  | p :: s => by
    rw [at_cons]
    by_cases e : p.1 = v
    · rw [if_pos e]
      exact valV_pos (p := ((Sum.inl (p.1 : Int) : L2.Key), nI p.2)) (r := fillK s) (k := vk v) (show vk p.1 = vk v from vk_inj.mpr e)
    · rw [if_neg e]
      exact (valV_neg (p := ((Sum.inl (p.1 : Int) : L2.Key), nI p.2)) (r := fillK s) (k := vk v) (fun q => e (vk_inj.mp q))).trans (fillK_get v s)
theorem fillK_len (s : Fill) : (fillK s).length = s.length := by simp [fillK]
theorem at_none_iff {s : Fill} {v : Nat} : Fill.at_ s v = none ↔ v ∉ s.map (·.1) := by
  induction s with
  | nil => simp [at_nil]
  | cons p s ih =>
    rw [at_cons]
    by_cases e : p.1 = v
    · simp [e]
    · rw [if_neg e, ih]
      have e' : ¬ v = p.1 := fun q => e q.symm
      simp [e']
theorem fillK_put {s : Fill} {v a : Nat} (h : Fill.at_ s v = none) : putK (fillK s) (vk v) (nI a) = fillK (s ++ [(v, a)]) := by
  rw [putK_new _ (by rw [fillK_get, h]; rfl)]
  simp [fillK]
theorem fillK_same {s : Fill} {v a : Nat} (nd : (s.map (·.1)).Nodup) (h : Fill.at_ s v = some a) : putK (fillK s) (vk v) (nI a) = fillK s := by
  unfold putK
  have hk : ((fillK s).any fun kv => decide (kv.1 = vk v)) = true := by
    rw [valV_any, fillK_get, h]; rfl
  rw [if_pos hk]
  have key : ∀ (s : Fill), (s.map (·.1)).Nodup → Fill.at_ s v = some a → (fillK s).map (fun kv => if kv.1 = vk v then (kv.1, nI a) else kv) = fillK s := by
    intro s
    induction s with
    | nil => intro _ _; rfl
    | cons p s ih =>
      intro nd h
      have nd' := List.nodup_cons.mp nd
      show (if vk p.1 = vk v then (vk p.1, nI a) else (vk p.1, nI p.2)) :: (fillK s).map _ = (vk p.1, nI p.2) :: fillK s
      rw [at_cons] at h
      by_cases e : p.1 = v
      · rw [if_pos e] at h
        cases h
        rw [if_pos (vk_inj.mpr e)]
        congr 1
        -- no other entry has the key
        have : ∀ q ∈ fillK s, ¬ q.1 = vk v := by
          intro q hq z
          obtain ⟨x, hx, rfl⟩ := List.mem_map.mp hq
          have : x.1 = v := vk_inj.mp z
          exact nd'.1 (List.mem_map.mpr ⟨x, hx, this.trans e.symm⟩)
        refine (List.map_congr_left (g := id) fun q hq => if_neg (this q hq)).trans (List.map_id _)
      · rw [if_neg e] at h
        rw [if_neg (fun z => e (vk_inj.mp z))]
        congr 1
        exact ih nd'.2 h
  exact key s nd h
theorem bind_nodup {s u : Fill} {v a : Nat} (nd : (s.map (·.1)).Nodup) (h : Dx.bind s v a = some u) : (u.map (·.1)).Nodup ∧ putK (fillK s) (vk v) (nI a) = fillK u ∧ u.length ≤ s.length + 1 := by
  unfold Dx.bind at h
  cases e : Fill.at_ s v with
  | none =>
    rw [e] at h
    cases h
    refine ⟨?_, fillK_put e, by simp⟩
    rw [List.map_append]
    refine List.nodup_append.mpr ⟨nd, by simp, fun a ha b hb q => ?_⟩
    have : b = v := by simpa using hb
    subst this; subst q
    exact at_none_iff.mp e ha
  | some b =>
    rw [e] at h
    dsimp only at h
    by_cases hb : b = a
    · rw [if_pos hb] at h
      cases h
      subst hb
      exact ⟨nd, fillK_same nd e, by omega⟩
    · rw [if_neg hb] at h; cases h
theorem fit_put {s u : Fill} {a : Atom} {f : Fact} (nd : (s.map (·.1)).Nodup) (h : Dx.fit s a f = some u) :
    (u.map (·.1)).Nodup ∧ putK (putK (fillK s) (vk a.x) (nI f.a)) (vk a.y) (nI f.b) = fillK u ∧ u.length ≤ s.length + 2 ∧ (putK (fillK s) (vk a.x) (nI f.a)).length ≤ s.length + 1 := by
  obtain ⟨_, s1, h1, h2⟩ := fit_some h
  have k1 := bind_nodup nd h1
  have k2 := bind_nodup k1.1 h2
  refine ⟨k2.1, by rw [k1.2.1]; exact k2.2.1, by omega, by rw [k1.2.1, fillK_len]; omega⟩
theorem ifT {c : Bool} {A B : Prop} (hc : c = true) (h : A) : if c = true then A else B := by rw [if_pos hc]; exact h
theorem ifF {c : Bool} {A B : Prop} (hc : c = false) (h : B) : if c = true then A else B := by rw [hc, if_neg Bool.false_ne_true]; exact h
theorem upd_some {H : Hp} {p b : Addr} {o : HO} (h : (H b).isSome = true) : (upd H p o b).isSome = true := by
  unfold upd; split
  · rfl
  · exact h
theorem same_upd {H H1 : Hp} {p : Addr} {o : HO} (s : Same H H1) (h : H p = none) : Same H (upd H1 p o) := fun b o' e => by
  rw [upd_ne (fun z => by subst z; rw [h] at e; cases e)]
  exact s b o' e
end Rb

/-! ## F1 -/
set_option Elab.async false
set_option linter.all false
set_option maxRecDepth 100000
set_option maxHeartbeats 4000000
namespace Rb
open PySem PySem.Spec PyProof.Rows L2
open Dx (Fact Facts Atom Fill)
abbrev sWith : Stmt := topS 2
theorem scWith : FnScope ["values", "atom", "fact", "longer"] ["values", "atom", "fact"] (defScope sWith) := ⟨rfl, rfl, rfl, by decide +kernel, rfl, by decide +kernel, by decide +kernel⟩
def spWith : Sp := fun vs H Q _ => ∃ (d qa qf : Addr) (s u : Fill) (a : Atom) (f : Fact), vs = [.ref d, .ref qa, .ref qf] ∧ H d = some (.dK (fillK s)) ∧ AtomAt H qa a ∧ FactAt H qf f ∧
  (s.map (·.1)).Nodup ∧ s.length ≤ 1000 ∧ Dx.fit s a f = some u ∧
  ∀ H' p, Same H H' → H p = none → H' p = some (.dK (fillK u)) → Q (.ref p) H'
theorem big_lt {n : Nat} (h : n ≤ 10000000) : n < sizeLine := by rw [sizeLine_eq]; omega
section
variable {P : Program} {w : World} {K : PySem.W.Frag} {mg : Str → Option Value} {base : Heap}
theorem ok_with {f : Addr} {fd : FuncData} (F : Fun K "with_fact" "with_fact" sWith f fd) (T : Blt mg) : FnOk P w K mg base CX0 1 f fd ["values", "atom", "fact"] spWith := by
  refine F.ok scWith (fun vs H Q E h => ?_) (fun cdv A outer s H vs Q E hr h => ?_)
  · obtain ⟨d, qa, qf, s, u, a, f, rfl, _⟩ := h
    rfl
  · have hu := hu_of hr
    refine ⟨_, pss_cons (ps_set (i := 3) scWith.nd rfl (Or.inl rfl) (pe_callTy call_dictD (by rfl) T.dict (by decide +kernel) (pa_cons (pv 0) pa_nil)))
      (pss_cons (ps_dput hu (pv 3) (pe_ix ix_tup (pv 1) pe_int (fun _ _ => rfl)) (pe_ix ix_tup (pv 2) pe_int (fun _ _ => rfl)) rfl)
      (pss_cons (ps_dput hu (pv 3) (pe_ix ix_tup (pv 1) pe_int (fun _ _ => rfl)) (pe_ix ix_tup (pv 2) pe_int (fun _ _ => rfl)) rfl)
      (pss_one (ps_ret (pv 3))))), ?_⟩
    obtain ⟨d, qa, qf, s, u, a, f, rfl, hd, ha, hf, nd, hl, hfit, k⟩ := h
    obtain ⟨k1, k2, k3, k4⟩ := fit_put nd hfit
    refine ⟨_, rfl, d, fillK s, rfl, Or.inl hd, fun p hp => ?_⟩
    have s1 : Same H (upd H p (.dK (fillK s))) := same_upd (Same.refl H) hp
    have ha1 : upd H p (.dK (fillK s)) qa = some (.tup (atomV a)) := s1 _ _ ha
    have hf1 : upd H p (.dK (fillK s)) qf = some (.tup (factV f)) := s1 _ _ hf
    refine ⟨_, rfl, qf, _, _, _, rfl, rfl, SqT.of hf1, rfl, _, rfl, _, rfl, qa, _, _, _, rfl, rfl, SqT.of ha1, rfl, p, _, rfl, DPut.k (k := vk a.x) upd_same (by rw [fillK_len]; exact big_lt (by omega)), ?_⟩
    rw [upd_upd]
    have s2 : Same H (upd H p (.dK (putK (fillK s) (vk a.x) (nI f.a)))) := same_upd (Same.refl H) hp
    have ha2 : upd H p (.dK (putK (fillK s) (vk a.x) (nI f.a))) qa = some (.tup (atomV a)) := s2 _ _ ha
    have hf2 : upd H p (.dK (putK (fillK s) (vk a.x) (nI f.a))) qf = some (.tup (factV f)) := s2 _ _ hf
    refine ⟨_, rfl, qf, _, _, _, rfl, rfl, SqT.of hf2, rfl, _, rfl, _, rfl, qa, _, _, _, rfl, rfl, SqT.of ha2, rfl, p, _, rfl, DPut.k (k := vk a.y) upd_same (big_lt (by omega)), ?_⟩
    rw [upd_upd, k2]
    exact ⟨_, rfl, k _ p (same_upd (Same.refl H) hp) hp upd_same⟩
end
end Rb

/-! ## F2 -/
set_option Elab.async false
set_option linter.all false
set_option maxRecDepth 100000
set_option maxHeartbeats 4000000
/-! F2: Facts.__init__, put. -/
namespace Rb
open PySem PySem.Spec PyProof.Rows L2
open Dx (Fact Facts Atom Fill)
/-- all stands but what is owned -/
def Fr (O : List Addr) (H H' : Hp) : Prop := ∀ b o, H b = some o → b ∉ O → H' b = some o
theorem Fr.refl (O : List Addr) (H : Hp) : Fr O H H := fun _ _ h _ => h
theorem Fr.of_same {O : List Addr} {H H' : Hp} (s : Same H H') : Fr O H H' := fun b o h _ => s b o h
theorem Fr.trans {O : List Addr} {H H1 H2 : Hp} (a : Fr O H H1) (b : Fr O H1 H2) : Fr O H H2 := fun c o h n => b c o (a c o h n) n
theorem Fr.upd_new {O : List Addr} {H H1 : Hp} {p : Addr} {o : HO} (s : Fr O H H1) (h : H1 p = none) : Fr O H (upd H1 p o) := fun b o' e n => by
  rw [upd_ne (fun z => by subst z; have := s _ _ e n; rw [h] at this; cases this)]
  exact s b o' e n
theorem Fr.upd_own {O : List Addr} {H H1 : Hp} {p : Addr} {o : HO} (s : Fr O H H1) (h : p ∈ O ∨ H p = none) : Fr O H (upd H1 p o) := fun b o' e n => by
  rw [upd_ne (fun z => by
    subst z
    rcases h with h | h
    · exact n h
    · rw [h] at e; cases e)]
  exact s b o' e n
def factK (f : Fact) : List L2.Key := [Sum.inl (f.t : Int), Sum.inl (f.a : Int), Sum.inl (f.b : Int)]
theorem factK_inj {f g : Fact} : factK f = factK g ↔ f = g := by
  constructor
  · intro h
    unfold factK at h
    injection h with h1 h
    injection h with h2 h
    injection h with h3 h
    have e1 := vk_inj.mp h1
    have e2 := vk_inj.mp h2
    have e3 := vk_inj.mp h3
    exact fact_ext e1 e2 e3
  · intro h; rw [h]
theorem factK_V (f : Fact) : (factK f).map kV = factV f := rfl
def heldK (S : List Fact) : List (List L2.Key × V) := S.map fun f => (factK f, .bl true)
theorem heldK_get (f : Fact) : ∀ S : List Fact, valV (heldK S) (factK f) = if f ∈ S then some (.bl true) else none
  | [] => rfl
  | g :: S => by
    by_cases e : g = f
    · subst e
      rw [if_pos (by simp)]
      exact valV_pos (p := (factK g, V.bl true)) (r := heldK S) (k := factK g) rfl
    · have e' : ¬ f = g := fun q => e q.symm
      refine (valV_neg (p := (factK g, V.bl true)) (r := heldK S) (k := factK f) (fun q => e (factK_inj.mp q))).trans ?_
      rw [heldK_get f S]
      simp [e']
theorem heldK_put {f : Fact} {S : List Fact} (h : f ∉ S) : putK (heldK S) (factK f) (.bl true) = heldK (S ++ [f]) := by
  rw [putK_new _ (by rw [heldK_get, if_neg h])]
  simp [heldK]
def selL : Leaf → Nat → Bool
  | .none, _ => true
  | .num i, n => decide (i = (n : Int))
  | .text _, _ => false
def selK : List Leaf → Fact → Bool
  | [.num t, x, y], f => decide (t = (f.t : Int)) && (selL x f.a && selL y f.b)
  | _, _ => false
def pk (f : Fact) (n : Nat) : List Leaf := [.num f.t, if n < 2 then .num f.a else .none, if n % 2 = 0 then .num f.b else .none]
def Dn (f : Fact) (n : Nat) : List (List Leaf) := (List.range n).map (pk f)
theorem selL_none (n : Nat) : selL .none n = true := rfl
theorem selL_num (i : Int) (n : Nat) : selL (.num i) n = decide (i = (n : Int)) := rfl
theorem selK_num (t : Int) (x y : Leaf) (f : Fact) : selK [.num t, x, y] f = (decide (t = (f.t : Int)) && (selL x f.a && selL y f.b)) := rfl
theorem pk_sel (f : Fact) (n : Nat) : selK (pk f n) f = true := by
  unfold pk
  rw [selK_num]
  split <;> split <;> simp [selL_none, selL_num]
theorem selL_or {x : Leaf} {n : Nat} (h : selL x n = true) : x = .none ∨ x = .num (n : Int) := by
  cases x with
  | none => exact .inl rfl
  | num i => rw [selL_num] at h; right; rw [of_decide_eq_true h]
  | text z => cases h
theorem selK_shape {k : List Leaf} {f : Fact} (h : selK k f = true) : ∃ x y, k = [.num (f.t : Int), x, y] ∧ selL x f.a = true ∧ selL y f.b = true := by
  rcases k with _ | ⟨t, _ | ⟨x, _ | ⟨y, _ | ⟨z, r⟩⟩⟩⟩
  · cases h
  · cases t <;> cases h
  · cases t <;> cases h
  · cases t with
    | none => cases h
    | text z => cases h
    | num t =>
      rw [selK_num] at h
      simp only [Bool.and_eq_true, decide_eq_true_eq] at h
      obtain ⟨h1, h2, h3⟩ := h
      subst h1
      exact ⟨x, y, rfl, h2, h3⟩
  · cases t <;> cases h
theorem sel_mem {f : Fact} {k : List Leaf} (h : selK k f = true) : k ∈ Dn f 4 := by
  obtain ⟨x, y, rfl, h2, h3⟩ := selK_shape h
  show _ ∈ [pk f 0, pk f 1, pk f 2, pk f 3]
  rcases selL_or h2 with rfl | rfl <;> rcases selL_or h3 with rfl | rfl <;> simp [pk]
theorem mem_sel {f : Fact} {k : List Leaf} (h : k ∈ Dn f 4) : selK k f = true := by
  obtain ⟨n, _, rfl⟩ := List.mem_map.mp h
  exact pk_sel f n
theorem pk_new {f : Fact} {n : Nat} (h : n < 4) : pk f n ∉ Dn f n := by
  intro q
  obtain ⟨m, hm, e⟩ := List.mem_map.mp q
  have hm' : m < n := List.mem_range.mp hm
  unfold pk at e
  have : m = 0 ∨ m = 1 ∨ m = 2 := by omega
  have : n = 1 ∨ n = 2 ∨ n = 3 := by omega
  rcases ‹m = 0 ∨ m = 1 ∨ m = 2› with rfl | rfl | rfl <;> rcases ‹n = 1 ∨ n = 2 ∨ n = 3› with rfl | rfl | rfl <;> simp_all
theorem Dn_succ (f : Fact) (n : Nat) : Dn f (n + 1) = Dn f n ++ [pk f n] := by
  unfold Dn
  rw [List.range_succ, List.map_append]
  rfl
/-- the lookup dict while a fact is being put: n of its four keys are done -/
structure LkP (H : Hp) (S : List Fact) (f : Fact) (n : Nat) (kvs : List LEnt) : Prop where
  key : ∀ e ∈ kvs, H e.2.1 = some (.tup (e.1.map leafV))
  val : ∀ e ∈ kvs, ∃ qs : List Addr, H e.2.2 = some (.lst (qs.map V.ref)) ∧ Paired (FactAt H) qs (S.filter (selK e.1) ++ if e.1 ∈ Dn f n then [f] else [])
  abs : ∀ k, lGet kvs k = none → S.filter (selK k) = [] ∧ k ∉ Dn f n
  nd : (kvs.map (·.2.2)).Nodup
  kn : (kvs.map (·.1)).Nodup
  sz : kvs.length ≤ 4 * S.length + n
structure Lk (H : Hp) (S : List Fact) (kvs : List LEnt) : Prop where
  key : ∀ e ∈ kvs, H e.2.1 = some (.tup (e.1.map leafV))
  val : ∀ e ∈ kvs, ∃ qs : List Addr, H e.2.2 = some (.lst (qs.map V.ref)) ∧ Paired (FactAt H) qs (S.filter (selK e.1))
  abs : ∀ k, lGet kvs k = none → S.filter (selK k) = []
  nd : (kvs.map (·.2.2)).Nodup
  kn : (kvs.map (·.1)).Nodup
  sz : kvs.length ≤ 4 * S.length
theorem Lk.start {H : Hp} {S : List Fact} {kvs : List LEnt} (l : Lk H S kvs) (f : Fact) : LkP H S f 0 kvs :=
  ⟨l.key, fun e he => by
    obtain ⟨qs, h1, h2⟩ := l.val e he
    exact ⟨qs, h1, by simpa [Dn] using h2⟩, fun k h => ⟨l.abs k h, by simp [Dn]⟩, l.nd, l.kn, l.sz⟩
theorem LkP.done {H : Hp} {S : List Fact} {f : Fact} {kvs : List LEnt} (l : LkP H S f 4 kvs) : Lk H (S ++ [f]) kvs := by
  have e : ∀ k, (S ++ [f]).filter (selK k) = S.filter (selK k) ++ if k ∈ Dn f 4 then [f] else [] := fun k => by
    rw [List.filter_append]
    congr 1
    by_cases h : k ∈ Dn f 4
    · rw [if_pos h]; simp [mem_sel h]
    · rw [if_neg h]
      have : selK k f = false := by
        cases q : selK k f with
        | false => rfl
        | true => exact absurd (sel_mem q) h
      simp [this]
  refine ⟨l.key, fun x hx => ?_, fun k h => ?_, l.nd, l.kn, by have := l.sz; rw [List.length_append, List.length_singleton]; omega⟩
  · obtain ⟨qs, h1, h2⟩ := l.val x hx
    exact ⟨qs, h1, by rw [e]; exact h2⟩
  · obtain ⟨h1, h2⟩ := l.abs k h
    rw [e, h1, if_neg h2]; rfl
theorem FactAt.ne_lst {H : Hp} {q l : Addr} {f : Fact} {xs : List V} (h : FactAt H q f) (h' : H l = some (.lst xs)) : q ≠ l := ne_of h h' (fun z => nomatch z)
theorem lGet_some {kvs : List LEnt} {k : List Leaf} {l : Addr} (h : lGet kvs k = some l) : ∃ e ∈ kvs, e.1 = k ∧ e.2.2 = l := by
  unfold lGet at h
  cases q : kvs.find? fun x => decide (x.1 = k) with
  | none => rw [q] at h; cases h
  | some e =>
    rw [q] at h
    exact ⟨e, List.mem_of_find?_eq_some q, by simpa using List.find?_some q, Option.some.inj h⟩
theorem lGet_none {kvs : List LEnt} {k : List Leaf} (h : lGet kvs k = none) : ∀ e ∈ kvs, e.1 ≠ k := by
  intro e he q
  unfold lGet at h
  have := List.find?_eq_none.mp (Option.map_eq_none_iff.mp h) e he
  simp [q] at this
theorem lGet_snoc (kvs : List LEnt) (e : LEnt) (k : List Leaf) : lGet (kvs ++ [e]) k = (lGet kvs k).or (if e.1 = k then some e.2.2 else none) := by
  unfold lGet
  rw [List.find?_append]
  cases q : kvs.find? fun x => decide (x.1 = k) with
  | some y => rfl
  | none =>
    by_cases h : e.1 = k
    · simp [h]
    · simp [h]
theorem paired_facts_keep {H H' : Hp} {qs : List Addr} {fs : List Fact} (p : Paired (FactAt H) qs fs) (h : ∀ q f, FactAt H q f → FactAt H' q f) : Paired (FactAt H') qs fs := Paired.mapP p h
/-- the key was there: its list takes the fact -/
theorem LkP.old {H : Hp} {S : List Fact} {f : Fact} {n : Nat} {kvs : List LEnt} {q l : Addr} {qs : List Addr} (L : LkP H S f n kvs) (hn : n < 4) (hl : lGet kvs (pk f n) = some l) (hx : H l = some (.lst (qs.map V.ref))) (hq : FactAt H q f) :
    LkP (upd H l (.lst ((qs ++ [q]).map V.ref))) S f (n + 1) kvs := by
  obtain ⟨e0, he0, ek, el⟩ := lGet_some hl
  have fk : ∀ b g, FactAt H b g → FactAt (upd H l (.lst ((qs ++ [q]).map V.ref))) b g := fun b g h => by
    unfold FactAt
    rw [upd_ne (h.ne_lst hx)]
    exact h
  refine ⟨fun e he => ?_, fun e he => ?_, fun k h => ?_, L.nd, L.kn, by have := L.sz; omega⟩
  · have k := L.key e he
    rw [upd_ne (ne_of k hx (fun z => nomatch z))]
    exact k
  · obtain ⟨ps, h1, h2⟩ := L.val e he
    by_cases z : e.2.2 = l
    · -- the one entry
      have ee : e.1 = pk f n := by
        obtain ⟨i, hi, e1⟩ := List.getElem_of_mem he
        obtain ⟨j, hj, e2⟩ := List.getElem_of_mem he0
        have q1 : (kvs.map (·.2.2))[i]'(by simpa using hi) = e.2.2 := by simp [e1]
        have q2 : (kvs.map (·.2.2))[j]'(by simpa using hj) = e0.2.2 := by simp [e2]
        have : i = j := (List.getElem_inj L.nd).mp (q1.trans ((z.trans el.symm).trans q2.symm))
        subst this
        rw [← e1, e2]; exact ek
      rw [z] at h1
      rw [hx] at h1
      have eqs : qs.map V.ref = ps.map V.ref := by injection h1 with h1; injection h1
      have eqs' : qs = ps := (List.map_inj_right (fun a b h => by injection h)).mp eqs
      subst eqs'
      refine ⟨qs ++ [q], by rw [z]; exact upd_same, ?_⟩
      rw [ee] at h2 ⊢
      rw [if_neg (pk_new hn), List.append_nil] at h2
      rw [Dn_succ, if_pos (by simp)]
      exact Paired.snoc (paired_facts_keep h2 fk) (fk _ _ hq)
    · refine ⟨ps, by rw [upd_ne z]; exact h1, ?_⟩
      have ne : e.1 ≠ pk f n := by
        intro q'
        obtain ⟨i, hi, e1⟩ := List.getElem_of_mem he
        obtain ⟨j, hj, e2⟩ := List.getElem_of_mem he0
        have q1 : (kvs.map (·.1))[i]'(by simpa using hi) = e.1 := by simp [e1]
        have q2 : (kvs.map (·.1))[j]'(by simpa using hj) = e0.1 := by simp [e2]
        have : i = j := (List.getElem_inj L.kn).mp (q1.trans ((q'.trans ek.symm).trans q2.symm))
        subst this
        rw [e1] at e2
        exact z (by rw [e2]; exact el)
      have : (if e.1 ∈ Dn f (n + 1) then [f] else []) = (if e.1 ∈ Dn f n then [f] else []) := by
        rw [Dn_succ]
        simp [ne]
      rw [this]
      exact paired_facts_keep h2 fk
  · obtain ⟨h1, h2⟩ := L.abs k h
    refine ⟨h1, ?_⟩
    rw [Dn_succ]
    intro z
    rcases List.mem_append.mp z with z | z
    · exact h2 z
    · have : k = pk f n := by simpa using z
      subst this
      rw [hl] at h; cases h
/-- the key is new: b its tuple, l its list -/
theorem LkP.new {H : Hp} {S : List Fact} {f : Fact} {n : Nat} {kvs : List LEnt} {q b l : Addr} (L : LkP H S f n kvs) (hn : n < 4) (hl : lGet kvs (pk f n) = none) (hb : H b = some (.tup ((pk f n).map leafV))) (hx : H l = some (.lst [])) (hq : FactAt H q f)
    (fresh : ∀ e ∈ kvs, e.2.2 ≠ l) : LkP (upd H l (.lst [.ref q])) S f (n + 1) (kvs ++ [(pk f n, b, l)]) := by
  have fk : ∀ b g, FactAt H b g → FactAt (upd H l (.lst [.ref q])) b g := fun b g h => by
    unfold FactAt
    rw [upd_ne (h.ne_lst hx)]
    exact h
  obtain ⟨a1, a2⟩ := L.abs _ hl
  refine ⟨fun e he => ?_, fun e he => ?_, fun k h => ?_, ?_, ?_, by have := L.sz; rw [List.length_append, List.length_singleton]; omega⟩
  · have k : H e.2.1 = some (.tup (e.1.map leafV)) := by
      rcases List.mem_append.mp he with he | he
      · exact L.key e he
      · have : e = (pk f n, b, l) := by simpa using he
        subst this
        exact hb
    rw [upd_ne (ne_of k hx (fun z => nomatch z))]
    exact k
  · rcases List.mem_append.mp he with he | he
    · obtain ⟨ps, h1, h2⟩ := L.val e he
      refine ⟨ps, by rw [upd_ne (fresh e he)]; exact h1, ?_⟩
      have ne : e.1 ≠ pk f n := lGet_none hl e he
      have : (if e.1 ∈ Dn f (n + 1) then [f] else []) = (if e.1 ∈ Dn f n then [f] else []) := by
        rw [Dn_succ]
        simp [ne]
      rw [this]
      exact paired_facts_keep h2 fk
    · have : e = (pk f n, b, l) := by simpa using he
      subst this
      refine ⟨[q], upd_same, ?_⟩
      show Paired _ [q] (S.filter (selK (pk f n)) ++ _)
      rw [a1, Dn_succ, if_pos (by simp)]
      exact .cons (fk _ _ hq) .nil
  · rw [lGet_snoc] at h
    cases g : lGet kvs k with
    | some x => rw [g] at h; cases h
    | none =>
      rw [g] at h
      obtain ⟨h1, h2⟩ := L.abs k g
      refine ⟨h1, ?_⟩
      rw [Dn_succ]
      intro z
      rcases List.mem_append.mp z with z | z
      · exact h2 z
      · have : k = pk f n := by simpa using z
        subst this
        simp at h
  · rw [List.map_append]
    refine List.nodup_append.mpr ⟨L.nd, by simp, fun x hx1 y hy z => ?_⟩
    have hy1 : y = l := by simpa using hy
    obtain ⟨e, he, e2⟩ := List.mem_map.mp hx1
    exact fresh e he (e2.trans (z.trans hy1))
  · rw [List.map_append]
    refine List.nodup_append.mpr ⟨L.kn, by simp, fun x hx1 y hy z => ?_⟩
    have hy1 : y = pk f n := by simpa using hy
    obtain ⟨e, he, e2⟩ := List.mem_map.mp hx1
    exact lGet_none hl e he (e2.trans (z.trans hy1))
/-- what lists and key tuples are asked to keep -/
theorem LkP.keep {H H' : Hp} {S : List Fact} {f : Fact} {n : Nat} {kvs : List LEnt} (L : LkP H S f n kvs) (kt : ∀ b xs, H b = some (.tup xs) → H' b = some (.tup xs)) (kl : ∀ e ∈ kvs, H' e.2.2 = H e.2.2) : LkP H' S f n kvs :=
  ⟨fun e he => kt _ _ (L.key e he), fun e he => by
    obtain ⟨qs, h1, h2⟩ := L.val e he
    exact ⟨qs, by rw [kl e he]; exact h1, paired_facts_keep h2 fun q g h => kt _ _ h⟩, L.abs, L.nd, L.kn, L.sz⟩
theorem Lk.keep {H H' : Hp} {S : List Fact} {kvs : List LEnt} (L : Lk H S kvs) (kt : ∀ b xs, H b = some (.tup xs) → H' b = some (.tup xs)) (kl : ∀ e ∈ kvs, H' e.2.2 = H e.2.2) : Lk H' S kvs :=
  ⟨fun e he => kt _ _ (L.key e he), fun e he => by
    obtain ⟨qs, h1, h2⟩ := L.val e he
    exact ⟨qs, by rw [kl e he]; exact h1, paired_facts_keep h2 fun q g h => kt _ _ h⟩, L.abs, L.nd, L.kn, L.sz⟩
end Rb

/-! ## F3 -/
set_option Elab.async false
set_option linter.all false
set_option maxRecDepth 100000
set_option maxHeartbeats 4000000
/-! F3: Facts.__init__, put: the bodies. -/
namespace Rb
open PySem PySem.Spec PyProof.Rows L2
open Dx (Fact Facts Atom Fill)
abbrev sFacts : Stmt := topS 1
abbrev sFInit : Stmt := inClass sFacts 0
abbrev sFPut : Stmt := inClass sFacts 1
def fF (h lk : Addr) : List (Str × V) := [("held", .ref h), ("lookup", .ref lk)]
theorem fF_held (h lk : Addr) : (fF h lk).lookup ("held" : Str) = some (.ref h) := by rfl
theorem fF_lookup (h lk : Addr) : (fF h lk).lookup ("lookup" : Str) = some (.ref lk) := by rfl
def FactsAt (P : Program) (w : World) (C : Addr) (H : Hp) (a : Addr) (S : List Fact) (O : List Addr) : Prop :=
  ∃ dx h lk kvs, O = h :: lk :: kvs.map (·.2.2) ∧ H a = some (.ins C dx (fF h lk)) ∧ H h = some (.dT (heldK S)) ∧ H lk = some (lO P w lk kvs) ∧ Lk H S kvs
structure FTxt (K : PySem.W.Frag) (mg : Str → Option Value) (C : Addr) : Prop where
  b : Blt mg
  cl : Cls K C
  nH : NoAttr K C "held"
  nL : NoAttr K C "lookup"
theorem scFInit : FnScope ["self"] ["self"] (defScope sFInit) := ⟨rfl, rfl, rfl, by decide +kernel, rfl, by decide +kernel, by decide +kernel⟩
theorem scFPut : FnScope ["self", "fact", "first", "second"] ["self", "fact"] (defScope sFPut) := ⟨rfl, rfl, rfl, by decide +kernel, rfl, by decide +kernel, by decide +kernel⟩
section
variable (P : Program) (w : World) (C : Addr)
def spFInit : Sp := fun vs H Q _ => ∃ (p dx : Addr), vs = [.ref p] ∧ H p = some (.ins C dx []) ∧
  ∀ (H' : Hp) (O : List Addr), FactsAt P w C H' p [] O → (∀ b o, H b = some o → b ≠ p → H' b = some o) → (∀ b ∈ O, H b = none) → Q .non H'
def spFPut : Sp := fun vs H Q _ => ∃ (a q : Addr) (S : List Fact) (O : List Addr) (f : Fact), vs = [.ref a, .ref q] ∧ FactsAt P w C H a S O ∧ FactAt H q f ∧ S.length ≤ 100000 ∧
  (f ∈ S → Q .non H) ∧ (f ∉ S → ∀ (H' : Hp) (O' : List Addr), FactsAt P w C H' a (S ++ [f]) O' → Fr O H H' → (∀ b ∈ O', b ∈ O ∨ H b = none) → Q .non H')
end
section
variable {P : Program} {w : World} {K : PySem.W.Frag} {mg : Str → Option Value} {base : Heap} {C : Addr}
theorem ok_finit {f : Addr} {fd : FuncData} (F : Fun K "__init__" "Facts.__init__" sFInit f fd) (T : FTxt K mg C) : FnOk P w K mg base CX0 1 f fd ["self"] (spFInit P w C) := by
  refine F.ok scFInit (fun vs H Q E h => ?_) (fun cdv A outer s H vs Q E hr h => ?_)
  · obtain ⟨p, dx, rfl, _⟩ := h
    rfl
  · refine ⟨_, pss_cons (ps_fld (pv 0) pe_dnewT rfl) (pss_one (ps_fld (pv 0) pe_dnewL rfl)), ?_⟩
    obtain ⟨p, dx, rfl, hp, k⟩ := h
    intro d hd
    have np : p ≠ d := ne_of_none hp hd
    refine ⟨_, rfl, p, C, dx, [], rfl, by rw [upd_ne np]; exact hp, T.cl, T.nH, (by show 0 < 1000; decide), ?_⟩
    intro l hl
    have nl : l ≠ p := fun z => by subst z; rw [upd_same] at hl; cases hl
    have nd : l ≠ d := fun z => by subst z; rw [upd_ne np.symm, upd_same] at hl; cases hl
    have hlH : H l = none := by rw [upd_ne nl, upd_ne nd] at hl; exact hl
    refine ⟨_, rfl, p, C, dx, _, rfl, by rw [upd_ne nl.symm, upd_same], T.cl, T.nL, (by show 1 < 1000; decide), ?_⟩
    refine k _ [d, l] ⟨dx, d, l, [], rfl, ?_, ?_, ?_, ?_⟩ ?_ ?_
    · rw [upd_same]; rfl
    · rw [upd_ne np.symm, upd_ne nd.symm, upd_ne np.symm, upd_same]; rfl
    · rw [upd_ne nl, upd_same]; rfl
    · exact ⟨by simp, by simp, fun _ _ => rfl, by simp, by simp, by simp⟩
    · intro b o e hb
      rw [upd_ne hb, upd_ne (ne_of_none e hlH), upd_ne hb, upd_ne (ne_of_none e hd)]
      exact e
    · intro b hb
      rcases List.mem_cons.mp hb with rfl | hb
      · exact hd
      · have : b = l := by simpa using hb
        subst this; exact hlH
/-- what stands while the four lists take the fact -/
structure PutI (P : Program) (w : World) (C : Addr) (H0 : Hp) (a q : Addr) (S : List Fact) (O : List Addr) (f : Fact) (h lk : Addr) (n : Nat) (H : Hp) : Prop where
  a : ∃ dx, H a = some (.ins C dx (fF h lk))
  h : H h = some (.dT (heldK (S ++ [f])))
  q : FactAt H q f
  l : ∃ kvs, H lk = some (lO P w lk kvs) ∧ LkP H S f n kvs ∧ ∀ e ∈ kvs, e.2.2 ∈ O ∨ H0 e.2.2 = none
  fr : Fr O H0 H
  tr : ∀ b, (H0 b).isSome = true → (H b).isSome = true
theorem PutI.new {P : Program} {w : World} {C : Addr} {H0 H : Hp} {a q : Addr} {S : List Fact} {O : List Addr} {f : Fact} {h lk : Addr} {n : Nat} (I : PutI P w C H0 a q S O f h lk n H) {p : Addr} {o : HO} (hp : H p = none) : PutI P w C H0 a q S O f h lk n (upd H p o) := by
  have s : Same H (upd H p o) := same_upd (Same.refl H) hp
  obtain ⟨dx, ha⟩ := I.a
  obtain ⟨kvs, h1, h2, h3⟩ := I.l
  refine ⟨⟨dx, s _ _ ha⟩, s _ _ I.h, s _ _ I.q, ⟨kvs, s _ _ h1, h2.keep (fun b xs e => s _ _ e) fun e he => ?_, h3⟩, I.fr.upd_new hp, fun b e => upd_some (I.tr b e)⟩
  obtain ⟨qs, e1, _⟩ := h2.val e he
  exact upd_ne (ne_of_none e1 hp)
theorem PutI.old {P : Program} {w : World} {C : Addr} {H0 H : Hp} {a q : Addr} {S : List Fact} {O : List Addr} {f : Fact} {h lk : Addr} {n : Nat} (I : PutI P w C H0 a q S O f h lk n H) (hn : n < 4) {kvs : List LEnt} (hk : H lk = some (lO P w lk kvs)) (L : LkP H S f n kvs) (hO : ∀ e ∈ kvs, e.2.2 ∈ O ∨ H0 e.2.2 = none) {v : Addr} {qs : List Addr} (hv : lGet kvs (pk f n) = some v) (hx : H v = some (.lst (qs.map V.ref))) :
    PutI P w C H0 a q S O f h lk (n + 1) (upd H v (.lst ((qs ++ [q]).map V.ref))) := by
  obtain ⟨dx, ha⟩ := I.a
  obtain ⟨e0, he0, _, ev⟩ := lGet_some hv
  refine ⟨⟨dx, ?_⟩, ?_, ?_, ⟨kvs, ?_, L.old hn hv hx I.q, hO⟩, I.fr.upd_own (by rw [← ev]; exact hO e0 he0), fun b e => upd_some (I.tr b e)⟩
  · rw [upd_ne (ne_of ha hx (fun z => nomatch z))]; exact ha
  · rw [upd_ne (ne_of I.h hx (fun z => nomatch z))]; exact I.h
  · exact (upd_ne (I.q.ne_lst hx)).trans I.q
  · rw [upd_ne (ne_of hk hx (fun z => nomatch z))]; exact hk
theorem PutI.nw {P : Program} {w : World} {C : Addr} {H0 H : Hp} {a q : Addr} {S : List Fact} {O : List Addr} {f : Fact} {h lk : Addr} {n : Nat} (I : PutI P w C H0 a q S O f h lk n H) (hn : n < 4) {kvs : List LEnt} (hk : H lk = some (lO P w lk kvs)) (L : LkP H S f n kvs) (hO : ∀ e ∈ kvs, e.2.2 ∈ O ∨ H0 e.2.2 = none) (hlk : lk ∈ O) {b l : Addr} (hv : lGet kvs (pk f n) = none) (hb : H b = some (.tup ((pk f n).map leafV))) (hx : H l = some (.lst []))
    (hl0 : H0 l = none) (fresh : ∀ e ∈ kvs, e.2.2 ≠ l) : PutI P w C H0 a q S O f h lk (n + 1) (upd (upd H lk (lO P w lk (kvs ++ [(pk f n, b, l)]))) l (.lst [.ref q])) := by
  obtain ⟨dx, ha⟩ := I.a
  have n1 : a ≠ lk := ne_of ha hk (fun z => nomatch z)
  have n2 : h ≠ lk := ne_of I.h hk (fun z => nomatch z)
  have n3 : q ≠ lk := ne_of I.q hk (fun z => nomatch z)
  have n4 : l ≠ lk := ne_of hx hk (fun z => nomatch z)
  have n5 : a ≠ l := ne_of ha hx (fun z => nomatch z)
  have n6 : h ≠ l := ne_of I.h hx (fun z => nomatch z)
  have n7 : q ≠ l := I.q.ne_lst hx
  have L4 : LkP (upd H lk (lO P w lk (kvs ++ [(pk f n, b, l)]))) S f n kvs := L.keep (fun b xs e => by rw [upd_ne (ne_of e hk (fun z => nomatch z))]; exact e) fun e he => by
    obtain ⟨qs, e1, _⟩ := L.val e he
    exact upd_ne (ne_of e1 hk (fun z => nomatch z))
  refine ⟨⟨dx, ?_⟩, ?_, ?_, ⟨kvs ++ [(pk f n, b, l)], ?_, L4.new hn hv (by rw [upd_ne (ne_of hb hk (fun z => nomatch z))]; exact hb) (by rw [upd_ne n4]; exact hx) ((upd_ne n3).trans I.q) fresh, fun e he => ?_⟩, (I.fr.upd_own (.inl hlk)).upd_own (.inr hl0), fun b e => upd_some (upd_some (I.tr b e))⟩
  · rw [upd_ne n5, upd_ne n1]; exact ha
  · rw [upd_ne n6, upd_ne n2]; exact I.h
  · exact ((upd_ne n7).trans (upd_ne n3)).trans I.q
  · rw [upd_ne n4.symm, upd_same]
  · rcases List.mem_append.mp he with he | he
    · exact hO e he
    · have : e = (pk f n, b, l) := by simpa using he
      subst this
      exact .inr hl0
theorem two_items {x : V} {n : Nat} {i : Nat} (h : [nI n, V.non][i]? = some x) : (i = 0 ∧ x = nI n) ∨ (i = 1 ∧ x = .non) := by
  rcases i with _ | _ | i
  · simp at h; exact .inl ⟨rfl, h.symm⟩
  · simp at h; exact .inr ⟨rfl, h.symm⟩
  · simp at h
theorem lO_ne_lst {P : Program} {w : World} {a : Addr} {kvs : List LEnt} {xs : List V} : lO P w a kvs ≠ HO.lst xs := fun z => nomatch z
theorem ok_fput {f : Addr} {fd : FuncData} (F : Fun K "put" "Facts.put" sFPut f fd) (T : FTxt K mg C) : FnOk P w K mg base CX0 1 f fd ["self", "fact"] (spFPut P w C) := by
  refine F.ok scFPut (fun vs H Q E h => ?_) (fun cdv A outer s H vs Q E hr h => ?_)
  · obtain ⟨a, q, S, O, f, rfl, _⟩ := h
    rfl
  · have hu := hu_of hr
    refine ⟨_, pss_cons (ps_if (pt_cmp (pc_din hu (pv 1) (pe_fld (pv 0) rfl))) (pss_one ps_retN) pss_nil)
      (pss_cons (ps_dput hu (pe_fld (pv 0) rfl) (pv 1) pe_bl rfl)
      (pss_one (ps_for PassesOwn.never rfl (pi_tup (pe_tup (pa_cons (pe_ix ix_tup (pv 1) pe_int (fun _ _ => rfl)) (pa_cons pe_non pa_nil)))) (pg_name (i := 2) scFPut.nd rfl (Or.inl rfl))
        (pss_one (ps_for PassesOwn.never rfl (pi_tup (pe_tup (pa_cons (pe_ix ix_tup (pv 1) pe_int (fun _ _ => rfl)) (pa_cons pe_non pa_nil)))) (pg_name (i := 3) scFPut.nd rfl (Or.inl rfl))
          (pss_one (ps_expr (pe_bm PySem.F.plainAttrs_list PySem.F.slot_list_append PySem.F.type_list_append mt_append
            (pe_lsetd hu (pe_fld (pv 0) rfl) (pe_tup (pa_cons (pe_ix ix_tup (pv 1) pe_int (fun _ _ => rfl)) (pa_cons (pv 2) (pa_cons (pv 3) pa_nil)))) (pe_lst pa_nil) ⟨rfl, rfl, rfl, rfl⟩) (pa_cons (pv 1) pa_nil))))))))), ?_⟩
    obtain ⟨a, q, S, O, f, rfl, ⟨dx, h, lk, kvs, hO, ha, hh, hlk, L⟩, hq, hS, kin, kout⟩ := h
    have g := DGet.t (k := factK f) hh (by rw [factK_V]; exact hq)
    rw [heldK_get] at g
    by_cases hm : f ∈ S
    · rw [if_pos hm] at g
      exact ⟨_, rfl, _, rfl, a, C, dx, _, _, rfl, ha, T.cl, T.nH, fF_held h lk, h, _, rfl, g, _, rfl, ifT rfl (kin hm)⟩
    rw [if_neg hm] at g
    refine ⟨_, rfl, _, rfl, a, C, dx, _, _, rfl, ha, T.cl, T.nH, fF_held h lk, h, _, rfl, g, _, rfl, ifF rfl ?_⟩
    have hhO : h ∈ O := by rw [hO]; simp
    have hlO : lk ∈ O := by rw [hO]; simp
    have nah : a ≠ h := ne_of ha hh (fun z => nomatch z)
    have nqh : q ≠ h := ne_of hq hh (fun z => nomatch z)
    have nlh : lk ≠ h := ne_of hlk hh (fun z => nomatch z)
    refine ⟨_, rfl, a, C, dx, _, _, rfl, ha, T.cl, T.nH, fF_held h lk, _, rfl, h, _, rfl, DPut.t (k := factK f) hh (by rw [factK_V]; exact hq) (by rw [heldK, List.length_map]; exact big_lt (by omega)), ?_⟩
    rw [heldK_put hm]
    have I0 : PutI P w C H a q S O f h lk 0 (upd H h (.dT (heldK (S ++ [f])))) := by
      refine ⟨⟨dx, by rw [upd_ne nah]; exact ha⟩, upd_same, (upd_ne nqh).trans hq, ⟨kvs, by rw [upd_ne nlh]; exact hlk, (L.start f).keep (fun b xs e => by rw [upd_ne (ne_of e hh (fun z => nomatch z))]; exact e) fun e he => ?_, fun e he => .inl ?_⟩, (Fr.refl O H).upd_own (.inl hhO), fun b e => upd_some e⟩
      · obtain ⟨qs, e1, _⟩ := L.val e he
        exact upd_ne (ne_of e1 hh (fun z => nomatch z))
      · rw [hO]
        exact List.mem_cons_of_mem _ (List.mem_cons_of_mem _ (List.mem_map.mpr ⟨e, he, rfl⟩))
    -- for first in (fact[1], None)
    refine ⟨_, rfl, q, _, _, _, rfl, rfl, SqT.of I0.q, rfl, by show 2 ≤ sizeLine; decide, fun t1 ht1 => ?_⟩
    refine ⟨t1, rfl, ⟨_, SqT.of upd_same⟩, for_tup (K := K) (a := t1) (xs := [nI f.a, V.non]) (fun i σ H' => ∃ v2 v3, σ = [some (.ref a), some (.ref q), v2, v3] ∧ PutI P w C H a q S O f h lk (2 * i) H' ∧ H' t1 = some (.tup [nI f.a, V.non]))
      ⟨none, none, rfl, I0.new ht1, upd_same⟩ (fun i σ H' _ ⟨_, _, _, _, e⟩ => SqT.of e) ?_ ?_⟩
    · rintro i x σ H1 hi ⟨v2, v3, rfl, I1, e1⟩
      have hi2 := two_items hi
      -- for second in (fact[2], None)
      refine ⟨_, rfl, q, _, _, _, rfl, rfl, SqT.of I1.q, rfl, by show 2 ≤ sizeLine; decide, fun t2 ht2 => ?_⟩
      have e1' : upd H1 t2 (.tup [nI f.b, V.non]) t1 = some (.tup [nI f.a, V.non]) := by rw [upd_ne (ne_of_none e1 ht2)]; exact e1
      refine ⟨t2, rfl, ⟨_, SqT.of upd_same⟩, for_tup (K := K) (a := t2) (xs := [nI f.b, V.non]) (fun j σ H' => ∃ v3, σ = [some (.ref a), some (.ref q), some x, v3] ∧ PutI P w C H a q S O f h lk (2 * i + j) H' ∧ H' t1 = some (.tup [nI f.a, V.non]) ∧ H' t2 = some (.tup [nI f.b, V.non]))
        ⟨_, rfl, I1.new ht2, e1', upd_same⟩ (fun i σ H' _ ⟨_, _, _, _, e⟩ => SqT.of e) ?_ ?_⟩
      · rintro j y σ H2 hj ⟨v3, rfl, I2, e2, e3⟩
        have hj2 := two_items hj
        obtain ⟨dx2, ha2⟩ := I2.a
        obtain ⟨kv2, hk2, L2, hO2⟩ := I2.l
        have hn : 2 * i + j < 4 := by omega
        have ek : [nI f.t, x, y] = (pk f (2 * i + j)).map leafV := by
          rcases hi2 with ⟨rfl, rfl⟩ | ⟨rfl, rfl⟩ <;> rcases hj2 with ⟨rfl, rfl⟩ | ⟨rfl, rfl⟩ <;> rfl
        refine ⟨_, rfl, a, C, dx2, _, _, rfl, ha2, T.cl, T.nL, fF_lookup h lk, lk, kv2, rfl, hk2, ?_⟩
        refine ⟨_, rfl, q, _, _, _, rfl, rfl, SqT.of I2.q, rfl, _, rfl, _, rfl, by show 3 ≤ sizeLine; decide, fun t3 ht3 => ?_⟩
        refine ⟨by show 0 ≤ sizeLine; decide, fun l hl => ?_⟩
        have I3 := I2.new (o := .tup [nI f.t, x, y]) ht3
        have I4 := I3.new (o := .lst []) hl
        have s3 : Same H2 (upd (upd H2 t3 (.tup [nI f.t, x, y])) l (.lst [])) := fun b o e => by
          rw [upd_ne (ne_of_none (by rw [upd_ne (ne_of_none e ht3)]; exact e) hl), upd_ne (ne_of_none e ht3)]
          exact e
        have L4 : LkP (upd (upd H2 t3 (.tup [nI f.t, x, y])) l (.lst [])) S f (2 * i + j) kv2 := L2.keep (fun b xs e => s3 _ _ e) fun e he => by
          obtain ⟨qs, z1, _⟩ := L2.val e he
          rw [z1]; exact s3 _ _ z1
        have hk4 := s3 _ _ hk2
        have ht4 : upd (upd H2 t3 (.tup [nI f.t, x, y])) l (.lst []) t3 = some (.tup ((pk f (2 * i + j)).map leafV)) := by
          rw [upd_ne (fun z => by subst z; rw [upd_same] at hl; cases hl), upd_same, ek]
        have hlH : H2 l = none := by
          have z : l ≠ t3 := fun z => by subst z; rw [upd_same] at hl; cases hl
          rw [upd_ne z] at hl; exact hl
        have hl0 : H l = none := by
          cases z : H l with
          | none => rfl
          | some o =>
            have := I2.tr l (by rw [z]; rfl)
            rw [hlH] at this; cases this
        refine ⟨kv2, pk f (2 * i + j), t3, l, rfl, rfl, hk4, L4.key, ht4, big_lt (by have := L4.sz; omega), fun v hv => ?_, fun hv => ?_⟩
        · obtain ⟨e0, he0, _, ev⟩ := lGet_some hv
          obtain ⟨qs, z1, z2⟩ := L4.val e0 he0
          rw [ev] at z1
          refine ⟨.inl ⟨rfl, _, SqL.of z1⟩, _, rfl, v, _, _, rfl, rfl, z1, ?_, ?_⟩
          · have := Paired.length z2
            rw [List.length_append] at this
            have k2 : (S.filter (selK e0.1)).length ≤ S.length := List.length_filter_le _ _
            have k3 : (if e0.1 ∈ Dn f (2 * i + j) then [f] else []).length ≤ 1 := by split <;> simp
            rw [List.length_map]
            exact big_lt (by omega)
          · have I5 := I4.old hn hk4 L4 hO2 hv z1
            refine ⟨_, rfl, ?_, ?_, ?_⟩
            · have : (qs ++ [q]).map V.ref = qs.map V.ref ++ [.ref q] := by simp
              rw [this] at I5
              exact I5
            · rw [upd_ne (ne_of (s3 _ _ e2) z1 (fun z => nomatch z))]; exact s3 _ _ e2
            · rw [upd_ne (ne_of (s3 _ _ e3) z1 (fun z => nomatch z))]; exact s3 _ _ e3
        · have nlk : lk ≠ l := fun z => by subst z; rw [hlH] at hk2; cases hk2
          have I5 := I4.nw hn hk4 L4 hO2 hlO hv ht4 upd_same hl0 (fun e he z => by
            obtain ⟨qs, z1, _⟩ := L2.val e he
            rw [z, hlH] at z1; cases z1)
          refine ⟨.inl ⟨rfl, _, SqL.of (xs := []) (by rw [upd_ne nlk.symm]; exact upd_same)⟩, _, rfl, l, [], _, rfl, rfl, by rw [upd_ne nlk.symm]; exact upd_same, by show 0 < sizeLine; decide, ?_⟩
          refine ⟨_, rfl, I5, ?_, ?_⟩
          · have z := s3 _ _ e2
            rw [upd_ne (fun q => by subst q; rw [hlH] at e2; cases e2), upd_ne (ne_of e2 hk2 (fun z => nomatch z))]
            exact z
          · have z := s3 _ _ e3
            rw [upd_ne (fun q => by subst q; rw [hlH] at e3; cases e3), upd_ne (ne_of e3 hk2 (fun z => nomatch z))]
            exact z
      · rintro σ H2 ⟨v3, rfl, I2, e2, e3⟩
        exact ⟨_, _, rfl, I2, e2⟩
    · rintro σ H1 ⟨v2, v3, rfl, I1, e1⟩
      obtain ⟨dx2, ha2⟩ := I1.a
      obtain ⟨kv2, hk2, L2, hO2⟩ := I1.l
      refine kout hm H1 (h :: lk :: kv2.map (·.2.2)) ⟨dx2, h, lk, kv2, rfl, ha2, I1.h, hk2, L2.done⟩ I1.fr fun b hb => ?_
      rcases List.mem_cons.mp hb with rfl | hb
      · exact .inl hhO
      · rcases List.mem_cons.mp hb with rfl | hb
        · exact .inl hlO
        · obtain ⟨e, he, rfl⟩ := List.mem_map.mp hb
          exact hO2 e he
end
end Rb

/-! ## F4 -/
set_option Elab.async false
set_option linter.all false
set_option maxRecDepth 100000
set_option maxHeartbeats 4000000
/-! F4: Facts.fitting, listed. -/
namespace Rb
open PySem PySem.Spec PyProof.Rows L2
open Dx (Fact Facts Atom Fill)
theorem paired_get {α β : Type} {R : α → β → Prop} : ∀ {l : List α} {m : List β} {i : Nat} {a : α}, Paired R l m → l[i]? = some a → ∃ b, m[i]? = some b ∧ R a b
  | _, _, _, _, .nil, e => by simp at e
  | _, _, 0, a, .cons r _, e => by
    simp at e
    subst e
    exact ⟨_, rfl, r⟩
  | _, _, i + 1, a, .cons _ t, e => by
    obtain ⟨b, h1, h2⟩ := paired_get (i := i) t (by simpa using e)
    exact ⟨b, by simpa using h1, h2⟩
theorem take_succ' {α : Type} {l : List α} {i : Nat} {x : α} (h : l[i]? = some x) : l.take (i + 1) = l.take i ++ [x] := by
  rw [List.take_add_one, h]; rfl
theorem map_get {α β : Type} {f : α → β} {l : List α} {i : Nat} {y : β} (h : (l.map f)[i]? = some y) : ∃ x, l[i]? = some x ∧ y = f x := by
  rw [List.getElem?_map] at h
  cases e : l[i]? with
  | none => rw [e] at h; cases h
  | some x => rw [e] at h; exact ⟨x, rfl, (Option.some.inj h).symm⟩
def optL : Option Nat → Leaf
  | none => .none
  | some n => .num (n : Int)
theorem optL_V (o : Option Nat) : leafV (optL o) = (o.map nI).getD .non := by cases o <;> rfl
theorem selL_opt {o : Option Nat} {n : Nat} : selL (optL o) n = true ↔ (o = none ∨ o = some n) := by
  cases o with
  | none => simp [optL, selL_none]
  | some m =>
    rw [optL, selL_num, decide_eq_true_eq]
    constructor
    · intro h; right; congr 1; omega
    · rintro (h | h)
      · cases h
      · cases h; rfl
def keyL (s : Fill) (a : Atom) : List Leaf := [.num (a.t : Int), optL (Fill.at_ s a.x), optL (Fill.at_ s a.y)]
theorem sel_fit {s : Fill} {a : Atom} {f : Fact} : (Dx.fit s a f).isSome = (selK (keyL s a) f && decide (a.x = a.y → f.a = f.b)) := by
  have h : (Dx.fit s a f).isSome = true ↔ (selK (keyL s a) f && decide (a.x = a.y → f.a = f.b)) = true := by
    rw [fit_iff]
    unfold keyL FitOk
    rw [selK_num]
    simp only [Bool.and_eq_true, decide_eq_true_eq, selL_opt]
    constructor
    · rintro ⟨h1, h2, h3, h4⟩; exact ⟨⟨by omega, h2, h3⟩, h4⟩
    · rintro ⟨⟨h1, h2, h3⟩, h4⟩; exact ⟨by omega, h2, h3, h4⟩
  cases e : (Dx.fit s a f).isSome with
  | true => exact (h.mp e).symm
  | false =>
    cases e2 : (selK (keyL s a) f && decide (a.x = a.y → f.a = f.b)) with
    | false => rfl
    | true => rw [h.mpr e2] at e; cases e
theorem fitS_eq (s : Fill) (a : Atom) (S : List Fact) (h : a.x = a.y) : fitS s a S = (S.filter (selK (keyL s a))).filter fun f => decide (f.a = f.b) := by
  unfold fitS
  rw [List.filter_filter]
  apply List.filter_congr
  intro f _
  rw [sel_fit, Bool.and_comm]
  congr 1
  simp [h]
theorem fitS_ne (s : Fill) (a : Atom) (S : List Fact) (h : ¬ a.x = a.y) : fitS s a S = S.filter (selK (keyL s a)) := by
  unfold fitS
  apply List.filter_congr
  intro f _
  rw [sel_fit]
  simp [h]
abbrev sFFit : Stmt := inClass sFacts 2
theorem scFFit : FnScope ["self", "atom", "values", "found", "fact"] ["self", "atom", "values"] (defScope sFFit) := ⟨rfl, rfl, rfl, by decide +kernel, rfl, by decide +kernel, by decide +kernel⟩
def spFFit (P : Program) (w : World) (C : Addr) : Sp := fun vs H Q _ => ∃ (a0 qa d : Addr) (S : List Fact) (O : List Addr) (a : Atom) (s : Fill), vs = [.ref a0, .ref qa, .ref d] ∧ FactsAt P w C H a0 S O ∧ AtomAt H qa a ∧ H d = some (.dK (fillK s)) ∧ S.length ≤ 100000 ∧
  ∀ (H' : Hp) (p : Addr) (qs : List Addr), Same H H' → H p = none → H' p = some (.lst (qs.map V.ref)) → Paired (FactAt H) qs (fitS s a S) → Q (.ref p) H'
section
variable {P : Program} {w : World} {K : PySem.W.Frag} {mg : Str → Option Value} {base : Heap} {C : Addr}
theorem ixTK {X : Cx} {K : PySem.W.Frag} (h : X.K = K) : IxR X (rIxT K) := h ▸ ix_tup
theorem ok_ffit {f : Addr} {fd : FuncData} (F : Fun K "fitting" "Facts.fitting" sFFit f fd) (T : FTxt K mg C) : FnOk P w K mg base CX0 1 f fd ["self", "atom", "values"] (spFFit P w C) := by
  refine F.ok scFFit (fun vs H Q E h => ?_) (fun cdv A outer s H vs Q E hr h => ?_)
  · obtain ⟨a0, qa, d, S, O, a, s, rfl, _⟩ := h
    rfl
  · have hu := hu_of hr
    refine ⟨_, pss_cons (ps_set (i := 3) scFFit.nd rfl (Or.inl rfl) (pe_lget hu (pe_fld (pv 0) rfl)
        (pe_tup (pa_cons (pe_ix ix_tup (pv 1) pe_int (fun _ _ => rfl)) (pa_cons (pe_dget1 hu (pv 2) (pe_ix ix_tup (pv 1) pe_int (fun _ _ => rfl)) ⟨rfl, rfl, rfl, rfl⟩) (pa_cons (pe_dget1 hu (pv 2) (pe_ix ix_tup (pv 1) pe_int (fun _ _ => rfl)) ⟨rfl, rfl, rfl, rfl⟩) pa_nil))))
        (pe_lst pa_nil) ⟨rfl, rfl, rfl, rfl⟩))
      (pss_cons (ps_if (pt_cmpR op_eq (pe_ix ix_tup (pv 1) pe_int (fun _ _ => rfl)) (pe_ix ix_tup (pv 1) pe_int (fun _ _ => rfl)) (nomark _))
        (pss_one (ps_ret (pe_lc (own := [("fact", 4)]) (g := gName 4) rfl scFFit.nd (pi_list (pv 3)) (blkOk_by (own := [("fact", 4)]) (N := ["self", "atom", "values", "found", "fact"]) (sc := defScope sFFit) (by decide +kernel)) (fun _ _ _ _ _ => pg_name (i := 4) scFFit.nd rfl (Or.inl rfl))
          (fun _ _ _ _ _ => pts_one (pt_cmpR op_eq (pe_ix (ixTK (K := K) rfl) (pv 4) pe_int (fun _ _ => rfl)) (pe_ix (ixTK (K := K) rfl) (pv 4) pe_int (fun _ _ => rfl)) (nomark _))) (fun _ _ _ _ _ => pv 4)))) pss_nil)
      (pss_one (ps_ret (pe_callTy call_list_of (by rfl) T.b.list (by decide +kernel) (pa_cons (pv 3) pa_nil))))), ?_⟩
    obtain ⟨a0, qa, d, S, O, a, s, rfl, ⟨dx, h, lk, kvs, hO, ha, hh, hlk, L⟩, hqa, hd, hS, k⟩ := h
    refine ⟨_, rfl, a0, C, dx, _, _, rfl, ha, T.cl, T.nL, fF_lookup h lk, lk, kvs, rfl, hlk, ?_⟩
    refine ⟨_, rfl, qa, _, _, _, rfl, rfl, SqT.of hqa, rfl, _, rfl, d, rfl, .inl ⟨_, Rd.of hd⟩, _, rfl, qa, _, _, _, rfl, rfl, SqT.of hqa, rfl, _, DGet.k (k := vk a.x) hd, _, rfl, d, rfl, .inl ⟨_, Rd.of hd⟩, _, rfl, qa, _, _, _, rfl, rfl, SqT.of hqa, rfl, _, DGet.k (k := vk a.y) hd, by show 3 ≤ sizeLine; decide, fun t ht => ?_⟩
    rw [fillK_get, fillK_get, ← optL_V, ← optL_V]
    refine ⟨by show 0 ≤ sizeLine; decide, fun l hl => ?_⟩
    have s2 : Same H (upd (upd H t (.tup ((keyL s a).map leafV))) l (.lst [])) := fun b o e => by
      rw [upd_ne (ne_of_none (by rw [upd_ne (ne_of_none e ht)]; exact e) hl), upd_ne (ne_of_none e ht)]
      exact e
    have nl : l ≠ t := fun z => by subst z; rw [upd_same] at hl; cases hl
    have htl : upd (upd H t (.tup ((keyL s a).map leafV))) l (.lst []) t = some (.tup ((keyL s a).map leafV)) := by rw [upd_ne nl.symm, upd_same]
    have hlH : H l = none := by rw [upd_ne nl] at hl; exact hl
    refine ⟨kvs, keyL s a, t, rfl, s2 _ _ hlk, fun e he => s2 _ _ (L.key e he), htl, ?_⟩
    -- the list found
    have found : ∃ (l' : Addr) (qs : List Addr), ((lGet kvs (keyL s a)).map V.ref).getD (.ref l) = .ref l' ∧ upd (upd H t (.tup ((keyL s a).map leafV))) l (.lst []) l' = some (.lst (qs.map V.ref)) ∧ Paired (FactAt H) qs (S.filter (selK (keyL s a))) := by
      cases g : lGet kvs (keyL s a) with
      | none => exact ⟨l, [], rfl, upd_same, by rw [L.abs _ g]; exact .nil⟩
      | some l' =>
        obtain ⟨e, he, ek, el⟩ := lGet_some g
        obtain ⟨qs, z1, z2⟩ := L.val e he
        rw [el] at z1
        rw [ek] at z2
        exact ⟨l', qs, rfl, s2 _ _ z1, z2⟩
    obtain ⟨l', qs, e1, e2, e3⟩ := found
    rw [e1]
    refine ⟨_, rfl, qa, _, _, _, rfl, rfl, SqT.of (s2 _ _ hqa), rfl, _, rfl, qa, _, _, _, rfl, rfl, SqT.of (s2 _ _ hqa), rfl, rfl, _, rfl, ?_⟩
    by_cases hxy : a.x = a.y
    · refine ifT (decide_eq_true (by rw [hxy])) ?_
      refine ⟨_, rfl, l', rfl, ⟨_, SqL.of e2⟩, fun D hD => lc_list (K := K) (a := l') (xs := qs.map V.ref) (fun i H' => Same H H' ∧ H' l' = some (.lst (qs.map V.ref)) ∧
        ∃ ps : List Addr, H' D = some (.lst (ps.map V.ref)) ∧ ps.length ≤ i ∧ Paired (FactAt H) ps (((S.filter (selK (keyL s a))).take i).filter fun f => decide (f.a = f.b))) ?_ (fun i H' _ ⟨_, q, _⟩ => SqL.of q) ?_ ?_⟩
      · have nD : l' ≠ D := ne_of_none e2 hD
        exact ⟨fun b o e => (same_upd (Same.refl _) hD) b o (s2 b o e), (upd_ne nD).trans e2, [], upd_same, Nat.le_refl _, .nil⟩
      · rintro i x H3 hi ⟨s3, q3, ps, q4, q5, q6⟩
        obtain ⟨qi, hqi, rfl⟩ := map_get hi
        obtain ⟨fi, hfi, fat⟩ := paired_get e3 hqi
        have fat3 : H3 qi = some (.tup (factV fi)) := s3 _ _ fat
        have ilt : i < qs.length := (List.getElem?_eq_some_iff.mp hqi).1
        have qsl : qs.length ≤ S.length := by
          have := Paired.length e3
          have := List.length_filter_le (selK (keyL s a)) S
          omega
        refine ⟨rfl, _, rfl, qi, _, _, _, rfl, rfl, SqT.of fat3, rfl, _, rfl, qi, _, _, _, rfl, rfl, SqT.of fat3, rfl, rfl, _, rfl, ?_⟩
        rw [take_succ' hfi, List.filter_append]
        by_cases hab : fi.a = fi.b
        · refine ifT (decide_eq_true (by rw [hab])) ?_
          refine ⟨_, rfl, _, q4, by rw [List.length_map]; exact big_lt (by omega), ?_⟩
          have nD : D ≠ l' := (ne_of_none e2 hD).symm
          have hDH : H D = none := s2.free hD
          refine ⟨fun b o e => ?_, (upd_ne nD.symm).trans q3, ps ++ [qi], by rw [upd_same]; simp, by simp; omega, ?_⟩
          · rw [upd_ne (ne_of_none e hDH)]
            exact s3 _ _ e
          · have : [fi].filter (fun f => decide (f.a = f.b)) = [fi] := by simp [hab]
            rw [this]
            exact Paired.snoc q6 fat
        · refine ifF (decide_eq_false (fun z => hab (by injection z with z; omega))) ?_
          have : [fi].filter (fun f => decide (f.a = f.b)) = [] := by simp [hab]
          rw [this, List.append_nil]
          exact ⟨s3, q3, ps, q4, by omega, q6⟩
      · rintro H3 ⟨s3, q3, ps, q4, q5, q6⟩
        have hDH : H D = none := s2.free hD
        refine k H3 D ps s3 hDH q4 ?_
        rw [fitS_eq s a S hxy]
        have : (S.filter (selK (keyL s a))).take (qs.map V.ref).length = S.filter (selK (keyL s a)) := List.take_of_length_le (by rw [List.length_map, Paired.length e3]; exact Nat.le_refl _)
        rw [this] at q6
        exact q6
    · refine ifF (decide_eq_false (fun z => hxy (by injection z with z; omega))) ?_
      refine ⟨_, rfl, l', _, rfl, .inl (SqL.of e2), fun p hp => ?_⟩
      have hpH : H p = none := s2.free hp
      refine k _ p qs (fun b o e => ?_) hpH upd_same (by rw [fitS_ne s a S hxy]; exact e3)
      rw [upd_ne (ne_of_none e hpH)]
      exact s2 _ _ e
end
end Rb

/-! ## HS -/
set_option Elab.async false
set_option linter.all false
set_option maxRecDepth 100000
set_option maxHeartbeats 4000000
/-! HS: sorted of alike data, of a dict's key tuples; min of two data. -/
namespace PySem.W
open PySem PySem.Calls PyProof.Rows PySem.SeqAt
section
variable {prog : Program} {w : World} {A : Around} {E : Value → Shared → Prop} {s : Shared}
theorem call_min_twoH {a b : Value} {Q : Value → Shared → Prop}
    (h : wpAny (model prog w) A.in1 (pyIter (.ref s.heap.objs.size)) (fun it s₂ => ∃ I fp wr G n P St H bt, it = .ref I ∧ WalksS prog w A.in1 I fp wr G n P St ∧ St 0 s₂ ∧ (∀ b ∈ fp, b < s₂.heap.objs.size) ∧ 0 < n ∧
      (∀ b o, H.get? b = some o → b ∉ wr) ∧ (∀ b o, H.get? b = some o → s₂.heap.get? b = some o) ∧ CmpIn prog w A.in1 .Lt H P bt ∧ ∀ v s', P (argBest bt (n - 1)) v → Moved wr G s₂ s' → Q v s') E
      { s with heap := s.heap.push { cls := .type "tuple", data := .seq #[a, b] } }) :
    wpAny (model prog w) A (call (.builtin "min") [a, b]) Q E s := by
  have hname : (toString "min" ++ toString ".loop" : String) = "min.loop" := by decide
  refine call_function_tree F.kind_min F.plain_min F.entry_min (F.args_min2 _ _) ?_
  show wpAny _ A.in1 (Builtin.Builtins.bindParams "min" ["key", "default"] 0 ⟨[], []⟩ >>= _) _ _ s
  refine wpAny_bind (wpAny_of_eq (show Builtin.Builtins.bindParams "min" ["key", "default"] 0 ⟨[], []⟩ = pure [none, none] from rfl) ?_)
  show wpAny _ A.in1 (newTuple [a, b] >>= _) _ _ s
  refine wpAny_bind (wpAny_newObj_type ?_)
  refine wpAny_bind (wpAny_mono h (fun it s₂ h₂ => ?_) fun _ _ e => e)
  obtain ⟨I, fp, wr, G, n, P, St, H, bt, rfl, W, hst, hfp, hn, hw, hkeep, hcmp, hQ⟩ := h₂
  refine wpAny_bind (wpAny_newObj_type ?_)
  have hSf : s₂.heap.objs.size ∉ fp := fun hm => Nat.lt_irrefl _ (hfp _ hm)
  rw [hname]
  refine wpAny_pure ⟨plainId_quiet F.plain_min_loop _, codeAny_min_loop_firstH W H hw bt hcmp s₂.heap.objs.size hSf (fresh_in hkeep) _ hn (fun b o e => Heap.get?_push_of_some _ (hkeep b o e)) (W.frame 0 s₂ _ s₂.toks hst (Nat.le_refl _) fun b _ o e => Heap.get?_push_of_some _ e) (Heap.get?_push_size _ rfl) fun v s' hP hm => ?_⟩
  exact hQ v s' hP (Moved.drop_new (tk := s₂.toks) hm (Nat.le_refl _))
theorem min_two_data {a b : Value} {da db : PyData} {as bs : List Addr} {Q : Value → Shared → Prop} (hh : A.handled = none) (ra : Reads s.heap a da as) (rb : Reads s.heap b db bs) (ha : AlikeAll [da, db]) (hu : A.units + 1 + PyData.depthAll [da, db] < cLine)
    (h : ∀ h' tk, (∀ c o, s.heap.get? c = some o → h'.get? c = some o) → Q (if dataLt db da = true then b else a) { s with heap := h', toks := tk }) :
    wpAny (model prog w) A (call (.builtin "min") [a, b]) Q E s := by
  have hT : (s.heap.push { cls := .type "tuple", data := .seq #[a, b] }).IsTuple s.heap.objs.size #[a, b] := ⟨_, Heap.get?_push_size _ rfl, rfl, 0, rfl⟩
  have hr : ReadsAll (s.heap.push { cls := .type "tuple", data := .seq #[a, b] }) (#[a, b] : Array Value).toList [da, db] (as ++ (bs ++ [])) :=
    .cons (Reads.keeps (fun _ _ e => Heap.get?_push_of_some _ e) ra) (.cons (Reads.keeps (fun _ _ e => Heap.get?_push_of_some _ e) rb) .nil)
  refine call_min_twoH (iter_tupleW (A := A.in1) (s := { s with heap := s.heap.push { cls := .type "tuple", data := .seq #[a, b] } }) hh hT fun s₂ e W st hfp hw hk => ?_)
  refine ⟨_, _, _, _, _, _, _, s.heap.push { cls := .type "tuple", data := .seq #[a, b] }, _, rfl, W, st, hfp, by show 0 < 2; decide, hw, hk, cmpIn_lt (A := A.in1) (s := { s with heap := s.heap.push { cls := .type "tuple", data := .seq #[a, b] } }) hr ha (by show A.units + 1 + _ < _; exact hu), fun v s' hP m => ?_⟩
  obtain ⟨h', tk, rfl, hk'⟩ := moved_old e rfl m
  have e1 : (#[a, b] : Array Value).size - 1 = 1 := rfl
  rw [e1] at hP
  have e2 : argBest (fun i j => dataLt ([da, db].getD i .none) ([da, db].getD j .none)) 1 = if dataLt db da = true then 1 else 0 := by
    unfold argBest
    rfl
  rw [e2] at hP
  have hv : v = if dataLt db da = true then b else a := by
    cases q : dataLt db da with
    | true =>
      rw [q, if_pos rfl] at hP
      rw [if_pos rfl]
      exact (Option.some.inj hP).symm
    | false =>
      rw [q, if_neg Bool.false_ne_true] at hP
      rw [if_neg Bool.false_ne_true]
      exact (Option.some.inj hP).symm
  rw [hv]
  exact h h' tk fun c o ec => hk' c o (Heap.get?_push_of_some _ ec)
end
end PySem.W
namespace L2
open PySem PySem.Spec PyProof.Rows
section
variable {X : Cx}
/-- min(x, y) of alike data -/
theorem call_min2D (hc : X.calm = true) (hu : X.A.units + 64 < cLine) : CallR X (.builtin "min") (fun xs H Q => ∃ x y d e, xs = [x, y] ∧ Dp X.K H x d ∧ Dp X.K H y e ∧ PySem.W.AlikeAll [d, e] ∧ PyData.depthAll [d, e] ≤ 32 ∧ Q (if PySem.W.dataLt e d = true then y else x) H) := by
  intro pins s σ H xs us Q I r h
  obtain ⟨x, y, d, e, rfl, hd, he, hal, hdep, q⟩ := h
  obtain ⟨u, v, rfl, ru, rv⟩ := vals2 r
  obtain ⟨as, r1⟩ := Dp.reads I d x u hd ru
  obtain ⟨bs, r2⟩ := Dp.reads I e y v he rv
  refine PySem.W.min_two_data (I.ok.hd hc) r1 r2 hal (by omega) fun h' tk k => ⟨_, H, I.kept k, ?_, q⟩
  cases PySem.W.dataLt e d with
  | true => rw [if_pos rfl, if_pos rfl]; exact rv
  | false => rw [if_neg Bool.false_ne_true, if_neg Bool.false_ne_true]; exact ru
/-- sorted(xs), xs a list of objects that read as alike data -/
def rSortedDat (K : PySem.W.Frag) : List V → Hp → VK → Prop := fun vs H Q => ∃ (a : Addr) (β : Type) (bs : List (Addr × β)) (enc : Addr × β → PyData), vs = [V.ref a] ∧ SqL K H a (bs.map fun b => V.ref b.1) ∧ (∀ b ∈ bs, Dp K H (.ref b.1) (enc b)) ∧
  PySem.W.AllAlike (bs.map enc) ∧ PySem.W.Sortable (bs.map enc) ∧ (∀ b ∈ bs, (enc b).depth ≤ 32) ∧ ∀ p, H p = none → Q (.ref p) (upd H p (.lst ((bs.mergeSort (PySem.W.dataLe false enc)).map fun b => V.ref b.1)))
theorem each_of {β : Type} {R : Value → Addr × β → Prop} : ∀ {bs : List (Addr × β)} {us : List Value}, Vals (bs.map fun b => V.ref b.1) us → (∀ b ∈ bs, R (.ref b.1) b) → PySem.W.EachIs R us bs
  | [], _, r, _ => by cases r; exact .nil
  | b :: bs, _, r, h => by
    rw [List.map_cons] at r
    cases r with
    | cons r1 r2 =>
      cases r1
      exact .cons (h b (by simp)) (each_of r2 fun c hc => h c (by simp [hc]))
theorem each_refs {β : Type} : ∀ {bs : List (Addr × β)} {us : List Value}, PySem.W.EachIs (fun v b => v = .ref b.1) us bs → Vals (bs.map fun b => V.ref b.1) us
  | _, _, .nil => .nil
  | _, _, .cons h t => .cons h (each_refs t)
theorem cr_sortedDat (hu : X.A.units + 64 < cLine) : CallR X (.builtin "sorted") (rSortedDat X.K) := by
  intro pins s σ H vs us Q I r h
  obtain ⟨a, β, bs, enc, rfl, hs, hd, hal, hk, hdep, q⟩ := h
  obtain ⟨its, rv, hl, hz⟩ := I.list hs
  obtain ⟨u, rfl, ru⟩ := vals1 r
  obtain rfl : u = Value.ref a := ru
  refine PySem.W.sorted_data (R := fun v b => v = .ref b.1) (bs := bs) (enc := enc) hl.isList (each_of rv fun _ _ => rfl) (each_of rv fun b hb => Dp.reads I _ _ _ (hd b hb) rfl) hal hk (by simpa using hz) (fun b hb => by have := hdep b hb; omega) fun out hlen eo => ?_
  obtain ⟨n, hn⟩ := PyProof.Rows.sortedAll_at s.heap its (List.toArray out)
  have hz2 : ((bs.mergeSort (PySem.W.dataLe false enc)).map fun b => V.ref b.1).length ≤ sizeLine := by
    rw [List.length_map, List.length_mergeSort]; simpa using hz
  exact ⟨.ref (s.heap.objs.size + 1), _, I.laid (t' := s.toks) (o := .lst ((bs.mergeSort (PySem.W.dataLe false enc)).map fun b => V.ref b.1)) (fun _ _ q => PyProof.Rows.sortedAll_old q) (Nat.le_succ _) ⟨hz2, out, n, each_refs eo, hn⟩, rfl, q _ (I.hok.fresh (Nat.le_succ _))⟩
end
end L2

/-! ## HT2 -/
set_option Elab.async false
set_option linter.all false
set_option maxRecDepth 100000
set_option maxHeartbeats 4000000
/-! HT2: sorted over the key tuples of a dict of facts; the order of data is the order of facts. -/
namespace Rb
open PySem PySem.Spec PyProof.Rows L2
open Dx (Fact Facts Atom Fill)
def factD (f : Fact) : PyData := .tuple [.int (f.t : Int), .int (f.a : Int), .int (f.b : Int)]
def factsD (m : List Fact) : PyData := .tuple (m.map factD)
theorem factD_alike (f g : Fact) : PySem.W.alike (factD f) (factD g) = true := by
  simp [factD, PySem.W.alike, PySem.W.alikeAll]
theorem factD_eqv (f g : Fact) : PyData.eqv (factD f) (factD g) = decide (f = g) := by
  have h : PyData.eqv (factD f) (factD g) = true ↔ f = g := by
    simp only [factD, PyData.eqv, PyData.eqvAll, Bool.and_eq_true, beq_iff_eq]
    constructor
    · intro h
      exact fact_ext (by omega) (by omega) (by omega)
    · intro h; subst h; simp
  by_cases e : f = g
  · rw [decide_eq_true e]; exact h.mpr e
  · rw [decide_eq_false e]
    cases q : PyData.eqv (factD f) (factD g) with
    | false => rfl
    | true => exact absurd (h.mp q) e
theorem eqv_int (a b : Int) : PyData.eqv (.int a) (.int b) = decide (a = b) := by
  by_cases e : a = b
  · subst e; simp [PyData.eqv]
  · simp [PyData.eqv, e]
theorem lt3 (a b c a' b' c' : Int) : ([a, b, c] < [a', b', c']) ↔ (a < a' ∨ (a = a' ∧ (b < b' ∨ (b = b' ∧ c < c')))) := by
  simp [List.cons_lt_cons_iff]
theorem factD_lt (f g : Fact) : PySem.W.dataLt (factD f) (factD g) = decide (LtF f g) := by
  have h : PySem.W.dataLt (factD f) (factD g) = decide ([(f.t : Int), f.a, f.b] < [(g.t : Int), g.a, g.b]) := by
    rw [← PySem.W.dataLt_ints]
    exact PySem.W.dataLt_tuple _ _
  rw [h]
  have : ([(f.t : Int), f.a, f.b] < [(g.t : Int), g.a, g.b]) ↔ LtF f g := by
    rw [lt3]; unfold LtF; omega
  by_cases q : LtF f g
  · rw [decide_eq_true q, decide_eq_true (this.mpr q)]
  · rw [decide_eq_false q, decide_eq_false (fun z => q (this.mp z))]
theorem eqvAll_facts : ∀ m n : List Fact, PyData.eqvAll (m.map factD) (n.map factD) = decide (m = n)
  | [], [] => by simp [PyData.eqvAll]
  | [], _ :: _ => by simp [PyData.eqvAll]
  | _ :: _, [] => by simp [PyData.eqvAll]
  | f :: m, g :: n => by
    rw [List.map_cons, List.map_cons, PyData.eqvAll, factD_eqv, eqvAll_facts m n]
    by_cases e : f = g <;> simp [e]
theorem factsD_eqv (m n : List Fact) : PyData.eqv (factsD m) (factsD n) = decide (m = n) := by
  rw [← eqvAll_facts]
  unfold factsD
  rw [PyData.eqv]
theorem alike_facts : ∀ m n : List Fact, m.length = n.length → PySem.W.alikeAll (m.map factD) (n.map factD) = true
  | [], [], _ => by simp [PySem.W.alikeAll]
  | [], _ :: _, h => by simp at h
  | _ :: _, [], h => by simp at h
  | f :: m, g :: n, h => by
    rw [List.map_cons, List.map_cons, PySem.W.alikeAll, factD_alike, alike_facts m n (by simpa using h)]
    rfl
theorem factsD_alike {m n : List Fact} (h : m.length = n.length) : PySem.W.alike (factsD m) (factsD n) = true := by
  unfold factsD
  rw [PySem.W.alike]
  exact alike_facts m n h
theorem rowLt_facts : ∀ m n : List Fact, m.length = n.length → PySem.W.rowLt (m.map factD) (n.map factD) = ltM m n
  | [], [], _ => by
    have := PySem.W.dataLt_ints [] []
    simpa [ltM] using this
  | [], _ :: _, h => by simp at h
  | _ :: _, [], h => by simp at h
  | f :: m, g :: n, h => by
    have ih := rowLt_facts m n (by simpa using h)
    unfold PySem.W.rowLt at ih ⊢
    rw [List.map_cons, List.map_cons, PySem.W.dataLt_cons (factD_alike f g), factD_eqv, factD_lt, ih]
    rw [show ltM (f :: m) (g :: n) = if f = g then ltM m n else decide (LtF f g) by rw [ltM]]
    by_cases e : f = g <;> simp [e]
theorem factsD_lt {m n : List Fact} (h : m.length = n.length) : PySem.W.dataLt (factsD m) (factsD n) = ltM m n := by
  rw [← rowLt_facts m n h]
  exact PySem.W.dataLt_tuple _ _
theorem factD_depth (f : Fact) : (factD f).depth ≤ 32 := by
  simp [factD, PyData.depth, PyData.depthAll]
theorem depthAll_le {ds : List PyData} {n : Nat} (h : ∀ d ∈ ds, d.depth ≤ n) : PyData.depthAll ds ≤ n := by
  induction ds with
  | nil => simp [PyData.depthAll]
  | cons d ds ih =>
    rw [PyData.depthAll]
    have := h d (by simp)
    have := ih fun x hx => h x (by simp [hx])
    omega
/-- what mergeSort of facts is -/
theorem le_trans_facts {β : Type} {enc : β → PyData} {k : β → Fact} (he : ∀ b, enc b = factD (k b)) (a b c : β) : PySem.W.dataLe false enc a b = true → PySem.W.dataLe false enc b c = true → PySem.W.dataLe false enc a c = true := by
  rw [PySem.W.dataLe_eq]
  simp only [cond_false, he, factD_lt, Bool.not_eq_true', decide_eq_false_iff_not]
  intro h1 h2 h3
  unfold LtF at *
  omega
theorem le_total_facts {β : Type} {enc : β → PyData} {k : β → Fact} (he : ∀ b, enc b = factD (k b)) (a b : β) : (PySem.W.dataLe false enc a b || PySem.W.dataLe false enc b a) = true := by
  rw [PySem.W.dataLe_eq]
  simp only [cond_false, he, factD_lt, Bool.or_eq_true, Bool.not_eq_true', decide_eq_false_iff_not]
  unfold LtF
  omega
theorem sort_facts {β : Type} {enc : β → PyData} {k : β → Fact} (he : ∀ b, enc b = factD (k b)) (bs : List β) (nd : (bs.map k).Nodup) : (bs.mergeSort (PySem.W.dataLe false enc)).map k = Dx.tidy (bs.map k) := by
  have p := List.mergeSort_perm bs (PySem.W.dataLe false enc)
  have s := List.pairwise_mergeSort (le := PySem.W.dataLe false enc) (le_trans_facts he) (le_total_facts he) bs
  refine tidy_eq (p.map k) ?_
  have nd2 : ((bs.mergeSort (PySem.W.dataLe false enc)).map k).Nodup := (p.map k).nodup_iff.mpr nd
  refine List.pairwise_map.mpr ?_
  have nd3 := (List.pairwise_map.mp nd2)
  refine (List.Pairwise.and s nd3).imp ?_
  rintro a b ⟨h1, h2⟩
  rw [PySem.W.dataLe_eq] at h1
  simp only [cond_false, he, factD_lt, Bool.not_eq_true', decide_eq_false_iff_not] at h1
  rcases LtF.tri (k a) (k b) with q | q | q
  · exact q
  · exact absurd q h2
  · exact absurd q h1
end Rb
namespace L2
open PySem PySem.Spec PyProof.Rows Rb
open Dx (Fact)
/-- sorted(d), d a dict of facts: its key tuples in order -/
def rSortedHeld : List V → Hp → VK → Prop := fun vs H Q => ∃ (a : Addr) (S : List Fact), vs = [V.ref a] ∧ Rd H a (.dT (heldK S)) ∧
  ∀ (bs : List (Addr × Fact)) (p : Addr), bs.map (·.2) = S → (∀ b ∈ bs, FactAt H b.1 b.2) → H p = none → Q (.ref p) (upd H p (.lst ((bs.mergeSort (PySem.W.dataLe false fun b => factD b.2)).map fun b => V.ref b.1)))
theorem held_keys {H : Hp} : ∀ {S : List Fact} {xs : List (List Key × Addr × Value)}, KT H (heldK S) xs → ∃ bs : List (Addr × Fact), bs.map (·.2) = S ∧ (∀ b ∈ bs, FactAt H b.1 b.2) ∧ xs.map (fun x => x.2.1) = bs.map (·.1)
  | [], _, h => by cases h; exact ⟨[], rfl, by simp, rfl⟩
  | f :: S, _, h => by
    cases h with
    | @cons p q ps qs h1 t =>
      obtain ⟨bs, e1, e2, e3⟩ := held_keys t
      refine ⟨(q.2.1, f) :: bs, by simp [e1], fun b hb => ?_, by simp [e3]⟩
      rcases List.mem_cons.mp hb with rfl | hb
      · exact h1.2.1
      · exact e2 b hb
theorem Dp.fact {K : PySem.W.Frag} {H : Hp} {q : Addr} {f : Fact} (h : FactAt H q f) : Dp K H (.ref q) (factD f) := .tup (SqT.of h) (.cons (.int _) (.cons (.int _) (.cons (.int _) .nil)))
section
variable {X : Cx}
theorem cr_sortedHeld (hc : X.calm = true) (hu : X.A.units + 64 < cLine) : CallR X (.builtin "sorted") rSortedHeld := by
  intro pins s σ H xs us Q I r h
  obtain ⟨d, S, rfl, hd, q⟩ := h
  obtain ⟨u, rfl, rx⟩ := r.one
  cases rx
  obtain ⟨z, hs, ks, pr, o, es, ep, ho, hx, hdt, he, hn⟩ := (show ObjOk X.prog X.w H s.heap d (.dT (heldK S)) from hd.ok I.hok)
  have l1 : es.size = ks.length := size_of_entries he
  have l2 : (heldK S).length = ks.length := Paired.length pr
  obtain ⟨bs, eb1, eb2, eb3⟩ := held_keys pr
  refine Calls.call_function_entry PyProof.Rows.kind_sorted PyProof.Rows.plain_sorted PyProof.Rows.entry_sorted (PyProof.Rows.args_sorted1 _) ?_
  unfold Builtin.«sorted»
  refine wpAny_bind (m := checkCount "sorted" 1 1 _) (wpAny_pure ?_)
  refine wpAny_bind (PySem.W.kdu_collect (A := X.A.in1) (kdl_raw hs hx hdt) (I.ok.hd hc) ho (by omega) fun h' tk acc hk hacc => ?_)
  have ea : acc.toList = bs.map fun b => Value.ref b.1 := by
    have e0 : acc.toList = ks.map fun x => Value.ref x.2.1 := by
      have hl : acc.toList.length = ks.length := by rw [Array.length_toList, hacc.1]; exact l1
      apply List.ext_getElem?
      intro j
      rw [List.getElem?_map]
      cases hj : acc.toList[j]? with
      | none =>
        have h1 := List.getElem?_eq_none_iff.mp hj
        rw [List.getElem?_eq_none (by omega)]
        all_goals rfl
      | some v =>
        obtain ⟨en, hen, hv⟩ := hacc.2 j v (by rw [← Array.getElem?_toList]; exact hj)
        have qe := entry_at he j
        rw [hen] at qe
        cases hb : ks[j]? with
        | none =>
          rw [hb] at qe
          exact nomatch (show some en = none from qe)
        | some b =>
          rw [hb] at qe
          have e2 : en = entryOfKey (tupleKind (mixKind X.prog X.w)) b := Option.some.inj qe
          rw [hv, e2]
          all_goals rfl
    have e1 : (ks.map fun x => Value.ref x.2.1) = (ks.map fun x => x.2.1).map Value.ref := by rw [List.map_map]; rfl
    rw [e0, e1, eb3, List.map_map]
    rfl
  have I1 : Inv X pins σ H { s with heap := h', toks := tk } := I.kept hk
  have hbl : bs.length = ks.length := by
    have := congrArg List.length eb3
    simpa using this.symm
  refine wpAny_bind (wpAny_newList ?_ (by rw [ea, List.length_map]; omega))
  have hoL : (h'.push (seqObj "list" acc.toList.toArray 0)).get? h'.objs.size = some (seqObj "list" acc.toList.toArray 0) := Heap.get?_push_size _ rfl
  show wpAny _ _ _ _ _ { s with heap := h'.push (seqObj "list" acc.toList.toArray 0), toks := tk }
  have rv : Vals (bs.map fun b => V.ref b.1) acc.toList := by
    rw [ea]
    have : (bs.map fun b => Value.ref b.1) = (bs.map (·.1)).map Value.ref := by rw [List.map_map]; rfl
    have e2 : (bs.map fun b => V.ref b.1) = (bs.map (·.1)).map V.ref := by rw [List.map_map]; rfl
    rw [this, e2]
    exact vals_refs _
  refine wpAny_bind (wpAny_holding (PySem.W.list_sort_data (A := X.A.in1) (s := { s with heap := h'.push (seqObj "list" acc.toList.toArray 0), toks := tk }) (R := fun v b => v = .ref b.1) (bs := bs) (enc := fun b => factD b.2) hoL (each_of rv fun _ _ => rfl) (each_of rv fun b hb => ?_) (PySem.W.AllAlike.of fun b b' => factD_alike _ _) (PySem.W.Sortable.tuples fun b => ⟨_, _, rfl⟩) (by omega) (fun b hb => by have := factD_depth b.2; show X.A.in1.units + 1 + _ < _; have : X.A.in1.units = X.A.units + 1 := rfl; omega) fun out hlen eo => ?_))
  · obtain ⟨as, rr⟩ := Dp.reads I1 (factD b.2) (.ref b.1) (.ref b.1) (Dp.fact (eb2 b hb)) rfl
    refine ⟨as, Reads.keeps (fun _ _ e => Heap.get?_push_of_some _ e) rr, fun hm => ?_⟩
    obtain ⟨o', ho'⟩ := PyProof.On.reads_mem_get rr _ hm
    exact Nat.lt_irrefl _ (Heap.lt_size ho')
  · obtain ⟨e', he'⟩ := PyProof.Rows.sortedHeap_at (vs := acc.toList) (out := List.toArray out) hoL
    have hz2 : ((bs.mergeSort (PySem.W.dataLe false fun b => factD b.2)).map fun b => V.ref b.1).length ≤ sizeLine := by
      rw [List.length_map, List.length_mergeSort]; omega
    refine wpAny_pure ⟨_, rfl, .ref h'.objs.size, upd H h'.objs.size (.lst ((bs.mergeSort (PySem.W.dataLe false fun b => factD b.2)).map fun b => V.ref b.1)), I1.laid (t' := tk) (fun b u e => ?_) (Nat.le_refl _)
      (show ObjOk X.prog X.w _ _ _ (.lst _) from ⟨hz2, out, e', each_refs eo, he'⟩), rfl, q bs _ eb1 eb2 (I1.hok.fresh (Nat.le_refl _))⟩
    have hb : b < h'.objs.size := Heap.lt_size e
    rw [PyProof.Rows.sortedHeap_old (Nat.ne_of_lt hb) (by rw [size_push']; exact Nat.lt_succ_of_lt hb)]
    exact Heap.get?_push_of_some _ e
end
end L2

/-! ## F5 -/
set_option Elab.async false
set_option linter.all false
set_option maxRecDepth 100000
set_option maxHeartbeats 4000000
/-! F5: Facts.listed. -/
namespace Rb
open PySem PySem.Spec PyProof.Rows L2
open Dx (Fact Facts Atom Fill)
abbrev sFListed : Stmt := inClass sFacts 3
theorem scFListed : FnScope ["self"] ["self"] (defScope sFListed) := ⟨rfl, rfl, rfl, by decide +kernel, rfl, by decide +kernel, by decide +kernel⟩
def spFListed (P : Program) (w : World) (C : Addr) : Sp := fun vs H Q _ => ∃ (a0 : Addr) (S : List Fact) (O : List Addr), vs = [.ref a0] ∧ FactsAt P w C H a0 S O ∧ S.Nodup ∧
  ∀ (H' : Hp) (p : Addr) (qs : List Addr), Same H H' → H p = none → H' p = some (.lst (qs.map V.ref)) → Paired (FactAt H) qs (Dx.tidy S) → Q (.ref p) H'
theorem paired_of_mem {H : Hp} : ∀ {bs : List (Addr × Fact)}, (∀ b ∈ bs, FactAt H b.1 b.2) → Paired (FactAt H) (bs.map (·.1)) (bs.map (·.2))
  | [], _ => .nil
  | b :: bs, h => .cons (h b (by simp)) (paired_of_mem fun c hc => h c (by simp [hc]))
section
variable {P : Program} {w : World} {K : PySem.W.Frag} {mg : Str → Option Value} {base : Heap} {C : Addr}
theorem room64 {k : Nat} {A : Around} (hr : Room k A) : A.units + 64 < cLine := by
  have := hr.un
  omega
theorem ok_flisted {f : Addr} {fd : FuncData} (F : Fun K "listed" "Facts.listed" sFListed f fd) (T : FTxt K mg C) : FnOk P w K mg base CX0 1 f fd ["self"] (spFListed P w C) := by
  refine F.ok scFListed (fun vs H Q E h => ?_) (fun cdv A outer s H vs Q E hr h => ?_)
  · obtain ⟨a0, S, O, rfl, _⟩ := h
    rfl
  · refine ⟨_, pss_one (ps_ret (pe_callB (cr_sortedHeld rfl (room64 hr)) (by rfl) T.b.sorted (by decide +kernel) (pa_cons (pe_fld (pv 0) rfl) pa_nil))), ?_⟩
    obtain ⟨a0, S, O, rfl, ⟨dx, h, lk, kvs, hO, ha, hh, hlk, L⟩, nd, k⟩ := h
    refine ⟨_, rfl, a0, C, dx, _, _, rfl, ha, T.cl, T.nH, fF_held h lk, h, S, rfl, .inl hh, fun bs p e1 e2 hp => ?_⟩
    have e3 := sort_facts (enc := fun b : Addr × Fact => factD b.2) (k := fun b => b.2) (fun _ => rfl) bs (by rw [e1]; exact nd)
    have e4 := paired_of_mem (H := H) (bs := bs.mergeSort (PySem.W.dataLe false fun b => factD b.2)) fun b hb => e2 b ((List.mergeSort_perm bs _).mem_iff.mp hb)
    refine k _ p ((bs.mergeSort (PySem.W.dataLe false fun b => factD b.2)).map (·.1)) (same_upd (Same.refl H) hp) hp ?_ ?_
    · rw [upd_same, List.map_map]; rfl
    · rw [← e1, ← e3]; exact e4
end
end Rb

/-! ## F6 -/
set_option Elab.async false
set_option linter.all false
set_option maxRecDepth 100000
set_option maxHeartbeats 4000000
/-! F6: bundles of a callee; can_match. -/
namespace Rb
open PySem PySem.Spec PyProof.Rows L2
open Dx (Fact Facts Atom Fill)
/-- the module's name x stands for a def that keeps sp -/
def FnB (P : Program) (w : World) (K : PySem.W.Frag) (mg : Str → Option Value) (base : Heap) (CX : CXT) (x : Str) (ps : List Str) (k : Nat) (sp : Sp) : Prop :=
  ∃ f fd, mg x = some (.ref f) ∧ PySem.W.keepIn K (.ref f) = true ∧ Binds K fd ps [] ∧ FnOk P w K mg base CX k f fd ps sp
/-- the class at C has the method m, which keeps sp -/
def MeB (P : Program) (w : World) (K : PySem.W.Frag) (mg : Str → Option Value) (base : Heap) (CX : CXT) (C : Addr) (m : Str) (ps : List Str) (k : Nat) (sp : Sp) : Prop :=
  ∃ f fd, Meth K C m f ∧ Binds K fd ps [] ∧ FnOk P w K mg base CX k f fd ps sp
section
variable {X : Cx} {k : Nat} {ps : List Str} {sp : Sp} {ta : TE} {t : TA} {CX : CXT}
theorem pe_callF {x : Str} {p pos : Pos} {e : Expr} {es : List Expr} {E : XK} (F : FnB X.prog X.w X.K X.mg X.base CX x ps k sp) (hr : Room k X.A) (hx : Passes CX X E) (ha : PA X (e :: es) t) (hg : Gl X x := by rfl) (hdb : (x == ("__debug__" : Str)) = false := by decide)
    (he : starEach (e :: es) X.env = (false, eval e X.env) :: starEach es X.env := by rfl) (hpl : (backTo pos (starEach es X.env)).any (·.1) = false := by rfl) : PE X (.Call (.Name x p) (e :: es) [] pos) (tCall sp [] E t) := by
  obtain ⟨f, fd, h1, h2, h3, h4⟩ := F
  exact pe_call h4 hr hg h1 h2 h3 .nil hx ha hdb he hpl
theorem pe_methF {C : Addr} {m : Str} {o e : Expr} {es : List Expr} {apos pos : Pos} {pl : Sem Bool} {E : XK} (he : PE X o ta) (c : Cls X.K C) (F : MeB X.prog X.w X.K X.mg X.base CX C m ps k sp) (hr : Room k X.A) (hx : Passes CX X E) (ha : PA X (e :: es) t)
    (hst : starEach (e :: es) X.env = (false, eval e X.env) :: starEach es X.env := by rfl) (hpl : (backTo pos (starEach es X.env)).any (·.1) = false := by rfl)
    (ht : eval (.Call (.Attribute o m apos) (e :: es) [] pos) X.env = (do
      let ov ← eval o X.env
      standAt apos.atName
      let (f, first) ← holding [ov] (getMethod ov m pl)
      callWith pos f first (backTo pos (starEach (e :: es) X.env)) (backToKw pos (keywordEach [] X.env))) := by rfl) :
    PE X (.Call (.Attribute o m apos) (e :: es) [] pos) (tMeth C m sp [] E ta t) := by
  obtain ⟨f, fd, h1, h2, h3⟩ := F
  exact pe_meth he c h1 h3 hr h2 .nil hx ha hst hpl ht
theorem pe_methF0 {C : Addr} {m : Str} {o : Expr} {apos pos : Pos} {pl : Sem Bool} {E : XK} (he : PE X o ta) (c : Cls X.K C) (F : MeB X.prog X.w X.K X.mg X.base CX C m ps k sp) (hr : Room k X.A) (hx : Passes CX X E)
    (ht : eval (.Call (.Attribute o m apos) [] [] pos) X.env = (do
      let ov ← eval o X.env
      standAt apos.atName
      let (f, first) ← holding [ov] (getMethod ov m pl)
      callWith pos f first (backTo pos (starEach [] X.env)) (backToKw pos (keywordEach [] X.env))) := by rfl) :
    PE X (.Call (.Attribute o m apos) [] [] pos) (tMeth C m sp [] E ta tNil) := by
  obtain ⟨f, fd, h1, h2, h3⟩ := F
  exact pe_meth0 he c h1 h3 hr h2 .nil hx ht
end
def AtomsAt (H : Hp) (l : Addr) (as : List Atom) : Prop := ∃ qs : List Addr, H l = some (.lst (qs.map V.ref)) ∧ Paired (AtomAt H) qs as
theorem AtomsAt.same {H H' : Hp} {l : Addr} {as : List Atom} (h : AtomsAt H l as) (s : Same H H') : AtomsAt H' l as := by
  obtain ⟨qs, h1, h2⟩ := h
  exact ⟨qs, s _ _ h1, Paired.mapP h2 fun _ _ z => s _ _ z⟩
theorem Lk.same {H H' : Hp} {S : List Fact} {kvs : List LEnt} (L : Lk H S kvs) (s : Same H H') : Lk H' S kvs := L.keep (fun _ _ e => s _ _ e) fun e he => by
  obtain ⟨qs, h1, _⟩ := L.val e he
  rw [h1]; exact s _ _ h1
theorem FactsAt.same {P : Program} {w : World} {C : Addr} {H H' : Hp} {a : Addr} {S : List Fact} {O : List Addr} (h : FactsAt P w C H a S O) (s : Same H H') : FactsAt P w C H' a S O := by
  obtain ⟨dx, h, lk, kvs, hO, ha, hh, hlk, L⟩ := h
  exact ⟨dx, h, lk, kvs, hO, s _ _ ha, s _ _ hh, s _ _ hlk, L.same s⟩
theorem empty_cons {S : List Fact} {a : Atom} {as : List Atom} {s : Fill} : (Dx.matches_ S (a :: as) s).isEmpty = true ↔ ∀ f ∈ fitS s a S, (Dx.matches_ S as ((Dx.fit s a f).getD [])).isEmpty = true := by
  constructor
  · intro h f hf
    cases q : (Dx.matches_ S as ((Dx.fit s a f).getD [])).isEmpty with
    | true => rfl
    | false =>
      obtain ⟨m, t, hm, hr⟩ := empty_false.mp q
      have k := List.mem_filter.mp hf
      cases e : Dx.fit s a f with
      | none => have := k.2; rw [e] at this; cases this
      | some u =>
        rw [e] at hr
        have : (Dx.matches_ S (a :: as) s).isEmpty = false := empty_false.mpr ⟨f :: m, t, fun g hg => by
          rcases List.mem_cons.mp hg with rfl | hg
          · exact k.1
          · exact hm g hg, runm_of e hr⟩
        rw [h] at this; cases this
  · intro h
    cases q : (Dx.matches_ S (a :: as) s).isEmpty with
    | true => rfl
    | false =>
      obtain ⟨m, t, hm, hr⟩ := empty_false.mp q
      obtain ⟨f, r, u, rfl, e, hr2⟩ := runm_cons hr
      have k := h f (List.mem_filter.mpr ⟨hm f (by simp), by rw [e]; rfl⟩)
      rw [e] at k
      have : (Dx.matches_ S as u).isEmpty = false := empty_false.mpr ⟨r, t, fun g hg => hm g (by simp [hg]), hr2⟩
      rw [show (Option.getD (some u) [] : Fill) = u from rfl, this] at k
      cases k
theorem cutV_one (x : V) (r : List V) : cutV (x :: r) (some 1) none = r := by
  unfold cutV
  have e1 : HT.sIx (x :: r).length 0 (some 1) = 1 := by
    have := HT.sIx_nat (x :: r).length 0 1
    rw [show ((1 : Nat) : Int) = (1 : Int) from rfl] at this
    rw [this, List.length_cons]; omega
  rw [e1, HT.sIx_none]
  simp
theorem atI_zero {α : Type} (x : α) (r : List α) : atI (x :: r) 0 = some x := atI_nat (j := 0) rfl
abbrev sCan : Stmt := topS 3
theorem scCan : FnScope ["facts", "atoms", "values", "fact"] ["facts", "atoms", "values"] (defScope sCan) := ⟨rfl, rfl, rfl, by decide +kernel, rfl, by decide +kernel, by decide +kernel⟩
def spCan (P : Program) (w : World) (C : Addr) (n : Nat) : Sp := fun vs H Q _ => ∃ (a0 l d : Addr) (S : List Fact) (O : List Addr) (as : List Atom) (s : Fill), vs = [.ref a0, .ref l, .ref d] ∧ FactsAt P w C H a0 S O ∧ AtomsAt H l as ∧ H d = some (.dK (fillK s)) ∧
  as.length ≤ n ∧ (s.map (·.1)).Nodup ∧ s.length + 2 * as.length ≤ 1000 ∧ S.length ≤ 100000 ∧
  ∀ H' : Hp, Same H H' → Q (.bl (!(Dx.matches_ S as s).isEmpty)) H'
section
variable {P : Program} {w : World} {K : PySem.W.Frag} {mg : Str → Option Value} {base : Heap} {C : Addr}
theorem can_step {f : Addr} {fd : FuncData} {n j : Nat} {sp' : Sp} (F : Fun K "can_match" "can_match" sCan f fd) (T : FTxt K mg C) (hj : 1 ≤ j) (GC : FnB P w K mg base CX0 "can_match" ["facts", "atoms", "values"] j sp') (hsub : ∀ n', n = n' + 1 → sp' = spCan P w C n')
    (GF : MeB P w K mg base CX0 C "fitting" ["self", "atom", "values"] 1 (spFFit P w C)) (GW : FnB P w K mg base CX0 "with_fact" ["values", "atom", "fact"] 1 spWith) :
    FnOk P w K mg base CX0 (j + 1) f fd ["facts", "atoms", "values"] (spCan P w C n) := by
  refine F.ok scCan (fun vs H Q E h => ?_) (fun cdv A outer s H vs Q E hr h => ?_)
  · obtain ⟨a0, l, d, S, O, as, s, rfl, _⟩ := h
    rfl
  · have hu := hu_of hr
    have hr1 : Room 1 _ := hr.mono hj
    refine ⟨_, pss_cons (ps_if (pt_not (pt_truth (pv 1) (fun _ => rfl))) (pss_one (ps_ret pe_bl)) pss_nil)
      (pss_cons (ps_for PassesOwn.never rfl (pi_list (pe_methF (pv 0) T.cl GF hr1 pass0 (pa_cons (pe_ix ix_list (pv 1) pe_int (fun _ _ => rfl)) (pa_cons (pv 2) pa_nil)))) (pg_name (i := 3) scCan.nd rfl (Or.inl rfl))
        (pss_one (ps_if (pt_truth (pe_callF GC hr pass0 (pa_cons (pv 0) (pa_cons (pe_slice sl_list (pv 1) (po_some pe_int) po_none) (pa_cons (pe_callF GW hr1 pass0 (pa_cons (pv 2) (pa_cons (pe_ix ix_list (pv 1) pe_int (fun _ _ => rfl)) (pa_cons (pv 3) pa_nil)))) pa_nil)))) (fun _ => rfl))
          (pss_one (ps_ret pe_bl)) pss_nil)))
      (pss_one (ps_ret pe_bl))), ?_⟩
    obtain ⟨a0, l, d, S, O, as, s, rfl, hF, ⟨qs, hl, hp⟩, hd, hn, nd, hsz, hS, k⟩ := h
    cases hp with
    | nil =>
      refine ⟨_, rfl, false, .inl ⟨_, SqL.of hl, rfl⟩, ifT rfl ?_⟩
      have := k H (Same.refl H)
      exact this
    | @cons qa a qs as hqa hp =>
      have hl' : H l = some (.lst (V.ref qa :: qs.map V.ref)) := hl
      obtain ⟨n', rfl⟩ : ∃ n', n = n' + 1 := ⟨n - 1, by have : (a :: as).length = as.length + 1 := rfl; omega⟩
      have esp := hsub n' rfl
      refine ⟨_, rfl, true, .inl ⟨_, SqL.of hl, rfl⟩, ifF rfl ?_⟩
      have hF0 := hF
      obtain ⟨dx, h, lk, kvs, hO, ha, hh, hlk, L⟩ := hF0
      refine ⟨_, rfl, a0, dx, _, rfl, ha, rfl, _, rfl, l, _, _, _, rfl, rfl, SqL.of hl', atI_zero _ _, _, rfl, ?_⟩
      refine ⟨a0, qa, d, S, O, a, s, rfl, hF, hqa, hd, hS, fun H1 p ps s1 hpn hp1 hpp => ?_⟩
      have hpl : ps.length ≤ S.length := by
        rw [Paired.length hpp]
        exact List.length_filter_le _ _
      refine ⟨p, rfl, ⟨_, SqL.of hp1⟩, for_list (K := K) (a := p) (xs := ps.map V.ref) (fun i σ H' => ∃ v, σ = [some (.ref a0), some (.ref l), some (.ref d), v] ∧ Same H1 H' ∧ ∀ g ∈ (fitS s a S).take i, (Dx.matches_ S as ((Dx.fit s a g).getD [])).isEmpty = true)
        ⟨none, rfl, Same.refl H1, by simp⟩ (fun i σ H' _ ⟨_, _, s5, _⟩ => SqL.of (s5 _ _ hp1)) ?_ ?_⟩
      · rintro i x σ H2 hi ⟨v, rfl, s2, hg⟩
        obtain ⟨qf, hqf, rfl⟩ := map_get hi
        obtain ⟨g, hgi, gat⟩ := paired_get hpp hqf
        have s02 : Same H H2 := s1.trans s2
        have gfit : ∃ u, Dx.fit s a g = some u := by
          have := (List.mem_filter.mp (List.mem_of_getElem? hgi)).2
          cases e : Dx.fit s a g with
          | none => rw [e] at this; cases this
          | some u => exact ⟨u, rfl⟩
        obtain ⟨u, hu1⟩ := gfit
        have gp := fit_put nd hu1
        have hlen1 : (a :: as).length = as.length + 1 := rfl
        -- the arguments: facts, atoms[1:], with_fact(values, atoms[0], fact)
        refine ⟨_, rfl, _, rfl, 1, rfl, l, _, rfl, SqL.of (s02 _ _ hl'), fun t ht => ?_⟩
        have s3 : Same H (upd H2 t (.lst (cutV (V.ref qa :: qs.map V.ref) (some 1) none))) := fun b o e => (same_upd (Same.refl H2) ht) b o (s02 b o e)
        refine ⟨_, rfl, _, rfl, l, _, _, _, rfl, rfl, SqL.of (s3 _ _ hl'), atI_zero _ _, _, rfl, ?_⟩
        refine ⟨d, qa, qf, s, u, a, g, rfl, s3 _ _ hd, s3 _ _ hqa, s3 _ _ gat, nd, by omega, hu1, fun H4 d2 s4 hd2n hd2 => ?_⟩
        have s04 : Same H H4 := s3.trans s4
        have hA4 : AtomsAt H4 t as := ⟨qs, by rw [s4 _ _ upd_same, cutV_one], Paired.mapP hp fun _ _ z => s04 _ _ z⟩
        show sp' [.ref a0, .ref t, .ref d2] H4 _ _
        rw [esp]
        refine ⟨a0, t, d2, S, O, as, u, rfl, hF.same s04, hA4, hd2, by omega, gp.1, by omega, hS, fun H5 s5 => ?_⟩
        refine ⟨_, rfl, ?_⟩
        cases e : (Dx.matches_ S as u).isEmpty with
        | false =>
          refine ifT rfl ?_
          have q : (Dx.matches_ S (a :: as) s).isEmpty = false := by
            cases q : (Dx.matches_ S (a :: as) s).isEmpty with
            | false => rfl
            | true =>
              have := empty_cons.mp q g (List.mem_of_getElem? hgi)
              rw [hu1] at this
              rw [show (Option.getD (some u) [] : Fill) = u from rfl, e] at this
              cases this
          have := k H5 (s04.trans s5)
          rw [q] at this
          exact this
        | true =>
          refine ifF rfl ?_
          have s15 : Same H1 H5 := fun b o e => s5 _ _ (s4 _ _ ((same_upd (Same.refl H2) ht) b o (s2 b o e)))
          refine ⟨_, rfl, s15, fun g' hg' => ?_⟩
          rw [take_succ' hgi] at hg'
          rcases List.mem_append.mp hg' with hg' | hg'
          · exact hg g' hg'
          · have : g' = g := by simpa using hg'
            subst this
            rw [hu1]; exact e
      · rintro σ H2 ⟨v, rfl, s2, hg⟩
        have q : (Dx.matches_ S (a :: as) s).isEmpty = true := empty_cons.mpr fun g hgm => hg g (by
          rw [List.take_of_length_le (by rw [List.length_map, Paired.length hpp]; exact Nat.le_refl _)]
          exact hgm)
        have := k H2 (s1.trans s2)
        rw [q] at this
        exact this
theorem ok_can {f : Addr} {fd : FuncData} (F : Fun K "can_match" "can_match" sCan f fd) (T : FTxt K mg C) (hm : mg "can_match" = some (.ref f)) (b : Binds K fd ["facts", "atoms", "values"] [])
    (GF : MeB P w K mg base CX0 C "fitting" ["self", "atom", "values"] 1 (spFFit P w C)) (GW : FnB P w K mg base CX0 "with_fact" ["values", "atom", "fact"] 1 spWith) :
    ∀ n, FnOk P w K mg base CX0 (n + 2) f fd ["facts", "atoms", "values"] (spCan P w C n) := by
  intro n
  induction n with
  | zero =>
    have G0 : FnOk P w K mg base CX0 1 f fd ["facts", "atoms", "values"] (fun _ _ _ _ => False) := F.ok scCan (fun _ _ _ _ h => h.elim) (fun _ _ _ _ _ _ _ _ _ h => h.elim)
    exact can_step F T (Nat.le_refl 1) ⟨f, fd, hm, F.kp, b, G0⟩ (fun n' h => by cases h) GF GW
  | succ n ih => exact can_step F T (by omega) ⟨f, fd, hm, F.kp, b, ih⟩ (fun n' h => by cases h; rfl) GF GW
end
end Rb

/-! ## F7 -/
set_option Elab.async false
set_option linter.all false
set_option maxRecDepth 100000
set_option maxHeartbeats 4000000
/-! F7: matches. -/
namespace Rb
open PySem PySem.Spec PyProof.Rows L2
open Dx (Fact Facts Atom Fill)
theorem runm_nodup : ∀ {as : List Atom} {s t : Fill} {m : List Fact}, runm s as m = some t → (s.map (·.1)).Nodup → (t.map (·.1)).Nodup ∧ t.length ≤ s.length + 2 * as.length
  | [], s, t, m, h, nd => by
    cases m with
    | nil =>
      have e : s = t := by simpa [runm] using h
      subst e
      exact ⟨nd, by simp⟩
    | cons f r => simp [runm] at h
  | a :: as, s, t, m, h, nd => by
    obtain ⟨f, r, u, rfl, e, q⟩ := runm_cons h
    have k := fit_put nd e
    have ih := runm_nodup q k.1
    exact ⟨ih.1, by rw [List.length_cons]; omega⟩
def TupsAt (H : Hp) (t : Addr) (m : List Fact) : Prop := ∃ ps : List Addr, H t = some (.tup (ps.map V.ref)) ∧ Paired (FactAt H) ps m
def MatchAt (H : Hp) (q : Addr) (ms : List Fact × Fill) : Prop := ∃ tm dv, H q = some (.tup [.ref tm, .ref dv]) ∧ TupsAt H tm ms.1 ∧ H dv = some (.dK (fillK ms.2))
theorem TupsAt.kept {H H' : Hp} {t : Addr} {m : List Fact} (h : TupsAt H t m) (k : ∀ b xs, H b = some (.tup xs) → H' b = some (.tup xs)) : TupsAt H' t m := by
  obtain ⟨ps, h1, h2⟩ := h
  exact ⟨ps, k _ _ h1, Paired.mapP h2 fun _ _ z => k _ _ z⟩
theorem MatchAt.kept {H H' : Hp} {q : Addr} {ms : List Fact × Fill} (h : MatchAt H q ms) (k : ∀ b xs, H b = some (.tup xs) → H' b = some (.tup xs)) (k2 : ∀ b kvs, H b = some (.dK kvs) → H' b = some (.dK kvs)) : MatchAt H' q ms := by
  obtain ⟨tm, dv, h1, h2, h3⟩ := h
  exact ⟨tm, dv, k _ _ h1, h2.kept k, k2 _ _ h3⟩
theorem MatchAt.same {H H' : Hp} {q : Addr} {ms : List Fact × Fill} (h : MatchAt H q ms) (s : Same H H') : MatchAt H' q ms := h.kept (fun _ _ e => s _ _ e) fun _ _ e => s _ _ e
theorem MatchAt.upd {H : Hp} {q l : Addr} {xs : List V} {o : HO} {ms : List Fact × Fill} (h : MatchAt H q ms) (hl : H l = some (.lst xs)) : MatchAt (upd H l o) q ms := h.kept (fun b ys e => by
  rw [upd_ne (ne_of e hl (fun z => nomatch z))]; exact e) fun b ys e => by
  rw [upd_ne (ne_of e hl (fun z => nomatch z))]; exact e
abbrev sMatches : Stmt := topS 4
def nMatches : List Str := ["sources", "atoms", "found", "source", "atom", "longer", "matched", "values", "fact"]
theorem scMatches : FnScope nMatches ["sources", "atoms"] (defScope sMatches) := ⟨rfl, rfl, rfl, by decide +kernel, rfl, by decide +kernel, by decide +kernel⟩
def SrcAt (P : Program) (w : World) (C : Addr) (H : Hp) (a : Addr) (S : List Fact) : Prop := (∃ O, FactsAt P w C H a S O) ∧ S.length ≤ 1000
theorem SrcAt.same {P : Program} {w : World} {C : Addr} {H H' : Hp} {a : Addr} {S : List Fact} (h : SrcAt P w C H a S) (s : Same H H') : SrcAt P w C H' a S := ⟨let ⟨O, q⟩ := h.1; ⟨O, q.same s⟩, h.2⟩
def spMatches (P : Program) (w : World) (C : Addr) : Sp := fun vs H Q _ => ∃ (ls la : Addr) (ss : List Addr) (Ss : List (List Fact)) (as : List Atom), vs = [.ref ls, .ref la] ∧ H ls = some (.lst (ss.map V.ref)) ∧ Paired (SrcAt P w C H) ss Ss ∧ AtomsAt H la as ∧
  Ss.length = as.length ∧ as.length ≤ 2 ∧
  ∀ (H' : Hp) (p : Addr) (qs : List Addr), Same H H' → H p = none → H' p = some (.lst (qs.map V.ref)) → Paired (MatchAt H') qs (mlist (Ss.zip as) [([], [])]) → Q (.ref p) H'
theorem mlist_snoc {z : List (List Fact × Atom)} {i : Nat} {p : List Fact × Atom} (h : z[i]? = some p) (L : List (List Fact × Fill)) : mlist (z.take (i + 1)) L = mstep (mlist (z.take i) L) p := by
  rw [take_succ' h]
  unfold mlist
  rw [List.foldl_append]
  rfl
theorem mstep_snoc {L : List (List Fact × Fill)} {j : Nat} {q : List Fact × Fill} (h : L[j]? = some q) (p : List Fact × Atom) : mstep (L.take (j + 1)) p = mstep (L.take j) p ++ (fitS q.2 p.2 p.1).map fun f => (q.1 ++ [f], (Dx.fit q.2 p.2 f).getD []) := by
  rw [take_succ' h]
  unfold mstep
  rw [List.flatMap_append]
  simp
theorem mstep_bound {L : List (List Fact × Fill)} {j b : Nat} {p : List Fact × Atom} (h : p.1.length ≤ b) : (mstep (L.take j) p).length ≤ j * b := by
  refine Nat.le_trans (length_mstep h) (Nat.mul_le_mul_right _ ?_)
  rw [List.length_take]; omega
section
variable {P : Program} {w : World} {K : PySem.W.Frag} {mg : Str → Option Value} {base : Heap} {C : Addr}
theorem ok_matches {f : Addr} {fd : FuncData} (F : Fun K "matches" "matches" sMatches f fd) (T : FTxt K mg C)
    (GF : MeB P w K mg base CX0 C "fitting" ["self", "atom", "values"] 1 (spFFit P w C)) (GW : FnB P w K mg base CX0 "with_fact" ["values", "atom", "fact"] 1 spWith) :
    FnOk P w K mg base CX0 2 f fd ["sources", "atoms"] (spMatches P w C) := by
  refine F.ok scMatches (fun vs H Q E h => ?_) (fun cdv A outer s H vs Q E hr h => ?_)
  · obtain ⟨ls, la, ss, Ss, as, rfl, _⟩ := h
    rfl
  · have nd : nMatches.Nodup := scMatches.nd
    refine ⟨_, pss_cons (ps_set (i := 2) nd rfl (Or.inl rfl) (pe_lst (pa_cons (pe_tup (pa_cons (pe_tup pa_nil) (pa_cons pe_dnewK pa_nil))) pa_nil)))
      (pss_cons (ps_for PassesOwn.never rfl (pi_zip (by rfl) T.b.zip (pa_cons (pv 0) (pa_cons (pv 1) pa_nil))) (pg_tup rfl (pgs_cons (pg_name (i := 3) nd rfl (Or.inl rfl)) (pgs_cons (pg_name (i := 4) nd rfl (Or.inl rfl)) pgs_nil)))
        (pss_cons (ps_set (i := 5) nd rfl (Or.inl rfl) (pe_lst pa_nil))
        (pss_cons (ps_for PassesOwn.never rfl (pi_list (pv 2)) (pg_tup rfl (pgs_cons (pg_name (i := 6) nd rfl (Or.inl rfl)) (pgs_cons (pg_name (i := 7) nd rfl (Or.inl rfl)) pgs_nil)))
          (pss_one (ps_for PassesOwn.never rfl (pi_list (pe_methF (pv 3) T.cl GF hr pass0 (pa_cons (pv 4) (pa_cons (pv 7) pa_nil)))) (pg_name (i := 8) nd rfl (Or.inl rfl))
            (pss_one (ps_expr (pe_bm PySem.F.plainAttrs_list PySem.F.slot_list_append PySem.F.type_list_append mt_append (pv 5)
              (pa_cons (pe_tup (pa_cons (pe_op op_catA (pv 6) (pe_tup (pa_cons (pv 8) pa_nil))) (pa_cons (pe_callF GW hr pass0 (pa_cons (pv 7) (pa_cons (pv 4) (pa_cons (pv 8) pa_nil)))) pa_nil))) pa_nil)))))))
        (pss_one (ps_set (i := 2) nd rfl (Or.inl rfl) (pv 5))))))
      (pss_one (ps_ret (pv 2)))), ?_⟩
    obtain ⟨ls, la, ss, Ss, as, rfl, hls, hss, ⟨qa, hla, hqa⟩, hlen, hle, k⟩ := h
    -- found = [((), {})]
    refine ⟨by show 0 ≤ sizeLine; decide, fun t0 ht0 => ?_⟩
    refine fun d0 hd0 => ⟨by show 2 ≤ sizeLine; decide, fun q0 hq0 => ⟨by show 1 ≤ sizeLine; decide, fun l0 hl0 => ?_⟩⟩
    have sA : Same H (upd H t0 (.tup [])) := same_upd (Same.refl H) ht0
    have sB : Same (upd H t0 (.tup [])) (upd (upd H t0 (.tup [])) d0 (.dK [])) := same_upd (Same.refl _) hd0
    have sC : Same (upd (upd H t0 (.tup [])) d0 (.dK [])) (upd (upd (upd H t0 (.tup [])) d0 (.dK [])) q0 (.tup [.ref t0, .ref d0])) := same_upd (Same.refl _) hq0
    have sD : Same (upd (upd (upd H t0 (.tup [])) d0 (.dK [])) q0 (.tup [.ref t0, .ref d0])) (upd (upd (upd (upd H t0 (.tup [])) d0 (.dK [])) q0 (.tup [.ref t0, .ref d0])) l0 (.lst [.ref q0])) := same_upd (Same.refl _) hl0
    have m0 : MatchAt (upd (upd (upd (upd H t0 (.tup [])) d0 (.dK [])) q0 (.tup [.ref t0, .ref d0])) l0 (.lst [.ref q0])) q0 ([], []) :=
      ⟨t0, d0, sD _ _ upd_same, ⟨[], sD _ _ (sC _ _ (sB _ _ upd_same)), .nil⟩, sD _ _ (sC _ _ upd_same)⟩
    have s1 : Same H (upd (upd (upd (upd H t0 (.tup [])) d0 (.dK [])) q0 (.tup [.ref t0, .ref d0])) l0 (.lst [.ref q0])) := ((sA.trans sB).trans sC).trans sD
    have e1 : upd (upd (upd (upd H t0 (.tup [])) d0 (.dK [])) q0 (.tup [.ref t0, .ref d0])) l0 (.lst [.ref q0]) l0 = some (.lst ([q0].map V.ref)) := upd_same
    have hl0H : H l0 = none := ((sA.trans sB).trans sC).free hl0
    show tSeq _ _ _ _ (upd (upd (upd (upd H t0 (.tup [])) d0 (.dK [])) q0 (.tup [.ref t0, .ref d0])) l0 (.lst [.ref q0]))
    generalize upd (upd (upd (upd H t0 (.tup [])) d0 (.dK [])) q0 (.tup [.ref t0, .ref d0])) l0 (.lst [.ref q0]) = H1 at s1 e1 m0 ⊢
    clear sA sB sC sD hl0 hq0 hd0 ht0
    have lss : (ss.map V.ref).length = (qa.map V.ref).length := by rw [List.length_map, List.length_map, Paired.length hss, Paired.length hqa, hlen]
    refine ⟨_, rfl, _, rfl, ls, la, ss.map V.ref, qa.map V.ref, rfl, SqL.of (s1 _ _ hls), SqL.of (s1 _ _ hla), RZ.for_zipL lss (fun i σ H' => ∃ lf qs v3 v4 v5 v6 v7 v8, σ = [some (.ref ls), some (.ref la), some (.ref lf), v3, v4, v5, v6, v7, v8] ∧ Same H H' ∧ H lf = none ∧ H' lf = some (.lst (qs.map V.ref)) ∧ Paired (MatchAt H') qs (mlist ((Ss.zip as).take i) [([], [])]))
      ⟨l0, [q0], none, none, none, none, none, none, rfl, s1, hl0H, e1, .cons m0 .nil⟩ (fun i σ H' ⟨_, _, _, _, _, _, _, _, _, q, _⟩ => ⟨SqL.of (q _ _ hls), SqL.of (q _ _ hla)⟩) ?_ ?_⟩
    · rintro i x y t1 σ H2 hx hy ⟨lf, qs, v3, v4, v5, v6, v7, v8, rfl, s2, hlf0, hlf, hms⟩ ht1
      obtain ⟨sa, hsa, rfl⟩ := map_get hx
      obtain ⟨aq, haq, rfl⟩ := map_get hy
      obtain ⟨S, hS, sat⟩ := paired_get hss hsa
      obtain ⟨a, ha, aat⟩ := paired_get hqa haq
      have hz : (Ss.zip as)[i]? = some (S, a) := List.getElem?_zip_eq_some.mpr ⟨hS, ha⟩
      have hi : i < as.length := (List.getElem?_eq_some_iff.mp ha).1
      refine ⟨t1, _, rfl, SqT.of upd_same, rfl, _, _, rfl, _, _, rfl, rfl, ?_⟩
      -- longer = []
      refine ⟨by show 0 ≤ sizeLine; decide, fun ll hll => ?_⟩
      have s23 : Same H2 (upd (upd H2 t1 (.tup [.ref sa, .ref aq])) ll (.lst [])) := (same_upd (Same.refl H2) ht1).trans (same_upd (Same.refl _) hll)
      have hll2 : H2 ll = none := (same_upd (Same.refl H2) ht1).free hll
      have hllH : H ll = none := s2.free hll2
      have nlf : lf ≠ ll := ne_of_none hlf hll2
      have s3 : Same H (upd (upd H2 t1 (.tup [.ref sa, .ref aq])) ll (.lst [])) := s2.trans s23
      have e3 : upd (upd H2 t1 (.tup [.ref sa, .ref aq])) ll (.lst []) ll = some (.lst (([] : List Addr).map V.ref)) := upd_same
      have hms3 : Paired (MatchAt (upd (upd H2 t1 (.tup [.ref sa, .ref aq])) ll (.lst []))) qs (mlist ((Ss.zip as).take i) [([], [])]) := Paired.mapP hms fun _ _ z => z.same s23
      have hlf3 := s23 _ _ hlf
      show tSeq _ _ _ _ (upd (upd H2 t1 (.tup [.ref sa, .ref aq])) ll (.lst []))
      generalize upd (upd H2 t1 (.tup [.ref sa, .ref aq])) ll (.lst []) = H3 at s3 e3 hms3 hlf3 ⊢
      have hL : (mlist ((Ss.zip as).take i) [([], [])]).length ≤ 1000 := by
        have := length_mlist (b := 1000) (z := (Ss.zip as).take i) (L := [([], [])]) fun p hp => by
          have hp' := List.mem_of_mem_take hp
          obtain ⟨n, hn, e⟩ := List.getElem_of_mem hp'
          have h1 : (Ss.zip as)[n]? = some p := by rw [← e]; exact List.getElem?_eq_getElem hn
          have h2 := (List.getElem?_zip_eq_some.mp (show (Ss.zip as)[n]? = some (p.1, p.2) from h1)).1
          obtain ⟨b, hb, sb⟩ : ∃ b, ss[n]? = some b ∧ SrcAt P w C H b p.1 := by
            have hn2 : n < ss.length := by rw [Paired.length hss]; exact (List.getElem?_eq_some_iff.mp h2).1
            obtain ⟨S', hS', sb⟩ := paired_get hss (List.getElem?_eq_getElem hn2)
            rw [h2] at hS'
            cases hS'
            exact ⟨_, List.getElem?_eq_getElem hn2, sb⟩
          exact sb.2
        have l1 : ((Ss.zip as).take i).length ≤ 1 := by rw [List.length_take]; omega
        have l2 : 1000 ^ ((Ss.zip as).take i).length ≤ 1000 ^ 1 := Nat.pow_le_pow_right (by omega) l1
        have l3 : (1000 : Nat) ^ 1 = 1000 := rfl
        rw [List.length_singleton, Nat.one_mul] at this
        omega
      refine ⟨_, rfl, lf, rfl, ⟨_, SqL.of hlf3⟩, for_list (K := K) (a := lf) (xs := qs.map V.ref) (fun j σ H' => ∃ ps v6 v7 v8, σ = [some (.ref ls), some (.ref la), some (.ref lf), some (.ref sa), some (.ref aq), some (.ref ll), v6, v7, v8] ∧ Same H H' ∧ H' lf = some (.lst (qs.map V.ref)) ∧ Paired (MatchAt H') qs (mlist ((Ss.zip as).take i) [([], [])]) ∧
          H' ll = some (.lst (ps.map V.ref)) ∧ Paired (MatchAt H') ps (mstep ((mlist ((Ss.zip as).take i) [([], [])]).take j) (S, a)))
        ⟨[], v6, v7, v8, rfl, s3, hlf3, hms3, e3, .nil⟩ (fun j σ H' _ ⟨_, _, _, _, _, _, q, _⟩ => SqL.of q) ?_ ?_⟩
      · rintro j x σ H4 hj ⟨ps, v6, v7, v8, rfl, s4, hlf4, hms4, hll4, hps4⟩
        obtain ⟨qm, hqm, rfl⟩ := map_get hj
        obtain ⟨⟨m, sf⟩, hmj, mat⟩ := paired_get hms4 hqm
        have mat0 := mat
        obtain ⟨tm, dv, hq4, htm, hdv⟩ := mat0
        refine ⟨qm, _, rfl, SqT.of hq4, rfl, _, _, rfl, _, _, rfl, rfl, ?_⟩
        -- the match's own properties
        have mm := mem_mlist.mp (List.mem_of_getElem? hmj)
        obtain ⟨m0, s0, m1, hL0, _, hrun, em⟩ := mm
        have e00 : (m0, s0) = (([], []) : List Fact × Fill) := by simpa using hL0
        cases e00
        have hmk := runm_nodup hrun (by simp)
        have hmlen := runm_len hrun
        have hm1 : m = m1 := by simpa using em
        have hatake : (((Ss.zip as).take i).map (·.2)).length ≤ 2 := by rw [List.length_map, List.length_take, List.length_zip]; omega
        have sS := sat.same s4
        obtain ⟨⟨O, hF⟩, hS1⟩ := sS
        have hF0 := hF
        obtain ⟨dx, h, lk, kvs, hO, haa, hh, hlk, L⟩ := hF0
        have aat4 : H4 aq = some (.tup (atomV a)) := s4 _ _ aat
        refine ⟨_, rfl, sa, dx, _, rfl, haa, rfl, _, rfl, _, rfl, ?_⟩
        refine ⟨sa, aq, dv, S, O, a, sf, rfl, hF, aat4, hdv, by omega, fun H5 p rs s45 hpn hp5 hrs => ?_⟩
        have s5 : Same H H5 := s4.trans s45
        refine ⟨p, rfl, ⟨_, SqL.of hp5⟩, for_list (K := K) (a := p) (xs := rs.map V.ref) (fun t σ H' => ∃ ps v8, σ = [some (.ref ls), some (.ref la), some (.ref lf), some (.ref sa), some (.ref aq), some (.ref ll), some (.ref tm), some (.ref dv), v8] ∧ Same H H' ∧ H' lf = some (.lst (qs.map V.ref)) ∧ Paired (MatchAt H') qs (mlist ((Ss.zip as).take i) [([], [])]) ∧
            H' ll = some (.lst (ps.map V.ref)) ∧ H' p = some (.lst (rs.map V.ref)) ∧ (∀ b xs, H4 b = some (.tup xs) → H' b = some (.tup xs)) ∧ H' dv = some (.dK (fillK sf)) ∧
            Paired (MatchAt H') ps (mstep ((mlist ((Ss.zip as).take i) [([], [])]).take j) (S, a) ++ ((fitS sf a S).take t).map fun f => (m ++ [f], (Dx.fit sf a f).getD [])))
          ⟨ps, v8, rfl, s5, s45 _ _ hlf4, Paired.mapP hms4 (fun _ _ z => z.same s45), s45 _ _ hll4, hp5, fun b xs e => s45 _ _ e, s45 _ _ hdv, by rw [List.take_zero, List.map_nil, List.append_nil]; exact Paired.mapP hps4 (fun _ _ z => z.same s45)⟩
          (fun t σ H' _ ⟨_, _, _, _, _, _, _, q, _⟩ => SqL.of q) ?_ ?_⟩
        · rintro t x σ H6 ht ⟨ps, v8, rfl, s6, hlf6, hms6, hll6, hp6, tk6, hdv6, hps6⟩
          obtain ⟨qf, hqf, rfl⟩ := map_get ht
          obtain ⟨f, hf, fat⟩ := paired_get hrs hqf
          have hfit : ∃ u, Dx.fit sf a f = some u := by
            have := (List.mem_filter.mp (List.mem_of_getElem? hf)).2
            cases e : Dx.fit sf a f with
            | none => rw [e] at this; cases this
            | some u => exact ⟨u, rfl⟩
          obtain ⟨u, hu1⟩ := hfit
          have fat6 : FactAt H6 qf f := tk6 _ _ fat
          have aat6 : H6 aq = some (.tup (atomV a)) := s6 _ _ aat
          obtain ⟨pm, htm1, htm2⟩ := htm.kept tk6
          -- matched + (fact,)
          refine ⟨_, rfl, .inl ⟨rfl, _, SqL.of hll6⟩, _, rfl, _, rfl, by show 1 ≤ sizeLine; decide, fun t2 ht2 => ?_⟩
          have s67 : Same H6 (upd H6 t2 (.tup [.ref qf])) := same_upd (Same.refl H6) ht2
          have hpml : pm.length ≤ 2 := by rw [Paired.length htm2, hm1, hmlen]; exact hatake
          -- the tuple of matched facts behind it
          have cat : ∀ (Q' : VK), (∀ (H' : Hp) (tc : Addr), Same (upd H6 t2 (.tup [.ref qf])) H' → TupsAt H' tc (m ++ [f]) → Q' (.ref tc) H') → rCatA K (.ref tm) (.ref t2) (upd H6 t2 (.tup [.ref qf])) Q' := by
            intro Q' kQ
            refine ⟨tm, t2, pm.map V.ref, [.ref qf], rfl, rfl, SqT.of (s67 _ _ htm1), SqT.of upd_same, by rw [List.length_map]; show _ ≤ sizeLine; exact Nat.le_of_lt (big_lt (by rw [List.length_singleton]; omega)), fun e => ?_, fun _ e => (nomatch e), fun _ _ tc htc => ?_⟩
            · have e2 : pm = [] := List.map_eq_nil_iff.mp e
              subst e2
              cases htm2
              exact kQ _ t2 (Same.refl _) ⟨[qf], upd_same, .cons (s67 _ _ fat6) .nil⟩
            · have s78 : Same (upd H6 t2 (.tup [.ref qf])) (upd (upd H6 t2 (.tup [.ref qf])) tc (.tup (pm.map V.ref ++ [.ref qf]))) := same_upd (Same.refl _) htc
              exact kQ _ tc s78 ⟨pm ++ [qf], by rw [upd_same]; simp, Paired.snoc (Paired.mapP htm2 fun _ _ z => s78 _ _ (s67 _ _ z)) (s78 _ _ (s67 _ _ fat6))⟩
          refine cat _ fun H7 tc s77 htc => ?_
          have s7 : Same H6 H7 := s67.trans s77
          refine ⟨_, rfl, _, rfl, _, rfl, ?_⟩
          refine ⟨dv, aq, qf, sf, u, a, f, rfl, s7 _ _ hdv6, s7 _ _ aat6, s7 _ _ fat6, hmk.1, ?_, hu1, fun H8 d2 s78 hd2n hd2 => ?_⟩
          · have := hmk.2
            have e0 : ([] : Fill).length = 0 := rfl
            omega
          have s8 : Same H6 H8 := s7.trans s78
          refine ⟨by show 2 ≤ sizeLine; decide, fun q9 hq9 => ?_⟩
          have s9 : Same H6 (upd H8 q9 (.tup [.ref tc, .ref d2])) := s8.trans (same_upd (Same.refl H8) hq9)
          have s89 : Same H8 (upd H8 q9 (.tup [.ref tc, .ref d2])) := same_upd (Same.refl H8) hq9
          have newm : MatchAt (upd H8 q9 (.tup [.ref tc, .ref d2])) q9 (m ++ [f], (Dx.fit sf a f).getD []) := ⟨tc, d2, upd_same, (htc.kept fun _ _ e => s78 _ _ e).kept fun _ _ e => s89 _ _ e, by rw [hu1]; exact s89 _ _ hd2⟩
          generalize upd H8 q9 (.tup [.ref tc, .ref d2]) = H9 at s9 newm ⊢
          have hll9 := s9 _ _ hll6
          have hplen : ps.length ≤ 1000 * 1000 + 1000 := by
            rw [Paired.length hps6, List.length_append, List.length_map, List.length_take]
            have b1 := mstep_bound (L := mlist ((Ss.zip as).take i) [([], [])]) (j := j) (b := 1000) (p := (S, a)) hS1
            have b2 : (fitS sf a S).length ≤ S.length := List.length_filter_le _ _
            have b3 : j < 1000 := by
              have := (List.getElem?_eq_some_iff.mp hmj).1
              omega
            have b4 : j * 1000 ≤ 1000 * 1000 := Nat.mul_le_mul_right _ (Nat.le_of_lt b3)
            omega
          refine ⟨ll, _, _, rfl, rfl, hll9, by rw [List.length_map]; exact big_lt (by omega), ?_⟩
          have n1 : lf ≠ ll := nlf
          have n2 : p ≠ ll := fun z => by
            have := s45 _ _ hll4
            rw [← z] at this
            -- p is new over H4
            rw [← z] at hll4
            rw [hpn] at hll4
            cases hll4
          refine ⟨ps ++ [q9], _, rfl, fun b o e => ?_, by rw [upd_ne n1]; exact s9 _ _ hlf6, Paired.mapP hms6 (fun _ _ z => (z.same s9).upd hll9), by rw [upd_same]; simp, by rw [upd_ne n2]; exact s9 _ _ hp6, fun b xs e => ?_, ?_, ?_⟩
          · rw [upd_ne (ne_of_none e hllH)]
            exact s9 _ _ (s6 _ _ e)
          · have e' := s9 _ _ (tk6 _ _ e)
            rw [upd_ne (ne_of e' hll9 (fun z => nomatch z))]
            exact e'
          · have e' := s9 _ _ hdv6
            rw [upd_ne (ne_of e' hll9 (fun z => nomatch z))]
            exact e'
          · rw [take_succ' hf, List.map_append, ← List.append_assoc]
            exact Paired.snoc (Paired.mapP hps6 fun _ _ z => (z.same s9).upd hll9) (newm.upd hll9)
        · rintro σ H6 ⟨ps, v8, rfl, s6, hlf6, hms6, hll6, hp6, tk6, hdv6, hps6⟩
          refine ⟨ps, _, _, _, rfl, s6, hlf6, hms6, hll6, ?_⟩
          rw [mstep_snoc hmj]
          have : (fitS sf a S).take (rs.map V.ref).length = fitS sf a S := List.take_of_length_le (by rw [List.length_map, Paired.length hrs]; exact Nat.le_refl _)
          rw [this] at hps6
          exact hps6
      · rintro σ H4 ⟨ps, v6, v7, v8, rfl, s4, hlf4, hms4, hll4, hps4⟩
        refine ⟨_, rfl, ll, ps, _, _, _, _, _, _, rfl, s4, hllH, hll4, ?_⟩
        rw [mlist_snoc hz]
        have : (mlist ((Ss.zip as).take i) [([], [])]).take (qs.map V.ref).length = mlist ((Ss.zip as).take i) [([], [])] := List.take_of_length_le (by rw [List.length_map, Paired.length hms4]; exact Nat.le_refl _)
        rw [this] at hps4
        exact hps4
    · rintro σ H2 ⟨lf, qs, v3, v4, v5, v6, v7, v8, rfl, s2, hlf0, hlf, hms⟩
      refine ⟨_, rfl, k H2 lf qs s2 hlf0 hlf ?_⟩
      have : (Ss.zip as).take (ss.map V.ref).length = Ss.zip as := List.take_of_length_le (by rw [List.length_map, Paired.length hss, List.length_zip]; omega)
      rw [this] at hms
      exact hms
end
end Rb

/-! ## R1 -/
set_option Elab.async false
set_option linter.all false
set_option maxRecDepth 100000
set_option maxHeartbeats 4000000
/-! R1: variables_of, Rule.__init__, body_values. -/
namespace Rb
open PySem PySem.Spec PyProof.Rows L2
open Dx (Fact Facts Atom Fill)
def newF (m vs : List Nat) : List Nat := vs.foldl (fun m v => if m.contains v = true then m else m ++ [v]) m
theorem newF_snoc (m vs : List Nat) (v : Nat) : newF m (vs ++ [v]) = if v ∈ newF m vs then newF m vs else newF m vs ++ [v] := by
  unfold newF
  rw [List.foldl_append]
  show (if List.contains _ v = true then _ else _) = _
  by_cases h : v ∈ List.foldl (fun m v => if m.contains v = true then m else m ++ [v]) m vs
  · rw [if_pos (by simpa using h), if_pos h]
  · rw [if_neg (by simpa using h), if_neg h]
theorem places_eq (as : List Atom) : Dx.places as = newF [] (as.flatMap fun a => [a.x, a.y]) := rfl
theorem inV_nat (v : Nat) (l : List Nat) : inV (nI v) (l.map nI) = decide (v ∈ l) := by
  unfold inV
  rw [List.any_map]
  have : ((fun y => eqV y (nI v)) ∘ nI) = fun x : Nat => decide (x = v) := by
    funext x
    show ((x : Int) == (v : Int)) = decide (x = v)
    by_cases e : x = v
    · subst e; simp
    · have : ¬ (x : Int) = (v : Int) := by omega
      simp [e, this]
  rw [this]
  by_cases h : v ∈ l
  · rw [decide_eq_true h, List.any_eq_true]
    exact ⟨v, h, by simp⟩
  · rw [decide_eq_false h, List.any_eq_false]
    intro x hx
    simp only [decide_eq_true_eq]
    intro e; subst e; exact h hx
theorem flat_nats (l : List Nat) : (l.map nI).all flatV = true := by
  rw [List.all_map, List.all_eq_true]; intro x _; rfl
abbrev sVars : Stmt := topS 16
def nVars : List Str := ["atoms", "found", "table", "first", "second", "variable"]
theorem scVars : FnScope nVars ["atoms"] (defScope sVars) := ⟨rfl, rfl, rfl, by decide +kernel, rfl, by decide +kernel, by decide +kernel⟩
def spVars : Sp := fun vs H Q _ => ∃ (l : Addr) (as : List Atom), vs = [.ref l] ∧ AtomsAt H l as ∧ as.length ≤ 1000 ∧
  ∀ (H' : Hp) (p : Addr), Same H H' → H p = none → H' p = some (.lst ((Dx.places as).map nI)) → Q (.ref p) H'
theorem newF_len (m vs : List Nat) : (newF m vs).length ≤ m.length + vs.length := len_fold_new vs m
theorem two_vals {x : V} {a b : Nat} {i : Nat} (h : [nI a, nI b][i]? = some x) : ∃ v, [a, b][i]? = some v ∧ x = nI v := map_get (l := [a, b]) (f := nI) h
section
variable {P : Program} {w : World} {K : PySem.W.Frag} {mg : Str → Option Value} {base : Heap}
theorem ok_vars {f : Addr} {fd : FuncData} (F : Fun K "variables_of" "variables_of" sVars f fd) : FnOk P w K mg base CX0 1 f fd ["atoms"] spVars := by
  refine F.ok scVars (fun vs H Q E h => ?_) (fun cdv A outer s H vs Q E hr h => ?_)
  · obtain ⟨l, as, rfl, _⟩ := h
    rfl
  · have nd : nVars.Nodup := scVars.nd
    refine ⟨_, pss_cons (ps_set (i := 1) nd rfl (Or.inl rfl) (pe_lst pa_nil))
      (pss_cons (ps_for PassesOwn.never rfl (pi_list (pv 0)) (pg_tup rfl (pgs_cons (pg_name (i := 2) nd rfl (Or.inl rfl)) (pgs_cons (pg_name (i := 3) nd rfl (Or.inl rfl)) (pgs_cons (pg_name (i := 4) nd rfl (Or.inl rfl)) pgs_nil))))
        (pss_one (ps_for PassesOwn.never rfl (pi_tup (pe_tup (pa_cons (pv 3) (pa_cons (pv 4) pa_nil)))) (pg_name (i := 5) nd rfl (Or.inl rfl))
          (pss_one (ps_if (pt_cmpR op_notIn_seq (pv 5) (pv 1) rfl)
            (pss_one (ps_expr (pe_bm PySem.F.plainAttrs_list PySem.F.slot_list_append PySem.F.type_list_append mt_append (pv 1) (pa_cons (pv 5) pa_nil)))) pss_nil)))))
      (pss_one (ps_ret (pv 1)))), ?_⟩
    obtain ⟨l, as, rfl, ⟨qs, hl, hqs⟩, hlen, k⟩ := h
    refine ⟨by show 0 ≤ sizeLine; decide, fun p hp => ?_⟩
    have s1 : Same H (upd H p (.lst [])) := same_upd (Same.refl H) hp
    refine ⟨_, rfl, l, rfl, ⟨_, SqL.of (s1 _ _ hl)⟩, for_list (K := K) (a := l) (xs := qs.map V.ref) (fun i σ H' => ∃ v2 v3 v4 v5, σ = [some (.ref l), some (.ref p), v2, v3, v4, v5] ∧ Same H H' ∧ H' p = some (.lst ((Dx.places (as.take i)).map nI)))
      ⟨none, none, none, none, rfl, s1, upd_same⟩ (fun i σ H' _ ⟨_, _, _, _, _, q, _⟩ => SqL.of (q _ _ hl)) ?_ ?_⟩
    · rintro i x σ H2 hi ⟨v2, v3, v4, v5, rfl, s2, hp2⟩
      obtain ⟨qa, hqa, rfl⟩ := map_get hi
      obtain ⟨a, ha, aat⟩ := paired_get hqs hqa
      have hil : i < as.length := (List.getElem?_eq_some_iff.mp ha).1
      refine ⟨qa, _, rfl, SqT.of (s2 _ _ aat), rfl, _, _, rfl, _, _, rfl, _, _, rfl, rfl, ?_⟩
      refine ⟨_, rfl, _, rfl, by show 2 ≤ sizeLine; decide, fun t ht => ?_⟩
      have s3 : Same H (upd H2 t (.tup [nI a.x, nI a.y])) := s2.trans (same_upd (Same.refl H2) ht)
      refine ⟨t, rfl, ⟨_, SqT.of upd_same⟩, for_tup (K := K) (a := t) (xs := [nI a.x, nI a.y]) (fun j σ H' => ∃ v5, σ = [some (.ref l), some (.ref p), some (nI a.t), some (nI a.x), some (nI a.y), v5] ∧ Same H H' ∧ H' t = some (.tup [nI a.x, nI a.y]) ∧
          H' p = some (.lst ((newF [] ((as.take i).flatMap (fun a => [a.x, a.y]) ++ [a.x, a.y].take j)).map nI)))
        ⟨v5, rfl, s3, upd_same, by rw [upd_ne (ne_of_none hp2 ht), hp2, places_eq]; simp⟩ (fun j σ H' _ ⟨_, _, _, q, _⟩ => SqT.of q) ?_ ?_⟩
      · rintro j x σ H4 hj ⟨v5, rfl, s4, ht4, hp4⟩
        obtain ⟨v, hv, rfl⟩ := two_vals hj
        refine ⟨_, rfl, _, rfl, p, _, rfl, .inl (SqL.of hp4), rfl, flat_nats _, _, rfl, ?_⟩
        have el : (as.take i).flatMap (fun a => [a.x, a.y]) ++ [a.x, a.y].take (j + 1) = ((as.take i).flatMap (fun a => [a.x, a.y]) ++ [a.x, a.y].take j) ++ [v] := by rw [take_succ' hv, List.append_assoc]
        have bl : (newF [] ((as.take i).flatMap (fun a => [a.x, a.y]) ++ [a.x, a.y].take j)).length ≤ 10000 := by
          have b1 := newF_len [] ((as.take i).flatMap (fun a => [a.x, a.y]) ++ [a.x, a.y].take j)
          rw [List.length_append, flat_len, List.length_take, List.length_take] at b1
          have : [a.x, a.y].length = 2 := rfl
          have e0 : ([] : List Nat).length = 0 := rfl
          omega
        have nx := newF_snoc [] ((as.take i).flatMap (fun a => [a.x, a.y]) ++ [a.x, a.y].take j) v
        rw [← el] at nx
        show if (!inV (nI v) _) = true then _ else _
        rw [inV_nat]
        by_cases hm : v ∈ newF [] ((as.take i).flatMap (fun a => [a.x, a.y]) ++ [a.x, a.y].take j)
        · refine ifF (by rw [decide_eq_true hm]; rfl) ?_
          rw [if_pos hm] at nx
          exact ⟨_, rfl, s4, ht4, by rw [nx]; exact hp4⟩
        · refine ifT (by rw [decide_eq_false hm]; rfl) ?_
          rw [if_neg hm] at nx
          refine ⟨_, rfl, .inl ⟨rfl, _, SqL.of hp4⟩, _, rfl, p, _, _, rfl, rfl, hp4, by rw [List.length_map]; exact big_lt (by omega), ?_⟩
          refine ⟨_, rfl, fun b o e => ?_, ?_, ?_⟩
          · rw [upd_ne (ne_of_none e hp)]; exact s4 _ _ e
          · rw [upd_ne (ne_of ht4 hp4 (fun z => nomatch z))]; exact ht4
          · rw [upd_same, nx, List.map_append]; rfl
      · rintro σ H4 ⟨v5, rfl, s4, ht4, hp4⟩
        refine ⟨_, _, _, _, rfl, s4, ?_⟩
        rw [hp4, places_eq, take_succ' ha, List.flatMap_append]
        simp
    · rintro σ H2 ⟨v2, v3, v4, v5, rfl, s2, hp2⟩
      have : as.take (qs.map V.ref).length = as := List.take_of_length_le (by rw [List.length_map, Paired.length hqs]; exact Nat.le_refl _)
      rw [this] at hp2
      exact ⟨_, rfl, k H2 p s2 hp hp2⟩
end
end Rb

/-! ## R2 -/
set_option Elab.async false
set_option linter.all false
set_option maxRecDepth 100000
set_option maxHeartbeats 4000000
/-! R2: Rule.__init__. -/
namespace Rb
open PySem PySem.Spec PyProof.Rows L2
open Dx (Fact Facts Atom Fill)
abbrev sRule : Stmt := topS 15
abbrev sRInit : Stmt := inClass sRule 0
def nRInit : List Str := ["self", "body", "head", "bound", "variable"]
theorem scRInit : FnScope nRInit ["self", "body", "head"] (defScope sRInit) := ⟨rfl, rfl, rfl, by decide +kernel, rfl, by decide +kernel, by decide +kernel⟩
def rF (lb lh ls le : Addr) : List (Str × V) := [("body", .ref lb), ("head", .ref lh), ("shared", .ref ls), ("existential", .ref le)]
theorem rF_body (lb lh ls le : Addr) : (rF lb lh ls le).lookup ("body" : Str) = some (.ref lb) := by rfl
theorem rF_head (lb lh ls le : Addr) : (rF lb lh ls le).lookup ("head" : Str) = some (.ref lh) := by rfl
theorem rF_shared (lb lh ls le : Addr) : (rF lb lh ls le).lookup ("shared" : Str) = some (.ref ls) := by rfl
theorem rF_ex (lb lh ls le : Addr) : (rF lb lh ls le).lookup ("existential" : Str) = some (.ref le) := by rfl
def RuleAt (C : Addr) (H : Hp) (a : Addr) (r : Dx.Rule) : Prop := ∃ dx lb lh ls le, H a = some (.ins C dx (rF lb lh ls le)) ∧ AtomsAt H lb r.body ∧ AtomsAt H lh r.head ∧ H ls = some (.lst ((shared r).map nI)) ∧ H le = some (.lst (r.open_.map nI))
theorem RuleAt.same {C : Addr} {H H' : Hp} {a : Addr} {r : Dx.Rule} (h : RuleAt C H a r) (s : Same H H') : RuleAt C H' a r := by
  obtain ⟨dx, lb, lh, ls, le, h1, h2, h3, h4, h5⟩ := h
  exact ⟨dx, lb, lh, ls, le, s _ _ h1, h2.same s, h3.same s, s _ _ h4, s _ _ h5⟩
structure RTxt (K : PySem.W.Frag) (mg : Str → Option Value) (C : Addr) : Prop where
  cl : Cls K C
  nB : NoAttr K C "body"
  nH : NoAttr K C "head"
  nS : NoAttr K C "shared"
  nE : NoAttr K C "existential"
def spRInit (C : Addr) : Sp := fun vs H Q _ => ∃ (p dx lb lh : Addr) (r : Dx.Rule), vs = [.ref p, .ref lb, .ref lh] ∧ H p = some (.ins C dx []) ∧ AtomsAt H lb r.body ∧ AtomsAt H lh r.head ∧ r.body.length ≤ 1000 ∧ r.head.length ≤ 1000 ∧
  ∀ (H' : Hp) (ls le : Addr), H ls = none → H le = none → H' p = some (.ins C dx (rF lb lh ls le)) → H' ls = some (.lst ((shared r).map nI)) → H' le = some (.lst (r.open_.map nI)) → (∀ b o, H b = some o → b ≠ p → H' b = some o) → Q .non H'
theorem AtomsAt.but {H H' : Hp} {l p : Addr} {as : List Atom} {C dx : Addr} {fs : List (Str × V)} (h : AtomsAt H l as) (hp : H p = some (.ins C dx fs)) (k : ∀ b o, H b = some o → b ≠ p → H' b = some o) : AtomsAt H' l as := by
  obtain ⟨qs, h1, h2⟩ := h
  exact ⟨qs, k _ _ h1 (ne_of h1 hp (fun z => nomatch z)), Paired.mapP h2 fun _ _ z => k _ _ z (ne_of z hp (fun z => nomatch z))⟩
theorem opInK {X : Cx} {K : PySem.W.Frag} (h : X.K = K) : OpR X (compareOp .In) (rIn K false) := h ▸ op_in_seq
theorem opNotInK {X : Cx} {K : PySem.W.Frag} (h : X.K = K) : OpR X (compareOp .NotIn) (rIn K true) := h ▸ op_notIn_seq
section
variable {P : Program} {w : World} {K : PySem.W.Frag} {mg : Str → Option Value} {base : Heap} {C : Addr}
theorem ok_rinit {f : Addr} {fd : FuncData} (F : Fun K "__init__" "Rule.__init__" sRInit f fd) (T : RTxt K mg C) (GV : FnB P w K mg base CX0 "variables_of" ["atoms"] 1 spVars) :
    FnOk P w K mg base CX0 2 f fd ["self", "body", "head"] (spRInit C) := by
  refine F.ok scRInit (fun vs H Q E h => ?_) (fun cdv A outer s H vs Q E hr h => ?_)
  · obtain ⟨p, dx, lb, lh, r, rfl, _⟩ := h
    rfl
  · have nd : nRInit.Nodup := scRInit.nd
    refine ⟨_, pss_cons (ps_fld (pv 0) (pv 1) rfl) (pss_cons (ps_fld (pv 0) (pv 2) rfl)
      (pss_cons (ps_set (i := 3) nd rfl (Or.inr rfl) (pe_callF GV hr pass0 (pa_cons (pv 1) pa_nil)))
      (pss_cons (ps_fld (pv 0) (pe_lc (own := [("variable", 4)]) (g := gName 4) rfl nd (pi_list (pv 3)) (blkOk_by (own := [("variable", 4)]) (N := nRInit) (sc := defScope sRInit) (by decide +kernel)) (fun _ _ _ _ _ => pg_name (i := 4) nd rfl (Or.inl rfl))
          (fun _ _ _ _ _ => pts_one (pt_cmpR (opInK (K := K) rfl) (pv 4) (pe_callF GV hr pass0 (pa_cons (pv 2) pa_nil)) rfl)) (fun _ _ _ _ _ => pv 4)) rfl)
      (pss_one (ps_fld (pv 0) (pe_lc (own := [("variable", 4)]) (g := gName 4) rfl nd (pi_list (pe_callF GV hr pass0 (pa_cons (pv 2) pa_nil))) (blkOk_by (own := [("variable", 4)]) (N := nRInit) (sc := defScope sRInit) (by decide +kernel)) (fun _ _ _ _ _ => pg_name (i := 4) nd rfl (Or.inl rfl))
          (fun _ _ _ _ _ => pts_one (pt_cmpR (opNotInK (K := K) rfl) (pv 4) (pv 3) rfl)) (fun _ _ _ _ _ => pv 4)) rfl))))), ?_⟩
    obtain ⟨p, dx, lb, lh, r, rfl, hp, hb, hh, lb1, lh1, k⟩ := h
    refine ⟨_, rfl, _, rfl, p, C, dx, [], rfl, hp, T.cl, T.nB, (by show 0 < 1000; decide), ?_⟩
    refine ⟨_, rfl, _, rfl, p, C, dx, _, rfl, upd_same, T.cl, T.nH, (by show 1 < 1000; decide), ?_⟩
    rw [upd_upd]
    have k2 : ∀ b o, H b = some o → b ≠ p → upd H p (.ins C dx [("body", .ref lb), ("head", .ref lh)]) b = some o := fun b o e n => by rw [upd_ne n]; exact e
    have hp2 : upd H p (.ins C dx [("body", .ref lb), ("head", .ref lh)]) p = some (.ins C dx [("body", .ref lb), ("head", .ref lh)]) := upd_same
    have hb2 := hb.but hp k2
    have hh2 := hh.but hp k2
    show tSeq _ _ _ _ (upd H p (.ins C dx [("body", .ref lb), ("head", .ref lh)]))
    generalize upd H p (.ins C dx [("body", .ref lb), ("head", .ref lh)]) = H2 at k2 hp2 hb2 hh2 ⊢
    -- bound = variables_of(body)
    refine ⟨_, rfl, lb, r.body, rfl, hb2, lb1, fun H3 pb s3 hpbn hpb => ?_⟩
    refine ⟨_, rfl, pb, rfl, ⟨_, SqL.of hpb⟩, fun D hD => lc_list (K := K) (a := pb) (xs := (Dx.places r.body).map nI) (fun i H' => Same H3 H' ∧ H' D = some (.lst ((((Dx.places r.body).take i).filter fun v => (Dx.places r.head).contains v).map nI))) ?_ (fun i H' _ ⟨q, _⟩ => SqL.of (q _ _ hpb)) ?_ ?_⟩
    · exact ⟨same_upd (Same.refl _) hD, upd_same⟩
    · rintro i x H4 hi ⟨s4, q4⟩
      obtain ⟨v, hv, rfl⟩ := map_get hi
      have hil : i < (Dx.places r.body).length := (List.getElem?_eq_some_iff.mp hv).1
      have hpl := places_len r.body
      refine ⟨rfl, _, rfl, _, rfl, lh, r.head, rfl, (hh2.same s3).same s4, lh1, fun H5 ph s5 hphn hph => ?_⟩
      refine ⟨ph, _, rfl, .inl (SqL.of hph), rfl, flat_nats _, _, rfl, ?_⟩
      show if inV (nI v) _ = true then _ else _
      rw [inV_nat, take_succ' hv, List.filter_append]
      have q5 := s5 _ _ q4
      by_cases hm : v ∈ Dx.places r.head
      · refine ifT (decide_eq_true hm) ⟨_, rfl, _, q5, ?_, fun b o e => ?_, ?_⟩
        · rw [List.length_map]
          have := List.length_filter_le (fun v => (Dx.places r.head).contains v) ((Dx.places r.body).take i)
          rw [List.length_take] at this
          exact big_lt (by omega)
        · rw [upd_ne (ne_of_none e hD)]; exact s5 _ _ (s4 _ _ e)
        · rw [upd_same]
          have : [v].filter (fun v => (Dx.places r.head).contains v) = [v] := by simp [hm]
          rw [this, List.map_append]; rfl
      · refine ifF (decide_eq_false hm) ⟨s4.trans s5, ?_⟩
        have : [v].filter (fun v => (Dx.places r.head).contains v) = [] := by simp [hm]
        rw [this, List.append_nil]; exact q5
    · rintro H4 ⟨s4, q4⟩
      have et : (Dx.places r.body).take ((Dx.places r.body).map nI).length = Dx.places r.body := List.take_of_length_le (by rw [List.length_map]; exact Nat.le_refl _)
      rw [et] at q4
      have s24 : Same H2 H4 := s3.trans s4
      refine ⟨_, rfl, p, C, dx, _, rfl, s24 _ _ hp2, T.cl, T.nS, (by show 2 < 1000; decide), ?_⟩
      have np : D ≠ p := (ne_of_none (s3 _ _ hp2) hD).symm
      have k5 : ∀ b o, H4 b = some o → b ≠ p → upd H4 p (.ins C dx (L2.putF "shared" (.ref D) [("body", .ref lb), ("head", .ref lh)])) b = some o := fun b o e n => by rw [upd_ne n]; exact e
      have hp5 : upd H4 p (.ins C dx (L2.putF "shared" (.ref D) [("body", .ref lb), ("head", .ref lh)])) p = some (.ins C dx [("body", .ref lb), ("head", .ref lh), ("shared", .ref D)]) := upd_same
      have hb5 := (hb2.same s24).but (s24 _ _ hp2) k5
      have hh5 := (hh2.same s24).but (s24 _ _ hp2) k5
      have hD5 := k5 _ _ q4 np
      have hpb5 := k5 _ _ (s4 _ _ hpb) (ne_of (s4 _ _ hpb) (s24 _ _ hp2) (fun z => nomatch z))
      generalize upd H4 p (.ins C dx (L2.putF "shared" (.ref D) [("body", .ref lb), ("head", .ref lh)])) = H5 at k5 hp5 hb5 hh5 hD5 hpb5 ⊢
      refine ⟨_, rfl, lh, r.head, rfl, hh5, lh1, fun H6 ph s6 hphn hph => ?_⟩
      refine ⟨ph, rfl, ⟨_, SqL.of hph⟩, fun D2 hD2 => lc_list (K := K) (a := ph) (xs := (Dx.places r.head).map nI) (fun i H' => Same H6 H' ∧ H' D2 = some (.lst ((((Dx.places r.head).take i).filter fun v => !(Dx.places r.body).contains v).map nI))) ?_ (fun i H' _ ⟨q, _⟩ => SqL.of (q _ _ hph)) ?_ ?_⟩
      · exact ⟨same_upd (Same.refl _) hD2, upd_same⟩
      · rintro i x H7 hi ⟨s7, q7⟩
        obtain ⟨v, hv, rfl⟩ := map_get hi
        have hil : i < (Dx.places r.head).length := (List.getElem?_eq_some_iff.mp hv).1
        have hpl := places_len r.head
        refine ⟨rfl, _, rfl, _, rfl, pb, _, rfl, .inl (SqL.of (s7 _ _ (s6 _ _ hpb5))), rfl, flat_nats _, _, rfl, ?_⟩
        show if (!inV (nI v) _) = true then _ else _
        rw [inV_nat, take_succ' hv, List.filter_append]
        by_cases hm : v ∈ Dx.places r.body
        · refine ifF (by rw [decide_eq_true hm]; rfl) ⟨s7, ?_⟩
          have : [v].filter (fun v => !(Dx.places r.body).contains v) = [] := by simp [hm]
          rw [this, List.append_nil]; exact q7
        · refine ifT (by rw [decide_eq_false hm]; rfl) ⟨_, rfl, _, q7, ?_, fun b o e => ?_, ?_⟩
          · rw [List.length_map]
            have := List.length_filter_le (fun v => !(Dx.places r.body).contains v) ((Dx.places r.head).take i)
            rw [List.length_take] at this
            exact big_lt (by omega)
          · rw [upd_ne (ne_of_none e hD2)]; exact s7 _ _ e
          · rw [upd_same]
            have : [v].filter (fun v => !(Dx.places r.body).contains v) = [v] := by simp [hm]
            rw [this, List.map_append]; rfl
      · rintro H7 ⟨s7, q7⟩
        have et2 : (Dx.places r.head).take ((Dx.places r.head).map nI).length = Dx.places r.head := List.take_of_length_le (by rw [List.length_map]; exact Nat.le_refl _)
        rw [et2] at q7
        have s57 : Same H5 H7 := s6.trans s7
        refine ⟨_, rfl, p, C, dx, _, rfl, s57 _ _ hp5, T.cl, T.nE, (by show 3 < 1000; decide), ?_⟩
        have np2 : D2 ≠ p := (ne_of_none (s6 _ _ hp5) hD2).symm
        have k8 : ∀ b o, H7 b = some o → b ≠ p → upd H7 p (.ins C dx (rF lb lh D D2)) b = some o := fun b o e n => by rw [upd_ne n]; exact e
        have h7p := s57 _ _ hp5
        have nD : H D = none := by
          cases e : H D with
          | none => rfl
          | some o =>
            have q := s3 _ _ (k2 _ _ e np)
            rw [show H3 D = none from hD] at q
            cases q
        have nD2 : H D2 = none := by
          cases e : H D2 with
          | none => rfl
          | some o =>
            have q := s6 _ _ (k5 _ _ (s24 _ _ (k2 _ _ e np2)) np2)
            rw [show H6 D2 = none from hD2] at q
            cases q
        refine k _ D D2 nD nD2 upd_same (k8 _ _ (s57 _ _ hD5) np) (k8 _ _ q7 np2) fun b o e n => ?_
        exact k8 _ _ (s57 _ _ (k5 _ _ (s24 _ _ (k2 _ _ e n)) n)) n
end
end Rb

/-! ## W1 -/
set_option Elab.async false
set_option linter.all false
set_option maxRecDepth 100000
set_option maxHeartbeats 4000000
/-! W1: Watch.__init__, take_up. -/
namespace Rb
open PySem PySem.Spec PyProof.Rows L2
open Dx (Fact Facts Atom Fill)
def natsK (k : List Nat) : List L2.Key := k.map vk
theorem natsK_V (k : List Nat) : (natsK k).map kV = k.map nI := by
  unfold natsK
  rw [List.map_map]
  rfl
theorem natsK_inj {a b : List Nat} : natsK a = natsK b ↔ a = b := by
  unfold natsK
  exact List.map_inj_right fun x y h => vk_inj.mp h
def setK (l : List (List Nat)) : List (List L2.Key × V) := l.map fun k => (natsK k, .bl true)
theorem setK_get (k : List Nat) : ∀ l : List (List Nat), valV (setK l) (natsK k) = if k ∈ l then some (.bl true) else none
  | [] => rfl
  | g :: l => by
    by_cases e : g = k
    · subst e
      rw [if_pos (by simp)]
      exact valV_pos (p := (natsK g, V.bl true)) (r := setK l) (k := natsK g) rfl
    · have e' : ¬ k = g := fun q => e q.symm
      refine (valV_neg (p := (natsK g, V.bl true)) (r := setK l) (k := natsK k) (fun q => e (natsK_inj.mp q))).trans ?_
      rw [setK_get k l]
      simp [e']
theorem setK_put (l : List (List Nat)) (k : List Nat) : putK (setK l) (natsK k) (.bl true) = setK (addS l k) := by
  unfold addS
  by_cases h : k ∈ l
  · rw [if_pos h]
    unfold putK
    rw [if_pos (by rw [valV_any, setK_get, if_pos h]; rfl)]
    unfold setK
    rw [List.map_map]
    apply List.map_congr_left
    intro j _
    show (if natsK j = natsK k then (natsK j, V.bl true) else (natsK j, V.bl true)) = (natsK j, V.bl true)
    split <;> rfl
  · rw [if_neg h, putK_new _ (by rw [setK_get, if_neg h])]
    simp [setK]
abbrev WRel (H : Hp) : (List L2.Key × V) → (List Nat × List Fact) → Prop := fun kv p => kv.1 = natsK p.1 ∧ ∃ tm, kv.2 = .ref tm ∧ TupsAt H tm p.2
theorem wrel_get {H : Hp} {kvs : List (List L2.Key × V)} {ws : List (List Nat × List Fact)} (h : Paired (WRel H) kvs ws) (k : List Nat) :
    (getA ws k = none ∧ valV kvs (natsK k) = none) ∨ ∃ m tm, getA ws k = some m ∧ valV kvs (natsK k) = some (.ref tm) ∧ TupsAt H tm m := by
  induction h with
  | nil => exact .inl ⟨rfl, rfl⟩
  | @cons kv p kvs ws h1 t ih =>
    obtain ⟨e1, tm, e2, e3⟩ := h1
    by_cases e : p.1 = k
    · right
      refine ⟨p.2, tm, by simp [getA, List.find?_cons, e], ?_, e3⟩
      rw [valV_pos (by rw [e1, e]), e2]
    · have g : getA (p :: ws) k = getA ws k := by simp [getA, List.find?_cons, e]
      have v : valV (kv :: kvs) (natsK k) = valV kvs (natsK k) := valV_neg (by rw [e1]; exact fun q => e (natsK_inj.mp q))
      rw [g, v]; exact ih
theorem wrel_any {H : Hp} {kvs : List (List L2.Key × V)} {ws : List (List Nat × List Fact)} (h : Paired (WRel H) kvs ws) (k : List Nat) : (kvs.any fun kv => decide (kv.1 = natsK k)) = ws.any fun p => decide (p.1 = k) := by
  induction h with
  | nil => rfl
  | @cons kv p kvs ws h1 t ih =>
    rw [List.any_cons, List.any_cons, ih, h1.1]
    congr 1
    by_cases e : p.1 = k
    · simp [e]
    · have : ¬ natsK p.1 = natsK k := fun q => e (natsK_inj.mp q)
      simp [e, this]
theorem wrel_put {H : Hp} {kvs : List (List L2.Key × V)} {ws : List (List Nat × List Fact)} (h : Paired (WRel H) kvs ws) (k : List Nat) {tm : Addr} {m : List Fact} (ht : TupsAt H tm m) : Paired (WRel H) (putK kvs (natsK k) (.ref tm)) (putA ws k m) := by
  unfold putK putA
  rw [wrel_any h k]
  by_cases q : (ws.any fun p => decide (p.1 = k)) = true
  · rw [if_pos q, if_pos q]
    clear q
    induction h with
    | nil => exact .nil
    | @cons kv p kvs ws h1 t ih =>
      rw [List.map_cons, List.map_cons]
      refine .cons ?_ ih
      by_cases e : p.1 = k
      · rw [if_pos (by rw [h1.1, e]), if_pos e]
        exact ⟨h1.1, tm, rfl, ht⟩
      · rw [if_neg (by rw [h1.1]; exact fun z => e (natsK_inj.mp z)), if_neg e]
        exact h1
  · rw [if_neg q, if_neg q]
    exact Paired.snoc h ⟨rfl, tm, rfl, ht⟩
theorem wrel_drop {H : Hp} {kvs : List (List L2.Key × V)} {ws : List (List Nat × List Fact)} (h : Paired (WRel H) kvs ws) (k : List Nat) : Paired (WRel H) (dropK kvs (natsK k)) (dropA ws k) := by
  unfold dropK dropA
  induction h with
  | nil => exact .nil
  | @cons kv p kvs ws h1 t ih =>
    rw [List.filter_cons, List.filter_cons]
    by_cases e : p.1 = k
    · have : kv.1 = natsK k := by rw [h1.1, e]
      simp only [e, this, ne_eq, not_true, decide_false]
      exact ih
    · have : ¬ kv.1 = natsK k := by rw [h1.1]; exact fun z => e (natsK_inj.mp z)
      simp only [e, this, ne_eq, not_false_iff, decide_true, if_true]
      exact .cons h1 ih
abbrev sWatch : Stmt := topS 22
abbrev sWInit : Stmt := inClass sWatch 0
abbrev sWMeet : Stmt := inClass sWatch 1
abbrev sWTake : Stmt := inClass sWatch 2
abbrev sWFirst : Stmt := inClass sWatch 3
def wF (ra sd wd : Addr) : List (Str × V) := [("watched", .ref ra), ("settled", .ref sd), ("waiting", .ref wd)]
theorem wF_watched (ra sd wd : Addr) : (wF ra sd wd).lookup ("watched" : Str) = some (.ref ra) := by rfl
theorem wF_settled (ra sd wd : Addr) : (wF ra sd wd).lookup ("settled" : Str) = some (.ref sd) := by rfl
theorem wF_waiting (ra sd wd : Addr) : (wF ra sd wd).lookup ("waiting" : Str) = some (.ref wd) := by rfl
/-- a watch at a, of the rule r; its dicts at sd and wd -/
def WatchAt (C CR : Addr) (H : Hp) (a : Addr) (r : Dx.Rule) (W : Wt) (sd wd : Addr) : Prop := ∃ dx ra kvs, H a = some (.ins C dx (wF ra sd wd)) ∧ RuleAt CR H ra r ∧ H sd = some (.dT (setK W.settled)) ∧ H wd = some (.dT kvs) ∧ Paired (WRel H) kvs W.waiting ∧ sd ≠ wd
theorem WatchAt.same {C CR : Addr} {H H' : Hp} {a : Addr} {r : Dx.Rule} {W : Wt} {sd wd : Addr} (h : WatchAt C CR H a r W sd wd) (s : Same H H') : WatchAt C CR H' a r W sd wd := by
  obtain ⟨dx, ra, kvs, h1, h2, h3, h4, h5, h6⟩ := h
  exact ⟨dx, ra, kvs, s _ _ h1, h2.same s, s _ _ h3, s _ _ h4, Paired.mapP h5 (fun _ _ ⟨e1, tm, e2, e3⟩ => ⟨e1, tm, e2, e3.kept fun _ _ e => s _ _ e⟩), h6⟩
structure WTxt (K : PySem.W.Frag) (mg : Str → Option Value) (C : Addr) : Prop where
  b : Blt mg
  cl : Cls K C
  nW : NoAttr K C "watched"
  nS : NoAttr K C "settled"
  nA : NoAttr K C "waiting"
theorem scWInit : FnScope ["self", "watched"] ["self", "watched"] (defScope sWInit) := ⟨rfl, rfl, rfl, by decide +kernel, rfl, by decide +kernel, by decide +kernel⟩
def spWInit (C CR : Addr) : Sp := fun vs H Q _ => ∃ (p dx ra : Addr) (r : Dx.Rule), vs = [.ref p, .ref ra] ∧ H p = some (.ins C dx []) ∧ RuleAt CR H ra r ∧
  ∀ (H' : Hp) (sd wd : Addr), WatchAt C CR H' p r ⟨[], []⟩ sd wd → (∃ dx, H' p = some (.ins C dx (wF ra sd wd))) → (∀ b o, H b = some o → b ≠ p → H' b = some o) → H sd = none → H wd = none → Q .non H'
theorem RuleAt.but {C C2 dx p : Addr} {fs : List (Str × V)} {H H' : Hp} {a : Addr} {r : Dx.Rule} (h : RuleAt C H a r) (hp : H p = some (.ins C2 dx fs)) (k : ∀ b o, H b = some o → b ≠ p → H' b = some o) (ne : a ≠ p) : RuleAt C H' a r := by
  obtain ⟨dx, lb, lh, ls, le, h1, h2, h3, h4, h5⟩ := h
  exact ⟨dx, lb, lh, ls, le, k _ _ h1 ne, h2.but hp k, h3.but hp k, k _ _ h4 (ne_of h4 hp (fun z => nomatch z)), k _ _ h5 (ne_of h5 hp (fun z => nomatch z))⟩
theorem RuleAt.ne_nil {C C2 dx p : Addr} {H : Hp} {a : Addr} {r : Dx.Rule} (h : RuleAt C H a r) (hp : H p = some (.ins C2 dx [])) : a ≠ p := by
  obtain ⟨dx, lb, lh, ls, le, h1, _⟩ := h
  exact ne_of h1 hp (fun z => nomatch z)
section
variable {P : Program} {w : World} {K : PySem.W.Frag} {mg : Str → Option Value} {base : Heap} {C CR : Addr}
theorem ok_winit {f : Addr} {fd : FuncData} (F : Fun K "__init__" "Watch.__init__" sWInit f fd) (T : WTxt K mg C) : FnOk P w K mg base CX0 1 f fd ["self", "watched"] (spWInit C CR) := by
  refine F.ok scWInit (fun vs H Q E h => ?_) (fun cdv A outer s H vs Q E hr h => ?_)
  · obtain ⟨p, dx, ra, r, rfl, _⟩ := h
    rfl
  · refine ⟨_, pss_cons (ps_fld (pv 0) (pv 1) rfl) (pss_cons (ps_fld (pv 0) pe_dnewT rfl) (pss_one (ps_fld (pv 0) pe_dnewT rfl))), ?_⟩
    obtain ⟨p, dx, ra, r, rfl, hp, hR, k⟩ := h
    refine ⟨_, rfl, _, rfl, p, C, dx, [], rfl, hp, T.cl, T.nW, (by show 0 < 1000; decide), ?_⟩
    have k1 : ∀ b o, H b = some o → b ≠ p → upd H p (.ins C dx (L2.putF "watched" (.ref ra) [])) b = some o := fun b o e n => by rw [upd_ne n]; exact e
    have f1 : ∀ b, upd H p (.ins C dx (L2.putF "watched" (.ref ra) [])) b = none → H b = none := fun b e => by
      by_cases n : b = p
      · subst n; rw [upd_same] at e; cases e
      · rw [upd_ne n] at e; exact e
    have hp1 : upd H p (.ins C dx (L2.putF "watched" (.ref ra) [])) p = some (.ins C dx [("watched", .ref ra)]) := upd_same
    generalize upd H p (.ins C dx (L2.putF "watched" (.ref ra) [])) = H1 at k1 hp1 f1 ⊢
    intro sd hsd
    have np : p ≠ sd := ne_of_none hp1 hsd
    refine ⟨_, rfl, p, C, dx, _, rfl, by rw [upd_ne np]; exact hp1, T.cl, T.nS, (by show 1 < 1000; decide), ?_⟩
    have k2 : ∀ b o, H b = some o → b ≠ p → upd (upd H1 sd (.dT [])) p (.ins C dx (L2.putF "settled" (.ref sd) [("watched", .ref ra)])) b = some o := fun b o e n => by
      rw [upd_ne n, upd_ne (ne_of_none (k1 _ _ e n) hsd)]; exact k1 _ _ e n
    have hp2 : upd (upd H1 sd (.dT [])) p (.ins C dx (L2.putF "settled" (.ref sd) [("watched", .ref ra)])) p = some (.ins C dx [("watched", .ref ra), ("settled", .ref sd)]) := upd_same
    have hs2 : upd (upd H1 sd (.dT [])) p (.ins C dx (L2.putF "settled" (.ref sd) [("watched", .ref ra)])) sd = some (.dT []) := by rw [upd_ne np.symm, upd_same]
    have f2 : ∀ b, upd (upd H1 sd (.dT [])) p (.ins C dx (L2.putF "settled" (.ref sd) [("watched", .ref ra)])) b = none → H b = none := fun b e => by
      by_cases n : b = p
      · subst n; rw [upd_same] at e; cases e
      · rw [upd_ne n] at e
        by_cases n2 : b = sd
        · subst n2; rw [upd_same] at e; cases e
        · rw [upd_ne n2] at e; exact f1 _ e
    generalize upd (upd H1 sd (.dT [])) p (.ins C dx (L2.putF "settled" (.ref sd) [("watched", .ref ra)])) = H2 at k2 hp2 hs2 f2 ⊢
    intro wd hwd
    have np2 : p ≠ wd := ne_of_none hp2 hwd
    have ns : sd ≠ wd := ne_of_none hs2 hwd
    refine ⟨_, rfl, p, C, dx, _, rfl, by rw [upd_ne np2]; exact hp2, T.cl, T.nA, (by show 2 < 1000; decide), ?_⟩
    have k3 : ∀ b o, H b = some o → b ≠ p → upd (upd H2 wd (.dT [])) p (.ins C dx (L2.putF "waiting" (.ref wd) [("watched", .ref ra), ("settled", .ref sd)])) b = some o := fun b o e n => by
      rw [upd_ne n, upd_ne (ne_of_none (k2 _ _ e n) hwd)]; exact k2 _ _ e n
    refine k _ sd wd ⟨dx, ra, [], ?_, hR.but hp k3 (hR.ne_nil hp), ?_, ?_, .nil, ns⟩ ⟨dx, by rw [upd_same]; rfl⟩ k3 (f1 _ hsd) (f2 _ hwd)
    · rw [upd_same]; rfl
    · rw [upd_ne np.symm, upd_ne ns]; exact hs2
    · rw [upd_ne np2.symm, upd_same]
end
end Rb

/-! ## W2 -/
set_option Elab.async false
set_option linter.all false
set_option maxRecDepth 100000
set_option maxHeartbeats 4000000
/-! W2: Watch.take_up. -/
namespace Rb
open PySem PySem.Spec PyProof.Rows L2
open Dx (Fact Facts Atom Fill)
theorem TupsAt.dp {K : PySem.W.Frag} {H : Hp} {t : Addr} {m : List Fact} (h : TupsAt H t m) : Dp K H (.ref t) (factsD m) := by
  obtain ⟨ps, h1, h2⟩ := h
  refine .tup (SqT.of h1) ?_
  clear h1
  induction h2 with
  | nil => exact .nil
  | cons h t ih => exact .cons (Dp.fact h) ih
theorem factsD_ne (m : List Fact) : factsD m ≠ .none := fun z => nomatch z
theorem factsD_depth (m : List Fact) : (factsD m).depth ≤ 4 := by
  unfold factsD
  rw [PyData.depth]
  have : PyData.depthAll (m.map factD) ≤ 3 := depthAll_le fun d hd => by
    obtain ⟨f, _, rfl⟩ := List.mem_map.mp hd
    simp [factD, PyData.depth, PyData.depthAll]
  omega
theorem factsD_all {m n : List Fact} (h : m.length = n.length) : PySem.W.AlikeAll [factsD m, factsD n] := by
  constructor
  · intro x hx y hy
    have ex : x = factsD m ∨ x = factsD n := by simpa using hx
    have ey : y = factsD m ∨ y = factsD n := by simpa using hy
    rcases ex with rfl | rfl <;> rcases ey with rfl | rfl
    · exact factsD_alike rfl
    · exact factsD_alike h
    · exact factsD_alike h.symm
    · exact factsD_alike rfl
  · intro x hx
    have ex : x = factsD m ∨ x = factsD n := by simpa using hx
    rcases ex with rfl | rfl <;> exact factsD_ne _
def nWTake : List Str := ["self", "matched", "values", "shared", "variable"]
theorem scWTake : FnScope nWTake ["self", "matched", "values"] (defScope sWTake) := ⟨rfl, rfl, rfl, by decide +kernel, rfl, by decide +kernel, by decide +kernel⟩
def spWTake (C CR : Addr) : Sp := fun vs H Q _ => ∃ (a tm dv : Addr) (r : Dx.Rule) (W : Wt) (sd wd : Addr) (m : List Fact) (s : Fill), vs = [.ref a, .ref tm, .ref dv] ∧ WatchAt C CR H a r W sd wd ∧ TupsAt H tm m ∧ H dv = some (.dK (fillK s)) ∧
  (∀ v ∈ shared r, ∃ x, Fill.at_ s v = some x) ∧ (shared r).length ≤ 1000 ∧ (∀ k n, (k, n) ∈ W.waiting → n.length = m.length) ∧ wsize W < 16000000 ∧
  ∀ H' : Hp, WatchAt C CR H' a r (W.take m (keyOf r s)) sd wd → Fr [wd] H H' → Q .non H'
section
variable {P : Program} {w : World} {K : PySem.W.Frag} {mg : Str → Option Value} {base : Heap} {C CR : Addr}
theorem yesI {σ : L2.St} {H : Hp} {Q : Bool → Hp → Prop} (h : Q true H) : tYes σ H Q := h
theorem ok_wtake {f : Addr} {fd : FuncData} (F : Fun K "take_up" "Watch.take_up" sWTake f fd) (T : WTxt K mg C) (TR : RTxt K mg CR) : FnOk P w K mg base CX0 1 f fd ["self", "matched", "values"] (spWTake C CR) := by
  refine F.ok scWTake (fun vs H Q E h => ?_) (fun cdv A outer s H vs Q E hr h => ?_)
  · obtain ⟨a, tm, dv, r, W, sd, wd, m, s, rfl, _⟩ := h
    rfl
  · have hu := hu_of hr
    have nd : nWTake.Nodup := scWTake.nd
    refine ⟨_, pss_cons (ps_set (i := 3) nd rfl (Or.inl rfl) (pe_callTy call_tuple_of (by rfl) T.b.tuple (by decide +kernel) (pa_cons
        (pe_lc (own := [("variable", 4)]) (g := gName 4) rfl nd (pi_list (pe_fld (pe_fld (pv 0) rfl) rfl)) (blkOk_by (own := [("variable", 4)]) (N := nWTake) (sc := defScope sWTake) (by decide +kernel)) (fun _ _ _ _ _ => pg_name (i := 4) nd rfl (Or.inl rfl))
          (fun _ _ _ _ _ => pts_nil) (fun _ _ _ _ _ => pe_dget hu (pv 2) (pv 4) (fun _ _ => rfl))) pa_nil)))
      (pss_one (ps_if (pt_cmp (pc_dnotin hu (pv 3) (pe_fld (pv 0) rfl)))
        (pss_one (ps_dput hu (pe_fld (pv 0) rfl) (pv 3) (pe_callB (call_min2D rfl (room64 hr)) (by rfl) T.b.min (by decide +kernel) (pa_cons (pv 1) (pa_cons (pe_dget2 hu (pe_fld (pv 0) rfl) (pv 3) (pv 1) ⟨rfl, rfl, rfl, rfl⟩) pa_nil))) rfl)) pss_nil)), ?_⟩
    obtain ⟨a, tm, dv, r, W, sd, wd, m, s, rfl, hW, htm, hdv, hat, hsl, hal, hsz, k⟩ := h
    have hW0 := hW
    obtain ⟨dx, ra, kvs, h1, hR, h3, h4, h5, h6⟩ := hW0
    obtain ⟨dr, lb, lh, ls, le, r1, r2, r3, r4, r5⟩ := hR
    refine ⟨_, rfl, a, C, dx, _, _, rfl, h1, T.cl, T.nW, wF_watched ra sd wd, ra, CR, dr, _, _, rfl, r1, TR.cl, TR.nS, rF_shared lb lh ls le, ls, rfl, ⟨_, SqL.of r4⟩, fun D hD => lc_list (K := K) (a := ls) (xs := (shared r).map nI) (fun i H' => Same H H' ∧ H' D = some (.lst (((shared r).take i).map fun v => nI ((Fill.at_ s v).getD 0)))) ?_ (fun i H' _ ⟨q, _⟩ => SqL.of (q _ _ r4)) ?_ ?_⟩
    · exact ⟨same_upd (Same.refl H) hD, upd_same⟩
    · rintro i x H2 hi ⟨s2, q2⟩
      obtain ⟨v, hv, rfl⟩ := map_get hi
      obtain ⟨y, hy⟩ := hat v (List.mem_of_getElem? hv)
      have g := DGet.k (k := vk v) (s2 _ _ hdv)
      rw [fillK_get, hy] at g
      have il : i < (shared r).length := (List.getElem?_eq_some_iff.mp hv).1
      refine ⟨rfl, ?_⟩
      refine yesI ?_
      rw [if_pos rfl]
      refine ⟨_, rfl, _, rfl, dv, _, rfl, g, _, q2, by rw [List.length_map, List.length_take]; exact big_lt (by omega), fun b o e => ?_, ?_⟩
      · rw [upd_ne (ne_of_none e hD)]; exact s2 _ _ e
      · rw [upd_same, take_succ' hv, List.map_append]
        simp [hy]
    · rintro H2 ⟨s2, q2⟩
      have et : (shared r).take ((shared r).map nI).length = shared r := List.take_of_length_le (by rw [List.length_map]; exact Nat.le_refl _)
      rw [et] at q2
      have ek : ((shared r).map fun v => nI ((Fill.at_ s v).getD 0)) = (natsK (keyOf r s)).map kV := by
        rw [natsK_V]; unfold keyOf; rw [List.map_map]; rfl
      rw [ek] at q2
      refine ⟨D, _, rfl, .inl ⟨SqL.of q2, fun t ht => ?_⟩⟩
      have s3 : Same H (upd H2 t (.tup ((natsK (keyOf r s)).map kV))) := fun b o e => (same_upd (Same.refl H2) ht) b o (s2 b o e)
      have ht3 : upd H2 t (.tup ((natsK (keyOf r s)).map kV)) t = some (.tup ((natsK (keyOf r s)).map kV)) := upd_same
      generalize upd H2 t (.tup ((natsK (keyOf r s)).map kV)) = H3 at s3 ht3 ⊢
      have g1 := DGet.t (k := natsK (keyOf r s)) (s3 _ _ h3) ht3
      rw [setK_get] at g1
      by_cases hm : keyOf r s ∈ W.settled
      · rw [if_pos hm] at g1
        refine ⟨_, rfl, _, rfl, a, C, dx, _, _, rfl, s3 _ _ h1, T.cl, T.nS, wF_settled ra sd wd, sd, _, rfl, g1, _, rfl, ifF rfl ?_⟩
        have ew : W.take m (keyOf r s) = W := by unfold Wt.take; rw [if_pos hm]
        rw [ew] at k
        exact k _ (hW.same s3) (Fr.of_same s3)
      · rw [if_neg hm] at g1
        refine ⟨_, rfl, _, rfl, a, C, dx, _, _, rfl, s3 _ _ h1, T.cl, T.nS, wF_settled ra sd wd, sd, _, rfl, g1, _, rfl, ifT rfl ?_⟩
        have ew : W.take m (keyOf r s) = { W with waiting := putA W.waiting (keyOf r s) (minM m ((getA W.waiting (keyOf r s)).getD m)) } := by unfold Wt.take; rw [if_neg hm]
        rw [ew] at k
        have h5' : Paired (WRel H3) kvs W.waiting := Paired.mapP h5 (fun _ _ ⟨e1, tm, e2, e3⟩ => ⟨e1, tm, e2, e3.kept fun _ _ e => s3 _ _ e⟩)
        have htm3 : TupsAt H3 tm m := htm.kept fun _ _ e => s3 _ _ e
        have hkl : kvs.length < sizeLine := by
          have e1 := Paired.length h5
          unfold wsize at hsz
          rw [e1, sizeLine_eq]; omega
        have fin : ∀ tn, TupsAt H3 tn (minM m ((getA W.waiting (keyOf r s)).getD m)) → Q .non (upd H3 wd (.dT (putK kvs (natsK (keyOf r s)) (.ref tn)))) := by
          intro tn htn
          have kt : ∀ b xs, H3 b = some (.tup xs) → upd H3 wd (.dT (putK kvs (natsK (keyOf r s)) (.ref tn))) b = some (.tup xs) := fun b xs e => by
            rw [upd_ne (ne_of e (s3 _ _ h4) (fun z => nomatch z))]; exact e
          have ki : ∀ b xs, H3 b = some (.lst xs) → upd H3 wd (.dT (putK kvs (natsK (keyOf r s)) (.ref tn))) b = some (.lst xs) := fun b xs e => by
            rw [upd_ne (ne_of e (s3 _ _ h4) (fun z => nomatch z))]; exact e
          have kn : ∀ b C dx fs, H3 b = some (.ins C dx fs) → upd H3 wd (.dT (putK kvs (natsK (keyOf r s)) (.ref tn))) b = some (.ins C dx fs) := fun b C dx fs e => by
            rw [upd_ne (ne_of e (s3 _ _ h4) (fun z => nomatch z))]; exact e
          have atk : ∀ l as, AtomsAt H3 l as → AtomsAt (upd H3 wd (.dT (putK kvs (natsK (keyOf r s)) (.ref tn)))) l as := fun l as ⟨qs, e1, e2⟩ => ⟨qs, ki _ _ e1, Paired.mapP e2 fun _ _ z => kt _ _ z⟩
          refine k _ ⟨dx, ra, putK kvs (natsK (keyOf r s)) (.ref tn), kn _ _ _ _ (s3 _ _ h1), ⟨dr, lb, lh, ls, le, kn _ _ _ _ (s3 _ _ r1), atk _ _ (r2.same s3), atk _ _ (r3.same s3), ki _ _ (s3 _ _ r4), ki _ _ (s3 _ _ r5)⟩, ?_, upd_same, ?_, h6⟩ ?_
          · rw [upd_ne h6]; exact s3 _ _ h3
          · exact Paired.mapP (wrel_put h5' (keyOf r s) htn) (fun _ _ ⟨e1, tm, e2, e3⟩ => ⟨e1, tm, e2, e3.kept kt⟩)
          · intro b o e n
            rw [upd_ne (fun z => n (by rw [z]; simp))]
            exact s3 _ _ e
        refine ⟨_, rfl, _, rfl, a, C, dx, _, _, rfl, s3 _ _ h1, T.cl, T.nA, wF_waiting ra sd wd, wd, rfl, .inr ⟨_, Rd.of (s3 _ _ h4)⟩, _, rfl, _, rfl, _, DGet.t (k := natsK (keyOf r s)) (s3 _ _ h4) ht3, ?_⟩
        rcases wrel_get h5' (keyOf r s) with ⟨e1, e2⟩ | ⟨m', tm', e1, e2, e3⟩
        · rw [e2]
          rw [e1] at fin
          refine ⟨.ref tm, .ref tm, factsD m, factsD m, rfl, htm3.dp, htm3.dp, factsD_all rfl, depthAll_le (n := 32) (fun d hd => by
            have : d = factsD m := by simpa using hd
            subst this
            have := factsD_depth m; omega), ?_⟩
          refine ⟨_, rfl, a, C, dx, _, _, rfl, s3 _ _ h1, T.cl, T.nA, wF_waiting ra sd wd, _, rfl, wd, upd H3 wd (.dT (putK kvs (natsK (keyOf r s)) (.ref tm))), rfl, ?_, ?_⟩
          · have ev : (if PySem.W.dataLt (factsD m) (factsD m) = true then V.ref tm else V.ref tm) = V.ref tm := by split <;> rfl
            rw [ev]
            exact DPut.t (s3 _ _ h4) ht3 hkl
          · refine fin tm ?_
            show TupsAt H3 tm (minM m m)
            unfold minM
            split <;> exact htm3
        · rw [e2]
          rw [e1] at fin
          have hlen : m'.length = m.length := hal _ _ (getA_some e1)
          refine ⟨.ref tm, .ref tm', factsD m, factsD m', rfl, htm3.dp, e3.dp, factsD_all hlen.symm, depthAll_le (n := 32) (fun d hd => by
            have : d = factsD m ∨ d = factsD m' := by simpa using hd
            rcases this with rfl | rfl
            · have := factsD_depth m; omega
            · have := factsD_depth m'; omega), ?_⟩
          rw [factsD_lt hlen]
          refine ⟨_, rfl, a, C, dx, _, _, rfl, s3 _ _ h1, T.cl, T.nA, wF_waiting ra sd wd, _, rfl, wd, upd H3 wd (.dT (putK kvs (natsK (keyOf r s)) (.ref (if ltM m' m = true then tm' else tm)))), rfl, ?_, ?_⟩
          · have ev : (if ltM m' m = true then V.ref tm' else V.ref tm) = V.ref (if ltM m' m = true then tm' else tm) := by split <;> rfl
            rw [ev]
            exact DPut.t (s3 _ _ h4) ht3 hkl
          · refine fin _ ?_
            show TupsAt H3 _ (minM m m')
            unfold minM
            by_cases q : ltM m' m = true
            · rw [if_pos q, if_pos q]; exact e3
            · rw [if_neg q, if_neg q]; exact htm3
end
end Rb

/-! ## W3 -/
set_option Elab.async false
set_option linter.all false
set_option maxRecDepth 100000
set_option maxHeartbeats 4000000
/-! W3: Watch.meet. -/
namespace Rb
open PySem PySem.Spec PyProof.Rows L2
open Dx (Fact Facts Atom Fill)
theorem ixN_nat {n i : Nat} (h : i < n) : ixN n (0 + (i : Int)) = some i := by
  unfold ixN
  rw [Int.zero_add, if_pos (by omega), if_pos (by omega)]
  rfl
theorem paired_set {α β : Type} {R : α → β → Prop} : ∀ {l : List α} {m : List β} (i : Nat) {a : α} {b : β}, Paired R l m → R a b → Paired R (l.set i a) (m.set i b)
  | _, _, _, _, _, .nil, _ => .nil
  | _, _, 0, _, _, .cons _ t, r => .cons r t
  | _, _, i + 1, _, _, .cons h t, r => .cons h (paired_set i t r)
theorem paired_consts {α β γ δ : Type} {R' : γ → δ → Prop} {R : α → β → Prop} {a : α} {b : β} (r : R a b) : ∀ {l : List γ} {m : List δ}, Paired R' l m → Paired R (l.map fun _ => a) (m.map fun _ => b)
  | _, _, .nil => .nil
  | _, _, .cons _ t => .cons r (paired_consts r t)
theorem paired_const {α β γ : Type} {R : α → β → Prop} {a : α} {b : β} (r : R a b) : ∀ l : List γ, Paired R (l.map fun _ => a) (l.map fun _ => b)
  | [] => .nil
  | _ :: l => .cons r (paired_const r l)
/-- the facts stand when another dict changes -/
theorem FactsAt.fr {P : Program} {w : World} {C : Addr} {H H' : Hp} {a : Addr} {S : List Fact} {O : List Addr} {wd : Addr} {kvs : List (List L2.Key × V)} (h : FactsAt P w C H a S O) (f : Fr [wd] H H') (hw : H wd = some (.dT kvs)) (n : wd ∉ O) : FactsAt P w C H' a S O := by
  obtain ⟨dx, h, lk, es, hO, ha, hh, hlk, L⟩ := h
  have k : ∀ b o, H b = some o → b ≠ wd → H' b = some o := fun b o e nb => f b o e (by simpa using nb)
  refine ⟨dx, h, lk, es, hO, k _ _ ha (ne_of ha hw (fun z => nomatch z)), k _ _ hh (fun z => n (by rw [hO, ← z]; simp)), k _ _ hlk (ne_of hlk hw (fun z => nomatch z)), L.keep (fun b xs e => k _ _ e (ne_of e hw (fun z => nomatch z))) fun e he => ?_⟩
  obtain ⟨qs, h1, _⟩ := L.val e he
  rw [h1]; exact k _ _ h1 (ne_of h1 hw (fun z => nomatch z))
def LenOk (r : Dx.Rule) (W : Wt) : Prop := ∀ k n, (k, n) ∈ W.waiting → n.length = r.body.length
theorem LenOk.take {r : Dx.Rule} {W : Wt} (h : LenOk r W) {m : List Fact} (hm : m.length = r.body.length) (k : List Nat) : LenOk r (W.take m k) := by
  intro j n hj
  unfold Wt.take at hj
  split at hj
  · exact h j n hj
  · rcases mem_putA.mp hj with ⟨_, rfl⟩ | ⟨_, q⟩
    · rcases minM_or m ((getA W.waiting k).getD m) with e | e
      · rw [e]; exact hm
      · rw [e]
        cases g : getA W.waiting k with
        | none => exact hm
        | some m' => exact h _ _ (getA_some g)
    · exact h j n q
theorem takeAll_snoc {r : Dx.Rule} {W : Wt} {L : List (List Fact × Fill)} {j : Nat} {p : List Fact × Fill} (h : L[j]? = some p) : takeAll r W (L.take (j + 1)) = (takeAll r W (L.take j)).take p.1 (keyOf r p.2) := by
  rw [take_succ' h]
  unfold takeAll
  rw [List.foldl_append]
  rfl
theorem LenOk.takeAll {r : Dx.Rule} : ∀ {L : List (List Fact × Fill)} {W : Wt}, LenOk r W → (∀ p ∈ L, p.1.length = r.body.length) → LenOk r (takeAll r W L)
  | [], _, h, _ => h
  | p :: L, W, h, q => LenOk.takeAll (L := L) (h.take (q p (by simp)) _) fun x hx => q x (by simp [hx])
def metTo (r : Dx.Rule) (W : Wt) (Fr S : List Fact) (i : Nat) : Wt := (List.range i).foldl (fun w i => Rb.takeAll r w (placeL r.body Fr S i)) W
theorem metTo_succ (r : Dx.Rule) (W : Wt) (Fr S : List Fact) (i : Nat) : metTo r W Fr S (i + 1) = Rb.takeAll r (metTo r W Fr S i) (placeL r.body Fr S i) := by
  unfold metTo
  rw [List.range_succ, List.foldl_append]
  rfl
theorem placeL_run {body : List Atom} {Fr S : List Fact} {i : Nat} {p : List Fact × Fill} (h : p ∈ placeL body Fr S i) : runm [] body p.1 = some p.2 := (mem_placeL.mp (show (p.1, p.2) ∈ _ from h)).1
theorem LenOk.metTo {r : Dx.Rule} {W : Wt} {Fr S : List Fact} (h : LenOk r W) : ∀ i, LenOk r (metTo r W Fr S i)
  | 0 => h
  | i + 1 => by
    rw [metTo_succ]
    exact (LenOk.metTo h i).takeAll fun p hp => runm_len (placeL_run hp)
def nWMeet : List Str := ["self", "fresh", "facts", "body", "place", "sources", "matched", "values", "atom"]
theorem scWMeet : FnScope nWMeet ["self", "fresh", "facts"] (defScope sWMeet) := ⟨rfl, rfl, rfl, by decide +kernel, rfl, by decide +kernel, by decide +kernel⟩
def spWMeet (P : Program) (w : World) (C CR CF : Addr) : Sp := fun vs H Q _ => ∃ (a fa ba : Addr) (r : Dx.Rule) (W : Wt) (sd wd : Addr) (F S : List Fact) (OF OS : List Addr), vs = [.ref a, .ref fa, .ref ba] ∧ WatchAt C CR H a r W sd wd ∧
  FactsAt P w CF H fa F OF ∧ FactsAt P w CF H ba S OS ∧ wd ∉ OF ∧ wd ∉ OS ∧ F.length ≤ 202 ∧ S.length ≤ 202 ∧ r.body.length ≤ 2 ∧ (shared r).length ≤ 1000 ∧ LenOk r W ∧ wsize W ≤ 15900000 ∧
  ∀ H' : Hp, WatchAt C CR H' a r (meetW r W F S) sd wd → Fr [wd] H H' → Q .non H'
section
variable {P : Program} {w : World} {K : PySem.W.Frag} {mg : Str → Option Value} {base : Heap} {C CR CF : Addr}
theorem ok_wmeet {f : Addr} {fd : FuncData} (F : Fun K "meet" "Watch.meet" sWMeet f fd) (T : WTxt K mg C) (TR : RTxt K mg CR)
    (GM : FnB P w K mg base CX0 "matches" ["sources", "atoms"] 2 (spMatches P w CF)) (GT : MeB P w K mg base CX0 C "take_up" ["self", "matched", "values"] 1 (spWTake C CR)) :
    FnOk P w K mg base CX0 3 f fd ["self", "fresh", "facts"] (spWMeet P w C CR CF) := by
  refine F.ok scWMeet (fun vs H Q E h => ?_) (fun cdv A outer s H vs Q E hr h => ?_)
  · obtain ⟨a, fa, ba, r, W, sd, wd, F, S, OF, OS, rfl, _⟩ := h
    rfl
  · have nd : nWMeet.Nodup := scWMeet.nd
    have hr1 : Room 1 _ := hr.mono (by decide)
    refine ⟨_, pss_cons (ps_set (i := 3) nd rfl (Or.inl rfl) (pe_fld (pe_fld (pv 0) rfl) rfl))
      (pss_one (ps_for PassesOwn.never rfl (pi_range1 (by rfl) T.b.range (pa_cons (pe_callB call_len_seq (by rfl) T.b.len PySem.boot_len (pa_cons (pv 3) pa_nil)) pa_nil)) (pg_name (i := 4) nd rfl (Or.inl rfl))
        (pss_cons (ps_setLc (i := 5) (own := [("atom", 8)]) (g := gName 8) rfl nd rfl rfl (sw_true rfl rfl rfl (by decide +kernel)) (pi_list (pv 3)) (blkOk_by (own := [("atom", 8)]) (N := nWMeet) (sc := defScope sWMeet) (by decide +kernel)) (fun _ _ _ _ _ => pg_name (i := 8) nd rfl (Or.inl rfl))
            (fun _ _ _ _ _ => pts_nil) (fun _ _ _ _ _ => pv 2))
        (pss_cons (ps_asg (pv 1) (pg_sub (pv 5) (pv 4) set_list))
        (pss_one (ps_for PassesOwn.never rfl (pi_list (pe_callF GM hr pass0 (pa_cons (pv 5) (pa_cons (pv 3) pa_nil)))) (pg_tup rfl (pgs_cons (pg_name (i := 6) nd rfl (Or.inl rfl)) (pgs_cons (pg_name (i := 7) nd rfl (Or.inl rfl)) pgs_nil)))
          (pss_one (ps_expr (pe_methF (pv 0) T.cl GT hr1 pass0 (pa_cons (pv 6) (pa_cons (pv 7) pa_nil))))))))))), ?_⟩
    obtain ⟨a, fa, ba, r, W, sd, wd, F, S, OF, OS, rfl, hW, hF, hS, nF, nS, lF, lS, lb2, lsh, hL, hws, k⟩ := h
    have hW0 := hW
    obtain ⟨dx, ra, kvs, h1, ⟨dr, lb, lh, ls, le, r1, r2, r3, r4, r5⟩, h3, h4, h5, h6⟩ := hW0
    obtain ⟨qb, hlb, hqb⟩ := r2
    have nlb : lb ≠ wd := ne_of hlb h4 (fun z => nomatch z)
    have kp : ∀ {H' : Hp}, Fr [wd] H H' → ∀ b o, H b = some o → b ≠ wd → H' b = some o := fun f b o e n => f b o e (by simpa using n)
    have ktup : ∀ {H' : Hp}, Fr [wd] H H' → ∀ b xs, H b = some (.tup xs) → H' b = some (.tup xs) := fun f b xs e => kp f b _ e (ne_of e h4 (fun z => nomatch z))
    have lq : qb.length = r.body.length := Paired.length hqb
    refine ⟨_, rfl, a, C, dx, _, _, rfl, h1, T.cl, T.nW, wF_watched ra sd wd, ra, CR, dr, _, _, rfl, r1, TR.cl, TR.nB, rF_body lb lh ls le, ?_⟩
    refine ⟨_, rfl, lb, _, rfl, .inl (SqL.of hlb), ((qb.map V.ref).length : Int), rfl, by omega, by rw [List.length_map, lq]; omega, for_range (lo := 0) (n := ((qb.map V.ref).length : Int).toNat) (fun i σ H' => ∃ v4 v5 v6 v7 v8, σ = [some (.ref a), some (.ref fa), some (.ref ba), some (.ref lb), v4, v5, v6, v7, v8] ∧ WatchAt C CR H' a r (metTo r W F S i) sd wd ∧ Fr [wd] H H')
      ⟨none, none, none, none, none, rfl, hW, Fr.refl _ H⟩ ?_ ?_⟩
    · rintro i σ H2 hi ⟨v4, v5, v6, v7, v8, rfl, hW2, f2⟩
      have hi' : i < r.body.length := by
        have e : (((qb.map V.ref).length : Int).toNat) = r.body.length := by rw [List.length_map, lq]; rfl
        omega
      have hlb2 := kp f2 _ _ hlb nlb
      -- sources = [facts for atom in body]
      refine ⟨_, rfl, lb, rfl, ⟨_, SqL.of hlb2⟩, fun D hD => lc_list (K := K) (a := lb) (xs := qb.map V.ref) (fun j H' => Same H2 H' ∧ H' D = some (.lst (((qb.take j).map fun _ => ba).map V.ref))) ?_ (fun j H' _ ⟨q, _⟩ => SqL.of (q _ _ hlb2)) ?_ ?_⟩
      · exact ⟨same_upd (Same.refl _) hD, upd_same⟩
      · rintro j x H3 hj ⟨s3, q3⟩
        obtain ⟨qj, hqj, rfl⟩ := map_get hj
        have jl : j < qb.length := (List.getElem?_eq_some_iff.mp hqj).1
        refine ⟨rfl, ?_⟩
        refine yesI ?_
        rw [if_pos rfl]
        refine ⟨_, rfl, _, q3, by rw [List.length_map, List.length_map, List.length_take]; exact big_lt (by omega), fun b o e => ?_, ?_⟩
        · rw [upd_ne (ne_of_none e hD)]; exact s3 _ _ e
        · rw [upd_same, take_succ' hqj, List.map_append, List.map_append]; rfl
      · rintro H3 ⟨s3, q3⟩
        have et : qb.take (qb.map V.ref).length = qb := List.take_of_length_le (by rw [List.length_map]; exact Nat.le_refl _)
        rw [et] at q3
        refine ⟨_, rfl, _, rfl, _, rfl, D, _, _, i, rfl, rfl, q3, ixN_nat (by rw [List.length_map, List.length_map]; omega), ?_⟩
        have hDH2 : H2 D = none := hD
        have s34 : Same H2 (upd H3 D (.lst ((((qb.map fun _ => ba).map V.ref).set i (.ref fa))))) := fun b o e => by
          rw [upd_ne (ne_of_none e hD)]; exact s3 _ _ e
        have hD4 : upd H3 D (.lst ((((qb.map fun _ => ba).map V.ref).set i (.ref fa)))) D = some (.lst (((qb.map fun _ => ba).set i fa).map V.ref)) := by rw [upd_same, List.map_set]
        generalize upd H3 D (.lst ((((qb.map fun _ => ba).map V.ref).set i (.ref fa)))) = H4 at s34 hD4 ⊢
        have hFa2 := (hF.fr f2 h4 nF).same s34
        have hSa2 := (hS.fr f2 h4 nS).same s34
        have hsrc : Paired (SrcAt P w CF H4) ((qb.map fun _ => ba).set i fa) ((r.body.map fun _ => S).set i F) :=
          paired_set i (paired_consts (R := SrcAt P w CF H4) ⟨⟨OS, hSa2⟩, by omega⟩ hqb) ⟨⟨OF, hFa2⟩, by omega⟩
        have hat4 : AtomsAt H4 lb r.body := ⟨qb, s34 _ _ hlb2, Paired.mapP hqb fun _ _ z => s34 _ _ (ktup f2 _ _ z)⟩
        refine ⟨_, rfl, _, rfl, D, lb, _, _, r.body, rfl, hD4, hsrc, hat4, by simp, lb2, fun H5 p ms s5 hpn hp5 hms => ?_⟩
        have hms' : Paired (MatchAt H5) ms (placeL r.body F S i) := hms
        have hW5 := (hW2.same s34).same s5
        have f5 : Fr [wd] H H5 := f2.trans (Fr.of_same (s34.trans s5))
        have hwd5 : ∃ kv5, H5 wd = some (.dT kv5) := by
          obtain ⟨_, _, kv5, _, _, _, e, _⟩ := hW5
          exact ⟨kv5, e⟩
        obtain ⟨kv5, hwd5⟩ := hwd5
        have npw : p ≠ wd := ne_of hp5 hwd5 (fun z => nomatch z)
        have lP : (placeL r.body F S i).length ≤ 202 * 202 := length_placeL lb2 lF lS (by omega)
        refine ⟨p, rfl, ⟨_, SqL.of hp5⟩, for_list (K := K) (a := p) (xs := ms.map V.ref) (fun j σ H' => ∃ v5 v6 v7 v8, σ = [some (.ref a), some (.ref fa), some (.ref ba), some (.ref lb), some (.int (0 + (i : Int))), v5, v6, v7, v8] ∧
            WatchAt C CR H' a r (takeAll r (metTo r W F S i) ((placeL r.body F S i).take j)) sd wd ∧ Fr [wd] H5 H')
          ⟨_, _, _, _, rfl, by rw [List.take_zero]; exact hW5, Fr.refl _ _⟩ (fun j σ H' _ ⟨_, _, _, _, _, _, f⟩ => SqL.of (f _ _ hp5 (by simpa using npw))) ?_ ?_⟩
        · rintro j x σ H6 hj ⟨v5, v6, v7, v8, rfl, hW6, f6⟩
          obtain ⟨qm, hqm, rfl⟩ := map_get hj
          obtain ⟨⟨m, sf⟩, hmj, mat⟩ := paired_get hms' hqm
          have k6 : ∀ b o, H5 b = some o → b ≠ wd → H6 b = some o := fun b o e n => f6 b o e (by simpa using n)
          have mat6 : MatchAt H6 qm (m, sf) := mat.kept (fun b xs e => k6 _ _ e (ne_of e hwd5 (fun z => nomatch z))) fun b xs e => k6 _ _ e (ne_of e hwd5 (fun z => nomatch z))
          obtain ⟨tm, dv, hq6, htm, hdv⟩ := mat6
          have hrun := placeL_run (List.mem_of_getElem? hmj)
          have hmlen := runm_len hrun
          refine ⟨qm, _, rfl, SqT.of hq6, rfl, _, _, rfl, _, _, rfl, rfl, ?_⟩
          have hW60 := hW6
          obtain ⟨dx6, ra6, kv6, h61, _⟩ := hW60
          have lo : LenOk r (takeAll r (metTo r W F S i) ((placeL r.body F S i).take j)) := (hL.metTo i).takeAll fun p hp => runm_len (placeL_run (List.mem_of_mem_take hp))
          refine ⟨_, rfl, a, dx6, _, rfl, h61, rfl, _, rfl, _, rfl, ?_⟩
          refine ⟨a, tm, dv, r, _, sd, wd, m, sf, rfl, hW6, htm, hdv, fun v hv => ?_, lsh, fun k n hk => (lo k n hk).trans hmlen.symm, ?_, fun H7 hW7 f7 => ?_⟩
          · have := (runm_at hrun v).mpr (.inr (mem_shared.mp hv).1)
            cases e : Fill.at_ sf v with
            | none => rw [e] at this; cases this
            | some x => exact ⟨x, rfl⟩
          · have b1 := wsize_takeAll r ((placeL r.body F S i).take j) (metTo r W F S i)
            have b2 := wsize_places (r := r) (Fr := F) (S := S) (c := 202 * 202) (fun i => length_placeL lb2 lF lS (by omega)) (List.range i) W
            rw [List.length_range] at b2
            have b3 : ((placeL r.body F S i).take j).length ≤ 202 * 202 := by rw [List.length_take]; omega
            have b4 : 202 * 202 * i ≤ 202 * 202 * 2 := Nat.mul_le_mul_left _ (by omega)
            have b5 : wsize (metTo r W F S i) ≤ wsize W + 202 * 202 * i := b2
            omega
          · refine ⟨_, _, _, _, rfl, ?_, f6.trans f7⟩
            rw [takeAll_snoc hmj]
            exact hW7
        · rintro σ H6 ⟨v5, v6, v7, v8, rfl, hW6, f6⟩
          refine ⟨_, _, _, _, _, rfl, ?_, f5.trans f6⟩
          rw [metTo_succ]
          have et2 : (placeL r.body F S i).take (ms.map V.ref).length = placeL r.body F S i := List.take_of_length_le (by rw [List.length_map, Paired.length hms']; exact Nat.le_refl _)
          rw [et2] at hW6
          exact hW6
    · rintro σ H2 ⟨v4, v5, v6, v7, v8, rfl, hW2, f2⟩
      refine k H2 ?_ f2
      have e : (((qb.map V.ref).length : Int).toNat) = r.body.length := by rw [List.length_map, lq]; rfl
      rw [e] at hW2
      exact hW2
end
end Rb

/-! ## HP -/
set_option Elab.async false
set_option linter.all false
set_option maxRecDepth 100000
set_option maxHeartbeats 4000000
/-! HP: d.pop(k) of a dict with tuple keys, k there. -/
namespace L2
open PySem PySem.Spec PyProof.Rows
theorem KT.drop {H : Hp} {kvs : List (List L2.Key × V)} {xs : List (List L2.Key × Addr × Value)} (r : KT H kvs xs) (k : List L2.Key) : KT H (dropK kvs k) (withoutH xs k) := by
  unfold dropK withoutH
  induction r with
  | nil => exact .nil
  | @cons p q ps qs h t ih =>
    rw [List.filter_cons, List.filter_cons]
    by_cases e : p.1 = k
    · have e2 : q.1 = k := h.1.symm.trans e
      simp only [e, e2, ne_eq, not_true, decide_false, Bool.false_eq_true, if_false]
      exact ih
    · have e2 : ¬ q.1 = k := fun z => e (h.1.trans z)
      simp only [e, e2, ne_eq, not_false_iff, decide_true, if_true]
      exact .cons h ih
/-- d.pop(y), there -/
def tPopT1 (td ty : TE) : TE := fun σ H Q => td σ H fun x H1 => ∃ a, x = .ref a ∧ IsD H1 a ∧ ty σ H1 fun y H2 => ∃ kvs k b v, H2 a = some (.dT kvs) ∧ y = .ref b ∧ H2 b = some (.tup (k.map kV)) ∧ valV kvs k = some v ∧ Q v (upd H2 a (.dT (dropK kvs k)))
section
variable {X : Cx} {o e : Expr} {apos cpos : Pos} {td ty : TE}
theorem pe_popT1 (hu : X.A.units + 1 < cLine) (ho : PE X o td) (he : PE X e ty) (m : M1 X o "pop" apos e cpos) : PE X (.Call (.Attribute o "pop" apos) [e] [] cpos) (tPopT1 td ty) := by
  refine ⟨fun pins s σ H Q I h => ?_⟩
  refine wpAny_Call_method m.base m.few m.line PySem.F.plainAttrs_dict PySem.F.slot_dict_pop PySem.F.type_dict_pop (thn (ho.run pins s σ H _ I h) fun u s1 ⟨x, H1, I1, rx, a, ex, d, q1⟩ => ?_)
  subst ex
  obtain rfl : u = Value.ref a := rx
  obtain ⟨t1, t2, _⟩ := isD_at I1 d
  refine ⟨t1, t2, ?_⟩
  rw [m.trees]
  refine Calls.callWith_builtin rfl (Calls.evalArgs_plain (Calls.spliced_cons (thn (he.run pins s1 σ H1 _ I1 q1) fun iv s2 ⟨y, H2, I2, ry, kvs, k, b, v, ea, ey, eb, l, q2⟩ => Calls.spliced_nil ?_)))
  subst ey
  obtain rfl : iv = Value.ref b := ry
  obtain ⟨z, hd, xs, rel, dd⟩ := dt_of I2.hok ea
  have hz : xs.length ≤ sizeLine := by rw [← Paired.length rel]; exact z
  have hv := rel.val k
  rw [l] at hv
  cases g : atKey xs k with
  | none => rw [g] at hv; exact hv.elim
  | some p =>
    rw [g] at hv
    refine call_pop_heap (more := []) (.inl rfl) (PySem.F.args_dict_pop_2 _ _) (tupleKind_room_in1 hu) (key_of I2.hok eb) hd dd g (fun h' dd' hs => ?_) hz
    obtain ⟨q, es, ep, hq, c2, c3, c4, _, c5⟩ := dd'
    refine ⟨v, upd H2 a (.dT (dropK kvs k)), d_write (t' := _) (ob := .dT (dropK kvs k)) I2 (by rw [ea]; exact True.intro) hs ⟨q, hq⟩ ⟨Nat.le_trans (dropK_le kvs k) z, hd, _, (rel.drop k).keeps fun c ys ec => ?_, q, es, ep, hq, c2, c3, c4, c5⟩, hv, q2⟩
    rw [upd_ne (ne_of ec ea (fun z => nomatch z))]
    exact ec
end
end L2
namespace Rb
open PySem PySem.Spec PyProof.Rows L2
open Dx (Fact Facts Atom Fill)
def natsD (k : List Nat) : PyData := .tuple ((k.map fun n : Nat => (n : Int)).map .int)
def waitD (p : List Nat × List Fact) : PyData := .tuple [factsD p.2, natsD p.1]
theorem natsD_alike (a b : List Nat) : PySem.W.alike (natsD a) (natsD b) = true := by
  unfold natsD
  rw [PySem.W.alike]
  exact PySem.W.alike_ints _ _
theorem waitD_alike {p q : List Nat × List Fact} (h : p.2.length = q.2.length) : PySem.W.alike (waitD p) (waitD q) = true := by
  unfold waitD
  rw [PySem.W.alike, PySem.W.alikeAll, PySem.W.alikeAll, factsD_alike h, natsD_alike]
  rfl
theorem waitD_depth (p : List Nat × List Fact) : (waitD p).depth ≤ 32 := by
  have h1 := factsD_depth p.2
  have h2 : (natsD p.1).depth ≤ 4 := by
    unfold natsD
    rw [PyData.depth, PySem.W.depth_ints]
    omega
  unfold waitD
  rw [PyData.depth]
  have : PyData.depthAll [factsD p.2, natsD p.1] ≤ 4 := depthAll_le fun d hd => by
    have : d = factsD p.2 ∨ d = natsD p.1 := by simpa using hd
    rcases this with rfl | rfl <;> assumption
  omega
theorem wait_sorted {β : Type} (g : β → List Nat × List Fact) (bs : List β) (n : Nat) (hl : ∀ b ∈ bs, (g b).2.length = n) :
    ((bs.mergeSort (PySem.W.dataLe false fun b => waitD (g b))).map g).Pairwise fun p q => leM p.2 q.2 := by
  rw [List.pairwise_map]
  have s := PySem.W.sort_pairwise (PySem.W.sortLe_total (PyProof.Rows.listOrd PyProof.Rows.itemOrd) false fun b => PySem.W.keyToks (waitD (g b))) bs
  have hm : ∀ b ∈ bs.mergeSort (PySem.W.dataLe false fun b => waitD (g b)), (g b).2.length = n := fun b hb => hl b ((List.mergeSort_perm bs _).mem_iff.mp hb)
  refine (List.Pairwise.and_mem.mp s).imp ?_
  rintro a b ⟨ha, hb, h⟩
  have la := hm a ha
  have lb := hm b hb
  have h' : (!PySem.W.dataLt (waitD (g b)) (waitD (g a))) = true := h
  rw [Bool.not_eq_true'] at h'
  unfold waitD at h'
  rw [PySem.W.dataLt_pair (factsD_alike (by omega)) (natsD_alike _ _), factsD_eqv, factsD_lt (by omega)] at h'
  refine ltM_false.mp ?_
  by_cases e : (g b).2 = (g a).2
  · rw [e]; exact ltM_false.mpr (leM.refl _)
  · simpa [e] using h'
theorem natsAt_dp {K : PySem.W.Frag} {H : Hp} {t : Addr} {k : List Nat} (h : H t = some (.tup (k.map nI))) : Dp K H (.ref t) (natsD k) := by
  refine .tup (SqT.of h) ?_
  clear h
  induction k with
  | nil => exact .nil
  | cons n k ih => exact .cons (.int _) ih
end Rb

/-! ## HZ0 -/
set_option Elab.async false
set_option linter.all false
set_option maxRecDepth 100000
set_option maxHeartbeats 4000000
/-! HZ0: a zip whose parts are each a list or a tuple; dict(zip(..)) takes it. -/
namespace ZM
open PySem
open PySem.Sem (wp)
/-- an iterator at i over the list (b) or tuple at l, items xs, k of them taken -/
def ItAt (b : Bool) (h : Heap) (i l : Addr) (k : Nat) (xs : Array Value) : Prop := if b = true then h.IsListIter i l k ∧ h.IsList l xs else h.IsTupleIter i l k ∧ h.IsTuple l xs
theorem ItAt.at {b : Bool} {h h' : Heap} {i l : Addr} {k : Nat} {xs : Array Value} (x : ItAt b h i l k xs) (e1 : ∀ o, h.get? i = some o → h'.get? i = some o) (e2 : ∀ o, h.get? l = some o → h'.get? l = some o) : ItAt b h' i l k xs := by
  cases b with
  | true => exact ⟨x.1.at e1, x.2.at e2⟩
  | false => exact ⟨x.1.at e1, x.2.at e2⟩
theorem ItAt.i {b : Bool} {h : Heap} {i l : Addr} {k : Nat} {xs : Array Value} (x : ItAt b h i l k xs) : ∃ o, h.get? i = some o := by
  cases b with
  | true => obtain ⟨⟨o, e, _⟩, _⟩ := x; exact ⟨o, e⟩
  | false => obtain ⟨⟨o, e, _⟩, _⟩ := x; exact ⟨o, e⟩
theorem ItAt.l {b : Bool} {h : Heap} {i l : Addr} {k : Nat} {xs : Array Value} (x : ItAt b h i l k xs) : ∃ o, h.get? l = some o := by
  cases b with
  | true => obtain ⟨_, ⟨o, e, _⟩⟩ := x; exact ⟨o, e⟩
  | false => obtain ⟨_, ⟨o, e, _⟩⟩ := x; exact ⟨o, e⟩
section
variable {prog : Program} {w : World} {A : Around} {E : Value → Shared → Prop} {s : Shared}
theorem ItAt.item {b : Bool} {i l : Addr} {k : Nat} {xs : Array Value} {x : Value} {Q : Value → Shared → Prop} (c : ItAt b s.heap i l k xs) (ne : l ≠ i) (hx : xs[k]? = some x)
    (hQ : ∀ h', ItAt b h' i l (k + 1) xs → Heap.SameBut i s.heap h' → Q x { s with heap := h' }) : wpAny (model prog w) A (Builtin.SmallTypes.nextOf (.ref i)) Q E s := by
  cases b with
  | true => exact wpAny_nextOf_list_item c.1 c.2 hx fun h' a sb => hQ h' ⟨a, c.2.extBut sb.extBut ne⟩ sb
  | false => exact RZ.nextOf_tuple_item c.1 c.2 hx fun h' a sb => hQ h' ⟨a, c.2.extBut sb.extBut ne⟩ sb
theorem ItAt.stop {b : Bool} {i l : Addr} {k : Nat} {xs : Array Value} {Q : Value → Shared → Prop} (hh : A.handled = none) (c : ItAt b s.heap i l k xs) (hx : xs[k]? = none)
    (hE : ∀ h' e, Heap.ExtBut i s.heap h' → (∃ o, h'.get? e = some o ∧ o.cls = .type "StopIteration") → E (.ref e) { s with heap := h' }) : wpAny (model prog w) A (Builtin.SmallTypes.nextOf (.ref i)) Q E s := by
  cases b with
  | true => exact wpAny_nextOf_list_end hh c.1 c.2 hx hE
  | false => exact RZ.nextOf_tuple_end hh c.1 c.2 hx hE
/-- both parts' items, where the zip's own tuple is still out -/
theorem held_item {b1 b2 : Bool} {z TI TO T i1 i2 l1 l2 : Addr} {f : Bool} {oT : Obj} {k1 k2 : Nat} {xs ys : Array Value} {x y : Value} {Q : Value → Shared → Prop} (D : ZipApart z TI TO i1 i2 l1 l2)
    (hz : IsZipHeld s.heap z TI TO T f) (hT : s.heap.get? T = some oT) (hTI : IsPair s.heap TI (.ref i1) (.ref i2)) (c1 : ItAt b1 s.heap i1 l1 k1 xs) (c2 : ItAt b2 s.heap i2 l2 k2 ys) (hx : xs[k1]? = some x) (hy : ys[k2]? = some y)
    (hQ : ∀ h', IsZipHeld h' z TI TO T true → ItAt b1 h' i1 l1 (k1 + 1) xs → ItAt b2 h' i2 l2 (k2 + 1) ys → IsPair h' s.heap.objs.size x y →
      (∀ c o, c ≠ z → c ≠ i1 → c ≠ i2 → s.heap.get? c = some o → h'.get? c = some o) → Q (.ref s.heap.objs.size) { s with heap := h' }) :
    wpAny (model prog w) A (Builtin.«zip.__next__» ⟨[.ref z], []⟩) (fun fin s' => ∃ v, fin = .done (.ret v) ∧ Q v s') E s := by
  have g1 : ∀ {Z : Value → Shared → Prop}, Z (.bool false) s → wpAny (model prog w) A (field (.ref z) 2) Z E s := fun h => wpAny_field hz rfl (x := .bool false) rfl h
  have g2 : ∀ {Z : Value → Shared → Prop}, Z (.ref TI) s → wpAny (model prog w) A (field (.ref z) 3) Z E s := fun h => wpAny_field hz rfl (x := .ref TI) rfl h
  refine wpAny_bind (m := field (.ref z) 2) (g1 ?_)
  refine wpAny_bind (m := field (.ref z) 3) (g2 (wpAny_bind (wpAny_seqItems hTI rfl ?_)))
  refine wpAny_bind (m := Builtin.SmallTypes.ownedTupleIsFree (.ref z)) (wpAny_tupleHeld_zip hz hT fun h₁ hz₁ hs₁ => ?_)
  have k₁ := hs₁.extBut
  simp only [Bool.false_eq_true, if_false]
  refine wpAny_bind ?_
  rw [← Array.forIn_toList]
  simp only [List.forIn_cons, List.forIn_nil]
  refine wpAny_bind (wpAny_bind (wpAny_holding ?_))
  refine wpAny_bind (m := Builtin.SmallTypes.nextOf (.ref i1)) (ItAt.item (s := { s with heap := h₁ }) (c1.at (fun o e => k₁ _ o D.i1z e) fun o e => k₁ _ o D.l1z e) D.l1i1 hx fun h₂ c1₂ hs₂ => wpAny_pure ?_)
  have k₂ := hs₂.extBut
  refine wpAny_pure (wpAny_bind (wpAny_bind (wpAny_holding ?_)))
  refine wpAny_bind (m := Builtin.SmallTypes.nextOf (.ref i2)) (ItAt.item (s := { s with heap := h₂ }) (c2.at (fun o e => k₂ _ o D.i12.symm (k₁ _ o D.i2z e)) fun o e => k₂ _ o D.l2i1 (k₁ _ o D.l2z e)) D.l2i2 hy fun h₃ c2₃ hs₃ => wpAny_pure ?_)
  have k₃ := hs₃.extBut
  refine wpAny_pure (wpAny_pure ?_)
  refine wpAny_bind (m := newTuple [x, y]) (wpAny_newTuple (wpAny_pure ⟨_, rfl, ?_⟩))
  have hsz : h₃.objs.size = s.heap.objs.size := by rw [hs₃.1, hs₂.1, hs₁.1]
  have np : ∀ c o, h₃.get? c = some o → (h₃.push { cls := .type "tuple", data := .seq #[x, y] }).get? c = some o := fun c o e => Heap.get?_push_of_some _ e
  have hp : IsPair (h₃.push { cls := .type "tuple", data := .seq #[x, y] }) h₃.objs.size x y := Heap.get?_push_size _ rfl
  show Q (.ref h₃.objs.size) _
  rw [hsz] at hp ⊢
  refine hQ _ (np _ _ (k₃ _ _ D.i2z.symm (k₂ _ _ D.i1z.symm hz₁))) (c1₂.at (fun o e => np _ _ (k₃ _ o D.i12 e)) fun o e => np _ _ (k₃ _ o D.l1i2 e)) (c2₃.at (fun o e => np _ _ e) fun o e => np _ _ e) hp fun c o n1 n2 n3 e => np _ _ (k₃ _ _ n3 (k₂ _ _ n2 (k₁ _ _ n1 e)))
theorem held_stop {b1 b2 : Bool} {z TI TO T i1 i2 l1 l2 : Addr} {f : Bool} {oT : Obj} {k1 k2 : Nat} {xs ys : Array Value} {Q : Fin → Shared → Prop} (hh : A.handled = none) (D : ZipApart z TI TO i1 i2 l1 l2)
    (hz : IsZipHeld s.heap z TI TO T f) (hT : s.heap.get? T = some oT) (hTI : IsPair s.heap TI (.ref i1) (.ref i2)) (c1 : ItAt b1 s.heap i1 l1 k1 xs) (hx : xs[k1]? = none)
    (hE : ∀ h' e, (∀ c o, c ≠ z → c ≠ i1 → c ≠ i2 → s.heap.get? c = some o → h'.get? c = some o) → (∃ o, h'.get? e = some o ∧ o.cls = .type "StopIteration") → E (.ref e) { s with heap := h' }) :
    wpAny (model prog w) A (Builtin.«zip.__next__» ⟨[.ref z], []⟩) Q E s := by
  have g1 : ∀ {Z : Value → Shared → Prop}, Z (.bool false) s → wpAny (model prog w) A (field (.ref z) 2) Z E s := fun h => wpAny_field hz rfl (x := .bool false) rfl h
  have g2 : ∀ {Z : Value → Shared → Prop}, Z (.ref TI) s → wpAny (model prog w) A (field (.ref z) 3) Z E s := fun h => wpAny_field hz rfl (x := .ref TI) rfl h
  refine wpAny_bind (m := field (.ref z) 2) (g1 ?_)
  refine wpAny_bind (m := field (.ref z) 3) (g2 (wpAny_bind (wpAny_seqItems hTI rfl ?_)))
  refine wpAny_bind (m := Builtin.SmallTypes.ownedTupleIsFree (.ref z)) (wpAny_tupleHeld_zip hz hT fun h₁ hz₁ hs₁ => ?_)
  have k₁ := hs₁.extBut
  simp only [Bool.false_eq_true, if_false]
  refine wpAny_bind ?_
  rw [← Array.forIn_toList]
  simp only [List.forIn_cons, List.forIn_nil]
  refine wpAny_bind (wpAny_bind (wpAny_holding ?_))
  refine wpAny_bind (m := Builtin.SmallTypes.nextOf (.ref i1)) (ItAt.stop (s := { s with heap := h₁ }) hh (c1.at (fun o e => k₁ _ o D.i1z e) fun o e => k₁ _ o D.l1z e) hx fun h₂ e k₂ he => ?_)
  exact hE h₂ e (fun c o n1 n2 _ q => k₂ _ _ n2 (k₁ _ _ n1 q)) he
/-- both parts' items, the first time -/
theorem new_item {b1 b2 : Bool} {z TI TO i1 i2 l1 l2 : Addr} {k1 k2 : Nat} {xs ys : Array Value} {x y a b : Value} {Q : Value → Shared → Prop} (D : ZipApart z TI TO i1 i2 l1 l2)
    (hz : IsZip s.heap z TI TO .none) (hTI : IsPair s.heap TI (.ref i1) (.ref i2)) (hTO : IsPair s.heap TO a b) (c1 : ItAt b1 s.heap i1 l1 k1 xs) (c2 : ItAt b2 s.heap i2 l2 k2 ys) (hx : xs[k1]? = some x) (hy : ys[k2]? = some y)
    (hQ : ∀ h', IsZip h' z TI TO (rawInt s.heap.objs.size) → ItAt b1 h' i1 l1 (k1 + 1) xs → ItAt b2 h' i2 l2 (k2 + 1) ys → IsPair h' s.heap.objs.size x y →
      (∀ c o, c ≠ z → c ≠ TO → c ≠ i1 → c ≠ i2 → s.heap.get? c = some o → h'.get? c = some o) → Q (.ref s.heap.objs.size) { s with heap := h' }) :
    wpAny (model prog w) A (Builtin.«zip.__next__» ⟨[.ref z], []⟩) (fun fin s' => ∃ v, fin = .done (.ret v) ∧ Q v s') E s := by
  have g1 : ∀ {Z : Value → Shared → Prop}, Z (.bool false) s → wpAny (model prog w) A (field (.ref z) 2) Z E s := fun h => wpAny_field hz rfl (x := .bool false) rfl h
  have g2 : ∀ {Z : Value → Shared → Prop}, Z (.ref TI) s → wpAny (model prog w) A (field (.ref z) 3) Z E s := fun h => wpAny_field hz rfl (x := .ref TI) rfl h
  have g3 : ∀ {Z : Bool → Shared → Prop}, Z true s → wpAny (model prog w) A (Builtin.SmallTypes.ownedTupleIsFree (.ref z)) Z E s := fun h => by
    unfold Builtin.SmallTypes.ownedTupleIsFree
    exact wpAny_bind (wpAny_field hz rfl (x := .none) rfl (wpAny_pure h))
  refine wpAny_bind (m := field (.ref z) 2) (g1 ?_)
  refine wpAny_bind (m := field (.ref z) 3) (g2 (wpAny_bind (wpAny_seqItems hTI rfl ?_)))
  refine wpAny_bind (m := Builtin.SmallTypes.ownedTupleIsFree (.ref z)) (g3 ?_)
  simp only [if_true]
  refine wpAny_bind (wpAny_rule (wpAny_bind (wpAny_field hz rfl (x := .ref TO) rfl (wpAny_bind (wpAny_setField_rec hz (by simp) fun h₁ hz₁ hs₁ => ?_)))))
  replace hz₁ : IsZip h₁ z TI TO .ellipsis := hz₁
  have k₁ := hs₁.extBut
  refine wpAny_bind ?_
  simp only [List.zipIdx_cons, List.zipIdx_nil, List.forIn_cons, List.forIn_nil]
  refine wpAny_bind (wpAny_bind (wpAny_onRaise ?_))
  refine wpAny_bind (m := Builtin.SmallTypes.nextOf (.ref i1)) (ItAt.item (s := { s with heap := h₁ }) (c1.at (fun o e => k₁ _ o D.i1z e) fun o e => k₁ _ o D.l1z e) D.l1i1 hx fun h₂ c1₂ hs₂ => wpAny_pure ?_)
  have k₂ := hs₂.extBut
  have hTO₂ : IsPair h₂ TO a b := k₂ _ _ D.TOi1 (k₁ _ _ D.TOz hTO)
  refine wpAny_bind (wpAny_seqItems hTO₂ rfl (wpAny_bind (wpAny_updateSeq_pair hTO₂ fun h₃ hTO₃ hs₃ => wpAny_bind (wpAny_letGo (wpAny_pure ?_)))))
  replace hTO₃ : IsPair h₃ TO x b := hTO₃
  have k₃ := hs₃.extBut
  refine wpAny_bind (wpAny_bind (wpAny_onRaise ?_))
  refine wpAny_bind (m := Builtin.SmallTypes.nextOf (.ref i2)) (ItAt.item (s := { s with heap := h₃ }) (c2.at (fun o e => k₃ _ o D.TOi2.symm (k₂ _ o D.i12.symm (k₁ _ o D.i2z e))) fun o e => k₃ _ o D.l2TO (k₂ _ o D.l2i1 (k₁ _ o D.l2z e))) D.l2i2 hy fun h₄ c2₄ hs₄ => wpAny_pure ?_)
  have k₄ := hs₄.extBut
  have hTO₄ : IsPair h₄ TO x b := k₄ _ _ D.TOi2 hTO₃
  refine wpAny_bind (wpAny_seqItems hTO₄ rfl (wpAny_bind (wpAny_updateSeq_pair hTO₄ fun h₅ hTO₅ hs₅ => wpAny_bind (wpAny_letGo (wpAny_pure (wpAny_pure ?_))))))
  replace hTO₅ : IsPair h₅ TO x y := hTO₅
  have k₅ := hs₅.extBut
  refine wpAny_bind (wpAny_seqItems hTO₅ rfl (wpAny_bind (wpAny_newTuple ?_)))
  have hsz : h₅.objs.size = s.heap.objs.size := by rw [hs₅.1, hs₄.1, hs₃.1, hs₂.1, hs₁.1]
  have kk : ∀ c o, c ≠ z → c ≠ TO → c ≠ i1 → c ≠ i2 → s.heap.get? c = some o → h₅.get? c = some o := fun c o n1 n2 n3 n4 e => k₅ _ _ n2 (k₄ _ _ n4 (k₃ _ _ n2 (k₂ _ _ n3 (k₁ _ _ n1 e))))
  have hz₅ : IsZip h₅ z TI TO .ellipsis := k₅ _ _ D.TOz.symm (k₄ _ _ D.i2z.symm (k₃ _ _ D.TOz.symm (k₂ _ _ D.i1z.symm hz₁)))
  have d1 : ItAt b1 h₅ i1 l1 (k1 + 1) xs := c1₂.at (fun o e => k₅ _ _ D.TOi1.symm (k₄ _ _ D.i12 (k₃ _ _ D.TOi1.symm e))) fun o e => k₅ _ _ D.l1TO (k₄ _ _ D.l1i2 (k₃ _ _ D.l1TO e))
  have d2 : ItAt b2 h₅ i2 l2 (k2 + 1) ys := c2₄.at (fun o e => k₅ _ _ D.TOi2.symm e) fun o e => k₅ _ _ D.l2TO e
  clear hTO₅ hTO₄ hTO₃ hTO₂ c2₄ c1₂ hz₁
  refine wpAny_bind (m := Builtin.SmallTypes.ownedTupleHandOut (.ref z) (.ref h₅.objs.size)) ?_
  unfold Builtin.SmallTypes.ownedTupleHandOut
  have hz₆ : IsZip (h₅.push { cls := .type "tuple", data := .seq #[x, y] }) z TI TO .ellipsis := Heap.get?_push_of_some _ hz₅
  refine wpAny_bind (wpAny_setField_rec hz₆ (by simp) fun h₇ hz₇ hs₇ => ?_)
  replace hz₇ : IsZip h₇ z TI TO (rawInt h₅.objs.size) := hz₇
  refine wpAny_setField_rec hz₇ (by simp) fun h₈ hz₈ hs₈ => ?_
  replace hz₈ : IsZip h₈ z TI TO (rawInt h₅.objs.size) := hz₈
  have up : ∀ c o, c ≠ z → (h₅.push { cls := .type "tuple", data := .seq #[x, y] }).get? c = some o → h₈.get? c = some o := fun c o n e => hs₈.extBut _ _ n (hs₇.extBut _ _ n e)
  have up5 : ∀ c o, c ≠ z → h₅.get? c = some o → h₈.get? c = some o := fun c o n e => up c o n (Heap.get?_push_of_some _ e)
  have hT₈ : IsPair h₈ h₅.objs.size x y := up _ _ (Nat.ne_of_gt (Heap.lt_size hz₅)) (Heap.get?_push_size _ rfl)
  rw [hsz] at hz₈ hT₈
  refine wpAny_pure ⟨_, rfl, ?_⟩
  show Q (.ref h₅.objs.size) _
  rw [hsz]
  exact hQ h₈ hz₈ (d1.at (fun o e => up5 _ o D.i1z e) fun o e => up5 _ o D.l1z e) (d2.at (fun o e => up5 _ o D.i2z e) fun o e => up5 _ o D.l2z e) hT₈ fun c o n1 n2 n3 n4 e => up5 c o n1 (kk c o n1 n2 n3 n4 e)
theorem new_stop {b1 : Bool} {z TI TO i1 i2 l1 l2 : Addr} {k1 : Nat} {xs : Array Value} {Q : Fin → Shared → Prop} (hh : A.handled = none) (D : ZipApart z TI TO i1 i2 l1 l2)
    (hz : IsZip s.heap z TI TO .none) (hTI : IsPair s.heap TI (.ref i1) (.ref i2)) (c1 : ItAt b1 s.heap i1 l1 k1 xs) (hx : xs[k1]? = none)
    (hE : ∀ h' e, (∀ c o, c ≠ z → c ≠ TO → c ≠ i1 → c ≠ i2 → s.heap.get? c = some o → h'.get? c = some o) → (∃ o, h'.get? e = some o ∧ o.cls = .type "StopIteration") → E (.ref e) { s with heap := h' }) :
    wpAny (model prog w) A (Builtin.«zip.__next__» ⟨[.ref z], []⟩) Q E s := by
  have g1 : ∀ {Z : Value → Shared → Prop}, Z (.bool false) s → wpAny (model prog w) A (field (.ref z) 2) Z E s := fun h => wpAny_field hz rfl (x := .bool false) rfl h
  have g2 : ∀ {Z : Value → Shared → Prop}, Z (.ref TI) s → wpAny (model prog w) A (field (.ref z) 3) Z E s := fun h => wpAny_field hz rfl (x := .ref TI) rfl h
  have g3 : ∀ {Z : Bool → Shared → Prop}, Z true s → wpAny (model prog w) A (Builtin.SmallTypes.ownedTupleIsFree (.ref z)) Z E s := fun h => by
    unfold Builtin.SmallTypes.ownedTupleIsFree
    exact wpAny_bind (wpAny_field hz rfl (x := .none) rfl (wpAny_pure h))
  refine wpAny_bind (m := field (.ref z) 2) (g1 ?_)
  refine wpAny_bind (m := field (.ref z) 3) (g2 (wpAny_bind (wpAny_seqItems hTI rfl ?_)))
  refine wpAny_bind (m := Builtin.SmallTypes.ownedTupleIsFree (.ref z)) (g3 ?_)
  simp only [if_true]
  refine wpAny_bind (wpAny_rule (wpAny_bind (wpAny_field hz rfl (x := .ref TO) rfl (wpAny_bind (wpAny_setField_rec hz (by simp) fun h₁ hz₁ hs₁ => ?_)))))
  replace hz₁ : IsZip h₁ z TI TO .ellipsis := hz₁
  have k₁ := hs₁.extBut
  refine wpAny_bind ?_
  simp only [List.zipIdx_cons, List.zipIdx_nil, List.forIn_cons, List.forIn_nil]
  refine wpAny_bind (wpAny_bind (wpAny_onRaise ?_))
  refine wpAny_bind (m := Builtin.SmallTypes.nextOf (.ref i1)) (ItAt.stop (s := { s with heap := h₁ }) hh (c1.at (fun o e => k₁ _ o D.i1z e) fun o e => k₁ _ o D.l1z e) hx fun h₂ e k₂ he => ?_)
  obtain ⟨oe, hoe, hce⟩ := he
  have hz₂ : IsZip h₂ z TI TO .ellipsis := k₂ _ _ D.i1z.symm hz₁
  have hez : e ≠ z := fun q => by subst q; rw [hz₂] at hoe; cases hoe; simp at hce
  exact wpAny_setField_rec hz₂ (by simp) fun h₃ _ hs₃ => hE h₃ e (fun c o n1 _ n3 _ q => hs₃.extBut _ _ n1 (k₂ _ _ n3 (k₁ _ _ n1 q))) ⟨oe, hs₃.extBut _ _ hez hoe, hce⟩
/-- 'next' of the zip: an item -/
theorem nextI {z : Addr} {Q : Option Value → Shared → Prop} (hT : s.TypeIs (.ref z) "zip")
    (h : ∀ (A' : Around) (E' : Value → Shared → Prop) (Q' : Value → Shared → Prop), (∀ v s', Q (some v) s' → Q' v s') → wpAny (model prog w) A' (Builtin.«zip.__next__» ⟨[.ref z], []⟩) (fun fin s' => ∃ v, fin = .done (.ret v) ∧ Q' v s') E' s) :
    wpAny (model prog w) A (pyNext (.ref z)) Q E s := by
  unfold pyNext
  refine wpAny_bind (wpAny_attempt (wpAny_callSpecial?_slot (name := Str.ofString "__next__") hT F.slot_zip_next
    (wpAny_call_entry F.slot_zip_next hT F.entry_zip_next (h _ _ _ fun v s' q => ?_) (F.args_zip_next_1 _))))
  exact wpAny_pure q
/-- 'next' of the zip: no more -/
theorem nextE {z : Addr} {Q : Option Value → Shared → Prop} (hh : A.handled = none) (hT : s.TypeIs (.ref z) "zip")
    (h : ∀ (A' : Around) (Q' : Fin → Shared → Prop) (E' : Value → Shared → Prop), A'.handled = none → (∀ e s', (∃ o, s'.heap.get? e = some o ∧ o.cls = .type "StopIteration") → Q none s' → E' (.ref e) s') → wpAny (model prog w) A' (Builtin.«zip.__next__» ⟨[.ref z], []⟩) Q' E' s) :
    wpAny (model prog w) A (pyNext (.ref z)) Q E s := by
  unfold pyNext
  refine wpAny_bind (wpAny_attempt (wpAny_callSpecial?_slot (name := Str.ofString "__next__") hT F.slot_zip_next
    (wpAny_call_entry F.slot_zip_next hT F.entry_zip_next (h _ _ _ hh fun e s' he q => ?_) (F.args_zip_next_1 _))))
  obtain ⟨o, ho, hc⟩ := he
  exact wpAny_bind (wpAny_isInstance (T := "StopIteration") (b := true) ⟨o, ho, hc⟩ isSubtype_stop (wpAny_pure q))
end
section
variable {prog : Program} {w : World}
theorem PairArg.zipM (b1 b2 : Bool) (z TI TO i1 i2 l1 l2 : Addr) (D : ZipApart z TI TO i1 i2 l1 l2) (xs ys : Array Value) (hsz : xs.size = ys.size) :
    PairArg prog w "zip" z [z, TI, TO, i1, i2, l1, l2] [z, TO, i1, i2] xs.size (fun i k v => xs[i]? = some k ∧ ys[i]? = some v)
      (fun h => IsZip h z TI TO .none ∧ IsPair h TI (.ref i1) (.ref i2) ∧ (∃ a b, IsPair h TO a b) ∧ ItAt b1 h i1 l1 0 xs ∧ ItAt b2 h i2 l2 0 ys) where
  type := fun s ok => ⟨_, ok.1, rfl⟩
  notDict := by decide
  keep := fun h h' ⟨hz, hTI, ⟨a, b, hTO⟩, c1, c2⟩ hk => ⟨hk _ _ hz, hk _ _ hTI, ⟨a, b, hk _ _ hTO⟩, c1.at (fun o e => hk _ o e) (fun o e => hk _ o e), c2.at (fun o e => hk _ o e) fun o e => hk _ o e⟩
  there := fun h ⟨hz, hTI, ⟨a, c, hTO⟩, c1, c2⟩ b hb => by
    have : b = z ∨ b = TI ∨ b = TO ∨ b = i1 ∨ b = i2 ∨ b = l1 ∨ b = l2 := by simpa using hb
    rcases this with rfl | rfl | rfl | rfl | rfl | rfl | rfl
    · exact ⟨_, hz⟩
    · exact ⟨_, hTI⟩
    · exact ⟨_, hTO⟩
    · exact c1.i
    · exact c2.i
    · exact c1.l
    · exact c2.l
  sub := fun b hb => by
    have : b = z ∨ b = TO ∨ b = i1 ∨ b = i2 := by simpa using hb
    rcases this with rfl | rfl | rfl | rfl <;> simp
  noKeys := fun A s Q E hA ok h => getAttrOr_miss_zip ok.1 rfl rfl rfl zip_no_keys (by decide +kernel) hA h
  iter := fun A s d Q E hA ⟨hz, hTI, ⟨a, b, hTO⟩, c1, c2⟩ hd hdf h => by
    have hdf' : ¬ (d = z ∨ d = TI ∨ d = TO ∨ d = i1 ∨ d = i2 ∨ d = l1 ∨ d = l2) := by simpa using hdf
    refine wpAny_pyIter_zip hz (h z [z, TO, i1, i2] (fun i h => IsPair h TI (.ref i1) (.ref i2) ∧ ItAt b1 h i1 l1 i xs ∧ ItAt b2 h i2 l2 i ys ∧
      ((IsZip h z TI TO .none ∧ ∃ a b, IsPair h TO a b) ∨ ∃ T f oT, IsZipHeld h z TI TO T f ∧ h.get? T = some oT ∧ T ≠ z ∧ T ≠ i1 ∧ T ≠ i2 ∧ T ≠ d)) s.heap s.toks ?_
      ⟨hTI, c1, c2, .inl ⟨hz, a, b, hTO⟩⟩ (fun _ _ e => e) fun b hb => .inl hb)
    clear h hz hTI hTO c1 c2
    refine ⟨?_, ?_, ?_, ?_⟩
    · intro hm
      have : d = z ∨ d = TO ∨ d = i1 ∨ d = i2 := by simpa using hm
      exact hdf' (by rcases this with q | q | q | q <;> simp [q])
    · intro i h₁ h₂ ⟨hTI, c1, c2, hz⟩ hk
      have n : ∀ b, (b = z ∨ b = TI ∨ b = TO ∨ b = i1 ∨ b = i2 ∨ b = l1 ∨ b = l2) → b ≠ d := fun b hb q => hdf' (q ▸ hb)
      refine ⟨hk _ _ (n _ (by simp)) hTI, c1.at (fun o e => hk _ o (n _ (by simp)) e) (fun o e => hk _ o (n _ (by simp)) e), c2.at (fun o e => hk _ o (n _ (by simp)) e) (fun o e => hk _ o (n _ (by simp)) e), ?_⟩
      rcases hz with ⟨hz, a, b, hTO⟩ | ⟨T, f, oT, hz, hT, r1, r2, r3, r4⟩
      · exact .inl ⟨hk _ _ (n _ (by simp)) hz, a, b, hk _ _ (n _ (by simp)) hTO⟩
      · exact .inr ⟨T, f, oT, hk _ _ (n _ (by simp)) hz, hk _ _ r4 hT, r1, r2, r3, r4⟩
    · intro i s₁ Q₁ E₁ hi ⟨hTI, c1, c2, hz⟩ hds hQ
      have ex : xs[i]? = some xs[i] := Array.getElem?_eq_getElem hi
      have ey : ys[i]? = some (ys[i]'(by omega)) := Array.getElem?_eq_getElem (by omega)
      have lt : ∀ {c o}, s₁.heap.get? c = some o → s₁.heap.objs.size ≠ c := fun e => Nat.ne_of_gt (Heap.lt_size e)
      obtain ⟨o1, e1⟩ := c1.i
      obtain ⟨o2, e2⟩ := c2.i
      have out : ∀ c, c ∉ [z, TO, i1, i2] → c ≠ z ∧ c ≠ TO ∧ c ≠ i1 ∧ c ≠ i2 := fun c hc => by simpa using hc
      rcases hz with ⟨hz, a, b, hTO⟩ | ⟨T, f, oT, hz, hT, r1, r2, r3, r4⟩
      · refine nextI ⟨_, hz, rfl⟩ fun A' E' Q' q => new_item D hz hTI hTO c1 c2 ex ey fun h' a1 a3 a4 a5 hk => q _ _ ?_
        exact hQ s₁.heap.objs.size _ _ h' s₁.toks ⟨ex, ey⟩ (.inl ⟨_, a5, rfl, _, rfl⟩) ⟨hk _ _ D.TIz D.TITO D.TIi1 D.TIi2 hTI, a3, a4, .inr ⟨s₁.heap.objs.size, false, _, a1, a5, lt hz, lt e1, lt e2, Nat.ne_of_gt hds⟩⟩
          fun c o hc e => hk c o (out c hc).1 (out c hc).2.1 (out c hc).2.2.1 (out c hc).2.2.2 e
      · refine nextI ⟨_, hz, rfl⟩ fun A' E' Q' q => held_item D hz hT hTI c1 c2 ex ey fun h' a1 a3 a4 a5 hk => q _ _ ?_
        exact hQ s₁.heap.objs.size _ _ h' s₁.toks ⟨ex, ey⟩ (.inl ⟨_, a5, rfl, _, rfl⟩) ⟨hk _ _ D.TIz D.TIi1 D.TIi2 hTI, a3, a4, .inr ⟨T, true, oT, a1, hk _ _ r1 r2 r3 hT, r1, r2, r3, r4⟩⟩
          fun c o hc e => hk c o (out c hc).1 (out c hc).2.2.1 (out c hc).2.2.2 e
    · intro s₁ Q₁ E₁ ⟨hTI, c1, c2, hz⟩ hQ
      have hend : xs[xs.size]? = none := Array.getElem?_eq_none (Nat.le_refl _)
      have out : ∀ c, c ∉ [z, TO, i1, i2] → c ≠ z ∧ c ≠ TO ∧ c ≠ i1 ∧ c ≠ i2 := fun c hc => by simpa using hc
      rcases hz with ⟨hz, a, b, hTO⟩ | ⟨T, f, oT, hz, hT, r1, r2, r3, r4⟩
      · exact nextE hA ⟨_, hz, rfl⟩ fun A' Q' E' hh q => new_stop hh D hz hTI c1 hend fun h' e hk he => q _ _ he (hQ h' s₁.toks fun c o hc x => hk c o (out c hc).1 (out c hc).2.1 (out c hc).2.2.1 (out c hc).2.2.2 x)
      · exact nextE hA ⟨_, hz, rfl⟩ fun A' Q' E' hh q => held_stop (b2 := b2) (ys := ys) (k2 := 0) hh D hz hT hTI c1 hend fun h' e hk he => q _ _ he (hQ h' s₁.toks fun c o hc x => hk c o (out c hc).1 (out c hc).2.2.1 (out c hc).2.2.2 x)
end
end ZM

/-! ## HZ -/
set_option Elab.async false
set_option linter.all false
set_option maxRecDepth 100000
set_option maxHeartbeats 4000000
/-! HZ: dict(zip(xs, t)) of a list and a tuple of ints. -/
namespace ZM
open PySem
open PySem.Sem (wp)
abbrev zm1 (h : Heap) (l1 : Addr) : Heap := h.push { cls := .type "list_iterator", data := .fields #[.ref l1, .int 0 0] }
abbrev zm2 (h : Heap) (l1 l2 : Addr) : Heap := (zm1 h l1).push { cls := .type "tuple_iterator", data := .fields #[.ref l2, .int 0 0] }
abbrev zm3 (h : Heap) (l1 l2 : Addr) : Heap := (zm2 h l1 l2).push { cls := .type "tuple", data := .seq #[.ref h.objs.size, .ref (zm1 h l1).objs.size] }
abbrev zm4 (h : Heap) (l1 l2 : Addr) : Heap := (zm3 h l1 l2).push { cls := .type "tuple", data := .seq #[.none, .none] }
abbrev zm5 (h : Heap) (l1 l2 : Addr) : Heap := (zm4 h l1 l2).push { cls := .type "zip", data := .fields #[.none, .bool false, .bool false, .ref (zm2 h l1 l2).objs.size, .ref (zm3 h l1 l2).objs.size] }
theorem meets_zipM (l1 l2 : Addr) (xs ys : Array Value) :
    Meets (Builtin.«zip.__new__» ⟨[.type "zip", .ref l1, .ref l2], []⟩) (fun _ R s => s.heap.IsList l1 xs ∧ s.heap.IsTuple l2 ys ∧ R (.ok (.ret (.ref (zm4 s.heap l1 l2).objs.size))) { s with heap := zm5 s.heap l1 l2 }) :=
  .of_wp fun prog w A R s h => by
    obtain ⟨hp, g, d, tk, os⟩ := s
    obtain ⟨hl1, hl2, h⟩ := h
    have hsub := sub_zip
    have hL1 : Heap.IsList (Shared.heap ⟨hp, g, d, tk, os⟩) l1 xs := hl1
    have hL2 : Heap.IsTuple (Shared.heap ⟨hp.push { cls := .type "list_iterator", data := .fields #[.ref l1, .int 0 0] }, g, d, tk, os⟩) l2 ys := Heap.IsTuple.push hl2 _
    wp_walk using wpAny_pyIter_list hL1, wpAny_pyIter_tuple hL2
    exact ⟨_, rfl, h⟩
section
variable {prog : Program} {w : World} {A : Around} {E : Value → Shared → Prop} {s : Shared}
theorem call_zipM {l1 l2 : Addr} {xs ys : Array Value} {Q : Value → Shared → Prop} (hl1 : s.heap.IsList l1 xs) (hl2 : s.heap.IsTuple l2 ys)
    (h : ∀ h', IsZip h' (s.heap.objs.size + 4) (s.heap.objs.size + 2) (s.heap.objs.size + 3) .none → IsPair h' (s.heap.objs.size + 2) (.ref s.heap.objs.size) (.ref (s.heap.objs.size + 1)) →
      (∃ a b, IsPair h' (s.heap.objs.size + 3) a b) → ItAt true h' s.heap.objs.size l1 0 xs → ItAt false h' (s.heap.objs.size + 1) l2 0 ys → s.heap.objs.size ≤ h'.objs.size →
      (∀ c o, s.heap.get? c = some o → h'.get? c = some o) → Q (.ref (s.heap.objs.size + 4)) { s with heap := h' }) :
    wpAny (model prog w) A (call (.type "zip") [.ref l1, .ref l2]) Q E s := by
  refine callType_new F.called_zip (by decide) (F.typeCall_zip_2 _ _) (F.newCall_zip_2 _ _) (fun obj => F.args_object_init_3 obj _ _) F.entry_zip_new (meets_zipM l1 l2 xs ys) ⟨hl1, hl2, ?_⟩
  have up1 : ∀ c o, s.heap.get? c = some o → (zm1 s.heap l1).get? c = some o := fun c o e => Heap.get?_push_of_some _ e
  have up2 : ∀ c o, (zm1 s.heap l1).get? c = some o → (zm2 s.heap l1 l2).get? c = some o := fun c o e => Heap.get?_push_of_some _ e
  have up3 : ∀ c o, (zm2 s.heap l1 l2).get? c = some o → (zm3 s.heap l1 l2).get? c = some o := fun c o e => Heap.get?_push_of_some _ e
  have up4 : ∀ c o, (zm3 s.heap l1 l2).get? c = some o → (zm4 s.heap l1 l2).get? c = some o := fun c o e => Heap.get?_push_of_some _ e
  have up5 : ∀ c o, (zm4 s.heap l1 l2).get? c = some o → (zm5 s.heap l1 l2).get? c = some o := fun c o e => Heap.get?_push_of_some _ e
  have z1 : (zm1 s.heap l1).objs.size = s.heap.objs.size + 1 := Heap.size_push ..
  have z2 : (zm2 s.heap l1 l2).objs.size = s.heap.objs.size + 2 := by rw [Heap.size_push, z1]
  have z3 : (zm3 s.heap l1 l2).objs.size = s.heap.objs.size + 3 := by rw [Heap.size_push, z2]
  have z4 : (zm4 s.heap l1 l2).objs.size = s.heap.objs.size + 4 := by rw [Heap.size_push, z3]
  have z5 : (zm5 s.heap l1 l2).objs.size = s.heap.objs.size + 5 := by rw [Heap.size_push, z4]
  have g1 : (zm5 s.heap l1 l2).get? s.heap.objs.size = some _ := up5 _ _ (up4 _ _ (up3 _ _ (up2 _ _ (Heap.get?_push_size _ rfl))))
  have g2 : (zm5 s.heap l1 l2).get? (zm1 s.heap l1).objs.size = some _ := up5 _ _ (up4 _ _ (up3 _ _ (Heap.get?_push_size _ rfl)))
  have g3 : (zm5 s.heap l1 l2).get? (zm2 s.heap l1 l2).objs.size = some _ := up5 _ _ (up4 _ _ (Heap.get?_push_size _ rfl))
  have g4 : (zm5 s.heap l1 l2).get? (zm3 s.heap l1 l2).objs.size = some _ := up5 _ _ (Heap.get?_push_size _ rfl)
  have g5 : (zm5 s.heap l1 l2).get? (zm4 s.heap l1 l2).objs.size = some _ := Heap.get?_push_size _ rfl
  have up : ∀ c o, s.heap.get? c = some o → (zm5 s.heap l1 l2).get? c = some o := fun c o e => up5 _ _ (up4 _ _ (up3 _ _ (up2 _ _ (up1 _ _ e))))
  show _ ∧ _
  rw [z1] at g2
  rw [z1, z2] at g3
  rw [z3] at g4
  rw [z2, z3, z4] at g5
  rw [z4]
  exact ⟨⟨_, g5, rfl⟩, h _ g5 g3 ⟨_, _, g4⟩ ⟨⟨_, g1, rfl, rfl⟩, hl1.at fun o e => up _ o e⟩ ⟨⟨_, g2, rfl, rfl⟩, hl2.at fun o e => up _ o e⟩ (by rw [z5]; omega) up⟩
end
end ZM
namespace L2
open PySem PySem.Spec PyProof.Rows Rb
def tDictZip (ta : TA) : TE := fun σ H Q => ta σ H fun us H1 => ∃ (a b : Addr) (ks vs : List Nat), us = [.ref a, .ref b] ∧ H1 a = some (.lst (ks.map nI)) ∧ H1 b = some (.tup (vs.map nI)) ∧ ks.Nodup ∧ ks.length = vs.length ∧ ks.length ≤ 1000 ∧
  ∀ p, H1 p = none → Q (.ref p) (upd H1 p (.dK (fillK (ks.zip vs))))
theorem merge_fill : ∀ (more s : Dx.Fill), (s.map (·.1) ++ more.map (·.1)).Nodup → mergeK (fillK s) (fillK more) = fillK (s ++ more)
  | [], s, _ => by rw [List.append_nil]; rfl
  | (v, a) :: more, s, nd => by
    have h1 : Dx.Fill.at_ s v = none := at_none_iff.mpr fun m => by
      have := (List.nodup_append.mp nd).2.2 v m v (by simp)
      exact this rfl
    have h2 : mergeK (fillK s) (fillK ((v, a) :: more)) = mergeK (putK (fillK s) (vk v) (nI a)) (fillK more) := rfl
    rw [h2, fillK_put h1, merge_fill more (s ++ [(v, a)]) (by simpa using nd)]
    simp
theorem kv_zip : ∀ {ks vs : List Nat} {us ys : List Value}, Vals (ks.map nI) us → Vals (vs.map nI) ys → ks.length = vs.length → KV (fillK (ks.zip vs)) ((ks.map vk).zip ys)
  | [], [], _, _, _, _, _ => .nil
  | k :: ks, v :: vs, us, ys, r1, r2, h => by
    cases r1 with
    | cons a1 t1 =>
      cases r2 with
      | cons a2 t2 => exact .cons ⟨rfl, a2⟩ (kv_zip t1 t2 (by simpa using h))
  | [], _ :: _, _, _, _, _, h => by simp at h
  | _ :: _, [], _, _, _, _, h => by simp at h
section
variable {X : Cx}
theorem pe_dictzip {e1 e2 : Expr} {p1 p2 pos pos2 : Pos} {ta : TA} (hc : X.calm = true) (g1 : Gl X "dict") (m1 : X.mg "dict" = none) (g2 : Gl X "zip") (m2 : X.mg "zip" = none) (ha : PA X [e1, e2] ta)
    (hs : starEach [e1, e2] X.env = (false, eval e1 X.env) :: starEach [e2] X.env := by rfl) (hpl : (backTo pos2 (starEach [e2] X.env)).any (·.1) = false := by rfl)
    (hs1 : starEach [.Call (.Name "zip" p2) [e1, e2] [] pos2] X.env = (false, eval (.Call (.Name "zip" p2) [e1, e2] [] pos2) X.env) :: starEach [] X.env := by rfl) :
    PE X (.Call (.Name "dict" p1) [.Call (.Name "zip" p2) [e1, e2] [] pos2] [] pos) (tDictZip ta) := by
  refine ⟨fun pins s σ H Q I h => ?_⟩
  refine wpAny_Call_Name_kw (ld_blt I g1 m1 PyProof.Rows.boot_dict ?_)
  refine PyProof.Rows.callWith_type1 ?_ hs1 rfl
  rw [hs1]
  show wpAny _ _ (spliced ((false, eval (.Call (.Name "zip" p2) [e1, e2] [] pos2) X.env) :: backTo pos (starEach [] X.env))) _ _ s
  refine Calls.spliced_cons ?_
  refine PyProof.Rows.Call_ (ld_blt I g2 m2 PyProof.Rows.boot_zip (PyProof.Rows.callWith_type1 (thn (ha.run pos2 pins s σ H _ I h) fun us s1 ⟨vs, H1, I1, r1, q1⟩ => ?_) hs hpl))
  obtain ⟨a, b, ks, vals, ex, ea, eb, nd, hlen, hle, q⟩ := q1
  subst ex
  cases r1 with
  | cons ra rr =>
    cases rr with
    | cons rb rr =>
      cases rr
      cases ra
      cases rb
      obtain ⟨its, rv, pl, _⟩ := I1.list (SqL.of ea)
      obtain ⟨its2, rv2, p2', _⟩ := I1.tuple (SqT.of eb)
      have la : a < s1.heap.objs.size := pl.lt
      have lb : b < s1.heap.objs.size := by obtain ⟨o, e, _⟩ := p2'; exact Heap.lt_size e
      have l1 : its.length = ks.length := by rw [← rv.length, List.length_map]
      have l2 : its2.length = ks.length := by rw [← rv2.length, List.length_map, hlen]
      refine ZM.call_zipM pl.isList p2' fun h' hz hTI hTO c1 c2 hsz hk => Calls.spliced_nil ?_
      refine PySem.call_dict_pairs (knd := mixKind X.prog X.w) (kvs := (ks.map vk).zip its2) (s := { s1 with heap := h' }) (ZM.PairArg.zipM true false _ _ _ _ _ a b (PySem.W.ktu_apart s1.heap.objs.size a b la lb) its.toArray its2.toArray (by simp [l1, l2])) (I1.ok.hd hc) ⟨hz, hTI, hTO, c1, c2⟩ ⟨by simp [l1, l2], fun i key v hr => ?_⟩ (by simp [l1]; rw [sizeLine_eq]; omega) fun h2 tk hd hk2 => ?_
      · obtain ⟨x1, x2⟩ := hr
        have x1' : its[i]? = some key := by simpa using x1
        have x2' : its2[i]? = some v := by simpa using x2
        have hi : i < ks.length := by rw [← l1]; exact (List.getElem?_eq_some_iff.mp x1').1
        have e3 : (ks.map nI)[i]? = some (nI ks[i]) := by rw [List.getElem?_map, List.getElem?_eq_getElem hi]; rfl
        obtain ⟨u, e4, e5⟩ := rv.get e3
        rw [x1'] at e4
        cases e4
        refine ⟨vk ks[i], List.getElem?_zip_eq_some.mpr ⟨by rw [List.getElem?_map, List.getElem?_eq_getElem hi]; rfl, x2'⟩, kV_is (k := vk ks[i]) e5⟩
      · have kk : ∀ c o, s1.heap.get? c = some o → h2.get? c = some o := fun c o e => hk2 c o (fun m => by
          have hlt := Heap.lt_size e
          have : c = s1.heap.objs.size + 4 ∨ c = s1.heap.objs.size + 3 ∨ c = s1.heap.objs.size ∨ c = s1.heap.objs.size + 1 := by simpa using m
          have h0 : ∀ n : Nat, ¬ (s1.heap.objs.size + n : Nat) < s1.heap.objs.size := fun n => by omega
          rcases this with z | z | z | z
          · subst z; exact h0 4 hlt
          · subst z; exact h0 3 hlt
          · subst z; exact h0 0 hlt
          · subst z; exact h0 1 hlt) (hk c o e)
        have em : mergeK [] (fillK (ks.zip vals)) = fillK (ks.zip vals) := merge_fill (ks.zip vals) [] (by
          rw [List.map_nil, List.nil_append, List.map_fst_zip (by omega)]; exact nd)
        have hm : (h'.objs.size == sysModules) = false := beq_eq_false_iff_ne.mpr (Nat.ne_of_gt (Nat.lt_of_lt_of_le I1.big hsz))
        have hkv := KV.merge (kv_zip rv rv2 hlen) (kvs := []) (vs := []) .nil
        rw [em] at hkv
        have hlen2 : (fillK (ks.zip vals)).length ≤ sizeLine := by rw [fillK_len, List.length_zip, sizeLine_eq]; omega
        exact ⟨.ref h'.objs.size, upd H1 h'.objs.size (.dK (fillK (ks.zip vals))), I1.laid (t' := tk) kk hsz (show ObjOk X.prog X.w _ _ _ (.dK (fillK (ks.zip vals))) from ⟨hlen2, hm, merged [] ((ks.map vk).zip its2), hkv, hd⟩), rfl, q _ (I1.hok.fresh hsz)⟩
end
end L2

/-! ## W4 -/
set_option Elab.async false
set_option linter.all false
set_option maxRecDepth 100000
set_option maxHeartbeats 4000000
/-! W4: Watch.first_failing. -/
namespace Rb
open PySem PySem.Spec PyProof.Rows L2
open Dx (Fact Facts Atom Fill)
def nWFirst : List Str := ["self", "facts", "ordered", "matched", "shared", "values", "key"]
theorem scWFirst : FnScope nWFirst ["self", "facts"] (defScope sWFirst) := ⟨rfl, rfl, rfl, by decide +kernel, rfl, by decide +kernel, by decide +kernel⟩
/-- what is asked of a watch whose first failing match is sought; l: the facts in order -/
def spWFirst (P : Program) (w : World) (C CR CF : Addr) : Sp := fun vs H Q _ => ∃ (a ba : Addr) (r : Dx.Rule) (W : Wt) (sd wd : Addr) (S l : List Fact) (OS : List Addr), vs = [.ref a, .ref ba] ∧ WatchAt C CR H a r W sd wd ∧ FactsAt P w CF H ba S OS ∧ sd ∉ OS ∧ wd ∉ OS ∧
  WInv r S (fun _ => True) W ∧ Sorted l ∧ (∀ f, f ∈ S ↔ f ∈ l) ∧ S.length ≤ 1000 ∧ (shared r).length ≤ 100 ∧ r.head.length ≤ 2 ∧ wsize W < 16000000 ∧
  (∀ (H' : Hp) (W' : Wt), findR l r = none → WatchAt C CR H' a r W' sd wd → WInv r S (fun _ => True) W' → wsize W' ≤ wsize W → Fr [sd, wd] H H' → Q .non H') ∧
  (∀ (H' : Hp) (W' : Wt) (s : Fill) (m : List Fact) (k : List Nat) (p : Addr), findR l r = some s → runm [] r.body m = some s → keyOf r s = k → WatchAt C CR H' a r W' sd wd → WInv r S (fun _ => True) W' → wsize W' ≤ wsize W → Fr [sd, wd] H H' → H p = none → H' p = some (.dK (fillK (fillOf r k))) → Q (.ref p) H')
theorem fldK {X : Cx} {K : PySem.W.Frag} {o : Expr} {f : Str} {pos : Pos} {ta : TE} (h : X.K = K) (ho : PE X o ta) (hb : attributeBase o f X.env (eval o X.env) = eval o X.env) : PE X (.Attribute o f pos) (tFld K ta f) := h ▸ pe_fld ho hb
/-- what is no dict of tuples stands when such dicts change -/
theorem Fr.keeps {Ds : List Addr} {H H' : Hp} (f : Fr Ds H H') (hd : ∀ b ∈ Ds, ∃ kvs, H b = some (.dT kvs)) {b : Addr} {o : HO} (e : H b = some o) (n : ∀ kvs, o ≠ .dT kvs) : H' b = some o := f b o e fun m => by
  obtain ⟨kvs, e2⟩ := hd b m
  rw [e] at e2
  exact n kvs (Option.some.inj e2)
theorem FactsAt.frs {P : Program} {w : World} {C : Addr} {H H' : Hp} {a : Addr} {S : List Fact} {O Ds : List Addr} (h : FactsAt P w C H a S O) (f : Fr Ds H H') (hd : ∀ b ∈ Ds, ∃ kvs, H b = some (.dT kvs)) (n : ∀ b ∈ Ds, b ∉ O) : FactsAt P w C H' a S O := by
  obtain ⟨dx, h, lk, es, hO, ha, hh, hlk, L⟩ := h
  refine ⟨dx, h, lk, es, hO, f.keeps hd ha (fun _ z => nomatch z), f _ _ hh (fun m => n _ m (by rw [hO]; simp)), f.keeps hd hlk (fun _ z => nomatch z), L.keep (fun b xs e => f.keeps hd e (fun _ z => nomatch z)) fun e he => ?_⟩
  obtain ⟨qs, h1, _⟩ := L.val e he
  rw [h1]; exact f.keeps hd h1 (fun _ z => nomatch z)
theorem AtomsAt.frs {H H' : Hp} {l : Addr} {as : List Atom} {Ds : List Addr} (h : AtomsAt H l as) (f : Fr Ds H H') (hd : ∀ b ∈ Ds, ∃ kvs, H b = some (.dT kvs)) : AtomsAt H' l as := by
  obtain ⟨qs, h1, h2⟩ := h
  exact ⟨qs, f.keeps hd h1 (fun _ z => nomatch z), Paired.mapP h2 fun _ _ z => f.keeps hd z (fun _ z => nomatch z)⟩
theorem RuleAt.frs {C : Addr} {H H' : Hp} {a : Addr} {r : Dx.Rule} {Ds : List Addr} (h : RuleAt C H a r) (f : Fr Ds H H') (hd : ∀ b ∈ Ds, ∃ kvs, H b = some (.dT kvs)) : RuleAt C H' a r := by
  obtain ⟨dx, lb, lh, ls, le, h1, h2, h3, h4, h5⟩ := h
  exact ⟨dx, lb, lh, ls, le, f.keeps hd h1 (fun _ z => nomatch z), h2.frs f hd, h3.frs f hd, f.keeps hd h4 (fun _ z => nomatch z), f.keeps hd h5 (fun _ z => nomatch z)⟩
theorem WatchAt.set {C CR : Addr} {H H' : Hp} {a : Addr} {r : Dx.Rule} {W W' : Wt} {sd wd : Addr} (h : WatchAt C CR H a r W sd wd) (f : Fr [sd, wd] H H') {kvs' : List (List L2.Key × V)} (hs : H' sd = some (.dT (setK W'.settled))) (hw : H' wd = some (.dT kvs')) (hp : Paired (WRel H') kvs' W'.waiting) : WatchAt C CR H' a r W' sd wd := by
  obtain ⟨dx, ra, kvs, h1, h2, h3, h4, h5, h6⟩ := h
  have hd : ∀ b ∈ [sd, wd], ∃ kvs, H b = some (.dT kvs) := fun b hb => by
    have : b = sd ∨ b = wd := by simpa using hb
    rcases this with rfl | rfl
    · exact ⟨_, h3⟩
    · exact ⟨_, h4⟩
  exact ⟨dx, ra, kvs', f.keeps hd h1 (fun _ z => nomatch z), h2.frs f hd, hs, hw, hp, h6⟩
theorem WRel.kept {H H' : Hp} (k : ∀ b xs, H b = some (.tup xs) → H' b = some (.tup xs)) {kvs : List (List L2.Key × V)} {ws : List (List Nat × List Fact)} (h : Paired (WRel H) kvs ws) : Paired (WRel H') kvs ws :=
  Paired.mapP h fun _ _ ⟨e1, tm, e2, e3⟩ => ⟨e1, tm, e2, e3.kept k⟩
theorem mem_settles : ∀ (pre : List (List Nat × List Fact)) (W : Wt) (p : List Nat × List Fact), p ∈ W.waiting → p.1 ∉ pre.map (·.1) → p ∈ (pre.foldl settle W).waiting
  | [], _, _, h, _ => h
  | q :: pre, W, p, h, n => by
    refine mem_settles pre (settle W q) p (mem_dropA.mpr ⟨fun e => n (by simp [e]), h⟩) fun z => n ?_
    rw [List.map_cons]
    exact List.mem_cons_of_mem _ z
theorem nodup_settles : ∀ (pre : List (List Nat × List Fact)) (W : Wt), (W.waiting.map (·.1)).Nodup → ((pre.foldl settle W).waiting.map (·.1)).Nodup
  | [], _, h => h
  | q :: pre, W, h => nodup_settles pre (settle W q) (nodup_dropA h q.1)
/-- an item of the list that is sorted -/
def ItemAt (H : Hp) (b : Addr × (List Nat × List Fact)) : Prop := ∃ tm q, H b.1 = some (.tup [.ref tm, .ref q]) ∧ TupsAt H tm b.2.2 ∧ H q = some (.tup (b.2.1.map nI))
theorem ItemAt.kept {H H' : Hp} {b : Addr × (List Nat × List Fact)} (h : ItemAt H b) (k : ∀ b xs, H b = some (.tup xs) → H' b = some (.tup xs)) : ItemAt H' b := by
  obtain ⟨tm, q, h1, h2, h3⟩ := h
  exact ⟨tm, q, k _ _ h1, h2.kept k, k _ _ h3⟩
theorem ItemAt.dp {K : PySem.W.Frag} {H : Hp} {b : Addr × (List Nat × List Fact)} (h : ItemAt H b) : Dp K H (.ref b.1) (waitD b.2) := by
  obtain ⟨tm, q, h1, h2, h3⟩ := h
  exact .tup (SqT.of h1) (.cons h2.dp (.cons (natsAt_dp h3) .nil))
theorem zip_fst : ∀ {ks vs : List Nat}, ks.length = vs.length → (ks.zip vs).map (·.1) = ks := fun h => List.map_fst_zip (by omega)
section
variable {P : Program} {w : World} {K : PySem.W.Frag} {mg : Str → Option Value} {base : Heap} {C CR CF : Addr}
theorem ok_wfirst {f : Addr} {fd : FuncData} (F : Fun K "first_failing" "Watch.first_failing" sWFirst f fd) (T : WTxt K mg C) (TR : RTxt K mg CR) (GC : FnB P w K mg base CX0 "can_match" ["facts", "atoms", "values"] 4 (spCan P w CF 2)) :
    FnOk P w K mg base CX0 5 f fd ["self", "facts"] (spWFirst P w C CR CF) := by
  refine F.ok scWFirst (fun vs H Q E h => ?_) (fun cdv A outer s H vs Q E hr h => ?_)
  · obtain ⟨a, ba, r, W, sd, wd, S, l, OS, rfl, _⟩ := h
    rfl
  · have nd : nWFirst.Nodup := scWFirst.nd
    have hu := hu_of hr
    refine ⟨_, pss_cons (ps_set (i := 2) nd rfl (Or.inl rfl) (pe_callB (cr_sortedDat (room64 hr)) (by rfl) T.b.sorted (by decide +kernel) (pa_cons (pe_lock
        (pe_lc (own := [("key", 6)]) (g := gName 6) rfl nd (pi_keys (pe_fld (pv 0) rfl)) (blkOk_by (own := [("key", 6)]) (N := nWFirst) (sc := defScope sWFirst) (by decide +kernel)) (fun _ _ _ _ _ => pg_name (i := 6) nd rfl (Or.inl rfl))
          (fun _ _ _ _ _ => pts_nil) (fun _ _ _ _ _ => pe_tup (pa_cons (pe_dget hu (fldK (K := K) rfl (pv 0) rfl) (pv 6) (fun _ _ => rfl)) (pa_cons (pv 6) pa_nil))))) pa_nil)))
      (pss_cons (ps_for PassesOwn.never rfl (pi_list (pv 2)) (pg_tup rfl (pgs_cons (pg_name (i := 3) nd rfl (Or.inl rfl)) (pgs_cons (pg_name (i := 4) nd rfl (Or.inl rfl)) pgs_nil)))
        (pss_cons (ps_set (i := 5) nd rfl (Or.inl rfl) (pe_dictzip rfl (by rfl) T.b.dict (by rfl) T.b.zip (pa_cons (pe_fld (pe_fld (pv 0) rfl) rfl) (pa_cons (pv 4) pa_nil))))
        (pss_cons (ps_if (pt_not (pt_truth (pe_callF GC hr pass0 (pa_cons (pv 1) (pa_cons (pe_fld (pe_fld (pv 0) rfl) rfl) (pa_cons (pv 5) pa_nil)))) (fun _ => rfl))) (pss_one (ps_ret (pv 5))) pss_nil)
        (pss_cons (ps_dput hu (pe_fld (pv 0) rfl) (pv 4) pe_bl rfl)
        (pss_one (ps_expr (pe_popT1 hu (pe_fld (pv 0) rfl) (pv 4) ⟨rfl, rfl, rfl, rfl⟩)))))))
      (pss_one (ps_ret pe_non))), ?_⟩
    obtain ⟨a, ba, r, W, sd, wd, S, l, OS, rfl, hW, hF, nsd, nwd, hI, hl, hSl, lS, lsh, lhd, lW, kn, ks⟩ := h
    have hW0 := hW
    obtain ⟨dx, ra, kvs, h1, ⟨dr, lb, lh, ls, le, r1, r2, r3, r4, r5⟩, h3, h4, h5, h6⟩ := hW0
    have hvals : ∀ p ∈ W.waiting, p.2.length = r.body.length ∧ p.1.length = (shared r).length := fun p hp => by
      obtain ⟨_, s, hr2, e⟩ := hI.val p.1 p.2 hp
      exact ⟨runm_len hr2, by rw [← e, length_keyOf]⟩
    have nwa : a ≠ wd := ne_of h1 h4 (fun z => nomatch z)
    refine ⟨wd, .dT kvs, h4, True.intro, fun od => ?_⟩
    have hLk : upd H wd (.frz od (.dT kvs)) wd = some (.frz od (.dT kvs)) := upd_same
    have kL : ∀ b o, H b = some o → b ≠ wd → upd H wd (.frz od (.dT kvs)) b = some o := fun b o e n => by rw [upd_ne n]; exact e
    have fL : ∀ b o, upd H wd (.frz od (.dT kvs)) b = some o → b ≠ wd → H b = some o := fun b o e n => by rw [upd_ne n] at e; exact e
    generalize upd H wd (.frz od (.dT kvs)) = HL at hLk kL fL ⊢
    refine ⟨_, rfl, a, C, dx, _, _, rfl, kL _ _ h1 nwa, T.cl, T.nA, wF_waiting ra sd wd, wd, od, rfl, .inr ⟨kvs, hLk, fun D hD => lc_it walk_keysT (fun i H' => Same HL H' ∧ ∃ bs : List (Addr × (List Nat × List Fact)), H' D = some (.lst (bs.map fun b => V.ref b.1)) ∧ bs.map (·.2) = W.waiting.take i ∧ ∀ b ∈ bs, ItemAt H' b) ?_ (fun i H' _ ⟨q, _⟩ => q _ _ hLk) ?_ ?_⟩⟩
    · exact ⟨same_upd (Same.refl _) hD, [], upd_same, by simp, by simp⟩
    · rintro i x H2 H2' hi ⟨s2, bs, q1, q2, q3⟩ ⟨rfl, kk, v, q, hkv, rfl, hq⟩
      obtain ⟨p, hp, e1, tm, e2, e3⟩ := paired_get h5 hkv
      dsimp only at e1
      subst e1
      have nwd2 : ∀ b xs, H b = some (.tup xs) → H2' b = some (.tup xs) := fun b xs e => s2 _ _ (kL _ _ e (ne_of e h4 (fun z => nomatch z)))
      rcases wrel_get h5 p.1 with ⟨z, _⟩ | ⟨m, tm', z1, z2, z3⟩
      · rw [getA_of hI.nd (show (p.1, p.2) ∈ W.waiting from List.mem_of_getElem? hp)] at z; cases z
      · have em : p.2 = m := by
          rw [getA_of hI.nd (show (p.1, p.2) ∈ W.waiting from List.mem_of_getElem? hp)] at z1
          exact Option.some.inj z1
        subst em
        have il : i < W.waiting.length := (List.getElem?_eq_some_iff.mp hp).1
        refine ⟨rfl, ?_⟩
        refine yesI ?_
        rw [if_pos rfl]
        refine ⟨_, rfl, a, C, dx, _, _, rfl, s2 _ _ (kL _ _ h1 nwa), T.cl, T.nA, wF_waiting ra sd wd, _, rfl, wd, _, rfl, .inr ⟨kvs, natsK p.1, q, .inr ⟨od, s2 _ _ hLk⟩, rfl, hq, z2.symm⟩, _, rfl, by show 2 ≤ sizeLine; decide, fun t ht => ?_⟩
        have s3 : Same H2' (upd H2' t (.tup [.ref tm', .ref q])) := same_upd (Same.refl _) ht
        have newi : ItemAt (upd H2' t (.tup [.ref tm', .ref q])) (t, p) := ⟨tm', q, upd_same, (z3.kept nwd2).kept fun _ _ e => s3 _ _ e, s3 _ _ (by rw [← natsK_V]; exact hq)⟩
        have q1' := s3 _ _ q1
        refine ⟨_, q1', ?_, fun b o e => ?_, bs ++ [(t, p)], ?_, ?_, fun b hb => ?_⟩
        · have := congrArg List.length q2
          rw [List.length_map, List.length_take] at this
          rw [List.length_map, sizeLine_eq]
          unfold wsize at lW
          omega
        · rw [upd_ne (ne_of_none e hD)]; exact s3 _ _ (s2 _ _ e)
        · rw [upd_same, List.map_append]; rfl
        · rw [List.map_append, q2, take_succ' hp]; rfl
        · have kt : ∀ b xs, upd H2' t (.tup [.ref tm', .ref q]) b = some (.tup xs) → upd (upd H2' t (.tup [.ref tm', .ref q])) D (.lst ((bs.map fun b => V.ref b.1) ++ [.ref t])) b = some (.tup xs) := fun b xs e => by
            rw [upd_ne (ne_of e q1' (fun z => nomatch z))]; exact e
          rcases List.mem_append.mp hb with hb | hb
          · exact ((q3 b hb).kept fun _ _ e => s3 _ _ e).kept kt
          · have : b = (t, p) := by simpa using hb
            subst this
            exact newi.kept kt
    · rintro H2 ⟨s2, bs, q1, q2, q3⟩
      have lkk : kvs.length = W.waiting.length := Paired.length h5
      have et : W.waiting.take kvs.length = W.waiting := List.take_of_length_le (by omega)
      rw [et] at q2
      refine ⟨s2 _ _ hLk, ?_⟩
      have s3 : Same H (upd H2 wd (.dT kvs)) := fun b o e => by
        by_cases n : b = wd
        · subst n; rw [upd_same]; rw [h4] at e; exact e
        · rw [upd_ne n]; exact s2 _ _ (kL _ _ e n)
      have nDw : D ≠ wd := (ne_of_none hLk hD).symm
      have hD3 : upd H2 wd (.dT kvs) D = some (.lst (bs.map fun b => V.ref b.1)) := by rw [upd_ne nDw]; exact q1
      have it3 : ∀ b ∈ bs, ItemAt (upd H2 wd (.dT kvs)) b := fun b hb => (q3 b hb).kept fun c xs e => by
        rw [upd_ne (ne_of e (s2 _ _ hLk) (fun z => nomatch z))]; exact e
      generalize upd H2 wd (.dT kvs) = H3 at s3 hD3 it3 ⊢
      have hbw : ∀ b ∈ bs, b.2 ∈ W.waiting := fun b hb => by rw [← q2]; exact List.mem_map.mpr ⟨b, hb, rfl⟩
      refine ⟨D, _, bs, fun b => waitD b.2, rfl, SqL.of hD3, fun b hb => (it3 b hb).dp, ?_, ?_, fun b hb => waitD_depth _, fun p hp => ?_⟩
      · intro d hd d' hd'
        obtain ⟨b, hb, rfl⟩ := List.mem_map.mp hd
        obtain ⟨b', hb', rfl⟩ := List.mem_map.mp hd'
        exact waitD_alike (by rw [(hvals _ (hbw b hb)).1, (hvals _ (hbw b' hb')).1])
      · left
        intro d hd
        obtain ⟨b, hb, rfl⟩ := List.mem_map.mp hd
        exact ⟨_, _, rfl⟩
      · have s4 : Same H (upd H3 p (.lst ((bs.mergeSort (PySem.W.dataLe false fun b => waitD b.2)).map fun b => V.ref b.1))) := fun b o e => (same_upd (Same.refl H3) hp) b o (s3 b o e)
        have hp4 : upd H3 p (.lst ((bs.mergeSort (PySem.W.dataLe false fun b => waitD b.2)).map fun b => V.ref b.1)) p = some (.lst ((bs.mergeSort (PySem.W.dataLe false fun b => waitD b.2)).map fun b => V.ref b.1)) := upd_same
        have perm := List.mergeSort_perm bs (PySem.W.dataLe false fun b => waitD b.2)
        have srt := wait_sorted (fun b : Addr × (List Nat × List Fact) => b.2) bs r.body.length fun b hb => (hvals _ (hbw b hb)).1
        have it4 : ∀ b ∈ bs.mergeSort (PySem.W.dataLe false fun b => waitD b.2), ItemAt (upd H3 p (.lst ((bs.mergeSort (PySem.W.dataLe false fun b => waitD b.2)).map fun b => V.ref b.1))) b := fun b hb => (it3 b (perm.mem_iff.mp hb)).kept fun c xs e => (same_upd (Same.refl H3) hp) _ _ e
        generalize upd H3 p (.lst ((bs.mergeSort (PySem.W.dataLe false fun b => waitD b.2)).map fun b => V.ref b.1)) = H4 at s4 hp4 it4 ⊢
        generalize eL : bs.mergeSort (PySem.W.dataLe false fun b => waitD b.2) = L at perm srt it4 hp4
        have permO : (L.map (·.2)).Perm W.waiting := by rw [← q2]; exact perm.map _
        have ndO : ((L.map (·.2)).map (·.1)).Nodup := (permO.map _).nodup_iff.mpr hI.nd
        have d4 : ∀ b ∈ [sd, wd], ∃ kvs, H4 b = some (.dT kvs) := fun b hb => by
          have : b = sd ∨ b = wd := by simpa using hb
          rcases this with rfl | rfl
          · exact ⟨_, s4 _ _ h3⟩
          · exact ⟨_, s4 _ _ h4⟩
        have hW4 := hW.same s4
        have hF4 := hF.same s4
        refine ⟨_, rfl, p, rfl, ⟨_, SqL.of hp4⟩, for_list (K := K) (a := p) (xs := L.map fun b => V.ref b.1) (fun i σ H' => ∃ v3 v4 v5 v6, σ = [some (.ref a), some (.ref ba), some (.ref p), v3, v4, v5, v6] ∧ Fr [sd, wd] H4 H' ∧
            WatchAt C CR H' a r (((L.map (·.2)).take i).foldl settle W) sd wd ∧ ∀ q ∈ (L.map (·.2)).take i, fails S r q.1 = false)
          ⟨_, _, _, _, rfl, Fr.refl _ _, by rw [List.take_zero]; exact hW4, by simp⟩ (fun i σ H' _ ⟨_, _, _, _, _, f, _⟩ => SqL.of (f.keeps d4 hp4 (fun _ z => nomatch z))) ?_ ?_⟩
        · rintro i x σ H5 hi ⟨v3, v4, v5, v6, rfl, f5, hW5, nf5⟩
          obtain ⟨b, hb, rfl⟩ := map_get hi
          have hbm := List.mem_of_getElem? hb
          have hord : (L.map (·.2))[i]? = some b.2 := by rw [List.getElem?_map, hb]; rfl
          have hbW : b.2 ∈ W.waiting := permO.mem_iff.mp (List.mem_of_getElem? hord)
          obtain ⟨tm, q, i1, i2, i3⟩ := (it4 b hbm).kept fun c xs e => f5.keeps d4 e (fun _ z => nomatch z)
          refine ⟨b.1, _, rfl, SqT.of i1, rfl, _, _, rfl, _, _, rfl, rfl, ?_⟩
          have g1 := f5.keeps d4 (s4 _ _ h1) (fun _ z => nomatch z)
          have g2 := f5.keeps d4 (s4 _ _ r1) (fun _ z => nomatch z)
          have g3 := f5.keeps d4 (s4 _ _ r4) (fun _ z => nomatch z)
          have g4 := (r3.same s4).frs f5 d4
          have gF := hF4.frs f5 d4 fun c hc => by
            have : c = sd ∨ c = wd := by simpa using hc
            rcases this with rfl | rfl <;> assumption
          have hkl := (hvals _ hbW).2
          refine ⟨_, rfl, a, C, dx, _, _, rfl, g1, T.cl, T.nW, wF_watched ra sd wd, ra, CR, dr, _, _, rfl, g2, TR.cl, TR.nS, rF_shared lb lh ls le, _, rfl, ls, q, shared r, b.2.1, rfl, g3, i3, nodup_shared r, hkl.symm, by omega, fun dv hdv => ?_⟩
          have s6 : Same H5 (upd H5 dv (.dK (fillK ((shared r).zip b.2.1)))) := same_upd (Same.refl _) hdv
          have hdv6 : upd H5 dv (.dK (fillK ((shared r).zip b.2.1))) dv = some (.dK (fillK (fillOf r b.2.1))) := upd_same
          generalize upd H5 dv (.dK (fillK ((shared r).zip b.2.1))) = H6 at s6 hdv6 ⊢
          refine ⟨_, rfl, _, rfl, a, C, dx, _, _, rfl, s6 _ _ g1, T.cl, T.nW, wF_watched ra sd wd, ra, CR, dr, _, _, rfl, s6 _ _ g2, TR.cl, TR.nH, rF_head lb lh ls le, _, rfl, ?_⟩
          refine ⟨ba, lh, dv, S, OS, r.head, fillOf r b.2.1, rfl, gF.same s6, g4.same s6, hdv6, lhd, by unfold fillOf; rw [zip_fst hkl.symm]; exact nodup_shared r, ?_, by omega, fun H7 s7 => ?_⟩
          · unfold fillOf
            rw [List.length_zip]
            omega
          · have s57 : Same H5 H7 := s6.trans s7
            have f7 : Fr [sd, wd] H4 H7 := f5.trans (Fr.of_same s57)
            have hW7 := hW5.same s57
            have pre : (L.map (·.2)) = (L.map (·.2)).take i ++ b.2 :: (L.map (·.2)).drop (i + 1) := by
              have := List.take_append_drop i (L.map (·.2))
              rw [List.drop_eq_getElem_cons (List.getElem?_eq_some_iff.mp hord).1, (List.getElem?_eq_some_iff.mp hord).2] at this
              exact this.symm
            have hpreW : ∀ q ∈ (L.map (·.2)).take i, q ∈ W.waiting := fun q hq => permO.mem_iff.mp (List.mem_of_mem_take hq)
            have ndpre : (((L.map (·.2)).take i).map (·.1)).Nodup := List.Nodup.sublist (List.Sublist.map _ (List.take_sublist _ _)) ndO
            refine ⟨_, rfl, ?_⟩
            show if (!(!(Dx.matches_ S r.head (fillOf r b.2.1)).isEmpty)) = true then _ else _
            rw [Bool.not_not]
            by_cases hf : fails S r b.2.1 = true
            · refine ifT hf ?_
              have e1 := ff_at ((L.map (·.2)).take i) W (k := b.2.1) (m := b.2.2) (suf := (L.map (·.2)).drop (i + 1)) nf5 hf
              rw [show ((L.map (·.2)).take i ++ (b.2.1, b.2.2) :: (L.map (·.2)).drop (i + 1)) = L.map (·.2) from pre.symm] at e1
              obtain ⟨w1, w2, w3⟩ := ff_some hI (fun p hp => permO.mem_iff.mp hp) (fun p hp => permO.mem_iff.mpr hp) ndO srt e1
              obtain ⟨sf, m, c1, c2, c3⟩ := find_of_some hl hSl w2 w3
              have hdvH : H dv = none := by
                cases z : H dv with
                | none => rfl
                | some o =>
                  by_cases hc : dv ∈ [sd, wd]
                  · obtain ⟨kv, e⟩ : ∃ kv, H5 dv = some (.dT kv) := by
                      obtain ⟨_, _, kv5, _, _, e5, e6, _⟩ := hW5
                      have : dv = sd ∨ dv = wd := by simpa using hc
                      rcases this with rfl | rfl
                      · exact ⟨_, e5⟩
                      · exact ⟨_, e6⟩
                    rw [hdv] at e; cases e
                  · have := f5 _ _ (s4 _ _ z) hc
                    rw [hdv] at this; cases this
              exact ⟨_, rfl, ks H7 _ sf m b.2.1 dv c1 c3 c2 hW7 w1 (wsize_settles _ _ hpreW ndpre) ((Fr.of_same s4).trans f7) hdvH (s7 _ _ hdv6)⟩
            · have hf' : fails S r b.2.1 = false := by simpa using hf
              refine ifF hf' ?_
              have hws := wsize_settles _ _ hpreW ndpre
              have hW70 := hW7
              obtain ⟨dx7, ra7, kv7, e1, e2, e3, e4, e5, e6⟩ := hW70
              have gg1 := s57 _ _ g1
              have ht7 : H7 q = some (.tup ((natsK b.2.1).map kV)) := by rw [natsK_V]; exact s57 _ _ i3
              have hsl : (setK (((L.map (·.2)).take i).foldl settle W).settled).length < sizeLine := by
                unfold setK
                rw [List.length_map, sizeLine_eq]
                unfold wsize at hws lW
                omega
              refine ⟨_, rfl, a, C, dx, _, _, rfl, gg1, T.cl, T.nS, wF_settled ra sd wd, _, rfl, sd, _, rfl, DPut.t (k := natsK b.2.1) e3 ht7 hsl, ?_⟩
              rw [setK_put]
              -- settled; now waiting.pop
              have nas : a ≠ sd := ne_of gg1 e3 (fun z => nomatch z)
              have nqs : q ≠ sd := ne_of ht7 e3 (fun z => nomatch z)
              have hinW : b.2 ∈ (((L.map (·.2)).take i).foldl settle W).waiting := by
                refine mem_settles _ _ _ hbW fun z => ?_
                rw [pre, List.map_append, List.map_cons] at ndO
                exact (List.nodup_append.mp ndO).2.2 _ z _ (by simp) rfl
              have ndW : ((((L.map (·.2)).take i).foldl settle W).waiting.map (·.1)).Nodup := nodup_settles _ _ hI.nd
              have hv : ∃ tm', valV kv7 (natsK b.2.1) = some (.ref tm') := by
                rcases wrel_get e5 b.2.1 with ⟨z, _⟩ | ⟨m, tm', z1, z2, z3⟩
                · rw [getA_of ndW (show (b.2.1, b.2.2) ∈ _ from hinW)] at z; cases z
                · exact ⟨tm', z2⟩
              obtain ⟨tm', hv⟩ := hv
              refine ⟨_, rfl, a, C, dx, _, _, rfl, by rw [upd_ne nas]; exact gg1, T.cl, T.nA, wF_waiting ra sd wd, wd, rfl, .inr ⟨_, Rd.of (by rw [upd_ne e6.symm]; exact e4)⟩, _, rfl, kv7, natsK b.2.1, q, _, by rw [upd_ne e6.symm]; exact e4, rfl, by rw [upd_ne nqs]; exact ht7, hv, ?_⟩
              have f8 : Fr [sd, wd] H7 (upd (upd H7 sd (.dT (setK (addS (((L.map (·.2)).take i).foldl settle W).settled b.2.1)))) wd (.dT (dropK kv7 (natsK b.2.1)))) := fun c o ec hn => by
                have n1 : c ≠ sd := fun z => hn (by simp [z])
                have n2 : c ≠ wd := fun z => hn (by simp [z])
                rw [upd_ne n2, upd_ne n1]; exact ec
              have d7 : ∀ b ∈ [sd, wd], ∃ kvs, H7 b = some (.dT kvs) := fun b hb => by
                have : b = sd ∨ b = wd := by simpa using hb
                rcases this with rfl | rfl
                · exact ⟨_, e3⟩
                · exact ⟨_, e4⟩
              refine ⟨_, _, _, _, rfl, f7.trans f8, ?_, fun z hz => ?_⟩
              · have efold : ((L.map (·.2)).take (i + 1)).foldl settle W = settle (((L.map (·.2)).take i).foldl settle W) b.2 := by rw [take_succ' hord, List.foldl_append]; rfl
                rw [efold]
                exact hW7.set f8 (kvs' := dropK kv7 (natsK b.2.1)) (by rw [upd_ne e6, upd_same]; rfl) upd_same (WRel.kept (fun c xs ec => f8.keeps d7 ec (fun _ z => nomatch z)) (wrel_drop e5 b.2.1))
              · rw [take_succ' hord] at hz
                rcases List.mem_append.mp hz with hz | hz
                · exact nf5 z hz
                · have : z = b.2 := by simpa using hz
                  subst this; exact hf'
        · rintro σ H5 ⟨v3, v4, v5, v6, rfl, f5, hW5, nf5⟩
          have et2 : (L.map (·.2)).take (L.map fun b => V.ref b.1).length = L.map (·.2) := List.take_of_length_le (by rw [List.length_map, List.length_map]; exact Nat.le_refl _)
          rw [et2] at hW5 nf5
          have e1 := ff_end (L.map (·.2)) W nf5
          obtain ⟨w1, w2⟩ := ff_none hI (fun p hp => permO.mem_iff.mpr hp) e1
          refine kn H5 _ (find_of_none hSl w2) hW5 w1 (wsize_settles _ _ (fun q hq => permO.mem_iff.mp hq) ndO) ((Fr.of_same s4).trans f5)
end
end Rb

/-! ## C1 -/
set_option Elab.async false
set_option linter.all false
set_option maxRecDepth 100000
set_option maxHeartbeats 4000000
/-! C1: the chase in the heap; Chase.__init__. -/
namespace Rb
open PySem PySem.Spec PyProof.Rows L2
open Dx (Fact Facts Atom Fill)
def MkB (P : Program) (w : World) (K : PySem.W.Frag) (mg : Str → Option Value) (base : Heap) (CX : CXT) (x : Str) (C : Addr) (ps : List Str) (k : Nat) (sp : Sp) : Prop :=
  ∃ f fd, Mk K C f ∧ mg x = some (.ref C) ∧ Binds K fd ps [] ∧ FnOk P w K mg base CX k f fd ps sp
section
variable {X : Cx} {k : Nat} {ps : List Str} {sp : Sp} {t : TA} {CX : CXT} {C : Addr}
theorem pe_makeF {x : Str} {p pos : Pos} {e : Expr} {es : List Expr} {E : XK} (F : MkB X.prog X.w X.K X.mg X.base CX x C ps k sp) (hr : Room (k + 1) X.A) (hx : Passes CX X E) (ha : PA X (e :: es) t) (hg : Gl X x := by rfl) (hdb : (x == ("__debug__" : Str)) = false := by decide)
    (he : starEach (e :: es) X.env = (false, eval e X.env) :: starEach es X.env := by rfl) (hpl : (backTo pos (starEach es X.env)).any (·.1) = false := by rfl) : PE X (.Call (.Name x p) (e :: es) [] pos) (tMake C sp [] E t) := by
  obtain ⟨f, fd, h1, h2, h3, h4⟩ := F
  exact pe_make h1 h4 hr hg h2 h3 .nil hx ha hdb he hpl
theorem pe_makeF0 {x : Str} {p pos : Pos} {E : XK} (F : MkB X.prog X.w X.K X.mg X.base CX x C ps k sp) (hr : Room (k + 1) X.A) (hx : Passes CX X E) (hg : Gl X x := by rfl) (hdb : (x == ("__debug__" : Str)) = false := by decide) :
    PE X (.Call (.Name x p) [] [] pos) (tMake C sp [] E tNil) := by
  obtain ⟨f, fd, h1, h2, h3, h4⟩ := F
  exact pe_make0 h1 h4 hr hg h2 h3 .nil hx hdb
end
abbrev sChase : Stmt := topS 23
abbrev sCInit : Stmt := inClass sChase 0
abbrev sCPut : Stmt := inClass sChase 1
abbrev sCStep : Stmt := inClass sChase 2
def cF (fa lw : Addr) (n : Nat) : List (Str × V) := [("facts", .ref fa), ("watches", .ref lw), ("unknown", nI n)]
theorem cF_facts (fa lw : Addr) (n : Nat) : (cF fa lw n).lookup ("facts" : Str) = some (.ref fa) := by rfl
theorem cF_watches (fa lw : Addr) (n : Nat) : (cF fa lw n).lookup ("watches" : Str) = some (.ref lw) := by rfl
theorem cF_unknown (fa lw : Addr) (n : Nat) : (cF fa lw n).lookup ("unknown" : Str) = some (nI n) := by rfl
abbrev WL := List (Addr × Addr × Addr)
def dicts (wl : WL) : List Addr := wl.flatMap fun t => [t.2.1, t.2.2]
/-- a watch whose rule stands in the older heap H0 -/
def WAt (C CR : Addr) (H0 H : Hp) (t : Addr × Addr × Addr) (r : Dx.Rule) (W : Wt) : Prop := ∃ dx ra kvs, H t.1 = some (.ins C dx (wF ra t.2.1 t.2.2)) ∧ RuleAt CR H0 ra r ∧ H t.2.1 = some (.dT (setK W.settled)) ∧ H t.2.2 = some (.dT kvs) ∧ Paired (WRel H) kvs W.waiting ∧ t.2.1 ≠ t.2.2
theorem WAt.watch {C CR : Addr} {H0 H : Hp} {t : Addr × Addr × Addr} {r : Dx.Rule} {W : Wt} (h : WAt C CR H0 H t r W) (s : Same H0 H) : WatchAt C CR H t.1 r W t.2.1 t.2.2 := by
  obtain ⟨dx, ra, kvs, h1, h2, h3⟩ := h
  exact ⟨dx, ra, kvs, h1, h2.same s, h3⟩
theorem WAt.back {C CR : Addr} {H0 H H' : Hp} {t : Addr × Addr × Addr} {r : Dx.Rule} {W W' : Wt} (h : WAt C CR H0 H t r W) (h' : WatchAt C CR H' t.1 r W' t.2.1 t.2.2) (e : ∀ o, H t.1 = some o → H' t.1 = some o) : WAt C CR H0 H' t r W' := by
  obtain ⟨dx, ra, kvs, h1, h2, _⟩ := h
  obtain ⟨dx', ra', kvs', g1, _, g3⟩ := h'
  exact ⟨dx, ra, kvs', e _ h1, h2, g3⟩
/-- nothing in D is a tuple or an instance -/
def NoTI (H : Hp) (D : List Addr) : Prop := ∀ b ∈ D, (∀ xs, H b ≠ some (.tup xs)) ∧ ∀ C dx fs, H b ≠ some (.ins C dx fs)
theorem WAt.fr {C CR : Addr} {H0 H H' : Hp} {t : Addr × Addr × Addr} {r : Dx.Rule} {W : Wt} {D : List Addr} (h : WAt C CR H0 H t r W) (f : Fr D H H') (n : NoTI H D) (n1 : t.2.1 ∉ D) (n2 : t.2.2 ∉ D) : WAt C CR H0 H' t r W := by
  obtain ⟨dx, ra, kvs, h1, h2, h3, h4, h5, h6⟩ := h
  exact ⟨dx, ra, kvs, f _ _ h1 (fun m => (n _ m).2 _ _ _ h1), h2, f _ _ h3 n1, f _ _ h4 n2, WRel.kept (fun b xs e => f _ _ e fun m => (n _ m).1 _ e) h5, h6⟩
theorem noTI_of {H : Hp} {b : Addr} {o : HO} (e : H b = some o) (h1 : ∀ xs, o ≠ .tup xs) (h2 : ∀ C dx fs, o ≠ .ins C dx fs) : (∀ xs, H b ≠ some (.tup xs)) ∧ ∀ C dx fs, H b ≠ some (.ins C dx fs) :=
  ⟨fun xs z => h1 xs (Option.some.inj (e.symm.trans z)), fun C dx fs z => h2 C dx fs (Option.some.inj (e.symm.trans z))⟩
theorem FactsAt.noTI {P : Program} {w : World} {C : Addr} {H : Hp} {a : Addr} {S : List Fact} {O : List Addr} (h : FactsAt P w C H a S O) : NoTI H O := by
  obtain ⟨dx, h, lk, es, hO, ha, hh, hlk, L⟩ := h
  intro b hb
  rw [hO] at hb
  rcases List.mem_cons.mp hb with rfl | hb
  · exact noTI_of hh (fun _ q => nomatch q) (fun _ _ _ q => nomatch q)
  · rcases List.mem_cons.mp hb with rfl | hb
    · exact noTI_of hlk (fun _ q => nomatch q) (fun _ _ _ q => nomatch q)
    · obtain ⟨e0, he0, rfl⟩ := List.mem_map.mp hb
      obtain ⟨qs, z, _⟩ := L.val e0 he0
      exact noTI_of z (fun _ q => nomatch q) (fun _ _ _ q => nomatch q)
theorem FactsAt.tracked {P : Program} {w : World} {C : Addr} {H : Hp} {a : Addr} {S : List Fact} {O : List Addr} (h : FactsAt P w C H a S O) : ∀ b ∈ O, ∃ o, H b = some o := by
  obtain ⟨dx, h, lk, es, hO, ha, hh, hlk, L⟩ := h
  intro b hb
  rw [hO] at hb
  rcases List.mem_cons.mp hb with rfl | hb
  · exact ⟨_, hh⟩
  · rcases List.mem_cons.mp hb with rfl | hb
    · exact ⟨_, hlk⟩
    · obtain ⟨e0, he0, rfl⟩ := List.mem_map.mp hb
      obtain ⟨qs, z, _⟩ := L.val e0 he0
      exact ⟨_, z⟩
structure ChaseAt (P : Program) (w : World) (CC C CR CF : Addr) (H0 H : Hp) (c : Addr) (S : List Fact) (ws : List Wt) (rs : List Dx.Rule) (wl : WL) (O : List Addr) (n : Nat) : Prop where
  obj : ∃ dx fa lw, H c = some (.ins CC dx (cF fa lw n)) ∧ FactsAt P w CF H fa S O ∧ H lw = some (.lst (wl.map fun t => V.ref t.1)) ∧ lw ∉ O
  same : Same H0 H
  wa : ∀ (i : Nat) (r : Dx.Rule) (W : Wt) (t : Addr × Addr × Addr), rs[i]? = some r → ws[i]? = some W → wl[i]? = some t → WAt C CR H0 H t r W
  l1 : wl.length = rs.length
  l2 : ws.length = rs.length
  nd : (dicts wl).Nodup
  dis : ∀ b ∈ dicts wl, b ∉ O
  old : ∀ b ∈ O, H0 b = none
  oldd : ∀ b ∈ dicts wl, H0 b = none
  oldc : H0 c = none
theorem made_none {H : Hp} {x d b : Addr} {o1 o2 : HO} (e : upd (upd H d o1) x o2 b = none) : H b = none := by
  by_cases n : b = x
  · subst n; rw [upd_same] at e; cases e
  · rw [upd_ne n] at e
    by_cases n2 : b = d
    · subst n2; rw [upd_same] at e; cases e
    · rw [upd_ne n2] at e; exact e
theorem upd_none {H : Hp} {x b : Addr} {o : HO} (e : upd H x o b = none) : H b = none := by
  by_cases n : b = x
  · subst n; rw [upd_same] at e; cases e
  · rw [upd_ne n] at e; exact e
theorem FactsAt.but {P : Program} {w : World} {C C2 dx p : Addr} {fs : List (Str × V)} {H H' : Hp} {a : Addr} {S : List Fact} {O : List Addr} (h : FactsAt P w C H a S O) (hp : H p = some (.ins C2 dx fs)) (n : a ≠ p) (k : ∀ b o, H b = some o → b ≠ p → H' b = some o) : FactsAt P w C H' a S O := by
  obtain ⟨dx, h, lk, es, hO, ha, hh, hlk, L⟩ := h
  refine ⟨dx, h, lk, es, hO, k _ _ ha n, k _ _ hh (ne_of hh hp (fun z => nomatch z)), k _ _ hlk (ne_of hlk hp (fun z => nomatch z)), L.keep (fun b xs e => k _ _ e (ne_of e hp (fun z => nomatch z))) fun e he => ?_⟩
  obtain ⟨qs, h1, _⟩ := L.val e he
  rw [h1]; exact k _ _ h1 (ne_of h1 hp (fun z => nomatch z))
theorem WAt.but {C CR C2 dx p : Addr} {fs : List (Str × V)} {H0 H H' : Hp} {t : Addr × Addr × Addr} {r : Dx.Rule} {W : Wt} (h : WAt C CR H0 H t r W) (hp : H p = some (.ins C2 dx fs)) (n : t.1 ≠ p) (k : ∀ b o, H b = some o → b ≠ p → H' b = some o) : WAt C CR H0 H' t r W := by
  obtain ⟨dx, ra, kvs, h1, h2, h3, h4, h5, h6⟩ := h
  exact ⟨dx, ra, kvs, k _ _ h1 n, h2, k _ _ h3 (ne_of h3 hp (fun z => nomatch z)), k _ _ h4 (ne_of h4 hp (fun z => nomatch z)), WRel.kept (fun b xs e => k _ _ e (ne_of e hp (fun z => nomatch z))) h5, h6⟩
theorem WAt.same {C CR : Addr} {H0 H H' : Hp} {t : Addr × Addr × Addr} {r : Dx.Rule} {W : Wt} (h : WAt C CR H0 H t r W) (s : Same H H') : WAt C CR H0 H' t r W := by
  obtain ⟨dx, ra, kvs, h1, h2, h3, h4, h5, h6⟩ := h
  exact ⟨dx, ra, kvs, s _ _ h1, h2, s _ _ h3, s _ _ h4, WRel.kept (fun b xs e => s _ _ e) h5, h6⟩
structure CTxt (K : PySem.W.Frag) (mg : Str → Option Value) (C : Addr) : Prop where
  b : Blt mg
  cl : Cls K C
  nF : NoAttr K C "facts"
  nW : NoAttr K C "watches"
  nU : NoAttr K C "unknown"
  mU : ∃ t, mg "FIRST_UNKNOWN_VALUE" = some (.int 100 t)
def nCInit : List Str := ["self", "rules", "rule"]
theorem scCInit : FnScope nCInit ["self", "rules"] (defScope sCInit) := ⟨rfl, rfl, rfl, by decide +kernel, rfl, by decide +kernel, by decide +kernel⟩
def spCInit (P : Program) (w : World) (CC C CR CF : Addr) : Sp := fun vs H Q _ => ∃ (p dx lr : Addr) (ras : List Addr) (rs : List Dx.Rule) (H0 : Hp), vs = [.ref p, .ref lr] ∧ H p = some (.ins CC dx []) ∧ H lr = some (.lst (ras.map V.ref)) ∧ H0 lr = some (.lst (ras.map V.ref)) ∧ Paired (RuleAt CR H0) ras rs ∧ (∀ b o, H0 b = some o → H b = some o) ∧ H0 p = none ∧ rs.length ≤ 1000 ∧
  ∀ (H' : Hp) (wl : WL) (O : List Addr), ChaseAt P w CC C CR CF H0 H' p [] (rs.map fun _ => ⟨[], []⟩) rs wl O 100 → (∀ b o, H b = some o → b ≠ p → H' b = some o) → Q .non H'
section
variable {P : Program} {w : World} {K : PySem.W.Frag} {mg : Str → Option Value} {base : Heap} {CC C CR CF : Addr}
theorem ok_cinit {f : Addr} {fd : FuncData} (F : Fun K "__init__" "Chase.__init__" sCInit f fd) (T : CTxt K mg CC) (MF : MkB P w K mg base CX0 "Facts" CF ["self"] 1 (spFInit P w CF)) (MW : MkB P w K mg base CX0 "Watch" C ["self", "watched"] 1 (spWInit C CR)) :
    FnOk P w K mg base CX0 3 f fd ["self", "rules"] (spCInit P w CC C CR CF) := by
  refine F.ok scCInit (fun vs H Q E h => ?_) (fun cdv A outer s H vs Q E hr h => ?_)
  · obtain ⟨p, dx, lr, ras, rs, H0, rfl, _⟩ := h
    rfl
  · have nd : nCInit.Nodup := scCInit.nd
    obtain ⟨tU, mU⟩ := T.mU
    refine ⟨_, pss_cons (ps_fld (pv 0) (pe_makeF0 MF hr pass0) rfl)
      (pss_cons (ps_fld (pv 0) (pe_lc (own := [("rule", 2)]) (g := gName 2) rfl nd (pi_list (pv 1)) (blkOk_by (own := [("rule", 2)]) (N := nCInit) (sc := defScope sCInit) (by decide +kernel)) (fun _ _ _ _ _ => pg_name (i := 2) nd rfl (Or.inl rfl))
          (fun _ _ _ _ _ => pts_nil) (fun _ _ _ _ _ => pe_makeF MW hr pass0 (pa_cons (pv 2) pa_nil))) rfl)
      (pss_one (ps_fld (pv 0) (pe_glob (v := .int 100) rfl mU ⟨_, rfl⟩) rfl))), ?_⟩
    obtain ⟨p, dx, lr, ras, rs, H0, rfl, hp, hlr, hlr0, hRs, s0, hp0, lrs, k⟩ := h
    -- self.facts = Facts()
    intro fa dxf nfa ndf nef
    refine ⟨fa, dxf, rfl, upd_same, fun H1 O hF kpF frF => ?_⟩
    have s1 : Same H H1 := Same.made nfa ndf kpF
    have nfp : fa ≠ p := (ne_of_none hp nfa).symm
    have fO : ∀ b ∈ O, H b = none := fun b hb => made_none (frF b hb)
    refine ⟨rfl, _, rfl, p, CC, dx, [], rfl, s1 _ _ hp, T.cl, T.nF, (by show 0 < 1000; decide), ?_⟩
    have k2 : ∀ b o, H1 b = some o → b ≠ p → upd H1 p (.ins CC dx (L2.putF "facts" (.ref fa) [])) b = some o := fun b o e n => by rw [upd_ne n]; exact e
    have hp2 : upd H1 p (.ins CC dx (L2.putF "facts" (.ref fa) [])) p = some (.ins CC dx [("facts", .ref fa)]) := upd_same
    have n2 : ∀ b, upd H1 p (.ins CC dx (L2.putF "facts" (.ref fa) [])) b = none → H1 b = none := fun b e => upd_none e
    have hF2 := hF.but (s1 _ _ hp) nfp k2
    generalize upd H1 p (.ins CC dx (L2.putF "facts" (.ref fa) [])) = H2 at k2 hp2 n2 hF2 ⊢
    have s02 : ∀ b o, H0 b = some o → H2 b = some o := fun b o e => k2 _ _ (s1 _ _ (s0 _ _ e)) fun z => by rw [z, hp0] at e; cases e
    -- self.watches = [Watch(rule) for rule in rules]
    refine ⟨_, rfl, lr, rfl, ⟨_, SqL.of (s02 _ _ hlr0)⟩, fun D hD => lc_list (K := K) (a := lr) (xs := ras.map V.ref) (fun i H' => Same H2 H' ∧ ∃ wl : WL, H' D = some (.lst (wl.map fun t => V.ref t.1)) ∧ wl.length = i ∧
        (∀ (j : Nat) (r : Dx.Rule) (t : Addr × Addr × Addr), rs[j]? = some r → wl[j]? = some t → WAt C CR H0 H' t r ⟨[], []⟩ ∧ H2 t.1 = none) ∧ (dicts wl).Nodup ∧ ∀ b ∈ dicts wl, H2 b = none ∧ ∃ kvs, H' b = some (.dT kvs)) ?_ (fun i H' _ ⟨q, _⟩ => SqL.of (q _ _ (s02 _ _ hlr0))) ?_ ?_⟩
    · exact ⟨same_upd (Same.refl _) hD, [], upd_same, rfl, fun j r t _ h => by simp at h, by simp [dicts], by simp [dicts]⟩
    · rintro i x H3 hi ⟨s3, wl, q1, q2, q3, q4, q5⟩
      obtain ⟨ra, hra, rfl⟩ := map_get hi
      obtain ⟨r, hr', hRa⟩ := paired_get hRs hra
      have il : i < rs.length := (List.getElem?_eq_some_iff.mp hr').1
      refine ⟨rfl, ?_⟩
      refine yesI ?_
      rw [if_pos rfl]
      refine ⟨_, rfl, ?_⟩
      intro wa dxw nwa ndw new
      have sM : Same H3 (upd (upd H3 dxw (.own wa)) wa (.ins C dxw [])) := fun b o e => by
        rw [upd_ne (ne_of_none e nwa), upd_ne (ne_of_none e ndw)]; exact e
      refine ⟨wa, dxw, ra, r, rfl, upd_same, (hRa.same (fun b o e => s3 _ _ (s02 _ _ e))).same sM, fun H4 sd wd hW hWe kpW nsd nwd => ?_⟩
      have s4 : Same H3 H4 := Same.made nwa ndw kpW
      have nsd3 : H3 sd = none := made_none nsd
      have nwd3 : H3 wd = none := made_none nwd
      have q1' := s4 _ _ q1
      have hWt : WAt C CR H0 H4 (wa, sd, wd) r ⟨[], []⟩ := by
        obtain ⟨dx5, ra5, kvs5, e1, e2, e3, e4, e5, e6⟩ := hW
        obtain ⟨dx6, e1'⟩ := hWe
        exact ⟨dx6, ra, kvs5, e1', hRa, e3, e4, e5, e6⟩
      have hWt0 := hWt
      obtain ⟨dx5, ra5, kvs5, e1, e2, e3, e4, e5, e6⟩ := hWt0
      refine ⟨rfl, _, q1', by rw [List.length_map]; exact big_lt (by omega), fun b o e => ?_, wl ++ [(wa, sd, wd)], ?_, by simp [q2], fun j r' t hj ht => ?_, ?_, fun b hb => ?_⟩
      · rw [upd_ne (ne_of_none e hD)]; exact s4 _ _ (s3 _ _ e)
      · rw [upd_same, List.map_append]; rfl
      · have kD : ∀ {t r W}, WAt C CR H0 H4 t r W → WAt C CR H0 (upd H4 D (.lst ((wl.map fun t => V.ref t.1) ++ [.ref wa]))) t r W := fun h => h.fr (D := [D]) (fun b o e n => by rw [upd_ne (by simpa using n)]; exact e) (fun b hb => by
            have : b = D := by simpa using hb
            subst this
            exact noTI_of q1' (fun _ q => nomatch q) (fun _ _ _ q => nomatch q)) (by
            obtain ⟨_, _, _, _, _, z, _⟩ := h
            have := ne_of z q1' (fun z => nomatch z)
            simpa using this) (by
            obtain ⟨_, _, _, _, _, _, z, _⟩ := h
            have := ne_of z q1' (fun z => nomatch z)
            simpa using this)
        by_cases hjl : j < wl.length
        · rw [List.getElem?_append_left hjl] at ht
          obtain ⟨c1, c2⟩ := q3 j r' t hj ht
          exact ⟨kD (c1.same s4), c2⟩
        · rw [List.getElem?_append_right (by omega)] at ht
          have e0 : j - wl.length = 0 := by
            cases z : j - wl.length with
            | zero => rfl
            | succ n => rw [z] at ht; simp at ht
          rw [e0] at ht
          have et : (wa, sd, wd) = t := by simpa using ht
          have ej : j = i := by omega
          subst ej
          rw [hr'] at hj
          cases hj
          subst et
          exact ⟨kD hWt, s3.free nwa⟩
      · unfold dicts
        rw [List.flatMap_append]
        refine List.nodup_append.mpr ⟨q4, by simp [e6], fun c hc d hd => ?_⟩
        obtain ⟨_, kv, ec⟩ := q5 c hc
        have : d = sd ∨ d = wd := by simpa using hd
        intro z
        subst z
        rcases this with rfl | rfl
        · rw [nsd3] at ec; cases ec
        · rw [nwd3] at ec; cases ec
      · unfold dicts at hb
        rw [List.flatMap_append] at hb
        have kdT : ∀ b kv, H4 b = some (.dT kv) → ∃ kvs, upd H4 D (.lst ((wl.map fun t => V.ref t.1) ++ [.ref wa])) b = some (.dT kvs) := fun b kv e => ⟨kv, by rw [upd_ne (ne_of e q1' (fun z => nomatch z))]; exact e⟩
        rcases List.mem_append.mp hb with hb | hb
        · obtain ⟨c1, kv, c2⟩ := q5 b hb
          exact ⟨c1, kdT _ _ (s4 _ _ c2)⟩
        · have : b = sd ∨ b = wd := by simpa using hb
          rcases this with rfl | rfl
          · exact ⟨s3.free nsd3, kdT _ _ e3⟩
          · exact ⟨s3.free nwd3, kdT _ _ e4⟩
    · rintro H3 ⟨s3, wl, q1, q2, q3, q4, q5⟩
      have q2' : wl.length = rs.length := by rw [q2, List.length_map, Paired.length hRs]
      refine ⟨_, rfl, p, CC, dx, _, rfl, s3 _ _ hp2, T.cl, T.nW, (by show 1 < 1000; decide), ?_⟩
      refine ⟨_, rfl, p, CC, dx, _, rfl, upd_same, T.cl, T.nU, (by show 2 < 1000; decide), ?_⟩
      rw [upd_upd]
      have k4 : ∀ b o, H3 b = some o → b ≠ p → upd H3 p (.ins CC dx (cF fa D 100)) b = some o := fun b o e n => by rw [upd_ne n]; exact e
      have np : D ≠ p := (ne_of_none hp2 hD).symm
      have fO2 : ∀ b ∈ O, ∃ o, H2 b = some o := hF2.tracked
      refine k (upd H3 p (.ins CC dx (cF fa D 100))) wl O ⟨⟨dx, fa, D, upd_same, (hF2.same s3).but (s3 _ _ hp2) nfp k4, k4 _ _ q1 np, fun z => ?_⟩, fun b o e => ?_, fun j r W t hj hW ht => ?_, q2', by simp, q4, fun b hb hO => ?_, fun b hb => ?_, fun b hb => ?_, hp0⟩ fun b o e n => ?_
      · obtain ⟨o, e⟩ := fO2 D z
        rw [hD] at e; cases e
      · exact k4 _ _ (s3 _ _ (s02 _ _ e)) fun z => by rw [z, hp0] at e; cases e
      · have eW : W = ⟨[], []⟩ := by
          rw [List.getElem?_map, hj] at hW
          exact (Option.some.inj hW).symm
        subst eW
        obtain ⟨c1, c2⟩ := q3 j r t hj ht
        exact c1.but (s3 _ _ hp2) (fun z => by rw [z, hp2] at c2; cases c2) k4
      · obtain ⟨o, e⟩ := fO2 b hO
        rw [(q5 b hb).1] at e; cases e
      · cases z : H0 b with
        | none => rfl
        | some o => have := s0 _ _ z; rw [fO b hb] at this; cases this
      · cases z : H0 b with
        | none => rfl
        | some o => have := s02 _ _ z; rw [(q5 b hb).1] at this; cases this
      · exact k4 _ _ (s3 _ _ (k2 _ _ (s1 _ _ e) n)) n
end
end Rb

/-! ## C2 -/
set_option Elab.async false
set_option linter.all false
set_option maxRecDepth 100000
set_option maxHeartbeats 8000000
/-! C2: Chase.put_atoms. -/
namespace Rb
open PySem PySem.Spec PyProof.Rows L2
open Dx (Fact Facts Atom Fill)
theorem freshF_succ {S fs : List Fact} {i : Nat} {f : Fact} (h : fs[i]? = some f) : freshF S (fs.take (i + 1)) = if f ∈ S then freshF S (fs.take i) else if f ∈ freshF S (fs.take i) then freshF S (fs.take i) else freshF S (fs.take i) ++ [f] := by
  rw [take_succ' h]
  unfold freshF
  rw [List.foldl_append]
  rfl
theorem FactsAt.frD {P : Program} {w : World} {C : Addr} {H H' : Hp} {a : Addr} {S : List Fact} {O D : List Addr} (h : FactsAt P w C H a S O) (f : Fr D H H') (n : NoTI H D) (nO : ∀ b ∈ O, b ∉ D) : FactsAt P w C H' a S O := by
  obtain ⟨dx, h, lk, es, hO, ha, hh, hlk, L⟩ := h
  refine ⟨dx, h, lk, es, hO, f _ _ ha (fun m => (n _ m).2 _ _ _ ha), f _ _ hh (nO _ (by rw [hO]; simp)), f _ _ hlk (nO _ (by rw [hO]; simp)), L.keep (fun b xs e => f _ _ e fun m => (n _ m).1 _ e) fun e he => ?_⟩
  obtain ⟨qs, h1, _⟩ := L.val e he
  rw [h1]
  exact f _ _ h1 (nO _ (by rw [hO]; exact List.mem_cons_of_mem _ (List.mem_cons_of_mem _ (List.mem_map.mpr ⟨e, he, rfl⟩))))
theorem mem_dicts {wl : WL} {i : Nat} {t : Addr × Addr × Addr} (h : wl[i]? = some t) : t.2.1 ∈ dicts wl ∧ t.2.2 ∈ dicts wl := by
  have m := List.mem_of_getElem? h
  exact ⟨List.mem_flatMap.mpr ⟨t, m, by simp⟩, List.mem_flatMap.mpr ⟨t, m, by simp⟩⟩
theorem dicts_ne {wl : WL} (nd : (dicts wl).Nodup) {i j : Nat} {t u : Addr × Addr × Addr} (h1 : wl[i]? = some t) (h2 : wl[j]? = some u) (ne : i ≠ j) : ∀ x ∈ [t.2.1, t.2.2], ∀ y ∈ [u.2.1, u.2.2], x ≠ y := by
  have p := (List.pairwise_flatMap.mp nd).2
  rw [List.pairwise_iff_getElem] at p
  obtain ⟨l1, e1⟩ := List.getElem?_eq_some_iff.mp h1
  obtain ⟨l2, e2⟩ := List.getElem?_eq_some_iff.mp h2
  rcases Nat.lt_or_gt_of_ne ne with q | q
  · have := p i j l1 l2 q
    rw [e1, e2] at this
    exact this
  · have := p j i l2 l1 q
    rw [e1, e2] at this
    exact fun x hx y hy z => this y hy x hx z.symm
def nCPut : List Str := ["self", "atoms", "values", "fresh", "table", "first", "second", "fact", "watch"]
theorem scCPut : FnScope nCPut ["self", "atoms", "values"] (defScope sCPut) := ⟨rfl, rfl, rfl, by decide +kernel, rfl, by decide +kernel, by decide +kernel⟩
def metAll (rs : List Dx.Rule) (ws : List Wt) (F S : List Fact) : List Wt := (rs.zip ws).map fun p => meetW p.1 p.2 F S
def spCPut (P : Program) (w : World) (CC C CR CF : Addr) : Sp := fun vs H Q _ => ∃ (c la dv : Addr) (H0 : Hp) (S : List Fact) (ws : List Wt) (rs : List Dx.Rule) (wl : WL) (O : List Addr) (n : Nat) (as : List Atom) (vs' : Fill), vs = [.ref c, .ref la, .ref dv] ∧ ChaseAt P w CC C CR CF H0 H c S ws rs wl O n ∧
  AtomsAt H la as ∧ H dv = some (.dK (fillK vs')) ∧ (∀ a ∈ as, (∃ x, Fill.at_ vs' a.x = some x) ∧ ∃ y, Fill.at_ vs' a.y = some y) ∧ as.length ≤ 2 ∧ S.length + as.length ≤ 202 ∧ (∀ r ∈ rs, r.body.length ≤ 2 ∧ (shared r).length ≤ 1000) ∧
  (∀ (i : Nat) (r : Dx.Rule) (W : Wt), rs[i]? = some r → ws[i]? = some W → LenOk r W ∧ wsize W ≤ 15900000) ∧
  ∀ (H' : Hp) (O' : List Addr), ChaseAt P w CC C CR CF H0 H' c (putF S (as.map (Dx.inst vs'))) (metAll rs ws (freshF S (as.map (Dx.inst vs'))) (putF S (as.map (Dx.inst vs')))) rs wl O' n → Q .non H'
section
variable {P : Program} {w : World} {K : PySem.W.Frag} {mg : Str → Option Value} {base : Heap} {CC C CR CF : Addr}
theorem ok_cput {f : Addr} {fd : FuncData} (F : Fun K "put_atoms" "Chase.put_atoms" sCPut f fd) (T : CTxt K mg CC) (TF : FTxt K mg CF) (TW : WTxt K mg C) (MF : MkB P w K mg base CX0 "Facts" CF ["self"] 1 (spFInit P w CF))
    (GP : MeB P w K mg base CX0 CF "put" ["self", "fact"] 1 (spFPut P w CF)) (GL : MeB P w K mg base CX0 CF "listed" ["self"] 1 (spFListed P w CF)) (GM : MeB P w K mg base CX0 C "meet" ["self", "fresh", "facts"] 3 (spWMeet P w C CR CF)) :
    FnOk P w K mg base CX0 4 f fd ["self", "atoms", "values"] (spCPut P w CC C CR CF) := by
  refine F.ok scCPut (fun vs H Q E h => ?_) (fun cdv A outer s H vs Q E hr h => ?_)
  · obtain ⟨c, la, dv, H0, S, ws, rs, wl, O, n, as, vs', rfl, _⟩ := h
    rfl
  · have nd : nCPut.Nodup := scCPut.nd
    have hu := hu_of hr
    have hr1 : Room 1 _ := hr.mono (by decide)
    have hr2 : Room 2 _ := hr.mono (by decide)
    refine ⟨_, pss_cons (ps_set (i := 3) nd rfl (Or.inl rfl) (pe_makeF0 MF hr2 pass0))
      (pss_cons (ps_for PassesOwn.never rfl (pi_list (pv 1)) (pg_tup rfl (pgs_cons (pg_name (i := 4) nd rfl (Or.inl rfl)) (pgs_cons (pg_name (i := 5) nd rfl (Or.inl rfl)) (pgs_cons (pg_name (i := 6) nd rfl (Or.inl rfl)) pgs_nil))))
        (pss_cons (ps_set (i := 7) nd rfl (Or.inl rfl) (pe_tup (pa_cons (pv 4) (pa_cons (pe_dget hu (pv 2) (pv 5) (fun _ _ => rfl)) (pa_cons (pe_dget hu (pv 2) (pv 6) (fun _ _ => rfl)) pa_nil)))))
        (pss_one (ps_if (pt_cmp (pc_dnotin hu (pv 7) (pe_fld (pe_fld (pv 0) rfl) rfl)))
          (pss_one (ps_expr (pe_methF (pv 3) TF.cl GP hr1 pass0 (pa_cons (pv 7) pa_nil)))) pss_nil))))
      (pss_cons (ps_for PassesOwn.never rfl (pi_list (pe_methF0 (pv 3) TF.cl GL hr1 pass0)) (pg_name (i := 7) nd rfl (Or.inl rfl))
        (pss_one (ps_expr (pe_methF (pe_fld (pv 0) rfl) TF.cl GP hr1 pass0 (pa_cons (pv 7) pa_nil)))))
      (pss_one (ps_for PassesOwn.never rfl (pi_list (pe_fld (pv 0) rfl)) (pg_name (i := 8) nd rfl (Or.inl rfl))
        (pss_one (ps_expr (pe_methF (pv 8) TW.cl GM hr pass0 (pa_cons (pv 3) (pa_cons (pe_fld (pv 0) rfl) pa_nil))))))))), ?_⟩
    obtain ⟨c, la, dv, H0, S, ws, rs, wl, O, n, as, vs', rfl, hC, hA, hdv, hat, las, lS, hrs, hws, k⟩ := h
    obtain ⟨⟨dx, fa, lw, hc, hF, hlw, nlw⟩, s0, wa, l1, l2, ndd, dis, old, oldd, oldc⟩ := hC
    obtain ⟨qa, hla, hqa⟩ := hA
    -- fresh = Facts()
    intro fr dxf nfr ndf nef
    refine ⟨fr, dxf, rfl, upd_same, fun H1 O1 hF1 kp1 fr1 => ⟨rfl, ?_⟩⟩
    have s1 : Same H H1 := Same.made nfr ndf kp1
    have fO1 : ∀ b ∈ O1, H b = none := fun b hb => made_none (fr1 b hb)
    have tO : ∀ b ∈ O, ∃ o, H b = some o := hF.tracked
    have tD : ∀ b ∈ dicts wl, ∃ kvs, H b = some (.dT kvs) := fun b hb => by
      obtain ⟨t, ht, hb⟩ := List.mem_flatMap.mp hb
      obtain ⟨i, hi, e⟩ := List.getElem_of_mem ht
      have ei : wl[i]? = some t := by rw [← e]; exact List.getElem?_eq_getElem hi
      have er : rs[i]? = some rs[i] := List.getElem?_eq_getElem (by omega)
      have ew : ws[i]? = some ws[i] := List.getElem?_eq_getElem (by omega)
      obtain ⟨_, _, kv, _, _, z3, z4, _⟩ := wa i _ _ t er ew ei
      have : b = t.2.1 ∨ b = t.2.2 := by simpa using hb
      rcases this with rfl | rfl
      · exact ⟨_, z3⟩
      · exact ⟨_, z4⟩
    refine ⟨_, rfl, la, rfl, ⟨_, SqL.of (s1 _ _ hla)⟩, for_list (K := K) (a := la) (xs := qa.map V.ref) (fun i σ H' => ∃ v4 v5 v6 v7 O2, σ = [some (.ref c), some (.ref la), some (.ref dv), some (.ref fr), v4, v5, v6, v7, none] ∧ Same H H' ∧ FactsAt P w CF H' fr (freshF S ((as.map (Dx.inst vs')).take i)) O2 ∧ ∀ b ∈ O2, H b = none)
      ⟨none, none, none, none, O1, rfl, s1, hF1, fO1⟩ (fun i σ H' _ ⟨_, _, _, _, _, _, q, _⟩ => SqL.of (q _ _ hla)) ?_ ?_⟩
    · rintro i x σ H2 hi ⟨v4, v5, v6, v7, O2, rfl, s2, hF2, fO2⟩
      obtain ⟨q, hq, rfl⟩ := map_get hi
      obtain ⟨a, ha, aat⟩ := paired_get hqa hq
      obtain ⟨⟨x, hx⟩, y, hy⟩ := hat a (List.mem_of_getElem? ha)
      have hfi : (as.map (Dx.inst vs'))[i]? = some (Dx.inst vs' a) := by rw [List.getElem?_map, ha]; rfl
      refine ⟨q, _, rfl, SqT.of (s2 _ _ aat), rfl, _, _, rfl, _, _, rfl, _, _, rfl, rfl, ?_⟩
      have g1 := DGet.k (k := vk a.x) (s2 _ _ hdv)
      rw [fillK_get, hx] at g1
      have g2 := DGet.k (k := vk a.y) (s2 _ _ hdv)
      rw [fillK_get, hy] at g2
      refine ⟨_, rfl, _, rfl, _, rfl, dv, _, rfl, g1, _, rfl, _, rfl, dv, _, rfl, g2, by show 3 ≤ sizeLine; decide, fun t ht => ?_⟩
      have s3 : Same H2 (upd H2 t (.tup (factV (Dx.inst vs' a)))) := same_upd (Same.refl _) ht
      have efv : factV (Dx.inst vs' a) = [nI a.t, nI x, nI y] := by
        unfold factV Dx.inst
        rw [hx, hy]; rfl
      have ht3 : FactAt (upd H2 t (.tup (factV (Dx.inst vs' a)))) t (Dx.inst vs' a) := upd_same
      rw [efv] at s3 ht3
      generalize upd H2 t (.tup [nI a.t, nI x, nI y]) = H3 at s3 ht3 ⊢
      have s03 : Same H H3 := s2.trans s3
      have hF03 := hF.same s03
      obtain ⟨dxF, hh, lk, es, hOF, hfa, hhh, hlk, LF⟩ := hF03
      have g := DGet.t (k := factK (Dx.inst vs' a)) hhh (by rw [factK_V]; exact ht3)
      rw [heldK_get] at g
      have esc := freshF_succ (S := S) hfi
      by_cases hm : Dx.inst vs' a ∈ S
      · rw [if_pos hm] at g esc
        refine ⟨_, rfl, _, rfl, c, CC, dx, _, _, rfl, s03 _ _ hc, T.cl, T.nF, cF_facts fa lw n, fa, CF, dxF, _, _, rfl, hfa, TF.cl, TF.nH, fF_held hh lk, hh, _, rfl, g, _, rfl, ifF rfl ?_⟩
        exact ⟨_, _, _, _, O2, rfl, s03, by rw [esc]; exact hF2.same s3, fO2⟩
      · rw [if_neg hm] at g esc
        refine ⟨_, rfl, _, rfl, c, CC, dx, _, _, rfl, s03 _ _ hc, T.cl, T.nF, cF_facts fa lw n, fa, CF, dxF, _, _, rfl, hfa, TF.cl, TF.nH, fF_held hh lk, hh, _, rfl, g, _, rfl, ifT rfl ?_⟩
        have hF3 := hF2.same s3
        have hF30 := hF3
        obtain ⟨dx3, h3, lk3, es3, _, hfr3, _⟩ := hF30
        have lF : (freshF S ((as.map (Dx.inst vs')).take i)).length ≤ 2 := by
          have := freshF_len S ((as.map (Dx.inst vs')).take i)
          rw [List.length_take, List.length_map] at this
          omega
        refine ⟨_, rfl, fr, dx3, _, rfl, hfr3, rfl, _, rfl, fr, t, _, O2, Dx.inst vs' a, rfl, hF3, ht3, by omega, fun hin => ?_, fun hout H4 O4 hF4 f4 n4 => ?_⟩
        · rw [if_pos hin] at esc
          exact ⟨_, _, _, _, O2, rfl, s03, by rw [esc]; exact hF3, fO2⟩
        · rw [if_neg hout] at esc
          refine ⟨_, _, _, _, O4, rfl, fun b o e => f4 _ _ (s03 _ _ e) fun m => ?_, by rw [esc]; exact hF4, fun b hb => ?_⟩
          · rw [fO2 b m] at e; cases e
          · rcases n4 b hb with z | z
            · exact fO2 b z
            · exact s03.free z
    · rintro σ H2 ⟨v4, v5, v6, v7, OF, rfl, s2, hF2, fOF⟩
      have lqa : qa.length = as.length := Paired.length hqa
      have et : (as.map (Dx.inst vs')).take (qa.map V.ref).length = as.map (Dx.inst vs') := List.take_of_length_le (by rw [List.length_map, List.length_map]; omega)
      rw [et] at hF2
      have lfs : (as.map (Dx.inst vs')).length = as.length := List.length_map _
      generalize as.map (Dx.inst vs') = fs at hF2 k lfs
      -- for fact in fresh.listed()
      have hF20 := hF2
      obtain ⟨dxr, hr3, lkr, esr, _, hfr2, _⟩ := hF20
      refine ⟨_, rfl, fr, dxr, _, rfl, hfr2, rfl, ?_⟩
      refine ⟨fr, freshF S fs, OF, rfl, hF2, freshF_nodup S fs, fun H3 p qs s3 hpn hp hqs => ?_⟩
      have s03 : Same H H3 := s2.trans s3
      have hpH : H p = none := s2.free hpn
      have ndS : ∀ f ∈ Dx.tidy (freshF S fs), f ∉ S := fun f hf => (mem_freshF.mp (mem_tidy.mp hf)).2
      have ndT : (Dx.tidy (freshF S fs)).Nodup := sorted_nodup (tidy_sorted _)
      have lT : (Dx.tidy (freshF S fs)).length ≤ 2 := by
        rw [tidy_len (freshF_nodup S fs)]
        have := freshF_len S fs
        omega
      have tF3 : ∀ b ∈ OF, ∃ o, H3 b = some o := fun b hb => by
        obtain ⟨o, e⟩ := hF2.tracked b hb
        exact ⟨o, s3 _ _ e⟩
      refine ⟨p, rfl, ⟨_, SqL.of hp⟩, for_list (K := K) (a := p) (xs := qs.map V.ref) (fun j σ H' => ∃ v4 v5 v6 v7 O2, σ = [some (.ref c), some (.ref la), some (.ref dv), some (.ref fr), v4, v5, v6, v7, none] ∧ FactsAt P w CF H' fa (S ++ (Dx.tidy (freshF S fs)).take j) O2 ∧
          Fr O H3 H' ∧ (∀ b ∈ O2, b ∈ O ∨ H3 b = none) ∧ FactsAt P w CF H' fr (freshF S fs) OF)
        ⟨_, _, _, _, O, rfl, by rw [List.take_zero, List.append_nil]; exact hF.same s03, Fr.refl _ _, fun b hb => .inl hb, hF2.same s3⟩ (fun j σ H' _ ⟨_, _, _, _, _, _, _, f, _⟩ => SqL.of (f _ _ hp fun m => by
          obtain ⟨o, e⟩ := tO p m
          rw [hpH] at e; cases e)) ?_ ?_⟩
      · rintro j x σ H4 hj ⟨v4, v5, v6, v7, O2, rfl, hFa4, f4, n4, hFr4⟩
        obtain ⟨q, hq, rfl⟩ := map_get hj
        obtain ⟨g, hg, gat⟩ := paired_get hqs hq
        have noTO : NoTI H3 O := (hF.same s03).noTI
        have gat4 : FactAt H4 q g := f4 _ _ (s3 _ _ gat) fun m => (noTO _ m).1 _ (s3 _ _ gat)
        have hc4 : H4 c = some (.ins CC dx (cF fa lw n)) := f4 _ _ (s03 _ _ hc) fun m => (noTO _ m).2 _ _ _ (s03 _ _ hc)
        have hFa40 := hFa4
        obtain ⟨dx4, h4, lk4, es4, _, hfa4, _⟩ := hFa40
        refine ⟨_, rfl, c, CC, dx, _, _, rfl, hc4, T.cl, T.nF, cF_facts fa lw n, fa, dx4, _, rfl, hfa4, rfl, _, rfl, ?_⟩
        refine ⟨fa, q, _, O2, g, rfl, hFa4, gat4, by rw [List.length_append, List.length_take]; omega, fun hin => ?_, fun hout H5 O5 hF5 f5 n5 => ?_⟩
        · exfalso
          rcases List.mem_append.mp hin with z | z
          · exact ndS g (List.mem_of_getElem? hg) z
          · obtain ⟨i, hi, e⟩ := List.getElem_of_mem z
            rw [List.getElem_take] at e
            rw [List.length_take] at hi
            obtain ⟨hl, e2⟩ := List.getElem?_eq_some_iff.mp hg
            have : i = j := (List.getElem_inj ndT).mp (e.trans e2.symm)
            omega
        · have b3 : ∀ b o, H3 b = some o → b ∉ O → b ∉ O2 := fun b o e nb m => by
            rcases n4 b m with z | z
            · exact nb z
            · rw [z] at e; cases e
          refine ⟨_, _, _, _, O5, rfl, by rw [take_succ' hg, ← List.append_assoc]; exact hF5, fun b o e nb => f5 _ _ (f4 _ _ e nb) (b3 b o e nb), fun b hb => ?_, hFr4.frD f5 hFa4.noTI fun b hb m => ?_⟩
          · rcases n5 b hb with z | z
            · exact n4 b z
            · cases e : H3 b with
              | none => exact .inr rfl
              | some o =>
                by_cases m : b ∈ O
                · exact .inl m
                · have := f4 _ _ e m
                  rw [z] at this; cases this
          · obtain ⟨o, e⟩ := tF3 b hb
            rcases n4 b m with z | z
            · obtain ⟨o2, e2⟩ := tO b z
              rw [fOF b hb] at e2; cases e2
            · rw [z] at e; cases e
      · rintro σ H4 ⟨v4, v5, v6, v7, O4, rfl, hFa4, f4, n4, hFr4⟩
        have et2 : (Dx.tidy (freshF S fs)).take (qs.map V.ref).length = Dx.tidy (freshF S fs) := List.take_of_length_le (by rw [List.length_map, Paired.length hqs]; exact Nat.le_refl _)
        rw [et2] at hFa4
        have hFaS : FactsAt P w CF H4 fa (putF S fs) O4 := hFa4
        have noTO : NoTI H3 O := (hF.same s03).noTI
        have hc4 : H4 c = some (.ins CC dx (cF fa lw n)) := f4 _ _ (s03 _ _ hc) fun m => (noTO _ m).2 _ _ _ (s03 _ _ hc)
        have hlw4 : H4 lw = some (.lst (wl.map fun t => V.ref t.1)) := f4 _ _ (s03 _ _ hlw) nlw
        have s04 : Same H0 H4 := fun b o e => f4 _ _ (s03 _ _ (s0 _ _ e)) fun m => by rw [old b m] at e; cases e
        have wa4 : ∀ (i : Nat) (r : Dx.Rule) (W : Wt) (t : Addr × Addr × Addr), rs[i]? = some r → ws[i]? = some W → wl[i]? = some t → WAt C CR H0 H4 t r W := fun i r W t h1 h2 h3 =>
          ((wa i r W t h1 h2 h3).same s03).fr f4 noTO (dis _ (mem_dicts h3).1) (dis _ (mem_dicts h3).2)
        have disO4 : ∀ b ∈ dicts wl, b ∉ O4 := fun b hb m => by
          rcases n4 b m with z | z
          · exact dis b hb z
          · obtain ⟨kv, e⟩ := tD b hb
            rw [s03 _ _ e] at z; cases z
        have disOF : ∀ b ∈ dicts wl, b ∉ OF := fun b hb m => by
          obtain ⟨kv, e⟩ := tD b hb
          rw [fOF b m] at e; cases e
        have nlw4 : lw ∉ O4 := fun m => by
          rcases n4 lw m with z | z
          · exact nlw z
          · rw [s03 _ _ hlw] at z; cases z
        have lPut : (putF S fs).length ≤ 202 := by have := putF_len S fs; omega
        have lFr : (freshF S fs).length ≤ 202 := by have := freshF_len S fs; omega
        refine ⟨_, rfl, c, CC, dx, _, _, rfl, hc4, T.cl, T.nW, cF_watches fa lw n, lw, rfl, ⟨_, SqL.of hlw4⟩, for_list (K := K) (a := lw) (xs := wl.map fun t => V.ref t.1) (fun j σ H' => ∃ v4 v5 v6 v7 v8, σ = [some (.ref c), some (.ref la), some (.ref dv), some (.ref fr), v4, v5, v6, v7, v8] ∧ Fr (dicts wl) H4 H' ∧
            FactsAt P w CF H' fa (putF S fs) O4 ∧ FactsAt P w CF H' fr (freshF S fs) OF ∧ (∀ (i : Nat) (r : Dx.Rule) (W : Wt) (t : Addr × Addr × Addr), rs[i]? = some r → ws[i]? = some W → wl[i]? = some t → WAt C CR H0 H' t r (if i < j then meetW r W (freshF S fs) (putF S fs) else W)))
          ⟨_, _, _, _, _, rfl, Fr.refl _ _, hFaS, hFr4, fun i r W t h1 h2 h3 => by rw [if_neg (Nat.not_lt_zero _)]; exact wa4 i r W t h1 h2 h3⟩ (fun j σ H' _ ⟨_, _, _, _, _, _, f, _⟩ => SqL.of (f _ _ hlw4 fun m => by
            obtain ⟨kv, e⟩ := tD lw m
            rw [hlw] at e; cases e)) ?_ ?_⟩
        · rintro j x σ H5 hj ⟨v4, v5, v6, v7, v8, rfl, f5, hFa5, hFr5, wa5⟩
          obtain ⟨t, ht, rfl⟩ := map_get hj
          have jl : j < wl.length := (List.getElem?_eq_some_iff.mp ht).1
          have er : rs[j]? = some rs[j] := List.getElem?_eq_getElem (by omega)
          have ew : ws[j]? = some ws[j] := List.getElem?_eq_getElem (by omega)
          have hWj := wa5 j _ _ t er ew ht
          rw [if_neg (Nat.lt_irrefl _)] at hWj
          have tD4 : ∀ b ∈ dicts wl, ∃ kvs, H4 b = some (.dT kvs) := fun b hb => by
            obtain ⟨kv, e⟩ := tD b hb
            exact ⟨kv, f4 _ _ (s03 _ _ e) (dis b hb)⟩
          have hc5 := f5.keeps tD4 hc4 (fun _ z => nomatch z)
          have s05 : Same H0 H5 := fun b o e => f5 _ _ (s04 _ _ e) fun m => by rw [oldd b m] at e; cases e
          have hWj0 := hWj
          obtain ⟨dxj, raj, kvj, w1, w2, w3, w4, w5, w6⟩ := hWj0
          obtain ⟨hl1, hl2⟩ := hws j _ _ er ew
          obtain ⟨hb1, hb2⟩ := hrs rs[j] (List.mem_of_getElem? er)
          have md := mem_dicts ht
          refine ⟨_, rfl, t.1, dxj, _, rfl, w1, rfl, _, rfl, _, rfl, c, CC, dx, _, _, rfl, hc5, T.cl, T.nF, cF_facts fa lw n, ?_⟩
          refine ⟨t.1, fr, fa, rs[j], ws[j], t.2.1, t.2.2, freshF S fs, putF S fs, OF, O4, rfl, hWj.watch s05, hFr5, hFa5, disOF _ md.2, disO4 _ md.2, lFr, lPut, hb1, hb2, hl1, hl2, fun H6 hW6 f6 => ?_⟩
          have nt6 : NoTI H5 [t.2.2] := fun b hb => by
            have : b = t.2.2 := by simpa using hb
            subst this
            exact noTI_of w4 (fun _ q => nomatch q) (fun _ _ _ q => nomatch q)
          refine ⟨_, _, _, _, _, rfl, fun b o e nb => f6 _ _ (f5 _ _ e nb) fun m => nb ?_, hFa5.fr f6 w4 (disO4 _ md.2), hFr5.fr f6 w4 (disOF _ md.2), fun i r W u h1 h2 h3 => ?_⟩
          · have : b = t.2.2 := by simpa using m
            subst this
            exact md.2
          · by_cases hij : i = j
            · subst hij
              rw [er] at h1; rw [ew] at h2; rw [ht] at h3
              cases h1; cases h2; cases h3
              rw [if_pos (Nat.lt_succ_self _)]
              exact hWj.back hW6 fun o e => f6 _ _ e fun m => (nt6 _ m).2 _ _ _ w1
            · have e1 : (i < j + 1) = (i < j) := by apply propext; omega
              rw [show (if i < j + 1 then meetW r W (freshF S fs) (putF S fs) else W) = (if i < j then meetW r W (freshF S fs) (putF S fs) else W) by simp only [e1]]
              have ne := dicts_ne ndd h3 ht hij
              exact (wa5 i r W u h1 h2 h3).fr f6 nt6 (by simpa using ne u.2.1 (by simp) t.2.2 (by simp)) (by simpa using ne u.2.2 (by simp) t.2.2 (by simp))
        · rintro σ H5 ⟨v4, v5, v6, v7, v8, rfl, f5, hFa5, hFr5, wa5⟩
          have tD4 : ∀ b ∈ dicts wl, ∃ kvs, H4 b = some (.dT kvs) := fun b hb => by
            obtain ⟨kv, e⟩ := tD b hb
            exact ⟨kv, f4 _ _ (s03 _ _ e) (dis b hb)⟩
          refine k H5 O4 ⟨⟨dx, fa, lw, f5.keeps tD4 hc4 (fun _ z => nomatch z), hFa5, f5.keeps tD4 hlw4 (fun _ z => nomatch z), nlw4⟩, fun b o e => f5 _ _ (s04 _ _ e) (fun m => by rw [oldd b m] at e; cases e), fun i r W t h1 h2 h3 => ?_, l1, by unfold metAll; rw [List.length_map, List.length_zip]; omega, ndd, disO4, fun b hb => ?_, oldd, oldc⟩
          · have il : i < ws.length := by have := (List.getElem?_eq_some_iff.mp h1).1; omega
            have ew : ws[i]? = some ws[i] := List.getElem?_eq_getElem il
            have ez : (rs.zip ws)[i]? = some (r, ws[i]) := List.getElem?_zip_eq_some.mpr ⟨h1, ew⟩
            unfold metAll at h2
            rw [List.getElem?_map, ez] at h2
            have h2' : meetW r ws[i] (freshF S fs) (putF S fs) = W := Option.some.inj h2
            have q := wa5 i r _ t h1 ew h3
            rw [if_pos (by rw [List.length_map]; exact (List.getElem?_eq_some_iff.mp h3).1), h2'] at q
            exact q
          · rcases n4 b hb with z | z
            · exact old b z
            · cases e : H0 b with
              | none => rfl
              | some o => have := s03 _ _ (s0 _ _ e); rw [z] at this; cases this
end
end Rb

/-! ## C3 -/
set_option Elab.async false
set_option linter.all false
set_option maxRecDepth 100000
set_option maxHeartbeats 8000000
/-! C3: Chase.take_step. -/
namespace Rb
open PySem PySem.Spec PyProof.Rows L2
open Dx (Fact Facts Atom Fill)
section
variable {P : Program} {w : World} {CC C CR CF : Addr} {H0 H H' : Hp} {c : Addr} {S : List Fact} {ws : List Wt} {rs : List Dx.Rule} {wl : WL} {O : List Addr} {n : Nat}
theorem ChaseAt.tD (h : ChaseAt P w CC C CR CF H0 H c S ws rs wl O n) : ∀ b ∈ dicts wl, ∃ kvs, H b = some (.dT kvs) := fun b hb => by
  have hl1 := h.l1
  have hl2 := h.l2
  obtain ⟨t, ht, hb⟩ := List.mem_flatMap.mp hb
  obtain ⟨i, hi, e⟩ := List.getElem_of_mem ht
  have ei : wl[i]? = some t := by rw [← e]; exact List.getElem?_eq_getElem hi
  have er : rs[i]? = some (rs[i]'(by omega)) := List.getElem?_eq_getElem (show i < rs.length by omega)
  have ew : ws[i]? = some (ws[i]'(by omega)) := List.getElem?_eq_getElem (show i < ws.length by omega)
  obtain ⟨_, _, kv, _, _, z3, z4, _⟩ := h.wa i _ _ t er ew ei
  have : b = t.2.1 ∨ b = t.2.2 := by simpa using hb
  rcases this with rfl | rfl
  · exact ⟨_, z3⟩
  · exact ⟨_, z4⟩
theorem ChaseAt.sameH (h : ChaseAt P w CC C CR CF H0 H c S ws rs wl O n) (s : Same H H') : ChaseAt P w CC C CR CF H0 H' c S ws rs wl O n := by
  obtain ⟨⟨dx, fa, lw, hc, hF, hlw, nlw⟩, s0, wa, l1, l2, ndd, dis, old, oldd, oldc⟩ := h
  exact ⟨⟨dx, fa, lw, s _ _ hc, hF.same s, s _ _ hlw, nlw⟩, s0.trans s, fun i r W t h1 h2 h3 => (wa i r W t h1 h2 h3).same s, l1, l2, ndd, dis, old, oldd, oldc⟩
/-- one watch changes its dicts -/
theorem ChaseAt.one (h : ChaseAt P w CC C CR CF H0 H c S ws rs wl O n) {i : Nat} {r : Dx.Rule} {W' : Wt} {t : Addr × Addr × Addr} (hr : rs[i]? = some r) (ht : wl[i]? = some t) (f : Fr [t.2.1, t.2.2] H H') (hW : WatchAt C CR H' t.1 r W' t.2.1 t.2.2) : ChaseAt P w CC C CR CF H0 H' c S (ws.set i W') rs wl O n := by
  have td := h.tD
  obtain ⟨⟨dx, fa, lw, hc, hF, hlw, nlw⟩, s0, wa, l1, l2, ndd, dis, old, oldd, oldc⟩ := h
  have md := mem_dicts ht
  have hd : ∀ b ∈ [t.2.1, t.2.2], ∃ kvs, H b = some (.dT kvs) := fun b hb => td b (by
    have : b = t.2.1 ∨ b = t.2.2 := by simpa using hb
    rcases this with rfl | rfl
    · exact md.1
    · exact md.2)
  have nt : NoTI H [t.2.1, t.2.2] := fun b hb => by
    obtain ⟨kv, e⟩ := hd b hb
    exact noTI_of e (fun _ q => nomatch q) (fun _ _ _ q => nomatch q)
  refine ⟨⟨dx, fa, lw, f.keeps hd hc (fun _ z => nomatch z), hF.frs f hd fun b hb => dis b ?_, f.keeps hd hlw (fun _ z => nomatch z), nlw⟩, fun b o e => f _ _ (s0 _ _ e) fun m => ?_, fun j r' W u h1 h2 h3 => ?_, l1, by simp [l2], ndd, dis, old, oldd, oldc⟩
  · have : b = t.2.1 ∨ b = t.2.2 := by simpa using hb
    rcases this with rfl | rfl
    · exact md.1
    · exact md.2
  · have hb := oldd b (by
      have : b = t.2.1 ∨ b = t.2.2 := by simpa using m
      rcases this with rfl | rfl
      · exact md.1
      · exact md.2)
    rw [hb] at e; cases e
  · by_cases e : j = i
    · subst e
      rw [hr] at h1; rw [ht] at h3
      cases h1; cases h3
      have jl : j < ws.length := by have := (List.getElem?_eq_some_iff.mp ht).1; omega
      have ew : ws[j]? = some ws[j] := List.getElem?_eq_getElem jl
      rw [List.getElem?_set_self jl] at h2
      cases h2
      exact (wa j _ _ t hr ew ht).back hW fun o e => f _ _ e fun m => by
        obtain ⟨kv, e2⟩ := hd _ m
        obtain ⟨dxj, raj, kvj, w1, _⟩ := wa j _ _ t hr ew ht
        rw [w1] at e2; cases e2
    · rw [List.getElem?_set_ne (fun z => e z.symm)] at h2
      have ne := dicts_ne ndd h3 ht e
      refine (wa j r' W u h1 h2 h3).fr f nt (fun m => ?_) (fun m => ?_)
      · exact ne u.2.1 (by simp) _ m rfl
      · exact ne u.2.2 (by simp) _ m rfl
/-- the next unknown value changes -/
theorem ChaseAt.setN (h : ChaseAt P w CC C CR CF H0 H c S ws rs wl O n) (m : Nat) {dx fa lw : Addr} (e : H c = some (.ins CC dx (cF fa lw n))) : ChaseAt P w CC C CR CF H0 (upd H c (.ins CC dx (cF fa lw m))) c S ws rs wl O m := by
  have oldc := h.oldc
  obtain ⟨⟨dx', fa', lw', hc, hF, hlw, nlw⟩, s0, wa, l1, l2, ndd, dis, old, oldd, _⟩ := h
  rw [e] at hc
  have e1 : dx = dx' ∧ cF fa lw n = cF fa' lw' n := by injection hc with hc; injection hc with _ a b; exact ⟨a, b⟩
  obtain ⟨rfl, e2⟩ := e1
  have e3 : fa = fa' ∧ lw = lw' := by
    unfold cF at e2
    injection e2 with a b
    injection b with b _
    injection a with _ a
    injection b with _ b
    injection a with a
    injection b with b
    exact ⟨a, b⟩
  obtain ⟨rfl, rfl⟩ := e3
  have k : ∀ b o, H b = some o → b ≠ c → upd H c (.ins CC dx (cF fa lw m)) b = some o := fun b o e n => by rw [upd_ne n]; exact e
  have nfa : fa ≠ c := fun z => by
    obtain ⟨_, _, _, _, _, ha, _⟩ := hF
    rw [z, e] at ha
    injection ha with ha
    injection ha with _ _ q
    exact nomatch q
  refine ⟨⟨dx, fa, lw, upd_same, hF.but e nfa k, k _ _ hlw (ne_of hlw e (fun z => nomatch z)), nlw⟩, fun b o eb => k _ _ (s0 _ _ eb) (fun z => by rw [z, oldc] at eb; cases eb), fun i r W t h1 h2 h3 => (wa i r W t h1 h2 h3).but e (fun z => ?_) k, l1, l2, ndd, dis, old, oldd, oldc⟩
  obtain ⟨dxj, raj, kvj, w1, _⟩ := wa i r W t h1 h2 h3
  rw [z, e] at w1
  injection w1 with w1
  injection w1 with _ _ q
  unfold cF wF at q
  injection q with q
  injection q with q
  exact absurd q (by decide +kernel)
/-- a dict of variables changes -/
theorem ChaseAt.dK (h : ChaseAt P w CC C CR CF H0 H c S ws rs wl O n) {p : Addr} {kv : List (L2.Key × V)} (e : H p = some (.dK kv)) (h0 : H0 p = none) (kv' : List (L2.Key × V)) : ChaseAt P w CC C CR CF H0 (upd H p (.dK kv')) c S ws rs wl O n := by
  have td := h.tD
  obtain ⟨⟨dx, fa, lw, hc, hF, hlw, nlw⟩, s0, wa, l1, l2, ndd, dis, old, oldd, oldc⟩ := h
  have f : Fr [p] H (upd H p (.dK kv')) := fun b o eb n => by rw [upd_ne (by simpa using n)]; exact eb
  have nt : NoTI H [p] := fun b hb => by
    have : b = p := by simpa using hb
    subst this
    exact noTI_of e (fun _ q => nomatch q) (fun _ _ _ q => nomatch q)
  have np : ∀ {b o}, H b = some o → (∀ q, o ≠ .dK q) → b ∉ [p] := fun {b o} eb nq m => by
    have : b = p := by simpa using m
    subst this
    rw [e] at eb
    exact nq _ (Option.some.inj eb).symm
  refine ⟨⟨dx, fa, lw, f _ _ hc (np hc fun _ z => nomatch z), hF.frD f nt fun b hb m => ?_, f _ _ hlw (np hlw fun _ z => nomatch z), nlw⟩, fun b o eb => f _ _ (s0 _ _ eb) fun m => ?_, fun i r W t h1 h2 h3 => ?_, l1, l2, ndd, dis, old, oldd, oldc⟩
  · have : b = p := by simpa using m
    subst this
    obtain ⟨dxF, hh, lk, es, hO, ha, hhh, hlk, L⟩ := hF
    rw [hO] at hb
    rcases List.mem_cons.mp hb with rfl | hb
    · rw [hhh] at e; cases e
    · rcases List.mem_cons.mp hb with rfl | hb
      · rw [hlk] at e; cases e
      · obtain ⟨e0, he0, rfl⟩ := List.mem_map.mp hb
        obtain ⟨qs, z, _⟩ := L.val e0 he0
        rw [z] at e; cases e
  · have : b = p := by simpa using m
    subst this
    rw [h0] at eb; cases eb
  · have q := wa i r W t h1 h2 h3
    have q0 := q
    obtain ⟨dxj, raj, kvj, w1, w2, w3, w4, _⟩ := q0
    exact q.fr f nt (np w3 fun _ z => nomatch z) (np w4 fun _ z => nomatch z)
end
theorem opened_snoc : ∀ (vs : List Nat) (s : Fill) (n v : Nat), Dx.opened s (vs ++ [v]) n = Dx.opened s vs n ++ [(v, n + vs.length)]
  | [], s, n, v => by simp [Dx.opened]
  | x :: vs, s, n, v => by
    rw [List.cons_append, Dx.opened, opened_snoc vs, Dx.opened, List.length_cons]
    congr 3
    omega
theorem opened_keys : ∀ (vs : List Nat) (s : Fill) (n : Nat), (Dx.opened s vs n).map (·.1) = s.map (·.1) ++ vs
  | [], s, n => by simp [Dx.opened]
  | x :: vs, s, n => by rw [Dx.opened, opened_keys vs, List.map_append]; simp
theorem opened_len (vs : List Nat) (s : Fill) (n : Nat) : (Dx.opened s vs n).length = s.length + vs.length := by
  have := congrArg List.length (opened_keys vs s n)
  simpa using this
theorem nodup_open (r : Dx.Rule) : r.open_.Nodup := List.Nodup.sublist List.filter_sublist (nodup_places _)
def nCStep : List Str := ["self", "watch", "values", "variable"]
theorem scCStep : FnScope nCStep ["self"] (defScope sCStep) := ⟨rfl, rfl, rfl, by decide +kernel, rfl, by decide +kernel, by decide +kernel⟩
def spCStep (P : Program) (w : World) (CC C CR CF : Addr) : Sp := fun vs H Q _ => ∃ (c : Addr) (H0 : Hp) (S : List Fact) (ws : List Wt) (rs : List Dx.Rule) (wl : WL) (O : List Addr) (cnt : Nat) (x : Dx05.State), vs = [.ref c] ∧ ChaseAt P w CC C CR CF H0 H c S ws rs wl O x.next ∧ CInv rs cnt x S ws ∧ (∀ r ∈ rs, RuleOk r) ∧
  (Dx05.once rs x ≠ none → cnt < 100) ∧ cnt ≤ 100 ∧
  (Dx05.once rs x = none → ∀ (H' : Hp) (ws' : List Wt), ChaseAt P w CC C CR CF H0 H' c S ws' rs wl O x.next → CInv rs cnt x S ws' → Q (.bl false) H') ∧
  (∀ (y : Dx05.State) (j : Nat), Dx05.once rs x = some (y, j) → ∀ (H' : Hp) (S' : List Fact) (ws' : List Wt) (O' : List Addr), ChaseAt P w CC C CR CF H0 H' c S' ws' rs wl O' y.next → CInv rs (cnt + 1) y S' ws' → Q (.bl true) H')
section
variable {P : Program} {w : World} {K : PySem.W.Frag} {mg : Str → Option Value} {base : Heap} {CC C CR CF : Addr}
theorem ok_cstep {f : Addr} {fd : FuncData} (F : Fun K "take_step" "Chase.take_step" sCStep f fd) (T : CTxt K mg CC) (TW : WTxt K mg C) (TR : RTxt K mg CR)
    (GF : MeB P w K mg base CX0 C "first_failing" ["self", "facts"] 5 (spWFirst P w C CR CF)) (GP : MeB P w K mg base CX0 CC "put_atoms" ["self", "atoms", "values"] 4 (spCPut P w CC C CR CF)) :
    FnOk P w K mg base CX0 6 f fd ["self"] (spCStep P w CC C CR CF) := by
  refine F.ok scCStep (fun vs H Q E h => ?_) (fun cdv A outer s H vs Q E hr h => ?_)
  · obtain ⟨c, H0, S, ws, rs, wl, O, cnt, x, rfl, _⟩ := h
    rfl
  · have nd : nCStep.Nodup := scCStep.nd
    have hu := hu_of hr
    have hr4 : Room 4 _ := hr.mono (by decide)
    refine ⟨_, pss_cons (ps_for PassesOwn.never rfl (pi_list (pe_fld (pv 0) rfl)) (pg_name (i := 1) nd rfl (Or.inl rfl))
        (pss_cons (ps_set (i := 2) nd rfl (Or.inl rfl) (pe_methF (pv 1) TW.cl GF hr pass0 (pa_cons (pe_fld (pv 0) rfl) pa_nil)))
        (pss_one (ps_if (pt_cmp (pc_notN (pv 2)))
          (pss_cons (ps_for PassesOwn.never rfl (pi_list (pe_fld (pe_fld (pv 1) rfl) rfl)) (pg_name (i := 3) nd rfl (Or.inl rfl))
            (pss_cons (ps_dput hu (pv 2) (pv 3) (pe_fld (pv 0) rfl) rfl)
            (pss_one (ps_fldaug (pv 0) pe_int in_add))))
          (pss_cons (ps_expr (pe_methF (pv 0) T.cl GP hr4 pass0 (pa_cons (pe_fld (pe_fld (pv 1) rfl) rfl) (pa_cons (pv 2) pa_nil))))
          (pss_one (ps_ret pe_bl)))) pss_nil))))
      (pss_one (ps_ret pe_bl)), ?_⟩
    obtain ⟨c, H0, S, ws, rs, wl, O, cnt, x, rfl, hC, hI, hok, hlt, hcn, kn, ks⟩ := h
    have hCo := hC
    obtain ⟨⟨dx, fa, lw, hc, hF, hlw, nlw⟩, _⟩ := hCo
    have l1 := hC.l1
    refine ⟨_, rfl, c, CC, dx, _, _, rfl, hc, T.cl, T.nW, cF_watches fa lw x.next, lw, rfl, ⟨_, SqL.of hlw⟩, for_list (K := K) (a := lw) (xs := wl.map fun t => V.ref t.1) (fun i σ H' => ∃ v1 v2 v3 ws', σ = [some (.ref c), v1, v2, v3] ∧ ChaseAt P w CC C CR CF H0 H' c S ws' rs wl O x.next ∧ H' lw = some (.lst (wl.map fun t => V.ref t.1)) ∧
        (∀ (j : Nat) (r : Dx.Rule) (W : Wt), rs[j]? = some r → ws'[j]? = some W → WInv r S (fun _ => True) W ∧ wsize W ≤ WB * (cnt + 1)) ∧ ∀ (j : Nat) (q : Dx.Rule), j < i → rs[j]? = some q → findR x.facts q = none)
      ⟨none, none, none, ws, rfl, hC, hlw, hI.wi, fun j q h => absurd h (Nat.not_lt_zero _)⟩ (fun i σ H' _ ⟨_, _, _, _, _, _, q, _⟩ => SqL.of q) ?_ ?_⟩
    · rintro i y σ H1 hi ⟨v1, v2, v3, ws1, rfl, hC1, hlw1, wi1, fn1⟩
      obtain ⟨t, ht, rfl⟩ := map_get hi
      have il : i < wl.length := (List.getElem?_eq_some_iff.mp ht).1
      have l2 := hC1.l2
      have er : rs[i]? = some (rs[i]'(by omega)) := List.getElem?_eq_getElem (by omega)
      have ew : ws1[i]? = some (ws1[i]'(by omega)) := List.getElem?_eq_getElem (by omega)
      generalize rs[i]'(by omega) = r at er
      generalize ws1[i]'(by omega) = W at ew
      have ok := hok r (List.mem_of_getElem? er)
      have hWA := hC1.wa i r W t er ew ht
      have hWA0 := hWA
      obtain ⟨dxw, ra, kvw, w1, w2, w3, w4, w5, w6⟩ := hWA0
      have hC1o := hC1
      obtain ⟨⟨dx1, fa1, lw1, hc1, hF1, _, _⟩, s01, _, _, _, ndd, dis, _, oldd, oldc⟩ := hC1o
      have md := mem_dicts ht
      obtain ⟨hwi, hws⟩ := wi1 i r W er ew
      have wsz : wsize W < 16000000 := by unfold WB at hws; omega
      have lS : S.length ≤ 1000 := by have := hI.sz; omega
      refine ⟨_, rfl, t.1, dxw, _, rfl, w1, rfl, _, rfl, c, CC, dx1, _, _, rfl, hc1, T.cl, T.nF, cF_facts fa1 lw1 x.next, ?_⟩
      refine ⟨t.1, fa1, r, W, t.2.1, t.2.2, S, x.facts, O, rfl, hWA.watch s01, hF1, dis _ md.1, dis _ md.2, hwi, hI.so, hI.me, lS, by have := shared_len ok; omega, (right_len ok.h).2, wsz, fun H2 W2 fnone hW2 i2 z2 f2 => ?_, fun H2 W2 sf m k p fsome hrun hkey hW2 i2 z2 f2 hp1 hp2 => ?_⟩
      · -- None
        refine ⟨_, rfl, _, rfl, ifF (by simp) ?_⟩
        refine ⟨_, _, _, ws1.set i W2, rfl, hC1.one er ht f2 hW2, f2.keeps (fun b hb => ?_) hlw1 (fun _ z => nomatch z), fun j q V hq hV => ?_, fun j q hj hq => ?_⟩
        · have : b = t.2.1 ∨ b = t.2.2 := by simpa using hb
          rcases this with rfl | rfl
          · exact ⟨_, w3⟩
          · exact ⟨_, w4⟩
        · by_cases e : j = i
          · subst e
            rw [er] at hq; cases hq
            rw [List.getElem?_set_self (by omega)] at hV
            cases hV
            exact ⟨i2, by omega⟩
          · rw [List.getElem?_set_ne (fun z => e z.symm)] at hV
            exact wi1 j q V hq hV
        · by_cases e : j = i
          · subst e
            rw [er] at hq; cases hq
            exact fnone
          · exact fn1 j q (by omega) hq
      · -- values
        have hC2 := hC1.one er ht f2 hW2
        have wi2 : ∀ (j : Nat) (q : Dx.Rule) (V : Wt), rs[j]? = some q → (ws1.set i W2)[j]? = some V → WInv q S (fun _ => True) V ∧ wsize V ≤ WB * (cnt + 1) := fun j q V hq hV => by
          by_cases e : j = i
          · subst e
            rw [er] at hq; cases hq
            rw [List.getElem?_set_self (by omega)] at hV
            cases hV
            exact ⟨i2, by omega⟩
          · rw [List.getElem?_set_ne (fun z => e z.symm)] at hV
            exact wi1 j q V hq hV
        have l22 : (ws1.set i W2).length = rs.length := by simp [l2]
        generalize ws1.set i W2 = ws2 at hC2 wi2 l22
        have lk := lacks_some er fsome fn1
        have on := once_some lk er
        have hcl := hlt (by rw [on]; exact fun z => nomatch z)
        have hp0 : H0 p = none := s01.free hp1
        have klen : k.length = (shared r).length := by rw [← hkey, length_keyOf]
        refine ⟨_, rfl, _, rfl, ifT (by simp) ?_⟩
        have ew2 : ws2[i]? = some (ws2[i]'(by omega)) := List.getElem?_eq_getElem (by omega)
        have hWA2 := hC2.wa i r _ t er ew2 ht
        obtain ⟨dxw2, ra2, kvw2, g1, ⟨dr, lb, lh, ls, le, r1, r2, r3, r4, r5⟩, _⟩ := hWA2
        have s02 := hC2.same
        refine ⟨_, rfl, t.1, C, dxw2, _, _, rfl, g1, TW.cl, TW.nW, wF_watched ra2 t.2.1 t.2.2, ra2, CR, dr, _, _, rfl, s02 _ _ r1, TR.cl, TR.nE, rF_ex lb lh ls le, le, rfl, ⟨_, SqL.of (s02 _ _ r5)⟩, for_list (K := K) (a := le) (xs := r.open_.map nI) (fun q σ H' => ∃ v3, σ = [some (.ref c), some (.ref t.1), some (.ref p), v3] ∧ ChaseAt P w CC C CR CF H0 H' c S ws2 rs wl O (x.next + q) ∧ H' p = some (.dK (fillK (Dx.opened (fillOf r k) (r.open_.take q) x.next))))
          ⟨_, rfl, hC2, hp2⟩ (fun q σ H' _ ⟨_, _, h, _⟩ => SqL.of (h.same _ _ r5)) ?_ ?_⟩
        · rintro q y σ H3 hq ⟨v3, rfl, hC3, hp3⟩
          obtain ⟨v, hv, rfl⟩ := map_get hq
          have hC3o := hC3
          obtain ⟨⟨dx3, fa3, lw3, hc3, _⟩, _⟩ := hC3o
          have ql : q < r.open_.length := (List.getElem?_eq_some_iff.mp hv).1
          have lzip : (fillOf r k).length = (shared r).length := by unfold fillOf; rw [List.length_zip]; omega
          have hol : (Dx.opened (fillOf r k) (r.open_.take q) x.next).length ≤ 20 := by
            rw [opened_len, lzip, List.length_take]
            have := open_len ok
            have := shared_len ok
            omega
          have hnone : Fill.at_ (Dx.opened (fillOf r k) (r.open_.take q) x.next) v = none := by
            rw [at_none_iff, opened_keys]
            intro z
            rcases List.mem_append.mp z with z | z
            · unfold fillOf at z
              rw [zip_fst klen.symm] at z
              exact (mem_open.mp (List.mem_of_getElem? hv)).2 (mem_shared.mp z).1
            · obtain ⟨j, hj, e⟩ := List.getElem_of_mem z
              rw [List.getElem_take] at e
              rw [List.length_take] at hj
              obtain ⟨hl, e2⟩ := List.getElem?_eq_some_iff.mp hv
              have : j = q := (List.getElem_inj (nodup_open r)).mp (e.trans e2.symm)
              omega
          refine ⟨_, rfl, c, CC, dx3, _, _, rfl, hc3, T.cl, T.nU, cF_unknown fa3 lw3 _, _, rfl, _, rfl, p, _, rfl, DPut.k (k := vk v) hp3 (by rw [fillK_len]; exact big_lt (by omega)), ?_⟩
          rw [fillK_put hnone]
          have eop : Dx.opened (fillOf r k) (r.open_.take (q + 1)) x.next = Dx.opened (fillOf r k) (r.open_.take q) x.next ++ [(v, x.next + q)] := by
            rw [take_succ' hv, opened_snoc, List.length_take]
            congr 3
            omega
          rw [← eop]
          have hC4 := hC3.dK hp3 hp0 (fillK (Dx.opened (fillOf r k) (r.open_.take (q + 1)) x.next))
          have ncp : c ≠ p := ne_of hc3 hp3 (fun z => nomatch z)
          have hc4 : upd H3 p (.dK (fillK (Dx.opened (fillOf r k) (r.open_.take (q + 1)) x.next))) c = some (.ins CC dx3 (cF fa3 lw3 (x.next + q))) := by rw [upd_ne ncp]; exact hc3
          refine ⟨_, rfl, c, CC, dx3, _, _, rfl, hc4, T.cl, T.nU, cF_unknown fa3 lw3 _, _, _, rfl, rfl, dx3, _, hc4, (by show 3 < 1000; decide), ?_⟩
          exact ⟨_, rfl, hC4.setN (x.next + q + 1) hc4, by rw [upd_ne ncp.symm, upd_same]⟩
        · rintro σ H3 ⟨v3, rfl, hC3, hp3⟩
          rw [List.length_map] at hC3 hp3
          rw [List.take_length] at hp3
          have ew3 : ws2[i]? = some (ws2[i]'(by omega)) := List.getElem?_eq_getElem (by omega)
          have hWA3 := hC3.wa i r _ t er ew3 ht
          obtain ⟨dxw3, ra3, kvw3, g31, ⟨dr3, lb3, lh3, ls3, le3, r31, r32, r33, r34, r35⟩, _⟩ := hWA3
          have s03 := hC3.same
          have hC3o := hC3
          obtain ⟨⟨dx3, fa3, lw3, hc3, _⟩, _⟩ := hC3o
          refine ⟨_, rfl, c, dx3, _, rfl, hc3, rfl, _, rfl, t.1, C, dxw3, _, _, rfl, g31, TW.cl, TW.nW, wF_watched ra3 t.2.1 t.2.2, ra3, CR, dr3, _, _, rfl, s03 _ _ r31, TR.cl, TR.nH, rF_head lb3 lh3 ls3 le3, _, rfl, ?_⟩
          refine ⟨c, lh3, p, H0, S, ws2, rs, wl, O, x.next + r.open_.length, r.head, vals r k x.next, rfl, hC3, r33.same s03, hp3, fun a ha => ⟨vals_at x.next klen (mem_places.mpr ⟨a, ha, .inl rfl⟩), vals_at x.next klen (mem_places.mpr ⟨a, ha, .inr rfl⟩)⟩, (right_len ok.h).2, ?_, fun q hq => ?_, fun j q V hq hV => ?_, fun H4 O4 hC4 => ?_⟩
          · have := hI.sz
            have := (right_len ok.h).2
            omega
          · have okq := hok q hq
            exact ⟨(right_len okq.b).2, by have := shared_len okq; omega⟩
          · obtain ⟨c1, c2⟩ := wi2 j q V hq hV
            refine ⟨fun kk nn hk => ?_, by unfold WB at c2; omega⟩
            obtain ⟨_, ss, hr2, _⟩ := c1.val kk nn hk
            exact runm_len hr2
          · obtain ⟨y, hy1, hy2, hy3⟩ := hI.step hok hcl l22 wi2 er fn1 fsome hkey hrun
            rw [← hy2] at hC4
            exact ks y i hy1 H4 _ _ O4 hC4 hy3
    · rintro σ H1 ⟨v1, v2, v3, ws1, rfl, hC1, hlw1, wi1, fn1⟩
      have on := once_none (lacks_none (l := x.facts) (rs := rs) fun j q hq => fn1 j q (by
        rw [List.length_map]
        have := (List.getElem?_eq_some_iff.mp hq).1
        omega) hq)
      exact kn on H1 ws1 hC1 ⟨hI.so, hI.me, hI.nd, hI.sz, hI.nx, hC1.l2, wi1⟩
end
end Rb

/-! ## C4 -/
set_option Elab.async false
set_option linter.all false
set_option maxRecDepth 100000
set_option maxHeartbeats 8000000
/-! C4: body_values, shown_by, consequences. -/
namespace Rb
open PySem PySem.Spec PyProof.Rows L2
open Dx (Fact Facts Atom Fill)
abbrev sBody : Stmt := topS 24
abbrev sCons : Stmt := topS 25
abbrev sShown : Stmt := topS 26
theorem scBody : FnScope ["rule", "values", "variable"] ["rule"] (defScope sBody) := ⟨rfl, rfl, rfl, by decide +kernel, rfl, by decide +kernel, by decide +kernel⟩
theorem scCons : FnScope ["rule", "rules", "chase", "running"] ["rule", "rules"] (defScope sCons) := ⟨rfl, rfl, rfl, by decide +kernel, rfl, by decide +kernel, by decide +kernel⟩
theorem scShown : FnScope ["rule", "facts"] ["rule", "facts"] (defScope sShown) := ⟨rfl, rfl, rfl, by decide +kernel, rfl, by decide +kernel, by decide +kernel⟩
theorem sub_keys (l : List Atom) : (Dx06.subOf l).map (·.1) = Dx.places l := by
  unfold Dx06.subOf
  rw [List.map_map]
  exact (List.map_congr_left fun _ _ => rfl).trans (List.map_id _)
theorem sub_at {l : List Atom} {v : Nat} (h : v ∈ Dx.places l) : Fill.at_ (Dx06.subOf l) v = some (50 + v) := by
  unfold Dx06.subOf
  generalize Dx.places l = ps at h ⊢
  induction ps with
  | nil => simp at h
  | cons x r ih =>
    rw [List.map_cons, at_cons]
    by_cases e : x = v
    · rw [if_pos e, e]
    · rw [if_neg e]
      rcases List.mem_cons.mp h with q | q
      · exact absurd q.symm e
      · exact ih q
theorem frozen_eq (l : List Atom) : Dx06.frozen l = Dx.tidy (l.map (Dx.inst (Dx06.subOf l))) := by
  unfold Dx06.frozen
  congr 1
  apply List.map_congr_left
  intro a ha
  unfold Dx.inst
  rw [sub_at (mem_places.mpr ⟨a, ha, .inl rfl⟩), sub_at (mem_places.mpr ⟨a, ha, .inr rfl⟩)]
  rfl
def spBody (CR : Addr) : Sp := fun vs H Q _ => ∃ (ra : Addr) (r : Dx.Rule), vs = [.ref ra] ∧ RuleAt CR H ra r ∧ r.body.length ≤ 2 ∧
  ∀ (H' : Hp) (p : Addr), Same H H' → H p = none → H' p = some (.dK (fillK (Dx06.subOf r.body))) → Q (.ref p) H'
def spShown (P : Program) (w : World) (CR CF : Addr) : Sp := fun vs H Q _ => ∃ (ra fa : Addr) (r : Dx.Rule) (S : List Fact) (O : List Addr), vs = [.ref ra, .ref fa] ∧ RuleAt CR H ra r ∧ r.body.length ≤ 2 ∧ r.head.length ≤ 2 ∧ FactsAt P w CF H fa S O ∧ S.length ≤ 1000 ∧
  ∀ H' : Hp, Same H H' → Q (.bl (!(Dx.matches_ S r.head (Dx06.subOf r.body)).isEmpty)) H'
def spCons (P : Program) (w : World) (CR CF : Addr) : Sp := fun vs H Q _ => ∃ (ra lr : Addr) (r : Dx.Rule) (ras : List Addr) (rs : List Dx.Rule), vs = [.ref ra, .ref lr] ∧ RuleAt CR H ra r ∧ RuleOk r ∧ H lr = some (.lst (ras.map V.ref)) ∧ Paired (RuleAt CR H) ras rs ∧ (∀ q ∈ rs, RuleOk q) ∧ rs.length ≤ 1000 ∧ Dx06.ended 100 rs r = true ∧
  ∀ (H' : Hp) (fa : Addr) (S : List Fact) (O : List Addr), Same H H' → FactsAt P w CF H' fa S O → S.Nodup → (∀ f, f ∈ S ↔ f ∈ Dx06.comes rs r) → Sorted (Dx06.comes rs r) → S.length ≤ 1000 → Q (.ref fa) H'
structure BTxt (mg : Str → Option Value) : Prop where
  mB : ∃ t, mg "FIRST_BODY_VALUE" = some (.int 50 t)
section
variable {P : Program} {w : World} {K : PySem.W.Frag} {mg : Str → Option Value} {base : Heap} {CC C CR CF : Addr}
theorem ok_body {f : Addr} {fd : FuncData} (F : Fun K "body_values" "body_values" sBody f fd) (T : BTxt mg) (TR : RTxt K mg CR) (GV : FnB P w K mg base CX0 "variables_of" ["atoms"] 1 spVars) : FnOk P w K mg base CX0 2 f fd ["rule"] (spBody CR) := by
  refine F.ok scBody (fun vs H Q E h => ?_) (fun cdv A outer s H vs Q E hr h => ?_)
  · obtain ⟨ra, r, rfl, _⟩ := h
    rfl
  · have nd := scBody.nd
    have hu := hu_of hr
    obtain ⟨tB, mB⟩ := T.mB
    refine ⟨_, pss_cons (ps_set (i := 1) nd rfl (Or.inl rfl) pe_dnewK)
      (pss_cons (ps_for PassesOwn.never rfl (pi_list (pe_callF GV hr pass0 (pa_cons (pe_fld (pv 0) rfl) pa_nil))) (pg_name (i := 2) nd rfl (Or.inl rfl))
        (pss_one (ps_dput hu (pv 1) (pv 2) (pe_op op_add (pe_glob (v := .int 50) rfl mB ⟨_, rfl⟩) (pv 2)) rfl)))
      (pss_one (ps_ret (pv 1)))), ?_⟩
    obtain ⟨ra, r, rfl, ⟨dr, lb, lh, ls, le, r1, r2, r3, r4, r5⟩, hb2, k⟩ := h
    intro p hp
    have s1 : Same H (upd H p (.dK [])) := same_upd (Same.refl H) hp
    refine ⟨_, rfl, ra, CR, dr, _, _, rfl, s1 _ _ r1, TR.cl, TR.nB, rF_body lb lh ls le, lb, r.body, rfl, r2.same s1, by omega, fun H2 q s2 hq1 hq2 => ?_⟩
    have nqp : q ≠ p := (ne_of_none upd_same hq1).symm
    have s02 : Same H H2 := s1.trans s2
    refine ⟨q, rfl, ⟨_, SqL.of hq2⟩, for_list (K := K) (a := q) (xs := (Dx.places r.body).map nI) (fun i σ H' => ∃ v2, σ = [some (.ref ra), some (.ref p), v2] ∧ Same H H' ∧ H' q = some (.lst ((Dx.places r.body).map nI)) ∧ H' p = some (.dK (fillK ((Dx06.subOf r.body).take i))))
      ⟨none, rfl, s02, hq2, s2 _ _ upd_same⟩ (fun i σ H' _ ⟨_, _, _, e, _⟩ => SqL.of e) ?_ ?_⟩
    · rintro i x σ H3 hi ⟨v2, rfl, s3, hq3, hp3⟩
      obtain ⟨v, hv, rfl⟩ := map_get hi
      have hs : (Dx06.subOf r.body)[i]? = some (v, 50 + v) := by unfold Dx06.subOf; rw [List.getElem?_map, hv]; rfl
      have hnone : Fill.at_ ((Dx06.subOf r.body).take i) v = none := by
        rw [at_none_iff, List.map_take, sub_keys]
        intro z
        obtain ⟨j, hj, e⟩ := List.getElem_of_mem z
        rw [List.getElem_take] at e
        rw [List.length_take] at hj
        obtain ⟨hl, e2⟩ := List.getElem?_eq_some_iff.mp hv
        have : j = i := (List.getElem_inj (nodup_places r.body)).mp (e.trans e2.symm)
        omega
      have hl : ((Dx06.subOf r.body).take i).length ≤ 100 := by
        have h1 := congrArg List.length (sub_keys r.body)
        have h2 := places_len r.body
        rw [List.length_map] at h1
        rw [List.length_take]
        omega
      refine ⟨_, rfl, _, _, rfl, rfl, _, rfl, _, rfl, p, _, rfl, DPut.k (k := vk v) hp3 (by rw [fillK_len]; exact big_lt (by omega)), ?_⟩
      have ei : (V.int ((50 : Int) + (v : Int))) = nI (50 + v) := by
        show V.int _ = V.int _
        congr 1
      have ep : putK (fillK ((Dx06.subOf r.body).take i)) (vk v) ((fun (i j : Int) => V.int (i + j)) 50 (v : Int)) = fillK ((Dx06.subOf r.body).take (i + 1)) := by
        refine Eq.trans (congrArg _ ei) ?_
        rw [fillK_put hnone, ← take_succ' hs]
      rw [ep]
      refine ⟨_, rfl, fun b o e => ?_, by rw [upd_ne nqp]; exact hq3, upd_same⟩
      rw [upd_ne (ne_of_none e hp)]; exact s3 _ _ e
    · rintro σ H3 ⟨v2, rfl, s3, hq3, hp3⟩
      have et : (Dx06.subOf r.body).take ((Dx.places r.body).map nI).length = Dx06.subOf r.body := List.take_of_length_le (by
        have h1 := congrArg List.length (sub_keys r.body)
        rw [List.length_map] at h1 ⊢
        omega)
      rw [et] at hp3
      exact ⟨_, rfl, k H3 p s3 hp hp3⟩
theorem ok_shown {f : Addr} {fd : FuncData} (F : Fun K "shown_by" "shown_by" sShown f fd) (TR : RTxt K mg CR) (GB : FnB P w K mg base CX0 "body_values" ["rule"] 2 (spBody CR)) (GC : FnB P w K mg base CX0 "can_match" ["facts", "atoms", "values"] 4 (spCan P w CF 2)) :
    FnOk P w K mg base CX0 5 f fd ["rule", "facts"] (spShown P w CR CF) := by
  refine F.ok scShown (fun vs H Q E h => ?_) (fun cdv A outer s H vs Q E hr h => ?_)
  · obtain ⟨ra, fa, r, S, O, rfl, _⟩ := h
    rfl
  · have hr2 : Room 2 _ := hr.mono (by decide)
    refine ⟨_, pss_one (ps_ret (pe_callF GC hr pass0 (pa_cons (pv 1) (pa_cons (pe_fld (pv 0) rfl) (pa_cons (pe_callF GB hr2 pass0 (pa_cons (pv 0) pa_nil)) pa_nil))))), ?_⟩
    obtain ⟨ra, fa, r, S, O, rfl, hR, hb2, hh2, hF, hS, k⟩ := h
    have hR0 := hR
    obtain ⟨dr, lb, lh, ls, le, r1, r2, r3, r4, r5⟩ := hR0
    refine ⟨_, rfl, _, rfl, ra, CR, dr, _, _, rfl, r1, TR.cl, TR.nH, rF_head lb lh ls le, _, rfl, ra, r, rfl, hR, hb2, fun H2 p s2 hp1 hp2 => ?_⟩
    have h1 := congrArg List.length (sub_keys r.body)
    rw [List.length_map] at h1
    have h2 := places_len r.body
    exact ⟨fa, lh, p, S, O, r.head, Dx06.subOf r.body, rfl, hF.same s2, r3.same s2, hp2, hh2, by rw [sub_keys]; exact nodup_places _, by omega, by omega, fun H3 s3 => k H3 (s2.trans s3)⟩
end
end Rb

/-! ## C5 -/
set_option Elab.async false
set_option linter.all false
set_option maxRecDepth 100000
set_option maxHeartbeats 8000000
/-! C5: consequences. -/
namespace Rb
open PySem PySem.Spec PyProof.Rows L2
open Dx (Fact Facts Atom Fill)
theorem metAll_start (rs : List Dx.Rule) (F S : List Fact) : metAll rs (rs.map fun _ => ⟨[], []⟩) F S = rs.map fun r => meetW r ⟨[], []⟩ F S := by
  unfold metAll
  induction rs with
  | nil => rfl
  | cons r rs ih => rw [List.map_cons, List.zip_cons_cons, List.map_cons, List.map_cons, ih]
theorem LenOk.new (r : Dx.Rule) : LenOk r ⟨[], []⟩ := fun k n h => by simp at h
section
variable {P : Program} {w : World} {K : PySem.W.Frag} {mg : Str → Option Value} {base : Heap} {CC C CR CF : Addr}
theorem ok_cons {f : Addr} {fd : FuncData} (F : Fun K "consequences" "consequences" sCons f fd) (T : CTxt K mg CC) (TR : RTxt K mg CR) (MC : MkB P w K mg base CX0 "Chase" CC ["self", "rules"] 3 (spCInit P w CC C CR CF))
    (GP : MeB P w K mg base CX0 CC "put_atoms" ["self", "atoms", "values"] 4 (spCPut P w CC C CR CF)) (GB : FnB P w K mg base CX0 "body_values" ["rule"] 2 (spBody CR)) (GS : MeB P w K mg base CX0 CC "take_step" ["self"] 6 (spCStep P w CC C CR CF)) :
    FnOk P w K mg base CX0 7 f fd ["rule", "rules"] (spCons P w CR CF) := by
  refine F.ok scCons (fun vs H Q E h => ?_) (fun cdv A outer s H vs Q E hr h => ?_)
  · obtain ⟨ra, lr, r, ras, rs, rfl, _⟩ := h
    rfl
  · have nd := scCons.nd
    have hr4 : Room 4 _ := hr.mono (by decide)
    have hr2 : Room 2 _ := hr.mono (by decide)
    refine ⟨_, pss_cons (ps_set (i := 2) nd rfl (Or.inl rfl) (pe_makeF MC hr4 pass0 (pa_cons (pv 1) pa_nil)))
      (pss_cons (ps_expr (pe_methF (pv 2) T.cl GP hr4 pass0 (pa_cons (pe_fld (pv 0) rfl) (pa_cons (pe_callF GB hr2 pass0 (pa_cons (pv 0) pa_nil)) pa_nil))))
      (pss_cons (ps_set (i := 3) nd rfl (Or.inl rfl) pe_bl)
      (pss_cons (ps_while PassesOwn.never (pt_truth (pv 3) (fun _ => rfl)) (pss_one (ps_set (i := 3) nd rfl (Or.inl rfl) (pe_methF0 (pv 2) T.cl GS hr pass0))))
      (pss_one (ps_ret (pe_fld (pv 2) rfl)))))), ?_⟩
    obtain ⟨ra, lr, r, ras, rs, rfl, hR, hok, hlr, hRs, hoks, lrs, hend, k⟩ := h
    have hR0 := hR
    obtain ⟨dr, lb, lh, ls, le, r1, r2, r3, r4, r5⟩ := hR0
    -- chase = Chase(rules)
    refine ⟨_, rfl, ?_⟩
    intro c dxc nc ndc nec
    have sM : Same H (upd (upd H dxc (.own c)) c (.ins CC dxc [])) := fun b o e => by
      rw [upd_ne (ne_of_none e nc), upd_ne (ne_of_none e ndc)]; exact e
    refine ⟨c, dxc, lr, ras, rs, H, rfl, upd_same, sM _ _ hlr, hlr, hRs, fun b o e => sM _ _ e, nc, lrs, fun H1 wl O hC1 kp1 => ⟨rfl, ?_⟩⟩
    have hC1o := hC1
    obtain ⟨⟨dx1, fa1, lw1, hc1, _⟩, s1, _⟩ := hC1o
    -- chase.put_atoms(rule.body, body_values(rule))
    refine ⟨_, rfl, c, dx1, _, rfl, hc1, rfl, _, rfl, ra, CR, dr, _, _, rfl, s1 _ _ r1, TR.cl, TR.nB, rF_body lb lh ls le, _, rfl, ra, r, rfl, hR.same s1, (right_len hok.b).2, fun H2 p s2 hp1 hp2 => ?_⟩
    have hC2 := hC1.sameH s2
    have hfs := frozen_eq r.body
    have lfs : (r.body.map (Dx.inst (Dx06.subOf r.body))).length ≤ 2 := by rw [List.length_map]; exact (right_len hok.b).2
    refine ⟨c, lb, p, H, [], _, rs, wl, O, 100, r.body, Dx06.subOf r.body, rfl, hC2, (r2.same s1).same s2, hp2, fun a ha => ⟨⟨_, sub_at (mem_places.mpr ⟨a, ha, .inl rfl⟩)⟩, _, sub_at (mem_places.mpr ⟨a, ha, .inr rfl⟩)⟩, (right_len hok.b).2, by have := (right_len hok.b).2; simp; omega, fun q hq => ?_, fun i q W hq hW => ?_, fun H3 O3 hC3 => ?_⟩
    · have okq := hoks q hq
      exact ⟨(right_len okq.b).2, by have := shared_len okq; omega⟩
    · rw [List.getElem?_map, hq] at hW
      have : (⟨[], []⟩ : Wt) = W := Option.some.inj hW
      subst this
      exact ⟨LenOk.new q, by show 0 + 0 ≤ _; omega⟩
    · rw [metAll_start] at hC3
      have hI3 := CInv.start (rs := rs) hoks lfs
      generalize r.body.map (Dx.inst (Dx06.subOf r.body)) = fs at hC3 hI3 hfs
      have hend' : (Dx05.go rs 100 0 ⟨Dx06.frozen r.body, Dx.UNKNOWN⟩).2.2 = true := hend
      have hcm := comes_is hend
      rw [hfs] at hend' hcm
      -- the chase
      refine ⟨fun m σ H' => ∃ (b : Bool) (n cnt kk : Nat) (x : Dx05.State) (S : List Fact) (ws : List Wt) (O : List Addr), m = (if b = true then n + 1 else 0) ∧ σ = [some (.ref ra), some (.ref lr), some (.ref c), some (.bl b)] ∧ ChaseAt P w CC C CR CF H H' c S ws rs wl O x.next ∧ CInv rs cnt x S ws ∧
          (Dx05.go rs n kk x).2.2 = true ∧ (Dx05.go rs n kk x).1.facts = Dx06.comes rs r ∧ cnt + n ≤ 100 ∧ (b = false → Dx05.once rs x = none), ⟨_, true, 100, 0, 0, _, _, _, O3, rfl, rfl, hC3, hI3, hend', hcm.symm, by omega, fun z => by cases z⟩, ?_⟩
      rintro m σ H4 ⟨b, n, cnt, kk, x, S, ws, O4, rfl, rfl, hC4, hI4, hg1, hg2, hle, hb⟩
      refine ⟨_, rfl, b, rfl, ?_⟩
      have hC4o := hC4
      obtain ⟨⟨dx4, fa4, lw4, hc4, hF4, _⟩, s4, _⟩ := hC4o
      cases b with
      | true =>
        refine ifT rfl ⟨_, fun σ' H' h => h, ?_⟩
        refine ⟨_, rfl, c, dx4, _, rfl, hc4, rfl, ?_⟩
        refine ⟨c, H, S, ws, rs, wl, O4, cnt, x, rfl, hC4, hI4, hoks, fun z => ?_, by omega, fun on H5 ws5 hC5 hI5 => ?_, fun y j on H5 S5 ws5 O5 hC5 hI5 => ?_⟩
        · cases on : Dx05.once rs x with
          | none => exact absurd on z
          | some y =>
            obtain ⟨n', e1, e2⟩ := go_some on hg1
            omega
        · exact ⟨0, by rw [if_pos rfl]; omega, false, n, cnt, kk, x, S, ws5, O4, rfl, rfl, hC5, hI5, hg1, hg2, hle, fun _ => on⟩
        · obtain ⟨n', e1, e2⟩ := go_some on hg1
          subst e1
          rw [e2] at hg1 hg2
          exact ⟨n' + 1, by rw [if_pos rfl]; omega, true, n', cnt + 1, kk + 1, y, S5, ws5, O5, rfl, rfl, hC5, hI5, hg1, hg2, by omega, fun z => by cases z⟩
      | false =>
        refine ifF rfl ?_
        have on := hb rfl
        have e := go_none on n kk
        rw [e] at hg2
        have hg2' : x.facts = Dx06.comes rs r := hg2
        refine ⟨_, rfl, c, CC, dx4, _, _, rfl, hc4, T.cl, T.nF, cF_facts fa4 lw4 _, k H4 fa4 S O4 s4 hF4 hI4.nd (fun f => by rw [← hg2']; exact hI4.me f) (by rw [← hg2']; exact hI4.so) ?_⟩
        have := hI4.sz
        omega
end
end Rb

/-! ## S1 -/
set_option Elab.async false
set_option linter.all false
set_option maxRecDepth 100000
set_option maxHeartbeats 4000000
/-! S1: follows_from, others, is_spare. -/
namespace Rb
open PySem PySem.Spec PyProof.Rows L2
open Dx (Fact Facts Atom Fill)
theorem empty_mem {S S' : List Fact} (h : ∀ f, f ∈ S ↔ f ∈ S') {as : List Atom} {s : Fill} : (Dx.matches_ S as s).isEmpty = (Dx.matches_ S' as s).isEmpty := by
  cases e : (Dx.matches_ S as s).isEmpty with
  | false =>
    obtain ⟨m, t, hm, hr⟩ := empty_false.mp e
    exact (empty_false.mpr ⟨m, t, fun f hf => (h f).mp (hm f hf), hr⟩).symm
  | true =>
    cases e' : (Dx.matches_ S' as s).isEmpty with
    | true => rfl
    | false =>
      obtain ⟨m, t, hm, hr⟩ := empty_false.mp e'
      rw [empty_false.mpr ⟨m, t, fun f hf => (h f).mpr (hm f hf), hr⟩] at e
      cases e
abbrev sFF : Stmt := topS 27
abbrev sOth : Stmt := topS 35
abbrev sIsS : Stmt := topS 36
theorem scFF : FnScope ["rule", "rules"] ["rule", "rules"] (defScope sFF) := ⟨rfl, rfl, rfl, by decide +kernel, rfl, by decide +kernel, by decide +kernel⟩
theorem scOth : FnScope ["rules", "index"] ["rules", "index"] (defScope sOth) := ⟨rfl, rfl, rfl, by decide +kernel, rfl, by decide +kernel, by decide +kernel⟩
theorem scIsS : FnScope ["rules", "index"] ["rules", "index"] (defScope sIsS) := ⟨rfl, rfl, rfl, by decide +kernel, rfl, by decide +kernel, by decide +kernel⟩
def spFF (CR : Addr) : Sp := fun vs H Q _ => ∃ (ra lr : Addr) (r : Dx.Rule) (ras : List Addr) (rs : List Dx.Rule), vs = [.ref ra, .ref lr] ∧ RuleAt CR H ra r ∧ RuleOk r ∧ H lr = some (.lst (ras.map V.ref)) ∧ Paired (RuleAt CR H) ras rs ∧ (∀ q ∈ rs, RuleOk q) ∧ rs.length ≤ 1000 ∧ Dx06.ended 100 rs r = true ∧
  ∀ H' : Hp, Same H H' → Q (.bl (Dx06.follows rs r)) H'
def spOth : Sp := fun vs H Q _ => ∃ (l : Addr) (xs : List V) (i : Nat), vs = [.ref l, nI i] ∧ H l = some (.lst xs) ∧ i < xs.length ∧ xs.length ≤ 1000 ∧
  ∀ (H' : Hp) (p : Addr), Same H H' → H p = none → H' p = some (.lst (xs.take i ++ xs.drop (i + 1))) → Q (.ref p) H'
def spIsS (CR : Addr) : Sp := fun vs H Q _ => ∃ (lr : Addr) (ras : List Addr) (rs : List Dx.Rule) (i : Nat) (r : Dx.Rule), vs = [.ref lr, nI i] ∧ H lr = some (.lst (ras.map V.ref)) ∧ Paired (RuleAt CR H) ras rs ∧ (∀ q ∈ rs, RuleOk q) ∧ rs.length ≤ 1000 ∧ rs[i]? = some r ∧ Dx06.ended 100 (Dx06.others rs i) r = true ∧
  ∀ H' : Hp, Same H H' → Q (.bl (Dx06.follows (Dx06.others rs i) r)) H'
theorem cut_to (xs : List V) {i : Nat} (h : i ≤ xs.length) : cutV xs none (some (i : Int)) = xs.take i := by
  unfold cutV
  rw [HT.sIx_nat, HT.sIx_none, Nat.min_eq_left h]
  simp
theorem cut_from (xs : List V) {i : Nat} (h : i ≤ xs.length) : cutV xs (some (i : Int)) none = xs.drop i := by
  unfold cutV
  rw [HT.sIx_nat, HT.sIx_none, Nat.min_eq_left h]
  exact List.take_of_length_le (by rw [List.length_drop]; exact Nat.le_refl _)
theorem paired_takeP {α β : Type} {R : α → β → Prop} : ∀ {l : List α} {m : List β} (i : Nat), Paired R l m → Paired R (l.take i) (m.take i)
  | _, _, 0, _ => .nil
  | _, _, _ + 1, .nil => .nil
  | _, _, i + 1, .cons r t => .cons r (paired_takeP i t)
theorem paired_dropP {α β : Type} {R : α → β → Prop} : ∀ {l : List α} {m : List β} (i : Nat), Paired R l m → Paired R (l.drop i) (m.drop i)
  | _, _, 0, h => h
  | _, _, _ + 1, .nil => .nil
  | _, _, i + 1, .cons _ t => paired_dropP i t
theorem paired_appP {α β : Type} {R : α → β → Prop} : ∀ {l l2 : List α} {m m2 : List β}, Paired R l m → Paired R l2 m2 → Paired R (l ++ l2) (m ++ m2)
  | _, _, _, _, .nil, h => h
  | _, _, _, _, .cons r t, h => .cons r (paired_appP t h)
/-- all but one, of addresses and of rules alike -/
def othA (ras : List Addr) (i : Nat) : List Addr := ras.take i ++ ras.drop (i + 1)
theorem paired_oth {R : Addr → Dx.Rule → Prop} {ras : List Addr} {rs : List Dx.Rule} (h : Paired R ras rs) (i : Nat) : Paired R (othA ras i) (Dx06.others rs i) := paired_appP (paired_takeP i h) (paired_dropP (i + 1) h)
theorem oth_map (ras : List Addr) (i : Nat) : (ras.map V.ref).take i ++ (ras.map V.ref).drop (i + 1) = (othA ras i).map V.ref := by
  unfold othA
  rw [List.map_append, List.map_take, List.map_drop]
theorem oth_sub {rs : List Dx.Rule} {i : Nat} {q : Dx.Rule} (h : q ∈ Dx06.others rs i) : q ∈ rs := by
  rcases List.mem_append.mp h with h | h
  · exact List.mem_of_mem_take h
  · exact List.mem_of_mem_drop h
theorem oth_len (rs : List Dx.Rule) {i : Nat} (h : i < rs.length) : (Dx06.others rs i).length = rs.length - 1 := by
  unfold Dx06.others
  rw [List.length_append, List.length_take, List.length_drop]; omega
section
variable {P : Program} {w : World} {K : PySem.W.Frag} {mg : Str → Option Value} {base : Heap} {CR CF : Addr}
theorem ok_ff {f : Addr} {fd : FuncData} (F : Fun K "follows_from" "follows_from" sFF f fd) (GC : FnB P w K mg base CX0 "consequences" ["rule", "rules"] 7 (spCons P w CR CF)) (GS : FnB P w K mg base CX0 "shown_by" ["rule", "facts"] 5 (spShown P w CR CF)) :
    FnOk P w K mg base CX0 8 f fd ["rule", "rules"] (spFF CR) := by
  refine F.ok scFF (fun vs H Q E h => ?_) (fun cdv A outer s H vs Q E hr h => ?_)
  · obtain ⟨ra, lr, r, ras, rs, rfl, _⟩ := h
    rfl
  · have hr5 : Room 5 _ := hr.mono (by decide)
    refine ⟨_, pss_one (ps_ret (pe_callF GS hr5 pass0 (pa_cons (pv 0) (pa_cons (pe_callF GC hr pass0 (pa_cons (pv 0) (pa_cons (pv 1) pa_nil))) pa_nil)))), ?_⟩
    obtain ⟨ra, lr, r, ras, rs, rfl, hR, ok, hl, hpr, hok, h3, hend, k⟩ := h
    refine ⟨_, rfl, _, rfl, _, rfl, ra, lr, r, ras, rs, rfl, hR, ok, hl, hpr, hok, h3, hend, fun H1 fa S O s1 hF nd mem srt hS => ?_⟩
    refine ⟨ra, fa, r, S, O, rfl, hR.same s1, (right_len ok.b).2, (right_len ok.h).2, hF, hS, fun H2 s2 => ?_⟩
    have ef : (!(Dx.matches_ S r.head (Dx06.subOf r.body)).isEmpty) = Dx06.follows rs r := by
      unfold Dx06.follows
      rw [empty_mem mem]
    rw [ef]
    exact k H2 (s1.trans s2)
theorem ok_oth {f : Addr} {fd : FuncData} (F : Fun K "others" "others" sOth f fd) : FnOk P w K mg base CX0 1 f fd ["rules", "index"] spOth := by
  refine F.ok scOth (fun vs H Q E h => ?_) (fun cdv A outer s H vs Q E hr h => ?_)
  · obtain ⟨l, xs, i, rfl, _⟩ := h
    rfl
  · refine ⟨_, pss_one (ps_ret (pe_op op_cat (pe_slice sl_list (pv 0) po_none (po_some (pv 1))) (pe_slice sl_list (pv 0) (po_some (pe_op op_add (pv 1) pe_int)) po_none))), ?_⟩
    obtain ⟨l, xs, i, rfl, hl, hi, hlen, k⟩ := h
    refine ⟨_, rfl, _, rfl, _, rfl, l, xs, rfl, SqL.of hl, fun p hp => ?_⟩
    have s1 : Same H (upd H p (.lst (cutV xs none (some (i : Int))))) := same_upd (Same.refl _) hp
    have hp1 : upd H p (.lst (cutV xs none (some (i : Int)))) p = some (.lst (xs.take i)) := by rw [upd_same, cut_to xs (by omega)]
    generalize upd H p (.lst (cutV xs none (some (i : Int)))) = H1 at s1 hp1 ⊢
    refine ⟨_, rfl, _, rfl, _, _, rfl, rfl, _, rfl, l, xs, rfl, SqL.of (s1 _ _ hl), fun q hq => ?_⟩
    have e1 : (i : Int) + 1 = ((i + 1 : Nat) : Int) := by omega
    rw [e1, cut_from xs (by omega)]
    have s2 : Same H1 (upd H1 q (.lst (xs.drop (i + 1)))) := same_upd (Same.refl _) hq
    have hq2 : upd H1 q (.lst (xs.drop (i + 1))) q = some (.lst (xs.drop (i + 1))) := upd_same
    generalize upd H1 q (.lst (xs.drop (i + 1))) = H2 at s2 hq2 ⊢
    refine ⟨p, q, _, _, rfl, rfl, s2 _ _ hp1, hq2, by rw [List.length_take, List.length_drop, sizeLine_eq]; omega, fun t ht => ?_⟩
    have s02 : Same H H2 := s1.trans s2
    exact k _ t (s02.trans (same_upd (Same.refl _) ht)) (s02.free ht) upd_same
theorem ok_isS {f : Addr} {fd : FuncData} (F : Fun K "is_spare" "is_spare" sIsS f fd) (GF : FnB P w K mg base CX0 "follows_from" ["rule", "rules"] 8 (spFF CR)) (GO : FnB P w K mg base CX0 "others" ["rules", "index"] 1 spOth) :
    FnOk P w K mg base CX0 9 f fd ["rules", "index"] (spIsS CR) := by
  refine F.ok scIsS (fun vs H Q E h => ?_) (fun cdv A outer s H vs Q E hr h => ?_)
  · obtain ⟨lr, ras, rs, i, r, rfl, _⟩ := h
    rfl
  · have hr1 : Room 1 _ := hr.mono (by decide)
    refine ⟨_, pss_one (ps_ret (pe_callF GF hr pass0 (pa_cons (pe_ix ix_list (pv 0) (pv 1) (fun _ _ => rfl)) (pa_cons (pe_callF GO hr1 pass0 (pa_cons (pv 0) (pa_cons (pv 1) pa_nil))) pa_nil)))), ?_⟩
    obtain ⟨lr, ras, rs, i, r, rfl, hl, hpr, hok, h3, hi, hend, k⟩ := h
    have lras : ras.length = rs.length := Paired.length hpr
    have hil : i < rs.length := (List.getElem?_eq_some_iff.mp hi).1
    have hir : i < ras.length := by omega
    have ha : ras[i]? = some ras[i] := List.getElem?_eq_getElem hir
    generalize ras[i] = ra at ha
    obtain ⟨r', hr', hR⟩ := paired_get hpr ha
    have : r' = r := by rw [hi] at hr'; exact (Option.some.inj hr').symm
    subst this
    have hm : (ras.map V.ref)[i]? = some (.ref ra) := by rw [List.getElem?_map, ha]; rfl
    refine ⟨_, rfl, _, rfl, lr, _, _, _, rfl, rfl, SqL.of hl, atI_nat hm, _, rfl, _, rfl, lr, _, i, rfl, hl, by rw [List.length_map]; omega, by rw [List.length_map]; omega, fun H1 p s1 np hp => ?_⟩
    rw [oth_map] at hp
    have lo := oth_len rs hil
    exact ⟨ra, p, r', othA ras i, Dx06.others rs i, rfl, hR.same s1, hok _ (List.mem_of_getElem? hi), hp, Paired.mapP (paired_oth hpr i) fun _ _ z => z.same s1, fun q hq => hok q (oth_sub hq), by omega, hend, fun H2 s2 => k H2 (s1.trans s2)⟩
end
end Rb

/-! ## S2 -/
set_option Elab.async false
set_option linter.all false
set_option maxRecDepth 100000
set_option maxHeartbeats 4000000
/-! S2: spare_ones, strays. -/
namespace Rb
open PySem PySem.Spec PyProof.Rows L2
open Dx (Fact Facts Atom Fill)
abbrev sSpO : Stmt := topS 37
abbrev sStr : Stmt := topS 38
theorem scSpO : FnScope ["rules", "index"] ["rules"] (defScope sSpO) := ⟨rfl, rfl, rfl, by decide +kernel, rfl, by decide +kernel, by decide +kernel⟩
theorem scStr : FnScope ["asked", "rules", "index"] ["asked", "rules"] (defScope sStr) := ⟨rfl, rfl, rfl, by decide +kernel, rfl, by decide +kernel, by decide +kernel⟩
/-- whether the rule at i follows from the others; whether it doesn't from rs -/
def spareAt (rs : List Dx.Rule) (i : Nat) : Bool := match rs[i]? with
  | some r => Dx06.follows (Dx06.others rs i) r
  | none => false
def strayAt (qs rs : List Dx.Rule) (i : Nat) : Bool := match qs[i]? with
  | some r => !Dx06.follows rs r
  | none => false
theorem spareAt_of {rs : List Dx.Rule} {i : Nat} {r : Dx.Rule} (h : rs[i]? = some r) : spareAt rs i = Dx06.follows (Dx06.others rs i) r := by
  unfold spareAt; rw [h]
theorem strayAt_of {qs rs : List Dx.Rule} {i : Nat} {r : Dx.Rule} (h : qs[i]? = some r) : strayAt qs rs i = !Dx06.follows rs r := by
  unfold strayAt; rw [h]
theorem range_filter_succ (g : Nat → Bool) (i : Nat) : (List.range (i + 1)).filter g = (List.range i).filter g ++ (if g i = true then [i] else []) := by
  rw [List.range_succ, List.filter_append]
  congr 1
  by_cases h : g i = true
  · rw [if_pos h]; simp [h]
  · rw [if_neg h]; simp [h]
theorem range_filter_len (g : Nat → Bool) (i : Nat) : ((List.range i).filter g).length ≤ i := by
  have := List.length_filter_le g (List.range i)
  rw [List.length_range] at this
  exact this
def spSpO (CR : Addr) : Sp := fun vs H Q _ => ∃ (lr : Addr) (ras : List Addr) (rs : List Dx.Rule), vs = [.ref lr] ∧ H lr = some (.lst (ras.map V.ref)) ∧ Paired (RuleAt CR H) ras rs ∧ (∀ q ∈ rs, RuleOk q) ∧ rs.length ≤ 1000 ∧ (∀ i r, rs[i]? = some r → Dx06.ended 100 (Dx06.others rs i) r = true) ∧
  ∀ (H' : Hp) (p : Addr), Same H H' → H p = none → H' p = some (.lst (((List.range rs.length).filter (spareAt rs)).map nI)) → Q (.ref p) H'
def spStr (CR : Addr) : Sp := fun vs H Q _ => ∃ (la lr : Addr) (qas ras : List Addr) (qs rs : List Dx.Rule), vs = [.ref la, .ref lr] ∧ H la = some (.lst (qas.map V.ref)) ∧ Paired (RuleAt CR H) qas qs ∧ (∀ q ∈ qs, RuleOk q) ∧ qs.length ≤ 1000 ∧
  H lr = some (.lst (ras.map V.ref)) ∧ Paired (RuleAt CR H) ras rs ∧ (∀ q ∈ rs, RuleOk q) ∧ rs.length ≤ 1000 ∧ (∀ q ∈ qs, Dx06.ended 100 rs q = true) ∧
  ∀ (H' : Hp) (p : Addr), Same H H' → H p = none → H' p = some (.lst (((List.range qs.length).filter (strayAt qs rs)).map nI)) → Q (.ref p) H'
theorem ixLK {X : Cx} {K : PySem.W.Frag} (h : X.K = K) : IxR X (rIxL K) := h ▸ ix_list
section
variable {P : Program} {w : World} {K : PySem.W.Frag} {mg : Str → Option Value} {base : Heap} {CR CF : Addr}
theorem ok_spO {f : Addr} {fd : FuncData} (F : Fun K "spare_ones" "spare_ones" sSpO f fd) (T : Blt mg) (GI : FnB P w K mg base CX0 "is_spare" ["rules", "index"] 9 (spIsS CR)) :
    FnOk P w K mg base CX0 10 f fd ["rules"] (spSpO CR) := by
  refine F.ok scSpO (fun vs H Q E h => ?_) (fun cdv A outer s H vs Q E hr h => ?_)
  · obtain ⟨lr, ras, rs, rfl, _⟩ := h
    rfl
  · have nd := scSpO.nd
    refine ⟨_, pss_one (ps_ret (pe_lc (own := [("index", 1)]) (g := gName 1) rfl nd (pi_range1 (by rfl) T.range (pa_cons (pe_callB call_len_seq (by rfl) T.len PySem.boot_len (pa_cons (pv 0) pa_nil)) pa_nil)) (blkOk_by (own := [("index", 1)]) (N := ["rules", "index"]) (sc := defScope sSpO) (by decide +kernel)) (fun _ _ _ _ _ => pg_name (i := 1) nd rfl (Or.inl rfl))
        (fun _ _ _ _ _ => pts_one (pt_val (pe_callF GI hr pass0 (pa_cons (pv 0) (pa_cons (pv 1) pa_nil))))) (fun _ _ _ _ _ => pv 1))), ?_⟩
    obtain ⟨lr, ras, rs, rfl, hl, hpr, hok, h3, hend, k⟩ := h
    have lras : ras.length = rs.length := Paired.length hpr
    refine ⟨_, rfl, lr, _, rfl, .inl (SqL.of hl), ((ras.map V.ref).length : Int), rfl, by omega, by rw [List.length_map]; omega, fun D hD => lc_range (lo := 0) (n := ((ras.map V.ref).length : Int).toNat) (fun i H' => Same H H' ∧ H' D = some (.lst (((List.range i).filter (spareAt rs)).map nI))) ?_ ?_ ?_⟩
    · exact ⟨same_upd (Same.refl _) hD, upd_same⟩
    · rintro i H1 hi ⟨s1, q1⟩
      rw [List.length_map, Int.toNat_natCast] at hi
      have hil : i < rs.length := by omega
      have hr' : rs[i]? = some rs[i] := List.getElem?_eq_getElem hil
      generalize rs[i] = r at hr'
      have e0 : (0 : Int) + (i : Int) = (i : Int) := by omega
      rw [e0]
      refine ⟨rfl, _, rfl, _, rfl, lr, ras, rs, i, r, rfl, s1 _ _ hl, Paired.mapP hpr fun _ _ z => z.same s1, hok, h3, hr', hend i r hr', fun H2 s2 => ?_⟩
      have q2 := s2 _ _ q1
      refine ⟨_, rfl, ?_⟩
      rw [← spareAt_of hr', range_filter_succ]
      by_cases c : spareAt rs i = true
      · rw [if_pos c]
        refine ifT c ⟨_, rfl, _, q2, ?_, fun b o e => ?_, ?_⟩
        · rw [List.length_map]
          have := range_filter_len (spareAt rs) i
          exact big_lt (by omega)
        · rw [upd_ne (ne_of_none e hD)]; exact s2 _ _ (s1 _ _ e)
        · rw [upd_same, List.map_append]; rfl
      · rw [if_neg c, List.append_nil]
        exact ifF (by simpa using c) ⟨s1.trans s2, q2⟩
    · rintro H1 ⟨s1, q1⟩
      rw [List.length_map, Int.toNat_natCast, lras] at q1
      exact k H1 D s1 hD q1
theorem ok_str {f : Addr} {fd : FuncData} (F : Fun K "strays" "strays" sStr f fd) (T : Blt mg) (GF : FnB P w K mg base CX0 "follows_from" ["rule", "rules"] 8 (spFF CR)) :
    FnOk P w K mg base CX0 9 f fd ["asked", "rules"] (spStr CR) := by
  refine F.ok scStr (fun vs H Q E h => ?_) (fun cdv A outer s H vs Q E hr h => ?_)
  · obtain ⟨la, lr, qas, ras, qs, rs, rfl, _⟩ := h
    rfl
  · have nd := scStr.nd
    refine ⟨_, pss_one (ps_ret (pe_lc (own := [("index", 2)]) (g := gName 2) rfl nd (pi_range1 (by rfl) T.range (pa_cons (pe_callB call_len_seq (by rfl) T.len PySem.boot_len (pa_cons (pv 0) pa_nil)) pa_nil)) (blkOk_by (own := [("index", 2)]) (N := ["asked", "rules", "index"]) (sc := defScope sStr) (by decide +kernel)) (fun _ _ _ _ _ => pg_name (i := 2) nd rfl (Or.inl rfl))
        (fun _ _ _ _ _ => pts_one (pt_not (pt_val (pe_callF GF hr pass0 (pa_cons (pe_ix (ixLK (K := K) rfl) (pv 0) (pv 2) (fun _ _ => rfl)) (pa_cons (pv 1) pa_nil)))))) (fun _ _ _ _ _ => pv 2))), ?_⟩
    obtain ⟨la, lr, qas, ras, qs, rs, rfl, hla, hpq, hoq, hq3, hl, hpr, hok, h3, hend, k⟩ := h
    have lqas : qas.length = qs.length := Paired.length hpq
    refine ⟨_, rfl, la, _, rfl, .inl (SqL.of hla), ((qas.map V.ref).length : Int), rfl, by omega, by rw [List.length_map]; omega, fun D hD => lc_range (lo := 0) (n := ((qas.map V.ref).length : Int).toNat) (fun i H' => Same H H' ∧ H' D = some (.lst (((List.range i).filter (strayAt qs rs)).map nI))) ?_ ?_ ?_⟩
    · exact ⟨same_upd (Same.refl _) hD, upd_same⟩
    · rintro i H1 hi ⟨s1, q1⟩
      rw [List.length_map, Int.toNat_natCast] at hi
      have ha : qas[i]? = some qas[i] := List.getElem?_eq_getElem hi
      generalize qas[i] = ra at ha
      obtain ⟨r, hr', hR⟩ := paired_get hpq ha
      have hm : (qas.map V.ref)[i]? = some (.ref ra) := by rw [List.getElem?_map, ha]; rfl
      have hmem := List.mem_of_getElem? hr'
      have e0 : (0 : Int) + (i : Int) = (i : Int) := by omega
      rw [e0]
      refine ⟨rfl, _, rfl, _, rfl, la, _, _, _, rfl, rfl, SqL.of (s1 _ _ hla), atI_nat hm, _, rfl, ra, lr, r, ras, rs, rfl, hR.same s1, hoq _ hmem, s1 _ _ hl, Paired.mapP hpr fun _ _ z => z.same s1, hok, h3, hend r hmem, fun H2 s2 => ?_⟩
      have q2 := s2 _ _ q1
      refine ⟨_, rfl, ?_⟩
      show if (!Dx06.follows rs r) = true then _ else _
      rw [← strayAt_of hr', range_filter_succ]
      by_cases c : strayAt qs rs i = true
      · refine ifT c ?_
        rw [if_pos c]
        refine ⟨_, rfl, _, q2, ?_, fun b o e => ?_, ?_⟩
        · rw [List.length_map]
          have := range_filter_len (strayAt qs rs) i
          exact big_lt (by omega)
        · rw [upd_ne (ne_of_none e hD)]; exact s2 _ _ (s1 _ _ e)
        · rw [upd_same, List.map_append]; rfl
      · refine ifF (by simpa using c) ?_
        rw [if_neg c, List.append_nil]
        exact ⟨s1.trans s2, q2⟩
    · rintro H1 ⟨s1, q1⟩
      rw [List.length_map, Int.toNat_natCast, lqas] at q1
      exact k H1 D s1 hD q1
end
end Rb

/-! ## S3 -/
set_option Elab.async false
set_option linter.all false
set_option maxRecDepth 100000
set_option maxHeartbeats 4000000
/-! S3: thinned. -/
namespace Rb
open PySem PySem.Spec PyProof.Rows L2
open Dx (Fact Facts Atom Fill)
abbrev sThi : Stmt := topS 39
theorem scThi : FnScope ["rules", "left", "index"] ["rules"] (defScope sThi) := ⟨rfl, rfl, rfl, by decide +kernel, rfl, by decide +kernel, by decide +kernel⟩
/-- what is left after thinning: the list itself, or a new one; ras' stands to ras as the rules left to the rules -/
def spThi (CR : Addr) : Sp := fun vs H Q _ => ∃ (lr : Addr) (ras : List Addr) (rs : List Dx.Rule), vs = [.ref lr] ∧ H lr = some (.lst (ras.map V.ref)) ∧ Paired (RuleAt CR H) ras rs ∧ (∀ q ∈ rs, RuleOk q) ∧ rs.length ≤ 1000 ∧ Dx06.endedThin 100 rs.length rs = true ∧
  ∀ (H' : Hp) (p : Addr) (ras' : List Addr), Same H H' → (p = lr ∨ H p = none) → H' p = some (.lst (ras'.map V.ref)) → (∀ R : Addr → Dx.Rule → Prop, Paired R ras rs → Paired R ras' (Dx06.thin rs.length rs)) → Q (.ref p) H'
theorem thin_step {m : Nat} {rs : List Dx.Rule} {r : Dx.Rule} (h : rs[m]? = some r) : Dx06.thin (m + 1) rs = Dx06.thin m (if Dx06.follows (Dx06.others rs m) r = true then Dx06.others rs m else rs) := by
  show (match rs[m]? with
    | none => Dx06.thin m rs
    | some r => if Dx06.follows (Dx06.others rs m) r = true then Dx06.thin m (Dx06.others rs m) else Dx06.thin m rs) = _
  rw [h]
  dsimp only
  split <;> rfl
theorem endedThin_step {m : Nat} {rs : List Dx.Rule} {r : Dx.Rule} (h : rs[m]? = some r) (e : Dx06.endedThin 100 (m + 1) rs = true) :
    Dx06.ended 100 (Dx06.others rs m) r = true ∧ Dx06.endedThin 100 m (if Dx06.follows (Dx06.others rs m) r = true then Dx06.others rs m else rs) = true := by
  have e' : (match rs[m]? with
    | none => Dx06.endedThin 100 m rs
    | some r => Dx06.ended 100 (Dx06.others rs m) r && Dx06.endedThin 100 m (if Dx06.follows (Dx06.others rs m) r = true then Dx06.others rs m else rs)) = true := e
  rw [h] at e'
  dsimp only at e'
  rw [Bool.and_eq_true] at e'
  exact e'
section
variable {P : Program} {w : World} {K : PySem.W.Frag} {mg : Str → Option Value} {base : Heap} {CR CF : Addr}
theorem ok_thi {f : Addr} {fd : FuncData} (F : Fun K "thinned" "thinned" sThi f fd) (T : Blt mg) (GI : FnB P w K mg base CX0 "is_spare" ["rules", "index"] 9 (spIsS CR)) (GO : FnB P w K mg base CX0 "others" ["rules", "index"] 1 spOth) :
    FnOk P w K mg base CX0 10 f fd ["rules"] (spThi CR) := by
  refine F.ok scThi (fun vs H Q E h => ?_) (fun cdv A outer s H vs Q E hr h => ?_)
  · obtain ⟨lr, ras, rs, rfl, _⟩ := h
    rfl
  · have nd := scThi.nd
    have hr1 : Room 1 _ := hr.mono (by decide)
    refine ⟨_, pss_cons (ps_set (i := 1) nd rfl (Or.inl rfl) (pv 0))
      (pss_cons (ps_for PassesOwn.never rfl (pi_range3 (by rfl) T.range (pa_cons (pe_op op_sub (pe_callB call_len_seq (by rfl) T.len PySem.boot_len (pa_cons (pv 0) pa_nil)) pe_int) (pa_cons (pe_un un_neg pe_int) (pa_cons (pe_un un_neg pe_int) pa_nil)))) (pg_name (i := 2) nd rfl (Or.inl rfl))
        (pss_one (ps_if (pt_truth (pe_callF GI hr pass0 (pa_cons (pv 1) (pa_cons (pv 2) pa_nil))) (fun _ => rfl))
          (pss_one (ps_set (i := 1) nd rfl (Or.inl rfl) (pe_callF GO hr1 pass0 (pa_cons (pv 1) (pa_cons (pv 2) pa_nil))))) pss_nil)))
      (pss_one (ps_ret (pv 1)))), ?_⟩
    obtain ⟨lr, ras, rs, rfl, hl, hpr, hok, h3, hend, k⟩ := h
    have lras : ras.length = rs.length := Paired.length hpr
    have lm : (ras.map V.ref).length = rs.length := by rw [List.length_map, lras]
    refine ⟨_, rfl, _, rfl, lr, _, rfl, .inl (SqL.of hl), _, _, rfl, rfl, 1, rfl, 1, rfl, ((ras.map V.ref).length : Int) - 1, -1, -1, _, rfl, RgC.neg (by omega) (by omega) (by decide) (by decide), ?_⟩
    rw [lm]
    have en : ((rs.length : Int) - 1 - -1).toNat = rs.length := by omega
    rw [en]
    refine for_rangeC (lo := (rs.length : Int) - 1) (c := -1) (n := rs.length) (fun i σ H' => ∃ (v2 : Option V) (p : Addr) (rasi : List Addr) (rsi : List Dx.Rule), σ = [some (.ref lr), some (.ref p), v2] ∧ Same H H' ∧ (p = lr ∨ H p = none) ∧ H' p = some (.lst (rasi.map V.ref)) ∧
        (∀ R : Addr → Dx.Rule → Prop, Paired R ras rs → Paired R rasi rsi) ∧ rs.length - i ≤ rsi.length ∧ rsi.length ≤ 1000 ∧ (∀ q ∈ rsi, RuleOk q) ∧ Dx06.thin (rs.length - i) rsi = Dx06.thin rs.length rs ∧ Dx06.endedThin 100 (rs.length - i) rsi = true)
      ⟨none, lr, ras, rs, rfl, Same.refl _, .inl rfl, hl, fun _ z => z, Nat.le_refl _, h3, hok, rfl, hend⟩ ?_ ?_
    · rintro i σ H1 hi ⟨v2, p, rasi, rsi, rfl, s1, hp, hp1, par, hle, hle3, hoki, hth, het⟩
      obtain ⟨m, hm⟩ : ∃ m, rs.length - i = m + 1 := ⟨rs.length - i - 1, by omega⟩
      have hm2 : rs.length - (i + 1) = m := by omega
      rw [hm] at hle hth het
      rw [hm2]
      have ei : (rs.length : Int) - 1 + (i : Int) * -1 = (m : Int) := by omega
      rw [ei]
      have hml : m < rsi.length := by omega
      have hr' : rsi[m]? = some rsi[m] := List.getElem?_eq_getElem hml
      generalize rsi[m] = r at hr'
      obtain ⟨he1, he2⟩ := endedThin_step hr' het
      rw [thin_step hr'] at hth
      have hpi := par _ hpr
      have lri : rasi.length = rsi.length := Paired.length hpi
      refine ⟨_, rfl, _, rfl, p, rasi, rsi, m, r, rfl, hp1, Paired.mapP hpi fun _ _ z => z.same s1, hoki, hle3, hr', he1, fun H2 s2 => ⟨_, rfl, ?_⟩⟩
      have s02 := s1.trans s2
      by_cases c : Dx06.follows (Dx06.others rsi m) r = true
      · rw [if_pos c] at hth he2
        refine ifT c ⟨_, rfl, _, rfl, p, _, m, rfl, s2 _ _ hp1, by rw [List.length_map]; omega, by rw [List.length_map]; omega, fun H3 p3 s3 np3 hp3 => ?_⟩
        rw [oth_map] at hp3
        have lo := oth_len rsi hml
        exact ⟨_, p3, othA rasi m, Dx06.others rsi m, rfl, s02.trans s3, .inr (s02.free np3), hp3, fun R z => paired_oth (par R z) m, by omega, by omega, fun q hq => hoki q (oth_sub hq), hth, he2⟩
      · rw [if_neg c] at hth he2
        exact ifF (by simpa using c) ⟨_, p, rasi, rsi, rfl, s02, hp, s2 _ _ hp1, par, by omega, hle3, hoki, hth, he2⟩
    · rintro σ H1 ⟨v2, p, rasi, rsi, rfl, s1, hp, hp1, par, hle, hle3, hoki, hth, het⟩
      rw [Nat.sub_self] at hth
      have hth' : rsi = Dx06.thin rs.length rs := hth
      exact ⟨_, rfl, k H1 p rasi s1 hp hp1 fun R z => hth' ▸ par R z⟩
end
end Rb

/-! ## HD -/
set_option Elab.async false
set_option linter.all false
set_option maxRecDepth 100000
set_option maxHeartbeats 4000000
/-! HD: {t: v}, t a tuple. -/
namespace L2
open PySem PySem.Spec PyProof.Rows
def tDispT1 (tk tv : TE) : TE := fun σ H Q => ∀ p, H p = none → tPairs [(tk, tv)] σ (upd H p (.dT [])) fun ps H2 => H2 p = some (.dT []) ∧ ∃ (k : List L2.Key) (b : Addr) (v : V), ps = [(.ref b, v)] ∧ H2 b = some (.tup (k.map kV)) ∧ Q (.ref p) (upd H2 p (.dT [(k, v)]))
theorem pe_dispT1 {X : Cx} {pos : Pos} {k v : Expr} {tk tv : TE} (hu : X.A.units + 1 < cLine) (h : PPs X pos [some k] [v] [(tk, tv)]) : PE X (.Dict [some k] [v] pos) (tDispT1 tk tv) := by
  refine ⟨fun pins s σ H Q I q => ?_⟩
  have hn := I.hok.fresh (Nat.le_refl s.heap.objs.size)
  have I1 := I.laid (a := s.heap.objs.size) (o := .dT []) (h' := s.heap.push { cls := .type "dict", data := .dict #[] }) (t' := s.toks) (fun _ _ z => Heap.get?_push_of_some _ z) (Nat.le_refl _) (dt_empty s.heap I.big)
  have hl := pairTrees_length [some k] [v] X.env pos rfl rfl
  have h0 : pairTrees [some k] [v] X.env pos ≠ [] := fun z => by rw [z] at hl; cases hl
  rw [arm_eval_Dict, zip_pairTrees [some k] [v] X.env pos rfl rfl, dictDisplay_pairs _ h0 (by rw [hl]; exact (show 1 < 17 by decide))]
  refine wpAny_bind (wpAny_standAt (wpAny_bind (wpAny_subDictH (knd := tupleKind (mixKind X.prog X.w)) (Q := fun d s' => wpAny (model X.prog X.w) X.A (pure (Value.ref d)) (EP X pins σ Q) X.xe s') (by show X.A.units < cLine; omega) (by rw [hl]; exact (show 1 ≤ 15 by decide)) ?_)))
  refine thn (h.run pins _ σ _ _ I1 (q _ hn)) fun ws s2 ⟨ps, H2, I2, rel, e, kk, b, vv, ep, eb, q2⟩ => ?_
  subst ep
  cases rel with
  | @cons p1 u1 r1 w1 r t =>
    cases t
    obtain ⟨ra, rb⟩ := r
    obtain ⟨z, hd, xs, r0, dd⟩ := dt_of I2.hok e
    cases r0
    refine ⟨[(kk, b, u1.2)], ⟨ra, rfl, key_of I2.hok eb, trivial⟩, dd, fun h' tk dd' hs => wpAny_pure ?_⟩
    obtain ⟨o, es, epp, c1, c2, c3, c4, _, c5⟩ := dd'
    refine ⟨.ref s.heap.objs.size, upd H2 s.heap.objs.size (.dT [(kk, vv)]), d_write (t' := tk) (ob := .dT [(kk, vv)]) I2 (by rw [e]; exact True.intro) hs ⟨o, c1⟩ ⟨?_, hd, _, .cons ⟨rfl, ?_, rb⟩ .nil, o, es, epp, c1, c2, c3, c4, c5⟩, rfl, q2⟩
    · rw [sizeLine_eq]; exact (show 1 ≤ 16777216 by decide)
    · rw [upd_ne (ne_of eb e (fun z => nomatch z))]; exact eb
end L2

/-! ## D1 -/
set_option Elab.async false
set_option linter.all false
set_option maxRecDepth 100000
set_option maxHeartbeats 4000000
/-! D1: positions_of, edges_from. -/
namespace Rb
open PySem PySem.Spec PyProof.Rows L2
open Dx (Fact Facts Atom Fill)
open Dx05 (Way Column)
def ColAt (H : Hp) (q : Addr) (c : Column) : Prop := H q = some (.tup [nI c.1, nI c.2])
def ColsAt (H : Hp) (l : Addr) (cs : List Column) : Prop := ∃ qs : List Addr, H l = some (.lst (qs.map V.ref)) ∧ Paired (ColAt H) qs cs
theorem ColsAt.same {H H' : Hp} {l : Addr} {cs : List Column} (h : ColsAt H l cs) (s : Same H H') : ColsAt H' l cs := by
  obtain ⟨qs, h1, h2⟩ := h
  exact ⟨qs, s _ _ h1, Paired.mapP h2 fun _ _ z => s _ _ z⟩
theorem ColsAt.snoc {H H' : Hp} {l q : Addr} {cs : List Column} {c : Column} {qs : List Addr} (h : Paired (ColAt H) qs cs) (s : ∀ b xs, H b = some (.tup xs) → H' b = some (.tup xs)) (hl : H' l = some (.lst (qs.map V.ref ++ [.ref q]))) (hc : ColAt H' q c) : ColsAt H' l (cs ++ [c]) :=
  ⟨qs ++ [q], by rw [hl, List.map_append]; rfl, Paired.snoc (Paired.mapP h fun _ _ z => s _ _ z) hc⟩
theorem nI_dec (a b : Nat) : decide (nI a = nI b) = decide (a = b) := by
  by_cases e : a = b
  · subst e; simp
  · have : ¬ nI a = nI b := fun z => e (by
      have h : (a : Int) = (b : Int) := V.int.inj z
      omega)
    simp [e, this]
abbrev sPos : Stmt := topS 29
def nPos : List Str := ["variable", "atoms", "found", "table", "first", "second"]
theorem scPos : FnScope nPos ["variable", "atoms"] (defScope sPos) := ⟨rfl, rfl, rfl, by decide +kernel, rfl, by decide +kernel, by decide +kernel⟩
def spPos : Sp := fun vs H Q _ => ∃ (l : Addr) (v : Nat) (as : List Atom), vs = [nI v, .ref l] ∧ AtomsAt H l as ∧ as.length ≤ 1000 ∧
  ∀ (H' : Hp) (p : Addr), Same H H' → H p = none → ColsAt H' p (Dx05.columns as v) → Q (.ref p) H'
theorem columns_one (a : Atom) (v : Nat) (i : Nat) : Dx05.columns [a] v = (if a.x = v then [(a.t, 0)] else []) ++ if a.y = v then [(a.t, 1)] else [] := by
  simp [Dx05.columns]
theorem columns_snoc (as : List Atom) (a : Atom) (v : Nat) : Dx05.columns (as ++ [a]) v = Dx05.columns as v ++ ((if a.x = v then [(a.t, 0)] else []) ++ if a.y = v then [(a.t, 1)] else []) := by
  unfold Dx05.columns
  rw [List.flatMap_append]; simp
theorem columns_len (as : List Atom) (v : Nat) : (Dx05.columns as v).length ≤ 2 * as.length := by
  induction as with
  | nil => simp [Dx05.columns]
  | cons a as ih =>
    have : Dx05.columns (a :: as) v = ((if a.x = v then [(a.t, 0)] else []) ++ if a.y = v then [(a.t, 1)] else []) ++ Dx05.columns as v := by simp [Dx05.columns]
    rw [this, List.length_append, List.length_append, List.length_cons]
    have h1 : (if a.x = v then [(a.t, 0)] else []).length ≤ 1 := by split <;> simp
    have h2 : (if a.y = v then [(a.t, 1)] else []).length ≤ 1 := by split <;> simp
    omega
section
variable {P : Program} {w : World} {K : PySem.W.Frag} {mg : Str → Option Value} {base : Heap}
theorem ok_pos {f : Addr} {fd : FuncData} (F : Fun K "positions_of" "positions_of" sPos f fd) : FnOk P w K mg base CX0 1 f fd ["variable", "atoms"] spPos := by
  refine F.ok scPos (fun vs H Q E h => ?_) (fun cdv A outer s H vs Q E hr h => ?_)
  · obtain ⟨l, v, as, rfl, _⟩ := h
    rfl
  · have nd : nPos.Nodup := scPos.nd
    refine ⟨_, pss_cons (ps_set (i := 2) nd rfl (Or.inl rfl) (pe_lst pa_nil))
      (pss_cons (ps_for PassesOwn.never rfl (pi_list (pv 1)) (pg_tup rfl (pgs_cons (pg_name (i := 3) nd rfl (Or.inl rfl)) (pgs_cons (pg_name (i := 4) nd rfl (Or.inl rfl)) (pgs_cons (pg_name (i := 5) nd rfl (Or.inl rfl)) pgs_nil))))
        (pss_cons (ps_if (pt_cmpR op_eq (pv 4) (pv 0) (nomark _)) (pss_one (ps_expr (pe_bm PySem.F.plainAttrs_list PySem.F.slot_list_append PySem.F.type_list_append mt_append (pv 2) (pa_cons (pe_tup (pa_cons (pv 3) (pa_cons pe_int pa_nil))) pa_nil)))) pss_nil)
        (pss_one (ps_if (pt_cmpR op_eq (pv 5) (pv 0) (nomark _)) (pss_one (ps_expr (pe_bm PySem.F.plainAttrs_list PySem.F.slot_list_append PySem.F.type_list_append mt_append (pv 2) (pa_cons (pe_tup (pa_cons (pv 3) (pa_cons pe_int pa_nil))) pa_nil)))) pss_nil))))
      (pss_one (ps_ret (pv 2)))), ?_⟩
    obtain ⟨l, v, as, rfl, ⟨qs, hl, hqs⟩, hlen, k⟩ := h
    refine ⟨by show 0 ≤ sizeLine; decide, fun p hp => ?_⟩
    have s1 : Same H (upd H p (.lst [])) := same_upd (Same.refl H) hp
    refine ⟨_, rfl, l, rfl, ⟨_, SqL.of (s1 _ _ hl)⟩, for_list (K := K) (a := l) (xs := qs.map V.ref) (fun i σ H' => ∃ v3 v4 v5, σ = [some (nI v), some (.ref l), some (.ref p), v3, v4, v5] ∧ Same H H' ∧ ColsAt H' p (Dx05.columns (as.take i) v))
      ⟨none, none, none, rfl, s1, ⟨[], upd_same, .nil⟩⟩ (fun i σ H' _ ⟨_, _, _, _, q, _⟩ => SqL.of (q _ _ hl)) ?_ ?_⟩
    · rintro i x σ H2 hi ⟨v3, v4, v5, rfl, s2, ⟨cs, hp2, hcs⟩⟩
      obtain ⟨qa, hqa, rfl⟩ := map_get hi
      obtain ⟨a, ha, aat⟩ := paired_get hqs hqa
      have hil : i < as.length := (List.getElem?_eq_some_iff.mp ha).1
      have bl : cs.length ≤ 10000 := by
        rw [Paired.length hcs]
        have := columns_len (as.take i) v
        rw [List.length_take] at this
        omega
      have esnoc := columns_snoc (as.take i) a v
      rw [← take_succ' ha] at esnoc
      refine ⟨qa, _, rfl, SqT.of (s2 _ _ aat), rfl, _, _, rfl, _, _, rfl, _, _, rfl, rfl, ?_⟩
      refine ⟨_, rfl, _, rfl, rfl, _, rfl, ?_⟩
      rw [nI_dec]
      by_cases e1 : a.x = v
      case' pos =>
        refine ifT (decide_eq_true e1) ⟨_, rfl, .inl ⟨rfl, _, SqL.of hp2⟩, _, rfl, by show 2 ≤ sizeLine; decide, fun t ht => ?_⟩
        have nt : p ≠ t := ne_of_none hp2 ht
        have ht2 : ColAt (upd (upd H2 t (.tup [nI a.t, .int 0])) p (.lst (cs.map V.ref ++ [.ref t]))) t (a.t, 0) := by show upd _ _ _ t = _; rw [upd_ne nt.symm, upd_same]; rfl
        refine ⟨p, _, _, rfl, rfl, by rw [upd_ne nt]; exact hp2, by rw [List.length_map]; exact big_lt (by omega), ?_⟩
        have tk : ∀ b xs, H2 b = some (.tup xs) → upd (upd H2 t (.tup [nI a.t, .int 0])) p (.lst (cs.map V.ref ++ [.ref t])) b = some (.tup xs) := fun b xs e => by
          rw [upd_ne (ne_of e hp2 (fun z => nomatch z)), upd_ne (ne_of_none e ht)]; exact e
        have s3 : Same H (upd (upd H2 t (.tup [nI a.t, .int 0])) p (.lst (cs.map V.ref ++ [.ref t]))) := fun b o e => by
          rw [upd_ne (ne_of_none e hp), upd_ne (ne_of_none (s2 _ _ e) ht)]; exact s2 _ _ e
        have c3 : ColsAt (upd (upd H2 t (.tup [nI a.t, .int 0])) p (.lst (cs.map V.ref ++ [.ref t]))) p (Dx05.columns (as.take i) v ++ if a.x = v then [(a.t, 0)] else []) := by
          rw [if_pos e1]
          exact ColsAt.snoc hcs tk upd_same ht2
        generalize upd (upd H2 t (.tup [nI a.t, .int 0])) p (.lst (cs.map V.ref ++ [.ref t])) = H3 at s3 c3 ⊢
      case' neg =>
        refine ifF (decide_eq_false e1) ?_
        have c3 : ColsAt H2 p (Dx05.columns (as.take i) v ++ if a.x = v then [(a.t, 0)] else []) := by
          rw [if_neg e1, List.append_nil]; exact ⟨cs, hp2, hcs⟩
        have s3 := s2
        generalize H2 = H3 at s3 c3 ⊢
      all_goals
        rw [← List.append_assoc] at esnoc
        obtain ⟨ds, hp3, hds⟩ := c3
        have bl3 : ds.length ≤ 10001 := by
          rw [Paired.length hds, List.length_append, ← Paired.length hcs]
          have h1 : (if a.x = v then [(a.t, 0)] else []).length ≤ 1 := by split <;> simp
          omega
        refine ⟨_, rfl, _, rfl, rfl, _, rfl, ?_⟩
        rw [nI_dec]
        by_cases e2 : a.y = v
        · refine ifT (decide_eq_true e2) ⟨_, rfl, .inl ⟨rfl, _, SqL.of hp3⟩, _, rfl, by show 2 ≤ sizeLine; decide, fun t ht => ?_⟩
          have nt : p ≠ t := ne_of_none hp3 ht
          refine ⟨p, _, _, rfl, rfl, by rw [upd_ne nt]; exact hp3, by rw [List.length_map]; exact big_lt (by omega), _, _, _, rfl, fun b o e => ?_, ?_⟩
          · rw [upd_ne (ne_of_none e hp), upd_ne (ne_of_none (s3 _ _ e) ht)]; exact s3 _ _ e
          · rw [esnoc, if_pos e2]
            refine ColsAt.snoc hds (fun b xs e => ?_) upd_same ?_
            · rw [upd_ne (ne_of e hp3 (fun z => nomatch z)), upd_ne (ne_of_none e ht)]; exact e
            · show upd _ _ _ t = _; rw [upd_ne nt.symm, upd_same]; rfl
        · refine ifF (decide_eq_false e2) ⟨_, _, _, rfl, s3, ?_⟩
          rw [esnoc, if_neg e2, List.append_nil]
          exact ⟨ds, hp3, hds⟩
    · rintro σ H2 ⟨v3, v4, v5, rfl, s2, hp2⟩
      have : as.take (qs.map V.ref).length = as := List.take_of_length_le (by rw [List.length_map, Paired.length hqs]; exact Nat.le_refl _)
      rw [this] at hp2
      exact ⟨_, rfl, k H2 p s2 hp hp2⟩
end
end Rb

/-! ## D2 -/
set_option Elab.async false
set_option linter.all false
set_option maxRecDepth 100000
set_option maxHeartbeats 4000000
/-! D2: edges_from. -/
namespace Rb
open PySem PySem.Spec PyProof.Rows L2
open Dx (Fact Facts Atom Fill)
open Dx05 (Way Column)
def EdgeAt (H : Hp) (q : Addr) (e : Way) : Prop := ∃ s t, H q = some (.tup [.ref s, .ref t, .bl e.new]) ∧ ColAt H s e.from_ ∧ ColAt H t e.to
def EdgesAt (H : Hp) (l : Addr) (es : List Way) : Prop := ∃ qs : List Addr, H l = some (.lst (qs.map V.ref)) ∧ Paired (EdgeAt H) qs es
theorem EdgeAt.kept {H H' : Hp} {q : Addr} {e : Way} (h : EdgeAt H q e) (s : ∀ b xs, H b = some (.tup xs) → H' b = some (.tup xs)) : EdgeAt H' q e := by
  obtain ⟨a, b, h1, h2, h3⟩ := h
  exact ⟨a, b, s _ _ h1, s _ _ h2, s _ _ h3⟩
theorem EdgesAt.same {H H' : Hp} {l : Addr} {es : List Way} (h : EdgesAt H l es) (s : Same H H') : EdgesAt H' l es := by
  obtain ⟨qs, h1, h2⟩ := h
  exact ⟨qs, s _ _ h1, Paired.mapP h2 fun _ _ z => z.kept fun _ _ e => s _ _ e⟩
/-- the tuples, when only a list is changed -/
theorem tupKept {H H1 : Hp} {l : Addr} {xs : List V} {o : HO} (hl : H l = some (.lst xs)) (s : Same H H1) : ∀ b ys, H b = some (.tup ys) → upd H1 l o b = some (.tup ys) := fun b ys e => by
  rw [upd_ne (ne_of e hl (fun z => nomatch z))]; exact s _ _ e
theorem paired_append {α β : Type} {R : α → β → Prop} {l : List α} {m : List β} (h : Paired R l m) : ∀ {l' : List α} {m' : List β}, Paired R l' m' → Paired R (l ++ l') (m ++ m') := by
  intro l' m' h'
  induction h with
  | nil => exact h'
  | cons a t ih => exact .cons a ih
def fromW (c : Column) (v : Nat) (r : Dx.Rule) : List Way := ((Dx05.columns r.head v).map fun d => (⟨c, d, false⟩ : Way)) ++ r.open_.flatMap fun u => (Dx05.columns r.head u).map fun d => ⟨c, d, true⟩
abbrev sFrom : Stmt := topS 30
def nFrom : List Str := ["start", "variable", "rule", "edges", "fresh", "end"]
theorem scFrom : FnScope nFrom ["start", "variable", "rule"] (defScope sFrom) := ⟨rfl, rfl, rfl, by decide +kernel, rfl, by decide +kernel, by decide +kernel⟩
def spFrom (CR : Addr) : Sp := fun vs H Q _ => ∃ (st ra : Addr) (c : Column) (v : Nat) (r : Dx.Rule), vs = [.ref st, nI v, .ref ra] ∧ ColAt H st c ∧ RuleAt CR H ra r ∧ r.head.length ≤ 2 ∧ r.open_.length ≤ 4 ∧
  ∀ (H' : Hp) (p : Addr), Same H H' → H p = none → EdgesAt H' p (fromW c v r) → Q (.ref p) H'
theorem from_snoc (c : Column) (v : Nat) (r : Dx.Rule) {us : List Nat} {i u : Nat} (h : us[i]? = some u) (b : List Way) :
    b ++ (us.take (i + 1)).flatMap (fun u => (Dx05.columns r.head u).map fun d => (⟨c, d, true⟩ : Way)) = (b ++ (us.take i).flatMap fun u => (Dx05.columns r.head u).map fun d => (⟨c, d, true⟩ : Way)) ++ (Dx05.columns r.head u).map fun d => ⟨c, d, true⟩ := by
  rw [take_succ' h, List.flatMap_append, List.append_assoc]
  simp
theorem from_len (c : Column) (r : Dx.Rule) (us : List Nat) : (us.flatMap fun u => (Dx05.columns r.head u).map fun d => (⟨c, d, true⟩ : Way)).length ≤ us.length * (2 * r.head.length) := by
  induction us with
  | nil => simp
  | cons u us ih =>
    rw [List.flatMap_cons, List.length_append, List.length_map, List.length_cons, Nat.add_mul]
    have := columns_len r.head u
    omega
section
variable {P : Program} {w : World} {K : PySem.W.Frag} {mg : Str → Option Value} {base : Heap} {CR : Addr}
theorem ok_from {f : Addr} {fd : FuncData} (F : Fun K "edges_from" "edges_from" sFrom f fd) (TR : RTxt K mg CR) (GP : FnB P w K mg base CX0 "positions_of" ["variable", "atoms"] 1 spPos) : FnOk P w K mg base CX0 2 f fd ["start", "variable", "rule"] (spFrom CR) := by
  refine F.ok scFrom (fun vs H Q E h => ?_) (fun cdv A outer s H vs Q E hr h => ?_)
  · obtain ⟨st, ra, c, v, r, rfl, _⟩ := h
    rfl
  · have nd : nFrom.Nodup := scFrom.nd
    refine ⟨_, pss_cons (ps_setLc (i := 3) (own := [("end", 5)]) (g := gName 5) rfl nd rfl rfl (sw_true rfl rfl rfl (by decide +kernel)) (pi_list (pe_callF GP hr pass0 (pa_cons (pv 1) (pa_cons (pe_fld (pv 2) rfl) pa_nil)))) (blkOk_by (own := [("end", 5)]) (N := nFrom) (sc := defScope sFrom) (by decide +kernel)) (fun _ _ _ _ _ => pg_name (i := 5) nd rfl (Or.inl rfl))
            (fun _ _ _ _ _ => pts_nil) (fun _ _ _ _ _ => pe_tup (pa_cons (pv 0) (pa_cons (pv 5) (pa_cons pe_bl pa_nil)))))
      (pss_cons (ps_for PassesOwn.never rfl (pi_list (pe_fld (pv 2) rfl)) (pg_name (i := 4) nd rfl (Or.inl rfl))
        (pss_one (ps_expr (pe_bm PySem.F.plainAttrs_list PySem.F.slot_list_extend PySem.F.type_list_extend mt_extend (pv 3)
          (pa_cons (pe_lc (own := [("end", 5)]) (g := gName 5) rfl nd (pi_list (pe_callF GP hr pass0 (pa_cons (pv 4) (pa_cons (pe_fld (pv 2) rfl) pa_nil)))) (blkOk_by (own := [("end", 5)]) (N := nFrom) (sc := defScope sFrom) (by decide +kernel)) (fun _ _ _ _ _ => pg_name (i := 5) nd rfl (Or.inl rfl))
            (fun _ _ _ _ _ => pts_nil) (fun _ _ _ _ _ => pe_tup (pa_cons (pv 0) (pa_cons (pv 5) (pa_cons pe_bl pa_nil))))) pa_nil)))))
      (pss_one (ps_ret (pv 3)))), ?_⟩
    obtain ⟨st, ra, c, v, r, rfl, hst, hR, lh2, lo4, k⟩ := h
    have hR0 := hR
    obtain ⟨dr, lb, lh, ls, le, r1, r2, r3, r4, r5⟩ := hR0
    have hl1 : (Dx05.columns r.head v).length ≤ 4 := by have := columns_len r.head v; omega
    refine ⟨_, rfl, _, rfl, ra, CR, dr, _, _, rfl, r1, TR.cl, TR.nH, rF_head lb lh ls le, lh, v, r.head, rfl, r3, by omega, fun H1 p s1 hpn ⟨qs, hp, hqs⟩ => ?_⟩
    refine ⟨p, rfl, ⟨_, SqL.of hp⟩, fun D hD => lc_list (K := K) (a := p) (xs := qs.map V.ref) (fun i H' => Same H1 H' ∧ ∃ ds : List Addr, H' D = some (.lst (ds.map V.ref)) ∧ Paired (EdgeAt H') ds (((Dx05.columns r.head v).take i).map fun d => (⟨c, d, false⟩ : Way))) ?_ (fun i H' _ ⟨q, _⟩ => SqL.of (q _ _ hp)) ?_ ?_⟩
    · exact ⟨same_upd (Same.refl _) hD, [], upd_same, .nil⟩
    · rintro i x H2 hi ⟨s2, ds, q2, hds⟩
      obtain ⟨q, hq, rfl⟩ := map_get hi
      obtain ⟨d, hd, dat⟩ := paired_get hqs hq
      have ld : ds.length ≤ 4 := by rw [Paired.length hds, List.length_map, List.length_take]; omega
      refine ⟨rfl, ?_⟩
      refine yesI ?_
      rw [if_pos rfl]
      refine ⟨_, rfl, _, rfl, by show 3 ≤ sizeLine; decide, fun t ht => ?_⟩
      have s3 : Same H2 (upd H2 t (.tup [.ref st, .ref q, .bl false])) := same_upd (Same.refl _) ht
      refine ⟨_, s3 _ _ q2, by rw [List.length_map]; exact big_lt (by omega), fun b o e => ?_, ds ++ [t], ?_, ?_⟩
      · rw [upd_ne (ne_of_none e hD)]; exact s3 _ _ (s2 _ _ e)
      · rw [upd_same, List.map_append]; rfl
      · rw [take_succ' hd, List.map_append]
        refine Paired.snoc (Paired.mapP hds fun _ _ z => z.kept (tupKept q2 s3)) ⟨st, q, ?_, ?_, ?_⟩
        · rw [upd_ne (ne_of_none q2 ht).symm, upd_same]
        · exact tupKept q2 s3 _ _ (s2 _ _ (s1 _ _ hst))
        · exact tupKept q2 s3 _ _ (s2 _ _ dat)
    · rintro H2 ⟨s2, ds, q2, hds⟩
      have et : (Dx05.columns r.head v).take (qs.map V.ref).length = Dx05.columns r.head v := List.take_of_length_le (by rw [List.length_map, Paired.length hqs]; exact Nat.le_refl _)
      rw [et] at hds
      have s02 : Same H H2 := s1.trans s2
      have hDH : H D = none := s1.free hD
      refine ⟨_, rfl, ra, CR, dr, _, _, rfl, s02 _ _ r1, TR.cl, TR.nE, rF_ex lb lh ls le, le, rfl, ⟨_, SqL.of (s02 _ _ r5)⟩, for_list (K := K) (a := le) (xs := r.open_.map nI) (fun i σ H' => ∃ v4 v5 ds, σ = [some (.ref st), some (nI v), some (.ref ra), some (.ref D), v4, v5] ∧ Same H H' ∧ H' D = some (.lst (ds.map V.ref)) ∧
          Paired (EdgeAt H') ds (((Dx05.columns r.head v).map fun d => (⟨c, d, false⟩ : Way)) ++ (r.open_.take i).flatMap fun u => (Dx05.columns r.head u).map fun d => (⟨c, d, true⟩ : Way)))
        ⟨_, _, ds, rfl, s02, q2, by rw [List.take_zero, List.flatMap_nil, List.append_nil]; exact hds⟩ (fun i σ H' _ ⟨_, _, _, _, q, _⟩ => SqL.of (q _ _ r5)) ?_ ?_⟩
      · rintro i x σ H3 hi ⟨v4, v5, es, rfl, s3, q3, hes⟩
        obtain ⟨u, hu, rfl⟩ := map_get hi
        have hil : i < r.open_.length := (List.getElem?_eq_some_iff.mp hu).1
        have hl2 : (Dx05.columns r.head u).length ≤ 4 := by have := columns_len r.head u; omega
        have les : es.length ≤ 20 := by
          have b1 := from_len c r (r.open_.take i)
          have b2 : (r.open_.take i).length * (2 * r.head.length) ≤ 4 * 4 := Nat.mul_le_mul (by rw [List.length_take]; omega) (by omega)
          rw [Paired.length hes, List.length_append, List.length_map]
          omega
        refine ⟨_, rfl, .inl ⟨rfl, _, SqL.of q3⟩, ?_⟩
        refine ⟨_, rfl, _, rfl, ra, CR, dr, _, _, rfl, s3 _ _ r1, TR.cl, TR.nH, rF_head lb lh ls le, lh, u, r.head, rfl, r3.same s3, by omega, fun H4 p4 s4 hp4n ⟨qs4, hp4, hqs4⟩ => ?_⟩
        refine ⟨p4, rfl, ⟨_, SqL.of hp4⟩, fun D4 hD4 => lc_list (K := K) (a := p4) (xs := qs4.map V.ref) (fun j H' => Same H4 H' ∧ ∃ ds : List Addr, H' D4 = some (.lst (ds.map V.ref)) ∧ Paired (EdgeAt H') ds (((Dx05.columns r.head u).take j).map fun d => (⟨c, d, true⟩ : Way))) ?_ (fun j H' _ ⟨q, _⟩ => SqL.of (q _ _ hp4)) ?_ ?_⟩
        · exact ⟨same_upd (Same.refl _) hD4, [], upd_same, .nil⟩
        · rintro j x H5 hj ⟨s5, ds, q5, hds⟩
          obtain ⟨q, hq, rfl⟩ := map_get hj
          obtain ⟨d, hd, dat⟩ := paired_get hqs4 hq
          have ld : ds.length ≤ 4 := by rw [Paired.length hds, List.length_map, List.length_take]; omega
          refine ⟨rfl, ?_⟩
          refine yesI ?_
          rw [if_pos rfl]
          refine ⟨_, rfl, _, rfl, by show 3 ≤ sizeLine; decide, fun t ht => ?_⟩
          have s6 : Same H5 (upd H5 t (.tup [.ref st, .ref q, .bl true])) := same_upd (Same.refl _) ht
          refine ⟨_, s6 _ _ q5, by rw [List.length_map]; exact big_lt (by omega), fun b o e => ?_, ds ++ [t], ?_, ?_⟩
          · rw [upd_ne (ne_of_none e hD4)]; exact s6 _ _ (s5 _ _ e)
          · rw [upd_same, List.map_append]; rfl
          · rw [take_succ' hd, List.map_append]
            refine Paired.snoc (Paired.mapP hds fun _ _ z => z.kept (tupKept q5 s6)) ⟨st, q, ?_, ?_, ?_⟩
            · rw [upd_ne (ne_of_none q5 ht).symm, upd_same]
            · exact tupKept q5 s6 _ _ (s5 _ _ (s4 _ _ (s3 _ _ hst)))
            · exact tupKept q5 s6 _ _ (s5 _ _ dat)
        · rintro H5 ⟨s5, ds, q5, hds⟩
          have et4 : (Dx05.columns r.head u).take (qs4.map V.ref).length = Dx05.columns r.head u := List.take_of_length_le (by rw [List.length_map, Paired.length hqs4]; exact Nat.le_refl _)
          rw [et4] at hds
          have s35 : Same H3 H5 := s4.trans s5
          have ld : ds.length ≤ 4 := by rw [Paired.length hds, List.length_map]; omega
          have nD : D ≠ D4 := ne_of_none (s4 _ _ q3) hD4
          refine ⟨D, D4, _, _, rfl, rfl, s35 _ _ q3, q5, by rw [List.length_map, List.length_map, sizeLine_eq]; omega, ?_⟩
          refine ⟨_, _, es ++ ds, rfl, fun b o e => ?_, by rw [upd_same, List.map_append], ?_⟩
          · rw [upd_ne (ne_of_none e hDH)]; exact s35 _ _ (s3 _ _ e)
          · rw [from_snoc c v r hu]
            refine paired_append (Paired.mapP hes fun _ _ z => z.kept (tupKept q3 s35)) (Paired.mapP hds fun _ _ z => z.kept fun b xs e => ?_)
            rw [upd_ne (ne_of e (s35 _ _ q3) (fun z => nomatch z))]; exact e
      · rintro σ H3 ⟨v4, v5, es, rfl, s3, q3, hes⟩
        have et5 : r.open_.take (r.open_.map nI).length = r.open_ := List.take_of_length_le (by rw [List.length_map]; exact Nat.le_refl _)
        rw [et5] at hes
        exact ⟨_, rfl, k H3 D s3 hDH ⟨es, q3, hes⟩⟩
end
end Rb

/-! ## D3 -/
set_option Elab.async false
set_option linter.all false
set_option maxRecDepth 100000
set_option maxHeartbeats 4000000
/-! D3: edges_of. -/
namespace Rb
open PySem PySem.Spec PyProof.Rows L2
open Dx (Fact Facts Atom Fill)
open Dx05 (Way Column)
theorem flat_le {α β : Type} {f : α → List β} {b : Nat} : ∀ {l : List α}, (∀ x ∈ l, (f x).length ≤ b) → (l.flatMap f).length ≤ l.length * b
  | [], _ => by simp
  | x :: l, h => by
    rw [List.flatMap_cons, List.length_append, List.length_cons, Nat.add_mul]
    have h1 := h x (by simp)
    have h2 := flat_le (l := l) fun y hy => h y (by simp [hy])
    omega
theorem openLen (r : Dx.Rule) : r.open_.length ≤ 2 * r.head.length :=
  Nat.le_trans (List.length_filter_le _ _) (by have := places_len r.head; omega)
theorem fromW_len {c : Column} {v : Nat} {r : Dx.Rule} (h : r.head.length ≤ 2) : (fromW c v r).length ≤ 20 := by
  unfold fromW
  rw [List.length_append, List.length_map]
  have h1 := columns_len r.head v
  have h2 := from_len c r r.open_
  have h3 := openLen r
  have h4 : r.open_.length * (2 * r.head.length) ≤ 4 * 4 := Nat.mul_le_mul (by omega) (by omega)
  omega
def oneW (r : Dx.Rule) (v : Nat) : List Way := (Dx05.columns r.body v).flatMap fun c => fromW c v r
theorem waysOf_eq (r : Dx.Rule) : Dx05.waysOf r = (shared r).flatMap (oneW r) := waysOf_shared r
theorem oneW_len {r : Dx.Rule} {v : Nat} (hb : r.body.length ≤ 2) (h : r.head.length ≤ 2) : (oneW r v).length ≤ 80 := by
  have h1 := columns_len r.body v
  have h2 := flat_le (l := Dx05.columns r.body v) (f := fun c => fromW c v r) (b := 20) fun c _ => fromW_len h
  unfold oneW
  omega
theorem waysOf_len {r : Dx.Rule} (ok : RuleOk r) : (Dx05.waysOf r).length ≤ 1000 := by
  rw [waysOf_eq]
  have h1 := flat_le (l := shared r) (f := oneW r) (b := 80) fun v _ => oneW_len (right_len ok.b).2 (right_len ok.h).2
  have := shared_len ok
  omega
abbrev sEdges : Stmt := topS 31
def nEdges : List Str := ["rules", "edges", "rule", "variable", "start"]
theorem scEdges : FnScope nEdges ["rules"] (defScope sEdges) := ⟨rfl, rfl, rfl, by decide +kernel, rfl, by decide +kernel, by decide +kernel⟩
def spEdges (CR : Addr) : Sp := fun vs H Q _ => ∃ (lr : Addr) (ras : List Addr) (rs : List Dx.Rule), vs = [.ref lr] ∧ H lr = some (.lst (ras.map V.ref)) ∧ Paired (RuleAt CR H) ras rs ∧ rs.length ≤ 3 ∧ (∀ r ∈ rs, RuleOk r) ∧
  ∀ (H' : Hp) (p : Addr), Same H H' → H p = none → EdgesAt H' p (Dx05.ways rs) → Q (.ref p) H'
theorem flat_snoc {α β : Type} {f : α → List β} {l : List α} {i : Nat} {x : α} (h : l[i]? = some x) : (l.take (i + 1)).flatMap f = (l.take i).flatMap f ++ f x := by
  rw [take_succ' h, List.flatMap_append]; simp
theorem flat_take_le {α β : Type} {f : α → List β} {b : Nat} {l : List α} (i : Nat) (h : ∀ x ∈ l, (f x).length ≤ b) : ((l.take i).flatMap f).length ≤ l.length * b := by
  have := flat_le (l := l.take i) fun x hx => h x (List.mem_of_mem_take hx)
  have h2 : (l.take i).length * b ≤ l.length * b := Nat.mul_le_mul_right _ (by rw [List.length_take]; omega)
  omega
section
variable {P : Program} {w : World} {K : PySem.W.Frag} {mg : Str → Option Value} {base : Heap} {CR : Addr}
theorem ok_edges {f : Addr} {fd : FuncData} (F : Fun K "edges_of" "edges_of" sEdges f fd) (TR : RTxt K mg CR) (GP : FnB P w K mg base CX0 "positions_of" ["variable", "atoms"] 1 spPos)
    (GF : FnB P w K mg base CX0 "edges_from" ["start", "variable", "rule"] 2 (spFrom CR)) : FnOk P w K mg base CX0 3 f fd ["rules"] (spEdges CR) := by
  refine F.ok scEdges (fun vs H Q E h => ?_) (fun cdv A outer s H vs Q E hr h => ?_)
  · obtain ⟨lr, ras, rs, rfl, _⟩ := h
    rfl
  · have nd : nEdges.Nodup := scEdges.nd
    have hr1 : Room 1 _ := hr.mono (by decide)
    refine ⟨_, pss_cons (ps_set (i := 1) nd rfl (Or.inl rfl) (pe_lst pa_nil))
      (pss_cons (ps_for PassesOwn.never rfl (pi_list (pv 0)) (pg_name (i := 2) nd rfl (Or.inl rfl))
        (pss_one (ps_for PassesOwn.never rfl (pi_list (pe_fld (pv 2) rfl)) (pg_name (i := 3) nd rfl (Or.inl rfl))
          (pss_one (ps_for PassesOwn.never rfl (pi_list (pe_callF GP hr1 pass0 (pa_cons (pv 3) (pa_cons (pe_fld (pv 2) rfl) pa_nil)))) (pg_name (i := 4) nd rfl (Or.inl rfl))
            (pss_one (ps_expr (pe_bm PySem.F.plainAttrs_list PySem.F.slot_list_extend PySem.F.type_list_extend mt_extend (pv 1)
              (pa_cons (pe_callF GF hr pass0 (pa_cons (pv 4) (pa_cons (pv 3) (pa_cons (pv 2) pa_nil)))) pa_nil)))))))))
      (pss_one (ps_ret (pv 1)))), ?_⟩
    obtain ⟨lr, ras, rs, rfl, hlr, hRs, lrs, hok, k⟩ := h
    refine ⟨by show 0 ≤ sizeLine; decide, fun D hD => ?_⟩
    have s1 : Same H (upd H D (.lst [])) := same_upd (Same.refl H) hD
    have lras : ras.length = rs.length := Paired.length hRs
    refine ⟨_, rfl, lr, rfl, ⟨_, SqL.of (s1 _ _ hlr)⟩, for_list (K := K) (a := lr) (xs := ras.map V.ref) (fun i σ H' => ∃ v2 v3 v4 ds, σ = [some (.ref lr), some (.ref D), v2, v3, v4] ∧ Same H H' ∧ H' D = some (.lst (ds.map V.ref)) ∧ Paired (EdgeAt H') ds ((rs.take i).flatMap Dx05.waysOf))
      ⟨none, none, none, [], rfl, s1, upd_same, .nil⟩ (fun i σ H' _ ⟨_, _, _, _, _, q, _⟩ => SqL.of (q _ _ hlr)) ?_ ?_⟩
    · rintro i x σ H2 hi ⟨v2, v3, v4, ds, rfl, s2, q2, hds⟩
      obtain ⟨ra, hra, rfl⟩ := map_get hi
      obtain ⟨r, hrr, hR⟩ := paired_get hRs hra
      have ok := hok r (List.mem_of_getElem? hrr)
      have hb2 := (right_len ok.b).2
      have hh2 := (right_len ok.h).2
      have hsh := shared_len ok
      have ho := openLen r
      obtain ⟨dr, lb, lh, ls, le, r1, r2, r3, r4, r5⟩ := hR
      have b1 : ((rs.take i).flatMap Dx05.waysOf).length ≤ 3000 := by
        have := flat_take_le (l := rs) (f := Dx05.waysOf) (b := 1000) i fun q hq => waysOf_len (hok q hq)
        omega
      refine ⟨_, rfl, ra, CR, dr, _, _, rfl, s2 _ _ r1, TR.cl, TR.nS, rF_shared lb lh ls le, ls, rfl, ⟨_, SqL.of (s2 _ _ r4)⟩, for_list (K := K) (a := ls) (xs := (shared r).map nI) (fun j σ H' => ∃ v3 v4 ds, σ = [some (.ref lr), some (.ref D), some (.ref ra), v3, v4] ∧ Same H H' ∧ H' D = some (.lst (ds.map V.ref)) ∧
          Paired (EdgeAt H') ds ((rs.take i).flatMap Dx05.waysOf ++ ((shared r).take j).flatMap (oneW r)))
        ⟨_, _, ds, rfl, s2, q2, by rw [List.take_zero, List.flatMap_nil, List.append_nil]; exact hds⟩ (fun j σ H' _ ⟨_, _, _, _, q, _⟩ => SqL.of (q _ _ r4)) ?_ ?_⟩
      · rintro j x σ H3 hj ⟨v3, v4, ds, rfl, s3, q3, hds⟩
        obtain ⟨v, hv, rfl⟩ := map_get hj
        have b2 : (((shared r).take j).flatMap (oneW r)).length ≤ 1000 := by
          have := flat_take_le (l := shared r) (f := oneW r) (b := 80) j fun v _ => oneW_len hb2 hh2
          omega
        refine ⟨_, rfl, _, rfl, ra, CR, dr, _, _, rfl, s3 _ _ r1, TR.cl, TR.nB, rF_body lb lh ls le, lb, v, r.body, rfl, r2.same s3, by omega, fun H4 p s4 hpn ⟨qs, hp, hqs⟩ => ?_⟩
        have s04 : Same H H4 := s3.trans s4
        have b4 : (Dx05.columns r.body v).length ≤ 4 := by have := columns_len r.body v; omega
        refine ⟨p, rfl, ⟨_, SqL.of hp⟩, for_list (K := K) (a := p) (xs := qs.map V.ref) (fun t σ H' => ∃ v4 ds, σ = [some (.ref lr), some (.ref D), some (.ref ra), some (nI v), v4] ∧ Same H H' ∧ H' p = some (.lst (qs.map V.ref)) ∧ (∀ b xs, H4 b = some (.tup xs) → H' b = some (.tup xs)) ∧ H' D = some (.lst (ds.map V.ref)) ∧
            Paired (EdgeAt H') ds (((rs.take i).flatMap Dx05.waysOf ++ ((shared r).take j).flatMap (oneW r)) ++ ((Dx05.columns r.body v).take t).flatMap fun c => fromW c v r))
          ⟨_, ds, rfl, s04, hp, fun _ _ e => e, s4 _ _ q3, by rw [List.take_zero, List.flatMap_nil, List.append_nil]; exact Paired.mapP hds fun _ _ z => z.kept fun _ _ e => s4 _ _ e⟩ (fun t σ H' _ ⟨_, _, _, _, q, _⟩ => SqL.of q) ?_ ?_⟩
        · rintro t x σ H5 ht ⟨v4, ds, rfl, s5, hp5, tk5, q5, hds⟩
          obtain ⟨q, hq, rfl⟩ := map_get ht
          obtain ⟨c, hc, cat⟩ := paired_get hqs hq
          have b3 : (((Dx05.columns r.body v).take t).flatMap fun c => fromW c v r).length ≤ 100 := by
            have := flat_take_le (l := Dx05.columns r.body v) (f := fun c => fromW c v r) (b := 20) t fun c _ => fromW_len hh2
            omega
          have bds : ds.length ≤ 5000 := by
            rw [Paired.length hds, List.length_append, List.length_append]; omega
          refine ⟨_, rfl, .inl ⟨rfl, _, SqL.of q5⟩, _, rfl, _, rfl, _, rfl, q, ra, c, v, r, rfl, tk5 _ _ cat, ⟨dr, lb, lh, ls, le, s5 _ _ r1, r2.same s5, r3.same s5, s5 _ _ r4, s5 _ _ r5⟩, hh2, by omega, fun H6 p6 s6 hp6n ⟨es, hp6, hes⟩ => ?_⟩
          have les : es.length ≤ 20 := by rw [Paired.length hes]; exact fromW_len hh2
          have kp : ∀ b xs, H6 b = some (.tup xs) → upd H6 D (.lst (ds.map V.ref ++ es.map V.ref)) b = some (.tup xs) := fun b xs e => by
            rw [upd_ne (ne_of e (s6 _ _ q5) (fun z => nomatch z))]; exact e
          have pD : p ≠ D := (ne_of_none q3 hpn).symm
          refine ⟨D, p6, _, _, rfl, rfl, s6 _ _ q5, hp6, by rw [List.length_map, List.length_map, sizeLine_eq]; omega, ?_⟩
          refine ⟨_, ds ++ es, rfl, fun b o e => ?_, ?_, fun b xs e => kp _ _ (s6 _ _ (tk5 _ _ e)), by rw [upd_same, List.map_append], ?_⟩
          · rw [upd_ne (ne_of_none e hD)]; exact s6 _ _ (s5 _ _ e)
          · rw [upd_ne pD]; exact s6 _ _ hp5
          · rw [flat_snoc hc, ← List.append_assoc]
            exact paired_append (Paired.mapP hds fun _ _ z => z.kept fun b xs e => kp _ _ (s6 _ _ e)) (Paired.mapP hes fun _ _ z => z.kept kp)
        · rintro σ H5 ⟨v4, ds, rfl, s5, hp5, tk5, q5, hds⟩
          have et : (Dx05.columns r.body v).take (qs.map V.ref).length = Dx05.columns r.body v := List.take_of_length_le (by rw [List.length_map, Paired.length hqs]; exact Nat.le_refl _)
          rw [et] at hds
          refine ⟨_, _, ds, rfl, s5, q5, ?_⟩
          rw [flat_snoc hv, ← List.append_assoc]
          exact hds
      · rintro σ H3 ⟨v3, v4, ds, rfl, s3, q3, hds⟩
        have et : (shared r).take ((shared r).map nI).length = shared r := List.take_of_length_le (by rw [List.length_map]; exact Nat.le_refl _)
        rw [et, ← waysOf_eq] at hds
        exact ⟨_, _, _, ds, rfl, s3, q3, by rw [flat_snoc hrr]; exact hds⟩
    · rintro σ H2 ⟨v2, v3, v4, ds, rfl, s2, q2, hds⟩
      have et : rs.take (ras.map V.ref).length = rs := List.take_of_length_le (by rw [List.length_map]; omega)
      rw [et] at hds
      exact ⟨_, rfl, k H2 D s2 hD ⟨ds, q2, hds⟩⟩
end
end Rb

/-! ## D4 -/
set_option Elab.async false
set_option linter.all false
set_option maxRecDepth 100000
set_option maxHeartbeats 4000000
/-! D4: reached_from. -/
namespace Rb
open PySem PySem.Spec PyProof.Rows L2
open Dx (Fact Facts Atom Fill)
open Dx05 (Way Column)
def colL (c : Column) : List Nat := [c.1, c.2]
theorem colL_inj {a b : Column} : colL a = colL b ↔ a = b := by
  constructor
  · intro h
    unfold colL at h
    have h1 : a.1 = b.1 := (List.cons.inj h).1
    have h2 : a.2 = b.2 := (List.cons.inj (List.cons.inj h).2).1
    exact Prod.ext h1 h2
  · intro h; rw [h]
theorem mem_colL {c : Column} {R : List Column} : colL c ∈ R.map colL ↔ c ∈ R := by
  constructor
  · intro h
    obtain ⟨d, hd, e⟩ := List.mem_map.mp h
    rw [← colL_inj.mp e]; exact hd
  · intro h; exact List.mem_map.mpr ⟨c, h, rfl⟩
theorem colD_eqv (a b : Column) : PyData.eqv (natsD (colL a)) (natsD (colL b)) = decide (a = b) := by
  obtain ⟨a1, a2⟩ := a
  obtain ⟨b1, b2⟩ := b
  have h1 : ((a1 : Int) == (b1 : Int)) = decide (a1 = b1) := by
    by_cases e : a1 = b1
    · subst e; simp
    · have : ¬ (a1 : Int) = (b1 : Int) := by omega
      simp [e, this]
  have h2 : ((a2 : Int) == (b2 : Int)) = decide (a2 = b2) := by
    by_cases e : a2 = b2
    · subst e; simp
    · have : ¬ (a2 : Int) = (b2 : Int) := by omega
      simp [e, this]
  simp [natsD, colL, PyData.eqv, PyData.eqvAll, h1, h2]
theorem ColAt.nats {H : Hp} {q : Addr} {c : Column} (h : ColAt H q c) : H q = some (.tup ((colL c).map nI)) := h
theorem ColAt.key {H : Hp} {q : Addr} {c : Column} (h : ColAt H q c) : H q = some (.tup ((natsK (colL c)).map kV)) := by rw [natsK_V]; exact h
theorem paired_concat {α β : Type} {R : α → β → Prop} : ∀ {l : List α} {a : α} {m : List β}, Paired R (l ++ [a]) m → ∃ m' b, m = m' ++ [b] ∧ Paired R l m' ∧ R a b
  | [], a, m, h => by
    cases h with
    | cons r t => cases t; exact ⟨[], _, rfl, .nil, r⟩
  | x :: l, a, m, h => by
    cases h with
    | cons r t =>
      obtain ⟨m', b, rfl, h1, h2⟩ := paired_concat t
      exact ⟨_ :: m', b, rfl, .cons r h1, h2⟩
abbrev sReach : Stmt := topS 32
def nReach : List Str := ["position", "edges", "reached", "waiting", "here", "start", "end", "special"]
theorem scReach : FnScope nReach ["position", "edges"] (defScope sReach) := ⟨rfl, rfl, rfl, by decide +kernel, rfl, by decide +kernel, by decide +kernel⟩
def spReach : Sp := fun vs H Q _ => ∃ (pa le : Addr) (c : Column) (es : List Way), vs = [.ref pa, .ref le] ∧ ColAt H pa c ∧ ColOk c ∧ EdgesAt H le es ∧ (∀ e ∈ es, ColOk e.to) ∧
  ∀ (H' : Hp) (p : Addr) (R : List Column), Same H H' → H p = none → H' p = some (.dT (setK (R.map colL))) → (∀ q, q ∈ R ↔ Reach es c q) → Q (.ref p) H'
section
variable {P : Program} {w : World} {K : PySem.W.Frag} {mg : Str → Option Value} {base : Heap}
theorem ok_reach {f : Addr} {fd : FuncData} (F : Fun K "reached_from" "reached_from" sReach f fd) : FnOk P w K mg base CX0 1 f fd ["position", "edges"] spReach := by
  refine F.ok scReach (fun vs H Q E h => ?_) (fun cdv A outer s H vs Q E hr h => ?_)
  · obtain ⟨pa, le, c, es, rfl, _⟩ := h
    rfl
  · have nd : nReach.Nodup := scReach.nd
    have hu := hu_of hr
    refine ⟨_, pss_cons (ps_set (i := 2) nd rfl (Or.inl rfl) (pe_dispT1 hu (pps_cons (pv 0) pe_bl pps_nil)))
      (pss_cons (ps_set (i := 3) nd rfl (Or.inl rfl) (pe_lst (pa_cons (pv 0) pa_nil)))
      (pss_cons (ps_while PassesOwn.never (pt_truth (pv 3) (fun _ => rfl))
        (pss_cons (ps_set (i := 4) nd rfl (Or.inl rfl) (pe_bm0 PySem.F.plainAttrs_list PySem.F.slot_list_pop PySem.F.type_list_pop mt_pop (pv 3)))
        (pss_one (ps_for PassesOwn.never rfl (pi_list (pv 1)) (pg_tup rfl (pgs_cons (pg_name (i := 5) nd rfl (Or.inl rfl)) (pgs_cons (pg_name (i := 6) nd rfl (Or.inl rfl)) (pgs_cons (pg_name (i := 7) nd rfl (Or.inl rfl)) pgs_nil))))
          (pss_one (ps_if (PW.pt (pw_and (pt_cmpR (op_eqD (room64 hr)) (pv 5) (pv 4) (nomark _)) (pw_and1 (pt_cmp (pc_dnotin hu (pv 6) (pv 2))))))
            (pss_cons (ps_dput hu (pv 2) (pv 6) pe_bl rfl)
              (pss_one (ps_expr (pe_bm PySem.F.plainAttrs_list PySem.F.slot_list_append PySem.F.type_list_append mt_append (pv 3) (pa_cons (pv 6) pa_nil))))) pss_nil))))))
      (pss_one (ps_ret (pv 2))))), ?_⟩
    obtain ⟨pa, le, c, es, rfl, hpa, hc, ⟨qs, hle, hqs⟩, hes, k⟩ := h
    intro p hp
    have lqs : qs.length = es.length := Paired.length hqs
    refine ⟨_, rfl, upd_same, natsK (colL c), pa, .bl true, rfl, by rw [upd_ne (ne_of_none hpa hp)]; exact hpa.key, ?_⟩
    rw [upd_upd]
    have s1 : Same H (upd H p (.dT [(natsK (colL c), .bl true)])) := same_upd (Same.refl H) hp
    refine ⟨_, rfl, by show 1 ≤ sizeLine; decide, fun wl hwl => ?_⟩
    have nw : p ≠ wl := ne_of_none upd_same hwl
    have hwlH : H wl = none := s1.free hwl
    have s2 : Same H (upd (upd H p (.dT [(natsK (colL c), .bl true)])) wl (.lst [.ref pa])) := s1.trans (same_upd (Same.refl _) hwl)
    refine ⟨fun m σ H' => ∃ (R Ws : List Column) (qw : List Addr) (v4 v5 v6 v7 : Option V), σ = [some (.ref pa), some (.ref le), some (.ref p), some (.ref wl), v4, v5, v6, v7] ∧ Same H H' ∧ H' p = some (.dT (setK (R.map colL))) ∧ H' wl = some (.lst (qw.map V.ref)) ∧ Paired (ColAt H) qw Ws ∧ Dfs es c R Ws ∧ Ws.length ≤ R.length ∧ m = 2 * (8 - R.length) + Ws.length,
      ⟨_, [c], [c], [pa], none, none, none, none, rfl, s2, by rw [upd_ne nw, upd_same]; rfl, upd_same, .cons hpa .nil, Dfs.start hc, Nat.le_refl _, rfl⟩, ?_⟩
    rintro m σ H2 ⟨R, Ws, qw, v4, v5, v6, v7, rfl, s2, hp2, hwl2, hqw, dfs, hWR, rfl⟩
    rcases List.eq_nil_or_concat qw with rfl | ⟨L, b, rfl⟩
    · cases hqw
      refine ⟨_, rfl, false, .inl ⟨_, SqL.of hwl2, rfl⟩, ifF rfl ?_⟩
      exact ⟨_, rfl, k H2 p R s2 hp hp2 fun q => dfs.is⟩
    · rw [List.concat_eq_append] at hqw hwl2
      obtain ⟨W1, here, rfl, hW1, hhere⟩ : ∃ W1 here, Ws = W1 ++ [here] ∧ Paired (ColAt H) L W1 ∧ ColAt H b here := paired_concat hqw
      refine ⟨_, rfl, true, .inl ⟨_, SqL.of hwl2, by simp⟩, ifT rfl ⟨_, fun σ' H' h => h, ?_⟩⟩
      refine ⟨_, rfl, .inl ⟨rfl, _, SqL.of hwl2⟩, wl, _, .ref b, rfl, rfl, hwl2, by simp, ?_⟩
      have edl : ((L ++ [b]).map V.ref).dropLast = L.map V.ref := by simp
      rw [edl]
      have s3 : Same H (upd H2 wl (.lst (L.map V.ref))) := fun x o e => by rw [upd_ne (ne_of_none e hwlH)]; exact s2 _ _ e
      have hp3 : upd H2 wl (.lst (L.map V.ref)) p = some (.dT (setK (R.map colL))) := by rw [upd_ne nw]; exact hp2
      have hwl3 : upd H2 wl (.lst (L.map V.ref)) wl = some (.lst (L.map V.ref)) := upd_same
      generalize upd H2 wl (.lst (L.map V.ref)) = H3 at s3 hp3 hwl3 ⊢
      refine ⟨_, rfl, le, rfl, ⟨_, SqL.of (s3 _ _ hle)⟩, for_list (K := K) (a := le) (xs := qs.map V.ref) (fun j σ H' => ∃ (R' W' : List Column) (qw : List Addr) (v5 v6 v7 : Option V), σ = [some (.ref pa), some (.ref le), some (.ref p), some (.ref wl), some (.ref b), v5, v6, v7] ∧ Same H H' ∧ H' p = some (.dT (setK (R'.map colL))) ∧ H' wl = some (.lst (qw.map V.ref)) ∧ Paired (ColAt H) qw W' ∧
          DfsIn es c here (es.take j) R' W' ∧ W'.length ≤ R'.length ∧ 2 * (8 - R'.length) + W'.length < 2 * (8 - R.length) + (W1 ++ [here]).length)
        ⟨R, W1, L, _, _, _, rfl, s3, hp3, hwl3, hW1, by rw [List.take_zero]; exact dfs.pop, by rw [List.length_append] at hWR; omega, by rw [List.length_append, List.length_singleton]; omega⟩ (fun j σ H' _ ⟨_, _, _, _, _, _, _, q, _⟩ => SqL.of (q _ _ hle)) ?_ ?_⟩
      · rintro j x σ H4 hj ⟨R', W', qw, v5, v6, v7, rfl, s4, hp4, hwl4, hqw, dfs, hWR', hm⟩
        obtain ⟨q, hq, rfl⟩ := map_get hj
        obtain ⟨e, he, eat⟩ := paired_get hqs hq
        obtain ⟨qa, qb, e1, e2, e3⟩ := eat
        have hem := List.mem_of_getElem? he
        have d2 := dfs.one hem (hes e hem)
        rw [← take_succ' he] at d2
        have h8 := col_pigeon d2.nd d2.ok
        have hm2 := dfs_measure h8
        have e2' := s4 _ _ e2
        have e3' := s4 _ _ e3
        have hh' := s4 _ _ hhere
        have g := DGet.t (k := natsK (colL e.to)) hp4 (show H4 qb = some (.tup ((natsK (colL e.to)).map kV)) from ColAt.key (c := e.to) e3')
        rw [setK_get] at g
        refine ⟨q, _, rfl, SqT.of (s4 _ _ e1), rfl, _, _, rfl, _, _, rfl, _, _, rfl, rfl, ?_⟩
        refine ⟨_, rfl, _, rfl, natsD (colL e.from_), natsD (colL here), natsAt_dp (k := colL e.from_) e2', natsAt_dp (k := colL here) hh', rfl, rfl, _, rfl, ?_⟩
        rw [colD_eqv]
        by_cases c1 : e.from_ = here
        · refine ifT (decide_eq_true c1) ?_
          refine ⟨_, rfl, _, rfl, p, _, rfl, g, _, rfl, ?_⟩
          by_cases c2 : e.to ∈ R'
          · rw [if_pos (mem_colL.mpr c2)]
            refine ifF rfl ?_
            have en : dfsOne here (R', W') e = (R', W') := by unfold dfsOne; rw [if_neg (fun z => z.2 c2)]
            rw [en] at d2
            exact ⟨R', W', qw, _, _, _, rfl, s4, hp4, hwl4, hqw, d2, hWR', hm⟩
          · rw [if_neg (fun z => c2 (mem_colL.mp z))]
            refine ifT rfl ?_
            have en : dfsOne here (R', W') e = (R' ++ [e.to], W' ++ [e.to]) := by unfold dfsOne; rw [if_pos ⟨c1, c2⟩]
            rw [en] at d2 h8 hm2
            dsimp only at d2 h8 hm2
            have lR : R'.length ≤ 8 := by rw [List.length_append] at h8; omega
            refine ⟨_, rfl, _, rfl, p, _, rfl, DPut.t (k := natsK (colL e.to)) hp4 (ColAt.key (c := e.to) e3') (by unfold setK; rw [List.length_map, List.length_map]; exact big_lt (by omega)), ?_⟩
            rw [setK_put, addS, if_neg (fun z => c2 (mem_colL.mp z))]
            have npw : p ≠ wl := ne_of hp4 hwl4 (fun z => nomatch z)
            have lqw : qw.length ≤ 8 := by
              rw [Paired.length hqw]; omega
            refine ⟨_, rfl, .inl ⟨rfl, _, SqL.of (show upd _ _ _ wl = _ from by rw [upd_ne npw.symm]; exact hwl4)⟩, _, rfl, wl, _, _, rfl, rfl, by rw [upd_ne npw.symm]; exact hwl4, by rw [List.length_map]; exact big_lt (by omega), ?_⟩
            refine ⟨R' ++ [e.to], W' ++ [e.to], qw ++ [qb], _, _, _, rfl, fun b o e => ?_, ?_, ?_, Paired.snoc hqw e3, d2, by rw [List.length_append, List.length_append]; exact Nat.add_le_add_right hWR' _, Nat.lt_of_le_of_lt hm2 hm⟩
            · rw [upd_ne (ne_of_none e hwlH), upd_ne (ne_of_none e hp)]; exact s4 _ _ e
            · rw [upd_ne npw, upd_same, List.map_append]; rfl
            · rw [upd_same, List.map_append]; rfl
        · refine ifF (decide_eq_false c1) ?_
          refine ifF rfl ?_
          have en : dfsOne here (R', W') e = (R', W') := by unfold dfsOne; rw [if_neg (fun z => c1 z.1)]
          rw [en] at d2
          exact ⟨R', W', qw, _, _, _, rfl, s4, hp4, hwl4, hqw, d2, hWR', hm⟩
      · rintro σ H4 ⟨R', W', qw, v5, v6, v7, rfl, s4, hp4, hwl4, hqw, dfs, hWR', hm⟩
        have et : es.take (qs.map V.ref).length = es := List.take_of_length_le (by rw [List.length_map]; omega)
        rw [et] at dfs
        exact ⟨_, hm, R', W', qw, _, _, _, _, rfl, s4, hp4, hwl4, hqw, dfs.done, hWR', rfl⟩
end
end Rb

/-! ## D5 -/
set_option Elab.async false
set_option linter.all false
set_option maxRecDepth 100000
set_option maxHeartbeats 4000000
/-! D5: satisfies_criterion. -/
namespace Rb
open PySem PySem.Spec PyProof.Rows L2
open Dx (Fact Facts Atom Fill)
open Dx05 (Way Column)
abbrev sCrit : Stmt := topS 33
def nCrit : List Str := ["rules", "edges", "start", "end", "special"]
theorem scCrit : FnScope nCrit ["rules"] (defScope sCrit) := ⟨rfl, rfl, rfl, by decide +kernel, rfl, by decide +kernel, by decide +kernel⟩
def spCrit (CR : Addr) : Sp := fun vs H Q _ => ∃ (lr : Addr) (ras : List Addr) (rs : List Dx.Rule), vs = [.ref lr] ∧ H lr = some (.lst (ras.map V.ref)) ∧ Paired (RuleAt CR H) ras rs ∧ rs.length ≤ 3 ∧ (∀ r ∈ rs, RuleOk r) ∧
  ∀ H' : Hp, Same H H' → Q (.bl (Dx05.ends rs)) H'
section
variable {P : Program} {w : World} {K : PySem.W.Frag} {mg : Str → Option Value} {base : Heap} {CR : Addr}
theorem ok_crit {f : Addr} {fd : FuncData} (F : Fun K "satisfies_criterion" "satisfies_criterion" sCrit f fd) (GE : FnB P w K mg base CX0 "edges_of" ["rules"] 3 (spEdges CR))
    (GR : FnB P w K mg base CX0 "reached_from" ["position", "edges"] 1 spReach) : FnOk P w K mg base CX0 4 f fd ["rules"] (spCrit CR) := by
  refine F.ok scCrit (fun vs H Q E h => ?_) (fun cdv A outer s H vs Q E hr h => ?_)
  · obtain ⟨lr, ras, rs, rfl, _⟩ := h
    rfl
  · have nd : nCrit.Nodup := scCrit.nd
    have hu := hu_of hr
    have hr1 : Room 1 _ := hr.mono (by decide)
    refine ⟨_, pss_cons (ps_set (i := 1) nd rfl (Or.inl rfl) (pe_callF GE hr pass0 (pa_cons (pv 0) pa_nil)))
      (pss_cons (ps_for PassesOwn.never rfl (pi_list (pv 1)) (pg_tup rfl (pgs_cons (pg_name (i := 2) nd rfl (Or.inl rfl)) (pgs_cons (pg_name (i := 3) nd rfl (Or.inl rfl)) (pgs_cons (pg_name (i := 4) nd rfl (Or.inl rfl)) pgs_nil))))
          (pss_one (ps_if (PW.pt (pw_and (pt_truth (pv 4) (fun _ => rfl)) (pw_and1 (pt_cmp (pc_din hu (pv 2) (pe_callF GR hr1 pass0 (pa_cons (pv 3) (pa_cons (pv 1) pa_nil))))))))
            (pss_one (ps_ret pe_bl)) pss_nil)))
      (pss_one (ps_ret pe_bl))), ?_⟩
    obtain ⟨lr, ras, rs, rfl, hlr, hRs, lrs, hok, k⟩ := h
    have hw := fun e (he : e ∈ Dx05.ways rs) => ways_ok hok he
    refine ⟨_, rfl, lr, ras, rs, rfl, hlr, hRs, lrs, hok, fun H1 p s1 hpn ⟨qs, hp, hqs⟩ => ?_⟩
    refine ⟨_, rfl, p, rfl, ⟨_, SqL.of hp⟩, for_list (K := K) (a := p) (xs := qs.map V.ref) (fun i σ H' => ∃ v2 v3 v4, σ = [some (.ref lr), some (.ref p), v2, v3, v4] ∧ Same H1 H' ∧ ∀ e ∈ (Dx05.ways rs).take i, e.new = true → ¬ Reach (Dx05.ways rs) e.to e.from_)
      ⟨none, none, none, rfl, Same.refl _, by simp⟩ (fun i σ H' _ ⟨_, _, _, _, q, _⟩ => SqL.of (q _ _ hp)) ?_ ?_⟩
    · rintro i x σ H2 hi ⟨v2, v3, v4, rfl, s2, hn⟩
      obtain ⟨q, hq, rfl⟩ := map_get hi
      obtain ⟨e, he, qa, qb, e1, e2, e3⟩ := paired_get hqs hq
      have hem := List.mem_of_getElem? he
      refine ⟨q, _, rfl, SqT.of (s2 _ _ e1), rfl, _, _, rfl, _, _, rfl, _, _, rfl, rfl, ?_⟩
      refine ⟨_, rfl, e.new, rfl, ?_⟩
      cases hnew : e.new with
      | false =>
        refine ifF rfl (ifF rfl ⟨_, _, _, rfl, s2, fun e' he' hn' => ?_⟩)
        rw [take_succ' he] at he'
        rcases List.mem_append.mp he' with z | z
        · exact hn e' z hn'
        · have : e' = e := by simpa using z
          subst this
          rw [hnew] at hn'; cases hn'
      | true =>
        refine ifT rfl ?_
        refine ⟨_, rfl, _, rfl, _, rfl, qb, p, e.to, Dx05.ways rs, rfl, s2 _ _ e3, (hw e hem).2, (show EdgesAt H1 p (Dx05.ways rs) from ⟨qs, hp, hqs⟩).same s2, fun x hx => (hw x hx).2, fun H3 d R s3 hdn hd hR => ?_⟩
        have s13 : Same H1 H3 := s2.trans s3
        have g := DGet.t (k := natsK (colL e.from_)) hd (ColAt.key (c := e.from_) (s13 _ _ e2))
        rw [setK_get] at g
        refine ⟨d, _, rfl, g, _, rfl, ?_⟩
        by_cases m : e.from_ ∈ R
        · rw [if_pos (mem_colL.mpr m)]
          refine ifT rfl ?_
          have : Dx05.ends rs = false := ends_false hem hnew ((reach8 (fun x hx => (hw x hx).2) (hw e hem).2).mpr ((hR _).mp m))
          have kk := k H3 (s1.trans s13)
          rw [this] at kk
          exact kk
        · rw [if_neg (fun z => m (mem_colL.mp z))]
          refine ifF rfl ⟨_, _, _, rfl, s13, fun e' he' hn' => ?_⟩
          rw [take_succ' he] at he'
          rcases List.mem_append.mp he' with z | z
          · exact hn e' z hn'
          · have : e' = e := by simpa using z
            subst this
            exact fun z => m ((hR _).mpr z)
    · rintro σ H2 ⟨v2, v3, v4, rfl, s2, hn⟩
      have et : (Dx05.ways rs).take (qs.map V.ref).length = Dx05.ways rs := List.take_of_length_le (by rw [List.length_map, Paired.length hqs]; exact Nat.le_refl _)
      rw [et] at hn
      have : Dx05.ends rs = true := ends_true fun e he h1 h2 => hn e he h1 ((reach8 (fun x hx => (hw x hx).2) (hw e he).2).mp h2)
      have kk := k H2 (s1.trans s2)
      rw [this] at kk
      exact kk
end
end Rb

/-! ## EX -/
set_option Elab.async false
set_option linter.all false
set_option maxRecDepth 100000
set_option maxHeartbeats 4000000
/-! EX: own exceptions over Exception, whose __init__ calls another's. -/
namespace XB
open PySem PySem.W PySem.Calls PyProof.Rows PySem.HandSPX
open Builtin Builtin.ObjectAttr
abbrev exTl : List Value := [.type "Exception", .type "BaseException", .type "object"]
/-- what is needed of the classes behind an own exception class -/
structure LinE (l : List Value) : Prop where
  con : ∀ X : String, l.contains (.type X) = exTl.contains (.type X)
  pass : ∀ self, refuseLoop self "__setattr__" l = pure ()
  ne : l ≠ []
theorem LinE.base : LinE exTl := ⟨fun _ => rfl, fun _ => F.store_Exception.passes _, fun h => nomatch h⟩
theorem LinE.cons {l : List Value} (h : LinE l) (c : Addr) : LinE (.ref c :: l) := ⟨fun X => by rw [List.contains_cons, h.con]; rfl, fun self => by rw [refuseLoop_ref]; exact h.pass self, fun h => nomatch h⟩
section
variable {prog : Program} {w : World} {A : Around} {R : Result → Shared → Prop} {hp : Heap} {g : Array GenState} {d : Drawn} {t : Nat} {os : OsState}
theorem own_first {K : W.Frag} {name : Str} {tk : Tok} {v : Value} {x C : Addr} {fv : Array Value} {cd : ClassData} {E : Value → Shared → Prop} (X : K.In hp) (hx : hp.get? x = some { cls := .ref C, data := .fields fv }) (hcd : W.clsIn K C = some cd)
    (hh : cd.hasDict = true)
    (hq : ∀ h' tk' dx, (∀ b o, b ≠ x → hp.get? b = some o → h'.get? b = some o) → hp.objs.size ≤ dx → dx ≠ x → h'.get? x = some { cls := .ref C, dict := some dx, data := .fields fv } → h'.Ns1 dx (fun y => if y = name then some v else none) →
      R (.ok (.ret .none)) ⟨h', g, d, tk', os⟩) :
    wpAny (model prog w) A.in1 (storeInOwnDict (.ref x) (.ref C) (.str name tk) name v false) (fun fin s' => match fin with | .done f => R (.ok f) s' | .again c' => c'.quiet = true ∧ codeAny (model prog w) A c' R s') E ⟨hp, g, d, t, os⟩ := by
  have look : W.Looks (model prog w) hp (classData C) cd := W.looks_clsIn X hcd
  have up : ∀ b o, hp.get? b = some o → (hp.push { cls := .type "dict", data := .dict #[] }).get? b = some o := fun b o e => Heap.get?_push_of_some _ e
  have xn : hp.objs.size ≠ x := Nat.ne_of_gt (Heap.lt_size hx)
  cases cd
  cases hh
  unfold storeInOwnDict ownDictForStores
  repeat (first | with_reducible refine store_in_new ?_ ?_ | with_reducible refine wpAny_loadPart_at hx ?_ | with_reducible refine look.at ?_ | wp_step)
  · exact ⟨_, #[], _, (Heap.get?_update_ne _ _ _ _ xn).trans (Heap.get?_push_at rfl rfl), rfl, fun e he => absurd he (by simp), fun _ => rfl⟩
  · exact fun h' tk' hn' hs => hq h' tk' hp.objs.size (fun b o hb ho => (hs.2 b (Nat.ne_of_lt (Heap.lt_size ho))).trans ((Heap.get?_update_ne _ _ _ _ hb).trans (up _ _ ho))) (Nat.le_refl _) xn ((hs.2 x xn.symm).trans (Heap.get?_update_self _ (up _ _ hx) rfl)) hn'
/-- x.name = v, x such an exception without a dict -/
theorem store_first {K : W.Frag} {name : Str} {tk : Tok} {v : Value} {x C : Addr} {fv : Array Value} {cd : ClassData} (X : K.In hp) (hx : hp.get? x = some { cls := .ref C, data := .fields fv }) (hcd : W.clsIn K C = some cd) (hm : LinE cd.mro)
    (hh : cd.hasDict = true) (ha : W.findIn K (.ref C) name = some none)
    (hq : ∀ h' tk' dx, (∀ b o, b ≠ x → hp.get? b = some o → h'.get? b = some o) → hp.objs.size ≤ dx → dx ≠ x → h'.get? x = some { cls := .ref C, dict := some dx, data := .fields fv } → h'.Ns1 dx (fun y => if y = name then some v else none) →
      R (.ok (.ret .none)) ⟨h', g, d, tk', os⟩) : codeAny (model prog w) A (.call (.builtin "object.__setattr__") ⟨[.ref x, .str name tk, v], []⟩) R ⟨hp, g, d, t, os⟩ := by
  have I : W.InstAt hp x { cls := .ref C, data := .fields fv } C none := ⟨hx, rfl, rfl, trivial⟩
  have me : cd.mro.isEmpty = false := by
    cases e : cd.mro with
    | nil => exact absurd e hm.ne
    | cons _ _ => rfl
  have ob : cd.mro.contains (.type "object") = true := (hm.con "object").trans (by decide +kernel)
  have xn : hp.objs.size ≠ x := Nat.ne_of_gt (Heap.lt_size hx)
  have mi : W.mroIn K C (.type "object") = some true := by
    unfold W.mroIn
    rw [hcd, Option.bind_some, me, ob]; rfl
  have C1 : W.Looks (model prog w) hp (classData C) cd := W.looks_clsIn X hcd
  have C2 : W.Looks (model prog w) hp (mroOf (.ref C)) cd.mro := C1.andThen .now
  refine codeAny_call_builtin F.store_object.slot.plain F.store_object.entry (@W.check_slot (model prog w) _ _ ⟨hp, g, d, t, os⟩ "object.__setattr__" "object" "__setattr__" (.ref x) [.str name tk, v] [] _ F.store_object.kind F.store_object.split (I.type.andThen (W.looks_mroIn X mi)) (F.store_object.args (.ref x) (.str name tk) v) ?_)
  rw [W.osa_eq, refuse_eq]
  refine wpAny_bind (wpAny_bind (I.type.at (wpAny_bind (C2.at ?_))))
  rw [hm.pass]
  refine wpAny_pure (wpAny_bind (I.type.at (wpAny_bind ((W.looks_findIn X ha).at (wpAny_bind (W.Looks.at (.now : W.Looks (model prog w) hp (storeTaker? none) none) ?_))))))
  exact own_first X hx hcd hh hq
end
end XB

/-! ## EY -/
set_option Elab.async false
set_option linter.all false
set_option maxRecDepth 100000
set_option maxHeartbeats 4000000
/-! EY: the rules for such exceptions. -/
namespace L2
open PySem PySem.Spec PyProof.Rows
/-- what the written part says of an own exception class over Exception -/
structure OexE (K : PySem.W.Frag) (C : Addr) : Prop where
  cls : ∃ nm q N bs bm sn sub ab col dd k0 k1 k2 k3 k5, K.lookup C = some (excClassObj nm q C N bs bm true sn sub ab col dd k0 k1 k2 k3 k5 "Exception.__new__") ∧ XB.LinE bm
  sa : PySem.W.findIn K (.ref C) "__setattr__" = some (some (.builtin "object.__setattr__"))
  exC : PySem.W.subIn K (.ref C) (.type "BaseException") = some true
  tyC : PySem.W.typeIn K (.ref C) = some (.type "type")
  kC : PySem.W.keepIn K (.ref C) = true
section
variable {X : Cx} {pins : List (Addr × Obj)} {σ : St} {H : Hp} {s : Shared} {a C : Addr} {f : Str} {y : V} {u : Value} {A : Around} {E : Value → Shared → Prop}
theorem ost_first {Q : Unit → Shared → Prop} (T : OexE X.K C) (I : Inv X pins σ H s) (e : H a = some (exo a C none)) (hno : PySem.W.findIn X.K (.ref C) f = some none) (ry : RelV y u)
    (h : ∀ dx s', H dx = none → dx ≠ a → Inv X pins σ (upd (upd H dx (exd dx [(f, y)])) a (exo a C (some dx))) s' → Q () s') : wpAny (model X.prog X.w) A (setAttr (.ref a) f u) Q E s := by
  obtain ⟨nm, q, N, bs, bm, sn, sub, ab, col, dd, k0, k1, k2, k3, k5, hC, lin⟩ := T.cls
  have cd : PySem.W.clsIn X.K C = some { name := nm, bases := bs, mro := .ref C :: bm, ns := N, qualname := q, hasDict := true, slotNames := sn, subclasses := sub, abstract := ab, collection := col, hasDel := false } := by
    unfold PySem.W.clsIn
    rw [hC] <;> rfl
  obtain ⟨t1, ho⟩ := exo_at I.hok e
  obtain ⟨hp, g, d, t, os⟩ := s
  refine PySem.W.set_plain I.kIn (od := none) ⟨ho, rfl, rfl, trivial⟩ T.sa (XB.store_first I.kIn ho cd (lin.cons C) rfl hno fun h' tk' dx k dn dne hx hn => ?_)
  have n1 : H dx = none := I.hok.fresh dn
  have off : ∀ {b : Addr}, H b = none → b ≠ a := fun n z => by rw [z, e] at n; cases n
  have young : ∀ {b : Addr} {o : Obj}, hp.get? b = some o → b ≠ dx := fun q z => absurd (Heap.lt_size q) (Nat.not_lt.mpr (z ▸ dn))
  have keep2 : ∀ {b : Addr} {o : HO}, H b = some o → o ≠ exo a C none → upd (upd H dx (exd dx [(f, y)])) a (exo a C (some dx)) b = some o := fun {b o} q ne => by
    have hb : b ≠ a := fun z => ne (by rw [z, e] at q; exact (Option.some.inj q).symm)
    rw [upd_ne hb, upd_ne (ne_of_none q n1)]; exact q
  have U : Un X.fs [] H (upd (upd H dx (exd dx [(f, y)])) a (exo a C (some dx))) hp h' := {
    keep := fun b o q n _ _ => k b o (off n) q
    slot := fun b o q n _ _ => ⟨o.slots, k b o (off n) q⟩
    free := fun b o q n _ => by rw [upd_ne (off n), upd_ne (young q)]; exact n
    there := fun b o q _ => if hb : b = a then ⟨_, hb ▸ hx⟩ else ⟨o, k b o hb q⟩
    tups := fun b xs q => keep2 q fun z => exo_tup z.symm
    frzs := fun b o v q => keep2 q fun z => exo_frz z.symm
    tbls := fun b ps q => ⟨#[], by rw [Array.append_empty]; exact keep2 q fun z => exo_tbl z.symm⟩ }
  refine h dx _ n1 dne (I.un (t' := tk') U fun b o q => ?_)
  by_cases hb : b = a
  · subst hb
    rw [upd_same] at q
    cases q
    exact exo_ok hx
  · rw [upd_ne hb] at q
    by_cases hd : b = dx
    · subst hd
      rw [upd_same] at q
      cases q
      exact exd_ok hn (relO_put (fs := []) ry fun g => True.intro)
    · rw [upd_ne hd] at q
      refine (I.hok b o q).stay (fun c v hc z => k c v ?_ z) (fun c hc => keep2 hc fun z => exo_own z.symm) fun c xs hc => keep2 hc fun z => exo_tup z.symm
      rcases hc with hc | hc
      · rw [hc]; exact hb
      · exact at_ne e hc exo_own
/-- Exception.__init__(self, ..) -/
theorem oinitE {us : List Value} {Q : Value → Shared → Prop} (T : OexE X.K C) (I : Inv X pins σ H s) (e : H a = some (exo a C none)) (hl : us.length ≤ sizeLine) (h : ∀ s', Inv X pins σ H s' → Q .none s') :
    wpAny (model X.prog X.w) A (call (.builtin "Exception.__init__") (.ref a :: us)) Q E s := by
  obtain ⟨nm, q, N, bs, bm, sn, sub, ab, col, dd, k0, k1, k2, k3, k5, hC, lin⟩ := T.cls
  obtain ⟨t1, ho⟩ := exo_at I.hok e
  obtain ⟨hp, g, d, t, os⟩ := s
  have same : upd H a (exo a C none) = H := funext fun b => if hb : b = a then by rw [hb, upd_same, e] else upd_ne hb
  refine wpAny_call (PySem.HandSPX.init_base F.excBase_Exception (fun Y => lin.con Y) (I.kIn _ _ hC) ho hl fun h' t2 k hx => h _ ?_)
  have J := I.write (t' := t) (x := a) (e := a) (o := exo a C none) (by rw [e]; exact True.intro) (.inl rfl) k ⟨_, hx⟩ (exo_ok hx)
  rw [same] at J
  exact J
end
def tExI (K : PySem.W.Frag) (ta : TA) : TE := fun σ H Q => ta σ H fun vs H1 => ∃ (a C : Addr) (ws : List V), vs = .ref a :: ws ∧ ws.length ≤ 1000 ∧ OexE K C ∧ H1 a = some (exo a C none) ∧ Q .non H1
def tOst1 (K : PySem.W.Frag) (f : Str) (to te : TE) : TS := fun D σ H => te σ H fun y H1 => to σ H1 fun x H2 => ∃ a C : Addr, x = .ref a ∧ OexE K C ∧ PySem.W.findIn K (.ref C) f = some none ∧
  H2 a = some (exo a C none) ∧ ∀ dx, H2 dx = none → dx ≠ a → D.nx σ (upd (upd H2 dx (exd dx [(f, y)])) a (exo a C (some dx)))
/-- C.m(e, ..), m a def of C -/
def tClsFn (C : Addr) (sp : Sp) (E : XK) (ta : TE) (t : TA) : TE := fun σ H Q => ta σ H fun x H1 => x = .ref C ∧ t σ H1 fun vs H2 => sp vs H2 Q E
/-- C(), C's own __init__ keeping sp -/
def tMk0 (C : Addr) (sp : Sp) : St → Hp → XK → Prop := fun σ H Q => ∀ a, H a = none → sp [.ref a] (upd H a (exo a C none))
  (fun v H2 => v = .non ∧ ∃ (d : Addr) (fs : List (Str × V)), H2 a = some (exo a C (some d)) ∧ H2 d = some (exd d fs) ∧ H d = none ∧ Q (.ref C) (some d) (upd (del H2 a) d (.xd fs))) (fun _ _ _ => False)
section
variable {X : Cx} {CX : CXT} {k : Nat} {C g : Addr} {mc : Value} {sp : Sp} {E : XK} {o e : Expr} {es : List Expr} {f m : Str} {pos apos p p' p1 p2 : Pos} {ta to te : TE} {t : TA} {pl : Sem Bool} {fd : FuncData} {ps : List Str}
theorem exc_ty : typeOf (.type "Exception") = pure (.type "type") := by kernel_rfl
theorem pe_exinit (hg : Gl X "Exception") (hm : X.mg "Exception" = none) (hv : PySem.W.findCls X.K (.type "Exception") (.type "type") "__init__" = some (.val (.builtin "Exception.__init__"))) (ha : PA X (e :: es) t)
    (hb : bootBuiltins "Exception" = some (.type "Exception") := by decide +kernel)
    (hc : eval (.Call (.Attribute (.Name "Exception" p1) "__init__" p2) (e :: es) [] pos) X.env = (do
      let ov ← eval (.Name "Exception" p1) X.env
      standAt p2.atName
      let (f, first) ← holding [ov] (getMethod ov "__init__" pl)
      callWith pos f first (backTo pos (starEach (e :: es) X.env)) (backToKw pos (keywordEach [] X.env))) := by rfl)
    (he : starEach (e :: es) X.env = (false, eval e X.env) :: starEach es X.env := by rfl) (hpl : (backTo pos (starEach es X.env)).any (·.1) = false := by rfl) :
    PE X (.Call (.Attribute (.Name "Exception" p1) "__init__" p2) (e :: es) [] pos) (tExI X.K t) := by
  refine ⟨fun pins s σ H Q I h => PySem.W.methodCall_KW (ld_blt I hg hm hb ?_ (by decide) (by decide)) hc⟩
  obtain ⟨m, fr⟩ := I.fr
  refine PySem.W.method_type fr I.ok.mod.kin exc_ty (by decide +kernel) hv (by decide +kernel) ?_
  refine PyProof.Rows.callWith_method1 (thn (ha.run pos pins _ σ H _ (I.tok _) h) fun us s1 ⟨vs, H1, I1, r1, a, C, ws, ev, hl, T, ea, q⟩ => ?_) he hpl
  subst ev
  cases r1 with
  | @cons _ u0 _ ur ra rw' =>
    obtain rfl : u0 = Value.ref a := ra
    exact oinitE T I1 ea (by rw [← Paired.length rw', sizeLine_eq]; omega) fun s' J => ⟨.non, H1, J, rfl, q⟩
theorem ps_ost1 (ho : PE X o to) (he : PE X e te) (hs : swapsWith e (some (.Attribute o f p')) pos.line X.env = pure false := by rfl) : PS X (.Assign [.Attribute o f p'] e pos) (tOst1 X.K f to te) := by
  refine ⟨fun pins s σ H D I h => plainObj_wpAny_Assign_Attribute (thn (he.run pins s σ H _ I h) fun v s1 ⟨y, H1, I1, r1, q1⟩ => thn (ho.run pins s1 σ H1 _ I1 q1) fun u s2 ⟨x, H2, I2, r2, a, C, ex, T, hno, ea, q⟩ => ?_) hs⟩
  subst ex
  obtain rfl : u = Value.ref a := r2
  exact ost_first T I2 ea hno r1 fun dx s' n ne J => ⟨σ, _, J, q dx n ne⟩
theorem pe_clsfn (he : PE X o ta) (r : ClX.CRead X.K C mc) (c : PySem.W.findCls X.K (.ref C) mc m = some (.val (.ref g))) (hk : PySem.W.keepIn X.K (.ref g) = true) (F : FnOk X.prog X.w X.K X.mg X.base CX k g fd ps sp) (hr : Room k X.A) (hb : Binds X.K fd ps []) (hx : Passes CX X E) (ha : PA X (e :: es) t)
    (hst : starEach (e :: es) X.env = (false, eval e X.env) :: starEach es X.env := by rfl) (hpl : (backTo pos (starEach es X.env)).any (·.1) = false := by rfl)
    (ht : eval (.Call (.Attribute o m apos) (e :: es) [] pos) X.env = (do
      let ov ← eval o X.env
      standAt apos.atName
      let (f, first) ← holding [ov] (getMethod ov m pl)
      callWith pos f first (backTo pos (starEach (e :: es) X.env)) (backToKw pos (keywordEach [] X.env))) := by rfl) :
    PE X (.Call (.Attribute o m apos) (e :: es) [] pos) (tClsFn C sp E ta t) := by
  refine ⟨fun pins s σ H Q I h => PySem.W.methodCall_KW (pl := pl) (thn (he.run pins s σ H _ I h) fun u s1 ⟨x, H1, I1, rx, ex, q⟩ => ?_) ht⟩
  subst ex
  obtain rfl : u = Value.ref C := rx
  refine PySem.W.method_cls I1.kIn r.ga (ClX.getcval_ok (v := .ref g) I1 r ⟨c, rfl⟩ fun s2 I2 => ?_)
  refine PySem.W.callWith_K (h₀ := X.base) I2.ok.mod.kin hk (thn (ha.run pos pins _ σ H1 _ I2 q) fun us s3 ⟨vs, H2, I3, rv, q2⟩ => ⟨I3.kIn, ?_⟩) hst hpl
  exact run_fn F hr hb .nil hx I3 rv (by rw [List.append_nil]; exact q2)
theorem pmk_oe0 {x : Str} {fI : Addr} (T : OexE X.K C) (iC : PySem.W.findIn X.K (.ref C) "__init__" = some (some (.ref fI))) (tI : PySem.W.typeIn X.K (.ref fI) = some (.type "function")) (F1 : FnOk X.prog X.w X.K X.mg X.base CX k fI fd ps sp) (hr : Room (k + 1) X.A)
    (hb : Binds X.K fd ps []) (hx : Passes CX X (fun _ _ _ => False)) (hg : Gl X x) (hm : X.mg x = some (.ref C)) (hdb : (x == ("__debug__" : Str)) = false := by decide) : PMk X (.Call (.Name x p) [] [] pos) (tMk0 C sp) := by
  intro pins s σ H Q I h
  obtain ⟨nm, q, N, bs, bm, sn, sub, ab, col, dd, k0, k1, k2, k3, k5, hC, lin⟩ := T.cls
  refine wpAny_Call_Name_kw (ld_glob I hg hm (PySem.W.callWith_K0 I.kIn T.kC ?_) hdb)
  obtain ⟨hp, g, dr, tk, os⟩ := s
  have le : hp.objs.size ≤ hp.objs.size + 1 := Nat.le_succ _
  have hq := h (hp.objs.size + 1) (I.hok.fresh le)
  have kk : ∀ b o, hp.get? b = some o → ((hp.push (PySem.W.kdv_tup [])).push (PySem.HandSPX.excO C hp.objs.size)).get? b = some o := fun b o e => Heap.get?_push_of_some _ (Heap.get?_push_of_some _ e)
  have at_ : ((hp.push (PySem.W.kdv_tup [])).push (PySem.HandSPX.excO C hp.objs.size)).get? (hp.objs.size + 1) = some (PySem.HandSPX.excO C hp.objs.size) := by heap_get
  have I2 := I.laid (t' := tk) (a := hp.objs.size + 1) (o := exo (hp.objs.size + 1) C none) (h' := (hp.push (PySem.W.kdv_tup [])).push (PySem.HandSPX.excO C hp.objs.size)) kk le (exo_ok at_)
  have len : ([Value.ref (hp.objs.size + 1)] : List Value).length = ps.length := (F1.len _ _ _ _ hq).symm ▸ rfl
  refine wpAny_call (PySem.HandSPX.call_own F.excBase_Exception (fun Y => lin.con Y) (I.kIn _ _ hC) (PySem.W.looks_findIn I.kIn iC) (fun self => PySem.W.bind_fn I.kIn self tI) (Nat.zero_le _)
    (codeAny_mono (F1.run _ X.stack _ _ ⟨[Value.ref (hp.objs.size + 1)], []⟩ [Value.ref (hp.objs.size + 1)] [V.ref (hp.objs.size + 1)] _ (fun _ _ _ => False) (hr.make C [] []) (I2.env0.make C [] []) (hb _ [Value.ref (hp.objs.size + 1)] I2.kIn len) (.cons rfl .nil) hq) fun r s' hq' => ?_))
  match r, hq' with
  | .error er, hq' => exact hx pins σ _ _ er s' I2 hq'
  | .ok (.ret u), hq' =>
    obtain ⟨v, H2, os2, bare2, un2, hok2, rv, ev, d, fs, ea, ed, hd1, q2⟩ := hq'
    subst ev
    obtain ⟨h2, g2, d2, t2, os'⟩ := s'
    exact ⟨rv, mk_end (raises_own T.exC T.tyC) I le kk un2 hok2 os2 bare2 ea ed hd1 q2⟩
  | .ok .next, hq' => exact False.elim hq'
  | .ok .brk, hq' => exact False.elim hq'
  | .ok .cont, hq' => exact False.elim hq'
end
end L2

/-! ## X1 -/
set_option Elab.async false
set_option linter.all false
set_option maxRecDepth 100000
set_option maxHeartbeats 4000000
/-! X1: the refusals' __init__. -/
namespace Rb
open PySem PySem.Spec PyProof.Rows L2
abbrev sRef : Stmt := topS 6
abbrev sRefI : Stmt := inClass sRef 0
theorem scRef : FnScope ["self", "number"] ["self", "number"] (defScope sRefI) := ⟨rfl, rfl, rfl, by decide +kernel, rfl, by decide +kernel, by decide +kernel⟩
/-- an exception that is being made, its class one of those -/
def spRef (K : PySem.W.Frag) : Sp := fun vs H Q _ => ∃ (a C : Addr) (k : Int), vs = [.ref a, .int k] ∧ OexE K C ∧ PySem.W.findIn K (.ref C) "number" = some none ∧ H a = some (exo a C none) ∧ (k = -1 ∨ k = -2 ∨ k = -3 ∨ k = -4 ∨ k = -5 ∨ k = -6 ∨ k = -7) ∧
  ∀ d, H d = none → d ≠ a → Q .non (upd (upd H d (exd d [("number", .int k)])) a (exo a C (some d)))
structure EXTxt (K : PySem.W.Frag) (mg : Str → Option Value) : Prop where
  mE : mg "Exception" = none
  vE : PySem.W.findCls K (.type "Exception") (.type "type") "__init__" = some (.val (.builtin "Exception.__init__"))
section
variable {P : Program} {w : World} {K : PySem.W.Frag} {mg : Str → Option Value} {base : Heap}
theorem ok_refi {f : Addr} {fd : FuncData} (F : Fun K "__init__" "Refusal.__init__" sRefI f fd) (T : EXTxt K mg) : FnOk P w K mg base CX0 1 f fd ["self", "number"] (spRef K) := by
  refine F.ok scRef (fun vs H Q E h => ?_) (fun cdv A outer s H vs Q E hr h => ?_)
  · obtain ⟨a, C, k, rfl, _⟩ := h
    rfl
  · refine ⟨_, pss_cons (ps_expr (pe_exinit (by rfl) T.mE T.vE (pa_cons (pv 0) (pa_cons (pe_joined (PJ.cons pe_str (PJ.cons (pe_fmt (pv 1)) PJ.nil))) pa_nil)))) (pss_one (ps_ost1 (pv 0) (pv 1))), ?_⟩
    obtain ⟨a, C, k, rfl, T2, hno, ha, hk, kk⟩ := h
    refine ⟨_, rfl, _, rfl, by decide +kernel, _, rfl, .inr ⟨k, rfl, ?_, _, rfl, ?_, a, C, _, rfl, ?_, T2, ha, ?_⟩⟩
    · rcases hk with rfl | rfl | rfl | rfl | rfl | rfl | rfl <;> decide +kernel
    · rcases hk with rfl | rfl | rfl | rfl | rfl | rfl | rfl <;> decide +kernel
    · show 1 ≤ 1000; decide
    · exact ⟨_, rfl, _, rfl, a, C, rfl, T2, hno, ha, kk⟩
end
end Rb
namespace Rb
open PySem PySem.Spec PyProof.Rows L2
abbrev sSub (i : Nat) : Stmt := inClass (topS i) 0
theorem scS7 : FnScope ["self"] ["self"] (defScope (sSub 7)) := ⟨rfl, rfl, rfl, by decide +kernel, rfl, by decide +kernel, by decide +kernel⟩
theorem scS8 : FnScope ["self"] ["self"] (defScope (sSub 8)) := ⟨rfl, rfl, rfl, by decide +kernel, rfl, by decide +kernel, by decide +kernel⟩
theorem scS9 : FnScope ["self"] ["self"] (defScope (sSub 9)) := ⟨rfl, rfl, rfl, by decide +kernel, rfl, by decide +kernel, by decide +kernel⟩
theorem scS10 : FnScope ["self"] ["self"] (defScope (sSub 10)) := ⟨rfl, rfl, rfl, by decide +kernel, rfl, by decide +kernel, by decide +kernel⟩
theorem scS11 : FnScope ["self"] ["self"] (defScope (sSub 11)) := ⟨rfl, rfl, rfl, by decide +kernel, rfl, by decide +kernel, by decide +kernel⟩
/-- an exception that is being made, its class that of k -/
def spSub (C : Addr) (k : Int) : Sp := fun vs H Q _ => ∃ a : Addr, vs = [.ref a] ∧ H a = some (exo a C none) ∧
  ∀ d, H d = none → d ≠ a → Q .non (upd (upd H d (exd d [("number", .int k)])) a (exo a C (some d)))
/-- Refusal, at C -/
structure RefTxt (K : PySem.W.Frag) (mg : Str → Option Value) (C f : Addr) (fd : FuncData) (mc : Value) : Prop where
  gC : mg "Refusal" = some (.ref C)
  rd : ClX.CRead K C mc
  at_ : PySem.W.findCls K (.ref C) mc "__init__" = some (.val (.ref f))
  kp : PySem.W.keepIn K (.ref f) = true
  bd : Binds K fd ["self", "number"] []
/-- a class of its own, at C -/
structure SubTxt (K : PySem.W.Frag) (C : Addr) : Prop where
  oe : OexE K C
  no : PySem.W.findIn K (.ref C) "number" = some none
section
variable {P : Program} {w : World} {K : PySem.W.Frag} {mg : Str → Option Value} {base : Heap} {CR fR : Addr} {fdR : FuncData} {mc : Value}
theorem ok_sub7 {f C : Addr} {fd : FuncData} (F : Fun K "__init__" "NotARule.__init__" (sSub 7) f fd) (T : RefTxt K mg CR fR fdR mc) (S : SubTxt K C) (G : FnOk P w K mg base CX0 1 fR fdR ["self", "number"] (spRef K)) : FnOk P w K mg base CX0 2 f fd ["self"] (spSub C (-1)) := by
  refine F.ok scS7 (fun vs H Q E h => ?_) (fun cdv A outer s H vs Q E hr h => ?_)
  · obtain ⟨a, rfl, _⟩ := h
    rfl
  · refine ⟨_, pss_one (ps_expr (pe_clsfn (pe_glob (v := .ref CR) (by rfl) T.gC rfl) T.rd T.at_ T.kp G hr T.bd pass0 (pa_cons (pv 0) (pa_cons (pe_un un_neg pe_int) pa_nil)))), ?_⟩
    obtain ⟨a, rfl, ha, k⟩ := h
    exact ⟨rfl, _, rfl, 1, rfl, a, C, -1, rfl, S.oe, S.no, ha, .inl rfl, fun d h1 h2 => k d h1 h2⟩
theorem ok_sub8 {f C : Addr} {fd : FuncData} (F : Fun K "__init__" "NoSuchPlace.__init__" (sSub 8) f fd) (T : RefTxt K mg CR fR fdR mc) (S : SubTxt K C) (G : FnOk P w K mg base CX0 1 fR fdR ["self", "number"] (spRef K)) : FnOk P w K mg base CX0 2 f fd ["self"] (spSub C (-2)) := by
  refine F.ok scS8 (fun vs H Q E h => ?_) (fun cdv A outer s H vs Q E hr h => ?_)
  · obtain ⟨a, rfl, _⟩ := h
    rfl
  · refine ⟨_, pss_one (ps_expr (pe_clsfn (pe_glob (v := .ref CR) (by rfl) T.gC rfl) T.rd T.at_ T.kp G hr T.bd pass0 (pa_cons (pv 0) (pa_cons (pe_un un_neg pe_int) pa_nil)))), ?_⟩
    obtain ⟨a, rfl, ha, k⟩ := h
    exact ⟨rfl, _, rfl, 2, rfl, a, C, -2, rfl, S.oe, S.no, ha, .inr (.inl rfl), fun d h1 h2 => k d h1 h2⟩
theorem ok_sub9 {f C : Addr} {fd : FuncData} (F : Fun K "__init__" "RuleFollows.__init__" (sSub 9) f fd) (T : RefTxt K mg CR fR fdR mc) (S : SubTxt K C) (G : FnOk P w K mg base CX0 1 fR fdR ["self", "number"] (spRef K)) : FnOk P w K mg base CX0 2 f fd ["self"] (spSub C (-3)) := by
  refine F.ok scS9 (fun vs H Q E h => ?_) (fun cdv A outer s H vs Q E hr h => ?_)
  · obtain ⟨a, rfl, _⟩ := h
    rfl
  · refine ⟨_, pss_one (ps_expr (pe_clsfn (pe_glob (v := .ref CR) (by rfl) T.gC rfl) T.rd T.at_ T.kp G hr T.bd pass0 (pa_cons (pv 0) (pa_cons (pe_un un_neg pe_int) pa_nil)))), ?_⟩
    obtain ⟨a, rfl, ha, k⟩ := h
    exact ⟨rfl, _, rfl, 3, rfl, a, C, -3, rfl, S.oe, S.no, ha, .inr (.inr (.inl rfl)), fun d h1 h2 => k d h1 h2⟩
theorem ok_sub10 {f C : Addr} {fd : FuncData} (F : Fun K "__init__" "CriterionFails.__init__" (sSub 10) f fd) (T : RefTxt K mg CR fR fdR mc) (S : SubTxt K C) (G : FnOk P w K mg base CX0 1 fR fdR ["self", "number"] (spRef K)) : FnOk P w K mg base CX0 2 f fd ["self"] (spSub C (-6)) := by
  refine F.ok scS10 (fun vs H Q E h => ?_) (fun cdv A outer s H vs Q E hr h => ?_)
  · obtain ⟨a, rfl, _⟩ := h
    rfl
  · refine ⟨_, pss_one (ps_expr (pe_clsfn (pe_glob (v := .ref CR) (by rfl) T.gC rfl) T.rd T.at_ T.kp G hr T.bd pass0 (pa_cons (pv 0) (pa_cons (pe_un un_neg pe_int) pa_nil)))), ?_⟩
    obtain ⟨a, rfl, ha, k⟩ := h
    exact ⟨rfl, _, rfl, 6, rfl, a, C, -6, rfl, S.oe, S.no, ha, .inr (.inr (.inr (.inr (.inr (.inl rfl))))), fun d h1 h2 => k d h1 h2⟩
theorem ok_sub11 {f C : Addr} {fd : FuncData} (F : Fun K "__init__" "BookIsFull.__init__" (sSub 11) f fd) (T : RefTxt K mg CR fR fdR mc) (S : SubTxt K C) (G : FnOk P w K mg base CX0 1 fR fdR ["self", "number"] (spRef K)) : FnOk P w K mg base CX0 2 f fd ["self"] (spSub C (-7)) := by
  refine F.ok scS11 (fun vs H Q E h => ?_) (fun cdv A outer s H vs Q E hr h => ?_)
  · obtain ⟨a, rfl, _⟩ := h
    rfl
  · refine ⟨_, pss_one (ps_expr (pe_clsfn (pe_glob (v := .ref CR) (by rfl) T.gC rfl) T.rd T.at_ T.kp G hr T.bd pass0 (pa_cons (pv 0) (pa_cons (pe_un un_neg pe_int) pa_nil)))), ?_⟩
    obtain ⟨a, rfl, ha, k⟩ := h
    exact ⟨rfl, _, rfl, 7, rfl, a, C, -7, rfl, S.oe, S.no, ha, .inr (.inr (.inr (.inr (.inr (.inr rfl))))), fun d h1 h2 => k d h1 h2⟩
end
end Rb

/-! ## X2 -/
set_option Elab.async false
set_option linter.all false
set_option maxRecDepth 100000
set_option maxHeartbeats 4000000
/-! X2: raising a refusal; read_atoms. -/
namespace Rb
open PySem PySem.Spec PyProof.Rows L2
open Dx (Fact Facts Atom Fill)
def numX (k : Int) : HO := .xd [("number", .int k)]
/-- x names a refusal, its class at C, its number k -/
def RzB (P : Program) (w : World) (K : PySem.W.Frag) (mg : Str → Option Value) (base : Heap) (x : Str) (C : Addr) (k : Int) : Prop :=
  ∃ (fI : Addr) (fd : FuncData), mg x = some (.ref C) ∧ SubTxt K C ∧ PySem.W.findIn K (.ref C) "__init__" = some (some (.ref fI)) ∧ PySem.W.typeIn K (.ref fI) = some (.type "function") ∧ FnOk P w K mg base CX0 2 fI fd ["self"] (spSub C k) ∧ Binds K fd ["self"] []
theorem ps_raiseB {X : Cx} {W : WX} {x : Str} {C : Addr} {k : Int} {p pos pos2 : Pos} (R : RzB X.prog X.w X.K X.mg X.base x C k) (hc : X.calm = true) (hr : Room 3 X.A) (tk : Takes X W) (hg : Gl X x) (hdb : (x == ("__debug__" : Str)) = false := by decide) :
    PS X (.Raise (some (.Call (.Name x p) [] [] pos)) none pos2) (fun _ σ H => ∀ d, H d = none → W (.ref C) (some d) σ (upd H d (numX k))) := by
  obtain ⟨fI, fd, gC, S, iC, tI, F, b⟩ := R
  have R1 := ps_raise (pos := pos2) hc tk (pmk_oe0 (p := p) (pos := pos) (CX := CX0) S.oe iC tI F hr b pass0 hg gC hdb)
  refine ⟨fun pins s σ H D I h => R1.run pins s σ H D I fun a ha => ?_⟩
  refine ⟨a, rfl, upd_same, fun d hd hda => ⟨rfl, d, [("number", .int k)], upd_same, ?_, ?_, ?_⟩⟩
  · rw [upd_ne hda, upd_same]
  · rw [upd_ne hda] at hd; exact hd
  · have hd0 : H d = none := by rw [upd_ne hda] at hd; exact hd
    have e : upd (del (upd (upd (upd H a (exo a C none)) d (exd d [("number", .int k)])) a (exo a C (some d))) a) d (.xd [("number", .int k)]) = upd H d (numX k) := by
      funext b
      by_cases e1 : b = d
      · subst e1; rw [upd_same, upd_same]; rfl
      · rw [upd_ne e1, upd_ne e1]
        by_cases e2 : b = a
        · subst e2; rw [del_same, ha]
        · rw [del_ne e2, upd_ne e2, upd_ne e1, upd_ne e2]
    rw [e]
    exact h d hd0
/-! ### atoms as the document reads them -/
def readA (l : List Nat) : Option (List Atom) := match Dx05.atoms l with
  | some x => if Dx05.right x = true then some x else none
  | none => none
theorem rule_read (b h : List Nat) : Dx05.rule? b h = match readA b, readA h with
    | some x, some y => some ⟨x, y⟩
    | _, _ => none := by
  unfold Dx05.rule? readA
  cases Dx05.atoms b with
  | none => cases Dx05.atoms h <;> rfl
  | some x =>
    cases Dx05.atoms h with
    | none => by_cases h1 : Dx05.right x = true <;> simp [h1]
    | some y =>
      dsimp only
      by_cases h1 : Dx05.right x = true <;> by_cases h2 : Dx05.right y = true <;> simp [h1, h2]
theorem atoms_len : ∀ {l : List Nat} {as : List Atom}, Dx05.atoms l = some as → l.length = 3 * as.length
  | [], as, h => by simp [Dx05.atoms] at h; subst h; rfl
  | [_], as, h => by simp [Dx05.atoms] at h
  | [_, _], as, h => by simp [Dx05.atoms] at h
  | t :: x :: y :: r, as, h => by
    simp only [Dx05.atoms, Option.map_eq_some_iff] at h
    obtain ⟨a, ha, rfl⟩ := h
    have := atoms_len ha
    simp only [List.length_cons, this]
    omega
theorem readA_len {l : List Nat} {as : List Atom} (h : readA l = some as) : l.length = 3 * as.length ∧ Dx05.right as = true := by
  unfold readA at h
  cases e : Dx05.atoms l with
  | none => rw [e] at h; cases h
  | some x =>
    rw [e] at h
    dsimp only at h
    split at h
    · cases h; exact ⟨atoms_len e, by assumption⟩
    · cases h
theorem readA_bad {l : List Nat} (h : ¬ (l.length = 3 ∨ l.length = 6)) : readA l = none := by
  cases e : readA l with
  | none => rfl
  | some as =>
    have k := readA_len e
    have := right_len k.2
    exact absurd (by omega) h
def atomOk (a : Atom) : Bool := decide (a.t < 4) && (decide (a.x < 5) && decide (a.y < 5))
theorem readA3 (t x y : Nat) : readA [t, x, y] = if atomOk ⟨t, x, y⟩ = true then some [⟨t, x, y⟩] else none := by
  by_cases h1 : t < 4 <;> by_cases h2 : x < 5 <;> by_cases h3 : y < 5 <;> simp [readA, Dx05.atoms, Dx05.right, atomOk, Dx05.ATOMS, Dx.PLACES, h1, h2, h3]
theorem readA6 (t x y u p q : Nat) : readA [t, x, y, u, p, q] = if atomOk ⟨t, x, y⟩ = true ∧ atomOk ⟨u, p, q⟩ = true then some [⟨t, x, y⟩, ⟨u, p, q⟩] else none := by
  by_cases h1 : t < 4 <;> by_cases h2 : x < 5 <;> by_cases h3 : y < 5 <;> by_cases h4 : u < 4 <;> by_cases h5 : p < 5 <;> by_cases h6 : q < 5 <;> simp [readA, Dx05.atoms, Dx05.right, atomOk, Dx05.ATOMS, Dx.PLACES, h1, h2, h3, h4, h5, h6]
end Rb

/-! ## X3 -/
set_option Elab.async false
set_option linter.all false
set_option maxRecDepth 100000
set_option maxHeartbeats 4000000
/-! X3: read_atoms. -/
namespace Rb
open PySem PySem.Spec PyProof.Rows L2
open Dx (Fact Facts Atom Fill)
theorem atoms_get : ∀ {l : List Nat} {as : List Atom} {i : Nat} {a : Atom}, Dx05.atoms l = some as → as[i]? = some a → l[3 * i]? = some a.t ∧ l[3 * i + 1]? = some a.x ∧ l[3 * i + 2]? = some a.y
  | [], as, i, a, h, g => by simp [Dx05.atoms] at h; subst h; simp at g
  | [_], as, i, a, h, g => by simp [Dx05.atoms] at h
  | [_, _], as, i, a, h, g => by simp [Dx05.atoms] at h
  | t :: x :: y :: r, as, i, a, h, g => by
    simp only [Dx05.atoms, Option.map_eq_some_iff] at h
    obtain ⟨b, hb, rfl⟩ := h
    cases i with
    | zero =>
      have e : (⟨t, x, y⟩ : Atom) = a := by simpa using g
      subst e
      exact ⟨rfl, rfl, rfl⟩
    | succ i =>
      have ih := atoms_get hb (show b[i]? = some a by simpa using g)
      have e : 3 * (i + 1) = 3 * i + 1 + 1 + 1 := by omega
      rw [e]
      exact ih
theorem atoms_some {l : List Nat} (h : l.length = 3 ∨ l.length = 6) : ∃ as, Dx05.atoms l = some as ∧ (as.length = 1 ∨ as.length = 2) := by
  match l, h with
  | [t, x, y], _ => exact ⟨_, rfl, .inl rfl⟩
  | [t, x, y, u, p, q], _ => exact ⟨_, rfl, .inr rfl⟩
theorem readA_of {l : List Nat} {as : List Atom} (e : Dx05.atoms l = some as) (hl : as.length = 1 ∨ as.length = 2) : readA l = if as.all atomOk = true then some as else none := by
  unfold readA
  rw [e]
  have : Dx05.right as = as.all atomOk := by
    have h1 : 1 ≤ as.length := by omega
    have h2 : as.length ≤ 2 := by omega
    have e : Dx05.ATOMS = 2 := rfl
    unfold Dx05.right
    rw [e, decide_eq_true h1, decide_eq_true h2]
    rfl
  dsimp only
  rw [this]
theorem inV_36 (n : Nat) : inV (nI n) [.int 3, .int 6] = decide (n = 3 ∨ n = 6) := by
  have e : [V.int 3, V.int 6] = [3, 6].map nI := rfl
  rw [e, inV_nat]
  simp
theorem atI_at {xs : List V} {x : V} {z : Int} {j : Nat} (e : z = (j : Int)) (h : xs[j]? = some x) : atI xs z = some x := by rw [e]; exact atI_nat h
abbrev sReadA : Stmt := topS 17
def nReadA : List Str := ["numbers", "atoms", "at", "atom"]
theorem scReadA : FnScope nReadA ["numbers"] (defScope sReadA) := ⟨rfl, rfl, rfl, by decide +kernel, rfl, by decide +kernel, by decide +kernel⟩
/-- a refusal leaves: class C, number k; what was there stands -/
def Refuses (E : XK) (H : Hp) (C : Addr) (k : Int) : Prop := ∀ (H' : Hp) (d : Addr), Same H H' → H d = none → H' d = some (numX k) → E (.ref C) (some d) H'
def spReadA (CN : Addr) : Sp := fun vs H Q E => ∃ (l : Addr) (ns : List Nat), vs = [.ref l] ∧ H l = some (.lst (ns.map nI)) ∧ ns.length ≤ 1000 ∧
  (readA ns = none → Refuses E H CN (-1)) ∧ ∀ (as : List Atom), readA ns = some as → ∀ (H' : Hp) (p : Addr), Same H H' → H p = none → AtomsAt H' p as → Q (.ref p) H'
structure ATxt (mg : Str → Option Value) : Prop where
  b : Blt mg
  mT : ∃ t, mg "LAST_TABLE" = some (.int 3 t)
  mV : ∃ t, mg "LAST_VARIABLE" = some (.int 4 t)
section
variable {P : Program} {w : World} {K : PySem.W.Frag} {mg : Str → Option Value} {base : Heap} {CN : Addr}
theorem ok_readA {f : Addr} {fd : FuncData} (F : Fun K "read_atoms" "read_atoms" sReadA f fd) (T : ATxt mg) (R : RzB P w K mg base "NotARule" CN (-1)) : FnOk P w K mg base (L2.CX P w) 4 f fd ["numbers"] (spReadA CN) := by
  obtain ⟨t3, mT⟩ := T.mT
  obtain ⟨t4, mV⟩ := T.mV
  refine F.okX scReadA (fun vs H Q E h => ?_) (fun cdv A outer s H vs Q E hr h => ?_)
  · obtain ⟨l, ns, rfl, _⟩ := h
    rfl
  · have nd : nReadA.Nodup := scReadA.nd
    refine ⟨_, pss_cons (ps_if (pt_cmpR (opNotInK (K := K) rfl) (pe_callB call_len_seq (by rfl) T.b.len PySem.boot_len (pa_cons (pv 0) pa_nil)) (pe_tup (pa_cons pe_int (pa_cons pe_int pa_nil))) rfl)
          (pss_one (ps_raiseB R rfl hr (takes_of rfl rfl rfl rfl) (by rfl))) pss_nil)
      (pss_cons (ps_set (i := 1) nd rfl (Or.inl rfl) (pe_lst pa_nil))
      (pss_cons (ps_for (passes_of rfl) rfl (pi_range3 (by rfl) T.b.range (pa_cons pe_int (pa_cons (pe_callB call_len_seq (by rfl) T.b.len PySem.boot_len (pa_cons (pv 0) pa_nil)) (pa_cons pe_int pa_nil)))) (pg_name (i := 2) nd rfl (Or.inl rfl))
        (pss_cons (ps_set (i := 3) nd rfl (Or.inl rfl) (pe_tup (pa_cons (pe_ix ix_list (pv 0) (pv 2) (fun _ _ => rfl)) (pa_cons (pe_ix ix_list (pv 0) (pe_op op_add (pv 2) pe_int) (fun _ _ => rfl)) (pa_cons (pe_ix ix_list (pv 0) (pe_op op_add (pv 2) pe_int) (fun _ _ => rfl)) pa_nil)))))
        (pss_cons (ps_if (PW.pt (pw_or (pt_cmpR op_gt (pe_ix ix_tup (pv 3) pe_int (fun _ _ => rfl)) (pe_glob (v := .int 3) (by rfl) mT ⟨_, rfl⟩) (nomark _))
              (pw_or1 (pt_cmpR op_gt (pe_callB (call_max2 rfl) (by rfl) T.b.max (by decide +kernel) (pa_cons (pe_ix ix_tup (pv 3) pe_int (fun _ _ => rfl)) (pa_cons (pe_ix ix_tup (pv 3) pe_int (fun _ _ => rfl)) pa_nil))) (pe_glob (v := .int 4) (by rfl) mV ⟨_, rfl⟩) (nomark _)))))
            (pss_one (ps_raiseB R rfl hr (takes_of rfl rfl rfl rfl) (by rfl))) pss_nil)
        (pss_one (ps_expr (pe_bm PySem.F.plainAttrs_list PySem.F.slot_list_append PySem.F.type_list_append mt_append (pv 1) (pa_cons (pv 3) pa_nil)))))))
      (pss_one (ps_ret (pv 1))))), ?_⟩
    obtain ⟨l, ns, rfl, hl, hlen, kE, kQ⟩ := h
    refine ⟨_, rfl, l, _, rfl, .inl (SqL.of hl), by show 2 ≤ sizeLine; decide, fun t ht => ?_⟩
    have s1 : Same H (upd H t (.tup [.int 3, .int 6])) := same_upd (Same.refl H) ht
    refine ⟨t, _, rfl, .inr (SqT.of upd_same), rfl, rfl, _, rfl, ?_⟩
    rw [List.length_map]
    show if (!inV (nI ns.length) [.int 3, .int 6]) = true then _ else _
    rw [inV_36]
    by_cases h36 : ns.length = 3 ∨ ns.length = 6
    · refine ifF (by rw [decide_eq_true h36]; rfl) ?_
      generalize upd H t (.tup [.int 3, .int 6]) = H1 at s1 ⊢
      obtain ⟨as, has, hal⟩ := atoms_some h36
      have hrd := readA_of has hal
      have hl3 := atoms_len has
      refine ⟨by show 0 ≤ sizeLine; decide, fun p hp => ?_⟩
      have s2 : Same H (upd H1 p (.lst [])) := s1.trans (same_upd (Same.refl _) hp)
      have hpH : H p = none := s1.free hp
      refine ⟨_, rfl, l, _, rfl, .inl (SqL.of (s2 _ _ hl)), 0, ((ns.map nI).length : Int), 3, as.length, rfl, ?_, for_rangeC (lo := 0) (c := 3) (n := as.length) (fun i σ H' => ∃ v2 v3 qs, σ = [some (.ref l), some (.ref p), v2, v3] ∧ Same H H' ∧ H' p = some (.lst (qs.map V.ref)) ∧ Paired (AtomAt H') qs (as.take i) ∧ (as.take i).all atomOk = true)
        ⟨none, none, [], rfl, s2, upd_same, by rw [List.take_zero]; exact .nil, by simp⟩ ?_ ?_⟩
      · rw [List.length_map, hl3]
        rcases hal with e | e <;> rw [e]
        · exact ⟨by decide, by decide, by decide +kernel, by decide +kernel⟩
        · exact ⟨by decide, by decide, by decide +kernel, by decide +kernel⟩
      · rintro i σ H2 hi ⟨v2, v3, qs, rfl, s2, hp2, hqs, hok⟩
        have ha : as[i]? = some as[i] := List.getElem?_eq_getElem hi
        generalize as[i] = a at ha
        obtain ⟨g0, g1, g2⟩ := atoms_get has ha
        have e0 : (0 : Int) + (i : Int) * 3 = ((3 * i : Nat) : Int) := by omega
        have m0 : (ns.map nI)[3 * i]? = some (nI a.t) := by rw [List.getElem?_map, g0]; rfl
        have m1 : (ns.map nI)[3 * i + 1]? = some (nI a.x) := by rw [List.getElem?_map, g1]; rfl
        have m2 : (ns.map nI)[3 * i + 2]? = some (nI a.y) := by rw [List.getElem?_map, g2]; rfl
        rw [e0]
        refine ⟨_, rfl, _, rfl, l, _, _, _, rfl, rfl, SqL.of (s2 _ _ hl), atI_nat m0, _, rfl, _, rfl, _, _, rfl, rfl, l, _, _, _, rfl, rfl, SqL.of (s2 _ _ hl), atI_at (by omega) m1, _, rfl, _, rfl, _, _, rfl, rfl, l, _, _, _, rfl, rfl, SqL.of (s2 _ _ hl), atI_at (by omega) m2, by show 3 ≤ sizeLine; decide, fun t ht => ?_⟩
        have s3 : Same H2 (upd H2 t (.tup (atomV a))) := same_upd (Same.refl _) ht
        have ht3 : AtomAt (upd H2 t (.tup (atomV a))) t a := upd_same
        have hp3 := s3 _ _ hp2
        have hqs3 : Paired (AtomAt (upd H2 t (.tup (atomV a)))) qs (as.take i) := Paired.mapP hqs fun _ _ z => s3 _ _ z
        show tSeq _ _ _ _ (upd H2 t (.tup (atomV a)))
        generalize upd H2 t (.tup (atomV a)) = H3 at s3 ht3 hp3 hqs3 ⊢
        have s03 : Same H H3 := s2.trans s3
        have bad : ¬ atomOk a = true → readA ns = none := fun hb => by
          rw [hrd, if_neg]
          intro q
          exact hb (List.all_eq_true.mp q a (List.mem_of_getElem? ha))
        refine ⟨_, rfl, t, _, _, _, rfl, rfl, SqT.of ht3, rfl, _, _, rfl, rfl, _, rfl, ?_⟩
        have out : ¬ atomOk a = true → ∀ d, H3 d = none → E (.ref CN) (some d) (upd H3 d (numX (-1))) := fun hb d hd => kE (bad hb) _ d (s03.trans (same_upd (Same.refl _) hd)) (s03.free hd) upd_same
        by_cases c1 : a.t < 4
        · refine ifF (decide_eq_false (by omega)) ?_
          refine ⟨_, rfl, t, _, _, _, rfl, rfl, SqT.of ht3, rfl, _, rfl, t, _, _, _, rfl, rfl, SqT.of ht3, rfl, (a.x : Int), (a.y : Int), rfl, _, _, rfl, rfl, _, rfl, ?_⟩
          by_cases c2 : a.x < 5 ∧ a.y < 5
          · have ok : atomOk a = true := by unfold atomOk; rw [decide_eq_true c1, decide_eq_true c2.1, decide_eq_true c2.2]; rfl
            refine ifF (decide_eq_false (by split <;> omega)) ?_
            have lq : qs.length ≤ 2 := by rw [Paired.length hqs, List.length_take]; omega
            refine ⟨_, rfl, .inl ⟨rfl, _, SqL.of hp3⟩, _, rfl, p, _, _, rfl, rfl, hp3, by rw [List.length_map]; exact big_lt (by omega), _, _, qs ++ [t], rfl, fun b o e => ?_, by rw [upd_same, List.map_append]; rfl, ?_, ?_⟩
            · rw [upd_ne (ne_of_none e hpH)]; exact s03 _ _ e
            · rw [take_succ' ha]
              exact Paired.snoc (Paired.mapP hqs3 fun _ _ z => by unfold AtomAt; rw [upd_ne (ne_of z hp3 (fun z => nomatch z))]; exact z) (by unfold AtomAt; rw [upd_ne (ne_of ht3 hp3 (fun z => nomatch z))]; exact ht3)
            · rw [take_succ' ha, List.all_append, hok]; simp [ok]
          · have nb : ¬ atomOk a = true := fun q => by
              unfold atomOk at q
              simp only [Bool.and_eq_true, decide_eq_true_eq] at q
              exact c2 q.2
            refine ifT (decide_eq_true (by split <;> omega)) (out nb)
        · have nb : ¬ atomOk a = true := fun q => by
            unfold atomOk at q
            simp only [Bool.and_eq_true, decide_eq_true_eq] at q
            exact c1 q.1
          refine ifT (decide_eq_true (by omega)) (ifT rfl (out nb))
      · rintro σ H2 ⟨v2, v3, qs, rfl, s2, hp2, hqs, hok⟩
        rw [List.take_length] at hqs hok
        rw [if_pos hok] at hrd
        exact ⟨_, rfl, kQ as hrd H2 p s2 hpH ⟨qs, hp2, hqs⟩⟩
    · refine ifT (by rw [decide_eq_false h36]; rfl) fun d hd => ?_
      exact kE (readA_bad h36) _ d (s1.trans (same_upd (Same.refl _) hd)) (s1.free hd) upd_same
end
end Rb

/-! ## X4 -/
set_option Elab.async false
set_option linter.all false
set_option maxRecDepth 100000
set_option maxHeartbeats 4000000
/-! X4: read_rule. -/
namespace Rb
open PySem PySem.Spec PyProof.Rows L2
open Dx (Fact Facts Atom Fill)
abbrev sReadR : Stmt := topS 18
theorem scReadR : FnScope ["body", "head"] ["body", "head"] (defScope sReadR) := ⟨rfl, rfl, rfl, by decide +kernel, rfl, by decide +kernel, by decide +kernel⟩
theorem Refuses.same {E : XK} {H H' : Hp} {C : Addr} {k : Int} (h : Refuses E H C k) (s : Same H H') : Refuses E H' C k := fun H2 d s2 n e => h H2 d (s.trans s2) (s.free n) e
theorem RuleOk.of {b h : List Nat} {r : Dx.Rule} (e : Dx05.rule? b h = some r) : RuleOk r := by
  rw [rule_read] at e
  cases h1 : readA b with
  | none => rw [h1] at e; cases e
  | some x =>
    cases h2 : readA h with
    | none => rw [h1, h2] at e; cases e
    | some y =>
      rw [h1, h2] at e
      cases e
      exact ⟨(readA_len h1).2, (readA_len h2).2⟩
/-- a rule that stands in H' at p, its lists and itself new since H -/
def RuleNew (CR : Addr) (H H' : Hp) (p : Addr) (r : Dx.Rule) : Prop := ∃ dx lb lh ls le, H' p = some (.ins CR dx (rF lb lh ls le)) ∧ AtomsAt H' lb r.body ∧ AtomsAt H' lh r.head ∧ H' ls = some (.lst ((shared r).map nI)) ∧ H' le = some (.lst (r.open_.map nI)) ∧ H p = none ∧ H lb = none ∧ H lh = none ∧ H ls = none ∧ H le = none
theorem RuleNew.rule {CR : Addr} {H H' : Hp} {p : Addr} {r : Dx.Rule} (h : RuleNew CR H H' p r) : RuleAt CR H' p r := by
  obtain ⟨dx, lb, lh, ls, le, h1, h2, h3, h4, h5, _⟩ := h
  exact ⟨dx, lb, lh, ls, le, h1, h2, h3, h4, h5⟩
theorem RuleNew.same {CR : Addr} {H H' H2 : Hp} {p : Addr} {r : Dx.Rule} (h : RuleNew CR H H' p r) (s : Same H' H2) : RuleNew CR H H2 p r := by
  obtain ⟨dx, lb, lh, ls, le, h1, h2, h3, h4, h5, q⟩ := h
  exact ⟨dx, lb, lh, ls, le, s _ _ h1, h2.same s, h3.same s, s _ _ h4, s _ _ h5, q⟩
def spReadR (CN CR : Addr) : Sp := fun vs H Q E => ∃ (lb lh : Addr) (b h : List Nat), vs = [.ref lb, .ref lh] ∧ H lb = some (.lst (b.map nI)) ∧ H lh = some (.lst (h.map nI)) ∧ b.length ≤ 1000 ∧ h.length ≤ 1000 ∧
  (Dx05.rule? b h = none → Refuses E H CN (-1)) ∧ ∀ (r : Dx.Rule), Dx05.rule? b h = some r → ∀ (H' : Hp) (p : Addr), Same H H' → RuleNew CR H H' p r → Q (.ref p) H'
section
variable {P : Program} {w : World} {K : PySem.W.Frag} {mg : Str → Option Value} {base : Heap} {CN CR : Addr}
theorem ok_readR {f : Addr} {fd : FuncData} (F : Fun K "read_rule" "read_rule" sReadR f fd) (GA : FnB P w K mg base (L2.CX P w) "read_atoms" ["numbers"] 4 (spReadA CN)) (MR : MkB P w K mg base CX0 "Rule" CR ["self", "body", "head"] 2 (spRInit CR)) :
    FnOk P w K mg base (L2.CX P w) 5 f fd ["body", "head"] (spReadR CN CR) := by
  refine F.okX scReadR (fun vs H Q E h => ?_) (fun cdv A outer s H vs Q E hr h => ?_)
  · obtain ⟨lb, lh, b, h, rfl, _⟩ := h
    rfl
  · have hr3 : Room 3 _ := hr.mono (by decide)
    refine ⟨_, pss_one (ps_ret (pe_makeF MR hr3 pass0 (pa_cons (pe_callF (E := E) GA hr (passes_call (takes_of rfl rfl rfl rfl) fun _ _ _ _ h => h) (pa_cons (pv 0) pa_nil)) (pa_cons (pe_callF (E := E) GA hr (passes_call (takes_of rfl rfl rfl rfl) fun _ _ _ _ h => h) (pa_cons (pv 1) pa_nil)) pa_nil)))), ?_⟩
    obtain ⟨lb, lh, b, h, rfl, hlb, hlh, l1, l2, kE, kQ⟩ := h
    rw [rule_read] at kE kQ
    refine ⟨_, rfl, lb, b, rfl, hlb, l1, fun e => kE (by rw [e]), fun x ex H1 p1 s1 n1 h1 => ?_⟩
    rw [ex] at kE kQ
    refine ⟨_, rfl, lh, h, rfl, s1 _ _ hlh, l2, fun e => (kE (by rw [e])).same s1, fun y ey H2 p2 s2 n2 h2 => ?_⟩
    rw [ey] at kE kQ
    have q1 := (readA_len ex).2
    have q2 := (readA_len ey).2
    intro c dxc nc ndc nec
    have sM : Same H2 (upd (upd H2 dxc (.own c)) c (.ins CR dxc [])) := fun b o e => by
      rw [upd_ne (ne_of_none e nc), upd_ne (ne_of_none e ndc)]; exact e
    have s02 : Same H H2 := s1.trans s2
    refine ⟨c, dxc, p1, p2, ⟨x, y⟩, rfl, upd_same, (h1.same s2).same sM, h2.same sM, by have := (right_len q1).2; show x.length ≤ 1000; omega, by have := (right_len q2).2; show y.length ≤ 1000; omega, fun H' ls le nls nle hp' hls hle kp => ⟨rfl, kQ ⟨x, y⟩ rfl H' c (fun b o e => ?_) ⟨dxc, p1, p2, ls, le, hp', ?_, ?_, hls, hle, s02.free nc, n1, s1.free n2, (s02.trans sM).free nls, (s02.trans sM).free nle⟩⟩⟩
    · exact kp _ _ (sM _ _ (s02 _ _ e)) (ne_of_none (s02 _ _ e) nc)
    · exact ((h1.same s2).same sM).but (show upd _ _ _ c = some (.ins CR dxc []) from upd_same) kp
    · exact (h2.same sM).but (show upd _ _ _ c = some (.ins CR dxc []) from upd_same) kp
end
end Rb

/-! ## K1 -/
set_option Elab.async false
set_option linter.all false
set_option maxRecDepth 100000
set_option maxHeartbeats 4000000
/-! K1: the desk; rules_in, usable_rules_in. -/
namespace Rb
open PySem PySem.Spec PyProof.Rows L2
open Dx (Fact Facts Atom Fill)
abbrev sDesk : Stmt := topS 42
abbrev sKInit : Stmt := inClass sDesk 0
abbrev sKBegins : Stmt := inClass sDesk 1
abbrev sKRule : Stmt := inClass sDesk 2
abbrev sKDrop : Stmt := inClass sDesk 3
abbrev sKFollows : Stmt := inClass sDesk 4
abbrev sKShows : Stmt := inClass sDesk 5
abbrev sKSpare : Stmt := inClass sDesk 6
abbrev sKThin : Stmt := inClass sDesk 7
abbrev sKWithin : Stmt := inClass sDesk 8
abbrev sKSame : Stmt := inClass sDesk 9
abbrev sKIn : Stmt := inClass sDesk 10
abbrev sKUse : Stmt := inClass sDesk 11
def kF (lb : Addr) : List (Str × V) := [("books", .ref lb)]
theorem kF_books (lb : Addr) : (kF lb).lookup ("books" : Str) = some (.ref lb) := by rfl
structure KTxt (K : PySem.W.Frag) (mg : Str → Option Value) (C : Addr) : Prop where
  b : Blt mg
  cl : Cls K C
  nB : NoAttr K C "books"
def pick (k l0 l1 : Nat) : Addr := if k = 0 then l0 else l1
theorem scKIn : FnScope ["self", "book"] ["self", "book"] (defScope sKIn) := ⟨rfl, rfl, rfl, by decide +kernel, rfl, by decide +kernel, by decide +kernel⟩
def spKIn (CD CP : Addr) : Sp := fun vs H Q E => ∃ (a dx lb l0 l1 : Addr) (k : Nat), vs = [.ref a, nI k] ∧ H a = some (.ins CD dx (kF lb)) ∧ H lb = some (.lst [.ref l0, .ref l1]) ∧
  (1 < k → Refuses E H CP (-2)) ∧ (¬ 1 < k → Q (.ref (pick k l0 l1)) H)
section
variable {P : Program} {w : World} {K : PySem.W.Frag} {mg : Str → Option Value} {base : Heap} {CD CP CC CR : Addr}
theorem ok_kin {f : Addr} {fd : FuncData} (F : Fun K "rules_in" "Desk.rules_in" sKIn f fd) (T : KTxt K mg CD) (R : RzB P w K mg base "NoSuchPlace" CP (-2)) : FnOk P w K mg base (L2.CX P w) 4 f fd ["self", "book"] (spKIn CD CP) := by
  refine F.okX scKIn (fun vs H Q E h => ?_) (fun cdv A outer s H vs Q E hr h => ?_)
  · obtain ⟨a, dx, lb, l0, l1, k, rfl, _⟩ := h
    rfl
  · refine ⟨_, pss_cons (ps_if (pt_cmpR op_ge (pv 1) (pe_callB call_len_seq (by rfl) T.b.len PySem.boot_len (pa_cons (pe_fld (pv 0) rfl) pa_nil)) (nomark _)) (pss_one (ps_raiseB R rfl hr (takes_of rfl rfl rfl rfl) (by rfl))) pss_nil)
      (pss_one (ps_ret (pe_ix ix_list (pe_fld (pv 0) rfl) (pv 1) (fun _ _ => rfl)))), ?_⟩
    obtain ⟨a, dx, lb, l0, l1, k, rfl, ha, hlb, kE, kQ⟩ := h
    refine ⟨_, rfl, _, rfl, a, CD, dx, _, _, rfl, ha, T.cl, T.nB, kF_books lb, lb, _, rfl, .inl (SqL.of hlb), _, _, rfl, rfl, _, rfl, ?_⟩
    by_cases c : 1 < k
    · refine ifT (decide_eq_true (by show (2 : Int) ≤ (k : Int); omega)) fun d hd => ?_
      exact kE c _ d (same_upd (Same.refl H) hd) hd upd_same
    · refine ifF (decide_eq_false (by show ¬ (2 : Int) ≤ (k : Int); omega)) ?_
      have e : [V.ref l0, V.ref l1][k]? = some (.ref (pick k l0 l1)) := by
        have : k = 0 ∨ k = 1 := by omega
        rcases this with rfl | rfl <;> rfl
      exact ⟨_, rfl, a, CD, dx, _, _, rfl, ha, T.cl, T.nB, kF_books lb, _, rfl, lb, _, _, _, rfl, rfl, SqL.of hlb, atI_nat e, kQ c⟩
theorem scKUse : FnScope ["self", "book", "rules"] ["self", "book"] (defScope sKUse) := ⟨rfl, rfl, rfl, by decide +kernel, rfl, by decide +kernel, by decide +kernel⟩
def spKUse (CD CP CC CR : Addr) : Sp := fun vs H Q E => ∃ (a dx lb l0 l1 : Addr) (k : Nat) (ras : List Addr) (rs : List Dx.Rule), vs = [.ref a, nI k] ∧ H a = some (.ins CD dx (kF lb)) ∧ H lb = some (.lst [.ref l0, .ref l1]) ∧
  (¬ 1 < k → H (pick k l0 l1) = some (.lst (ras.map V.ref)) ∧ Paired (RuleAt CR H) ras rs ∧ rs.length ≤ 3 ∧ ∀ r ∈ rs, RuleOk r) ∧
  (1 < k → Refuses E H CP (-2)) ∧ (¬ 1 < k → Dx05.ends rs = false → Refuses E H CC (-6)) ∧ (¬ 1 < k → Dx05.ends rs = true → ∀ H', Same H H' → Q (.ref (pick k l0 l1)) H')
theorem ok_kuse {f : Addr} {fd : FuncData} (F : Fun K "usable_rules_in" "Desk.usable_rules_in" sKUse f fd) (T : KTxt K mg CD) (R : RzB P w K mg base "CriterionFails" CC (-6)) (GI : MeB P w K mg base (L2.CX P w) CD "rules_in" ["self", "book"] 4 (spKIn CD CP))
    (GC : FnB P w K mg base CX0 "satisfies_criterion" ["rules"] 4 (spCrit CR)) : FnOk P w K mg base (L2.CX P w) 5 f fd ["self", "book"] (spKUse CD CP CC CR) := by
  refine F.okX scKUse (fun vs H Q E h => ?_) (fun cdv A outer s H vs Q E hr h => ?_)
  · obtain ⟨a, dx, lb, l0, l1, k, ras, rs, rfl, _⟩ := h
    rfl
  · have nd := scKUse.nd
    have hr3 : Room 3 _ := hr.mono (by decide)
    refine ⟨_, pss_cons (ps_set (i := 2) nd rfl (Or.inl rfl) (pe_methF (E := E) (pv 0) T.cl GI hr (passes_call (takes_of rfl rfl rfl rfl) fun _ _ _ _ h => h) (pa_cons (pv 1) pa_nil)))
      (pss_cons (ps_if (pt_not (pt_truth (pe_callF GC hr pass0 (pa_cons (pv 2) pa_nil)) (fun _ => rfl))) (pss_one (ps_raiseB R rfl hr3 (takes_of rfl rfl rfl rfl) (by rfl))) pss_nil)
      (pss_one (ps_ret (pv 2)))), ?_⟩
    obtain ⟨a, dx, lb, l0, l1, k, ras, rs, rfl, ha, hlb, hk, k1, k2, k3⟩ := h
    refine ⟨_, rfl, a, dx, _, rfl, ha, rfl, _, rfl, a, dx, lb, l0, l1, k, rfl, ha, hlb, k1, fun c => ?_⟩
    obtain ⟨hl, hp, h3, hok⟩ := hk c
    refine ⟨_, rfl, pick k l0 l1, ras, rs, rfl, hl, hp, h3, hok, fun H1 s1 => ⟨_, rfl, ?_⟩⟩
    cases e : Dx05.ends rs with
    | true => exact ifF rfl ⟨_, rfl, k3 c e H1 s1⟩
    | false => exact ifT rfl fun d hd => k2 c e _ d (s1.trans (same_upd (Same.refl _) hd)) (s1.free hd) upd_same
end
end Rb

/-! ## K2 -/
set_option Elab.async false
set_option linter.all false
set_option maxRecDepth 100000
set_option maxHeartbeats 4000000
/-! K2: follows. -/
namespace Rb
open PySem PySem.Spec PyProof.Rows L2
open Dx (Fact Facts Atom Fill)
def nKFol : List Str := ["self", "book", "body", "head", "asked"]
theorem scKFol : FnScope nKFol ["self", "book", "body", "head"] (defScope sKFollows) := ⟨rfl, rfl, rfl, by decide +kernel, rfl, by decide +kernel, by decide +kernel⟩
/-- the desk's parts, and the book k of it -/
def BookIs (CD CR : Addr) (H : Hp) (a dx lb l0 l1 : Addr) (k : Nat) (ras : List Addr) (rs : List Dx.Rule) : Prop := H a = some (.ins CD dx (kF lb)) ∧ H lb = some (.lst [.ref l0, .ref l1]) ∧
  (¬ 1 < k → H (pick k l0 l1) = some (.lst (ras.map V.ref)) ∧ Paired (RuleAt CR H) ras rs ∧ rs.length ≤ 3 ∧ ∀ r ∈ rs, RuleOk r)
theorem BookIs.same {CD CR : Addr} {H H' : Hp} {a dx lb l0 l1 : Addr} {k : Nat} {ras : List Addr} {rs : List Dx.Rule} (h : BookIs CD CR H a dx lb l0 l1 k ras rs) (s : Same H H') : BookIs CD CR H' a dx lb l0 l1 k ras rs :=
  ⟨s _ _ h.1, s _ _ h.2.1, fun c => let ⟨h1, h2, h3⟩ := h.2.2 c; ⟨s _ _ h1, Paired.mapP h2 fun _ _ z => z.same s, h3⟩⟩
/-- what follows and shows are asked with -/
def AskIs (CD CN CP CC CR : Addr) (vs : List V) (H : Hp) (E : XK) (good : List Dx.Rule → Dx.Rule → Prop) : Prop := ∃ (a dx lb l0 l1 : Addr) (k : Nat) (ras : List Addr) (rs : List Dx.Rule) (p q : Addr) (b h : List Nat), vs = [.ref a, nI k, .ref p, .ref q] ∧
  BookIs CD CR H a dx lb l0 l1 k ras rs ∧ H p = some (.lst (b.map nI)) ∧ H q = some (.lst (h.map nI)) ∧ b.length ≤ 1000 ∧ h.length ≤ 1000 ∧ (Dx05.rule? b h = none → Refuses E H CN (-1)) ∧
  ∀ r, Dx05.rule? b h = some r → (1 < k → Refuses E H CP (-2)) ∧ (¬ 1 < k → Dx05.ends rs = false → Refuses E H CC (-6)) ∧ (¬ 1 < k → Dx05.ends rs = true → Dx06.ended 100 rs r = true ∧ good rs r)
def spKFol (CD CN CP CC CR : Addr) : Sp := fun vs H Q E => AskIs CD CN CP CC CR vs H E fun rs r => ∀ (H' : Hp) (p : Addr), Same H H' → H p = none → H' p = some (.lst [nI (Dx06.flag (Dx06.follows rs r))]) → Q (.ref p) H'
section
variable {P : Program} {w : World} {K : PySem.W.Frag} {mg : Str → Option Value} {base : Heap} {CD CN CP CC CR CF : Addr}
theorem ok_kfol {f : Addr} {fd : FuncData} (F : Fun K "follows" "Desk.follows" sKFollows f fd) (T : KTxt K mg CD) (GR : FnB P w K mg base (L2.CX P w) "read_rule" ["body", "head"] 5 (spReadR CN CR)) (GU : MeB P w K mg base (L2.CX P w) CD "usable_rules_in" ["self", "book"] 5 (spKUse CD CP CC CR))
    (GF : FnB P w K mg base CX0 "follows_from" ["rule", "rules"] 8 (spFF CR)) : FnOk P w K mg base (L2.CX P w) 9 f fd ["self", "book", "body", "head"] (spKFol CD CN CP CC CR) := by
  refine F.okX scKFol (fun vs H Q E h => ?_) (fun cdv A outer s H vs Q E hr h => ?_)
  · obtain ⟨a, dx, lb, l0, l1, k, ras, rs, p, q, b, h, rfl, _⟩ := h
    rfl
  · have nd := scKFol.nd
    have hr5 : Room 5 _ := hr.mono (by decide)
    refine ⟨_, pss_cons (ps_set (i := 4) nd rfl (Or.inl rfl) (pe_callF (E := E) GR hr5 (passes_call (takes_of rfl rfl rfl rfl) fun _ _ _ _ h => h) (pa_cons (pv 2) (pa_cons (pv 3) pa_nil))))
      (pss_one (ps_ret (pe_lst (pa_cons (pe_ifExp (pt_truth (pe_callF GF hr pass0 (pa_cons (pv 4) (pa_cons (pe_methF (E := E) (pv 0) T.cl GU hr5 (passes_call (takes_of rfl rfl rfl rfl) fun _ _ _ _ h => h) (pa_cons (pv 1) pa_nil)) pa_nil))) (fun _ => rfl)) pe_int pe_int) pa_nil)))), ?_⟩
    obtain ⟨a, dx, lb, l0, l1, k, ras, rs, p, q, b, h, rfl, hB, hp, hq, lp, lq, kN, kR⟩ := h
    refine ⟨_, rfl, _, rfl, p, q, b, h, rfl, hp, hq, lp, lq, kN, fun r er H1 ra s1 hR => ?_⟩
    obtain ⟨k1, k2, k3⟩ := kR r er
    have ok := RuleOk.of er
    obtain ⟨hb1, hb2, hb3⟩ := hB.same s1
    refine ⟨_, rfl, _, rfl, a, dx, _, rfl, hb1, rfl, _, rfl, a, dx, lb, l0, l1, k, ras, rs, rfl, hb1, hb2, hb3, fun c => (k1 c).same s1, fun c e => (k2 c e).same s1, fun c e H2 s2 => ?_⟩
    obtain ⟨hend, good⟩ := k3 c e
    obtain ⟨hl, hpr, h3, hok⟩ := (show BookIs CD CR H1 a dx lb l0 l1 k ras rs from ⟨hb1, hb2, hb3⟩).same s2 |>.2.2 c
    have hR2 := hR.rule.same s2
    refine ⟨ra, pick k l0 l1, r, ras, rs, rfl, hR2, ok, hl, hpr, hok, by omega, hend, fun H4 s4 => ?_⟩
    have s04 : Same H H4 := (s1.trans s2).trans s4
    refine ⟨_, rfl, ?_⟩
    cases hf : Dx06.follows rs r with
    | true =>
      refine ifT rfl ⟨by show 1 ≤ sizeLine; decide, fun p' hp' => good _ p' (s04.trans (same_upd (Same.refl _) hp')) (s04.free hp') ?_⟩
      rw [upd_same, hf]; rfl
    | false =>
      refine ifF rfl ⟨by show 1 ≤ sizeLine; decide, fun p' hp' => good _ p' (s04.trans (same_upd (Same.refl _) hp')) (s04.free hp') ?_⟩
      rw [upd_same, hf]; rfl
end
end Rb

/-! ## HE -/
set_option Elab.async false
set_option linter.all false
set_option maxRecDepth 100000
set_option maxHeartbeats 4000000
/-! HE: xs.extend(t), t a tuple. -/
namespace L2
open PySem PySem.Spec PyProof.Rows
theorem meets_extT (l : Addr) (its : Array Value) (n : Nat) (b : Addr) (its2 : Array Value) (h1 : its.size + its2.size ≤ sizeLine) :
    Meets (Builtin.«list.extend» ⟨[.ref l, .ref b], []⟩) (fun _ R s => s.heap.get? l = some { cls := .type "list", data := .seq its n } ∧ IsTup s.heap b its2 ∧ R (.ok (.ret Value.none)) { s with heap := s.heap.update l (Obj.mapSeq fun x => x ++ its2) }) :=
  .of_wp fun prog w A R s h => by
    obtain ⟨hp, g, d, tk, os⟩ := s
    obtain ⟨hl, ⟨o, hb, hc, m, hd⟩, h⟩ := h
    obtain ⟨c, dc, dt, sl⟩ := o
    dsimp only at hc hd
    subst hc hd
    have f1 := AutoSeq1.idx_int
    have f2 := AutoSeq1.sub_tuple_tuple
    have f3 := AutoSeq1.sub_list_list
    have f4 := AutoSeq1.sub_tuple_list
    have f5 := AutoSeq1.sub_list_tuple
    have hc0 : ¬ (!its.isEmpty && Builtin.List.listTooLong (its.size + its2.size)) = true := by
      rw [notLongL h1, Bool.and_false]; exact Bool.false_ne_true
    have hz' : (its ++ its2).size ≤ sizeLine + 1 := by rw [Array.size_append]; omega
    wp_walk using (wpAny_updateSeq hl rfl (hz := by omega) (_hz' := hz')), AutoSeq1.wpAny_loadPart' hl, AutoSeq1.wpAny_loadPart' hb
    exact ⟨_, rfl, h⟩
def rExtendT : V → List V → Hp → VK → Prop := fun x vs H Q => ∃ l b xs zs, x = .ref l ∧ vs = [.ref b] ∧ H l = some (.lst xs) ∧ H b = some (.tup zs) ∧ xs.length + zs.length ≤ sizeLine ∧ Q .non (upd H l (.lst (xs ++ zs)))
theorem mt_extendT {X : Cx} : MtM X "list.extend" rExtendT := by
  intro pins s σ H x vs v us Q I rx rv ⟨l, b, xs, zs, ex, ev, hH, hB, hz, q⟩
  subst ex ev
  cases rx
  obtain ⟨u, eu, ru⟩ := rv.one
  subst eu
  cases ru
  obtain ⟨z, its, n, r, hl, e⟩ := I.lstM hH
  obtain ⟨its2, r2, p2, _⟩ := I.tuple (SqT.of hB)
  have l2 := r2.length
  exact call_meets F.slot_list_extend ⟨_, e, rfl⟩ F.entry_list_extend (F.args_list_extend_2 _ _) (meets_extT l its.toArray n b its2.toArray (by rw [List.size_toArray, List.size_toArray]; omega))
    ⟨e, p2, .non, _, I.lset (its' := its ++ its2) hH e (by simp) (r.append r2) (by rw [List.length_append]; exact hz), rfl, q⟩
end L2

/-! ## K3 -/
set_option Elab.async false
set_option linter.all false
set_option maxRecDepth 100000
set_option maxHeartbeats 4000000
/-! K3: shows. -/
namespace Rb
open PySem PySem.Spec PyProof.Rows L2
open Dx (Fact Facts Atom Fill)
def nKSho : List Str := ["self", "book", "body", "head", "asked", "facts", "listed", "numbers", "fact"]
theorem scKSho : FnScope nKSho ["self", "book", "body", "head"] (defScope sKShows) := ⟨rfl, rfl, rfl, by decide +kernel, rfl, by decide +kernel, by decide +kernel⟩
def spKSho (CD CN CP CC CR CX : Addr) : Sp := fun vs H Q E => AskIs CD CN CP CC CR vs H E fun rs r => (Dx06.follows rs r = true → Refuses E H CX (-3)) ∧
  (Dx06.follows rs r = false → ∀ (H' : Hp) (p : Addr), Same H H' → H p = none → H' p = some (.lst (nI (Dx06.comes rs r).length :: (Dx05.told (Dx06.comes rs r)).map nI)) → Q (.ref p) H')
theorem told_snoc {l : List Fact} {i : Nat} {f : Fact} (h : l[i]? = some f) : Dx05.told (l.take (i + 1)) = Dx05.told (l.take i) ++ [f.t, f.a, f.b] := by
  unfold Dx05.told
  rw [flat_snoc h]
theorem told_len (l : List Fact) : (Dx05.told l).length = 3 * l.length := by
  induction l with
  | nil => rfl
  | cons f l ih =>
    have : Dx05.told (f :: l) = [f.t, f.a, f.b] ++ Dx05.told l := rfl
    rw [this, List.length_append, ih, List.length_cons]
    simp only [List.length_cons, List.length_nil]
    omega
section
variable {P : Program} {w : World} {K : PySem.W.Frag} {mg : Str → Option Value} {base : Heap} {CD CN CP CC CR CF CX : Addr}
theorem ok_ksho {f : Addr} {fd : FuncData} (F : Fun K "shows" "Desk.shows" sKShows f fd) (T : KTxt K mg CD) (TF : FTxt K mg CF) (R : RzB P w K mg base "RuleFollows" CX (-3)) (GR : FnB P w K mg base (L2.CX P w) "read_rule" ["body", "head"] 5 (spReadR CN CR)) (GU : MeB P w K mg base (L2.CX P w) CD "usable_rules_in" ["self", "book"] 5 (spKUse CD CP CC CR))
    (GC : FnB P w K mg base CX0 "consequences" ["rule", "rules"] 7 (spCons P w CR CF)) (GS : FnB P w K mg base CX0 "shown_by" ["rule", "facts"] 5 (spShown P w CR CF)) (GL : MeB P w K mg base CX0 CF "listed" ["self"] 1 (spFListed P w CF)) :
    FnOk P w K mg base (L2.CX P w) 8 f fd ["self", "book", "body", "head"] (spKSho CD CN CP CC CR CX) := by
  refine F.okX scKSho (fun vs H Q E h => ?_) (fun cdv A outer s H vs Q E hr h => ?_)
  · obtain ⟨a, dx, lb, l0, l1, k, ras, rs, p, q, b, h, rfl, _⟩ := h
    rfl
  · have nd := scKSho.nd
    have hr5 : Room 5 _ := hr.mono (by decide)
    have hr3 : Room 3 _ := hr.mono (by decide)
    have hr1 : Room 1 _ := hr.mono (by decide)
    refine ⟨_, pss_cons (ps_set (i := 4) nd rfl (Or.inl rfl) (pe_callF (E := E) GR hr5 (passes_call (takes_of rfl rfl rfl rfl) fun _ _ _ _ h => h) (pa_cons (pv 2) (pa_cons (pv 3) pa_nil))))
      (pss_cons (ps_set (i := 5) nd rfl (Or.inl rfl) (pe_callF GC hr pass0 (pa_cons (pv 4) (pa_cons (pe_methF (E := E) (pv 0) T.cl GU hr5 (passes_call (takes_of rfl rfl rfl rfl) fun _ _ _ _ h => h) (pa_cons (pv 1) pa_nil)) pa_nil))))
      (pss_cons (ps_if (pt_truth (pe_callF GS hr5 pass0 (pa_cons (pv 4) (pa_cons (pv 5) pa_nil))) (fun _ => rfl)) (pss_one (ps_raiseB R rfl hr3 (takes_of rfl rfl rfl rfl) (by rfl))) pss_nil)
      (pss_cons (ps_set (i := 6) nd rfl (Or.inl rfl) (pe_methF0 (pv 5) TF.cl GL hr1 pass0))
      (pss_cons (ps_set (i := 7) nd rfl (Or.inl rfl) (pe_lst (pa_cons (pe_callB call_len_seq (by rfl) T.b.len PySem.boot_len (pa_cons (pv 6) pa_nil)) pa_nil)))
      (pss_cons (ps_for (passes_of rfl) rfl (pi_list (pv 6)) (pg_name (i := 8) nd rfl (Or.inl rfl))
        (pss_one (ps_expr (pe_bm PySem.F.plainAttrs_list PySem.F.slot_list_extend PySem.F.type_list_extend mt_extendT (pv 7) (pa_cons (pv 8) pa_nil)))))
      (pss_one (ps_ret (pv 7)))))))), ?_⟩
    obtain ⟨a, dx, lb, l0, l1, k, ras, rs, p, q, b, h, rfl, hB, hp, hq, lp, lq, kN, kR⟩ := h
    refine ⟨_, rfl, _, rfl, p, q, b, h, rfl, hp, hq, lp, lq, kN, fun r er H1 ra s1 hR => ?_⟩
    obtain ⟨k1, k2, k3⟩ := kR r er
    have ok := RuleOk.of er
    obtain ⟨hb1, hb2, hb3⟩ := hB.same s1
    refine ⟨_, rfl, _, rfl, a, dx, _, rfl, hb1, rfl, _, rfl, a, dx, lb, l0, l1, k, ras, rs, rfl, hb1, hb2, hb3, fun c => (k1 c).same s1, fun c e => (k2 c e).same s1, fun c e H2 s2 => ?_⟩
    obtain ⟨hend, gf, gs⟩ := k3 c e
    obtain ⟨hl, hpr, h3, hok⟩ := (show BookIs CD CR H1 a dx lb l0 l1 k ras rs from ⟨hb1, hb2, hb3⟩).same s2 |>.2.2 c
    have hR2 := hR.rule.same s2
    refine ⟨ra, pick k l0 l1, r, ras, rs, rfl, hR2, ok, hl, hpr, hok, by omega, hend, fun H3 fa S O s3 hF nd mem srt hS => ?_⟩
    refine ⟨_, rfl, _, rfl, ra, fa, r, S, O, rfl, hR2.same s3, (right_len ok.b).2, (right_len ok.h).2, hF, hS, fun H4 s4 => ?_⟩
    have s04 : Same H H4 := ((s1.trans s2).trans s3).trans s4
    have ef : (!(Dx.matches_ S r.head (Dx06.subOf r.body)).isEmpty) = Dx06.follows rs r := by
      unfold Dx06.follows
      rw [empty_mem mem]
    refine ⟨_, rfl, ?_⟩
    rw [ef]
    cases hf : Dx06.follows rs r with
    | true => exact ifT rfl fun d hd => gf hf _ d (s04.trans (same_upd (Same.refl _) hd)) (s04.free hd) upd_same
    | false =>
      refine ifF rfl ?_
      have hF4 := hF.same s4
      have hF40 := hF4
      obtain ⟨dxf, hh, lk, kvs, hO, hfa, _⟩ := hF40
      refine ⟨_, rfl, fa, dxf, _, rfl, hfa, rfl, ?_⟩
      refine ⟨fa, S, O, rfl, hF4, nd, fun H5 pl qs s5 hpn hpl hqs => ?_⟩
      have et : Dx.tidy S = Dx06.comes rs r := sorted_ext (tidy_sorted S) srt fun f => by rw [mem_tidy]; exact mem f
      have hcl : (Dx.tidy S).length ≤ 1000 := by rw [tidy_len nd]; exact hS
      rw [et] at hqs hcl
      have lqs : qs.length = (Dx06.comes rs r).length := Paired.length hqs
      have gs' := gs hf
      generalize Dx06.comes rs r = C at hqs hcl gs' lqs
      refine ⟨_, rfl, pl, _, rfl, .inl (SqL.of hpl), by show 1 ≤ sizeLine; decide, fun pn hpn2 => ?_⟩
      have s05 : Same H H5 := s04.trans s5
      have npl : pl ≠ pn := ne_of_none hpl hpn2
      have e6 : upd H5 pn (.lst [.int ((qs.map V.ref).length : Int)]) pn = some (.lst (nI C.length :: (Dx05.told (C.take 0)).map nI)) := by
        rw [upd_same, List.length_map, lqs]; rfl
      refine ⟨_, rfl, pl, rfl, ⟨_, SqL.of (by rw [upd_ne npl]; exact hpl)⟩, for_list (K := K) (a := pl) (xs := qs.map V.ref) (fun j σ H' => ∃ v8, σ = [some (.ref a), some (nI k), some (.ref p), some (.ref q), some (.ref ra), some (.ref fa), some (.ref pl), some (.ref pn), v8] ∧ Same H5 (fun b => if b = pn then none else H' b) ∧
          H' pn = some (.lst (nI C.length :: (Dx05.told (C.take j)).map nI)))
        ⟨none, rfl, fun b o e => ?_, e6⟩ (fun j σ H' _ ⟨_, _, s, _⟩ => SqL.of (by have := s _ _ hpl; dsimp only at this; rw [if_neg npl] at this; exact this)) ?_ ?_⟩
      · show (if b = pn then none else _) = _
        rw [if_neg (ne_of_none e hpn2), upd_ne (ne_of_none e hpn2)]; exact e
      · rintro j x σ H6 hj ⟨v8, rfl, s6, h6⟩
        obtain ⟨qf, hqf, rfl⟩ := map_get hj
        obtain ⟨g, hg, gat⟩ := paired_get hqs hqf
        have k6 : ∀ b o, H5 b = some o → H6 b = some o := fun b o e => by
          have := s6 _ _ e
          dsimp only at this
          rw [if_neg (ne_of_none e hpn2)] at this
          exact this
        have jl : j < C.length := (List.getElem?_eq_some_iff.mp hg).1
        refine ⟨_, rfl, .inl ⟨rfl, _, SqL.of h6⟩, _, rfl, pn, qf, _, factV g, rfl, rfl, h6, k6 _ _ (s5 _ _ gat), ?_, ?_⟩
        · rw [List.length_cons, List.length_map, told_len, List.length_take, sizeLine_eq]
          show _ + 3 ≤ _
          omega
        · refine ⟨_, rfl, fun b o e => ?_, ?_⟩
          · show (if b = pn then none else _) = _
            rw [if_neg (ne_of_none e hpn2), upd_ne (ne_of_none e hpn2)]; exact k6 _ _ e
          · rw [upd_same, told_snoc hg, List.map_append]; rfl
      · rintro σ H6 ⟨v8, rfl, s6, h6⟩
        have et2 : C.take (qs.map V.ref).length = C := List.take_of_length_le (by rw [List.length_map]; omega)
        rw [et2] at h6
        refine ⟨_, rfl, gs' H6 pn (fun b o e => ?_) (s05.free hpn2) h6⟩
        have := s6 _ _ (s05 _ _ e)
        dsimp only at this
        rw [if_neg (ne_of_none (s05 _ _ e) hpn2)] at this
        exact this
end
end Rb

/-! ## K4 -/
set_option Elab.async false
set_option linter.all false
set_option maxRecDepth 100000
set_option maxHeartbeats 4000000
/-! K4: the desk as a whole; begins, __init__. -/
namespace Rb
open PySem PySem.Spec PyProof.Rows L2
open Dx (Fact Facts Atom Fill)
/-- the desk's parts; its rules stand in G, which is no part of what is changed -/
structure DeskIs (CD CR : Addr) (H : Hp) (a dx lb l0 l1 : Addr) (ras0 ras1 : List Addr) (G : Hp) (X : List Addr) (h : Dx06.House) : Prop where
  ha : H a = some (.ins CD dx (kF lb))
  hb : H lb = some (.lst [.ref l0, .ref l1])
  h0 : H l0 = some (.lst (ras0.map V.ref))
  h1 : H l1 = some (.lst (ras1.map V.ref))
  n01 : l0 ≠ l1
  nb0 : lb ≠ l0
  nb1 : lb ≠ l1
  sG : Same G H
  gD : ∀ b ∈ [a, lb, l0, l1], G b = none
  gX : ∀ b ∈ X, G b = none ∧ b ∉ [a, lb, l0, l1] ∧ ∃ xs, H b = some (.lst xs)
  r0 : Paired (RuleAt CR G) ras0 h.one
  r1 : Paired (RuleAt CR G) ras1 h.two
structure HouseOk (h : Dx06.House) : Prop where
  n0 : h.one.length ≤ 3
  n1 : h.two.length ≤ 3
  o0 : ∀ r ∈ h.one, RuleOk r
  o1 : ∀ r ∈ h.two, RuleOk r
def DeskAt (CD CR : Addr) (H : Hp) (a : Addr) (D X : List Addr) (h : Dx06.House) : Prop := ∃ dx lb l0 l1 ras0 ras1 G, D = [a, lb, l0, l1] ∧ DeskIs CD CR H a dx lb l0 l1 ras0 ras1 G X h
theorem DeskIs.same {CD CR : Addr} {H H' : Hp} {a dx lb l0 l1 : Addr} {ras0 ras1 : List Addr} {G : Hp} {X : List Addr} {h : Dx06.House} (d : DeskIs CD CR H a dx lb l0 l1 ras0 ras1 G X h) (s : Same H H') : DeskIs CD CR H' a dx lb l0 l1 ras0 ras1 G X h :=
  ⟨s _ _ d.ha, s _ _ d.hb, s _ _ d.h0, s _ _ d.h1, d.n01, d.nb0, d.nb1, d.sG.trans s, d.gD, fun b hb => let ⟨x1, x2, xs, x3⟩ := d.gX b hb; ⟨x1, x2, xs, s _ _ x3⟩, d.r0, d.r1⟩
theorem DeskAt.same {CD CR : Addr} {H H' : Hp} {a : Addr} {D X : List Addr} {h : Dx06.House} (d : DeskAt CD CR H a D X h) (s : Same H H') : DeskAt CD CR H' a D X h := by
  obtain ⟨dx, lb, l0, l1, ras0, ras1, G, e, q⟩ := d
  exact ⟨dx, lb, l0, l1, ras0, ras1, G, e, q.same s⟩
/-- a list that is no part of the desk is changed -/
theorem DeskAt.out {CD CR : Addr} {H : Hp} {a t : Addr} {D X : List Addr} {h : Dx06.House} {xs : List V} (d : DeskAt CD CR H a D X h) (ht : t ∈ X) : DeskAt CD CR (upd H t (.lst xs)) a D X h := by
  obtain ⟨dx, lb, l0, l1, ras0, ras1, G, e, q⟩ := d
  obtain ⟨x1, x2, ys, x3⟩ := q.gX t ht
  have ne : ∀ b ∈ [a, lb, l0, l1], b ≠ t := fun b hb z => x2 (z ▸ hb)
  refine ⟨dx, lb, l0, l1, ras0, ras1, G, e, ⟨by rw [upd_ne (ne _ (by simp))]; exact q.ha, by rw [upd_ne (ne _ (by simp))]; exact q.hb, by rw [upd_ne (ne _ (by simp))]; exact q.h0, by rw [upd_ne (ne _ (by simp))]; exact q.h1, q.n01, q.nb0, q.nb1,
    fun b o e => by rw [upd_ne (ne_of_none e x1)]; exact q.sG _ _ e, q.gD, fun b hb => ?_, q.r0, q.r1⟩⟩
  obtain ⟨y1, y2, zs, y3⟩ := q.gX b hb
  by_cases c : b = t
  · exact ⟨y1, y2, xs, by rw [c, upd_same]⟩
  · exact ⟨y1, y2, zs, by rw [upd_ne c]; exact y3⟩
theorem pick_get (h : Dx06.House) {k : Nat} {ras0 ras1 : List Addr} {G : Hp} {CR : Addr} (r0 : Paired (RuleAt CR G) ras0 h.one) (r1 : Paired (RuleAt CR G) ras1 h.two) : Paired (RuleAt CR G) (if k = 0 then ras0 else ras1) (h.get k) := by
  unfold Dx06.House.get
  by_cases c : k = 0
  · rw [if_pos c, if_pos c]; exact r0
  · rw [if_neg c, if_neg c]; exact r1
theorem HouseOk.get {h : Dx06.House} (o : HouseOk h) (k : Nat) : (h.get k).length ≤ 3 ∧ ∀ r ∈ h.get k, RuleOk r := by
  unfold Dx06.House.get
  by_cases c : k = 0
  · rw [if_pos c]; exact ⟨o.n0, o.o0⟩
  · rw [if_neg c]; exact ⟨o.n1, o.o1⟩
theorem HouseOk.set {h : Dx06.House} (o : HouseOk h) (k : Nat) {l : List Dx.Rule} (hl : l.length ≤ 3) (ho : ∀ r ∈ l, RuleOk r) : HouseOk (h.set k l) := by
  unfold Dx06.House.set
  by_cases c : k = 0
  · rw [if_pos c]; exact ⟨hl, o.n1, ho, o.o1⟩
  · rw [if_neg c]; exact ⟨o.n0, hl, o.o0, ho⟩
theorem DeskIs.book {CD CR : Addr} {H : Hp} {a dx lb l0 l1 : Addr} {ras0 ras1 : List Addr} {G : Hp} {X : List Addr} {h : Dx06.House} (d : DeskIs CD CR H a dx lb l0 l1 ras0 ras1 G X h) (o : HouseOk h) (k : Nat) :
    BookIs CD CR H a dx lb l0 l1 k (if k = 0 then ras0 else ras1) (h.get k) := by
  refine ⟨d.ha, d.hb, fun _ => ⟨?_, Paired.mapP (pick_get h d.r0 d.r1) fun _ _ z => z.same d.sG, o.get k⟩⟩
  unfold pick
  by_cases c : k = 0
  · rw [if_pos c, if_pos c]; exact d.h0
  · rw [if_neg c, if_neg c]; exact d.h1
/-- an empty desk, whose parts are new -/
theorem desk_new {CD CR : Addr} {H : Hp} {a dx lb l0 l1 : Addr} {X : List Addr} (ha : H a = some (.ins CD dx (kF lb))) (hb : H lb = some (.lst [.ref l0, .ref l1])) (h0 : H l0 = some (.lst [])) (h1 : H l1 = some (.lst [])) (n01 : l0 ≠ l1) (nb0 : lb ≠ l0) (nb1 : lb ≠ l1)
    (hX : ∀ b ∈ X, b ∉ [a, lb, l0, l1] ∧ ∃ xs, H b = some (.lst xs)) : DeskAt CD CR H a [a, lb, l0, l1] X Dx06.init :=
  ⟨dx, lb, l0, l1, [], [], fun _ => none, rfl, ⟨ha, hb, h0, h1, n01, nb0, nb1, (fun _ _ e => nomatch e), fun _ _ => rfl, fun b hb => ⟨rfl, hX b hb⟩, .nil, .nil⟩⟩
theorem scKInit : FnScope ["self"] ["self"] (defScope sKInit) := ⟨rfl, rfl, rfl, by decide +kernel, rfl, by decide +kernel, by decide +kernel⟩
theorem scKBeg : FnScope ["self"] ["self"] (defScope sKBegins) := ⟨rfl, rfl, rfl, by decide +kernel, rfl, by decide +kernel, by decide +kernel⟩
def spKInit (CD CR : Addr) : Sp := fun vs H Q _ => ∃ (a dx : Addr), vs = [.ref a] ∧ H a = some (.ins CD dx []) ∧
  ∀ (H' : Hp) (D : List Addr), DeskAt CD CR H' a D [] Dx06.init → (∀ b ∈ D, b = a ∨ H b = none) → (∀ b o, H b = some o → b ≠ a → H' b = some o) → Q .non H'
def spKBeg (CD CR : Addr) : Sp := fun vs H Q _ => ∃ (a : Addr) (D X : List Addr) (h : Dx06.House), vs = [.ref a] ∧ DeskAt CD CR H a D X h ∧
  ∀ (H' : Hp) (D' : List Addr) (p : Addr), DeskAt CD CR H' a D' X Dx06.init → (∀ b ∈ D', b ∈ D ∨ H b = none) → Fr D H H' → H p = none → p ∉ D' → H' p = some (.lst [nI 0]) → Q (.ref p) H'
section
variable {P : Program} {w : World} {K : PySem.W.Frag} {mg : Str → Option Value} {base : Heap} {CD CR : Addr}
theorem ok_kbeg {f : Addr} {fd : FuncData} (F : Fun K "begins" "Desk.begins" sKBegins f fd) (T : KTxt K mg CD) : FnOk P w K mg base CX0 1 f fd ["self"] (spKBeg CD CR) := by
  refine F.ok scKBeg (fun vs H Q E h => ?_) (fun cdv A outer s H vs Q E hr h => ?_)
  · obtain ⟨a, D, X, h, rfl, _⟩ := h
    rfl
  · refine ⟨_, pss_cons (ps_fld (pv 0) (pe_lst (pa_cons (pe_lst pa_nil) (pa_cons (pe_lst pa_nil) pa_nil))) rfl) (pss_one (ps_ret (pe_lst (pa_cons pe_int pa_nil)))), ?_⟩
    obtain ⟨a, D, X, h, rfl, ⟨dx, lb, l0, l1, ras0, ras1, G, rfl, d⟩, k⟩ := h
    refine ⟨by show 0 ≤ sizeLine; decide, fun m0 hm0 => ⟨by show 0 ≤ sizeLine; decide, fun m1 hm1 => ⟨by show 2 ≤ sizeLine; decide, fun mb hmb => ?_⟩⟩⟩
    have s1 : Same H (upd H m0 (.lst [])) := same_upd (Same.refl H) hm0
    have s2 : Same H (upd (upd H m0 (.lst [])) m1 (.lst [])) := s1.trans (same_upd (Same.refl _) hm1)
    have s3 : Same H (upd (upd (upd H m0 (.lst [])) m1 (.lst [])) mb (.lst [.ref m0, .ref m1])) := s2.trans (same_upd (Same.refl _) hmb)
    have n0 : m0 ≠ m1 := ne_of_none upd_same hm1
    have n1 : m1 ≠ mb := ne_of_none upd_same hmb
    have n2 : m0 ≠ mb := ne_of_none (by rw [upd_ne n0, upd_same]) hmb
    have e0 : upd (upd (upd H m0 (.lst [])) m1 (.lst [])) mb (.lst [.ref m0, .ref m1]) m0 = some (.lst []) := by rw [upd_ne n2, upd_ne n0, upd_same]
    have e1 : upd (upd (upd H m0 (.lst [])) m1 (.lst [])) mb (.lst [.ref m0, .ref m1]) m1 = some (.lst []) := by rw [upd_ne n1, upd_same]
    have eb : upd (upd (upd H m0 (.lst [])) m1 (.lst [])) mb (.lst [.ref m0, .ref m1]) mb = some (.lst [.ref m0, .ref m1]) := upd_same
    have f0 : H m0 = none := hm0
    have f1 : H m1 = none := s1.free hm1
    have fb : H mb = none := s2.free hmb
    generalize upd (upd (upd H m0 (.lst [])) m1 (.lst [])) mb (.lst [.ref m0, .ref m1]) = H3 at s3 e0 e1 eb ⊢
    refine ⟨_, rfl, a, CD, dx, _, rfl, s3 _ _ d.ha, T.cl, T.nB, (by show 1 < 1000; decide), ?_⟩
    have na : ∀ {b : Addr}, H b = none → b ≠ a := fun e z => by rw [z, d.ha] at e; cases e
    refine ⟨by show 1 ≤ sizeLine; decide, fun p hp => ?_⟩
    have hp3 : H3 p = none := by
      by_cases c : p = a
      · subst c; rw [upd_same] at hp; cases hp
      · rw [upd_ne c] at hp; exact hp
    have pa : p ≠ a := fun z => by subst z; rw [upd_same] at hp; cases hp
    have keep : ∀ b o, H3 b = some o → b ≠ a → upd (upd H3 a (.ins CD dx (L2.putF "books" (.ref mb) (kF lb)))) p (.lst [.int 0]) b = some o := fun b o e n => by
      rw [upd_ne (ne_of_none e hp3), upd_ne n]; exact e
    refine k _ [a, mb, m0, m1] p (desk_new (dx := dx) ?_ (keep _ _ eb (na fb)) (keep _ _ e0 (na f0)) (keep _ _ e1 (na f1)) n0 n2.symm n1.symm fun b hb => ?_) (fun b hb => ?_) (fun b o e n => ?_) (s3.free hp3) (fun m => ?_) ?_
    · rw [upd_ne pa.symm, upd_same]; rfl
    · obtain ⟨x1, x2, xs, x3⟩ := d.gX b hb
      have ba : b ≠ a := fun z => x2 (by simp [z])
      refine ⟨fun m => ?_, xs, keep _ _ (s3 _ _ x3) ba⟩
      have : b = a ∨ b = mb ∨ b = m0 ∨ b = m1 := by simpa using m
      rcases this with z | z | z | z
      · exact ba z
      · rw [z, fb] at x3; cases x3
      · rw [z, f0] at x3; cases x3
      · rw [z, f1] at x3; cases x3
    · have : b = a ∨ b = mb ∨ b = m0 ∨ b = m1 := by simpa using hb
      rcases this with rfl | rfl | rfl | rfl
      · exact .inl (by simp)
      · exact .inr fb
      · exact .inr f0
      · exact .inr f1
    · exact keep _ _ (s3 _ _ e) fun z => n (by simp [z])
    · have : p = a ∨ p = mb ∨ p = m0 ∨ p = m1 := by simpa using m
      rcases this with z | z | z | z
      · exact pa z
      · rw [z, eb] at hp3; cases hp3
      · rw [z, e0] at hp3; cases hp3
      · rw [z, e1] at hp3; cases hp3
    · rw [upd_same]; rfl
end
end Rb

/-! ## K5 -/
set_option Elab.async false
set_option linter.all false
set_option maxRecDepth 100000
set_option maxHeartbeats 4000000
/-! K5: rule, drop. -/
namespace Rb
open PySem PySem.Spec PyProof.Rows L2
open Dx (Fact Facts Atom Fill)
theorem pick_mem (k l0 l1 : Nat) (a lb : Addr) : pick k l0 l1 ∈ [a, lb, l0, l1] := by
  unfold pick
  split <;> simp
theorem desk_put {CD CR : Addr} {H : Hp} {a dx lb l0 l1 : Addr} {ras0 ras1 : List Addr} {G : Hp} {X : List Addr} {h : Dx06.House} (d : DeskIs CD CR H a dx lb l0 l1 ras0 ras1 G X h) (k : Nat) {ras : List Addr} {rs : List Dx.Rule} (r : Paired (RuleAt CR G) ras rs) :
    DeskIs CD CR (upd H (pick k l0 l1) (.lst (ras.map V.ref))) a dx lb l0 l1 (if k = 0 then ras else ras0) (if k = 0 then ras1 else ras) G X (h.set k rs) := by
  have na : a ≠ l0 := ne_of d.ha d.h0 (fun z => nomatch z)
  have na1 : a ≠ l1 := ne_of d.ha d.h1 (fun z => nomatch z)
  have gk : G (pick k l0 l1) = none := d.gD _ (pick_mem k l0 l1 a lb)
  unfold Dx06.House.set
  by_cases c : k = 0
  · rw [if_pos c, if_pos c, if_pos c]
    have e : pick k l0 l1 = l0 := by unfold pick; rw [if_pos c]
    rw [e] at gk ⊢
    refine ⟨by rw [upd_ne na]; exact d.ha, by rw [upd_ne d.nb0]; exact d.hb, upd_same, by rw [upd_ne d.n01.symm]; exact d.h1, d.n01, d.nb0, d.nb1, fun b o z => by rw [upd_ne (ne_of_none z gk)]; exact d.sG _ _ z, d.gD, fun b hb => ?_, r, d.r1⟩
    obtain ⟨x1, x2, xs, x3⟩ := d.gX b hb
    exact ⟨x1, x2, xs, by rw [upd_ne (fun z => x2 (by simp [z]))]; exact x3⟩
  · rw [if_neg c, if_neg c, if_neg c]
    have e : pick k l0 l1 = l1 := by unfold pick; rw [if_neg c]
    rw [e] at gk ⊢
    refine ⟨by rw [upd_ne na1]; exact d.ha, by rw [upd_ne d.nb1]; exact d.hb, by rw [upd_ne d.n01]; exact d.h0, upd_same, d.n01, d.nb0, d.nb1, fun b o z => by rw [upd_ne (ne_of_none z gk)]; exact d.sG _ _ z, d.gD, fun b hb => ?_, d.r0, r⟩
    obtain ⟨x1, x2, xs, x3⟩ := d.gX b hb
    exact ⟨x1, x2, xs, by rw [upd_ne (fun z => x2 (by simp [z]))]; exact x3⟩
theorem DeskIs.noNew {CD CR : Addr} {H : Hp} {a dx lb l0 l1 p : Addr} {ras0 ras1 : List Addr} {G : Hp} {X : List Addr} {h : Dx06.House} (d : DeskIs CD CR H a dx lb l0 l1 ras0 ras1 G X h) (hp : H p = none) : p ∉ [a, lb, l0, l1] := fun m => by
  have : p = a ∨ p = lb ∨ p = l0 ∨ p = l1 := by simpa using m
  rcases this with z | z | z | z
  · rw [z, d.ha] at hp; cases hp
  · rw [z, d.hb] at hp; cases hp
  · rw [z, d.h0] at hp; cases hp
  · rw [z, d.h1] at hp; cases hp
/-- new rules belong to what is not changed -/
theorem desk_grow {CD CR : Addr} {H H1 : Hp} {a dx lb l0 l1 : Addr} {ras0 ras1 : List Addr} {G : Hp} {X : List Addr} {h : Dx06.House} (d : DeskIs CD CR H a dx lb l0 l1 ras0 ras1 G X h) (s : Same H H1) :
    ∃ G', DeskIs CD CR H1 a dx lb l0 l1 ras0 ras1 G' X h ∧ Same G G' ∧ ∀ p r, RuleNew CR H H1 p r → RuleAt CR G' p r := by
  refine ⟨fun b => if b ∈ [a, lb, l0, l1] ∨ b ∈ X then none else H1 b, ?_, ?_, ?_⟩
  · have sGG : Same G (fun b => if b ∈ [a, lb, l0, l1] ∨ b ∈ X then none else H1 b) := fun b o e => by
      show (if _ then _ else _) = _
      rw [if_neg]
      · exact s _ _ (d.sG _ _ e)
      · rintro (z | z)
        · rw [d.gD b z] at e; cases e
        · rw [(d.gX b z).1] at e; cases e
    have d1 := d.same s
    refine ⟨d1.ha, d1.hb, d1.h0, d1.h1, d.n01, d.nb0, d.nb1, fun b o e => ?_, fun b hb => if_pos (.inl hb), fun b hb => ⟨if_pos (.inr hb), (d1.gX b hb).2⟩, Paired.mapP d.r0 fun _ _ z => z.same sGG, Paired.mapP d.r1 fun _ _ z => z.same sGG⟩
    have e' : (if b ∈ [a, lb, l0, l1] ∨ b ∈ X then none else H1 b) = some o := e
    split at e'
    · cases e'
    · exact e'
  · intro b o e
    show (if _ then _ else _) = _
    rw [if_neg]
    · exact s _ _ (d.sG _ _ e)
    · rintro (z | z)
      · rw [d.gD b z] at e; cases e
      · rw [(d.gX b z).1] at e; cases e
  · rintro p r ⟨dr, q1, q2, q3, q4, e1, e2, e3, e4, e5, f1, f2, f3, f4, f5⟩
    -- what the desk or X holds stood already, and is no tuple
    have old : ∀ b, b ∈ [a, lb, l0, l1] ∨ b ∈ X → (∃ o, H b = some o) ∧ ∀ xs, H1 b ≠ some (.tup xs) := by
      intro b hb
      have key : ∀ o, H b = some o → (∀ xs, o ≠ .tup xs) → (∃ o, H b = some o) ∧ ∀ xs, H1 b ≠ some (.tup xs) := fun o e n => ⟨⟨o, e⟩, fun xs q => by
        rw [s _ _ e] at q
        exact n xs (Option.some.inj q)⟩
      rcases hb with hb | hb
      · have : b = a ∨ b = lb ∨ b = l0 ∨ b = l1 := by simpa using hb
        rcases this with rfl | rfl | rfl | rfl
        · exact key _ d.ha fun _ z => nomatch z
        · exact key _ d.hb fun _ z => nomatch z
        · exact key _ d.h0 fun _ z => nomatch z
        · exact key _ d.h1 fun _ z => nomatch z
      · obtain ⟨_, _, xs, x3⟩ := d.gX b hb
        exact key _ x3 fun _ z => nomatch z
    have new : ∀ {b o}, H b = none → H1 b = some o → (fun b => if b ∈ [a, lb, l0, l1] ∨ b ∈ X then none else H1 b) b = some o := fun {b o} n e => by
      show (if _ then _ else _) = _
      rw [if_neg]
      · exact e
      · intro m
        obtain ⟨⟨o', q⟩, _⟩ := old b m
        rw [n] at q; cases q
    have tup : ∀ {b xs}, H1 b = some (.tup xs) → (fun b => if b ∈ [a, lb, l0, l1] ∨ b ∈ X then none else H1 b) b = some (.tup xs) := fun {b xs} e => by
      show (if _ then _ else _) = _
      rw [if_neg]
      · exact e
      · intro m
        exact (old b m).2 xs e
    obtain ⟨qs, a1, a2⟩ := e2
    obtain ⟨qs', b1, b2⟩ := e3
    exact ⟨dr, q1, q2, q3, q4, new f1 e1, ⟨qs, new f2 a1, Paired.mapP a2 fun _ _ z => tup z⟩, ⟨qs', new f3 b1, Paired.mapP b2 fun _ _ z => tup z⟩, new f4 e4, new f5 e5⟩
end Rb

/-! ## K6 -/
set_option Elab.async false
set_option linter.all false
set_option maxRecDepth 100000
set_option maxHeartbeats 4000000
/-! K6: rule, drop. -/
namespace Rb
open PySem PySem.Spec PyProof.Rows L2
open Dx (Fact Facts Atom Fill)
theorem scKRule : FnScope ["self", "book", "body", "head", "rules", "added"] ["self", "book", "body", "head"] (defScope sKRule) := ⟨rfl, rfl, rfl, by decide +kernel, rfl, by decide +kernel, by decide +kernel⟩
theorem scKDrop : FnScope ["self", "book", "index", "rules"] ["self", "book", "index"] (defScope sKDrop) := ⟨rfl, rfl, rfl, by decide +kernel, rfl, by decide +kernel, by decide +kernel⟩
/-- the desk is now that of h', the answer n -/
def Turns (CD CR : Addr) (H : Hp) (Q : VK) (a : Addr) (D X : List Addr) (h' : Dx06.House) (ns : List Nat) : Prop :=
  ∀ (H' : Hp) (D' : List Addr) (p : Addr), DeskAt CD CR H' a D' X h' → (∀ b ∈ D', b ∈ D ∨ H b = none) → Fr D H H' → H p = none → p ∉ D' → H' p = some (.lst (ns.map nI)) → Q (.ref p) H'
def spKRule (CD CN CP CB CR : Addr) : Sp := fun vs H Q E => ∃ (a : Addr) (D X : List Addr) (k : Nat) (p q : Addr) (h : Dx06.House) (b d : List Nat), vs = [.ref a, nI k, .ref p, .ref q] ∧ DeskAt CD CR H a D X h ∧ HouseOk h ∧
  H p = some (.lst (b.map nI)) ∧ H q = some (.lst (d.map nI)) ∧ b.length ≤ 1000 ∧ d.length ≤ 1000 ∧ (1 < k → Refuses E H CP (-2)) ∧ (¬ 1 < k → Dx05.rule? b d = none → Refuses E H CN (-1)) ∧
  ∀ r, ¬ 1 < k → Dx05.rule? b d = some r → ((h.get k).length = 3 → Refuses E H CB (-7)) ∧ ((h.get k).length ≠ 3 → Turns CD CR H Q a D X (h.set k (h.get k ++ [r])) [(h.get k).length])
def spKDrop (CD CP CR : Addr) : Sp := fun vs H Q E => ∃ (a : Addr) (D X : List Addr) (k i : Nat) (h : Dx06.House), vs = [.ref a, nI k, nI i] ∧ i < 4294967296 ∧ DeskAt CD CR H a D X h ∧ HouseOk h ∧
  (1 < k ∨ (h.get k).length ≤ i → Refuses E H CP (-2)) ∧ (¬ (1 < k ∨ (h.get k).length ≤ i) → Turns CD CR H Q a D X (h.set k (Dx06.others (h.get k) i)) [(h.get k).length - 1])
structure MTxt (mg : Str → Option Value) : Prop where
  mM : ∃ t, mg "MOST_RULES" = some (.int 3 t)
theorem others_eq {α : Type} (l : List α) (i : Nat) : l.take i ++ l.drop (i + 1) = l.eraseIdx i := (List.eraseIdx_eq_take_drop_succ l i).symm
theorem map_erase {α β : Type} (f : α → β) : ∀ (l : List α) (i : Nat), (l.map f).eraseIdx i = (l.eraseIdx i).map f
  | [], _ => rfl
  | _ :: _, 0 => rfl
  | a :: l, i + 1 => by
    show f a :: (l.map f).eraseIdx i = f a :: (l.eraseIdx i).map f
    rw [map_erase f l i]
theorem paired_erase {α β : Type} {R : α → β → Prop} : ∀ {l : List α} {m : List β} (i : Nat), Paired R l m → Paired R (l.eraseIdx i) (m.eraseIdx i)
  | _, _, _, .nil => .nil
  | _, _, 0, .cons _ t => t
  | _, _, i + 1, .cons r t => .cons r (paired_erase i t)
section
variable {P : Program} {w : World} {K : PySem.W.Frag} {mg : Str → Option Value} {base : Heap} {CD CN CP CB CR : Addr}
theorem ok_krule {f : Addr} {fd : FuncData} (F : Fun K "rule" "Desk.rule" sKRule f fd) (T : KTxt K mg CD) (TM : MTxt mg) (R : RzB P w K mg base "BookIsFull" CB (-7)) (GR : FnB P w K mg base (L2.CX P w) "read_rule" ["body", "head"] 5 (spReadR CN CR)) (GI : MeB P w K mg base (L2.CX P w) CD "rules_in" ["self", "book"] 4 (spKIn CD CP)) :
    FnOk P w K mg base (L2.CX P w) 6 f fd ["self", "book", "body", "head"] (spKRule CD CN CP CB CR) := by
  obtain ⟨t3, mM⟩ := TM.mM
  refine F.okX scKRule (fun vs H Q E h => ?_) (fun cdv A outer s H vs Q E hr h => ?_)
  · obtain ⟨a, D, X, k, p, q, h, b, d, rfl, _⟩ := h
    rfl
  · have nd := scKRule.nd
    have hr4 : Room 4 _ := hr.mono (by decide)
    have hr3 : Room 3 _ := hr.mono (by decide)
    refine ⟨_, pss_cons (ps_set (i := 4) nd rfl (Or.inl rfl) (pe_methF (E := E) (pv 0) T.cl GI hr4 (passes_call (takes_of rfl rfl rfl rfl) fun _ _ _ _ h => h) (pa_cons (pv 1) pa_nil)))
      (pss_cons (ps_set (i := 5) nd rfl (Or.inl rfl) (pe_callF (E := E) GR hr (passes_call (takes_of rfl rfl rfl rfl) fun _ _ _ _ h => h) (pa_cons (pv 2) (pa_cons (pv 3) pa_nil))))
      (pss_cons (ps_if (pt_cmpR op_eq (pe_callB call_len_seq (by rfl) T.b.len PySem.boot_len (pa_cons (pv 4) pa_nil)) (pe_glob (v := .int 3) (by rfl) mM ⟨_, rfl⟩) (nomark _)) (pss_one (ps_raiseB R rfl hr3 (takes_of rfl rfl rfl rfl) (by rfl))) pss_nil)
      (pss_cons (ps_expr (pe_bm PySem.F.plainAttrs_list PySem.F.slot_list_append PySem.F.type_list_append mt_append (pv 4) (pa_cons (pv 5) pa_nil)))
      (pss_one (ps_ret (pe_lst (pa_cons (pe_op op_sub (pe_callB call_len_seq (by rfl) T.b.len PySem.boot_len (pa_cons (pv 4) pa_nil)) pe_int) pa_nil))))))), ?_⟩
    obtain ⟨a, D, X, k, p, q, h, b, d, rfl, ⟨dx, lb, l0, l1, ras0, ras1, G, rfl, dk⟩, ho, hp, hq, lp, lq, kP, kN, kk⟩ := h
    refine ⟨_, rfl, a, dx, _, rfl, dk.ha, rfl, _, rfl, a, dx, lb, l0, l1, k, rfl, dk.ha, dk.hb, kP, fun c => ?_⟩
    refine ⟨_, rfl, _, rfl, p, q, b, d, rfl, hp, hq, lp, lq, kN c, fun r er H1 ra s1 hR => ?_⟩
    obtain ⟨kB, kQ⟩ := kk r c er
    obtain ⟨G', dk1, sGG, gR⟩ := desk_grow dk s1
    obtain ⟨_, _, hbk⟩ := dk1.book ho k
    obtain ⟨hl, hpr, h3, hok⟩ := hbk c
    have lras : (if k = 0 then ras0 else ras1).length = (h.get k).length := Paired.length hpr
    refine ⟨_, rfl, pick k l0 l1, _, rfl, .inl (SqL.of hl), rfl, _, rfl, ?_⟩
    rw [List.length_map, lras]
    by_cases c3 : (h.get k).length = 3
    · refine ifT (decide_eq_true (by rw [c3]; rfl)) fun dd hd => ?_
      exact kB c3 _ dd (s1.trans (same_upd (Same.refl _) hd)) (s1.free hd) upd_same
    · refine ifF (decide_eq_false fun z => c3 (by
        have : ((h.get k).length : Int) = 3 := V.int.inj z
        omega)) ?_
      refine ⟨_, rfl, .inl ⟨rfl, _, SqL.of hl⟩, _, rfl, pick k l0 l1, _, _, rfl, rfl, hl, by rw [List.length_map]; exact big_lt (by omega), ?_⟩
      have pr2 : Paired (RuleAt CR G') ((if k = 0 then ras0 else ras1) ++ [ra]) (h.get k ++ [r]) := Paired.snoc (pick_get h dk1.r0 dk1.r1) (gR ra r hR)
      have dk2 := desk_put dk1 k pr2
      rw [show ((if k = 0 then ras0 else ras1) ++ [ra]).map V.ref = (if k = 0 then ras0 else ras1).map V.ref ++ [.ref ra] by rw [List.map_append]; rfl] at dk2
      have hl2 : upd H1 (pick k l0 l1) (.lst ((if k = 0 then ras0 else ras1).map V.ref ++ [.ref ra])) (pick k l0 l1) = some (.lst ((if k = 0 then ras0 else ras1).map V.ref ++ [.ref ra])) := upd_same
      have fr : Fr [a, lb, l0, l1] H (upd H1 (pick k l0 l1) (.lst ((if k = 0 then ras0 else ras1).map V.ref ++ [.ref ra]))) := fun b o e n => by
        have nb : b ≠ pick k l0 l1 := fun z => n (by rw [z]; exact pick_mem k l0 l1 a lb)
        rw [upd_ne nb]; exact s1 _ _ e
      have fre : ∀ {b}, upd H1 (pick k l0 l1) (.lst ((if k = 0 then ras0 else ras1).map V.ref ++ [.ref ra])) b = none → H b = none := fun {b} e => by
        refine s1.free ?_
        by_cases z : b = pick k l0 l1
        · subst z; rw [upd_same] at e; cases e
        · rw [upd_ne z] at e; exact e
      generalize upd H1 (pick k l0 l1) (.lst ((if k = 0 then ras0 else ras1).map V.ref ++ [.ref ra])) = H2 at dk2 hl2 fr fre ⊢
      refine ⟨_, rfl, pick k l0 l1, _, rfl, .inl (SqL.of hl2), _, _, rfl, rfl, by show 1 ≤ sizeLine; decide, fun pn hpn => ?_⟩
      have s3 : Same H2 (upd H2 pn (.lst [nI (h.get k).length])) := same_upd (Same.refl _) hpn
      have en : (((if k = 0 then ras0 else ras1).map V.ref ++ [V.ref ra]).length : Int) - 1 = ((h.get k).length : Int) := by
        rw [List.length_append, List.length_map, lras, List.length_singleton]; omega
      show Q (V.ref pn) (upd H2 pn (.lst [V.int ((((if k = 0 then ras0 else ras1).map V.ref ++ [V.ref ra]).length : Int) - 1)]))
      rw [en]
      exact kQ c3 _ [a, lb, l0, l1] pn ⟨dx, lb, l0, l1, _, _, G', rfl, dk2.same s3⟩ (fun b hb => .inl hb) (fun b o e n => s3 _ _ (fr _ _ e n)) (fre hpn) (dk2.noNew hpn) (by rw [upd_same]; rfl)
theorem ok_kdrop {f : Addr} {fd : FuncData} (F : Fun K "drop" "Desk.drop" sKDrop f fd) (T : KTxt K mg CD) (R : RzB P w K mg base "NoSuchPlace" CP (-2)) (GI : MeB P w K mg base (L2.CX P w) CD "rules_in" ["self", "book"] 4 (spKIn CD CP)) :
    FnOk P w K mg base (L2.CX P w) 5 f fd ["self", "book", "index"] (spKDrop CD CP CR) := by
  refine F.okX scKDrop (fun vs H Q E h => ?_) (fun cdv A outer s H vs Q E hr h => ?_)
  · obtain ⟨a, D, X, k, i, h, rfl, _⟩ := h
    rfl
  · have nd := scKDrop.nd
    have hr3 : Room 3 _ := hr.mono (by decide)
    refine ⟨_, pss_cons (ps_set (i := 3) nd rfl (Or.inl rfl) (pe_methF (E := E) (pv 0) T.cl GI hr (passes_call (takes_of rfl rfl rfl rfl) fun _ _ _ _ h => h) (pa_cons (pv 1) pa_nil)))
      (pss_cons (ps_if (pt_cmpR op_ge (pv 2) (pe_callB call_len_seq (by rfl) T.b.len PySem.boot_len (pa_cons (pv 3) pa_nil)) (nomark _)) (pss_one (ps_raiseB R rfl hr3 (takes_of rfl rfl rfl rfl) (by rfl))) pss_nil)
      (pss_cons (ps_expr (pe_bm PySem.F.plainAttrs_list PySem.F.slot_list_pop PySem.F.type_list_pop mt_popAt (pv 3) (pa_cons (pv 2) pa_nil)))
      (pss_one (ps_ret (pe_lst (pa_cons (pe_callB call_len_seq (by rfl) T.b.len PySem.boot_len (pa_cons (pv 3) pa_nil)) pa_nil)))))), ?_⟩
    obtain ⟨a, D, X, k, i, h, rfl, hi, ⟨dx, lb, l0, l1, ras0, ras1, G, rfl, dk⟩, ho, kP, kk⟩ := h
    refine ⟨_, rfl, a, dx, _, rfl, dk.ha, rfl, _, rfl, a, dx, lb, l0, l1, k, rfl, dk.ha, dk.hb, fun c => kP (.inl c), fun c => ?_⟩
    obtain ⟨_, _, hbk⟩ := dk.book ho k
    obtain ⟨hl, hpr, h3, hok⟩ := hbk c
    have lras : (if k = 0 then ras0 else ras1).length = (h.get k).length := Paired.length hpr
    refine ⟨_, rfl, _, rfl, pick k l0 l1, _, rfl, .inl (SqL.of hl), _, _, rfl, rfl, _, rfl, ?_⟩
    rw [List.length_map, lras]
    by_cases c3 : (h.get k).length ≤ i
    · refine ifT (decide_eq_true (by omega)) fun dd hd => ?_
      exact kP (.inr c3) _ dd (same_upd (Same.refl _) hd) hd upd_same
    · refine ifF (decide_eq_false (by omega)) ?_
      have kQ := kk (by omega)
      have hil : i < ((if k = 0 then ras0 else ras1).map V.ref).length := by rw [List.length_map, lras]; omega
      refine ⟨_, rfl, .inl ⟨rfl, _, SqL.of hl⟩, _, rfl, pick k l0 l1, _, (i : Int), i, _, rfl, rfl, hl, by omega, by omega, seqIndex_of (k := (i : Int)) (by omega) (by omega), List.getElem?_eq_getElem hil, ?_⟩
      have pr2 : Paired (RuleAt CR G) ((if k = 0 then ras0 else ras1).eraseIdx i) (Dx06.others (h.get k) i) := by
        unfold Dx06.others
        rw [others_eq]
        exact paired_erase i (pick_get h dk.r0 dk.r1)
      have dk2 := desk_put dk k pr2
      have eer : ((if k = 0 then ras0 else ras1).map V.ref).eraseIdx i = ((if k = 0 then ras0 else ras1).eraseIdx i).map V.ref := map_erase V.ref _ i
      rw [eer]
      have hl2 : upd H (pick k l0 l1) (.lst (((if k = 0 then ras0 else ras1).eraseIdx i).map V.ref)) (pick k l0 l1) = some (.lst (((if k = 0 then ras0 else ras1).eraseIdx i).map V.ref)) := upd_same
      have fr : Fr [a, lb, l0, l1] H (upd H (pick k l0 l1) (.lst (((if k = 0 then ras0 else ras1).eraseIdx i).map V.ref))) := fun b o e n => by
        have nb : b ≠ pick k l0 l1 := fun z => n (by rw [z]; exact pick_mem k l0 l1 a lb)
        rw [upd_ne nb]; exact e
      have fre : ∀ {b}, upd H (pick k l0 l1) (.lst (((if k = 0 then ras0 else ras1).eraseIdx i).map V.ref)) b = none → H b = none := fun {b} e => by
        by_cases z : b = pick k l0 l1
        · subst z; rw [upd_same] at e; cases e
        · rw [upd_ne z] at e; exact e
      generalize upd H (pick k l0 l1) (.lst (((if k = 0 then ras0 else ras1).eraseIdx i).map V.ref)) = H2 at dk2 hl2 fr fre ⊢
      refine ⟨_, rfl, pick k l0 l1, _, rfl, .inl (SqL.of hl2), by show 1 ≤ sizeLine; decide, fun pn hpn => ?_⟩
      have s3 : Same H2 (upd H2 pn (.lst [nI ((h.get k).length - 1)])) := same_upd (Same.refl _) hpn
      have en : (((((if k = 0 then ras0 else ras1).eraseIdx i).map V.ref).length : Nat) : Int) = (((h.get k).length - 1 : Nat) : Int) := by
        rw [List.length_map, List.length_eraseIdx, lras, if_pos (by omega)]
      show Q (V.ref pn) (upd H2 pn (.lst [V.int ((((if k = 0 then ras0 else ras1).eraseIdx i).map V.ref).length : Int)]))
      rw [en]
      exact kQ _ [a, lb, l0, l1] pn ⟨dx, lb, l0, l1, _, _, G, rfl, dk2.same s3⟩ (fun b hb => .inl hb) (fun b o e n => s3 _ _ (fr _ _ e n)) (fre hpn) (dk2.noNew hpn) (by rw [upd_same]; rfl)
end
end Rb

/-! ## K7 -/
set_option Elab.async false
set_option linter.all false
set_option maxRecDepth 100000
set_option maxHeartbeats 4000000
/-! K7: spare, within, same. -/
namespace Rb
open PySem PySem.Spec PyProof.Rows L2
open Dx (Fact Facts Atom Fill)
def nKSp : List Str := ["self", "book", "indexes"]
def nKWi : List Str := ["self", "book", "rules", "indexes"]
def nKSa : List Str := ["self", "first", "second"]
theorem scKSp : FnScope nKSp ["self", "book"] (defScope sKSpare) := ⟨rfl, rfl, rfl, by decide +kernel, rfl, by decide +kernel, by decide +kernel⟩
theorem scKWi : FnScope nKWi ["self", "book"] (defScope sKWithin) := ⟨rfl, rfl, rfl, by decide +kernel, rfl, by decide +kernel, by decide +kernel⟩
theorem scKSa : FnScope nKSa ["self"] (defScope sKSame) := ⟨rfl, rfl, rfl, by decide +kernel, rfl, by decide +kernel, by decide +kernel⟩
/-- what a question to the book k is asked with: book k holds rs, the other one qs -/
def spKSp (CD CP CC CR : Addr) : Sp := fun vs H Q E => ∃ (a dx lb l0 l1 : Addr) (k : Nat) (ras : List Addr) (rs : List Dx.Rule), vs = [.ref a, nI k] ∧ BookIs CD CR H a dx lb l0 l1 k ras rs ∧
  (1 < k → Refuses E H CP (-2)) ∧ (¬ 1 < k → Dx05.ends rs = false → Refuses E H CC (-6)) ∧ (¬ 1 < k → Dx05.ends rs = true → (∀ i r, rs[i]? = some r → Dx06.ended 100 (Dx06.others rs i) r = true) ∧
    ∀ (H' : Hp) (p : Addr), Same H H' → H p = none → H' p = some (.lst (nI ((List.range rs.length).filter (spareAt rs)).length :: ((List.range rs.length).filter (spareAt rs)).map nI)) → Q (.ref p) H')
def spKWi (CD CP CC CR : Addr) : Sp := fun vs H Q E => ∃ (a dx lb l0 l1 : Addr) (k : Nat) (ras qas : List Addr) (rs qs : List Dx.Rule), vs = [.ref a, nI k] ∧ BookIs CD CR H a dx lb l0 l1 k ras rs ∧ BookIs CD CR H a dx lb l0 l1 (1 - k) qas qs ∧
  (1 < k → Refuses E H CP (-2)) ∧ (¬ 1 < k → Dx05.ends rs = false → Refuses E H CC (-6)) ∧ (¬ 1 < k → Dx05.ends rs = true → (∀ q ∈ qs, Dx06.ended 100 rs q = true) ∧
    ∀ (H' : Hp) (p : Addr), Same H H' → H p = none → H' p = some (.lst (nI ((List.range qs.length).filter (strayAt qs rs)).length :: ((List.range qs.length).filter (strayAt qs rs)).map nI)) → Q (.ref p) H')
def spKSa (CD CC CR : Addr) : Sp := fun vs H Q E => ∃ (a dx lb l0 l1 : Addr) (ras qas : List Addr) (rs qs : List Dx.Rule), vs = [.ref a] ∧ BookIs CD CR H a dx lb l0 l1 0 ras rs ∧ BookIs CD CR H a dx lb l0 l1 1 qas qs ∧
  (Dx05.ends rs = false ∨ Dx05.ends qs = false → Refuses E H CC (-6)) ∧ (Dx05.ends rs = true → Dx05.ends qs = true → (∀ q ∈ qs, Dx06.ended 100 rs q = true) ∧ (∀ q ∈ rs, Dx06.ended 100 qs q = true) ∧
    ∀ (H' : Hp) (p : Addr), Same H H' → H p = none → H' p = some (.lst [nI (Dx06.flag (qs.all (Dx06.follows rs) && rs.all (Dx06.follows qs)))]) → Q (.ref p) H')
theorem range_all (qs rs : List Dx.Rule) : (!((List.range qs.length).filter (strayAt qs rs)).isEmpty) = !qs.all (Dx06.follows rs) := by
  congr 1
  cases e : qs.all (Dx06.follows rs) with
  | true =>
    rw [List.isEmpty_iff, List.filter_eq_nil_iff]
    intro i hi
    have hil : i < qs.length := List.mem_range.mp hi
    have hq : qs[i]? = some qs[i] := List.getElem?_eq_getElem hil
    rw [strayAt_of hq, List.all_eq_true.mp e _ (List.getElem_mem hil)]
    exact Bool.false_ne_true
  | false =>
    cases c : ((List.range qs.length).filter (strayAt qs rs)).isEmpty with
    | false => rfl
    | true =>
      exfalso
      rw [List.isEmpty_iff, List.filter_eq_nil_iff] at c
      have : qs.all (Dx06.follows rs) = true := by
        rw [List.all_eq_true]
        intro q hq
        obtain ⟨i, hil, rfl⟩ := List.getElem_of_mem hq
        have z := c i (List.mem_range.mpr hil)
        rw [strayAt_of (List.getElem?_eq_getElem hil)] at z
        simpa using z
      rw [this] at e; cases e
theorem map_empty {l : List Nat} : (l.map nI).isEmpty = l.isEmpty := by cases l <;> rfl
section
variable {P : Program} {w : World} {K : PySem.W.Frag} {mg : Str → Option Value} {base : Heap} {CD CN CP CC CR CF : Addr}
theorem ok_ksp {f : Addr} {fd : FuncData} (F : Fun K "spare" "Desk.spare" sKSpare f fd) (T : KTxt K mg CD) (GU : MeB P w K mg base (L2.CX P w) CD "usable_rules_in" ["self", "book"] 5 (spKUse CD CP CC CR))
    (GS : FnB P w K mg base CX0 "spare_ones" ["rules"] 10 (spSpO CR)) : FnOk P w K mg base (L2.CX P w) 11 f fd ["self", "book"] (spKSp CD CP CC CR) := by
  refine F.okX scKSp (fun vs H Q E h => ?_) (fun cdv A outer s H vs Q E hr h => ?_)
  · obtain ⟨a, dx, lb, l0, l1, k, ras, rs, rfl, _⟩ := h
    rfl
  · have nd : nKSp.Nodup := scKSp.nd
    have hr5 : Room 5 _ := hr.mono (by decide)
    refine ⟨_, pss_cons (ps_set (i := 2) nd rfl (Or.inl rfl) (pe_callF GS hr pass0 (pa_cons (pe_methF (E := E) (pv 0) T.cl GU hr5 (passes_call (takes_of rfl rfl rfl rfl) fun _ _ _ _ h => h) (pa_cons (pv 1) pa_nil)) pa_nil)))
      (pss_one (ps_ret (pe_op op_cat (pe_lst (pa_cons (pe_callB call_len_seq (by rfl) T.b.len PySem.boot_len (pa_cons (pv 2) pa_nil)) pa_nil)) (pv 2)))), ?_⟩
    obtain ⟨a, dx, lb, l0, l1, k, ras, rs, rfl, hB, k1, k2, k3⟩ := h
    obtain ⟨hb1, hb2, hb3⟩ := hB
    refine ⟨_, rfl, a, dx, _, rfl, hb1, rfl, _, rfl, a, dx, lb, l0, l1, k, ras, rs, rfl, hb1, hb2, hb3, k1, k2, fun c e H1 s1 => ?_⟩
    obtain ⟨hend, good⟩ := k3 c e
    obtain ⟨hl, hpr, h3, hok⟩ := (show BookIs CD CR H a dx lb l0 l1 k ras rs from ⟨hb1, hb2, hb3⟩).same s1 |>.2.2 c
    refine ⟨pick k l0 l1, ras, rs, rfl, hl, hpr, hok, by omega, hend, fun H2 p s2 np hp => ?_⟩
    have lle := range_filter_len (spareAt rs) rs.length
    generalize (List.range rs.length).filter (spareAt rs) = L at hp lle good
    have s02 := s1.trans s2
    refine ⟨_, rfl, p, _, rfl, .inl (SqL.of hp), by show 1 ≤ sizeLine; decide, fun q hq => ?_⟩
    rw [List.length_map]
    have s3 : Same H2 (upd H2 q (.lst [nI L.length])) := same_upd (Same.refl _) hq
    have hq3 : upd H2 q (.lst [nI L.length]) q = some (.lst [nI L.length]) := upd_same
    show ∃ v, _ ∧ rCat _ v (upd H2 q (.lst [nI L.length])) _
    generalize upd H2 q (.lst [nI L.length]) = H3 at s3 hq3 ⊢
    have s03 := s02.trans s3
    refine ⟨_, rfl, q, p, _, _, rfl, rfl, hq3, s3 _ _ hp, by rw [List.length_map, List.length_singleton, sizeLine_eq]; omega, fun t ht => ?_⟩
    exact good _ t (s03.trans (same_upd (Same.refl _) ht)) (s03.free ht) (by rw [upd_same]; rfl)
theorem ok_kwi {f : Addr} {fd : FuncData} (F : Fun K "within" "Desk.within" sKWithin f fd) (T : KTxt K mg CD) (GU : MeB P w K mg base (L2.CX P w) CD "usable_rules_in" ["self", "book"] 5 (spKUse CD CP CC CR))
    (GS : FnB P w K mg base CX0 "strays" ["asked", "rules"] 9 (spStr CR)) : FnOk P w K mg base (L2.CX P w) 10 f fd ["self", "book"] (spKWi CD CP CC CR) := by
  refine F.okX scKWi (fun vs H Q E h => ?_) (fun cdv A outer s H vs Q E hr h => ?_)
  · obtain ⟨a, dx, lb, l0, l1, k, ras, qas, rs, qs, rfl, _⟩ := h
    rfl
  · have nd : nKWi.Nodup := scKWi.nd
    have hr5 : Room 5 _ := hr.mono (by decide)
    refine ⟨_, pss_cons (ps_set (i := 2) nd rfl (Or.inl rfl) (pe_methF (E := E) (pv 0) T.cl GU hr5 (passes_call (takes_of rfl rfl rfl rfl) fun _ _ _ _ h => h) (pa_cons (pv 1) pa_nil)))
      (pss_cons (ps_set (i := 3) nd rfl (Or.inl rfl) (pe_callF GS hr pass0 (pa_cons (pe_ix ix_list (pe_fld (pv 0) rfl) (pe_op op_sub pe_int (pv 1)) (fun _ _ => rfl)) (pa_cons (pv 2) pa_nil))))
      (pss_one (ps_ret (pe_op op_cat (pe_lst (pa_cons (pe_callB call_len_seq (by rfl) T.b.len PySem.boot_len (pa_cons (pv 3) pa_nil)) pa_nil)) (pv 3))))), ?_⟩
    obtain ⟨a, dx, lb, l0, l1, k, ras, qas, rs, qs, rfl, hB, hB2, k1, k2, k3⟩ := h
    obtain ⟨hb1, hb2, hb3⟩ := hB
    refine ⟨_, rfl, a, dx, _, rfl, hb1, rfl, _, rfl, a, dx, lb, l0, l1, k, ras, rs, rfl, hb1, hb2, hb3, k1, k2, fun c e H1 s1 => ?_⟩
    obtain ⟨hend, good⟩ := k3 c e
    obtain ⟨hl, hpr, h3, hok⟩ := (show BookIs CD CR H a dx lb l0 l1 k ras rs from ⟨hb1, hb2, hb3⟩).same s1 |>.2.2 c
    obtain ⟨hl2, hpr2, h32, hok2⟩ := (hB2.same s1).2.2 (by omega)
    have ei : (1 : Int) - (k : Int) = ((1 - k : Nat) : Int) := by omega
    have em : [V.ref l0, V.ref l1][1 - k]? = some (.ref (pick (1 - k) l0 l1)) := by
      have : k = 0 ∨ k = 1 := by omega
      rcases this with rfl | rfl <;> rfl
    refine ⟨_, rfl, a, CD, dx, _, _, rfl, s1 _ _ hb1, T.cl, T.nB, kF_books lb, _, rfl, _, _, rfl, rfl, lb, _, _, _, rfl, rfl, SqL.of (s1 _ _ hb2), by rw [ei]; exact atI_nat em, _, rfl, ?_⟩
    refine ⟨pick (1 - k) l0 l1, pick k l0 l1, qas, ras, qs, rs, rfl, hl2, hpr2, hok2, by omega, hl, hpr, hok, by omega, hend, fun H2 p s2 np hp => ?_⟩
    have lle := range_filter_len (strayAt qs rs) qs.length
    generalize (List.range qs.length).filter (strayAt qs rs) = L at hp lle good
    have s02 := s1.trans s2
    refine ⟨_, rfl, p, _, rfl, .inl (SqL.of hp), by show 1 ≤ sizeLine; decide, fun q hq => ?_⟩
    rw [List.length_map]
    have s3 : Same H2 (upd H2 q (.lst [nI L.length])) := same_upd (Same.refl _) hq
    have hq3 : upd H2 q (.lst [nI L.length]) q = some (.lst [nI L.length]) := upd_same
    show ∃ v, _ ∧ rCat _ v (upd H2 q (.lst [nI L.length])) _
    generalize upd H2 q (.lst [nI L.length]) = H3 at s3 hq3 ⊢
    have s03 := s02.trans s3
    refine ⟨_, rfl, q, p, _, _, rfl, rfl, hq3, s3 _ _ hp, by rw [List.length_map, List.length_singleton, sizeLine_eq]; omega, fun t ht => ?_⟩
    exact good _ t (s03.trans (same_upd (Same.refl _) ht)) (s03.free ht) (by rw [upd_same]; rfl)
theorem ok_ksa {f : Addr} {fd : FuncData} (F : Fun K "same" "Desk.same" sKSame f fd) (T : KTxt K mg CD) (GU : MeB P w K mg base (L2.CX P w) CD "usable_rules_in" ["self", "book"] 5 (spKUse CD CP CC CR))
    (GS : FnB P w K mg base CX0 "strays" ["asked", "rules"] 9 (spStr CR)) : FnOk P w K mg base (L2.CX P w) 10 f fd ["self"] (spKSa CD CC CR) := by
  refine F.okX scKSa (fun vs H Q E h => ?_) (fun cdv A outer s H vs Q E hr h => ?_)
  · obtain ⟨a, dx, lb, l0, l1, ras, qas, rs, qs, rfl, _⟩ := h
    rfl
  · have nd : nKSa.Nodup := scKSa.nd
    have hr5 : Room 5 _ := hr.mono (by decide)
    refine ⟨_, pss_cons (ps_set (i := 1) nd rfl (Or.inl rfl) (pe_methF (E := E) (pv 0) T.cl GU hr5 (passes_call (takes_of rfl rfl rfl rfl) fun _ _ _ _ h => h) (pa_cons pe_int pa_nil)))
      (pss_cons (ps_set (i := 2) nd rfl (Or.inl rfl) (pe_methF (E := E) (pv 0) T.cl GU hr5 (passes_call (takes_of rfl rfl rfl rfl) fun _ _ _ _ h => h) (pa_cons pe_int pa_nil)))
      (pss_one (ps_ret (pe_lst (pa_cons (pe_ifExp (PW.pt (pw_or (pt_truth (pe_callF GS hr pass0 (pa_cons (pv 1) (pa_cons (pv 2) pa_nil))) (fun _ => rfl)) (pw_or1 (pt_truth (pe_callF GS hr pass0 (pa_cons (pv 2) (pa_cons (pv 1) pa_nil))) (fun _ => rfl))))) pe_int pe_int) pa_nil))))), ?_⟩
    obtain ⟨a, dx, lb, l0, l1, ras, qas, rs, qs, rfl, hB, hB2, k2, k3⟩ := h
    refine ⟨_, rfl, a, dx, _, rfl, hB.1, rfl, a, dx, lb, l0, l1, 0, ras, rs, rfl, hB.1, hB.2.1, hB.2.2, fun c => absurd c (by decide), fun _ e => k2 (.inl e), fun _ e H1 s1 => ?_⟩
    have hA1 := hB.same s1
    have hA2 := hB2.same s1
    refine ⟨_, rfl, a, dx, _, rfl, hA1.1, rfl, a, dx, lb, l0, l1, 1, qas, qs, rfl, hA2.1, hA2.2.1, hA2.2.2, fun c => absurd c (by decide), fun _ e => (k2 (.inr e)).same s1, fun _ e2 H2 s2 => ?_⟩
    obtain ⟨hend1, hend2, good⟩ := k3 e e2
    have s02 := s1.trans s2
    obtain ⟨hl, hpr, h3, hok⟩ := (hA1.same s2).2.2 (by decide)
    obtain ⟨hl2, hpr2, h32, hok2⟩ := (hA2.same s2).2.2 (by decide)
    refine ⟨_, rfl, _, rfl, pick 0 l0 l1, pick 1 l0 l1, ras, qas, rs, qs, rfl, hl, hpr, hok, by omega, hl2, hpr2, hok2, by omega, hend2, fun H3 p s3 np hp => ?_⟩
    have s03 := s02.trans s3
    have fin : ∀ (H4 : Hp) (b : Bool) (z : Nat), Same H H4 → z = Dx06.flag (qs.all (Dx06.follows rs) && rs.all (Dx06.follows qs)) → ∀ t, H4 t = none → Q (.ref t) (upd H4 t (.lst [nI z])) := fun H4 b z s4 ez t ht =>
      good _ t (s4.trans (same_upd (Same.refl _) ht)) (s4.free ht) (by rw [upd_same, ez])
    refine ⟨_, .inl ⟨_, SqL.of hp, rfl⟩, ?_⟩
    rw [map_empty, range_all]
    cases e3 : rs.all (Dx06.follows qs) with
    | false =>
      refine ifT rfl (ifT rfl ⟨by show 1 ≤ sizeLine; decide, fun t ht => ?_⟩)
      exact fin H3 true 0 s03 (by rw [e3, Bool.and_false]; rfl) t ht
    | true =>
      refine ifF rfl ?_
      refine ⟨_, rfl, _, rfl, pick 1 l0 l1, pick 0 l0 l1, qas, ras, qs, rs, rfl, s3 _ _ hl2, Paired.mapP hpr2 fun _ _ z => z.same s3, hok2, by omega, s3 _ _ hl, Paired.mapP hpr fun _ _ z => z.same s3, hok, by omega, hend1, fun H4 p4 s4 np4 hp4 => ?_⟩
      refine ⟨_, .inl ⟨_, SqL.of hp4, rfl⟩, ?_⟩
      rw [map_empty, range_all]
      cases e4 : qs.all (Dx06.follows rs) with
      | false =>
        refine ifT rfl ⟨by show 1 ≤ sizeLine; decide, fun t ht => ?_⟩
        exact fin H4 true 0 (s03.trans s4) (by rw [e4, e3]; rfl) t ht
      | true =>
        refine ifF rfl ⟨by show 1 ≤ sizeLine; decide, fun t ht => ?_⟩
        exact fin H4 true 1 (s03.trans s4) (by rw [e4, e3]; rfl) t ht
end
end Rb

/-! ## K8 -/
set_option Elab.async false
set_option linter.all false
set_option maxRecDepth 100000
set_option maxHeartbeats 4000000
/-! K8: thin. -/
namespace Rb
open PySem PySem.Spec PyProof.Rows L2
open Dx (Fact Facts Atom Fill)
theorem scKTh : FnScope ["self", "book"] ["self", "book"] (defScope sKThin) := ⟨rfl, rfl, rfl, by decide +kernel, rfl, by decide +kernel, by decide +kernel⟩
def spKTh (CD CP CC CR : Addr) : Sp := fun vs H Q E => ∃ (a : Addr) (D X : List Addr) (k : Nat) (h : Dx06.House), vs = [.ref a, nI k] ∧ DeskAt CD CR H a D X h ∧ HouseOk h ∧
  (1 < k → Refuses E H CP (-2)) ∧ (¬ 1 < k → Dx05.ends (h.get k) = false → Refuses E H CC (-6)) ∧ (¬ 1 < k → Dx05.ends (h.get k) = true → Dx06.endedThin 100 (h.get k).length (h.get k) = true ∧
    Turns CD CR H Q a D X (h.set k (Dx06.thin (h.get k).length (h.get k))) [(Dx06.thin (h.get k).length (h.get k)).length])
/-- the desk with another list for the book k: the same list, or a new one -/
theorem desk_swap {CD CR : Addr} {H H1 : Hp} {a dx lb l0 l1 p : Addr} {ras0 ras1 : List Addr} {G : Hp} {X : List Addr} {h : Dx06.House} (d : DeskIs CD CR H a dx lb l0 l1 ras0 ras1 G X h) (s : Same H H1) {k : Nat} (c : ¬ 1 < k) (np : p = pick k l0 l1 ∨ H p = none)
    {ras : List Addr} {rs : List Dx.Rule} (hp : H1 p = some (.lst (ras.map V.ref))) (r : Paired (RuleAt CR G) ras rs) :
    DeskIs CD CR (upd H1 lb (.lst ([V.ref l0, V.ref l1].set k (.ref p)))) a dx lb (if k = 0 then p else l0) (if k = 0 then l1 else p) (if k = 0 then ras else ras0) (if k = 0 then ras1 else ras) G X (h.set k rs) := by
  have d1 := d.same s
  have nal : a ≠ lb := ne_of d.ha d.hb (fun z => nomatch z)
  have np' : p = pick k l0 l1 ∨ (p ≠ lb ∧ p ≠ l0 ∧ p ≠ l1 ∧ p ≠ a ∧ G p = none ∧ ∀ b ∈ X, b ≠ p) := by
    rcases np with z | z
    · exact .inl z
    · refine .inr ⟨fun q => ?_, fun q => ?_, fun q => ?_, fun q => ?_, d.sG.free z, fun b hb q => ?_⟩
      · rw [q, d.hb] at z; cases z
      · rw [q, d.h0] at z; cases z
      · rw [q, d.h1] at z; cases z
      · rw [q, d.ha] at z; cases z
      · obtain ⟨_, _, xs, x3⟩ := d.gX b hb
        rw [q, z] at x3; cases x3
  have gl : G lb = none := d.gD lb (by simp)
  have sg : Same G (upd H1 lb (.lst ([V.ref l0, V.ref l1].set k (.ref p)))) := fun b o e => by rw [upd_ne (ne_of_none e gl)]; exact d1.sG _ _ e
  have hX : ∀ b ∈ X, ∃ xs, upd H1 lb (.lst ([V.ref l0, V.ref l1].set k (.ref p))) b = some (.lst xs) := fun b hb => by
    obtain ⟨x1, x2, xs, x3⟩ := d1.gX b hb
    exact ⟨xs, by rw [upd_ne (fun z => x2 (by simp [z]))]; exact x3⟩
  unfold Dx06.House.set
  have hk : k = 0 ∨ k = 1 := by omega
  rcases hk with rfl | rfl
  · rw [if_pos rfl, if_pos rfl, if_pos rfl, if_pos rfl, if_pos rfl]
    rcases np' with z | ⟨n1, n2, n3, n4, n5, n6⟩
    · have z' : p = l0 := z
      subst z'
      exact ⟨by rw [upd_ne nal]; exact d1.ha, by rw [upd_same]; rfl, by rw [upd_ne d.nb0.symm]; exact hp, by rw [upd_ne d.nb1.symm]; exact d1.h1, d.n01, d.nb0, d.nb1, sg, d.gD, fun b hb => ⟨(d.gX b hb).1, (d.gX b hb).2.1, hX b hb⟩, r, d.r1⟩
    · refine ⟨by rw [upd_ne nal]; exact d1.ha, by rw [upd_same]; rfl, by rw [upd_ne n1]; exact hp, by rw [upd_ne d.nb1.symm]; exact d1.h1, n3, n1.symm, d.nb1, sg, fun b hb => ?_, fun b hb => ⟨(d.gX b hb).1, fun m => ?_, hX b hb⟩, r, d.r1⟩
      · have : b = a ∨ b = lb ∨ b = p ∨ b = l1 := by simpa using hb
        rcases this with rfl | rfl | rfl | rfl
        · exact d.gD _ (by simp)
        · exact d.gD _ (by simp)
        · exact n5
        · exact d.gD _ (by simp)
      · have : b = a ∨ b = lb ∨ b = p ∨ b = l1 := by simpa using m
        rcases this with z | z | z | z
        · exact (d.gX b hb).2.1 (by simp [z])
        · exact (d.gX b hb).2.1 (by simp [z])
        · exact n6 b hb z
        · exact (d.gX b hb).2.1 (by simp [z])
  · rw [if_neg (by decide), if_neg (by decide), if_neg (by decide), if_neg (by decide), if_neg (by decide)]
    rcases np' with z | ⟨n1, n2, n3, n4, n5, n6⟩
    · have z' : p = l1 := z
      subst z'
      exact ⟨by rw [upd_ne nal]; exact d1.ha, by rw [upd_same]; rfl, by rw [upd_ne d.nb0.symm]; exact d1.h0, by rw [upd_ne d.nb1.symm]; exact hp, d.n01, d.nb0, d.nb1, sg, d.gD, fun b hb => ⟨(d.gX b hb).1, (d.gX b hb).2.1, hX b hb⟩, d.r0, r⟩
    · refine ⟨by rw [upd_ne nal]; exact d1.ha, by rw [upd_same]; rfl, by rw [upd_ne d.nb0.symm]; exact d1.h0, by rw [upd_ne n1]; exact hp, n2.symm, d.nb0, n1.symm, sg, fun b hb => ?_, fun b hb => ⟨(d.gX b hb).1, fun m => ?_, hX b hb⟩, d.r0, r⟩
      · have : b = a ∨ b = lb ∨ b = l0 ∨ b = p := by simpa using hb
        rcases this with rfl | rfl | rfl | rfl
        · exact d.gD _ (by simp)
        · exact d.gD _ (by simp)
        · exact d.gD _ (by simp)
        · exact n5
      · have : b = a ∨ b = lb ∨ b = l0 ∨ b = p := by simpa using m
        rcases this with z | z | z | z
        · exact (d.gX b hb).2.1 (by simp [z])
        · exact (d.gX b hb).2.1 (by simp [z])
        · exact (d.gX b hb).2.1 (by simp [z])
        · exact n6 b hb z
section
variable {P : Program} {w : World} {K : PySem.W.Frag} {mg : Str → Option Value} {base : Heap} {CD CN CP CC CR CF : Addr}
theorem ok_kth {f : Addr} {fd : FuncData} (F : Fun K "thin" "Desk.thin" sKThin f fd) (T : KTxt K mg CD) (GU : MeB P w K mg base (L2.CX P w) CD "usable_rules_in" ["self", "book"] 5 (spKUse CD CP CC CR))
    (GT : FnB P w K mg base CX0 "thinned" ["rules"] 10 (spThi CR)) : FnOk P w K mg base (L2.CX P w) 11 f fd ["self", "book"] (spKTh CD CP CC CR) := by
  refine F.okX scKTh (fun vs H Q E h => ?_) (fun cdv A outer s H vs Q E hr h => ?_)
  · obtain ⟨a, D, X, k, h, rfl, _⟩ := h
    rfl
  · have nd := scKTh.nd
    have hr5 : Room 5 _ := hr.mono (by decide)
    refine ⟨_, pss_cons (ps_asg (pe_callF GT hr pass0 (pa_cons (pe_methF (E := E) (pv 0) T.cl GU hr5 (passes_call (takes_of rfl rfl rfl rfl) fun _ _ _ _ h => h) (pa_cons (pv 1) pa_nil)) pa_nil)) (pg_sub (pe_fld (pv 0) rfl) (pv 1) set_list))
      (pss_one (ps_ret (pe_lst (pa_cons (pe_callB call_len_seq (by rfl) T.b.len PySem.boot_len (pa_cons (pe_ix ix_list (pe_fld (pv 0) rfl) (pv 1) (fun _ _ => rfl)) pa_nil)) pa_nil)))), ?_⟩
    obtain ⟨a, D, X, k, h, rfl, ⟨dx, lb, l0, l1, ras0, ras1, G, rfl, dk⟩, ho, k1, k2, k3⟩ := h
    have hbk := dk.book ho k
    refine ⟨_, rfl, a, dx, _, rfl, dk.ha, rfl, _, rfl, a, dx, lb, l0, l1, k, _, _, rfl, hbk.1, hbk.2.1, hbk.2.2, k1, k2, fun c e H1 s1 => ?_⟩
    obtain ⟨hend, good⟩ := k3 c e
    obtain ⟨hl, hpr, h3, hok⟩ := (hbk.same s1).2.2 c
    refine ⟨pick k l0 l1, _, _, rfl, hl, hpr, hok, by omega, hend, fun H2 p ras' s2 np hp par => ?_⟩
    have s02 := s1.trans s2
    have prG := par _ (pick_get h dk.r0 dk.r1)
    have np0 : p = pick k l0 l1 ∨ H p = none := by
      rcases np with z | z
      · exact .inl z
      · exact .inr (s1.free z)
    have hk : k = 0 ∨ k = 1 := by omega
    have eix : ixN [V.ref l0, V.ref l1].length (k : Int) = some k := by rcases hk with rfl | rfl <;> rfl
    have dk2 := desk_swap dk s02 c np0 hp prG
    have lth : ras'.length = (Dx06.thin (h.get k).length (h.get k)).length := Paired.length prG
    have npl : p ≠ lb := by
      rcases np0 with z | z
      · rw [z]; unfold pick; split
        · exact dk.nb0.symm
        · exact dk.nb1.symm
      · intro q; rw [q, dk.hb] at z; cases z
    have emk : ([V.ref l0, V.ref l1].set k (.ref p))[k]? = some (.ref p) := by rcases hk with rfl | rfl <;> rfl
    refine ⟨_, rfl, a, CD, dx, _, _, rfl, s02 _ _ dk.ha, T.cl, T.nB, kF_books lb, _, rfl, lb, _, _, k, rfl, rfl, s02 _ _ dk.hb, eix, ?_⟩
    have hb3 : upd H2 lb (.lst ([V.ref l0, V.ref l1].set k (.ref p))) lb = some (.lst ([V.ref l0, V.ref l1].set k (.ref p))) := upd_same
    have hp3 : upd H2 lb (.lst ([V.ref l0, V.ref l1].set k (.ref p))) p = some (.lst (ras'.map V.ref)) := by rw [upd_ne npl]; exact hp
    have fr : Fr [a, lb, l0, l1] H (upd H2 lb (.lst ([V.ref l0, V.ref l1].set k (.ref p)))) := fun b o e n => by
      rw [upd_ne (fun z => n (by simp [z]))]; exact s02 _ _ e
    have fre : ∀ {b}, upd H2 lb (.lst ([V.ref l0, V.ref l1].set k (.ref p))) b = none → H b = none := fun {b} e => by
      by_cases z : b = lb
      · subst z; rw [upd_same] at e; cases e
      · rw [upd_ne z] at e; exact s02.free e
    have ha3 : upd H2 lb (.lst ([V.ref l0, V.ref l1].set k (.ref p))) a = some (.ins CD dx (kF lb)) := dk2.ha
    generalize upd H2 lb (.lst ([V.ref l0, V.ref l1].set k (.ref p))) = H3 at dk2 hb3 hp3 fr fre ha3 ⊢
    refine ⟨_, rfl, a, CD, dx, _, _, rfl, ha3, T.cl, T.nB, kF_books lb, _, rfl, lb, _, _, _, rfl, rfl, SqL.of hb3, atI_nat emk, p, _, rfl, .inl (SqL.of hp3), by show 1 ≤ sizeLine; decide, fun t ht => ?_⟩
    rw [List.length_map, lth]
    have s4 : Same H3 (upd H3 t (.lst [nI (Dx06.thin (h.get k).length (h.get k)).length])) := same_upd (Same.refl _) ht
    refine good _ [a, lb, (if k = 0 then p else l0), (if k = 0 then l1 else p)] t ⟨dx, lb, _, _, _, _, G, rfl, dk2.same s4⟩ (fun b hb => ?_) (fun b o e n => s4 _ _ (fr _ _ e n)) (fre ht) (dk2.noNew ht) (by rw [upd_same]; rfl)
    have hpD : p ∈ [a, lb, l0, l1] ∨ H p = none := by
      rcases np0 with z | z
      · exact .inl (by rw [z]; exact pick_mem k l0 l1 a lb)
      · exact .inr z
    have : b = a ∨ b = lb ∨ b = (if k = 0 then p else l0) ∨ b = (if k = 0 then l1 else p) := by simpa using hb
    rcases this with rfl | rfl | e3 | e3
    · exact .inl (by simp)
    · exact .inl (by simp)
    · split at e3
      · rw [e3]; exact hpD
      · exact .inl (by simp [e3])
    · split at e3
      · exact .inl (by simp [e3])
      · rw [e3]; exact hpD
end
end Rb

/-! ## A1 -/
set_option linter.all false
set_option maxHeartbeats 1000000
/-! A1: a request's calls, by places. -/
namespace Rb
theorem row_at {L : List Int} {b : Nat} {x t : List Int} (h : PyFlat.row (L.drop b) = some (x, t)) : ∃ n : Int, L[b]? = some n ∧ 0 ≤ n ∧ b + 1 + n.toNat ≤ L.length ∧ x = (L.drop (b + 1)).take n.toNat ∧ t = L.drop (b + 1 + n.toNat) := by
  cases e : L.drop b with
  | nil => rw [e] at h; cases h
  | cons n r =>
    rw [e] at h
    have hb : b < L.length := by
      have : (L.drop b).length = r.length + 1 := by rw [e]; rfl
      rw [List.length_drop] at this; omega
    have e2 := List.drop_eq_getElem_cons hb
    rw [e] at e2
    obtain ⟨h1, h2⟩ := List.cons.inj e2
    simp only [PyFlat.row] at h
    split at h
    · rename_i q
      cases h
      have hr : r.length = L.length - (b + 1) := by rw [h2, List.length_drop]
      refine ⟨n, by rw [List.getElem?_eq_getElem hb, h1], q.1, by omega, by rw [h2], by rw [h2, List.drop_drop]⟩
    · cases h
theorem rows_succ {k : Nat} {r : List Int} {ys : List (List Int)} {t : List Int} (h : PyFlat.rows (k + 1) r = some (ys, t)) : ∃ x s zs, PyFlat.row r = some (x, s) ∧ PyFlat.rows k s = some (zs, t) ∧ ys = x :: zs := by
  simp only [PyFlat.rows] at h
  cases e : PyFlat.row r with
  | none => rw [e] at h; cases h
  | some p =>
    obtain ⟨x, s⟩ := p
    rw [e] at h
    dsimp only at h
    cases e2 : PyFlat.rows k s with
    | none => rw [e2] at h; cases h
    | some q =>
      obtain ⟨zs, t'⟩ := q
      rw [e2] at h
      cases h
      exact ⟨x, s, zs, rfl, e2, rfl⟩
theorem call_at {shape : Int → Option (Nat × Nat)} {L : List Int} {a : Nat} {c : List (List Int)} {t : List Int} (h : PyFlat.call shape (L.drop a) = some (c, t)) :
    ∃ (p : Int) (n k : Nat) (ys : List (List Int)), L[a]? = some p ∧ shape p = some (n, k) ∧ a + 1 + n ≤ L.length ∧ PyFlat.rows k (L.drop (a + 1 + n)) = some (ys, t) ∧ c = (p :: (L.drop (a + 1)).take n) :: ys := by
  cases e : L.drop a with
  | nil => rw [e] at h; cases h
  | cons p r =>
    rw [e] at h
    have hb : a < L.length := by
      have : (L.drop a).length = r.length + 1 := by rw [e]; rfl
      rw [List.length_drop] at this; omega
    have e2 := List.drop_eq_getElem_cons hb
    rw [e] at e2
    obtain ⟨h1, h2⟩ := List.cons.inj e2
    simp only [PyFlat.call] at h
    cases es : shape p with
    | none => rw [es] at h; cases h
    | some nk =>
      obtain ⟨n, k⟩ := nk
      rw [es] at h
      dsimp only at h
      split at h
      · cases h
      · rename_i hl
        cases er : PyFlat.rows k (r.drop n) with
        | none => rw [er] at h; cases h
        | some q =>
          obtain ⟨ys, t'⟩ := q
          rw [er] at h
          cases h
          have hr : r.length = L.length - (a + 1) := by rw [h2, List.length_drop]
          refine ⟨p, n, k, ys, by rw [List.getElem?_eq_getElem hb, h1], es, by omega, ?_, by rw [h2]⟩
          rw [h2, List.drop_drop] at er
          exact er
theorem rows_end {k : Nat} : ∀ {k : Nat} {L : List Int} {b : Nat} {ys : List (List Int)} {t : List Int}, PyFlat.rows k (L.drop b) = some (ys, t) → b ≤ L.length → ys.length = k ∧ ∃ b', b ≤ b' ∧ b' ≤ L.length ∧ t = L.drop b'
  | 0, L, b, ys, t, h, hb => by
    cases h
    exact ⟨rfl, b, Nat.le_refl _, hb, rfl⟩
  | k + 1, L, b, ys, t, h, hb => by
    obtain ⟨x, s, zs, h1, h2, rfl⟩ := rows_succ h
    obtain ⟨n, _, _, hle, _, rfl⟩ := row_at h1
    obtain ⟨g1, b', g2, g3, g4⟩ := rows_end (k := k) h2 hle
    exact ⟨by rw [List.length_cons, g1], b', by omega, g3, g4⟩
theorem calls_nil {shape : Int → Option (Nat × Nat)} {f : Nat} {cs : List (List (List Int))} (h : PyFlat.calls shape f [] = some cs) : cs = [] := by
  cases f <;> (cases h; rfl)
theorem calls_cons {shape : Int → Option (Nat × Nat)} {f : Nat} {L : List Int} {a : Nat} {cs : List (List (List Int))} (ha : a < L.length) (h : PyFlat.calls shape f (L.drop a) = some cs) :
    ∃ f' c t cs', f = f' + 1 ∧ PyFlat.call shape (L.drop a) = some (c, t) ∧ PyFlat.calls shape f' t = some cs' ∧ cs = c :: cs' := by
  cases e : L.drop a with
  | nil =>
    have : (L.drop a).length = 0 := by rw [e]; rfl
    rw [List.length_drop] at this; omega
  | cons p r =>
    rw [e] at h
    cases f with
    | zero => cases h
    | succ f =>
      simp only [PyFlat.calls] at h
      cases e1 : PyFlat.call shape (p :: r) with
      | none => rw [e1] at h; cases h
      | some q =>
        obtain ⟨c, t⟩ := q
        rw [e1] at h
        dsimp only at h
        cases e2 : PyFlat.calls shape f t with
        | none => rw [e2] at h; cases h
        | some cs' =>
          rw [e2] at h
          cases h
          exact ⟨f, c, t, cs', rfl, rfl, e2, rfl⟩
end Rb

/-! ## A2 -/
set_option Elab.async false
set_option linter.all false
set_option maxRecDepth 100000
set_option maxHeartbeats 4000000
/-! A2: Call.__init__, read_calls. -/
namespace Rb
open PySem PySem.Spec PyProof.Rows L2
theorem same_del (H : Hp) (p : Addr) : Same (del H p) H := fun b o e => by
  by_cases c : b = p
  · subst c; rw [del_same] at e; cases e
  · rw [del_ne c] at e; exact e
theorem cut_at {L : List Int} {i j : Nat} (h : i ≤ j) (hj : j ≤ L.length) : cutV (L.map V.int) (some (i : Int)) (some (j : Int)) = ((L.drop i).take (j - i)).map V.int := by
  unfold cutV
  rw [HT.sIx_nat, HT.sIx_nat, List.length_map, Nat.min_eq_left (Nat.le_trans h hj), Nat.min_eq_left hj, ← List.map_drop, ← List.map_take]
/-- what is new since H, but p -/
def nw (H : Hp) (p : Addr) (H' : Hp) : Hp := fun b => if b = p ∨ (H b).isSome = true then none else H' b
theorem nw_at {H H' : Hp} {p b : Addr} (n : b ≠ p) (f : H b = none) : nw H p H' b = H' b := by
  unfold nw
  rw [if_neg]
  rintro (z | z)
  · exact n z
  · rw [f] at z; cases z
theorem nw_some {H H' : Hp} {p b : Addr} {o : HO} (e : nw H p H' b = some o) : b ≠ p ∧ H b = none ∧ H' b = some o := by
  unfold nw at e
  split at e
  · cases e
  · rename_i c
    refine ⟨fun z => c (.inl z), ?_, e⟩
    cases h : H b with
    | none => rfl
    | some _ => exact absurd (.inr (by rw [h]; rfl)) c
theorem nw_sub (H H' : Hp) (p : Addr) : Same (nw H p H') H' := fun _ _ e => (nw_some e).2.2
theorem nw_mono {H H1 H2 : Hp} {p : Addr} (k : ∀ b o, H1 b = some o → b ≠ p → H b = none → H2 b = some o) : Same (nw H p H1) (nw H p H2) := fun b o e => by
  obtain ⟨h1, h2, h3⟩ := nw_some e
  rw [nw_at h1 h2]; exact k _ _ h3 h1 h2
abbrev sCall : Stmt := topS 46
abbrev sCallI : Stmt := inClass sCall 0
abbrev sReadC : Stmt := topS 47
theorem scCallI : FnScope ["self", "operation", "numbers", "rows"] ["self", "operation", "numbers", "rows"] (defScope sCallI) := ⟨rfl, rfl, rfl, by decide +kernel, rfl, by decide +kernel, by decide +kernel⟩
def nReadC : List Str := ["calls", "found", "at", "operation", "behind", "numbers", "rows", "start"]
theorem scReadC : FnScope nReadC ["calls"] (defScope sReadC) := ⟨rfl, rfl, rfl, by decide +kernel, rfl, by decide +kernel, by decide +kernel⟩
def lF (p : Int) (ln lr : Addr) : List (Str × V) := [("operation", .int p), ("numbers", .ref ln), ("rows", .ref lr)]
def RowAt (H : Hp) (r : Addr) (x : List Int) : Prop := H r = some (.lst (x.map V.int))
/-- a call that is read -/
def CallAt (CA : Addr) (H : Hp) (q : Addr) (c : List (List Int)) : Prop := ∃ dx ln lr p nums rows rrs, c = (p :: nums) :: rows ∧ H q = some (.ins CA dx (lF p ln lr)) ∧ H ln = some (.lst (nums.map V.int)) ∧ H lr = some (.lst (rrs.map V.ref)) ∧ Paired (RowAt H) rrs rows
theorem CallAt.same {CA : Addr} {H H' : Hp} {q : Addr} {c : List (List Int)} (h : CallAt CA H q c) (s : Same H H') : CallAt CA H' q c := by
  obtain ⟨dx, ln, lr, p, nums, rows, rrs, e, h1, h2, h3, h4⟩ := h
  exact ⟨dx, ln, lr, p, nums, rows, rrs, e, s _ _ h1, s _ _ h2, s _ _ h3, Paired.mapP h4 fun _ _ z => s _ _ z⟩
def numsL : List Int := [0, 1, 2, 1, 1, 1, 1, 1, 0]
def rowsL : List Int := [0, 2, 0, 2, 2, 0, 0, 0, 0]
theorem shape_at {p : Int} {n k : Nat} (h : PyDx06.shape p = some (n, k)) : ∃ j : Nat, p = (j : Int) ∧ numsL[j]? = some (n : Int) ∧ rowsL[j]? = some (k : Int) ∧ k ≤ 2 := by
  unfold PyDx06.shape at h
  repeat (split at h; · (rename_i e; subst e; cases h; first | exact ⟨0, rfl, rfl, rfl, by decide⟩ | exact ⟨1, rfl, rfl, rfl, by decide⟩ | exact ⟨2, rfl, rfl, rfl, by decide⟩ | exact ⟨3, rfl, rfl, rfl, by decide⟩ | exact ⟨4, rfl, rfl, rfl, by decide⟩ | exact ⟨5, rfl, rfl, rfl, by decide⟩ | exact ⟨6, rfl, rfl, rfl, by decide⟩ | exact ⟨7, rfl, rfl, rfl, by decide⟩ | exact ⟨8, rfl, rfl, rfl, by decide⟩))
  cases h
structure QTxt (K : PySem.W.Frag) (mg : Str → Option Value) (CA aN aR : Addr) : Prop where
  b : Blt mg
  cl : Cls K CA
  nO : NoAttr K CA "operation"
  nN : NoAttr K CA "numbers"
  nR : NoAttr K CA "rows"
  mN : mg "NUMBERS" = some (.ref aN)
  mR : mg "ROWS" = some (.ref aR)
  sN : ∀ H : Hp, SqT K H aN (numsL.map V.int)
  sR : ∀ H : Hp, SqT K H aR (rowsL.map V.int)
def spCallI (CA : Addr) : Sp := fun vs H Q _ => ∃ (q dx : Addr) (p : Int) (ln lr : Addr), vs = [.ref q, .int p, .ref ln, .ref lr] ∧ H q = some (.ins CA dx []) ∧
  ∀ H' : Hp, H' q = some (.ins CA dx (lF p ln lr)) → (∀ b o, H b = some o → b ≠ q → H' b = some o) → Q .non H'
def spReadC (K : PySem.W.Frag) (CA : Addr) : Sp := fun vs H Q _ => ∃ (a : Addr) (L : List Int) (raw : List (List (List Int))) (f : Nat), vs = [.ref a] ∧ SqL K H a (L.map V.int) ∧ L.length ≤ 16000000 ∧ PyFlat.calls PyDx06.shape f L = some raw ∧ raw.length ≤ 1000 ∧
  ∀ (H' : Hp) (p : Addr) (qs : List Addr), Same H H' → H p = none → H' p = some (.lst (qs.map V.ref)) → Paired (CallAt CA (nw H p H')) qs raw → Q (.ref p) H'
section
variable {P : Program} {w : World} {K : PySem.W.Frag} {mg : Str → Option Value} {base : Heap} {CA aN aR : Addr}
theorem ok_calli {f : Addr} {fd : FuncData} (F : Fun K "__init__" "Call.__init__" sCallI f fd) (T : QTxt K mg CA aN aR) : FnOk P w K mg base CX0 1 f fd ["self", "operation", "numbers", "rows"] (spCallI CA) := by
  refine F.ok scCallI (fun vs H Q E h => ?_) (fun cdv A outer s H vs Q E hr h => ?_)
  · obtain ⟨q, dx, p, ln, lr, rfl, _⟩ := h
    rfl
  · refine ⟨_, pss_cons (ps_fld (pv 0) (pv 1) rfl) (pss_cons (ps_fld (pv 0) (pv 2) rfl) (pss_one (ps_fld (pv 0) (pv 3) rfl))), ?_⟩
    obtain ⟨q, dx, p, ln, lr, rfl, hq, k⟩ := h
    refine ⟨_, rfl, _, rfl, q, CA, dx, [], rfl, hq, T.cl, T.nO, (by show 0 < 1000; decide), ?_⟩
    refine ⟨_, rfl, _, rfl, q, CA, dx, _, rfl, upd_same, T.cl, T.nN, (by show 1 < 1000; decide), ?_⟩
    rw [upd_upd]
    refine ⟨_, rfl, _, rfl, q, CA, dx, _, rfl, upd_same, T.cl, T.nR, (by show 2 < 1000; decide), ?_⟩
    rw [upd_upd]
    exact k _ upd_same fun b o e n => by rw [upd_ne n]; exact e
theorem ok_readC {f : Addr} {fd : FuncData} (F : Fun K "read_calls" "read_calls" sReadC f fd) (T : QTxt K mg CA aN aR) (MC : MkB P w K mg base CX0 "Call" CA ["self", "operation", "numbers", "rows"] 1 (spCallI CA)) : FnOk P w K mg base CX0 3 f fd ["calls"] (spReadC K CA) := by
  refine F.ok scReadC (fun vs H Q E h => ?_) (fun cdv A outer s H vs Q E hr h => ?_)
  · obtain ⟨a, L, raw, f, rfl, _⟩ := h
    rfl
  · have nd : nReadC.Nodup := scReadC.nd
    refine ⟨_, pss_cons (ps_set (i := 1) nd rfl (Or.inl rfl) (pe_lst pa_nil))
      (pss_cons (ps_set (i := 2) nd rfl (Or.inl rfl) pe_int)
      (pss_cons (ps_while PassesOwn.never (pt_cmpR op_lt (pv 2) (pe_callB call_len_seq (by rfl) T.b.len PySem.boot_len (pa_cons (pv 0) pa_nil)) (nomark _))
        (pss_cons (ps_set (i := 3) nd rfl (Or.inl rfl) (pe_ix ix_list (pv 0) (pv 2) (fun _ _ => rfl)))
        (pss_cons (ps_set (i := 4) nd rfl (Or.inl rfl) (pe_op op_add (pe_op op_add (pv 2) pe_int) (pe_ix ix_tup (pe_glob (v := .ref aN) (by rfl) T.mN rfl) (pv 3) (fun _ _ => rfl))))
        (pss_cons (ps_set (i := 5) nd rfl (Or.inl rfl) (pe_slice sl_list (pv 0) (po_some (pe_op op_add (pv 2) pe_int)) (po_some (pv 4))))
        (pss_cons (ps_set (i := 6) nd rfl (Or.inl rfl) (pe_lst pa_nil))
        (pss_cons (ps_while PassesOwn.never (pt_cmpR op_lt (pe_callB call_len_seq (by rfl) T.b.len PySem.boot_len (pa_cons (pv 6) pa_nil)) (pe_ix ix_tup (pe_glob (v := .ref aR) (by rfl) T.mR rfl) (pv 3) (fun _ _ => rfl)) (nomark _))
          (pss_cons (ps_set (i := 7) nd rfl (Or.inl rfl) (pe_op op_add (pv 4) pe_int))
          (pss_cons (ps_set (i := 4) nd rfl (Or.inl rfl) (pe_op op_add (pv 7) (pe_ix ix_list (pv 0) (pv 4) (fun _ _ => rfl))))
          (pss_one (ps_expr (pe_bm PySem.F.plainAttrs_list PySem.F.slot_list_append PySem.F.type_list_append mt_append (pv 6) (pa_cons (pe_slice sl_list (pv 0) (po_some (pv 7)) (po_some (pv 4))) pa_nil)))))))
        (pss_cons (ps_expr (pe_bm PySem.F.plainAttrs_list PySem.F.slot_list_append PySem.F.type_list_append mt_append (pv 1) (pa_cons (pe_makeF MC hr pass0 (pa_cons (pv 3) (pa_cons (pv 5) (pa_cons (pv 6) pa_nil)))) pa_nil)))
        (pss_one (ps_set (i := 2) nd rfl (Or.inl rfl) (pv 4))))))))))
      (pss_one (ps_ret (pv 1))))), ?_⟩
    obtain ⟨a, L, raw, f, rfl, hL, hlen, hraw, hrl, k⟩ := h
    refine ⟨by show 0 ≤ sizeLine; decide, fun pf hpf => ?_⟩
    refine ⟨fun m σ H' => ∃ (i : Nat) (dn : List (List (List Int))) (qs : List Addr) (v3 v4 v5 v6 v7 : Option V) (fr : Nat) (rest : List (List (List Int))), σ = [some (.ref a), some (.ref pf), some (.int (i : Int)), v3, v4, v5, v6, v7] ∧ Same H H' ∧ H' pf = some (.lst (qs.map V.ref)) ∧
        Paired (CallAt CA (nw H pf H')) qs dn ∧ i ≤ L.length ∧ PyFlat.calls PyDx06.shape fr (L.drop i) = some rest ∧ raw = dn ++ rest ∧ m = L.length - i,
      ⟨_, 0, [], [], none, none, none, none, none, f, raw, rfl, (fun b o e => by rw [upd_ne (ne_of_none e hpf)]; exact e), upd_same, .nil, Nat.zero_le _, hraw, rfl, rfl⟩, ?_⟩
    rintro m σ H1 ⟨i, dn, qs, v3, v4, v5, v6, v7, fr, rest, rfl, s01, hf1, hq1, hi, hrest, rfl, rfl⟩
    have hL1 := s01.seq hL
    refine ⟨_, rfl, _, rfl, a, _, rfl, .inl hL1, _, _, rfl, rfl, _, rfl, ?_⟩
    rw [List.length_map]
    by_cases c : i < L.length
    · refine ifT (decide_eq_true (by omega)) ⟨_, fun σ' H' h => h, ?_⟩
      obtain ⟨f', cc, t, cs', rfl, hcall, hcs, rfl⟩ := calls_cons c hrest
      obtain ⟨p, n, kk, ys, hp, hsh, hle, hrows, rfl⟩ := call_at hcall
      obtain ⟨j, rfl, hn, hkk, hk2⟩ := shape_at hsh
      have mg1 : ∀ {z : Nat} {x : Int}, L[z]? = some x → (L.map V.int)[z]? = some (.int x) := fun e => by rw [List.getElem?_map, e]; rfl
      have tN : (numsL.map V.int)[j]? = some (.int (n : Int)) := by rw [List.getElem?_map, hn]; rfl
      have tR : (rowsL.map V.int)[j]? = some (.int (kk : Int)) := by rw [List.getElem?_map, hkk]; rfl
      refine ⟨_, rfl, _, rfl, a, _, _, _, rfl, rfl, hL1, atI_nat (mg1 hp), ?_⟩
      refine ⟨_, rfl, _, _, rfl, rfl, _, rfl, aN, _, _, _, rfl, rfl, T.sN _, atI_nat tN, _, _, rfl, rfl, ?_⟩
      have e1 : (i : Int) + 1 + (n : Int) = ((i + 1 + n : Nat) : Int) := by omega
      have e2 : (i : Int) + 1 = ((i + 1 : Nat) : Int) := by omega
      refine ⟨_, rfl, _, rfl, _, _, rfl, rfl, _, rfl, _, rfl, _, rfl, a, _, rfl, hL1, fun ln hln => ?_⟩
      rw [e1, e2, cut_at (by omega) hle]
      have en : i + 1 + n - (i + 1) = n := by omega
      rw [en]
      have hln1 : H1 ln = none := hln
      have s2 : Same H1 (upd H1 ln (.lst (((L.drop (i + 1)).take n).map V.int))) := same_upd (Same.refl _) hln
      have eln : upd H1 ln (.lst (((L.drop (i + 1)).take n).map V.int)) ln = some (.lst (((L.drop (i + 1)).take n).map V.int)) := upd_same
      generalize upd H1 ln (.lst (((L.drop (i + 1)).take n).map V.int)) = H2 at s2 eln ⊢
      refine ⟨by show 0 ≤ sizeLine; decide, fun pr hpr => ?_⟩
      have s3 : Same H2 (upd H2 pr (.lst [])) := same_upd (Same.refl _) hpr
      have nlp : ln ≠ pf := (ne_of_none hf1 hln1).symm
      have nrp : pr ≠ pf := (ne_of_none (s2 _ _ hf1) hpr).symm
      have s13 : Same H1 (upd H2 pr (.lst [])) := s2.trans s3
      -- the rows
      refine ⟨fun m σ H' => ∃ (b kr : Nat) (xs ys' : List (List Int)) (rrs : List Addr) (v7 : Option V), σ = [some (.ref a), some (.ref pf), some (.int (i : Int)), some (.int (j : Int)), some (.int (b : Int)), some (.ref ln), some (.ref pr), v7] ∧ Same H2 (del H' pr) ∧ H' pr = some (.lst (rrs.map V.ref)) ∧
          Paired (RowAt (nw H pf (del H' pr))) rrs xs ∧ i < b ∧ b ≤ L.length ∧ PyFlat.rows kr (L.drop b) = some (ys', t) ∧ ys = xs ++ ys' ∧ xs.length + kr = kk ∧ m = kr,
        ⟨_, i + 1 + n, kk, [], ys, [], _, rfl, fun b o e => by rw [del_ne (ne_of_none e hpr), upd_ne (ne_of_none e hpr)]; exact e, upd_same, .nil, by omega, hle, hrows, rfl, by simp, rfl⟩, ?_⟩
      rintro m σ H3 ⟨b, kr, xs, ys', rrs, v7, rfl, s4, hpr3, hrr, hib, hb, hrw, rfl, hxk, rfl⟩
      have s23 : Same H2 H3 := s4.trans (same_del H3 pr)
      have hL3 := (s01.trans (s2.trans s23)).seq hL
      have lrr : rrs.length = xs.length := Paired.length hrr
      refine ⟨_, rfl, pr, _, rfl, .inl (SqL.of hpr3), _, rfl, aR, _, _, _, rfl, rfl, T.sR _, atI_nat tR, _, _, rfl, rfl, _, rfl, ?_⟩
      rw [List.length_map, lrr]
      have hf3 : H3 pf = some (.lst (qs.map V.ref)) := s23 _ _ (s2 _ _ hf1)
      by_cases c2 : xs.length < kk
      · obtain ⟨kr', rfl⟩ : ∃ kr', m = kr' + 1 := ⟨m - 1, by omega⟩
        obtain ⟨x, t', zs, hrow, hzs, rfl⟩ := rows_succ hrw
        obtain ⟨nn, hnn, h0, hle2, rfl, rfl⟩ := row_at hrow
        obtain ⟨u, rfl⟩ : ∃ u : Nat, nn = (u : Int) := ⟨nn.toNat, by omega⟩
        have eu : ((u : Int)).toNat = u := by omega
        rw [eu] at hle2 hzs
        rw [eu]
        refine ifT (decide_eq_true (by omega)) ⟨_, fun σ' H' h => h, ?_⟩
        refine ⟨_, rfl, _, _, rfl, rfl, _, rfl, _, rfl, _, rfl, a, _, _, _, rfl, rfl, hL3, atI_nat (mg1 hnn), _, _, rfl, rfl, ?_⟩
        have e3 : (b : Int) + 1 + (u : Int) = ((b + 1 + u : Nat) : Int) := by omega
        have e4 : (b : Int) + 1 = ((b + 1 : Nat) : Int) := by omega
        refine ⟨_, rfl, .inl ⟨rfl, _, SqL.of hpr3⟩, _, rfl, _, rfl, _, rfl, _, rfl, _, rfl, a, _, rfl, hL3, fun t2 ht2 => ?_⟩
        rw [e3, e4, cut_at (by omega) hle2]
        have en2 : b + 1 + u - (b + 1) = u := by omega
        rw [en2]
        have n2r : pr ≠ t2 := ne_of_none hpr3 ht2
        have n2f : pf ≠ t2 := ne_of_none hf3 ht2
        refine ⟨pr, _, _, rfl, rfl, by rw [upd_ne n2r]; exact hpr3, by rw [List.length_map]; exact big_lt (by omega), ?_⟩
        have kp : ∀ z o, H3 z = some o → z ≠ pr → upd (upd H3 t2 (.lst (((L.drop (b + 1)).take u).map V.int))) pr (.lst (rrs.map V.ref ++ [.ref t2])) z = some o := fun z o e n => by
          rw [upd_ne n, upd_ne (ne_of_none e ht2)]; exact e
        have n2r' : t2 ≠ pr := n2r.symm
        have er2 : upd (upd H3 t2 (.lst (((L.drop (b + 1)).take u).map V.int))) pr (.lst (rrs.map V.ref ++ [.ref t2])) t2 = some (.lst (((L.drop (b + 1)).take u).map V.int)) := by rw [upd_ne n2r', upd_same]
        have er3 : upd (upd H3 t2 (.lst (((L.drop (b + 1)).take u).map V.int))) pr (.lst (rrs.map V.ref ++ [.ref t2])) pr = some (.lst ((rrs ++ [t2]).map V.ref)) := by rw [upd_same, List.map_append]; rfl
        generalize upd (upd H3 t2 (.lst (((L.drop (b + 1)).take u).map V.int))) pr (.lst (rrs.map V.ref ++ [.ref t2])) = H4 at kp er2 er3 ⊢
        refine ⟨kr', Nat.lt_succ_self _, b + 1 + u, kr', xs ++ [(L.drop (b + 1)).take u], zs, rrs ++ [t2], _, rfl, fun z o e => ?_, er3, ?_, by omega, hle2, hzs, by rw [List.append_assoc]; rfl, by rw [List.length_append, List.length_singleton]; omega, rfl⟩
        · have q := s4 _ _ e
          by_cases zr : z = pr
          · subst zr; rw [del_same] at q; cases q
          · rw [del_ne zr] at q ⊢; exact kp _ _ q zr
        · have kd : Same (nw H pf (del H3 pr)) (nw H pf (del H4 pr)) := nw_mono fun z o e _ _ => by
            by_cases zr : z = pr
            · subst zr; rw [del_same] at e; cases e
            · rw [del_ne zr] at e ⊢; exact kp _ _ e zr
          refine Paired.snoc (Paired.mapP hrr fun _ _ z => kd _ _ z) ?_
          show nw H pf (del H4 pr) t2 = _
          rw [nw_at n2f.symm ((s01.trans (s2.trans s23)).free ht2), del_ne n2r']; exact er2
      · refine ifF (decide_eq_false (by omega)) ?_
        have hk0 : m = 0 := by omega
        subst hk0
        cases hrw
        refine ⟨_, rfl, .inl ⟨rfl, _, SqL.of hf3⟩, _, rfl, _, rfl, _, rfl, ?_⟩
        intro q dxq nq ndq neq
        have sM : Same H3 (upd (upd H3 dxq (.own q)) q (.ins CA dxq [])) := fun z o e => by
          rw [upd_ne (ne_of_none e nq), upd_ne (ne_of_none e ndq)]; exact e
        refine ⟨q, dxq, (j : Int), ln, pr, rfl, upd_same, fun H5 hq5 kp5 => ⟨rfl, ?_⟩⟩
        have s35 : Same H3 H5 := fun z o e => kp5 _ _ (sM _ _ e) (ne_of_none e nq)
        refine ⟨pf, _, _, rfl, rfl, s35 _ _ hf3, by rw [List.length_map, Paired.length hq1]; exact big_lt (by rw [List.length_append] at hrl; omega), ?_⟩
        have nqf : q ≠ pf := (ne_of_none hf3 nq).symm
        refine ⟨_, rfl, ?_⟩
        have k15 : Same H1 H5 := s2.trans (s23.trans s35)
        have e6 : upd H5 pf (.lst (qs.map V.ref ++ [.ref q])) pf = some (.lst ((qs ++ [q]).map V.ref)) := by rw [upd_same, List.map_append]; rfl
        have k6 : ∀ z o, H5 z = some o → z ≠ pf → H z = none → nw H pf (upd H5 pf (.lst (qs.map V.ref ++ [.ref q]))) z = some o := fun z o e n f => by rw [nw_at n f, upd_ne n]; exact e
        refine ⟨L.length - b, by omega, b, dn ++ [((j : Int) :: (L.drop (i + 1)).take n) :: (xs ++ [])], qs ++ [q], _, _, _, _, _, f', cs', rfl, fun z o e => ?_, e6, ?_, hb, hcs, by rw [List.append_assoc]; rfl, rfl⟩
        · rw [upd_ne (ne_of_none e hpf)]; exact k15 _ _ (s01 _ _ e)
        · refine Paired.snoc (Paired.mapP hq1 fun _ _ z => z.same (nw_mono fun y o e n _ => by rw [upd_ne n]; exact k15 _ _ e))
            ⟨dxq, ln, pr, (j : Int), (L.drop (i + 1)).take n, xs ++ [], rrs, rfl, k6 _ _ hq5 nqf ((s01.trans (s2.trans s23)).free nq), k6 _ _ (s35 _ _ (s23 _ _ eln)) nlp (s01.free hln1), k6 _ _ (s35 _ _ hpr3) nrp ((s01.trans s2).free hpr), ?_⟩
          rw [List.append_nil]
          refine Paired.mapP hrr fun r x z => ?_
          obtain ⟨z1, z2, z3⟩ := nw_some (show nw H pf (del H3 pr) r = some (.lst (x.map V.int)) from z)
          exact k6 _ _ (s35 _ _ (same_del H3 pr _ _ z3)) z1 z2
    · refine ifF (decide_eq_false (by omega)) ?_
      have : L.drop i = [] := List.drop_eq_nil_of_le (by omega)
      rw [this] at hrest
      have hnil := calls_nil hrest
      subst hnil
      exact ⟨_, rfl, k H1 pf qs s01 hpf hf1 (by rw [List.append_nil]; exact hq1)⟩
end
end Rb

/-! ## A3 -/
set_option Elab.async false
set_option linter.all false
set_option maxHeartbeats 1000000
/-! A3: a request's answers, call by call. -/
namespace Rb
open Dx06 (House)
abbrev stp : House → List (List Int) → House × List Int := Dx06Neutral.step
def runS (s : House) (l : List (List (List Int))) : House := l.foldl (fun s c => (stp s c).1) s
theorem whole_eq (c : List (List Int)) : PyDx06.whole c = c := by
  unfold PyDx06.whole
  split <;> rfl
theorem played_snoc : ∀ (l : List (List (List Int))) (s : House) (c : List (List Int)), PyFlat.played stp s (l ++ [c]) = PyFlat.played stp s l ++ [(stp (runS s l) c).2]
  | [], s, c => rfl
  | x :: l, s, c => by
    show (stp s x).2 :: PyFlat.played stp (stp s x).1 (l ++ [c]) = _
    rw [played_snoc l]
    rfl
theorem told_snocI (l : List (List Int)) (x : List Int) : PyFlat.told (l ++ [x]) = PyFlat.told l ++ ((x.length : Int) :: x) := by
  unfold PyFlat.told
  rw [List.flatMap_append]
  simp
theorem runS_snoc (l : List (List (List Int))) (s : House) (c : List (List Int)) : runS s (l ++ [c]) = (stp (runS s l) c).1 := by
  unfold runS
  rw [List.foldl_append]
  rfl
theorem short_at : ∀ {l : List (List (List Int))} {s : House} {i : Nat} {c : List (List Int)} {x : Dx06.Call}, Dx06Neutral.short s l = true → l[i]? = some c → Dx06Neutral.callOf c = some x → Dx06.endedCall 100 (runS s (l.take i)) x = true
  | [], _, _, _, _, _, h, _ => by simp at h
  | y :: l, s, 0, c, x, h, hc, hx => by
    have e : y = c := by simpa using hc
    subst e
    simp only [Dx06Neutral.short, Bool.and_eq_true] at h
    rw [hx] at h
    exact h.1
  | y :: l, s, i + 1, c, x, h, hc, hx => by
    simp only [Dx06Neutral.short, Bool.and_eq_true] at h
    exact short_at (l := l) h.2 (by simpa using hc) hx
theorem others_sub {α : Type} (l : List α) (i : Nat) : ∀ x ∈ l.take i ++ l.drop (i + 1), x ∈ l := fun x hx => by
  rcases List.mem_append.mp hx with h | h
  · exact List.mem_of_mem_take h
  · exact List.mem_of_mem_drop h
theorem others_len {α : Type} (l : List α) (i : Nat) : (l.take i ++ l.drop (i + 1)).length ≤ l.length := by
  rw [List.length_append, List.length_take, List.length_drop]; omega
theorem thin_sub : ∀ (n : Nat) (rs : List Dx.Rule), (Dx06.thin n rs).length ≤ rs.length ∧ ∀ r ∈ Dx06.thin n rs, r ∈ rs
  | 0, rs => ⟨Nat.le_refl _, fun _ h => h⟩
  | n + 1, rs => by
    unfold Dx06.thin
    split
    · exact thin_sub n rs
    · split
      · obtain ⟨h1, h2⟩ := thin_sub n (Dx06.others rs n)
        exact ⟨Nat.le_trans h1 (others_len rs n), fun r hr => others_sub rs n r (h2 r hr)⟩
      · exact thin_sub n rs
theorem house_init : HouseOk Dx06.init := ⟨by decide, by decide, by simp [Dx06.init], by simp [Dx06.init]⟩
theorem house_call {h : House} (o : HouseOk h) (x : Dx06.Call) : HouseOk (Dx06.step h x).1 := by
  cases x with
  | begins => exact house_init
  | rule k b d =>
    simp only [Dx06.step]
    split
    · exact o
    · split
      · exact o
      · rename_i r er
        split
        · exact o
        · rename_i hn
          have g := o.get k
          refine o.set k ?_ fun q hq => ?_
          · rw [List.length_append, List.length_singleton]
            have : (h.get k).length ≠ 3 := hn
            omega
          · rcases List.mem_append.mp hq with z | z
            · exact g.2 q z
            · have : q = r := by simpa using z
              subst this
              exact RuleOk.of er
  | drop k i =>
    simp only [Dx06.step]
    split
    · exact o
    · have g := o.get k
      exact o.set k (Nat.le_trans (others_len _ _) g.1) fun q hq => g.2 q (others_sub _ _ q hq)
  | follows k b d => simp only [Dx06.step]; split <;> exact o
  | shows k b d => simp only [Dx06.step]; split <;> exact o
  | spare k => exact o
  | thin k =>
    simp only [Dx06.step]
    split
    · exact o
    · split
      · exact o
      · have g := o.get k
        have t := thin_sub (h.get k).length (h.get k)
        exact o.set k (Nat.le_trans t.1 g.1) fun q hq => g.2 q (t.2 q hq)
  | within k => exact o
  | same => exact o
theorem house_step {h : House} (o : HouseOk h) (c : List (List Int)) : HouseOk (stp h c).1 := by
  show HouseOk (Dx06Neutral.step h c).1
  unfold Dx06Neutral.step
  cases Dx06Neutral.callOf c with
  | none => exact o
  | some x => exact house_call o x
theorem house_run : ∀ {l : List (List (List Int))} {h : House}, HouseOk h → HouseOk (runS h l)
  | [], _, o => o
  | c :: l, h, o => house_run (l := l) (house_step o c)
end Rb

/-! ## A4 -/
set_option Elab.async false
set_option linter.all false
set_option maxRecDepth 100000
set_option maxHeartbeats 4000000
/-! A4: Desk.__init__, answers. -/
namespace Rb
open PySem PySem.Spec PyProof.Rows L2
open Dx06 (House)
/-- what the text says of a refusal's class C, the base at CB -/
structure RefC (K : PySem.W.Frag) (CB C : Addr) : Prop where
  xf : XfC K C
  no : PySem.W.findIn K (.ref C) "number" = some none
  ex : PySem.W.exmOne K (.ref C) (.ref CB) = some true
def tXfA (K : PySem.W.Frag) (a : Addr) (cls : Value) (d : Option Addr) (f : Str) (te : TE) : TE := fun σ H Q => ∃ C, XfC K C ∧ PySem.W.findIn K (.ref C) f = some none ∧ tXf a cls d C f te σ H Q
theorem pe_xfA {X : Cx} {a : Addr} {oe : Obj} {cls : Value} {d : Option Addr} {pn : List (Addr × Obj)} {e : Expr} {te : TE} {pos : Pos} {n : Str} (hz : Zc cls d oe) (hf : ∃ vs, oe.data = .fields vs) (he : PE (X.suite a ((a, oe) :: pn)) e te)
    (hb : attributeBase e n X.env (eval e X.env) = eval e X.env := by rfl) : PE (X.suite a ((a, oe) :: pn)) (.Attribute e n pos) (tXfA X.K a cls d n te) :=
  ⟨fun pins s σ H Q I ⟨C, T, hno, q⟩ => (pe_xf T hno hz hf he hb).run pins s σ H Q I q⟩
theorem ok_kinit {P : Program} {w : World} {K : PySem.W.Frag} {mg : Str → Option Value} {base : Heap} {CD CR : Addr} {f : Addr} {fd : FuncData} (F : Fun K "__init__" "Desk.__init__" sKInit f fd) (T : KTxt K mg CD) : FnOk P w K mg base CX0 1 f fd ["self"] (spKInit CD CR) := by
  refine F.ok scKInit (fun vs H Q E h => ?_) (fun cdv A outer s H vs Q E hr h => ?_)
  · obtain ⟨a, dx, rfl, _⟩ := h
    rfl
  · refine ⟨_, pss_one (ps_fld (pv 0) (pe_lst (pa_cons (pe_lst pa_nil) (pa_cons (pe_lst pa_nil) pa_nil))) rfl), ?_⟩
    obtain ⟨a, dx, rfl, ha, k⟩ := h
    refine ⟨by show 0 ≤ sizeLine; decide, fun m0 hm0 => ⟨by show 0 ≤ sizeLine; decide, fun m1 hm1 => ⟨by show 2 ≤ sizeLine; decide, fun mb hmb => ?_⟩⟩⟩
    have s1 : Same H (upd H m0 (.lst [])) := same_upd (Same.refl H) hm0
    have s2 : Same H (upd (upd H m0 (.lst [])) m1 (.lst [])) := s1.trans (same_upd (Same.refl _) hm1)
    have s3 : Same H (upd (upd (upd H m0 (.lst [])) m1 (.lst [])) mb (.lst [.ref m0, .ref m1])) := s2.trans (same_upd (Same.refl _) hmb)
    have n0 : m0 ≠ m1 := ne_of_none upd_same hm1
    have n1 : m1 ≠ mb := ne_of_none upd_same hmb
    have n2 : m0 ≠ mb := ne_of_none (by rw [upd_ne n0, upd_same]) hmb
    have e0 : upd (upd (upd H m0 (.lst [])) m1 (.lst [])) mb (.lst [.ref m0, .ref m1]) m0 = some (.lst []) := by rw [upd_ne n2, upd_ne n0, upd_same]
    have e1 : upd (upd (upd H m0 (.lst [])) m1 (.lst [])) mb (.lst [.ref m0, .ref m1]) m1 = some (.lst []) := by rw [upd_ne n1, upd_same]
    have eb : upd (upd (upd H m0 (.lst [])) m1 (.lst [])) mb (.lst [.ref m0, .ref m1]) mb = some (.lst [.ref m0, .ref m1]) := upd_same
    have f0 : H m0 = none := hm0
    have f1 : H m1 = none := s1.free hm1
    have fb : H mb = none := s2.free hmb
    generalize upd (upd (upd H m0 (.lst [])) m1 (.lst [])) mb (.lst [.ref m0, .ref m1]) = H3 at s3 e0 e1 eb ⊢
    have na : ∀ {b : Addr}, H b = none → b ≠ a := fun e z => by rw [z, ha] at e; cases e
    refine ⟨_, rfl, a, CD, dx, [], rfl, s3 _ _ ha, T.cl, T.nB, (by show 0 < 1000; decide), ?_⟩
    refine k _ [a, mb, m0, m1] (desk_new (dx := dx) upd_same (by rw [upd_ne (na fb)]; exact eb) (by rw [upd_ne (na f0)]; exact e0) (by rw [upd_ne (na f1)]; exact e1) n0 n2.symm n1.symm (by simp)) (fun b hb => ?_) fun b o e n => by rw [upd_ne n]; exact s3 _ _ e
    have : b = a ∨ b = mb ∨ b = m0 ∨ b = m1 := by simpa using hb
    rcases this with rfl | rfl | rfl | rfl
    · exact .inl rfl
    · exact .inr fb
    · exact .inr f0
    · exact .inr f1
theorem asked_get {L : List Int} (h : PyDx06.answers_asked L = true) : ∃ raw, PyFlat.calls PyDx06.shape L.length L = some raw ∧ raw.length ≤ 60 ∧ (∀ c ∈ raw, Dx06Neutral.asked1 c = true) ∧ Dx06Neutral.short Dx06.init raw = true ∧
    PyDx06.answers L = PyFlat.told (PyFlat.played stp Dx06.init raw) ∧ (PyFlat.told (PyFlat.played stp Dx06.init raw)).length ≤ 10000000 := by
  unfold PyDx06.answers_asked at h
  cases e : PyFlat.calls PyDx06.shape L.length L with
  | none => rw [e] at h; cases h
  | some raw =>
    rw [e] at h
    have em : raw.map PyDx06.whole = raw := by
      have : PyDx06.whole = id := funext whole_eq
      rw [this, List.map_id]
    have ea : PyDx06.answers L = PyFlat.told (PyFlat.played stp Dx06.init raw) := by
      unfold PyDx06.answers PyDx06.calls
      rw [e]
      show PyFlat.told (PyFlat.played _ _ (raw.map PyDx06.whole)) = _
      rw [em]; rfl
    dsimp only at h
    rw [em, ea] at h
    simp only [Bool.and_eq_true, Dx06Neutral.asked, PyFlat.short, PyFlat.atMost, decide_eq_true_eq, List.all_eq_true] at h
    exact ⟨raw, rfl, h.1.1.1.2, h.1.2.1, h.1.2.2.2.1.2, ea, h.2⟩
theorem played_app : ∀ (l m : List (List (List Int))) (s : House), PyFlat.played stp s (l ++ m) = PyFlat.played stp s l ++ PyFlat.played stp (runS s l) m
  | [], _, _ => rfl
  | x :: l, m, s => by
    show (stp s x).2 :: PyFlat.played stp (stp s x).1 (l ++ m) = _
    rw [played_app l]
    rfl
theorem told_le (l : List (List (List Int))) (i : Nat) (s : House) : (PyFlat.told (PyFlat.played stp s (l.take i))).length ≤ (PyFlat.told (PyFlat.played stp s l)).length := by
  have e : PyFlat.told (PyFlat.played stp s l) = PyFlat.told (PyFlat.played stp s (l.take i)) ++ PyFlat.told (PyFlat.played stp (runS s (l.take i)) (l.drop i)) := by
    conv => lhs; rw [← List.take_append_drop i l, played_app]
    unfold PyFlat.told
    rw [List.flatMap_append]
  rw [e, List.length_append]; omega
/-- a new list is watched -/
theorem DeskAt.watch {CD CR : Addr} {H : Hp} {a t : Addr} {D : List Addr} {h : House} {xs : List V} (d : DeskAt CD CR H a D [] h) (ht : H t = none) : DeskAt CD CR (upd H t (.lst xs)) a D [t] h := by
  obtain ⟨dx, lb, l0, l1, ras0, ras1, G, e, q⟩ := d
  have q2 := q.same (same_upd (o := .lst xs) (Same.refl H) ht)
  refine ⟨dx, lb, l0, l1, ras0, ras1, G, e, ⟨q2.ha, q2.hb, q2.h0, q2.h1, q2.n01, q2.nb0, q2.nb1, q2.sG, q2.gD, fun b hb => ?_, q2.r0, q2.r1⟩⟩
  have : b = t := by simpa using hb
  subst this
  refine ⟨q.sG.free ht, fun m => ?_, xs, upd_same⟩
  have : b = a ∨ b = lb ∨ b = l0 ∨ b = l1 := by simpa using m
  rcases this with z | z | z | z
  · rw [z, q.ha] at ht; cases ht
  · rw [z, q.hb] at ht; cases ht
  · rw [z, q.h0] at ht; cases ht
  · rw [z, q.h1] at ht; cases ht
theorem DeskAt.there {CD CR : Addr} {H : Hp} {a : Addr} {D X : List Addr} {h : House} (d : DeskAt CD CR H a D X h) : (∀ b ∈ D, ∃ o, H b = some o) ∧ ∀ b ∈ X, b ∉ D := by
  obtain ⟨dx, lb, l0, l1, ras0, ras1, G, rfl, q⟩ := d
  refine ⟨fun b m => ?_, fun b hb => (q.gX b hb).2.1⟩
  have : b = a ∨ b = lb ∨ b = l0 ∨ b = l1 := by simpa using m
  rcases this with rfl | rfl | rfl | rfl
  · exact ⟨_, q.ha⟩
  · exact ⟨_, q.hb⟩
  · exact ⟨_, q.h0⟩
  · exact ⟨_, q.h1⟩
abbrev sAns : Stmt := topS 58
def nAns : List Str := ["calls", "desk", "told", "call", "answer", "e"]
theorem scAns : FnScope nAns ["calls"] (defScope sAns) := ⟨rfl, rfl, rfl, by decide +kernel, rfl, by decide +kernel, by decide +kernel⟩
/-- one call is carried out -/
def spApp (K : PySem.W.Frag) (CD CR CA CB : Addr) : Sp := fun vs H Q E => ∃ (a q : Addr) (D X : List Addr) (h : House) (c : List (List Int)), vs = [.ref a, .ref q] ∧ DeskAt CD CR H a D X h ∧ HouseOk h ∧ CallAt CA H q c ∧ Dx06Neutral.asked1 c = true ∧
  (∀ x, Dx06Neutral.callOf c = some x → Dx06.endedCall 100 h x = true) ∧
  (∀ (H' : Hp) (D' : List Addr) (p : Addr), DeskAt CD CR H' a D' X (stp h c).1 → (∀ b ∈ D', b ∈ D ∨ H b = none) → Fr D H H' → H p = none → p ∉ D' → H' p = some (.lst ((stp h c).2.map V.int)) → Q (.ref p) H') ∧
  ∀ (C : Addr) (k : Int), RefC K CB C → stp h c = (h, [k]) → Refuses E H C k
def spAns (K : PySem.W.Frag) : Sp := fun vs H Q _ => ∃ (a : Addr) (L : List Int), vs = [.ref a] ∧ SqL K H a (L.map V.int) ∧ PyDx06.answers_asked L = true ∧ L.length ≤ 16000000 ∧
  ∀ (H' : Hp) (p : Addr), H' p = some (.lst ((PyDx06.answers L).map V.int)) → Q (.ref p) H'
structure NTxt (mg : Str → Option Value) (CB : Addr) : Prop where
  b : Blt mg
  gB : mg "Refusal" = some (.ref CB)
section
variable {P : Program} {w : World} {K : PySem.W.Frag} {mg : Str → Option Value} {base : Heap} {CD CR CA CB : Addr}
theorem ok_ans {f fA : Addr} {fd fdA : FuncData} {n : Nat} (F : Fun K "answers" "answers" sAns f fd) (T : NTxt mg CB) (hn : 4 ≤ n) (MD : MkB P w K mg base CX0 "Desk" CD ["self"] 1 (spKInit CD CR)) (GC : FnB P w K mg base CX0 "read_calls" ["calls"] 3 (spReadC K CA))
    (gA : mg "applied" = some (.ref fA)) (kA : PySem.W.keepIn K (.ref fA) = true) (bA : Binds K fdA ["desk", "call"] []) (GA : FnOk P w K mg base (L2.CX P w) n fA fdA ["desk", "call"] (spApp K CD CR CA CB)) : FnOk P w K mg base CX0 (n + 1) f fd ["calls"] (spAns K) := by
  refine F.ok scAns (fun vs H Q E h => ?_) (fun cdv A outer s H vs Q E hr h => ?_)
  · obtain ⟨a, L, rfl, _⟩ := h
    rfl
  · have nd : nAns.Nodup := scAns.nd
    have hr2 : Room 2 _ := hr.mono (by omega)
    have hr3 : Room 3 _ := hr.mono (by omega)
    refine ⟨_, pss_cons (ps_set (i := 1) nd rfl (Or.inl rfl) (pe_makeF0 MD hr2 pass0))
      (pss_cons (ps_set (i := 2) nd rfl (Or.inl rfl) (pe_lst pa_nil))
      (pss_cons (ps_for PassesOwn.never rfl (pi_list (pe_callF GC hr3 pass0 (pa_cons (pv 0) pa_nil))) (pg_name (i := 3) nd rfl (Or.inl rfl))
        (pss_cons (ps_try_as (i := 5) (tb := fun W => tAsg (tCallS (spApp K CD CR CA CB) (WE W) (tCons (tVar 1) (tCons (tVar 3) tNil))) (gName 4)) (ts := fun a cls d => tAsg (tLst (tCons (tXfA K a cls d "number" (tVar 5)) tNil)) (gName 4)) (Wout := fun _ _ _ _ => False)
            rfl rfl nd rfl rfl ⟨rfl, by decide, Or.inl T.gB⟩ takes0
            (fun W pn xe tk _ => pss_one (ps_set (i := 4) nd rfl (Or.inl rfl) (by exact (pe_callS GA hr rfl gA kA bA (fun σ => passAt tk σ) (by exact (pa_cons (pv 1) (pa_cons (pv 3) pa_nil)))))))
            (fun a oe cls d pn hz hf => pss_one (ps_set (i := 4) nd rfl (Or.inl rfl) (by exact (pe_lst (pa_cons (pe_xfA hz hf (pv 5)) pa_nil))))))
        (pss_cons (ps_expr (pe_bm PySem.F.plainAttrs_list PySem.F.slot_list_append PySem.F.type_list_append mt_append (pv 2) (pa_cons (pe_callB call_len_seq (by rfl) T.b.len PySem.boot_len (pa_cons (pv 4) pa_nil)) pa_nil)))
        (pss_one (ps_expr (pe_bm PySem.F.plainAttrs_list PySem.F.slot_list_extend PySem.F.type_list_extend mt_extend (pv 2) (pa_cons (pv 4) pa_nil)))))))
      (pss_one (ps_ret (pv 2))))), ?_⟩
    obtain ⟨a, L, rfl, hL, hask, hlen, k⟩ := h
    obtain ⟨raw, hcalls, hraw, ha1, hshort, hans, hbig⟩ := asked_get hask
    rw [hans] at k
    intro ad dxd nad ndd ned
    refine ⟨ad, dxd, rfl, upd_same, fun H1 D hdk hD kp => ⟨rfl, ?_⟩⟩
    have s1 : Same H H1 := fun b o e => kp _ _ (by rw [upd_ne (ne_of_none e nad), upd_ne (ne_of_none e ndd)]; exact e) (ne_of_none e nad)
    refine ⟨by show 0 ≤ sizeLine; decide, fun pt hpt => ?_⟩
    have s2 : Same H1 (upd H1 pt (.lst [])) := same_upd (Same.refl _) hpt
    have dk2 : DeskAt CD CR (upd H1 pt (.lst [])) ad D [pt] Dx06.init := hdk.watch hpt
    have ht2 : upd H1 pt (.lst []) pt = some (.lst []) := upd_same
    show tSeq _ _ _ _ (upd H1 pt (.lst []))
    generalize upd H1 pt (.lst []) = H2 at s2 dk2 ht2 ⊢
    have s02 : Same H H2 := s1.trans s2
    refine ⟨_, rfl, a, L, raw, L.length, rfl, s02.seq hL, hlen, hcalls, by omega, fun H3 pl qs s3 npl hpl hqs => ?_⟩
    have lqs : qs.length = raw.length := Paired.length hqs
    refine ⟨pl, rfl, ⟨_, SqL.of hpl⟩, for_list (K := K) (a := pl) (xs := qs.map V.ref) (fun i σ H' => ∃ v3 v4 D', σ = [some (.ref a), some (.ref ad), some (.ref pt), v3, v4, none] ∧ DeskAt CD CR H' ad D' [pt] (runS Dx06.init (raw.take i)) ∧
        H' pt = some (.lst ((PyFlat.told (PyFlat.played stp Dx06.init (raw.take i))).map V.int)) ∧ (∀ b o, H2 b = none → H3 b = some o → H' b = some o) ∧ ∀ b ∈ D', H2 b = none → H3 b = none)
      ⟨none, none, D, rfl, dk2.same s3, s3 _ _ ht2, fun _ _ _ e => e, fun b hb e => by obtain ⟨o, q⟩ := dk2.there.1 b hb; rw [q] at e; cases e⟩ (fun i σ H' _ ⟨_, _, _, _, _, _, g, _⟩ => SqL.of (g _ _ npl hpl)) ?_ ?_⟩
    · rintro i x σ H4 hi ⟨v3, v4, D', rfl, dk4, ht4, g4, gD4⟩
      obtain ⟨q, hq, rfl⟩ := map_get hi
      obtain ⟨c, hc, cat⟩ := paired_get hqs hq
      have il : i < raw.length := (List.getElem?_eq_some_iff.mp hc).1
      have hok := house_run (l := raw.take i) house_init
      have cat4 : CallAt CA H4 q c := cat.same fun b o e => by
        obtain ⟨z1, z2, z3⟩ := nw_some e
        exact g4 _ _ z2 z3
      have lt1 := told_le raw (i + 1) Dx06.init
      have esn : PyFlat.told (PyFlat.played stp Dx06.init (raw.take (i + 1))) = PyFlat.told (PyFlat.played stp Dx06.init (raw.take i)) ++ (((stp (runS Dx06.init (raw.take i)) c).2.length : Int) :: (stp (runS Dx06.init (raw.take i)) c).2) := by
        rw [take_succ' hc, played_snoc, told_snocI]
      have ern : runS Dx06.init (raw.take (i + 1)) = (stp (runS Dx06.init (raw.take i)) c).1 := by rw [take_succ' hc, runS_snoc]
      rw [esn, List.length_append, List.length_cons] at lt1
      refine ⟨_, rfl, _, rfl, ad, q, D', [pt], runS Dx06.init (raw.take i), c, rfl, dk4, hok, cat4, ha1 c (List.mem_of_getElem? hc), fun x hx => short_at hshort hc hx, fun H5 D5 p dk5 hD5 fr5 np npD hp5 => ?_, fun C kk R e H5 d s5 nd hd => ?_⟩
      · have hpt5 := fr5 _ _ ht4 (dk4.there.2 pt (by simp))
        have npt : p ≠ pt := fun z => by rw [z, ht4] at np; cases np
        refine ⟨_, rfl, .inl ⟨rfl, _, SqL.of hpt5⟩, _, rfl, p, _, rfl, .inl (SqL.of hp5), pt, _, _, rfl, rfl, hpt5, by rw [List.length_map]; exact big_lt (by omega), ?_⟩
        refine ⟨_, rfl, .inl ⟨rfl, _, SqL.of upd_same⟩, _, rfl, pt, p, _, _, rfl, rfl, upd_same, by rw [upd_ne npt]; exact hp5, by rw [List.length_append, List.length_map, List.length_map, List.length_singleton, sizeLine_eq]; omega, ?_⟩
        rw [upd_upd]
        refine ⟨_, _, D5, rfl, by rw [ern]; exact dk5.out (by simp), ?_, fun b o n e => ?_, fun b hb n => ?_⟩
        · rw [upd_same, esn, List.map_append, List.map_cons, List.append_assoc, List.length_map]; rfl
        · rw [upd_ne (fun z => by rw [z, ht2] at n; cases n)]
          exact fr5 _ _ (g4 _ _ n e) fun m => by
            rw [gD4 b m n] at e; cases e
        · rcases hD5 b hb with m | m
          · exact gD4 b m n
          · cases e : H3 b with
            | none => rfl
            | some o => rw [g4 _ _ n e] at m; cases m
      · refine ⟨true, R.ex, fun _ a0 na0 => ?_, fun z => Bool.noConfusion z⟩
        refine ⟨C, R.xf, R.no, _, rfl, rfl, rfl, d, _, _, rfl, hd, rfl, by show 1 ≤ sizeLine; decide, fun p hp => ?_⟩
        have s6 : Same H5 (upd H5 p (.lst [.int kk])) := same_upd (Same.refl _) hp
        have hp5 : upd H5 p (.lst [.int kk]) p = some (.lst ((stp (runS Dx06.init (raw.take i)) c).2.map V.int)) := by rw [upd_same, e]; rfl
        have np : H4 p = none := s5.free hp
        have dk5 : DeskAt CD CR (upd H5 p (.lst [.int kk])) ad D' [pt] (stp (runS Dx06.init (raw.take i)) c).1 := by rw [e]; exact dk4.same (s5.trans s6)
        have fr5 : Fr D' H4 (upd H5 p (.lst [.int kk])) := fun b o e _ => s6 _ _ (s5 _ _ e)
        have hD5 : ∀ b ∈ D', b ∈ D' ∨ H4 b = none := fun b hb => .inl hb
        generalize upd H5 p (.lst [.int kk]) = H5' at hp5 dk5 fr5 ⊢
        have hpt5 := fr5 _ _ ht4 (dk4.there.2 pt (by simp))
        have npt : p ≠ pt := fun z => by rw [z, ht4] at np; cases np
        refine ⟨_, rfl, .inl ⟨rfl, _, SqL.of hpt5⟩, _, rfl, p, _, rfl, .inl (SqL.of hp5), pt, _, _, rfl, rfl, hpt5, by rw [List.length_map]; exact big_lt (by omega), ?_⟩
        refine ⟨_, rfl, .inl ⟨rfl, _, SqL.of upd_same⟩, _, rfl, pt, p, _, _, rfl, rfl, upd_same, by rw [upd_ne npt]; exact hp5, by rw [List.length_append, List.length_map, List.length_map, List.length_singleton, sizeLine_eq]; omega, ?_⟩
        rw [upd_upd]
        refine ⟨_, _, D', rfl, by rw [ern]; exact dk5.out (by simp), ?_, fun b o n e => ?_, fun b hb n => ?_⟩
        · rw [upd_same, esn, List.map_append, List.map_cons, List.append_assoc, List.length_map]; rfl
        · rw [upd_ne (fun z => by rw [z, ht2] at n; cases n)]
          exact fr5 _ _ (g4 _ _ n e) fun m => by
            rw [gD4 b m n] at e; cases e
        · rcases hD5 b hb with m | m
          · exact gD4 b m n
          · cases e : H3 b with
            | none => rfl
            | some o => rw [g4 _ _ n e] at m; cases m
    · rintro σ H4 ⟨v3, v4, D', rfl, dk4, ht4, g4, gD4⟩
      have et : raw.take (qs.map V.ref).length = raw := List.take_of_length_le (by rw [List.length_map]; omega)
      rw [et] at ht4
      exact ⟨_, rfl, k H4 pt ht4⟩
end
end Rb

/-! ## A5 -/
set_option Elab.async false
set_option linter.all false
set_option maxHeartbeats 1000000
/-! A5: the calls that are asked. -/
namespace Rb
open L2
open Dx06Neutral (nats)
def RowOk (l : List Int) : Prop := l.map V.int = (nats l).map nI ∧ (nats l).length ≤ 20
theorem row_ok {l : List Int} (h : Dx06Neutral.row32 l 20 = true) : RowOk l := by
  simp only [Dx06Neutral.row32, Bool.and_eq_true, decide_eq_true_eq, List.all_eq_true] at h
  refine ⟨?_, by unfold nats; rw [List.length_map]; exact h.1⟩
  unfold nats
  rw [List.map_map]
  refine List.map_congr_left fun z hz => ?_
  have := h.2 z hz
  simp only [Dx06Neutral.whole32, Bool.and_eq_true, decide_eq_true_eq] at this
  show V.int z = V.int (z.toNat : Int)
  rw [Int.toNat_of_nonneg this.1]
inductive Ask : List (List Int) → Prop
  | begins : Ask [[0]]
  | rule (k : Nat) (b d : List Int) : RowOk b → RowOk d → Ask [[1, (k : Int)], b, d]
  | drop (k i : Nat) : i < 4294967296 → Ask [[2, (k : Int), (i : Int)]]
  | follows (k : Nat) (b d : List Int) : RowOk b → RowOk d → Ask [[3, (k : Int)], b, d]
  | shows (k : Nat) (b d : List Int) : RowOk b → RowOk d → Ask [[4, (k : Int)], b, d]
  | spare (k : Nat) : Ask [[5, (k : Int)]]
  | thin (k : Nat) : Ask [[6, (k : Int)]]
  | within (k : Nat) : Ask [[7, (k : Int)]]
  | same : Ask [[8]]
theorem w32 {k : Int} (h : Dx06Neutral.whole32 k = true) : ∃ n : Nat, k = (n : Int) ∧ n < 4294967296 := by
  simp only [Dx06Neutral.whole32, Bool.and_eq_true, decide_eq_true_eq] at h
  exact ⟨k.toNat, (Int.toNat_of_nonneg h.1).symm, by omega⟩
theorem ask_of {c : List (List Int)} (h : Dx06Neutral.asked1 c = true) : Ask c := by
  unfold Dx06Neutral.asked1 at h
  split at h
  · exact .begins
  · simp only [Bool.and_eq_true] at h
    obtain ⟨n, rfl, _⟩ := w32 h.1
    exact .rule n _ _ (row_ok h.2.1) (row_ok h.2.2)
  · simp only [Bool.and_eq_true] at h
    obtain ⟨n, rfl, _⟩ := w32 h.1
    obtain ⟨i, rfl, hi⟩ := w32 h.2
    exact .drop n i hi
  · simp only [Bool.and_eq_true] at h
    obtain ⟨n, rfl, _⟩ := w32 h.1
    exact .follows n _ _ (row_ok h.2.1) (row_ok h.2.2)
  · simp only [Bool.and_eq_true] at h
    obtain ⟨n, rfl, _⟩ := w32 h.1
    exact .shows n _ _ (row_ok h.2.1) (row_ok h.2.2)
  · obtain ⟨n, rfl, _⟩ := w32 h; exact .spare n
  · obtain ⟨n, rfl, _⟩ := w32 h; exact .thin n
  · obtain ⟨n, rfl, _⟩ := w32 h; exact .within n
  · exact .same
  · cases h
end Rb

/-! ## A6 -/
set_option Elab.async false
set_option linter.all false
set_option maxRecDepth 100000
set_option maxHeartbeats 2000000
/-! A6: from what is asked of a call to what the desk's method promises. -/
namespace Rb
open PySem PySem.Spec PyProof.Rows L2
open Dx06 (House)
open Dx06Neutral (nats)
/-- the ways out of one call -/
def OutQ (CD CR : Addr) (H : Hp) (Q : VK) (a : Addr) (D X : List Addr) (r : House × List Int) : Prop :=
  ∀ (H' : Hp) (D' : List Addr) (p : Addr), DeskAt CD CR H' a D' X r.1 → (∀ b ∈ D', b ∈ D ∨ H b = none) → Fr D H H' → H p = none → p ∉ D' → H' p = some (.lst (r.2.map V.int)) → Q (.ref p) H'
def OutE (K : PySem.W.Frag) (CB : Addr) (H : Hp) (E : XK) (h : House) (r : House × List Int) : Prop := ∀ (C : Addr) (k : Int), RefC K CB C → r = (h, [k]) → Refuses E H C k
section
variable {K : PySem.W.Frag} {CD CN CP CC CR CX CB CF : Addr} {H : Hp} {Q : VK} {E : XK} {a : Addr} {D X : List Addr} {h : House}
theorem app_same (dk : DeskAt CD CR H a D X h) {v : List Int} (q : OutQ CD CR H Q a D X (h, v)) {H' : Hp} {p : Addr} (s : Same H H') (n : H p = none) (e : H' p = some (.lst (v.map V.int))) : Q (.ref p) H' :=
  q H' D p (dk.same s) (fun b hb => .inl hb) (fun b o z _ => s _ _ z) n (fun m => by obtain ⟨o, z⟩ := dk.there.1 p m; rw [z] at n; cases n) e
theorem app_ask {k : Nat} {p q : Addr} {b d : List Int} (dk : DeskAt CD CR H a D X h) (ho : HouseOk h) (hp : H p = some (.lst (b.map V.int))) (hq : H q = some (.lst (d.map V.int))) (rb : RowOk b) (rd : RowOk d) (RN : RefC K CB CN) (RP : RefC K CB CP) (RC : RefC K CB CC)
    {f : List Dx.Rule → Dx.Rule → Dx06.Ans} {good : List Dx.Rule → Dx.Rule → Prop}
    (hE : OutE K CB H E h (match Dx05.rule? (nats b) (nats d) with
      | none => (h, [-1])
      | some r => (h, Dx06Neutral.out (Dx06.asks h k fun rs => f rs r).2)))
    (hend : ∀ r, Dx05.rule? (nats b) (nats d) = some r → ¬ (1 < k ∨ Dx05.ends (h.get k) = false) → Dx06.ended 100 (h.get k) r = true)
    (hg : ∀ r, Dx05.rule? (nats b) (nats d) = some r → ¬ 1 < k → Dx05.ends (h.get k) = true → good (h.get k) r) : AskIs CD CN CP CC CR [.ref a, nI k, .ref p, .ref q] H E good := by
  obtain ⟨dx, lb, l0, l1, ras0, ras1, G, rfl, di⟩ := dk
  refine ⟨a, dx, lb, l0, l1, k, _, h.get k, p, q, nats b, nats d, rfl, di.book ho k, by rw [hp, rb.1], by rw [hq, rd.1], by have := rb.2; omega, by have := rd.2; omega, fun e => ?_, fun r er => ⟨fun c => ?_, fun c e => ?_, fun c e => ⟨hend r er (by rintro (z | z); exact c z; rw [e] at z; cases z), hg r er c e⟩⟩⟩
  · rw [e] at hE
    exact hE CN (-1) RN rfl
  · rw [er] at hE
    refine hE CP (-2) RP ?_
    show (h, Dx06Neutral.out (if 1 < k then Dx06.ok (-2) else _)) = _
    rw [if_pos c]; rfl
  · rw [er] at hE
    refine hE CC (-6) RC ?_
    show (h, Dx06Neutral.out (if 1 < k then Dx06.ok (-2) else if Dx05.ends (h.get k) = false then Dx06.ok (-6) else _)) = _
    rw [if_neg c, if_pos e]; rfl
theorem app_fol {k : Nat} {p q : Addr} {b d : List Int} (dk : DeskAt CD CR H a D X h) (ho : HouseOk h) (hp : H p = some (.lst (b.map V.int))) (hq : H q = some (.lst (d.map V.int))) (rb : RowOk b) (rd : RowOk d) (RN : RefC K CB CN) (RP : RefC K CB CP) (RC : RefC K CB CC)
    (hend : Dx06.endedCall 100 h (.follows k (nats b) (nats d)) = true) (hQ : OutQ CD CR H Q a D X (stp h [[3, (k : Int)], b, d])) (hE : OutE K CB H E h (stp h [[3, (k : Int)], b, d])) : spKFol CD CN CP CC CR [.ref a, nI k, .ref p, .ref q] H Q E := by
  have est : stp h [[3, (k : Int)], b, d] = match Dx05.rule? (nats b) (nats d) with
      | none => (h, [-1])
      | some r => (h, Dx06Neutral.out (Dx06.asks h k fun rs => Dx06.ok (Dx06.flag (Dx06.follows rs r) : Nat)).2) := by
    show ((Dx06.step h (.follows k (nats b) (nats d))).1, Dx06Neutral.out (Dx06.step h (.follows k (nats b) (nats d))).2) = _
    simp only [Dx06.step]
    cases Dx05.rule? (nats b) (nats d) <;> rfl
  rw [est] at hQ hE
  refine app_ask (f := fun rs r => Dx06.ok (Dx06.flag (Dx06.follows rs r) : Nat)) dk ho hp hq rb rd RN RP RC hE (fun r er c => ?_) fun r er c e H' p' s n e' => ?_
  · simp only [Dx06.endedCall] at hend
    rw [er] at hend
    dsimp only at hend
    rw [if_neg c] at hend
    exact hend
  · rw [er] at hQ
    have ev : Dx06Neutral.out (Dx06.asks h k fun rs => Dx06.ok (Dx06.flag (Dx06.follows rs r) : Nat)).2 = [((Dx06.flag (Dx06.follows (h.get k) r) : Nat) : Int)] := by
      show Dx06Neutral.out (if 1 < k then Dx06.ok (-2) else if Dx05.ends (h.get k) = false then Dx06.ok (-6) else _) = _
      rw [if_neg c, if_neg (by rw [e]; exact Bool.noConfusion)]; rfl
    dsimp only at hQ
    rw [ev] at hQ
    exact app_same dk hQ s n e'
theorem app_sho {k : Nat} {p q : Addr} {b d : List Int} (dk : DeskAt CD CR H a D X h) (ho : HouseOk h) (hp : H p = some (.lst (b.map V.int))) (hq : H q = some (.lst (d.map V.int))) (rb : RowOk b) (rd : RowOk d) (RN : RefC K CB CN) (RP : RefC K CB CP) (RC : RefC K CB CC) (RX : RefC K CB CX)
    (hend : Dx06.endedCall 100 h (.shows k (nats b) (nats d)) = true) (hQ : OutQ CD CR H Q a D X (stp h [[4, (k : Int)], b, d])) (hE : OutE K CB H E h (stp h [[4, (k : Int)], b, d])) : spKSho CD CN CP CC CR CX [.ref a, nI k, .ref p, .ref q] H Q E := by
  have est : stp h [[4, (k : Int)], b, d] = match Dx05.rule? (nats b) (nats d) with
      | none => (h, [-1])
      | some r => (h, Dx06Neutral.out (Dx06.asks h k fun rs => if Dx06.follows rs r = true then Dx06.ok (-3) else ⟨((Dx06.comes rs r).length : Nat), Dx05.told (Dx06.comes rs r)⟩).2) := by
    show ((Dx06.step h (.shows k (nats b) (nats d))).1, Dx06Neutral.out (Dx06.step h (.shows k (nats b) (nats d))).2) = _
    simp only [Dx06.step]
    cases Dx05.rule? (nats b) (nats d) <;> rfl
  rw [est] at hQ hE
  refine app_ask (f := fun rs r => if Dx06.follows rs r = true then Dx06.ok (-3) else ⟨((Dx06.comes rs r).length : Nat), Dx05.told (Dx06.comes rs r)⟩) dk ho hp hq rb rd RN RP RC hE (fun r er c => ?_) fun r er c e => ?_
  · simp only [Dx06.endedCall] at hend
    rw [er] at hend
    dsimp only at hend
    rw [if_neg c] at hend
    exact hend
  · rw [er] at hQ hE
    have ev : Dx06Neutral.out (Dx06.asks h k fun rs => if Dx06.follows rs r = true then Dx06.ok (-3) else ⟨((Dx06.comes rs r).length : Nat), Dx05.told (Dx06.comes rs r)⟩).2 = Dx06Neutral.out (if Dx06.follows (h.get k) r = true then Dx06.ok (-3) else ⟨((Dx06.comes (h.get k) r).length : Nat), Dx05.told (Dx06.comes (h.get k) r)⟩) := by
      show Dx06Neutral.out (if 1 < k then Dx06.ok (-2) else if Dx05.ends (h.get k) = false then Dx06.ok (-6) else _) = _
      rw [if_neg c, if_neg (by rw [e]; exact Bool.noConfusion)]
    dsimp only at hQ hE
    rw [ev] at hQ hE
    refine ⟨fun hf => ?_, fun hf H' p' s n e' => ?_⟩
    · rw [if_pos hf] at hE
      exact hE CX (-3) RX rfl
    · rw [if_neg (by rw [hf]; exact Bool.noConfusion)] at hQ
      refine app_same dk hQ s n ?_
      rw [e']
      show _ = some (HO.lst (V.int _ :: ((Dx05.told _).map fun n : Nat => (n : Int)).map V.int))
      rw [List.map_map]; rfl
theorem app_rule {k : Nat} {p q : Addr} {b d : List Int} (dk : DeskAt CD CR H a D X h) (ho : HouseOk h) (hp : H p = some (.lst (b.map V.int))) (hq : H q = some (.lst (d.map V.int))) (rb : RowOk b) (rd : RowOk d) (RN : RefC K CB CN) (RP : RefC K CB CP) (RF : RefC K CB CF)
    (hQ : OutQ CD CR H Q a D X (stp h [[1, (k : Int)], b, d])) (hE : OutE K CB H E h (stp h [[1, (k : Int)], b, d])) : spKRule CD CN CP CF CR [.ref a, nI k, .ref p, .ref q] H Q E := by
  have est : stp h [[1, (k : Int)], b, d] = if 1 < k then (h, [-2]) else match Dx05.rule? (nats b) (nats d) with
      | none => (h, [-1])
      | some r => if (h.get k).length = 3 then (h, [-7]) else (h.set k (h.get k ++ [r]), [((h.get k).length : Int)]) := by
    show ((Dx06.step h (.rule k (nats b) (nats d))).1, Dx06Neutral.out (Dx06.step h (.rule k (nats b) (nats d))).2) = _
    simp only [Dx06.step]
    by_cases c : 1 < k
    · rw [if_pos c, if_pos c]; rfl
    · rw [if_neg c, if_neg c]
      cases Dx05.rule? (nats b) (nats d) with
      | none => rfl
      | some r =>
        dsimp only
        have e3 : Dx05.RULES = 3 := rfl
        rw [e3]
        by_cases c3 : (h.get k).length = 3
        · rw [if_pos c3, if_pos c3]; rfl
        · rw [if_neg c3, if_neg c3]; rfl
  rw [est] at hQ hE
  refine ⟨a, D, X, k, p, q, h, nats b, nats d, rfl, dk, ho, by rw [hp, rb.1], by rw [hq, rd.1], by have := rb.2; omega, by have := rd.2; omega, fun c => ?_, fun c e => ?_, fun r c e => ⟨fun c3 => ?_, fun c3 => ?_⟩⟩
  · rw [if_pos c] at hE; exact hE CP (-2) RP rfl
  · rw [if_neg c, e] at hE; exact hE CN (-1) RN rfl
  · rw [if_neg c, e] at hE
    dsimp only at hE
    rw [if_pos c3] at hE; exact hE CF (-7) RF rfl
  · rw [if_neg c, e] at hQ
    dsimp only at hQ
    rw [if_neg c3] at hQ
    exact hQ
theorem app_drop {k i : Nat} (hi : i < 4294967296) (dk : DeskAt CD CR H a D X h) (ho : HouseOk h) (RP : RefC K CB CP) (hQ : OutQ CD CR H Q a D X (stp h [[2, (k : Int), (i : Int)]])) (hE : OutE K CB H E h (stp h [[2, (k : Int), (i : Int)]])) : spKDrop CD CP CR [.ref a, nI k, nI i] H Q E := by
  have est : stp h [[2, (k : Int), (i : Int)]] = if 1 < k ∨ (h.get k).length ≤ i then (h, [-2]) else (h.set k (Dx06.others (h.get k) i), [(((h.get k).length - 1 : Nat) : Int)]) := by
    show ((Dx06.step h (.drop k i)).1, Dx06Neutral.out (Dx06.step h (.drop k i)).2) = _
    simp only [Dx06.step]
    by_cases c : 1 < k ∨ (h.get k).length ≤ i
    · rw [if_pos c, if_pos c]; rfl
    · rw [if_neg c, if_neg c]; rfl
  rw [est] at hQ hE
  refine ⟨a, D, X, k, i, h, rfl, hi, dk, ho, fun c => ?_, fun c => ?_⟩
  · rw [if_pos c] at hE; exact hE CP (-2) RP rfl
  · rw [if_neg c] at hQ; exact hQ
theorem app_beg (dk : DeskAt CD CR H a D X h) (hQ : OutQ CD CR H Q a D X (stp h [[0]])) : spKBeg CD CR [.ref a] H Q E := ⟨a, D, X, h, rfl, dk, hQ⟩
theorem app_spa {k : Nat} (dk : DeskAt CD CR H a D X h) (ho : HouseOk h) (RP : RefC K CB CP) (RC : RefC K CB CC) (hend : Dx06.endedCall 100 h (.spare k) = true)
    (hQ : OutQ CD CR H Q a D X (stp h [[5, (k : Int)]])) (hE : OutE K CB H E h (stp h [[5, (k : Int)]])) : spKSp CD CP CC CR [.ref a, nI k] H Q E := by
  have est : stp h [[5, (k : Int)]] = (h, Dx06Neutral.out (if 1 < k then Dx06.ok (-2) else if Dx05.ends (h.get k) = false then Dx06.ok (-6) else ⟨(((List.range (h.get k).length).filter (spareAt (h.get k))).length : Nat), (List.range (h.get k).length).filter (spareAt (h.get k))⟩)) := rfl
  rw [est] at hQ hE
  have dk0 := dk
  obtain ⟨dx, lb, l0, l1, ras0, ras1, G, rfl, di⟩ := dk
  refine ⟨a, dx, lb, l0, l1, k, _, h.get k, rfl, di.book ho k, fun c => ?_, fun c e => ?_, fun c e => ⟨fun i r hr => ?_, fun H' p' s n e' => ?_⟩⟩
  · rw [if_pos c] at hE; exact hE CP (-2) RP rfl
  · rw [if_neg c, if_pos e] at hE; exact hE CC (-6) RC rfl
  · have hend' : (if 1 < k ∨ Dx05.ends (h.get k) = false then true else (List.range (h.get k).length).all fun i => match (h.get k)[i]? with
      | some r => Dx06.ended 100 (Dx06.others (h.get k) i) r
      | none => true) = true := hend
    rw [if_neg (by rintro (z | z); exact c z; rw [e] at z; cases z), List.all_eq_true] at hend'
    have z := hend' i (List.mem_range.mpr (List.getElem?_eq_some_iff.mp hr).1)
    rw [hr] at z
    exact z
  · rw [if_neg c, if_neg (by rw [e]; exact Bool.noConfusion)] at hQ
    refine app_same dk0 hQ s n ?_
    rw [e']
    show _ = some (HO.lst (V.int _ :: (((List.range (h.get k).length).filter (spareAt (h.get k))).map fun n : Nat => (n : Int)).map V.int))
    rw [List.map_map]; rfl
theorem app_wit {k : Nat} (dk : DeskAt CD CR H a D X h) (ho : HouseOk h) (RP : RefC K CB CP) (RC : RefC K CB CC) (hend : Dx06.endedCall 100 h (.within k) = true)
    (hQ : OutQ CD CR H Q a D X (stp h [[7, (k : Int)]])) (hE : OutE K CB H E h (stp h [[7, (k : Int)]])) : spKWi CD CP CC CR [.ref a, nI k] H Q E := by
  have est : stp h [[7, (k : Int)]] = (h, Dx06Neutral.out (if 1 < k then Dx06.ok (-2) else if Dx05.ends (h.get k) = false then Dx06.ok (-6) else ⟨(((List.range (h.get (1 - k)).length).filter (strayAt (h.get (1 - k)) (h.get k))).length : Nat), (List.range (h.get (1 - k)).length).filter (strayAt (h.get (1 - k)) (h.get k))⟩)) := rfl
  rw [est] at hQ hE
  have dk0 := dk
  obtain ⟨dx, lb, l0, l1, ras0, ras1, G, rfl, di⟩ := dk
  refine ⟨a, dx, lb, l0, l1, k, _, _, h.get k, h.get (1 - k), rfl, di.book ho k, di.book ho (1 - k), fun c => ?_, fun c e => ?_, fun c e => ⟨fun q hq => ?_, fun H' p' s n e' => ?_⟩⟩
  · rw [if_pos c] at hE; exact hE CP (-2) RP rfl
  · rw [if_neg c, if_pos e] at hE; exact hE CC (-6) RC rfl
  · have hend' : (if 1 < k ∨ Dx05.ends (h.get k) = false then true else (h.get (1 - k)).all (Dx06.ended 100 (h.get k))) = true := hend
    rw [if_neg (by rintro (z | z); exact c z; rw [e] at z; cases z), List.all_eq_true] at hend'
    exact hend' q hq
  · rw [if_neg c, if_neg (by rw [e]; exact Bool.noConfusion)] at hQ
    refine app_same dk0 hQ s n ?_
    rw [e']
    show _ = some (HO.lst (V.int _ :: (((List.range (h.get (1 - k)).length).filter (strayAt (h.get (1 - k)) (h.get k))).map fun n : Nat => (n : Int)).map V.int))
    rw [List.map_map]; rfl
theorem app_sam (dk : DeskAt CD CR H a D X h) (ho : HouseOk h) (RC : RefC K CB CC) (hend : Dx06.endedCall 100 h .same = true)
    (hQ : OutQ CD CR H Q a D X (stp h [[8]])) (hE : OutE K CB H E h (stp h [[8]])) : spKSa CD CC CR [.ref a] H Q E := by
  have est : stp h [[8]] = (h, Dx06Neutral.out (if Dx05.ends h.one = false ∨ Dx05.ends h.two = false then Dx06.ok (-6) else Dx06.ok (Dx06.flag (h.two.all (Dx06.follows h.one) && h.one.all (Dx06.follows h.two)) : Nat))) := rfl
  rw [est] at hQ hE
  have dk0 := dk
  obtain ⟨dx, lb, l0, l1, ras0, ras1, G, rfl, di⟩ := dk
  refine ⟨a, dx, lb, l0, l1, _, _, h.one, h.two, rfl, di.book ho 0, di.book ho 1, fun c => ?_, fun e1 e2 => ?_⟩
  · rw [if_pos c] at hE; exact hE CC (-6) RC rfl
  · have nc : ¬ (Dx05.ends h.one = false ∨ Dx05.ends h.two = false) := by
      rintro (z | z)
      · rw [e1] at z; cases z
      · rw [e2] at z; cases z
    have hend' : (if Dx05.ends h.one = false ∨ Dx05.ends h.two = false then true else h.two.all (Dx06.ended 100 h.one) && h.one.all (Dx06.ended 100 h.two)) = true := hend
    rw [if_neg nc, Bool.and_eq_true, List.all_eq_true, List.all_eq_true] at hend'
    refine ⟨hend'.1, hend'.2, fun H' p' s n e' => ?_⟩
    rw [if_neg nc] at hQ
    exact app_same dk0 hQ s n e'
theorem app_thi {k : Nat} (dk : DeskAt CD CR H a D X h) (ho : HouseOk h) (RP : RefC K CB CP) (RC : RefC K CB CC) (hend : Dx06.endedCall 100 h (.thin k) = true)
    (hQ : OutQ CD CR H Q a D X (stp h [[6, (k : Int)]])) (hE : OutE K CB H E h (stp h [[6, (k : Int)]])) : spKTh CD CP CC CR [.ref a, nI k] H Q E := by
  have est : stp h [[6, (k : Int)]] = if 1 < k then (h, [-2]) else if Dx05.ends (h.get k) = false then (h, [-6]) else (h.set k (Dx06.thin (h.get k).length (h.get k)), [((Dx06.thin (h.get k).length (h.get k)).length : Int)]) := by
    show ((Dx06.step h (.thin k)).1, Dx06Neutral.out (Dx06.step h (.thin k)).2) = _
    simp only [Dx06.step]
    by_cases c : 1 < k
    · rw [if_pos c, if_pos c]; rfl
    · rw [if_neg c, if_neg c]
      by_cases e : Dx05.ends (h.get k) = false
      · rw [if_pos e, if_pos e]; rfl
      · rw [if_neg e, if_neg e]; rfl
  rw [est] at hQ hE
  refine ⟨a, D, X, k, h, rfl, dk, ho, fun c => ?_, fun c e => ?_, fun c e => ⟨?_, ?_⟩⟩
  · rw [if_pos c] at hE; exact hE CP (-2) RP rfl
  · rw [if_neg c, if_pos e] at hE; exact hE CC (-6) RC rfl
  · have hend' : (if 1 < k ∨ Dx05.ends (h.get k) = false then true else Dx06.endedThin 100 (h.get k).length (h.get k)) = true := hend
    rw [if_neg (by rintro (z | z); exact c z; rw [e] at z; cases z)] at hend'
    exact hend'
  · rw [if_neg c, if_neg (by rw [e]; exact Bool.noConfusion)] at hQ
    exact hQ
end
end Rb

/-! ## A7 -/
set_option Elab.async false
set_option linter.all false
set_option maxRecDepth 100000
set_option maxHeartbeats 8000000
/-! A7: applied. -/
namespace Rb
open PySem PySem.Spec PyProof.Rows L2
open Dx06 (House)
open Dx06Neutral (nats)
abbrev sApp : Stmt := topS 57
theorem scApp : FnScope ["desk", "call"] ["desk", "call"] (defScope sApp) := ⟨rfl, rfl, rfl, by decide +kernel, rfl, by decide +kernel, by decide +kernel⟩
theorem lF_op (p : Int) (ln lr : Addr) : (lF p ln lr).lookup ("operation" : Str) = some (.int p) := by rfl
theorem lF_nu (p : Int) (ln lr : Addr) : (lF p ln lr).lookup ("numbers" : Str) = some (.ref ln) := by rfl
theorem lF_ro (p : Int) (ln lr : Addr) : (lF p ln lr).lookup ("rows" : Str) = some (.ref lr) := by rfl
structure PTxt (mg : Str → Option Value) : Prop where
  m0 : ∃ t, mg "BEGINS" = some (.int 0 t)
  m1 : ∃ t, mg "RULE" = some (.int 1 t)
  m2 : ∃ t, mg "DROP" = some (.int 2 t)
  m3 : ∃ t, mg "FOLLOWS" = some (.int 3 t)
  m4 : ∃ t, mg "SHOWS" = some (.int 4 t)
  m5 : ∃ t, mg "SPARE" = some (.int 5 t)
  m6 : ∃ t, mg "THIN" = some (.int 6 t)
  m7 : ∃ t, mg "WITHIN" = some (.int 7 t)
theorem ne_int {i j : Int} (h : i ≠ j) : decide (V.int i = V.int j) = false := decide_eq_false fun z => h (V.int.inj z)
theorem eq_int (i : Int) : decide (V.int i = V.int i) = true := decide_eq_true rfl
theorem two_rows {H : Hp} {rrs : List Addr} {b d : List Int} (h : Paired (RowAt H) rrs [b, d]) : ∃ r1 r2, rrs = [r1, r2] ∧ RowAt H r1 b ∧ RowAt H r2 d := by
  cases h with
  | cons h1 t =>
    cases t with
    | cons h2 t =>
      cases t
      exact ⟨_, _, rfl, h1, h2⟩
theorem atI_one {α : Type} (x y : α) (r : List α) : atI (x :: y :: r) 1 = some y := atI_nat (j := 1) rfl
section
variable {P : Program} {w : World} {K : PySem.W.Frag} {mg : Str → Option Value} {base : Heap} {CD CN CP CC CR CX CB CF CA aN aR : Addr}
theorem ok_app {f : Addr} {fd : FuncData} (F : Fun K "applied" "applied" sApp f fd) (T : KTxt K mg CD) (TQ : QTxt K mg CA aN aR) (TP : PTxt mg)
    (RN : RefC K CB CN) (RP : RefC K CB CP) (RX : RefC K CB CX) (RC : RefC K CB CC) (RF : RefC K CB CF)
    (G0 : MeB P w K mg base CX0 CD "begins" ["self"] 1 (spKBeg CD CR))
    (G1 : MeB P w K mg base (L2.CX P w) CD "rule" ["self", "book", "body", "head"] 6 (spKRule CD CN CP CF CR))
    (G2 : MeB P w K mg base (L2.CX P w) CD "drop" ["self", "book", "index"] 5 (spKDrop CD CP CR))
    (G3 : MeB P w K mg base (L2.CX P w) CD "follows" ["self", "book", "body", "head"] 9 (spKFol CD CN CP CC CR))
    (G4 : MeB P w K mg base (L2.CX P w) CD "shows" ["self", "book", "body", "head"] 8 (spKSho CD CN CP CC CR CX))
    (G5 : MeB P w K mg base (L2.CX P w) CD "spare" ["self", "book"] 11 (spKSp CD CP CC CR))
    (G6 : MeB P w K mg base (L2.CX P w) CD "thin" ["self", "book"] 11 (spKTh CD CP CC CR))
    (G7 : MeB P w K mg base (L2.CX P w) CD "within" ["self", "book"] 10 (spKWi CD CP CC CR))
    (G8 : MeB P w K mg base (L2.CX P w) CD "same" ["self"] 10 (spKSa CD CC CR)) :
    FnOk P w K mg base (L2.CX P w) 12 f fd ["desk", "call"] (spApp K CD CR CA CB) := by
  obtain ⟨t0, m0⟩ := TP.m0
  obtain ⟨t1, m1⟩ := TP.m1
  obtain ⟨t2, m2⟩ := TP.m2
  obtain ⟨t3, m3⟩ := TP.m3
  obtain ⟨t4, m4⟩ := TP.m4
  obtain ⟨t5, m5⟩ := TP.m5
  obtain ⟨t6, m6⟩ := TP.m6
  obtain ⟨t7, m7⟩ := TP.m7
  refine F.okX scApp (fun vs H Q E h => ?_) (fun cdv A outer s H vs Q E hr h => ?_)
  · obtain ⟨a, q, D, X, h, c, rfl, _⟩ := h
    rfl
  · have hr10 : Room 10 _ := hr.mono (by decide)
    have hr9 : Room 9 _ := hr.mono (by decide)
    have hr8 : Room 8 _ := hr.mono (by decide)
    have hr6 : Room 6 _ := hr.mono (by decide)
    have hr5 : Room 5 _ := hr.mono (by decide)
    have hr1 : Room 1 _ := hr.mono (by decide)
    refine ⟨_, pss_cons (ps_if (pt_cmpR op_eq (pe_fld (pv 1) rfl) (pe_glob (v := .int 0) (by rfl) m0 ⟨_, rfl⟩) (nomark _)) (pss_one (ps_ret (pe_methF0 (E := E) (pv 0) T.cl G0 hr1 pass0))) pss_nil)
      (pss_cons (ps_if (pt_cmpR op_eq (pe_fld (pv 1) rfl) (pe_glob (v := .int 1) (by rfl) m1 ⟨_, rfl⟩) (nomark _)) (pss_one (ps_ret (pe_methF (E := E) (pv 0) T.cl G1 hr6 (passes_call (takes_of rfl rfl rfl rfl) fun _ _ _ _ h => h) (pa_cons (pe_ix ix_list (pe_fld (pv 1) rfl) pe_int (fun _ _ => rfl)) (pa_cons (pe_ix ix_list (pe_fld (pv 1) rfl) pe_int (fun _ _ => rfl)) (pa_cons (pe_ix ix_list (pe_fld (pv 1) rfl) pe_int (fun _ _ => rfl)) pa_nil)))))) pss_nil)
      (pss_cons (ps_if (pt_cmpR op_eq (pe_fld (pv 1) rfl) (pe_glob (v := .int 2) (by rfl) m2 ⟨_, rfl⟩) (nomark _)) (pss_one (ps_ret (pe_methF (E := E) (pv 0) T.cl G2 hr5 (passes_call (takes_of rfl rfl rfl rfl) fun _ _ _ _ h => h) (pa_cons (pe_ix ix_list (pe_fld (pv 1) rfl) pe_int (fun _ _ => rfl)) (pa_cons (pe_ix ix_list (pe_fld (pv 1) rfl) pe_int (fun _ _ => rfl)) pa_nil))))) pss_nil)
      (pss_cons (ps_if (pt_cmpR op_eq (pe_fld (pv 1) rfl) (pe_glob (v := .int 3) (by rfl) m3 ⟨_, rfl⟩) (nomark _)) (pss_one (ps_ret (pe_methF (E := E) (pv 0) T.cl G3 hr9 (passes_call (takes_of rfl rfl rfl rfl) fun _ _ _ _ h => h) (pa_cons (pe_ix ix_list (pe_fld (pv 1) rfl) pe_int (fun _ _ => rfl)) (pa_cons (pe_ix ix_list (pe_fld (pv 1) rfl) pe_int (fun _ _ => rfl)) (pa_cons (pe_ix ix_list (pe_fld (pv 1) rfl) pe_int (fun _ _ => rfl)) pa_nil)))))) pss_nil)
      (pss_cons (ps_if (pt_cmpR op_eq (pe_fld (pv 1) rfl) (pe_glob (v := .int 4) (by rfl) m4 ⟨_, rfl⟩) (nomark _)) (pss_one (ps_ret (pe_methF (E := E) (pv 0) T.cl G4 hr8 (passes_call (takes_of rfl rfl rfl rfl) fun _ _ _ _ h => h) (pa_cons (pe_ix ix_list (pe_fld (pv 1) rfl) pe_int (fun _ _ => rfl)) (pa_cons (pe_ix ix_list (pe_fld (pv 1) rfl) pe_int (fun _ _ => rfl)) (pa_cons (pe_ix ix_list (pe_fld (pv 1) rfl) pe_int (fun _ _ => rfl)) pa_nil)))))) pss_nil)
      (pss_cons (ps_if (pt_cmpR op_eq (pe_fld (pv 1) rfl) (pe_glob (v := .int 5) (by rfl) m5 ⟨_, rfl⟩) (nomark _)) (pss_one (ps_ret (pe_methF (E := E) (pv 0) T.cl G5 hr (passes_call (takes_of rfl rfl rfl rfl) fun _ _ _ _ h => h) (pa_cons (pe_ix ix_list (pe_fld (pv 1) rfl) pe_int (fun _ _ => rfl)) pa_nil)))) pss_nil)
      (pss_cons (ps_if (pt_cmpR op_eq (pe_fld (pv 1) rfl) (pe_glob (v := .int 6) (by rfl) m6 ⟨_, rfl⟩) (nomark _)) (pss_one (ps_ret (pe_methF (E := E) (pv 0) T.cl G6 hr (passes_call (takes_of rfl rfl rfl rfl) fun _ _ _ _ h => h) (pa_cons (pe_ix ix_list (pe_fld (pv 1) rfl) pe_int (fun _ _ => rfl)) pa_nil)))) pss_nil)
      (pss_cons (ps_if (pt_cmpR op_eq (pe_fld (pv 1) rfl) (pe_glob (v := .int 7) (by rfl) m7 ⟨_, rfl⟩) (nomark _)) (pss_one (ps_ret (pe_methF (E := E) (pv 0) T.cl G7 hr10 (passes_call (takes_of rfl rfl rfl rfl) fun _ _ _ _ h => h) (pa_cons (pe_ix ix_list (pe_fld (pv 1) rfl) pe_int (fun _ _ => rfl)) pa_nil)))) pss_nil)
      (pss_one (ps_ret (pe_methF0 (E := E) (pv 0) T.cl G8 hr10 (passes_call (takes_of rfl rfl rfl rfl) fun _ _ _ _ h => h))))))))))), ?_⟩
    obtain ⟨a, q, D, X, h, c, rfl, dk, ho, hc, hask, hend, hQ, hE⟩ := h
    have hQ' : OutQ CD CR H Q a D X (stp h c) := hQ
    have hE' : OutE K CB H E h (stp h c) := hE
    clear hQ hE
    obtain ⟨dxq, ln, lr, p, nums, rows, rrs, ec, hq, hln, hlr, hrr⟩ := hc
    have hda : ∃ dxd lb, H a = some (.ins CD dxd (kF lb)) := by
      obtain ⟨dx, lb, l0, l1, _, _, _, _, q⟩ := dk
      exact ⟨dx, lb, q.ha⟩
    obtain ⟨dxd, lb, hda⟩ := hda
    cases ask_of hask with
    | begins =>
      cases ec
      refine ⟨_, rfl, q, CA, dxq, _, _, rfl, hq, TQ.cl, TQ.nO, lF_op _ _ _, rfl, _, rfl, ifT (eq_int _) ?_⟩
      exact ⟨_, rfl, a, dxd, _, rfl, hda, rfl, app_beg (E := E) dk hQ'⟩
    | rule k b d rb rd =>
      cases ec
      obtain ⟨r1, r2, rfl, h1, h2⟩ := two_rows hrr
      refine ⟨_, rfl, q, CA, dxq, _, _, rfl, hq, TQ.cl, TQ.nO, lF_op _ _ _, rfl, _, rfl, ifF (ne_int (by decide)) ?_⟩
      refine ⟨_, rfl, q, CA, dxq, _, _, rfl, hq, TQ.cl, TQ.nO, lF_op _ _ _, rfl, _, rfl, ifT (eq_int _) ?_⟩
      exact ⟨_, rfl, a, dxd, _, rfl, hda, rfl, _, rfl, q, CA, dxq, _, _, rfl, hq, TQ.cl, TQ.nN, lF_nu _ _ _, ln, _, _, _, rfl, rfl, SqL.of hln, atI_zero _ _, _, rfl, q, CA, dxq, _, _, rfl, hq, TQ.cl, TQ.nR, lF_ro _ _ _, lr, _, _, _, rfl, rfl, SqL.of hlr, atI_zero _ _, _, rfl, q, CA, dxq, _, _, rfl, hq, TQ.cl, TQ.nR, lF_ro _ _ _, lr, _, _, _, rfl, rfl, SqL.of hlr, atI_one _ _ _, app_rule dk ho h1 h2 rb rd RN RP RF hQ' hE'⟩
    | drop k i hi =>
      cases ec
      refine ⟨_, rfl, q, CA, dxq, _, _, rfl, hq, TQ.cl, TQ.nO, lF_op _ _ _, rfl, _, rfl, ifF (ne_int (by decide)) ?_⟩
      refine ⟨_, rfl, q, CA, dxq, _, _, rfl, hq, TQ.cl, TQ.nO, lF_op _ _ _, rfl, _, rfl, ifF (ne_int (by decide)) ?_⟩
      refine ⟨_, rfl, q, CA, dxq, _, _, rfl, hq, TQ.cl, TQ.nO, lF_op _ _ _, rfl, _, rfl, ifT (eq_int _) ?_⟩
      exact ⟨_, rfl, a, dxd, _, rfl, hda, rfl, _, rfl, q, CA, dxq, _, _, rfl, hq, TQ.cl, TQ.nN, lF_nu _ _ _, ln, _, _, _, rfl, rfl, SqL.of hln, atI_zero _ _, _, rfl, q, CA, dxq, _, _, rfl, hq, TQ.cl, TQ.nN, lF_nu _ _ _, ln, _, _, _, rfl, rfl, SqL.of hln, atI_one _ _ _, app_drop hi dk ho RP hQ' hE'⟩
    | follows k b d rb rd =>
      cases ec
      obtain ⟨r1, r2, rfl, h1, h2⟩ := two_rows hrr
      refine ⟨_, rfl, q, CA, dxq, _, _, rfl, hq, TQ.cl, TQ.nO, lF_op _ _ _, rfl, _, rfl, ifF (ne_int (by decide)) ?_⟩
      refine ⟨_, rfl, q, CA, dxq, _, _, rfl, hq, TQ.cl, TQ.nO, lF_op _ _ _, rfl, _, rfl, ifF (ne_int (by decide)) ?_⟩
      refine ⟨_, rfl, q, CA, dxq, _, _, rfl, hq, TQ.cl, TQ.nO, lF_op _ _ _, rfl, _, rfl, ifF (ne_int (by decide)) ?_⟩
      refine ⟨_, rfl, q, CA, dxq, _, _, rfl, hq, TQ.cl, TQ.nO, lF_op _ _ _, rfl, _, rfl, ifT (eq_int _) ?_⟩
      exact ⟨_, rfl, a, dxd, _, rfl, hda, rfl, _, rfl, q, CA, dxq, _, _, rfl, hq, TQ.cl, TQ.nN, lF_nu _ _ _, ln, _, _, _, rfl, rfl, SqL.of hln, atI_zero _ _, _, rfl, q, CA, dxq, _, _, rfl, hq, TQ.cl, TQ.nR, lF_ro _ _ _, lr, _, _, _, rfl, rfl, SqL.of hlr, atI_zero _ _, _, rfl, q, CA, dxq, _, _, rfl, hq, TQ.cl, TQ.nR, lF_ro _ _ _, lr, _, _, _, rfl, rfl, SqL.of hlr, atI_one _ _ _, app_fol dk ho h1 h2 rb rd RN RP RC (hend _ rfl) hQ' hE'⟩
    | shows k b d rb rd =>
      cases ec
      obtain ⟨r1, r2, rfl, h1, h2⟩ := two_rows hrr
      refine ⟨_, rfl, q, CA, dxq, _, _, rfl, hq, TQ.cl, TQ.nO, lF_op _ _ _, rfl, _, rfl, ifF (ne_int (by decide)) ?_⟩
      refine ⟨_, rfl, q, CA, dxq, _, _, rfl, hq, TQ.cl, TQ.nO, lF_op _ _ _, rfl, _, rfl, ifF (ne_int (by decide)) ?_⟩
      refine ⟨_, rfl, q, CA, dxq, _, _, rfl, hq, TQ.cl, TQ.nO, lF_op _ _ _, rfl, _, rfl, ifF (ne_int (by decide)) ?_⟩
      refine ⟨_, rfl, q, CA, dxq, _, _, rfl, hq, TQ.cl, TQ.nO, lF_op _ _ _, rfl, _, rfl, ifF (ne_int (by decide)) ?_⟩
      refine ⟨_, rfl, q, CA, dxq, _, _, rfl, hq, TQ.cl, TQ.nO, lF_op _ _ _, rfl, _, rfl, ifT (eq_int _) ?_⟩
      exact ⟨_, rfl, a, dxd, _, rfl, hda, rfl, _, rfl, q, CA, dxq, _, _, rfl, hq, TQ.cl, TQ.nN, lF_nu _ _ _, ln, _, _, _, rfl, rfl, SqL.of hln, atI_zero _ _, _, rfl, q, CA, dxq, _, _, rfl, hq, TQ.cl, TQ.nR, lF_ro _ _ _, lr, _, _, _, rfl, rfl, SqL.of hlr, atI_zero _ _, _, rfl, q, CA, dxq, _, _, rfl, hq, TQ.cl, TQ.nR, lF_ro _ _ _, lr, _, _, _, rfl, rfl, SqL.of hlr, atI_one _ _ _, app_sho dk ho h1 h2 rb rd RN RP RC RX (hend _ rfl) hQ' hE'⟩
    | spare k =>
      cases ec
      refine ⟨_, rfl, q, CA, dxq, _, _, rfl, hq, TQ.cl, TQ.nO, lF_op _ _ _, rfl, _, rfl, ifF (ne_int (by decide)) ?_⟩
      refine ⟨_, rfl, q, CA, dxq, _, _, rfl, hq, TQ.cl, TQ.nO, lF_op _ _ _, rfl, _, rfl, ifF (ne_int (by decide)) ?_⟩
      refine ⟨_, rfl, q, CA, dxq, _, _, rfl, hq, TQ.cl, TQ.nO, lF_op _ _ _, rfl, _, rfl, ifF (ne_int (by decide)) ?_⟩
      refine ⟨_, rfl, q, CA, dxq, _, _, rfl, hq, TQ.cl, TQ.nO, lF_op _ _ _, rfl, _, rfl, ifF (ne_int (by decide)) ?_⟩
      refine ⟨_, rfl, q, CA, dxq, _, _, rfl, hq, TQ.cl, TQ.nO, lF_op _ _ _, rfl, _, rfl, ifF (ne_int (by decide)) ?_⟩
      refine ⟨_, rfl, q, CA, dxq, _, _, rfl, hq, TQ.cl, TQ.nO, lF_op _ _ _, rfl, _, rfl, ifT (eq_int _) ?_⟩
      exact ⟨_, rfl, a, dxd, _, rfl, hda, rfl, _, rfl, q, CA, dxq, _, _, rfl, hq, TQ.cl, TQ.nN, lF_nu _ _ _, ln, _, _, _, rfl, rfl, SqL.of hln, atI_zero _ _, app_spa dk ho RP RC (hend _ rfl) hQ' hE'⟩
    | thin k =>
      cases ec
      refine ⟨_, rfl, q, CA, dxq, _, _, rfl, hq, TQ.cl, TQ.nO, lF_op _ _ _, rfl, _, rfl, ifF (ne_int (by decide)) ?_⟩
      refine ⟨_, rfl, q, CA, dxq, _, _, rfl, hq, TQ.cl, TQ.nO, lF_op _ _ _, rfl, _, rfl, ifF (ne_int (by decide)) ?_⟩
      refine ⟨_, rfl, q, CA, dxq, _, _, rfl, hq, TQ.cl, TQ.nO, lF_op _ _ _, rfl, _, rfl, ifF (ne_int (by decide)) ?_⟩
      refine ⟨_, rfl, q, CA, dxq, _, _, rfl, hq, TQ.cl, TQ.nO, lF_op _ _ _, rfl, _, rfl, ifF (ne_int (by decide)) ?_⟩
      refine ⟨_, rfl, q, CA, dxq, _, _, rfl, hq, TQ.cl, TQ.nO, lF_op _ _ _, rfl, _, rfl, ifF (ne_int (by decide)) ?_⟩
      refine ⟨_, rfl, q, CA, dxq, _, _, rfl, hq, TQ.cl, TQ.nO, lF_op _ _ _, rfl, _, rfl, ifF (ne_int (by decide)) ?_⟩
      refine ⟨_, rfl, q, CA, dxq, _, _, rfl, hq, TQ.cl, TQ.nO, lF_op _ _ _, rfl, _, rfl, ifT (eq_int _) ?_⟩
      exact ⟨_, rfl, a, dxd, _, rfl, hda, rfl, _, rfl, q, CA, dxq, _, _, rfl, hq, TQ.cl, TQ.nN, lF_nu _ _ _, ln, _, _, _, rfl, rfl, SqL.of hln, atI_zero _ _, app_thi dk ho RP RC (hend _ rfl) hQ' hE'⟩
    | within k =>
      cases ec
      refine ⟨_, rfl, q, CA, dxq, _, _, rfl, hq, TQ.cl, TQ.nO, lF_op _ _ _, rfl, _, rfl, ifF (ne_int (by decide)) ?_⟩
      refine ⟨_, rfl, q, CA, dxq, _, _, rfl, hq, TQ.cl, TQ.nO, lF_op _ _ _, rfl, _, rfl, ifF (ne_int (by decide)) ?_⟩
      refine ⟨_, rfl, q, CA, dxq, _, _, rfl, hq, TQ.cl, TQ.nO, lF_op _ _ _, rfl, _, rfl, ifF (ne_int (by decide)) ?_⟩
      refine ⟨_, rfl, q, CA, dxq, _, _, rfl, hq, TQ.cl, TQ.nO, lF_op _ _ _, rfl, _, rfl, ifF (ne_int (by decide)) ?_⟩
      refine ⟨_, rfl, q, CA, dxq, _, _, rfl, hq, TQ.cl, TQ.nO, lF_op _ _ _, rfl, _, rfl, ifF (ne_int (by decide)) ?_⟩
      refine ⟨_, rfl, q, CA, dxq, _, _, rfl, hq, TQ.cl, TQ.nO, lF_op _ _ _, rfl, _, rfl, ifF (ne_int (by decide)) ?_⟩
      refine ⟨_, rfl, q, CA, dxq, _, _, rfl, hq, TQ.cl, TQ.nO, lF_op _ _ _, rfl, _, rfl, ifF (ne_int (by decide)) ?_⟩
      refine ⟨_, rfl, q, CA, dxq, _, _, rfl, hq, TQ.cl, TQ.nO, lF_op _ _ _, rfl, _, rfl, ifT (eq_int _) ?_⟩
      exact ⟨_, rfl, a, dxd, _, rfl, hda, rfl, _, rfl, q, CA, dxq, _, _, rfl, hq, TQ.cl, TQ.nN, lF_nu _ _ _, ln, _, _, _, rfl, rfl, SqL.of hln, atI_zero _ _, app_wit dk ho RP RC (hend _ rfl) hQ' hE'⟩
    | same =>
      cases ec
      refine ⟨_, rfl, q, CA, dxq, _, _, rfl, hq, TQ.cl, TQ.nO, lF_op _ _ _, rfl, _, rfl, ifF (ne_int (by decide)) ?_⟩
      refine ⟨_, rfl, q, CA, dxq, _, _, rfl, hq, TQ.cl, TQ.nO, lF_op _ _ _, rfl, _, rfl, ifF (ne_int (by decide)) ?_⟩
      refine ⟨_, rfl, q, CA, dxq, _, _, rfl, hq, TQ.cl, TQ.nO, lF_op _ _ _, rfl, _, rfl, ifF (ne_int (by decide)) ?_⟩
      refine ⟨_, rfl, q, CA, dxq, _, _, rfl, hq, TQ.cl, TQ.nO, lF_op _ _ _, rfl, _, rfl, ifF (ne_int (by decide)) ?_⟩
      refine ⟨_, rfl, q, CA, dxq, _, _, rfl, hq, TQ.cl, TQ.nO, lF_op _ _ _, rfl, _, rfl, ifF (ne_int (by decide)) ?_⟩
      refine ⟨_, rfl, q, CA, dxq, _, _, rfl, hq, TQ.cl, TQ.nO, lF_op _ _ _, rfl, _, rfl, ifF (ne_int (by decide)) ?_⟩
      refine ⟨_, rfl, q, CA, dxq, _, _, rfl, hq, TQ.cl, TQ.nO, lF_op _ _ _, rfl, _, rfl, ifF (ne_int (by decide)) ?_⟩
      refine ⟨_, rfl, q, CA, dxq, _, _, rfl, hq, TQ.cl, TQ.nO, lF_op _ _ _, rfl, _, rfl, ifF (ne_int (by decide)) ?_⟩
      exact ⟨_, rfl, a, dxd, _, rfl, hda, rfl, app_sam dk ho RC (hend _ rfl) hQ' hE'⟩
end
end Rb

/-! ## E1 -/
set_option Elab.async false
set_option linter.all false
set_option maxRecDepth 100000
set_option maxHeartbeats 8000000
/-! E1: all defs together, from what the top has written. -/
namespace Rb
open PySem PySem.Spec PyProof.Rows L2
theorem exm_to {K : PySem.W.Frag} {S T : Addr} (h1 : PySem.W.subIn K (.ref T) (.type "BaseException") = some true) (h2 : PySem.W.isClsIn K T = true) (h3 : PySem.W.typeIn K (.ref T) = some (.type "type")) (h4 : PySem.W.subIn K (.ref S) (.ref T) = some true) : PySem.W.exmOne K (.ref S) (.ref T) = some true := by
  have h2' : (PySem.W.clsIn K T).isSome = true := h2
  unfold PySem.W.exmOne
  rw [h1, if_pos (by rfl)]
  show (if ((PySem.W.clsIn K T).isSome && PySem.W.typeIn K (.ref T) == some (.type "type")) = true then PySem.W.subIn K (.ref S) (.ref T) else none) = some true
  rw [h2', h3, if_pos (by rfl)]
  exact h4
theorem all_mk {P : Program} {w : World} {K : PySem.W.Frag} {h : Heap} {mg : Str → Option Value} {fa : Addr} (X : K.In h) (G : h.Ns mainGlobals mg) (hfa : mg "answers" = some (.ref fa))
    {C1 C15 C22 C23 C42 C46 f1a f1b f1c f1d f2 f3 f4 f15a f16 f17 f18 f22a f22b f22c f22d f23a f23b f23c f24 f25 f26 f27 f29 f30 f31 f32 f33 f35 f36 f37 f38 f39 f42a f42b f42c f42d f42e f42f f42g f42h f42i f42j f42k f42l f46a f47 f57 f58 C6 f6 C7 f7 C8 f8 C9 f9 C10 f10 C11 f11 aN aR : Addr}
    {od1a an1a : Option Addr} {sl1a : Array (Option Value)} {oc1a kV1a dc1a pm1a cd1a ct1a : Value}
    {od1b an1b : Option Addr} {sl1b : Array (Option Value)} {oc1b kV1b dc1b pm1b cd1b ct1b : Value}
    {od1c an1c : Option Addr} {sl1c : Array (Option Value)} {oc1c kV1c dc1c pm1c cd1c ct1c : Value}
    {od1d an1d : Option Addr} {sl1d : Array (Option Value)} {oc1d kV1d dc1d pm1d cd1d ct1d : Value}
    {od2 an2 : Option Addr} {sl2 : Array (Option Value)} {oc2 kV2 dc2 pm2 cd2 ct2 : Value}
    {od3 an3 : Option Addr} {sl3 : Array (Option Value)} {oc3 kV3 dc3 pm3 cd3 ct3 : Value}
    {od4 an4 : Option Addr} {sl4 : Array (Option Value)} {oc4 kV4 dc4 pm4 cd4 ct4 : Value}
    {od15a an15a : Option Addr} {sl15a : Array (Option Value)} {oc15a kV15a dc15a pm15a cd15a ct15a : Value}
    {od16 an16 : Option Addr} {sl16 : Array (Option Value)} {oc16 kV16 dc16 pm16 cd16 ct16 : Value}
    {od17 an17 : Option Addr} {sl17 : Array (Option Value)} {oc17 kV17 dc17 pm17 cd17 ct17 : Value}
    {od18 an18 : Option Addr} {sl18 : Array (Option Value)} {oc18 kV18 dc18 pm18 cd18 ct18 : Value}
    {od22a an22a : Option Addr} {sl22a : Array (Option Value)} {oc22a kV22a dc22a pm22a cd22a ct22a : Value}
    {od22b an22b : Option Addr} {sl22b : Array (Option Value)} {oc22b kV22b dc22b pm22b cd22b ct22b : Value}
    {od22c an22c : Option Addr} {sl22c : Array (Option Value)} {oc22c kV22c dc22c pm22c cd22c ct22c : Value}
    {od22d an22d : Option Addr} {sl22d : Array (Option Value)} {oc22d kV22d dc22d pm22d cd22d ct22d : Value}
    {od23a an23a : Option Addr} {sl23a : Array (Option Value)} {oc23a kV23a dc23a pm23a cd23a ct23a : Value}
    {od23b an23b : Option Addr} {sl23b : Array (Option Value)} {oc23b kV23b dc23b pm23b cd23b ct23b : Value}
    {od23c an23c : Option Addr} {sl23c : Array (Option Value)} {oc23c kV23c dc23c pm23c cd23c ct23c : Value}
    {od24 an24 : Option Addr} {sl24 : Array (Option Value)} {oc24 kV24 dc24 pm24 cd24 ct24 : Value}
    {od25 an25 : Option Addr} {sl25 : Array (Option Value)} {oc25 kV25 dc25 pm25 cd25 ct25 : Value}
    {od26 an26 : Option Addr} {sl26 : Array (Option Value)} {oc26 kV26 dc26 pm26 cd26 ct26 : Value}
    {od27 an27 : Option Addr} {sl27 : Array (Option Value)} {oc27 kV27 dc27 pm27 cd27 ct27 : Value}
    {od29 an29 : Option Addr} {sl29 : Array (Option Value)} {oc29 kV29 dc29 pm29 cd29 ct29 : Value}
    {od30 an30 : Option Addr} {sl30 : Array (Option Value)} {oc30 kV30 dc30 pm30 cd30 ct30 : Value}
    {od31 an31 : Option Addr} {sl31 : Array (Option Value)} {oc31 kV31 dc31 pm31 cd31 ct31 : Value}
    {od32 an32 : Option Addr} {sl32 : Array (Option Value)} {oc32 kV32 dc32 pm32 cd32 ct32 : Value}
    {od33 an33 : Option Addr} {sl33 : Array (Option Value)} {oc33 kV33 dc33 pm33 cd33 ct33 : Value}
    {od35 an35 : Option Addr} {sl35 : Array (Option Value)} {oc35 kV35 dc35 pm35 cd35 ct35 : Value}
    {od36 an36 : Option Addr} {sl36 : Array (Option Value)} {oc36 kV36 dc36 pm36 cd36 ct36 : Value}
    {od37 an37 : Option Addr} {sl37 : Array (Option Value)} {oc37 kV37 dc37 pm37 cd37 ct37 : Value}
    {od38 an38 : Option Addr} {sl38 : Array (Option Value)} {oc38 kV38 dc38 pm38 cd38 ct38 : Value}
    {od39 an39 : Option Addr} {sl39 : Array (Option Value)} {oc39 kV39 dc39 pm39 cd39 ct39 : Value}
    {od42a an42a : Option Addr} {sl42a : Array (Option Value)} {oc42a kV42a dc42a pm42a cd42a ct42a : Value}
    {od42b an42b : Option Addr} {sl42b : Array (Option Value)} {oc42b kV42b dc42b pm42b cd42b ct42b : Value}
    {od42c an42c : Option Addr} {sl42c : Array (Option Value)} {oc42c kV42c dc42c pm42c cd42c ct42c : Value}
    {od42d an42d : Option Addr} {sl42d : Array (Option Value)} {oc42d kV42d dc42d pm42d cd42d ct42d : Value}
    {od42e an42e : Option Addr} {sl42e : Array (Option Value)} {oc42e kV42e dc42e pm42e cd42e ct42e : Value}
    {od42f an42f : Option Addr} {sl42f : Array (Option Value)} {oc42f kV42f dc42f pm42f cd42f ct42f : Value}
    {od42g an42g : Option Addr} {sl42g : Array (Option Value)} {oc42g kV42g dc42g pm42g cd42g ct42g : Value}
    {od42h an42h : Option Addr} {sl42h : Array (Option Value)} {oc42h kV42h dc42h pm42h cd42h ct42h : Value}
    {od42i an42i : Option Addr} {sl42i : Array (Option Value)} {oc42i kV42i dc42i pm42i cd42i ct42i : Value}
    {od42j an42j : Option Addr} {sl42j : Array (Option Value)} {oc42j kV42j dc42j pm42j cd42j ct42j : Value}
    {od42k an42k : Option Addr} {sl42k : Array (Option Value)} {oc42k kV42k dc42k pm42k cd42k ct42k : Value}
    {od42l an42l : Option Addr} {sl42l : Array (Option Value)} {oc42l kV42l dc42l pm42l cd42l ct42l : Value}
    {od46a an46a : Option Addr} {sl46a : Array (Option Value)} {oc46a kV46a dc46a pm46a cd46a ct46a : Value}
    {od47 an47 : Option Addr} {sl47 : Array (Option Value)} {oc47 kV47 dc47 pm47 cd47 ct47 : Value}
    {od57 an57 : Option Addr} {sl57 : Array (Option Value)} {oc57 kV57 dc57 pm57 cd57 ct57 : Value}
    {od58 an58 : Option Addr} {sl58 : Array (Option Value)} {oc58 kV58 dc58 pm58 cd58 ct58 : Value}
    {od6 an6 : Option Addr} {sl6 : Array (Option Value)} {oc6 kV6 dc6 pm6 cd6 ct6 : Value}
    {nm7 q7 : Str} {N7 : Addr} {bs7 : List Value} {sn7 : List Str} {sub7 : List Value} {ab7 : Bool} {col7 : Option Bool} {dd7 : Option Addr} {m7a m7b m7c m7d m7e : Option Value}
    {od7 an7 : Option Addr} {sl7 : Array (Option Value)} {oc7 kV7 dc7 pm7 cd7 ct7 : Value}
    {nm8 q8 : Str} {N8 : Addr} {bs8 : List Value} {sn8 : List Str} {sub8 : List Value} {ab8 : Bool} {col8 : Option Bool} {dd8 : Option Addr} {m8a m8b m8c m8d m8e : Option Value}
    {od8 an8 : Option Addr} {sl8 : Array (Option Value)} {oc8 kV8 dc8 pm8 cd8 ct8 : Value}
    {nm9 q9 : Str} {N9 : Addr} {bs9 : List Value} {sn9 : List Str} {sub9 : List Value} {ab9 : Bool} {col9 : Option Bool} {dd9 : Option Addr} {m9a m9b m9c m9d m9e : Option Value}
    {od9 an9 : Option Addr} {sl9 : Array (Option Value)} {oc9 kV9 dc9 pm9 cd9 ct9 : Value}
    {nm10 q10 : Str} {N10 : Addr} {bs10 : List Value} {sn10 : List Str} {sub10 : List Value} {ab10 : Bool} {col10 : Option Bool} {dd10 : Option Addr} {m10a m10b m10c m10d m10e : Option Value}
    {od10 an10 : Option Addr} {sl10 : Array (Option Value)} {oc10 kV10 dc10 pm10 cd10 ct10 : Value}
    {nm11 q11 : Str} {N11 : Addr} {bs11 : List Value} {sn11 : List Str} {sub11 : List Value} {ab11 : Bool} {col11 : Option Bool} {dd11 : Option Addr} {m11a m11b m11c m11d m11e : Option Value}
    {od11 an11 : Option Addr} {sl11 : Array (Option Value)} {oc11 kV11 dc11 pm11 cd11 ct11 : Value}
    {t13 : Tok}
    {t14 : Tok}
    {t20 : Tok}
    {t21 : Tok}
    {t41 : Tok}
    {t49 : Tok}
    {t50 : Tok}
    {t51 : Tok}
    {t52 : Tok}
    {t53 : Tok}
    {t54 : Tok}
    {t55 : Tok}
    {t56 : Tok}
    {uaN0 uaN1 uaN2 uaN3 uaN4 uaN5 uaN6 uaN7 uaN8 : Tok} {oaN : Option Addr} {naN : Nat} {slaN : Array (Option Value)}
    {uaR0 uaR1 uaR2 uaR3 uaR4 uaR5 uaR6 uaR7 uaR8 : Tok} {oaR : Option Addr} {naR : Nat} {slaR : Array (Option Value)}
    (gC1 : PySem.W.nsIn K mainGlobals "Facts" = some (some (.ref C1)))
    (pgC1 : PySem.W.plainGet K C1 Str.empty = true)
    (hdC1 : PySem.W.hasDictIn K C1 = true)
    (poC1 : PySem.W.plainOver K C1 = true)
    (saC1 : PySem.W.findIn K (.ref C1) "__setattr__" = some (some (.builtin "object.__setattr__")))
    (mkC1 : PySem.W.makesIn K C1 = true)
    (kcC1 : PySem.W.keepIn K (.ref C1) = true)
    (nC1held : PySem.W.findIn K (.ref C1) "held" = some none)
    (nC1lookup : PySem.W.findIn K (.ref C1) "lookup" = some none)
    (gC15 : PySem.W.nsIn K mainGlobals "Rule" = some (some (.ref C15)))
    (pgC15 : PySem.W.plainGet K C15 Str.empty = true)
    (hdC15 : PySem.W.hasDictIn K C15 = true)
    (poC15 : PySem.W.plainOver K C15 = true)
    (saC15 : PySem.W.findIn K (.ref C15) "__setattr__" = some (some (.builtin "object.__setattr__")))
    (mkC15 : PySem.W.makesIn K C15 = true)
    (kcC15 : PySem.W.keepIn K (.ref C15) = true)
    (nC15body : PySem.W.findIn K (.ref C15) "body" = some none)
    (nC15head : PySem.W.findIn K (.ref C15) "head" = some none)
    (nC15shared : PySem.W.findIn K (.ref C15) "shared" = some none)
    (nC15existential : PySem.W.findIn K (.ref C15) "existential" = some none)
    (gC22 : PySem.W.nsIn K mainGlobals "Watch" = some (some (.ref C22)))
    (pgC22 : PySem.W.plainGet K C22 Str.empty = true)
    (hdC22 : PySem.W.hasDictIn K C22 = true)
    (poC22 : PySem.W.plainOver K C22 = true)
    (saC22 : PySem.W.findIn K (.ref C22) "__setattr__" = some (some (.builtin "object.__setattr__")))
    (mkC22 : PySem.W.makesIn K C22 = true)
    (kcC22 : PySem.W.keepIn K (.ref C22) = true)
    (nC22watched : PySem.W.findIn K (.ref C22) "watched" = some none)
    (nC22settled : PySem.W.findIn K (.ref C22) "settled" = some none)
    (nC22waiting : PySem.W.findIn K (.ref C22) "waiting" = some none)
    (gC23 : PySem.W.nsIn K mainGlobals "Chase" = some (some (.ref C23)))
    (pgC23 : PySem.W.plainGet K C23 Str.empty = true)
    (hdC23 : PySem.W.hasDictIn K C23 = true)
    (poC23 : PySem.W.plainOver K C23 = true)
    (saC23 : PySem.W.findIn K (.ref C23) "__setattr__" = some (some (.builtin "object.__setattr__")))
    (mkC23 : PySem.W.makesIn K C23 = true)
    (kcC23 : PySem.W.keepIn K (.ref C23) = true)
    (nC23facts : PySem.W.findIn K (.ref C23) "facts" = some none)
    (nC23watches : PySem.W.findIn K (.ref C23) "watches" = some none)
    (nC23unknown : PySem.W.findIn K (.ref C23) "unknown" = some none)
    (gC42 : PySem.W.nsIn K mainGlobals "Desk" = some (some (.ref C42)))
    (pgC42 : PySem.W.plainGet K C42 Str.empty = true)
    (hdC42 : PySem.W.hasDictIn K C42 = true)
    (poC42 : PySem.W.plainOver K C42 = true)
    (saC42 : PySem.W.findIn K (.ref C42) "__setattr__" = some (some (.builtin "object.__setattr__")))
    (mkC42 : PySem.W.makesIn K C42 = true)
    (kcC42 : PySem.W.keepIn K (.ref C42) = true)
    (nC42books : PySem.W.findIn K (.ref C42) "books" = some none)
    (gC46 : PySem.W.nsIn K mainGlobals "Call" = some (some (.ref C46)))
    (pgC46 : PySem.W.plainGet K C46 Str.empty = true)
    (hdC46 : PySem.W.hasDictIn K C46 = true)
    (poC46 : PySem.W.plainOver K C46 = true)
    (saC46 : PySem.W.findIn K (.ref C46) "__setattr__" = some (some (.builtin "object.__setattr__")))
    (mkC46 : PySem.W.makesIn K C46 = true)
    (kcC46 : PySem.W.keepIn K (.ref C46) = true)
    (nC46operation : PySem.W.findIn K (.ref C46) "operation" = some none)
    (nC46numbers : PySem.W.findIn K (.ref C46) "numbers" = some none)
    (nC46rows : PySem.W.findIn K (.ref C46) "rows" = some none)
    (a1a : PySem.W.findIn K (.ref C1) "__init__" = some (some (.ref f1a)))
    (i1a : PySem.W.isFn K (.ref f1a) = true)
    (l1a : K.lookup f1a = some ⟨oc1a, od1a, .func (PySem.W.fnOf "__init__" "Facts.__init__" (defArgs sFInit) (defBody sFInit) (defScope sFInit) .none kV1a dc1a pm1a an1a cd1a ct1a), sl1a⟩)
    (c1a : PySem.W.codeIn K cd1a "Facts.__init__" = true)
    (k1a : PySem.W.keepIn K (.ref f1a) = true)
    (a1b : PySem.W.findIn K (.ref C1) "put" = some (some (.ref f1b)))
    (i1b : PySem.W.isFn K (.ref f1b) = true)
    (l1b : K.lookup f1b = some ⟨oc1b, od1b, .func (PySem.W.fnOf "put" "Facts.put" (defArgs sFPut) (defBody sFPut) (defScope sFPut) .none kV1b dc1b pm1b an1b cd1b ct1b), sl1b⟩)
    (c1b : PySem.W.codeIn K cd1b "Facts.put" = true)
    (k1b : PySem.W.keepIn K (.ref f1b) = true)
    (a1c : PySem.W.findIn K (.ref C1) "fitting" = some (some (.ref f1c)))
    (i1c : PySem.W.isFn K (.ref f1c) = true)
    (l1c : K.lookup f1c = some ⟨oc1c, od1c, .func (PySem.W.fnOf "fitting" "Facts.fitting" (defArgs sFFit) (defBody sFFit) (defScope sFFit) .none kV1c dc1c pm1c an1c cd1c ct1c), sl1c⟩)
    (c1c : PySem.W.codeIn K cd1c "Facts.fitting" = true)
    (k1c : PySem.W.keepIn K (.ref f1c) = true)
    (a1d : PySem.W.findIn K (.ref C1) "listed" = some (some (.ref f1d)))
    (i1d : PySem.W.isFn K (.ref f1d) = true)
    (l1d : K.lookup f1d = some ⟨oc1d, od1d, .func (PySem.W.fnOf "listed" "Facts.listed" (defArgs sFListed) (defBody sFListed) (defScope sFListed) .none kV1d dc1d pm1d an1d cd1d ct1d), sl1d⟩)
    (c1d : PySem.W.codeIn K cd1d "Facts.listed" = true)
    (k1d : PySem.W.keepIn K (.ref f1d) = true)
    (a2 : PySem.W.nsIn K mainGlobals "with_fact" = some (some (.ref f2)))
    (l2 : K.lookup f2 = some ⟨oc2, od2, .func (PySem.W.fnOf "with_fact" "with_fact" (defArgs sWith) (defBody sWith) (defScope sWith) .none kV2 dc2 pm2 an2 cd2 ct2), sl2⟩)
    (c2 : PySem.W.codeIn K cd2 "with_fact" = true)
    (k2 : PySem.W.keepIn K (.ref f2) = true)
    (a3 : PySem.W.nsIn K mainGlobals "can_match" = some (some (.ref f3)))
    (l3 : K.lookup f3 = some ⟨oc3, od3, .func (PySem.W.fnOf "can_match" "can_match" (defArgs sCan) (defBody sCan) (defScope sCan) .none kV3 dc3 pm3 an3 cd3 ct3), sl3⟩)
    (c3 : PySem.W.codeIn K cd3 "can_match" = true)
    (k3 : PySem.W.keepIn K (.ref f3) = true)
    (a4 : PySem.W.nsIn K mainGlobals "matches" = some (some (.ref f4)))
    (l4 : K.lookup f4 = some ⟨oc4, od4, .func (PySem.W.fnOf "matches" "matches" (defArgs sMatches) (defBody sMatches) (defScope sMatches) .none kV4 dc4 pm4 an4 cd4 ct4), sl4⟩)
    (c4 : PySem.W.codeIn K cd4 "matches" = true)
    (k4 : PySem.W.keepIn K (.ref f4) = true)
    (a15a : PySem.W.findIn K (.ref C15) "__init__" = some (some (.ref f15a)))
    (i15a : PySem.W.isFn K (.ref f15a) = true)
    (l15a : K.lookup f15a = some ⟨oc15a, od15a, .func (PySem.W.fnOf "__init__" "Rule.__init__" (defArgs sRInit) (defBody sRInit) (defScope sRInit) .none kV15a dc15a pm15a an15a cd15a ct15a), sl15a⟩)
    (c15a : PySem.W.codeIn K cd15a "Rule.__init__" = true)
    (k15a : PySem.W.keepIn K (.ref f15a) = true)
    (a16 : PySem.W.nsIn K mainGlobals "variables_of" = some (some (.ref f16)))
    (l16 : K.lookup f16 = some ⟨oc16, od16, .func (PySem.W.fnOf "variables_of" "variables_of" (defArgs sVars) (defBody sVars) (defScope sVars) .none kV16 dc16 pm16 an16 cd16 ct16), sl16⟩)
    (c16 : PySem.W.codeIn K cd16 "variables_of" = true)
    (k16 : PySem.W.keepIn K (.ref f16) = true)
    (a17 : PySem.W.nsIn K mainGlobals "read_atoms" = some (some (.ref f17)))
    (l17 : K.lookup f17 = some ⟨oc17, od17, .func (PySem.W.fnOf "read_atoms" "read_atoms" (defArgs sReadA) (defBody sReadA) (defScope sReadA) .none kV17 dc17 pm17 an17 cd17 ct17), sl17⟩)
    (c17 : PySem.W.codeIn K cd17 "read_atoms" = true)
    (k17 : PySem.W.keepIn K (.ref f17) = true)
    (a18 : PySem.W.nsIn K mainGlobals "read_rule" = some (some (.ref f18)))
    (l18 : K.lookup f18 = some ⟨oc18, od18, .func (PySem.W.fnOf "read_rule" "read_rule" (defArgs sReadR) (defBody sReadR) (defScope sReadR) .none kV18 dc18 pm18 an18 cd18 ct18), sl18⟩)
    (c18 : PySem.W.codeIn K cd18 "read_rule" = true)
    (k18 : PySem.W.keepIn K (.ref f18) = true)
    (a22a : PySem.W.findIn K (.ref C22) "__init__" = some (some (.ref f22a)))
    (i22a : PySem.W.isFn K (.ref f22a) = true)
    (l22a : K.lookup f22a = some ⟨oc22a, od22a, .func (PySem.W.fnOf "__init__" "Watch.__init__" (defArgs sWInit) (defBody sWInit) (defScope sWInit) .none kV22a dc22a pm22a an22a cd22a ct22a), sl22a⟩)
    (c22a : PySem.W.codeIn K cd22a "Watch.__init__" = true)
    (k22a : PySem.W.keepIn K (.ref f22a) = true)
    (a22b : PySem.W.findIn K (.ref C22) "meet" = some (some (.ref f22b)))
    (i22b : PySem.W.isFn K (.ref f22b) = true)
    (l22b : K.lookup f22b = some ⟨oc22b, od22b, .func (PySem.W.fnOf "meet" "Watch.meet" (defArgs sWMeet) (defBody sWMeet) (defScope sWMeet) .none kV22b dc22b pm22b an22b cd22b ct22b), sl22b⟩)
    (c22b : PySem.W.codeIn K cd22b "Watch.meet" = true)
    (k22b : PySem.W.keepIn K (.ref f22b) = true)
    (a22c : PySem.W.findIn K (.ref C22) "take_up" = some (some (.ref f22c)))
    (i22c : PySem.W.isFn K (.ref f22c) = true)
    (l22c : K.lookup f22c = some ⟨oc22c, od22c, .func (PySem.W.fnOf "take_up" "Watch.take_up" (defArgs sWTake) (defBody sWTake) (defScope sWTake) .none kV22c dc22c pm22c an22c cd22c ct22c), sl22c⟩)
    (c22c : PySem.W.codeIn K cd22c "Watch.take_up" = true)
    (k22c : PySem.W.keepIn K (.ref f22c) = true)
    (a22d : PySem.W.findIn K (.ref C22) "first_failing" = some (some (.ref f22d)))
    (i22d : PySem.W.isFn K (.ref f22d) = true)
    (l22d : K.lookup f22d = some ⟨oc22d, od22d, .func (PySem.W.fnOf "first_failing" "Watch.first_failing" (defArgs sWFirst) (defBody sWFirst) (defScope sWFirst) .none kV22d dc22d pm22d an22d cd22d ct22d), sl22d⟩)
    (c22d : PySem.W.codeIn K cd22d "Watch.first_failing" = true)
    (k22d : PySem.W.keepIn K (.ref f22d) = true)
    (a23a : PySem.W.findIn K (.ref C23) "__init__" = some (some (.ref f23a)))
    (i23a : PySem.W.isFn K (.ref f23a) = true)
    (l23a : K.lookup f23a = some ⟨oc23a, od23a, .func (PySem.W.fnOf "__init__" "Chase.__init__" (defArgs sCInit) (defBody sCInit) (defScope sCInit) .none kV23a dc23a pm23a an23a cd23a ct23a), sl23a⟩)
    (c23a : PySem.W.codeIn K cd23a "Chase.__init__" = true)
    (k23a : PySem.W.keepIn K (.ref f23a) = true)
    (a23b : PySem.W.findIn K (.ref C23) "put_atoms" = some (some (.ref f23b)))
    (i23b : PySem.W.isFn K (.ref f23b) = true)
    (l23b : K.lookup f23b = some ⟨oc23b, od23b, .func (PySem.W.fnOf "put_atoms" "Chase.put_atoms" (defArgs sCPut) (defBody sCPut) (defScope sCPut) .none kV23b dc23b pm23b an23b cd23b ct23b), sl23b⟩)
    (c23b : PySem.W.codeIn K cd23b "Chase.put_atoms" = true)
    (k23b : PySem.W.keepIn K (.ref f23b) = true)
    (a23c : PySem.W.findIn K (.ref C23) "take_step" = some (some (.ref f23c)))
    (i23c : PySem.W.isFn K (.ref f23c) = true)
    (l23c : K.lookup f23c = some ⟨oc23c, od23c, .func (PySem.W.fnOf "take_step" "Chase.take_step" (defArgs sCStep) (defBody sCStep) (defScope sCStep) .none kV23c dc23c pm23c an23c cd23c ct23c), sl23c⟩)
    (c23c : PySem.W.codeIn K cd23c "Chase.take_step" = true)
    (k23c : PySem.W.keepIn K (.ref f23c) = true)
    (a24 : PySem.W.nsIn K mainGlobals "body_values" = some (some (.ref f24)))
    (l24 : K.lookup f24 = some ⟨oc24, od24, .func (PySem.W.fnOf "body_values" "body_values" (defArgs sBody) (defBody sBody) (defScope sBody) .none kV24 dc24 pm24 an24 cd24 ct24), sl24⟩)
    (c24 : PySem.W.codeIn K cd24 "body_values" = true)
    (k24 : PySem.W.keepIn K (.ref f24) = true)
    (a25 : PySem.W.nsIn K mainGlobals "consequences" = some (some (.ref f25)))
    (l25 : K.lookup f25 = some ⟨oc25, od25, .func (PySem.W.fnOf "consequences" "consequences" (defArgs sCons) (defBody sCons) (defScope sCons) .none kV25 dc25 pm25 an25 cd25 ct25), sl25⟩)
    (c25 : PySem.W.codeIn K cd25 "consequences" = true)
    (k25 : PySem.W.keepIn K (.ref f25) = true)
    (a26 : PySem.W.nsIn K mainGlobals "shown_by" = some (some (.ref f26)))
    (l26 : K.lookup f26 = some ⟨oc26, od26, .func (PySem.W.fnOf "shown_by" "shown_by" (defArgs sShown) (defBody sShown) (defScope sShown) .none kV26 dc26 pm26 an26 cd26 ct26), sl26⟩)
    (c26 : PySem.W.codeIn K cd26 "shown_by" = true)
    (k26 : PySem.W.keepIn K (.ref f26) = true)
    (a27 : PySem.W.nsIn K mainGlobals "follows_from" = some (some (.ref f27)))
    (l27 : K.lookup f27 = some ⟨oc27, od27, .func (PySem.W.fnOf "follows_from" "follows_from" (defArgs sFF) (defBody sFF) (defScope sFF) .none kV27 dc27 pm27 an27 cd27 ct27), sl27⟩)
    (c27 : PySem.W.codeIn K cd27 "follows_from" = true)
    (k27 : PySem.W.keepIn K (.ref f27) = true)
    (a29 : PySem.W.nsIn K mainGlobals "positions_of" = some (some (.ref f29)))
    (l29 : K.lookup f29 = some ⟨oc29, od29, .func (PySem.W.fnOf "positions_of" "positions_of" (defArgs sPos) (defBody sPos) (defScope sPos) .none kV29 dc29 pm29 an29 cd29 ct29), sl29⟩)
    (c29 : PySem.W.codeIn K cd29 "positions_of" = true)
    (k29 : PySem.W.keepIn K (.ref f29) = true)
    (a30 : PySem.W.nsIn K mainGlobals "edges_from" = some (some (.ref f30)))
    (l30 : K.lookup f30 = some ⟨oc30, od30, .func (PySem.W.fnOf "edges_from" "edges_from" (defArgs sFrom) (defBody sFrom) (defScope sFrom) .none kV30 dc30 pm30 an30 cd30 ct30), sl30⟩)
    (c30 : PySem.W.codeIn K cd30 "edges_from" = true)
    (k30 : PySem.W.keepIn K (.ref f30) = true)
    (a31 : PySem.W.nsIn K mainGlobals "edges_of" = some (some (.ref f31)))
    (l31 : K.lookup f31 = some ⟨oc31, od31, .func (PySem.W.fnOf "edges_of" "edges_of" (defArgs sEdges) (defBody sEdges) (defScope sEdges) .none kV31 dc31 pm31 an31 cd31 ct31), sl31⟩)
    (c31 : PySem.W.codeIn K cd31 "edges_of" = true)
    (k31 : PySem.W.keepIn K (.ref f31) = true)
    (a32 : PySem.W.nsIn K mainGlobals "reached_from" = some (some (.ref f32)))
    (l32 : K.lookup f32 = some ⟨oc32, od32, .func (PySem.W.fnOf "reached_from" "reached_from" (defArgs sReach) (defBody sReach) (defScope sReach) .none kV32 dc32 pm32 an32 cd32 ct32), sl32⟩)
    (c32 : PySem.W.codeIn K cd32 "reached_from" = true)
    (k32 : PySem.W.keepIn K (.ref f32) = true)
    (a33 : PySem.W.nsIn K mainGlobals "satisfies_criterion" = some (some (.ref f33)))
    (l33 : K.lookup f33 = some ⟨oc33, od33, .func (PySem.W.fnOf "satisfies_criterion" "satisfies_criterion" (defArgs sCrit) (defBody sCrit) (defScope sCrit) .none kV33 dc33 pm33 an33 cd33 ct33), sl33⟩)
    (c33 : PySem.W.codeIn K cd33 "satisfies_criterion" = true)
    (k33 : PySem.W.keepIn K (.ref f33) = true)
    (a35 : PySem.W.nsIn K mainGlobals "others" = some (some (.ref f35)))
    (l35 : K.lookup f35 = some ⟨oc35, od35, .func (PySem.W.fnOf "others" "others" (defArgs sOth) (defBody sOth) (defScope sOth) .none kV35 dc35 pm35 an35 cd35 ct35), sl35⟩)
    (c35 : PySem.W.codeIn K cd35 "others" = true)
    (k35 : PySem.W.keepIn K (.ref f35) = true)
    (a36 : PySem.W.nsIn K mainGlobals "is_spare" = some (some (.ref f36)))
    (l36 : K.lookup f36 = some ⟨oc36, od36, .func (PySem.W.fnOf "is_spare" "is_spare" (defArgs sIsS) (defBody sIsS) (defScope sIsS) .none kV36 dc36 pm36 an36 cd36 ct36), sl36⟩)
    (c36 : PySem.W.codeIn K cd36 "is_spare" = true)
    (k36 : PySem.W.keepIn K (.ref f36) = true)
    (a37 : PySem.W.nsIn K mainGlobals "spare_ones" = some (some (.ref f37)))
    (l37 : K.lookup f37 = some ⟨oc37, od37, .func (PySem.W.fnOf "spare_ones" "spare_ones" (defArgs sSpO) (defBody sSpO) (defScope sSpO) .none kV37 dc37 pm37 an37 cd37 ct37), sl37⟩)
    (c37 : PySem.W.codeIn K cd37 "spare_ones" = true)
    (k37 : PySem.W.keepIn K (.ref f37) = true)
    (a38 : PySem.W.nsIn K mainGlobals "strays" = some (some (.ref f38)))
    (l38 : K.lookup f38 = some ⟨oc38, od38, .func (PySem.W.fnOf "strays" "strays" (defArgs sStr) (defBody sStr) (defScope sStr) .none kV38 dc38 pm38 an38 cd38 ct38), sl38⟩)
    (c38 : PySem.W.codeIn K cd38 "strays" = true)
    (k38 : PySem.W.keepIn K (.ref f38) = true)
    (a39 : PySem.W.nsIn K mainGlobals "thinned" = some (some (.ref f39)))
    (l39 : K.lookup f39 = some ⟨oc39, od39, .func (PySem.W.fnOf "thinned" "thinned" (defArgs sThi) (defBody sThi) (defScope sThi) .none kV39 dc39 pm39 an39 cd39 ct39), sl39⟩)
    (c39 : PySem.W.codeIn K cd39 "thinned" = true)
    (k39 : PySem.W.keepIn K (.ref f39) = true)
    (a42a : PySem.W.findIn K (.ref C42) "__init__" = some (some (.ref f42a)))
    (i42a : PySem.W.isFn K (.ref f42a) = true)
    (l42a : K.lookup f42a = some ⟨oc42a, od42a, .func (PySem.W.fnOf "__init__" "Desk.__init__" (defArgs sKInit) (defBody sKInit) (defScope sKInit) .none kV42a dc42a pm42a an42a cd42a ct42a), sl42a⟩)
    (c42a : PySem.W.codeIn K cd42a "Desk.__init__" = true)
    (k42a : PySem.W.keepIn K (.ref f42a) = true)
    (a42b : PySem.W.findIn K (.ref C42) "begins" = some (some (.ref f42b)))
    (i42b : PySem.W.isFn K (.ref f42b) = true)
    (l42b : K.lookup f42b = some ⟨oc42b, od42b, .func (PySem.W.fnOf "begins" "Desk.begins" (defArgs sKBegins) (defBody sKBegins) (defScope sKBegins) .none kV42b dc42b pm42b an42b cd42b ct42b), sl42b⟩)
    (c42b : PySem.W.codeIn K cd42b "Desk.begins" = true)
    (k42b : PySem.W.keepIn K (.ref f42b) = true)
    (a42c : PySem.W.findIn K (.ref C42) "rule" = some (some (.ref f42c)))
    (i42c : PySem.W.isFn K (.ref f42c) = true)
    (l42c : K.lookup f42c = some ⟨oc42c, od42c, .func (PySem.W.fnOf "rule" "Desk.rule" (defArgs sKRule) (defBody sKRule) (defScope sKRule) .none kV42c dc42c pm42c an42c cd42c ct42c), sl42c⟩)
    (c42c : PySem.W.codeIn K cd42c "Desk.rule" = true)
    (k42c : PySem.W.keepIn K (.ref f42c) = true)
    (a42d : PySem.W.findIn K (.ref C42) "drop" = some (some (.ref f42d)))
    (i42d : PySem.W.isFn K (.ref f42d) = true)
    (l42d : K.lookup f42d = some ⟨oc42d, od42d, .func (PySem.W.fnOf "drop" "Desk.drop" (defArgs sKDrop) (defBody sKDrop) (defScope sKDrop) .none kV42d dc42d pm42d an42d cd42d ct42d), sl42d⟩)
    (c42d : PySem.W.codeIn K cd42d "Desk.drop" = true)
    (k42d : PySem.W.keepIn K (.ref f42d) = true)
    (a42e : PySem.W.findIn K (.ref C42) "follows" = some (some (.ref f42e)))
    (i42e : PySem.W.isFn K (.ref f42e) = true)
    (l42e : K.lookup f42e = some ⟨oc42e, od42e, .func (PySem.W.fnOf "follows" "Desk.follows" (defArgs sKFollows) (defBody sKFollows) (defScope sKFollows) .none kV42e dc42e pm42e an42e cd42e ct42e), sl42e⟩)
    (c42e : PySem.W.codeIn K cd42e "Desk.follows" = true)
    (k42e : PySem.W.keepIn K (.ref f42e) = true)
    (a42f : PySem.W.findIn K (.ref C42) "shows" = some (some (.ref f42f)))
    (i42f : PySem.W.isFn K (.ref f42f) = true)
    (l42f : K.lookup f42f = some ⟨oc42f, od42f, .func (PySem.W.fnOf "shows" "Desk.shows" (defArgs sKShows) (defBody sKShows) (defScope sKShows) .none kV42f dc42f pm42f an42f cd42f ct42f), sl42f⟩)
    (c42f : PySem.W.codeIn K cd42f "Desk.shows" = true)
    (k42f : PySem.W.keepIn K (.ref f42f) = true)
    (a42g : PySem.W.findIn K (.ref C42) "spare" = some (some (.ref f42g)))
    (i42g : PySem.W.isFn K (.ref f42g) = true)
    (l42g : K.lookup f42g = some ⟨oc42g, od42g, .func (PySem.W.fnOf "spare" "Desk.spare" (defArgs sKSpare) (defBody sKSpare) (defScope sKSpare) .none kV42g dc42g pm42g an42g cd42g ct42g), sl42g⟩)
    (c42g : PySem.W.codeIn K cd42g "Desk.spare" = true)
    (k42g : PySem.W.keepIn K (.ref f42g) = true)
    (a42h : PySem.W.findIn K (.ref C42) "thin" = some (some (.ref f42h)))
    (i42h : PySem.W.isFn K (.ref f42h) = true)
    (l42h : K.lookup f42h = some ⟨oc42h, od42h, .func (PySem.W.fnOf "thin" "Desk.thin" (defArgs sKThin) (defBody sKThin) (defScope sKThin) .none kV42h dc42h pm42h an42h cd42h ct42h), sl42h⟩)
    (c42h : PySem.W.codeIn K cd42h "Desk.thin" = true)
    (k42h : PySem.W.keepIn K (.ref f42h) = true)
    (a42i : PySem.W.findIn K (.ref C42) "within" = some (some (.ref f42i)))
    (i42i : PySem.W.isFn K (.ref f42i) = true)
    (l42i : K.lookup f42i = some ⟨oc42i, od42i, .func (PySem.W.fnOf "within" "Desk.within" (defArgs sKWithin) (defBody sKWithin) (defScope sKWithin) .none kV42i dc42i pm42i an42i cd42i ct42i), sl42i⟩)
    (c42i : PySem.W.codeIn K cd42i "Desk.within" = true)
    (k42i : PySem.W.keepIn K (.ref f42i) = true)
    (a42j : PySem.W.findIn K (.ref C42) "same" = some (some (.ref f42j)))
    (i42j : PySem.W.isFn K (.ref f42j) = true)
    (l42j : K.lookup f42j = some ⟨oc42j, od42j, .func (PySem.W.fnOf "same" "Desk.same" (defArgs sKSame) (defBody sKSame) (defScope sKSame) .none kV42j dc42j pm42j an42j cd42j ct42j), sl42j⟩)
    (c42j : PySem.W.codeIn K cd42j "Desk.same" = true)
    (k42j : PySem.W.keepIn K (.ref f42j) = true)
    (a42k : PySem.W.findIn K (.ref C42) "rules_in" = some (some (.ref f42k)))
    (i42k : PySem.W.isFn K (.ref f42k) = true)
    (l42k : K.lookup f42k = some ⟨oc42k, od42k, .func (PySem.W.fnOf "rules_in" "Desk.rules_in" (defArgs sKIn) (defBody sKIn) (defScope sKIn) .none kV42k dc42k pm42k an42k cd42k ct42k), sl42k⟩)
    (c42k : PySem.W.codeIn K cd42k "Desk.rules_in" = true)
    (k42k : PySem.W.keepIn K (.ref f42k) = true)
    (a42l : PySem.W.findIn K (.ref C42) "usable_rules_in" = some (some (.ref f42l)))
    (i42l : PySem.W.isFn K (.ref f42l) = true)
    (l42l : K.lookup f42l = some ⟨oc42l, od42l, .func (PySem.W.fnOf "usable_rules_in" "Desk.usable_rules_in" (defArgs sKUse) (defBody sKUse) (defScope sKUse) .none kV42l dc42l pm42l an42l cd42l ct42l), sl42l⟩)
    (c42l : PySem.W.codeIn K cd42l "Desk.usable_rules_in" = true)
    (k42l : PySem.W.keepIn K (.ref f42l) = true)
    (a46a : PySem.W.findIn K (.ref C46) "__init__" = some (some (.ref f46a)))
    (i46a : PySem.W.isFn K (.ref f46a) = true)
    (l46a : K.lookup f46a = some ⟨oc46a, od46a, .func (PySem.W.fnOf "__init__" "Call.__init__" (defArgs sCallI) (defBody sCallI) (defScope sCallI) .none kV46a dc46a pm46a an46a cd46a ct46a), sl46a⟩)
    (c46a : PySem.W.codeIn K cd46a "Call.__init__" = true)
    (k46a : PySem.W.keepIn K (.ref f46a) = true)
    (a47 : PySem.W.nsIn K mainGlobals "read_calls" = some (some (.ref f47)))
    (l47 : K.lookup f47 = some ⟨oc47, od47, .func (PySem.W.fnOf "read_calls" "read_calls" (defArgs sReadC) (defBody sReadC) (defScope sReadC) .none kV47 dc47 pm47 an47 cd47 ct47), sl47⟩)
    (c47 : PySem.W.codeIn K cd47 "read_calls" = true)
    (k47 : PySem.W.keepIn K (.ref f47) = true)
    (a57 : PySem.W.nsIn K mainGlobals "applied" = some (some (.ref f57)))
    (l57 : K.lookup f57 = some ⟨oc57, od57, .func (PySem.W.fnOf "applied" "applied" (defArgs sApp) (defBody sApp) (defScope sApp) .none kV57 dc57 pm57 an57 cd57 ct57), sl57⟩)
    (c57 : PySem.W.codeIn K cd57 "applied" = true)
    (k57 : PySem.W.keepIn K (.ref f57) = true)
    (a58 : PySem.W.nsIn K mainGlobals "answers" = some (some (.ref f58)))
    (l58 : K.lookup f58 = some ⟨oc58, od58, .func (PySem.W.fnOf "answers" "answers" (defArgs sAns) (defBody sAns) (defScope sAns) .none kV58 dc58 pm58 an58 cd58 ct58), sl58⟩)
    (c58 : PySem.W.codeIn K cd58 "answers" = true)
    (k58 : PySem.W.keepIn K (.ref f58) = true)
    (gC6 : PySem.W.nsIn K mainGlobals "Refusal" = some (some (.ref C6)))
    (a6 : PySem.W.findIn K (.ref C6) "__init__" = some (some (.ref f6)))
    (l6 : K.lookup f6 = some ⟨oc6, od6, .func (PySem.W.fnOf "__init__" "Refusal.__init__" (defArgs sRefI) (defBody sRefI) (defScope sRefI) .none kV6 dc6 pm6 an6 cd6 ct6), sl6⟩)
    (c6 : PySem.W.codeIn K cd6 "Refusal.__init__" = true)
    (k6 : PySem.W.keepIn K (.ref f6) = true)
    (rd6 : PySem.W.readsIn K C6 (.type "type") = true)
    (ga6 : PySem.W.specialIn K (.ref C6) "__getattribute__" = some (some (.builtin "type.__getattribute__")))
    (at6 : PySem.W.findCls K (.ref C6) (.type "type") "__init__" = some (.val (.ref f6)))
    (e6 : PySem.W.subIn K (.ref C6) (.type "BaseException") = some true)
    (ty6 : PySem.W.typeIn K (.ref C6) = some (.type "type"))
    (ic6 : PySem.W.isClsIn K C6 = true)
    (vE : PySem.W.findCls K (.type "Exception") (.type "type") "__init__" = some (.val (.builtin "Exception.__init__")))
    (gC7 : PySem.W.nsIn K mainGlobals "NotARule" = some (some (.ref C7)))
    (x7 : K.lookup C7 = some (excClassObj nm7 q7 C7 N7 bs7 [.ref C6, .type "Exception", .type "BaseException", .type "object"] true sn7 sub7 ab7 col7 dd7 m7a m7b m7c m7d m7e "Exception.__new__"))
    (sa7 : PySem.W.findIn K (.ref C7) "__setattr__" = some (some (.builtin "object.__setattr__")))
    (g7 : PySem.W.findIn K (.ref C7) "__getattribute__" = some (some (.builtin "BaseException.__getattribute__")))
    (gg7 : PySem.W.findIn K (.ref C7) "__getattr__" = some none)
    (no7 : PySem.W.findIn K (.ref C7) "number" = some none)
    (a7 : PySem.W.findIn K (.ref C7) "__init__" = some (some (.ref f7)))
    (t7 : PySem.W.typeIn K (.ref f7) = some (.type "function"))
    (l7 : K.lookup f7 = some ⟨oc7, od7, .func (PySem.W.fnOf "__init__" "NotARule.__init__" (defArgs (sSub 7)) (defBody (sSub 7)) (defScope (sSub 7)) .none kV7 dc7 pm7 an7 cd7 ct7), sl7⟩)
    (c7 : PySem.W.codeIn K cd7 "NotARule.__init__" = true)
    (k7 : PySem.W.keepIn K (.ref f7) = true)
    (kc7 : PySem.W.keepIn K (.ref C7) = true)
    (e7 : PySem.W.subIn K (.ref C7) (.type "BaseException") = some true)
    (ty7 : PySem.W.typeIn K (.ref C7) = some (.type "type"))
    (hd7 : PySem.W.hasDictIn K C7 = true)
    (s7 : PySem.W.subIn K (.ref C7) (.ref C6) = some true)
    (gC8 : PySem.W.nsIn K mainGlobals "NoSuchPlace" = some (some (.ref C8)))
    (x8 : K.lookup C8 = some (excClassObj nm8 q8 C8 N8 bs8 [.ref C6, .type "Exception", .type "BaseException", .type "object"] true sn8 sub8 ab8 col8 dd8 m8a m8b m8c m8d m8e "Exception.__new__"))
    (sa8 : PySem.W.findIn K (.ref C8) "__setattr__" = some (some (.builtin "object.__setattr__")))
    (g8 : PySem.W.findIn K (.ref C8) "__getattribute__" = some (some (.builtin "BaseException.__getattribute__")))
    (gg8 : PySem.W.findIn K (.ref C8) "__getattr__" = some none)
    (no8 : PySem.W.findIn K (.ref C8) "number" = some none)
    (a8 : PySem.W.findIn K (.ref C8) "__init__" = some (some (.ref f8)))
    (t8 : PySem.W.typeIn K (.ref f8) = some (.type "function"))
    (l8 : K.lookup f8 = some ⟨oc8, od8, .func (PySem.W.fnOf "__init__" "NoSuchPlace.__init__" (defArgs (sSub 8)) (defBody (sSub 8)) (defScope (sSub 8)) .none kV8 dc8 pm8 an8 cd8 ct8), sl8⟩)
    (c8 : PySem.W.codeIn K cd8 "NoSuchPlace.__init__" = true)
    (k8 : PySem.W.keepIn K (.ref f8) = true)
    (kc8 : PySem.W.keepIn K (.ref C8) = true)
    (e8 : PySem.W.subIn K (.ref C8) (.type "BaseException") = some true)
    (ty8 : PySem.W.typeIn K (.ref C8) = some (.type "type"))
    (hd8 : PySem.W.hasDictIn K C8 = true)
    (s8 : PySem.W.subIn K (.ref C8) (.ref C6) = some true)
    (gC9 : PySem.W.nsIn K mainGlobals "RuleFollows" = some (some (.ref C9)))
    (x9 : K.lookup C9 = some (excClassObj nm9 q9 C9 N9 bs9 [.ref C6, .type "Exception", .type "BaseException", .type "object"] true sn9 sub9 ab9 col9 dd9 m9a m9b m9c m9d m9e "Exception.__new__"))
    (sa9 : PySem.W.findIn K (.ref C9) "__setattr__" = some (some (.builtin "object.__setattr__")))
    (g9 : PySem.W.findIn K (.ref C9) "__getattribute__" = some (some (.builtin "BaseException.__getattribute__")))
    (gg9 : PySem.W.findIn K (.ref C9) "__getattr__" = some none)
    (no9 : PySem.W.findIn K (.ref C9) "number" = some none)
    (a9 : PySem.W.findIn K (.ref C9) "__init__" = some (some (.ref f9)))
    (t9 : PySem.W.typeIn K (.ref f9) = some (.type "function"))
    (l9 : K.lookup f9 = some ⟨oc9, od9, .func (PySem.W.fnOf "__init__" "RuleFollows.__init__" (defArgs (sSub 9)) (defBody (sSub 9)) (defScope (sSub 9)) .none kV9 dc9 pm9 an9 cd9 ct9), sl9⟩)
    (c9 : PySem.W.codeIn K cd9 "RuleFollows.__init__" = true)
    (k9 : PySem.W.keepIn K (.ref f9) = true)
    (kc9 : PySem.W.keepIn K (.ref C9) = true)
    (e9 : PySem.W.subIn K (.ref C9) (.type "BaseException") = some true)
    (ty9 : PySem.W.typeIn K (.ref C9) = some (.type "type"))
    (hd9 : PySem.W.hasDictIn K C9 = true)
    (s9 : PySem.W.subIn K (.ref C9) (.ref C6) = some true)
    (gC10 : PySem.W.nsIn K mainGlobals "CriterionFails" = some (some (.ref C10)))
    (x10 : K.lookup C10 = some (excClassObj nm10 q10 C10 N10 bs10 [.ref C6, .type "Exception", .type "BaseException", .type "object"] true sn10 sub10 ab10 col10 dd10 m10a m10b m10c m10d m10e "Exception.__new__"))
    (sa10 : PySem.W.findIn K (.ref C10) "__setattr__" = some (some (.builtin "object.__setattr__")))
    (g10 : PySem.W.findIn K (.ref C10) "__getattribute__" = some (some (.builtin "BaseException.__getattribute__")))
    (gg10 : PySem.W.findIn K (.ref C10) "__getattr__" = some none)
    (no10 : PySem.W.findIn K (.ref C10) "number" = some none)
    (a10 : PySem.W.findIn K (.ref C10) "__init__" = some (some (.ref f10)))
    (t10 : PySem.W.typeIn K (.ref f10) = some (.type "function"))
    (l10 : K.lookup f10 = some ⟨oc10, od10, .func (PySem.W.fnOf "__init__" "CriterionFails.__init__" (defArgs (sSub 10)) (defBody (sSub 10)) (defScope (sSub 10)) .none kV10 dc10 pm10 an10 cd10 ct10), sl10⟩)
    (c10 : PySem.W.codeIn K cd10 "CriterionFails.__init__" = true)
    (k10 : PySem.W.keepIn K (.ref f10) = true)
    (kc10 : PySem.W.keepIn K (.ref C10) = true)
    (e10 : PySem.W.subIn K (.ref C10) (.type "BaseException") = some true)
    (ty10 : PySem.W.typeIn K (.ref C10) = some (.type "type"))
    (hd10 : PySem.W.hasDictIn K C10 = true)
    (s10 : PySem.W.subIn K (.ref C10) (.ref C6) = some true)
    (gC11 : PySem.W.nsIn K mainGlobals "BookIsFull" = some (some (.ref C11)))
    (x11 : K.lookup C11 = some (excClassObj nm11 q11 C11 N11 bs11 [.ref C6, .type "Exception", .type "BaseException", .type "object"] true sn11 sub11 ab11 col11 dd11 m11a m11b m11c m11d m11e "Exception.__new__"))
    (sa11 : PySem.W.findIn K (.ref C11) "__setattr__" = some (some (.builtin "object.__setattr__")))
    (g11 : PySem.W.findIn K (.ref C11) "__getattribute__" = some (some (.builtin "BaseException.__getattribute__")))
    (gg11 : PySem.W.findIn K (.ref C11) "__getattr__" = some none)
    (no11 : PySem.W.findIn K (.ref C11) "number" = some none)
    (a11 : PySem.W.findIn K (.ref C11) "__init__" = some (some (.ref f11)))
    (t11 : PySem.W.typeIn K (.ref f11) = some (.type "function"))
    (l11 : K.lookup f11 = some ⟨oc11, od11, .func (PySem.W.fnOf "__init__" "BookIsFull.__init__" (defArgs (sSub 11)) (defBody (sSub 11)) (defScope (sSub 11)) .none kV11 dc11 pm11 an11 cd11 ct11), sl11⟩)
    (c11 : PySem.W.codeIn K cd11 "BookIsFull.__init__" = true)
    (k11 : PySem.W.keepIn K (.ref f11) = true)
    (kc11 : PySem.W.keepIn K (.ref C11) = true)
    (e11 : PySem.W.subIn K (.ref C11) (.type "BaseException") = some true)
    (ty11 : PySem.W.typeIn K (.ref C11) = some (.type "type"))
    (hd11 : PySem.W.hasDictIn K C11 = true)
    (s11 : PySem.W.subIn K (.ref C11) (.ref C6) = some true)
    (v13 : PySem.W.nsIn K mainGlobals "LAST_TABLE" = some (some (.int 3 t13)))
    (v14 : PySem.W.nsIn K mainGlobals "LAST_VARIABLE" = some (some (.int 4 t14)))
    (v20 : PySem.W.nsIn K mainGlobals "FIRST_BODY_VALUE" = some (some (.int 50 t20)))
    (v21 : PySem.W.nsIn K mainGlobals "FIRST_UNKNOWN_VALUE" = some (some (.int 100 t21)))
    (v41 : PySem.W.nsIn K mainGlobals "MOST_RULES" = some (some (.int 3 t41)))
    (v49 : PySem.W.nsIn K mainGlobals "BEGINS" = some (some (.int 0 t49)))
    (v50 : PySem.W.nsIn K mainGlobals "RULE" = some (some (.int 1 t50)))
    (v51 : PySem.W.nsIn K mainGlobals "DROP" = some (some (.int 2 t51)))
    (v52 : PySem.W.nsIn K mainGlobals "FOLLOWS" = some (some (.int 3 t52)))
    (v53 : PySem.W.nsIn K mainGlobals "SHOWS" = some (some (.int 4 t53)))
    (v54 : PySem.W.nsIn K mainGlobals "SPARE" = some (some (.int 5 t54)))
    (v55 : PySem.W.nsIn K mainGlobals "THIN" = some (some (.int 6 t55)))
    (v56 : PySem.W.nsIn K mainGlobals "WITHIN" = some (some (.int 7 t56)))
    (bdict : PySem.W.nsIn K mainGlobals "dict" = some none)
    (blist : PySem.W.nsIn K mainGlobals "list" = some none)
    (blen : PySem.W.nsIn K mainGlobals "len" = some none)
    (bsorted : PySem.W.nsIn K mainGlobals "sorted" = some none)
    (bmin : PySem.W.nsIn K mainGlobals "min" = some none)
    (bmax : PySem.W.nsIn K mainGlobals "max" = some none)
    (bzip : PySem.W.nsIn K mainGlobals "zip" = some none)
    (brange : PySem.W.nsIn K mainGlobals "range" = some none)
    (btuple : PySem.W.nsIn K mainGlobals "tuple" = some none)
    (bException : PySem.W.nsIn K mainGlobals "Exception" = some none)
    (gaN : PySem.W.nsIn K mainGlobals "NUMBERS" = some (some (.ref aN)))
    (laN : K.lookup aN = some ⟨.type "tuple", oaN, .seq #[.int 0 uaN0, .int 1 uaN1, .int 2 uaN2, .int 1 uaN3, .int 1 uaN4, .int 1 uaN5, .int 1 uaN6, .int 1 uaN7, .int 0 uaN8] naN, slaN⟩)
    (gaR : PySem.W.nsIn K mainGlobals "ROWS" = some (some (.ref aR)))
    (laR : K.lookup aR = some ⟨.type "tuple", oaR, .seq #[.int 0 uaR0, .int 2 uaR1, .int 0 uaR2, .int 2 uaR3, .int 2 uaR4, .int 0 uaR5, .int 0 uaR6, .int 0 uaR7, .int 0 uaR8] naR, slaR⟩) :
    ∃ fd : FuncData, (∀ (s : Shared) (us : List Value), us.length = (["calls"] : List Str).length → BindsTo s fd ⟨us, []⟩ ((["calls"] : List Str).zip us)) ∧ ∀ base : Heap, K.In base → base.Ns mainGlobals mg → FnOk P w K mg base CX0 13 fa fd ["calls"] (spAns K) := by
  have e := hfa.symm.trans (PySem.W.mg_of X G a58)
  cases e
  have TB : Blt mg := ⟨PySem.W.mg_none_of X G bdict, PySem.W.mg_none_of X G blist, PySem.W.mg_none_of X G blen, PySem.W.mg_none_of X G bsorted, PySem.W.mg_none_of X G bmin, PySem.W.mg_none_of X G bmax, PySem.W.mg_none_of X G bzip, PySem.W.mg_none_of X G brange, PySem.W.mg_none_of X G btuple⟩
  have clC1 : Cls K C1 := ⟨pgC1, hdC1, poC1, saC1⟩
  have clC15 : Cls K C15 := ⟨pgC15, hdC15, poC15, saC15⟩
  have clC22 : Cls K C22 := ⟨pgC22, hdC22, poC22, saC22⟩
  have clC23 : Cls K C23 := ⟨pgC23, hdC23, poC23, saC23⟩
  have clC42 : Cls K C42 := ⟨pgC42, hdC42, poC42, saC42⟩
  have clC46 : Cls K C46 := ⟨pgC46, hdC46, poC46, saC46⟩
  have TC1 : FTxt K mg C1 := ⟨TB, clC1, nC1held, nC1lookup⟩
  have TC15 : RTxt K mg C15 := ⟨clC15, nC15body, nC15head, nC15shared, nC15existential⟩
  have TC22 : WTxt K mg C22 := ⟨TB, clC22, nC22watched, nC22settled, nC22waiting⟩
  have TC23 : CTxt K mg C23 := ⟨TB, clC23, nC23facts, nC23watches, nC23unknown, ⟨_, PySem.W.mg_of X G v21⟩⟩
  have TC42 : KTxt K mg C42 := ⟨TB, clC42, nC42books⟩
  have SaN : ∀ H : Hp, SqT K H aN (numsL.map V.int) := fun H => .inr ⟨_, _, _, laN, rfl, rfl, (by show 9 ≤ sizeLine; decide), .cons ⟨_, rfl⟩ (.cons ⟨_, rfl⟩ (.cons ⟨_, rfl⟩ (.cons ⟨_, rfl⟩ (.cons ⟨_, rfl⟩ (.cons ⟨_, rfl⟩ (.cons ⟨_, rfl⟩ (.cons ⟨_, rfl⟩ (.cons ⟨_, rfl⟩ (.nil)))))))))⟩
  have SaR : ∀ H : Hp, SqT K H aR (rowsL.map V.int) := fun H => .inr ⟨_, _, _, laR, rfl, rfl, (by show 9 ≤ sizeLine; decide), .cons ⟨_, rfl⟩ (.cons ⟨_, rfl⟩ (.cons ⟨_, rfl⟩ (.cons ⟨_, rfl⟩ (.cons ⟨_, rfl⟩ (.cons ⟨_, rfl⟩ (.cons ⟨_, rfl⟩ (.cons ⟨_, rfl⟩ (.cons ⟨_, rfl⟩ (.nil)))))))))⟩
  have TQ : QTxt K mg C46 aN aR := ⟨TB, clC46, nC46operation, nC46numbers, nC46rows, PySem.W.mg_of X G gaN, PySem.W.mg_of X G gaR, SaN, SaR⟩
  have TBo : BTxt mg := ⟨⟨_, PySem.W.mg_of X G v20⟩⟩
  have TM : MTxt mg := ⟨⟨_, PySem.W.mg_of X G v41⟩⟩
  have TA : ATxt mg := ⟨TB, ⟨_, PySem.W.mg_of X G v13⟩, ⟨_, PySem.W.mg_of X G v14⟩⟩
  have TP : PTxt mg := ⟨⟨_, PySem.W.mg_of X G v49⟩, ⟨_, PySem.W.mg_of X G v50⟩, ⟨_, PySem.W.mg_of X G v51⟩, ⟨_, PySem.W.mg_of X G v52⟩, ⟨_, PySem.W.mg_of X G v53⟩, ⟨_, PySem.W.mg_of X G v54⟩, ⟨_, PySem.W.mg_of X G v55⟩, ⟨_, PySem.W.mg_of X G v56⟩⟩
  have TN : NTxt mg C6 := ⟨TB, PySem.W.mg_of X G gC6⟩
  have TE : EXTxt K mg := ⟨PySem.W.mg_none_of X G bException, vE⟩
  have F1a := fun_mk (st := sFInit) l1a c1a k1a
  have b1a := F1a.binds (ps := ["self"]) fun _ _ _ _ _ _ us hl => match us, hl with | [_], _ => rfl
  have F1b := fun_mk (st := sFPut) l1b c1b k1b
  have b1b := F1b.binds (ps := ["self", "fact"]) fun _ _ _ _ _ _ us hl => match us, hl with | [_, _], _ => rfl
  have F1c := fun_mk (st := sFFit) l1c c1c k1c
  have b1c := F1c.binds (ps := ["self", "atom", "values"]) fun _ _ _ _ _ _ us hl => match us, hl with | [_, _, _], _ => rfl
  have F1d := fun_mk (st := sFListed) l1d c1d k1d
  have b1d := F1d.binds (ps := ["self"]) fun _ _ _ _ _ _ us hl => match us, hl with | [_], _ => rfl
  have F2 := fun_mk (st := sWith) l2 c2 k2
  have b2 := F2.binds (ps := ["values", "atom", "fact"]) fun _ _ _ _ _ _ us hl => match us, hl with | [_, _, _], _ => rfl
  have F3 := fun_mk (st := sCan) l3 c3 k3
  have b3 := F3.binds (ps := ["facts", "atoms", "values"]) fun _ _ _ _ _ _ us hl => match us, hl with | [_, _, _], _ => rfl
  have F4 := fun_mk (st := sMatches) l4 c4 k4
  have b4 := F4.binds (ps := ["sources", "atoms"]) fun _ _ _ _ _ _ us hl => match us, hl with | [_, _], _ => rfl
  have F15a := fun_mk (st := sRInit) l15a c15a k15a
  have b15a := F15a.binds (ps := ["self", "body", "head"]) fun _ _ _ _ _ _ us hl => match us, hl with | [_, _, _], _ => rfl
  have F16 := fun_mk (st := sVars) l16 c16 k16
  have b16 := F16.binds (ps := ["atoms"]) fun _ _ _ _ _ _ us hl => match us, hl with | [_], _ => rfl
  have F17 := fun_mk (st := sReadA) l17 c17 k17
  have b17 := F17.binds (ps := ["numbers"]) fun _ _ _ _ _ _ us hl => match us, hl with | [_], _ => rfl
  have F18 := fun_mk (st := sReadR) l18 c18 k18
  have b18 := F18.binds (ps := ["body", "head"]) fun _ _ _ _ _ _ us hl => match us, hl with | [_, _], _ => rfl
  have F22a := fun_mk (st := sWInit) l22a c22a k22a
  have b22a := F22a.binds (ps := ["self", "watched"]) fun _ _ _ _ _ _ us hl => match us, hl with | [_, _], _ => rfl
  have F22b := fun_mk (st := sWMeet) l22b c22b k22b
  have b22b := F22b.binds (ps := ["self", "fresh", "facts"]) fun _ _ _ _ _ _ us hl => match us, hl with | [_, _, _], _ => rfl
  have F22c := fun_mk (st := sWTake) l22c c22c k22c
  have b22c := F22c.binds (ps := ["self", "matched", "values"]) fun _ _ _ _ _ _ us hl => match us, hl with | [_, _, _], _ => rfl
  have F22d := fun_mk (st := sWFirst) l22d c22d k22d
  have b22d := F22d.binds (ps := ["self", "facts"]) fun _ _ _ _ _ _ us hl => match us, hl with | [_, _], _ => rfl
  have F23a := fun_mk (st := sCInit) l23a c23a k23a
  have b23a := F23a.binds (ps := ["self", "rules"]) fun _ _ _ _ _ _ us hl => match us, hl with | [_, _], _ => rfl
  have F23b := fun_mk (st := sCPut) l23b c23b k23b
  have b23b := F23b.binds (ps := ["self", "atoms", "values"]) fun _ _ _ _ _ _ us hl => match us, hl with | [_, _, _], _ => rfl
  have F23c := fun_mk (st := sCStep) l23c c23c k23c
  have b23c := F23c.binds (ps := ["self"]) fun _ _ _ _ _ _ us hl => match us, hl with | [_], _ => rfl
  have F24 := fun_mk (st := sBody) l24 c24 k24
  have b24 := F24.binds (ps := ["rule"]) fun _ _ _ _ _ _ us hl => match us, hl with | [_], _ => rfl
  have F25 := fun_mk (st := sCons) l25 c25 k25
  have b25 := F25.binds (ps := ["rule", "rules"]) fun _ _ _ _ _ _ us hl => match us, hl with | [_, _], _ => rfl
  have F26 := fun_mk (st := sShown) l26 c26 k26
  have b26 := F26.binds (ps := ["rule", "facts"]) fun _ _ _ _ _ _ us hl => match us, hl with | [_, _], _ => rfl
  have F27 := fun_mk (st := sFF) l27 c27 k27
  have b27 := F27.binds (ps := ["rule", "rules"]) fun _ _ _ _ _ _ us hl => match us, hl with | [_, _], _ => rfl
  have F29 := fun_mk (st := sPos) l29 c29 k29
  have b29 := F29.binds (ps := ["variable", "atoms"]) fun _ _ _ _ _ _ us hl => match us, hl with | [_, _], _ => rfl
  have F30 := fun_mk (st := sFrom) l30 c30 k30
  have b30 := F30.binds (ps := ["start", "variable", "rule"]) fun _ _ _ _ _ _ us hl => match us, hl with | [_, _, _], _ => rfl
  have F31 := fun_mk (st := sEdges) l31 c31 k31
  have b31 := F31.binds (ps := ["rules"]) fun _ _ _ _ _ _ us hl => match us, hl with | [_], _ => rfl
  have F32 := fun_mk (st := sReach) l32 c32 k32
  have b32 := F32.binds (ps := ["position", "edges"]) fun _ _ _ _ _ _ us hl => match us, hl with | [_, _], _ => rfl
  have F33 := fun_mk (st := sCrit) l33 c33 k33
  have b33 := F33.binds (ps := ["rules"]) fun _ _ _ _ _ _ us hl => match us, hl with | [_], _ => rfl
  have F35 := fun_mk (st := sOth) l35 c35 k35
  have b35 := F35.binds (ps := ["rules", "index"]) fun _ _ _ _ _ _ us hl => match us, hl with | [_, _], _ => rfl
  have F36 := fun_mk (st := sIsS) l36 c36 k36
  have b36 := F36.binds (ps := ["rules", "index"]) fun _ _ _ _ _ _ us hl => match us, hl with | [_, _], _ => rfl
  have F37 := fun_mk (st := sSpO) l37 c37 k37
  have b37 := F37.binds (ps := ["rules"]) fun _ _ _ _ _ _ us hl => match us, hl with | [_], _ => rfl
  have F38 := fun_mk (st := sStr) l38 c38 k38
  have b38 := F38.binds (ps := ["asked", "rules"]) fun _ _ _ _ _ _ us hl => match us, hl with | [_, _], _ => rfl
  have F39 := fun_mk (st := sThi) l39 c39 k39
  have b39 := F39.binds (ps := ["rules"]) fun _ _ _ _ _ _ us hl => match us, hl with | [_], _ => rfl
  have F42a := fun_mk (st := sKInit) l42a c42a k42a
  have b42a := F42a.binds (ps := ["self"]) fun _ _ _ _ _ _ us hl => match us, hl with | [_], _ => rfl
  have F42b := fun_mk (st := sKBegins) l42b c42b k42b
  have b42b := F42b.binds (ps := ["self"]) fun _ _ _ _ _ _ us hl => match us, hl with | [_], _ => rfl
  have F42c := fun_mk (st := sKRule) l42c c42c k42c
  have b42c := F42c.binds (ps := ["self", "book", "body", "head"]) fun _ _ _ _ _ _ us hl => match us, hl with | [_, _, _, _], _ => rfl
  have F42d := fun_mk (st := sKDrop) l42d c42d k42d
  have b42d := F42d.binds (ps := ["self", "book", "index"]) fun _ _ _ _ _ _ us hl => match us, hl with | [_, _, _], _ => rfl
  have F42e := fun_mk (st := sKFollows) l42e c42e k42e
  have b42e := F42e.binds (ps := ["self", "book", "body", "head"]) fun _ _ _ _ _ _ us hl => match us, hl with | [_, _, _, _], _ => rfl
  have F42f := fun_mk (st := sKShows) l42f c42f k42f
  have b42f := F42f.binds (ps := ["self", "book", "body", "head"]) fun _ _ _ _ _ _ us hl => match us, hl with | [_, _, _, _], _ => rfl
  have F42g := fun_mk (st := sKSpare) l42g c42g k42g
  have b42g := F42g.binds (ps := ["self", "book"]) fun _ _ _ _ _ _ us hl => match us, hl with | [_, _], _ => rfl
  have F42h := fun_mk (st := sKThin) l42h c42h k42h
  have b42h := F42h.binds (ps := ["self", "book"]) fun _ _ _ _ _ _ us hl => match us, hl with | [_, _], _ => rfl
  have F42i := fun_mk (st := sKWithin) l42i c42i k42i
  have b42i := F42i.binds (ps := ["self", "book"]) fun _ _ _ _ _ _ us hl => match us, hl with | [_, _], _ => rfl
  have F42j := fun_mk (st := sKSame) l42j c42j k42j
  have b42j := F42j.binds (ps := ["self"]) fun _ _ _ _ _ _ us hl => match us, hl with | [_], _ => rfl
  have F42k := fun_mk (st := sKIn) l42k c42k k42k
  have b42k := F42k.binds (ps := ["self", "book"]) fun _ _ _ _ _ _ us hl => match us, hl with | [_, _], _ => rfl
  have F42l := fun_mk (st := sKUse) l42l c42l k42l
  have b42l := F42l.binds (ps := ["self", "book"]) fun _ _ _ _ _ _ us hl => match us, hl with | [_, _], _ => rfl
  have F46a := fun_mk (st := sCallI) l46a c46a k46a
  have b46a := F46a.binds (ps := ["self", "operation", "numbers", "rows"]) fun _ _ _ _ _ _ us hl => match us, hl with | [_, _, _, _], _ => rfl
  have F47 := fun_mk (st := sReadC) l47 c47 k47
  have b47 := F47.binds (ps := ["calls"]) fun _ _ _ _ _ _ us hl => match us, hl with | [_], _ => rfl
  have F57 := fun_mk (st := sApp) l57 c57 k57
  have b57 := F57.binds (ps := ["desk", "call"]) fun _ _ _ _ _ _ us hl => match us, hl with | [_, _], _ => rfl
  have F58 := fun_mk (st := sAns) l58 c58 k58
  have F6 := fun_mk (st := sRefI) l6 c6 k6
  have b6 := F6.binds (ps := ["self", "number"]) fun _ _ _ _ _ _ us hl => match us, hl with | [_, _], _ => rfl
  have RT : RefTxt K mg C6 f6 _ (.type "type") := ⟨PySem.W.mg_of X G gC6, ⟨rd6, ga6⟩, at6, k6, b6⟩
  have F7 := fun_mk (st := sSub 7) l7 c7 k7
  have b7 := F7.binds (ps := ["self"]) fun _ _ _ _ _ _ us hl => match us, hl with | [_], _ => rfl
  have O7 : OexE K C7 := ⟨⟨_, _, _, _, _, _, _, _, _, _, _, _, _, _, _, x7, XB.LinE.base.cons C6⟩, sa7, e7, ty7, kc7⟩
  have S7 : SubTxt K C7 := ⟨O7, no7⟩
  have R7 : RefC K C6 C7 := ⟨⟨g7, gg7, e7, hd7⟩, no7, exm_to e6 ic6 ty6 s7⟩
  have F8 := fun_mk (st := sSub 8) l8 c8 k8
  have b8 := F8.binds (ps := ["self"]) fun _ _ _ _ _ _ us hl => match us, hl with | [_], _ => rfl
  have O8 : OexE K C8 := ⟨⟨_, _, _, _, _, _, _, _, _, _, _, _, _, _, _, x8, XB.LinE.base.cons C6⟩, sa8, e8, ty8, kc8⟩
  have S8 : SubTxt K C8 := ⟨O8, no8⟩
  have R8 : RefC K C6 C8 := ⟨⟨g8, gg8, e8, hd8⟩, no8, exm_to e6 ic6 ty6 s8⟩
  have F9 := fun_mk (st := sSub 9) l9 c9 k9
  have b9 := F9.binds (ps := ["self"]) fun _ _ _ _ _ _ us hl => match us, hl with | [_], _ => rfl
  have O9 : OexE K C9 := ⟨⟨_, _, _, _, _, _, _, _, _, _, _, _, _, _, _, x9, XB.LinE.base.cons C6⟩, sa9, e9, ty9, kc9⟩
  have S9 : SubTxt K C9 := ⟨O9, no9⟩
  have R9 : RefC K C6 C9 := ⟨⟨g9, gg9, e9, hd9⟩, no9, exm_to e6 ic6 ty6 s9⟩
  have F10 := fun_mk (st := sSub 10) l10 c10 k10
  have b10 := F10.binds (ps := ["self"]) fun _ _ _ _ _ _ us hl => match us, hl with | [_], _ => rfl
  have O10 : OexE K C10 := ⟨⟨_, _, _, _, _, _, _, _, _, _, _, _, _, _, _, x10, XB.LinE.base.cons C6⟩, sa10, e10, ty10, kc10⟩
  have S10 : SubTxt K C10 := ⟨O10, no10⟩
  have R10 : RefC K C6 C10 := ⟨⟨g10, gg10, e10, hd10⟩, no10, exm_to e6 ic6 ty6 s10⟩
  have F11 := fun_mk (st := sSub 11) l11 c11 k11
  have b11 := F11.binds (ps := ["self"]) fun _ _ _ _ _ _ us hl => match us, hl with | [_], _ => rfl
  have O11 : OexE K C11 := ⟨⟨_, _, _, _, _, _, _, _, _, _, _, _, _, _, _, x11, XB.LinE.base.cons C6⟩, sa11, e11, ty11, kc11⟩
  have S11 : SubTxt K C11 := ⟨O11, no11⟩
  have R11 : RefC K C6 C11 := ⟨⟨g11, gg11, e11, hd11⟩, no11, exm_to e6 ic6 ty6 s11⟩
  refine ⟨PySem.W.fnOf "answers" "answers" (defArgs sAns) (defBody sAns) (defScope sAns) .none kV58 dc58 pm58 an58 cd58 ct58, fun s us hu => match us, hu with | [_], _ => .of_eq rfl, fun base _ _ => ?_⟩
  have G2 : FnB P w K mg base CX0 "with_fact" ["values", "atom", "fact"] 1 (spWith) := ⟨_, _, PySem.W.mg_of X G a2, k2, b2, ok_with F2 TB⟩
  have G1a : MkB P w K mg base CX0 "Facts" C1 ["self"] 1 (spFInit P w C1) := ⟨_, _, ⟨mkC1, a1a, i1a, kcC1⟩, PySem.W.mg_of X G gC1, b1a, ok_finit F1a TC1⟩
  have G1b : MeB P w K mg base CX0 C1 "put" ["self", "fact"] 1 (spFPut P w C1) := ⟨_, _, ⟨a1b, i1b, k1b⟩, b1b, ok_fput F1b TC1⟩
  have G1c : MeB P w K mg base CX0 C1 "fitting" ["self", "atom", "values"] 1 (spFFit P w C1) := ⟨_, _, ⟨a1c, i1c, k1c⟩, b1c, ok_ffit F1c TC1⟩
  have G1d : MeB P w K mg base CX0 C1 "listed" ["self"] 1 (spFListed P w C1) := ⟨_, _, ⟨a1d, i1d, k1d⟩, b1d, ok_flisted F1d TC1⟩
  have G3 : FnB P w K mg base CX0 "can_match" ["facts", "atoms", "values"] 4 (spCan P w C1 2) := ⟨_, _, PySem.W.mg_of X G a3, k3, b3, ok_can F3 TC1 (PySem.W.mg_of X G a3) b3 G1c G2 2⟩
  have G4 : FnB P w K mg base CX0 "matches" ["sources", "atoms"] 2 (spMatches P w C1) := ⟨_, _, PySem.W.mg_of X G a4, k4, b4, ok_matches F4 TC1 G1c G2⟩
  have G16 : FnB P w K mg base CX0 "variables_of" ["atoms"] 1 (spVars) := ⟨_, _, PySem.W.mg_of X G a16, k16, b16, ok_vars F16⟩
  have G15a : MkB P w K mg base CX0 "Rule" C15 ["self", "body", "head"] 2 (spRInit C15) := ⟨_, _, ⟨mkC15, a15a, i15a, kcC15⟩, PySem.W.mg_of X G gC15, b15a, ok_rinit F15a TC15 G16⟩
  have G22a : MkB P w K mg base CX0 "Watch" C22 ["self", "watched"] 1 (spWInit C22 C15) := ⟨_, _, ⟨mkC22, a22a, i22a, kcC22⟩, PySem.W.mg_of X G gC22, b22a, ok_winit F22a TC22⟩
  have G22c : MeB P w K mg base CX0 C22 "take_up" ["self", "matched", "values"] 1 (spWTake C22 C15) := ⟨_, _, ⟨a22c, i22c, k22c⟩, b22c, ok_wtake F22c TC22 TC15⟩
  have G22b : MeB P w K mg base CX0 C22 "meet" ["self", "fresh", "facts"] 3 (spWMeet P w C22 C15 C1) := ⟨_, _, ⟨a22b, i22b, k22b⟩, b22b, ok_wmeet F22b TC22 TC15 G4 G22c⟩
  have G22d : MeB P w K mg base CX0 C22 "first_failing" ["self", "facts"] 5 (spWFirst P w C22 C15 C1) := ⟨_, _, ⟨a22d, i22d, k22d⟩, b22d, ok_wfirst F22d TC22 TC15 G3⟩
  have G23a : MkB P w K mg base CX0 "Chase" C23 ["self", "rules"] 3 (spCInit P w C23 C22 C15 C1) := ⟨_, _, ⟨mkC23, a23a, i23a, kcC23⟩, PySem.W.mg_of X G gC23, b23a, ok_cinit F23a TC23 G1a G22a⟩
  have G23b : MeB P w K mg base CX0 C23 "put_atoms" ["self", "atoms", "values"] 4 (spCPut P w C23 C22 C15 C1) := ⟨_, _, ⟨a23b, i23b, k23b⟩, b23b, ok_cput F23b TC23 TC1 TC22 G1a G1b G1d G22b⟩
  have G23c : MeB P w K mg base CX0 C23 "take_step" ["self"] 6 (spCStep P w C23 C22 C15 C1) := ⟨_, _, ⟨a23c, i23c, k23c⟩, b23c, ok_cstep F23c TC23 TC22 TC15 G22d G23b⟩
  have G24 : FnB P w K mg base CX0 "body_values" ["rule"] 2 (spBody C15) := ⟨_, _, PySem.W.mg_of X G a24, k24, b24, ok_body F24 TBo TC15 G16⟩
  have G26 : FnB P w K mg base CX0 "shown_by" ["rule", "facts"] 5 (spShown P w C15 C1) := ⟨_, _, PySem.W.mg_of X G a26, k26, b26, ok_shown F26 TC15 G24 G3⟩
  have G25 : FnB P w K mg base CX0 "consequences" ["rule", "rules"] 7 (spCons P w C15 C1) := ⟨_, _, PySem.W.mg_of X G a25, k25, b25, ok_cons F25 TC23 TC15 G23a G23b G24 G23c⟩
  have G27 : FnB P w K mg base CX0 "follows_from" ["rule", "rules"] 8 (spFF C15) := ⟨_, _, PySem.W.mg_of X G a27, k27, b27, ok_ff F27 G25 G26⟩
  have G35 : FnB P w K mg base CX0 "others" ["rules", "index"] 1 (spOth) := ⟨_, _, PySem.W.mg_of X G a35, k35, b35, ok_oth F35⟩
  have G36 : FnB P w K mg base CX0 "is_spare" ["rules", "index"] 9 (spIsS C15) := ⟨_, _, PySem.W.mg_of X G a36, k36, b36, ok_isS F36 G27 G35⟩
  have G37 : FnB P w K mg base CX0 "spare_ones" ["rules"] 10 (spSpO C15) := ⟨_, _, PySem.W.mg_of X G a37, k37, b37, ok_spO F37 TB G36⟩
  have G38 : FnB P w K mg base CX0 "strays" ["asked", "rules"] 9 (spStr C15) := ⟨_, _, PySem.W.mg_of X G a38, k38, b38, ok_str F38 TB G27⟩
  have G39 : FnB P w K mg base CX0 "thinned" ["rules"] 10 (spThi C15) := ⟨_, _, PySem.W.mg_of X G a39, k39, b39, ok_thi F39 TB G36 G35⟩
  have G29 : FnB P w K mg base CX0 "positions_of" ["variable", "atoms"] 1 (spPos) := ⟨_, _, PySem.W.mg_of X G a29, k29, b29, ok_pos F29⟩
  have G30 : FnB P w K mg base CX0 "edges_from" ["start", "variable", "rule"] 2 (spFrom C15) := ⟨_, _, PySem.W.mg_of X G a30, k30, b30, ok_from F30 TC15 G29⟩
  have G31 : FnB P w K mg base CX0 "edges_of" ["rules"] 3 (spEdges C15) := ⟨_, _, PySem.W.mg_of X G a31, k31, b31, ok_edges F31 TC15 G29 G30⟩
  have G32 : FnB P w K mg base CX0 "reached_from" ["position", "edges"] 1 (spReach) := ⟨_, _, PySem.W.mg_of X G a32, k32, b32, ok_reach F32⟩
  have G33 : FnB P w K mg base CX0 "satisfies_criterion" ["rules"] 4 (spCrit C15) := ⟨_, _, PySem.W.mg_of X G a33, k33, b33, ok_crit F33 G31 G32⟩
  have G6 : FnOk P w K mg base CX0 1 f6 _ ["self", "number"] (spRef K) := ok_refi F6 TE
  have Z7 : RzB P w K mg base "NotARule" C7 (-1) := ⟨_, _, PySem.W.mg_of X G gC7, S7, a7, t7, ok_sub7 F7 RT S7 G6, b7⟩
  have Z8 : RzB P w K mg base "NoSuchPlace" C8 (-2) := ⟨_, _, PySem.W.mg_of X G gC8, S8, a8, t8, ok_sub8 F8 RT S8 G6, b8⟩
  have Z9 : RzB P w K mg base "RuleFollows" C9 (-3) := ⟨_, _, PySem.W.mg_of X G gC9, S9, a9, t9, ok_sub9 F9 RT S9 G6, b9⟩
  have Z10 : RzB P w K mg base "CriterionFails" C10 (-6) := ⟨_, _, PySem.W.mg_of X G gC10, S10, a10, t10, ok_sub10 F10 RT S10 G6, b10⟩
  have Z11 : RzB P w K mg base "BookIsFull" C11 (-7) := ⟨_, _, PySem.W.mg_of X G gC11, S11, a11, t11, ok_sub11 F11 RT S11 G6, b11⟩
  have G17 : FnB P w K mg base (L2.CX P w) "read_atoms" ["numbers"] 4 (spReadA C7) := ⟨_, _, PySem.W.mg_of X G a17, k17, b17, ok_readA F17 TA Z7⟩
  have G18 : FnB P w K mg base (L2.CX P w) "read_rule" ["body", "head"] 5 (spReadR C7 C15) := ⟨_, _, PySem.W.mg_of X G a18, k18, b18, ok_readR F18 G17 G15a⟩
  have G42k : MeB P w K mg base (L2.CX P w) C42 "rules_in" ["self", "book"] 4 (spKIn C42 C8) := ⟨_, _, ⟨a42k, i42k, k42k⟩, b42k, ok_kin F42k TC42 Z8⟩
  have G42l : MeB P w K mg base (L2.CX P w) C42 "usable_rules_in" ["self", "book"] 5 (spKUse C42 C8 C10 C15) := ⟨_, _, ⟨a42l, i42l, k42l⟩, b42l, ok_kuse F42l TC42 Z10 G42k G33⟩
  have G42a : MkB P w K mg base CX0 "Desk" C42 ["self"] 1 (spKInit C42 C15) := ⟨_, _, ⟨mkC42, a42a, i42a, kcC42⟩, PySem.W.mg_of X G gC42, b42a, ok_kinit F42a TC42⟩
  have G42b : MeB P w K mg base CX0 C42 "begins" ["self"] 1 (spKBeg C42 C15) := ⟨_, _, ⟨a42b, i42b, k42b⟩, b42b, ok_kbeg F42b TC42⟩
  have G42c : MeB P w K mg base (L2.CX P w) C42 "rule" ["self", "book", "body", "head"] 6 (spKRule C42 C7 C8 C11 C15) := ⟨_, _, ⟨a42c, i42c, k42c⟩, b42c, ok_krule F42c TC42 TM Z11 G18 G42k⟩
  have G42d : MeB P w K mg base (L2.CX P w) C42 "drop" ["self", "book", "index"] 5 (spKDrop C42 C8 C15) := ⟨_, _, ⟨a42d, i42d, k42d⟩, b42d, ok_kdrop F42d TC42 Z8 G42k⟩
  have G42e : MeB P w K mg base (L2.CX P w) C42 "follows" ["self", "book", "body", "head"] 9 (spKFol C42 C7 C8 C10 C15) := ⟨_, _, ⟨a42e, i42e, k42e⟩, b42e, ok_kfol F42e TC42 G18 G42l G27⟩
  have G42f : MeB P w K mg base (L2.CX P w) C42 "shows" ["self", "book", "body", "head"] 8 (spKSho C42 C7 C8 C10 C15 C9) := ⟨_, _, ⟨a42f, i42f, k42f⟩, b42f, ok_ksho F42f TC42 TC1 Z9 G18 G42l G25 G26 G1d⟩
  have G42g : MeB P w K mg base (L2.CX P w) C42 "spare" ["self", "book"] 11 (spKSp C42 C8 C10 C15) := ⟨_, _, ⟨a42g, i42g, k42g⟩, b42g, ok_ksp F42g TC42 G42l G37⟩
  have G42h : MeB P w K mg base (L2.CX P w) C42 "thin" ["self", "book"] 11 (spKTh C42 C8 C10 C15) := ⟨_, _, ⟨a42h, i42h, k42h⟩, b42h, ok_kth F42h TC42 G42l G39⟩
  have G42i : MeB P w K mg base (L2.CX P w) C42 "within" ["self", "book"] 10 (spKWi C42 C8 C10 C15) := ⟨_, _, ⟨a42i, i42i, k42i⟩, b42i, ok_kwi F42i TC42 G42l G38⟩
  have G42j : MeB P w K mg base (L2.CX P w) C42 "same" ["self"] 10 (spKSa C42 C10 C15) := ⟨_, _, ⟨a42j, i42j, k42j⟩, b42j, ok_ksa F42j TC42 G42l G38⟩
  have G46a : MkB P w K mg base CX0 "Call" C46 ["self", "operation", "numbers", "rows"] 1 (spCallI C46) := ⟨_, _, ⟨mkC46, a46a, i46a, kcC46⟩, PySem.W.mg_of X G gC46, b46a, ok_calli F46a TQ⟩
  have G47 : FnB P w K mg base CX0 "read_calls" ["calls"] 3 (spReadC K C46) := ⟨_, _, PySem.W.mg_of X G a47, k47, b47, ok_readC F47 TQ G46a⟩
  exact ok_ans F58 TN (by decide) G42a G47 (PySem.W.mg_of X G a57) k57 b57 (ok_app F57 TC42 TQ TP R7 R8 R9 R10 R11 G42b G42c G42d G42e G42f G42g G42h G42i G42j)
end Rb

/-! ## Z1 -/
set_option Elab.async false
set_option linter.all false
open PySem PySem.W PyProof.Rows
set_option maxRecDepth 100000 in
set_option maxHeartbeats 80000000 in
theorem PySem.Challenge.cw_rulebooksdesk_s01_answers_holds : PySem.Challenge.rw_rulebooksdesk_s01_answers.Holds := by
  w_on; k_headS; (case hw => exact ⟨[.list [.int 0]], by decide +kernel, by decide +kernel⟩)
  k_fillS
  refine L2.walk_specK (r := PySem.Challenge.rw_rulebooksdesk_s01_answers) (k := 13) (CX := L2.CX0) (ps := ["calls"]) (sp := Rb.spAns) (by decide +kernel) rfl rfl ⟨rfl, by decide, by decide⟩ (fun w h Y => PySem.W.kIn_of Y) ?F ?S (fun _ _ _ _ z => z)
  case F =>
    intro w mg fa h Y KX G hmg
    refine' Rb.all_mk KX G hmg ?gC1 ?pgC1 ?hdC1 ?poC1 ?saC1 ?mkC1 ?kcC1 ?nC1held ?nC1lookup ?gC15 ?pgC15 ?hdC15 ?poC15 ?saC15 ?mkC15 ?kcC15 ?nC15body ?nC15head ?nC15shared ?nC15existential ?gC22 ?pgC22 ?hdC22 ?poC22 ?saC22 ?mkC22 ?kcC22 ?nC22watched ?nC22settled ?nC22waiting ?gC23 ?pgC23 ?hdC23 ?poC23 ?saC23 ?mkC23 ?kcC23 ?nC23facts ?nC23watches ?nC23unknown ?gC42 ?pgC42 ?hdC42 ?poC42 ?saC42 ?mkC42 ?kcC42 ?nC42books ?gC46 ?pgC46 ?hdC46 ?poC46 ?saC46 ?mkC46 ?kcC46 ?nC46operation ?nC46numbers ?nC46rows ?a1a ?i1a ?l1a ?c1a ?k1a ?a1b ?i1b ?l1b ?c1b ?k1b ?a1c ?i1c ?l1c ?c1c ?k1c ?a1d ?i1d ?l1d ?c1d ?k1d ?a2 ?l2 ?c2 ?k2 ?a3 ?l3 ?c3 ?k3 ?a4 ?l4 ?c4 ?k4 ?a15a ?i15a ?l15a ?c15a ?k15a ?a16 ?l16 ?c16 ?k16 ?a17 ?l17 ?c17 ?k17 ?a18 ?l18 ?c18 ?k18 ?a22a ?i22a ?l22a ?c22a ?k22a ?a22b ?i22b ?l22b ?c22b ?k22b ?a22c ?i22c ?l22c ?c22c ?k22c ?a22d ?i22d ?l22d ?c22d ?k22d ?a23a ?i23a ?l23a ?c23a ?k23a ?a23b ?i23b ?l23b ?c23b ?k23b ?a23c ?i23c ?l23c ?c23c ?k23c ?a24 ?l24 ?c24 ?k24 ?a25 ?l25 ?c25 ?k25 ?a26 ?l26 ?c26 ?k26 ?a27 ?l27 ?c27 ?k27 ?a29 ?l29 ?c29 ?k29 ?a30 ?l30 ?c30 ?k30 ?a31 ?l31 ?c31 ?k31 ?a32 ?l32 ?c32 ?k32 ?a33 ?l33 ?c33 ?k33 ?a35 ?l35 ?c35 ?k35 ?a36 ?l36 ?c36 ?k36 ?a37 ?l37 ?c37 ?k37 ?a38 ?l38 ?c38 ?k38 ?a39 ?l39 ?c39 ?k39 ?a42a ?i42a ?l42a ?c42a ?k42a ?a42b ?i42b ?l42b ?c42b ?k42b ?a42c ?i42c ?l42c ?c42c ?k42c ?a42d ?i42d ?l42d ?c42d ?k42d ?a42e ?i42e ?l42e ?c42e ?k42e ?a42f ?i42f ?l42f ?c42f ?k42f ?a42g ?i42g ?l42g ?c42g ?k42g ?a42h ?i42h ?l42h ?c42h ?k42h ?a42i ?i42i ?l42i ?c42i ?k42i ?a42j ?i42j ?l42j ?c42j ?k42j ?a42k ?i42k ?l42k ?c42k ?k42k ?a42l ?i42l ?l42l ?c42l ?k42l ?a46a ?i46a ?l46a ?c46a ?k46a ?a47 ?l47 ?c47 ?k47 ?a57 ?l57 ?c57 ?k57 ?a58 ?l58 ?c58 ?k58 ?gC6 ?a6 ?l6 ?c6 ?k6 ?rd6 ?ga6 ?at6 ?e6 ?ty6 ?ic6 ?vE ?gC7 ?x7 ?sa7 ?g7 ?gg7 ?no7 ?a7 ?t7 ?l7 ?c7 ?k7 ?kc7 ?e7 ?ty7 ?hd7 ?s7 ?gC8 ?x8 ?sa8 ?g8 ?gg8 ?no8 ?a8 ?t8 ?l8 ?c8 ?k8 ?kc8 ?e8 ?ty8 ?hd8 ?s8 ?gC9 ?x9 ?sa9 ?g9 ?gg9 ?no9 ?a9 ?t9 ?l9 ?c9 ?k9 ?kc9 ?e9 ?ty9 ?hd9 ?s9 ?gC10 ?x10 ?sa10 ?g10 ?gg10 ?no10 ?a10 ?t10 ?l10 ?c10 ?k10 ?kc10 ?e10 ?ty10 ?hd10 ?s10 ?gC11 ?x11 ?sa11 ?g11 ?gg11 ?no11 ?a11 ?t11 ?l11 ?c11 ?k11 ?kc11 ?e11 ?ty11 ?hd11 ?s11 ?v13 ?v14 ?v20 ?v21 ?v41 ?v49 ?v50 ?v51 ?v52 ?v53 ?v54 ?v55 ?v56 ?bdict ?blist ?blen ?bsorted ?bmin ?bmax ?bzip ?brange ?btuple ?bException ?gaN ?laN ?gaR ?laR
    (case gC1 => k_is)
    (case pgC1 => k_is)
    (case hdC1 => k_is)
    (case poC1 => k_is)
    (case saC1 => k_is)
    (case mkC1 => k_is)
    (case kcC1 => k_is)
    (case nC1held => k_is)
    (case nC1lookup => k_is)
    (case gC15 => k_is)
    (case pgC15 => k_is)
    (case hdC15 => k_is)
    (case poC15 => k_is)
    (case saC15 => k_is)
    (case mkC15 => k_is)
    (case kcC15 => k_is)
    (case nC15body => k_is)
    (case nC15head => k_is)
    (case nC15shared => k_is)
    (case nC15existential => k_is)
    (case gC22 => k_is)
    (case pgC22 => k_is)
    (case hdC22 => k_is)
    (case poC22 => k_is)
    (case saC22 => k_is)
    (case mkC22 => k_is)
    (case kcC22 => k_is)
    (case nC22watched => k_is)
    (case nC22settled => k_is)
    (case nC22waiting => k_is)
    (case gC23 => k_is)
    (case pgC23 => k_is)
    (case hdC23 => k_is)
    (case poC23 => k_is)
    (case saC23 => k_is)
    (case mkC23 => k_is)
    (case kcC23 => k_is)
    (case nC23facts => k_is)
    (case nC23watches => k_is)
    (case nC23unknown => k_is)
    (case gC42 => k_is)
    (case pgC42 => k_is)
    (case hdC42 => k_is)
    (case poC42 => k_is)
    (case saC42 => k_is)
    (case mkC42 => k_is)
    (case kcC42 => k_is)
    (case nC42books => k_is)
    (case gC46 => k_is)
    (case pgC46 => k_is)
    (case hdC46 => k_is)
    (case poC46 => k_is)
    (case saC46 => k_is)
    (case mkC46 => k_is)
    (case kcC46 => k_is)
    (case nC46operation => k_is)
    (case nC46numbers => k_is)
    (case nC46rows => k_is)
    (case a1a => k_is)
    (case i1a => k_is)
    (case l1a => k_is)
    (case c1a => k_is)
    (case k1a => k_is)
    (case a1b => k_is)
    (case i1b => k_is)
    (case l1b => k_is)
    (case c1b => k_is)
    (case k1b => k_is)
    (case a1c => k_is)
    (case i1c => k_is)
    (case l1c => k_is)
    (case c1c => k_is)
    (case k1c => k_is)
    (case a1d => k_is)
    (case i1d => k_is)
    (case l1d => k_is)
    (case c1d => k_is)
    (case k1d => k_is)
    (case a2 => k_is)
    (case l2 => k_is)
    (case c2 => k_is)
    (case k2 => k_is)
    (case a3 => k_is)
    (case l3 => k_is)
    (case c3 => k_is)
    (case k3 => k_is)
    (case a4 => k_is)
    (case l4 => k_is)
    (case c4 => k_is)
    (case k4 => k_is)
    (case a15a => k_is)
    (case i15a => k_is)
    (case l15a => k_is)
    (case c15a => k_is)
    (case k15a => k_is)
    (case a16 => k_is)
    (case l16 => k_is)
    (case c16 => k_is)
    (case k16 => k_is)
    (case a17 => k_is)
    (case l17 => k_is)
    (case c17 => k_is)
    (case k17 => k_is)
    (case a18 => k_is)
    (case l18 => k_is)
    (case c18 => k_is)
    (case k18 => k_is)
    (case a22a => k_is)
    (case i22a => k_is)
    (case l22a => k_is)
    (case c22a => k_is)
    (case k22a => k_is)
    (case a22b => k_is)
    (case i22b => k_is)
    (case l22b => k_is)
    (case c22b => k_is)
    (case k22b => k_is)
    (case a22c => k_is)
    (case i22c => k_is)
    (case l22c => k_is)
    (case c22c => k_is)
    (case k22c => k_is)
    (case a22d => k_is)
    (case i22d => k_is)
    (case l22d => k_is)
    (case c22d => k_is)
    (case k22d => k_is)
    (case a23a => k_is)
    (case i23a => k_is)
    (case l23a => k_is)
    (case c23a => k_is)
    (case k23a => k_is)
    (case a23b => k_is)
    (case i23b => k_is)
    (case l23b => k_is)
    (case c23b => k_is)
    (case k23b => k_is)
    (case a23c => k_is)
    (case i23c => k_is)
    (case l23c => k_is)
    (case c23c => k_is)
    (case k23c => k_is)
    (case a24 => k_is)
    (case l24 => k_is)
    (case c24 => k_is)
    (case k24 => k_is)
    (case a25 => k_is)
    (case l25 => k_is)
    (case c25 => k_is)
    (case k25 => k_is)
    (case a26 => k_is)
    (case l26 => k_is)
    (case c26 => k_is)
    (case k26 => k_is)
    (case a27 => k_is)
    (case l27 => k_is)
    (case c27 => k_is)
    (case k27 => k_is)
    (case a29 => k_is)
    (case l29 => k_is)
    (case c29 => k_is)
    (case k29 => k_is)
    (case a30 => k_is)
    (case l30 => k_is)
    (case c30 => k_is)
    (case k30 => k_is)
    (case a31 => k_is)
    (case l31 => k_is)
    (case c31 => k_is)
    (case k31 => k_is)
    (case a32 => k_is)
    (case l32 => k_is)
    (case c32 => k_is)
    (case k32 => k_is)
    (case a33 => k_is)
    (case l33 => k_is)
    (case c33 => k_is)
    (case k33 => k_is)
    (case a35 => k_is)
    (case l35 => k_is)
    (case c35 => k_is)
    (case k35 => k_is)
    (case a36 => k_is)
    (case l36 => k_is)
    (case c36 => k_is)
    (case k36 => k_is)
    (case a37 => k_is)
    (case l37 => k_is)
    (case c37 => k_is)
    (case k37 => k_is)
    (case a38 => k_is)
    (case l38 => k_is)
    (case c38 => k_is)
    (case k38 => k_is)
    (case a39 => k_is)
    (case l39 => k_is)
    (case c39 => k_is)
    (case k39 => k_is)
    (case a42a => k_is)
    (case i42a => k_is)
    (case l42a => k_is)
    (case c42a => k_is)
    (case k42a => k_is)
    (case a42b => k_is)
    (case i42b => k_is)
    (case l42b => k_is)
    (case c42b => k_is)
    (case k42b => k_is)
    (case a42c => k_is)
    (case i42c => k_is)
    (case l42c => k_is)
    (case c42c => k_is)
    (case k42c => k_is)
    (case a42d => k_is)
    (case i42d => k_is)
    (case l42d => k_is)
    (case c42d => k_is)
    (case k42d => k_is)
    (case a42e => k_is)
    (case i42e => k_is)
    (case l42e => k_is)
    (case c42e => k_is)
    (case k42e => k_is)
    (case a42f => k_is)
    (case i42f => k_is)
    (case l42f => k_is)
    (case c42f => k_is)
    (case k42f => k_is)
    (case a42g => k_is)
    (case i42g => k_is)
    (case l42g => k_is)
    (case c42g => k_is)
    (case k42g => k_is)
    (case a42h => k_is)
    (case i42h => k_is)
    (case l42h => k_is)
    (case c42h => k_is)
    (case k42h => k_is)
    (case a42i => k_is)
    (case i42i => k_is)
    (case l42i => k_is)
    (case c42i => k_is)
    (case k42i => k_is)
    (case a42j => k_is)
    (case i42j => k_is)
    (case l42j => k_is)
    (case c42j => k_is)
    (case k42j => k_is)
    (case a42k => k_is)
    (case i42k => k_is)
    (case l42k => k_is)
    (case c42k => k_is)
    (case k42k => k_is)
    (case a42l => k_is)
    (case i42l => k_is)
    (case l42l => k_is)
    (case c42l => k_is)
    (case k42l => k_is)
    (case a46a => k_is)
    (case i46a => k_is)
    (case l46a => k_is)
    (case c46a => k_is)
    (case k46a => k_is)
    (case a47 => k_is)
    (case l47 => k_is)
    (case c47 => k_is)
    (case k47 => k_is)
    (case a57 => k_is)
    (case l57 => k_is)
    (case c57 => k_is)
    (case k57 => k_is)
    (case a58 => k_is)
    (case l58 => k_is)
    (case c58 => k_is)
    (case k58 => k_is)
    (case gC6 => k_is)
    (case a6 => k_is)
    (case l6 => k_is)
    (case c6 => k_is)
    (case k6 => k_is)
    (case rd6 => k_is)
    (case ga6 => k_is)
    (case at6 => k_is)
    (case e6 => k_is)
    (case ty6 => k_is)
    (case ic6 => k_is)
    (case vE => k_is)
    (case gC7 => k_is)
    (case x7 => k_is)
    (case sa7 => k_is)
    (case g7 => k_is)
    (case gg7 => k_is)
    (case no7 => k_is)
    (case a7 => k_is)
    (case t7 => k_is)
    (case l7 => k_is)
    (case c7 => k_is)
    (case k7 => k_is)
    (case kc7 => k_is)
    (case e7 => k_is)
    (case ty7 => k_is)
    (case hd7 => k_is)
    (case s7 => k_is)
    (case gC8 => k_is)
    (case x8 => k_is)
    (case sa8 => k_is)
    (case g8 => k_is)
    (case gg8 => k_is)
    (case no8 => k_is)
    (case a8 => k_is)
    (case t8 => k_is)
    (case l8 => k_is)
    (case c8 => k_is)
    (case k8 => k_is)
    (case kc8 => k_is)
    (case e8 => k_is)
    (case ty8 => k_is)
    (case hd8 => k_is)
    (case s8 => k_is)
    (case gC9 => k_is)
    (case x9 => k_is)
    (case sa9 => k_is)
    (case g9 => k_is)
    (case gg9 => k_is)
    (case no9 => k_is)
    (case a9 => k_is)
    (case t9 => k_is)
    (case l9 => k_is)
    (case c9 => k_is)
    (case k9 => k_is)
    (case kc9 => k_is)
    (case e9 => k_is)
    (case ty9 => k_is)
    (case hd9 => k_is)
    (case s9 => k_is)
    (case gC10 => k_is)
    (case x10 => k_is)
    (case sa10 => k_is)
    (case g10 => k_is)
    (case gg10 => k_is)
    (case no10 => k_is)
    (case a10 => k_is)
    (case t10 => k_is)
    (case l10 => k_is)
    (case c10 => k_is)
    (case k10 => k_is)
    (case kc10 => k_is)
    (case e10 => k_is)
    (case ty10 => k_is)
    (case hd10 => k_is)
    (case s10 => k_is)
    (case gC11 => k_is)
    (case x11 => k_is)
    (case sa11 => k_is)
    (case g11 => k_is)
    (case gg11 => k_is)
    (case no11 => k_is)
    (case a11 => k_is)
    (case t11 => k_is)
    (case l11 => k_is)
    (case c11 => k_is)
    (case k11 => k_is)
    (case kc11 => k_is)
    (case e11 => k_is)
    (case ty11 => k_is)
    (case hd11 => k_is)
    (case s11 => k_is)
    (case v13 => k_is)
    (case v14 => k_is)
    (case v20 => k_is)
    (case v21 => k_is)
    (case v41 => k_is)
    (case v49 => k_is)
    (case v50 => k_is)
    (case v51 => k_is)
    (case v52 => k_is)
    (case v53 => k_is)
    (case v54 => k_is)
    (case v55 => k_is)
    (case v56 => k_is)
    (case bdict => k_is)
    (case blist => k_is)
    (case blen => k_is)
    (case bsorted => k_is)
    (case bmin => k_is)
    (case bmax => k_is)
    (case bzip => k_is)
    (case brange => k_is)
    (case btuple => k_is)
    (case bException => k_is)
    (case gaN => k_is)
    (case laN => k_is)
    (case gaR => k_is)
    (case laR => k_is)
  case S =>
    intro K H xs a hO hwi hask hx
    cases hx with
    | cons h1 h2 =>
      cases h2
      cases h1 with
      | lst hs ha =>
        have e := L2.ints_dw a.1 _ ha
        subst e
        have q : ((Codec.inLen 0 2640 a.1 && a.1.all (Codec.inInt 0 4294967295)) && true) = true := hwi
        rw [Bool.and_eq_true, Bool.and_eq_true] at q
        exact ⟨_, a.1, rfl, hs, hask, Nat.le_trans (Codec.inNat_iff.mp q.1.1).2 (by decide), fun H' p hp => .lst (L2.SqL.of hp) (L2.dw_ints _)⟩
#print axioms PySem.Challenge.cw_rulebooksdesk_s01_answers_holds
