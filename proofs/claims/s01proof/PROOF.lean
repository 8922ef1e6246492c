import PyProof.Rows.All
import Wide.All
import OpenK.AllK
import Wide.FinOn
import PyProof.EqAt
import PyProof.EqKinds
import PyProof.TupleCall
import Open.SpecLaws
import KE.OsGo
import PySem.Challenge.RW_scriptsknown_s01_answers
import HandS.ForSpec
import HandS.Walk
import HandS.Comp
import HandS.Strs
import HandS.Conv
import HandS.FStr
import HandS.StrMore
import HandS.Steps
import HandS.TryOnly
import HandS.ExcField
import HandS.Text
import HandS.Iter
import HandS.Dict
import KE.KDictCopyH
import KE.KDictDisplayH
import KE.KeyNested
import HandS.SetFor
import HandS.ExcInit
import HandS.ExcSuper
import HandS.New
set_option linter.all false
namespace MK
open VasedBase Vasedb
open Vaseda (Addr Deed Cmd Script Line Work Out hasIn begins)

/-! ### lists -/
theorem len_le_of_nodup_sub {α : Type} [DecidableEq α] : ∀ {l m : List α}, l.Nodup → (∀ x ∈ l, x ∈ m) → l.length ≤ m.length
  | [], _, _, _ => Nat.zero_le _
  | a :: r, m, h, s => by
    obtain ⟨h1, h2⟩ := List.nodup_cons.mp h
    have hm : a ∈ m := s a List.mem_cons_self
    have ih := len_le_of_nodup_sub (l := r) (m := m.erase a) h2 fun x hx => by
      have hne : x ≠ a := fun e => h1 (e ▸ hx)
      exact (List.mem_erase_of_ne hne).mpr (s x (List.mem_cons_of_mem _ hx))
    rw [List.length_erase_of_mem hm] at ih
    have := List.length_pos_of_mem hm
    simp only [List.length_cons]
    omega
theorem eraseDups_one {α : Type} [BEq α] [LawfulBEq α] (a : α) : [a].eraseDups = [a] := by
  rw [List.eraseDups_cons]
  rfl
theorem eraseDups_snoc {α : Type} [BEq α] [LawfulBEq α] (l : List α) (a : α) : (l ++ [a]).eraseDups = if a ∈ l then l.eraseDups else l.eraseDups ++ [a] := by
  rw [List.eraseDups_append]
  by_cases h : a ∈ l
  · rw [if_pos h]
    have : [a].removeAll l = [] := by simp [List.removeAll, h]
    rw [this]; simp
  · rw [if_neg h]
    have : [a].removeAll l = [a] := by simp [List.removeAll, h]
    rw [this, eraseDups_one]
theorem eraseDups_app_sub {α : Type} [BEq α] [LawfulBEq α] (l m : List α) (h : ∀ x ∈ m, x ∈ l) : (l.eraseDups ++ m.eraseDups).eraseDups = l.eraseDups.eraseDups := by
  rw [List.eraseDups_append]
  have : m.eraseDups.removeAll l.eraseDups = [] := by
    unfold List.removeAll
    rw [List.filter_eq_nil_iff]
    intro x hx
    have : x ∈ l.eraseDups := List.mem_eraseDups.mpr (h x (List.mem_eraseDups.mp hx))
    simp [this]
  rw [this]
  simp
theorem nodup_snoc {α : Type} {l : List α} {a : α} (h : l.Nodup) (ha : a ∉ l) : (l ++ [a]).Nodup := by
  rw [List.nodup_append]
  refine ⟨h, by simp, ?_⟩
  intro x hx y hy e
  rw [List.mem_singleton] at hy
  exact ha (by rw [← hy, ← e]; exact hx)
theorem nodup_eraseDups_snoc {α : Type} [BEq α] [LawfulBEq α] : ∀ (n : Nat) (l : List α), l.length = n → l.eraseDups.Nodup := by
  intro n
  induction n with
  | zero =>
    intro l h
    have : l = [] := List.length_eq_zero_iff.mp h
    subst this
    simp
  | succ n ih =>
    intro l h
    have hne : l ≠ [] := fun e => by subst e; simp at h
    have e : l.dropLast ++ [l.getLast hne] = l := List.dropLast_concat_getLast hne
    rw [← e, eraseDups_snoc]
    have hl : l.dropLast.length = n := by simp [h]
    have nd := ih _ hl
    split
    · exact nd
    · rename_i hx
      exact nodup_snoc nd fun m => hx (List.mem_eraseDups.mp m)
theorem nodup_eraseDups {α : Type} [BEq α] [LawfulBEq α] (l : List α) : l.eraseDups.Nodup := nodup_eraseDups_snoc _ l rfl
theorem eraseDups_of_nodup {α : Type} [BEq α] [LawfulBEq α] : ∀ (n : Nat) (l : List α), l.length = n → l.Nodup → l.eraseDups = l := by
  intro n
  induction n with
  | zero =>
    intro l h _
    have : l = [] := List.length_eq_zero_iff.mp h
    subst this
    simp
  | succ n ih =>
    intro l h nd
    have hne : l ≠ [] := fun e => by subst e; simp at h
    have e : l.dropLast ++ [l.getLast hne] = l := List.dropLast_concat_getLast hne
    have nd' := nd
    rw [← e, List.nodup_append] at nd'
    have hl : l.dropLast.length = n := by simp [h]
    rw [← e, eraseDups_snoc, if_neg, ih _ hl nd'.1]
    intro m
    exact nd'.2.2 _ m _ (List.mem_singleton.mpr rfl) rfl
theorem eraseDups_idem {α : Type} [BEq α] [LawfulBEq α] (l : List α) : l.eraseDups.eraseDups = l.eraseDups := eraseDups_of_nodup _ _ rfl (nodup_eraseDups l)

/-! ### words in lines -/
theorem begins_iff {w x : Bytes} : begins w x = true ↔ w <+: x := by
  unfold begins
  rw [List.prefix_iff_eq_take, beq_iff_eq]
  exact eq_comm
theorem hasIn_iff {w x : Bytes} : hasIn w x = true ↔ w <:+: x := by
  unfold hasIn
  rw [List.any_eq_true]
  constructor
  · rintro ⟨o, ho, h⟩
    rw [Bool.and_eq_true, begins_iff] at h
    obtain ⟨t, ht⟩ := h.1
    exact ⟨x.take o, t, by rw [List.append_assoc, ht, List.take_append_drop]⟩
  · rintro ⟨s, t, e⟩
    refine ⟨s.length, ?_, ?_⟩
    · rw [List.mem_range, ← e]; simp; omega
    · rw [Bool.and_eq_true, begins_iff]
      refine ⟨⟨t, ?_⟩, ?_⟩
      · rw [← e, List.append_assoc, List.drop_left]
      · rw [← e]; simp
/-- e begins one of the words and isn't all of it -/
def P (hs : List Bytes) (e : Bytes) : Bool := hs.any fun w => decide (e.length < w.length) && begins e w
theorem P_iff {hs : List Bytes} {e : Bytes} : P hs e = true ↔ ∃ w ∈ hs, e.length < w.length ∧ e <+: w := by
  unfold P
  rw [List.any_eq_true]
  constructor
  · rintro ⟨w, hw, h⟩
    rw [Bool.and_eq_true, begins_iff] at h
    exact ⟨w, hw, of_decide_eq_true h.1, h.2⟩
  · rintro ⟨w, hw, h1, h2⟩
    exact ⟨w, hw, by rw [Bool.and_eq_true, begins_iff]; exact ⟨decide_eq_true h1, h2⟩⟩
theorem P_closed {hs : List Bytes} {e : Bytes} {c : UInt8} (h : P hs (e ++ [c]) = true) : P hs e = true := by
  obtain ⟨w, hw, h1, h2⟩ := P_iff.mp h
  simp at h1
  exact P_iff.mpr ⟨w, hw, by omega, (List.prefix_append e [c]).trans h2⟩
/-- the longest end that is a beginning -/
def lb (hs : List Bytes) : Bytes → Bytes
  | [] => []
  | c :: r => if P hs (c :: r) = true then c :: r else lb hs r
theorem lb_pos {hs : List Bytes} {c : UInt8} {r : Bytes} (h : P hs (c :: r) = true) : lb hs (c :: r) = c :: r := by
  unfold lb; rw [if_pos h]
theorem lb_neg {hs : List Bytes} {c : UInt8} {r : Bytes} (h : ¬ P hs (c :: r) = true) : lb hs (c :: r) = lb hs r := by
  rw [lb, if_neg h]
theorem find_lb (hs : List Bytes) (x : Bytes) : ∀ (n k : Nat), k + n = x.length + 1 → ((((List.range' k n).map fun k => x.drop k).find? fun e => P hs e).getD []) = lb hs (x.drop k)
  | 0, k, h => by
    have : x.drop k = [] := List.drop_eq_nil_of_le (by omega)
    rw [this]; rfl
  | n + 1, k, h => by
    rw [List.range'_succ, List.map_cons, List.find?_cons]
    by_cases c : P hs (x.drop k) = true
    · rw [c]
      show x.drop k = _
      cases e : x.drop k with
      | nil => rfl
      | cons a r => rw [lb_pos (by rw [← e]; exact c)]
    · have c' : P hs (x.drop k) = false := by simpa using c
      rw [c']
      show (((List.range' (k + 1) n).map fun k => x.drop k).find? fun e => P hs e).getD [] = _
      rw [find_lb hs x n (k + 1) (by omega)]
      cases e : x.drop k with
      | nil =>
        have : x.drop (k + 1) = [] := List.drop_eq_nil_of_le (by have := List.drop_eq_nil_iff.mp e; omega)
        rw [this]
      | cons a r =>
        rw [lb_neg (by rw [← e]; exact c)]
        have : x.drop (k + 1) = r := by
          rw [← List.drop_drop, e]; rfl
        rw [this]
theorem ending_lb (hs : List Bytes) (x : Bytes) : ending hs x = lb hs x := by
  have := find_lb hs x (x.length + 1) 0 (by omega)
  rw [← List.range_eq_range'] at this
  exact this
theorem lb_suffix (hs : List Bytes) : ∀ x : Bytes, lb hs x <:+ x
  | [] => List.suffix_refl _
  | c :: r => by
    by_cases h : P hs (c :: r) = true
    · rw [lb_pos h]; exact List.suffix_refl _
    · rw [lb_neg h]; exact (lb_suffix hs r).trans (List.suffix_cons c r)
theorem lb_P (hs : List Bytes) : ∀ x : Bytes, lb hs x = [] ∨ P hs (lb hs x) = true
  | [] => .inl rfl
  | c :: r => by
    by_cases h : P hs (c :: r) = true
    · rw [lb_pos h]; exact .inr h
    · rw [lb_neg h]; exact lb_P hs r
theorem lb_snoc (hs : List Bytes) (c : UInt8) : ∀ x : Bytes, lb hs (x ++ [c]) = lb hs (lb hs x ++ [c])
  | [] => rfl
  | a :: r => by
    by_cases h : P hs (a :: r) = true
    · rw [lb_pos h]
    · have h2 : ¬ P hs (a :: (r ++ [c])) = true := fun q => h (P_closed (c := c) q)
      rw [lb_neg h, List.cons_append, lb_neg h2]
      exact lb_snoc hs c r
theorem suffix_lb {hs : List Bytes} {w : Bytes} (hw : w ∈ hs) (hn : w ≠ []) (c : UInt8) : ∀ x : Bytes, w <:+ x ++ [c] ↔ w <:+ lb hs x ++ [c]
  | [] => Iff.rfl
  | a :: r => by
    by_cases h : P hs (a :: r) = true
    · rw [lb_pos h]
    · rw [lb_neg h, List.cons_append, List.suffix_cons_iff, ← suffix_lb hw hn c r]
      constructor
      · rintro (e | e)
        · exact absurd (P_iff.mpr ⟨w, hw, by rw [e]; simp, by rw [e, ← List.cons_append]; exact List.prefix_append _ _⟩) h
        · exact e
      · exact .inr
theorem hasIn_snoc {hs : List Bytes} {w : Bytes} (hw : w ∈ hs) (hn : w ≠ []) (c : UInt8) (x : Bytes) : hasIn w (x ++ [c]) = (hasIn w x || w.isSuffixOf (lb hs x ++ [c])) := by
  rw [Bool.eq_iff_iff, Bool.or_eq_true, hasIn_iff, hasIn_iff, List.isSuffixOf_iff_suffix, List.infix_concat_iff, suffix_lb hw hn, or_comm]

/-- the words that a line has -/
def hadOf (hs : List Bytes) (x : Bytes) : List Bytes := hs.filter fun w => hasIn w x
theorem hadOf_eq_iff {hs : List Bytes} {x y : Bytes} : hadOf hs x = hadOf hs y ↔ mask hs x = mask hs y := by
  unfold hadOf mask
  constructor
  · intro e
    refine List.map_congr_left fun w hw => ?_
    have hx : w ∈ hs.filter (fun w => hasIn w x) ↔ w ∈ hs.filter (fun w => hasIn w y) := by rw [e]
    rw [List.mem_filter, List.mem_filter] at hx
    rw [Bool.eq_iff_iff]
    constructor
    · intro h; exact (hx.mp ⟨hw, h⟩).2
    · intro h; exact (hx.mpr ⟨hw, h⟩).2
  · intro e
    refine List.filter_congr fun w hw => ?_
    exact List.map_inj_left.mp e w hw
theorem mask_iff {hs : List Bytes} {x y : Bytes} : mask hs x = mask hs y ↔ ∀ w ∈ hs, hasIn w x = hasIn w y := by
  unfold mask
  rw [List.map_inj_left]
theorem hadOf_snoc {hs : List Bytes} (hne : ∀ w ∈ hs, w ≠ []) (c : UInt8) (x : Bytes) : hadOf hs (x ++ [c]) = hs.filter fun w => (hadOf hs x).contains w || w.isSuffixOf (lb hs x ++ [c]) := by
  unfold hadOf
  refine List.filter_congr fun w hw => ?_
  rw [hasIn_snoc hw (hne w hw)]
  congr 1
  rw [Bool.eq_iff_iff, List.contains_iff_mem, List.mem_filter]
  exact ⟨fun h => ⟨hw, h⟩, fun h => h.2⟩
theorem hadOf_nil {hs : List Bytes} (hne : ∀ w ∈ hs, w ≠ []) : hadOf hs [] = [] := by
  unfold hadOf
  rw [List.filter_eq_nil_iff]
  intro w hw h
  rw [hasIn_iff] at h
  exact hne w hw (List.infix_nil.mp h)
theorem keyOf_eq_iff {hs : List Bytes} {x y : Bytes} : keyOf hs x = keyOf hs y ↔ lb hs x = lb hs y ∧ hadOf hs x = hadOf hs y := by
  unfold keyOf
  rw [ending_lb, ending_lb, hadOf_eq_iff]
  constructor
  · intro e; injection e with e1 e2; exact ⟨e1, e2⟩
  · rintro ⟨e1, e2⟩; rw [e1, e2]
/-- the key of a line with one letter more depends on the line's key alone -/
theorem key_snoc {hs : List Bytes} (hne : ∀ w ∈ hs, w ≠ []) {x y : Bytes} (c : UInt8) (h : keyOf hs x = keyOf hs y) : keyOf hs (x ++ [c]) = keyOf hs (y ++ [c]) := by
  obtain ⟨h1, h2⟩ := keyOf_eq_iff.mp h
  rw [keyOf_eq_iff, lb_snoc, lb_snoc hs c y, hadOf_snoc hne, hadOf_snoc hne, h1, h2]
  exact ⟨rfl, rfl⟩

/-! ### the free letter -/
def noWord (hs : List Bytes) (c : UInt8) : Bool := !hs.any fun w => w.contains c
theorem noWord_iff {hs : List Bytes} {c : UInt8} : noWord hs c = true ↔ ∀ w ∈ hs, c ∉ w := by
  unfold noWord
  rw [Bool.not_eq_true', List.any_eq_false]
  simp
theorem alphabet_nodup : alphabet.Nodup := by decide
theorem alphabet_len : alphabet.length = 26 := by decide
theorem free_some {hs : List Bytes} (hl : (hs.map fun w => w.length).sum ≤ 16) : ∃ c, alphabet.find? (noWord hs) = some c := by
  cases e : alphabet.find? (noWord hs) with
  | some c => exact ⟨c, rfl⟩
  | none =>
    rw [List.find?_eq_none] at e
    have sub : ∀ c ∈ alphabet, c ∈ hs.flatten := fun c hc => by
      have h : ¬ ∀ w ∈ hs, c ∉ w := fun z => e c hc (noWord_iff.mpr z)
      rw [List.mem_flatten]
      apply Classical.byContradiction
      intro q
      exact h fun w hw z => q ⟨w, hw, z⟩
    have := len_le_of_nodup_sub alphabet_nodup sub
    rw [alphabet_len, List.length_flatten] at this
    have e2 : List.map List.length hs = hs.map fun w => w.length := rfl
    rw [e2] at this
    omega
theorem free_is {hs : List Bytes} {c : UInt8} (h : alphabet.find? (noWord hs) = some c) : freeLetter hs = c := by
  show (alphabet.find? (noWord hs)).getD 97 = c
  rw [h]; rfl
theorem noWord_key {hs : List Bytes} (hne : ∀ w ∈ hs, w ≠ []) {c d : UInt8} (hc : noWord hs c = true) (hd : noWord hs d = true) (x : Bytes) : keyOf hs (x ++ [c]) = keyOf hs (x ++ [d]) := by
  have hP : ∀ {c : UInt8}, noWord hs c = true → ∀ e, ¬ P hs (e ++ [c]) = true := fun {c} hc e h => by
    obtain ⟨w, hw, _, h2⟩ := P_iff.mp h
    exact noWord_iff.mp hc w hw (h2.subset (by simp))
  have hl : ∀ {c : UInt8}, noWord hs c = true → ∀ x : Bytes, lb hs (x ++ [c]) = [] := fun {c} hc x => by
    induction x with
    | nil => rw [List.nil_append, lb_neg (hP hc [])]; rfl
    | cons a r ih =>
      have h2 : ¬ P hs (a :: (r ++ [c])) = true := hP hc (a :: r)
      rw [List.cons_append, lb_neg h2]; exact ih
  have hh : ∀ {c : UInt8}, noWord hs c = true → hadOf hs (x ++ [c]) = hadOf hs x := fun {c} hc => by
    unfold hadOf
    refine List.filter_congr fun w hw => ?_
    rw [Bool.eq_iff_iff, hasIn_iff, hasIn_iff, List.infix_concat_iff]
    constructor
    · rintro (h | h)
      · rcases List.suffix_concat_iff.mp h with e | ⟨t, e, _⟩
        · exact absurd e (hne w hw)
        · exact absurd (by rw [e]; simp) (noWord_iff.mp hc w hw)
      · exact h
    · exact .inr
  rw [keyOf_eq_iff, hl hc, hl hd, hh hc, hh hd]
  exact ⟨rfl, rfl⟩

/-! ### the search by all 26 letters -/
def stepA (hs : List Bytes) (x : Line) (g : Found) (c : UInt8) : Found :=
  if g.all.any (fun z => z.1 == keyOf hs (x ++ [c])) = true then g else ⟨g.all ++ [(keyOf hs (x ++ [c]), x ++ [c])], g.last ++ [x ++ [c]]⟩
def rowL (ab : Bytes) (hs : List Bytes) (g : Found) (x : Line) : Found := ab.foldl (stepA hs x) g
def longerL (ab : Bytes) (hs : List Bytes) (f : Found) : Found := f.last.foldl (rowL ab hs) ⟨f.all, []⟩
abbrev rowA (hs : List Bytes) (g : Found) (x : Line) : Found := rowL alphabet hs g x
abbrev longerA (hs : List Bytes) (f : Found) : Found := longerL alphabet hs f
theorem longer_is (hs : List Bytes) (f : Found) : longer hs f = f.last.foldl (fun g x => (letters hs).foldl (stepA hs x) g) ⟨f.all, []⟩ := rfl
theorem any_key {α : Type} {l : List (Key × α)} {k : Key} : l.any (fun z => z.1 == k) = true ↔ k ∈ l.map (·.1) := by
  rw [List.any_eq_true, List.mem_map]
  constructor
  · rintro ⟨z, hz, h⟩; exact ⟨z, hz, eq_of_beq h⟩
  · rintro ⟨z, hz, h⟩; exact ⟨z, hz, by rw [h]; exact beq_self_eq_true k⟩
theorem stepA_old {hs : List Bytes} {x : Line} {g : Found} {c : UInt8} (h : keyOf hs (x ++ [c]) ∈ g.all.map (·.1)) : stepA hs x g c = g := if_pos (any_key.mpr h)
theorem stepA_new {hs : List Bytes} {x : Line} {g : Found} {c : UInt8} (h : keyOf hs (x ++ [c]) ∉ g.all.map (·.1)) : stepA hs x g c = ⟨g.all ++ [(keyOf hs (x ++ [c]), x ++ [c])], g.last ++ [x ++ [c]]⟩ :=
  if_neg fun z => h (any_key.mp z)
theorem stepA_key (hs : List Bytes) (x : Line) (g : Found) (c : UInt8) : keyOf hs (x ++ [c]) ∈ (stepA hs x g c).all.map (·.1) := by
  by_cases h : keyOf hs (x ++ [c]) ∈ g.all.map (·.1)
  · rw [stepA_old h]; exact h
  · rw [stepA_new h]; simp
theorem stepA_mono {hs : List Bytes} {x : Line} {g : Found} {c : UInt8} {k : Key} (h : k ∈ g.all.map (·.1)) : k ∈ (stepA hs x g c).all.map (·.1) := by
  by_cases q : keyOf hs (x ++ [c]) ∈ g.all.map (·.1)
  · rw [stepA_old q]; exact h
  · rw [stepA_new q, List.map_append]; exact List.mem_append_left _ h
theorem fold_mono {hs : List Bytes} {x : Line} {k : Key} : ∀ (l : List UInt8) {g : Found}, k ∈ g.all.map (·.1) → k ∈ (l.foldl (stepA hs x) g).all.map (·.1)
  | [], _, h => h
  | _ :: r, _, h => fold_mono r (stepA_mono h)
theorem fold_skip {hs : List Bytes} {x : Line} {q : UInt8 → Bool} : ∀ (l : List UInt8) {g : Found}, (∀ c ∈ l, q c = false → keyOf hs (x ++ [c]) ∈ g.all.map (·.1)) → l.foldl (stepA hs x) g = (l.filter q).foldl (stepA hs x) g
  | [], _, _ => rfl
  | c :: r, g, h => by
    rw [List.foldl_cons]
    cases e : q c with
    | true =>
      rw [List.filter_cons_of_pos e, List.foldl_cons]
      exact fold_skip r fun d hd hq => stepA_mono (h d (List.mem_cons_of_mem _ hd) hq)
    | false =>
      rw [List.filter_cons_of_neg (by simp [e]), stepA_old (h c List.mem_cons_self e)]
      exact fold_skip r fun d hd hq => h d (List.mem_cons_of_mem _ hd) hq
theorem rowA_is {hs : List Bytes} (hne : ∀ w ∈ hs, w ≠ []) (hl : (hs.map fun w => w.length).sum ≤ 16) (x : Line) (g : Found) : rowA hs g x = (letters hs).foldl (stepA hs x) g := by
  obtain ⟨f, hf⟩ := free_some hl
  obtain ⟨hp, as, bs, e, hb⟩ := List.find?_eq_some_iff_append.mp hf
  unfold rowA rowL letters
  rw [free_is hf, e, List.filter_append, List.filter_cons_of_pos (by simp), List.foldl_append, List.foldl_append, List.foldl_cons, List.foldl_cons]
  have h1 : as.filter (fun c => c == f || hs.any fun w => w.contains c) = as := by
    rw [List.filter_eq_self]
    intro a ha
    have q := hb a ha
    unfold noWord at q
    rw [Bool.not_not] at q
    rw [q, Bool.or_true]
  rw [h1]
  refine fold_skip bs fun c hc hq => ?_
  rw [Bool.or_eq_false_iff] at hq
  have hn : noWord hs c = true := by unfold noWord; rw [hq.2]; rfl
  rw [noWord_key hne hn hp]
  exact stepA_key hs x _ f
theorem longerA_is {hs : List Bytes} (hne : ∀ w ∈ hs, w ≠ []) (hl : (hs.map fun w => w.length).sum ≤ 16) (f : Found) : longerA hs f = longer hs f := by
  have e : rowL alphabet hs = fun g x => (letters hs).foldl (stepA hs x) g := by
    funext g x
    exact rowA_is hne hl x g
  show f.last.foldl (rowL alphabet hs) ⟨f.all, []⟩ = _
  rw [e, longer_is]
/-- the key's line is its own; a line found has letters alone, and so many -/
structure FOk (hs : List Bytes) (n : Nat) (f : Found) : Prop where
  key : ∀ z ∈ f.all, z.1 = keyOf hs z.2
  nd : (f.all.map (·.1)).Nodup
  abc : ∀ z ∈ f.all, (∀ b ∈ z.2, b ∈ alphabet) ∧ z.2.length ≤ n
  labc : ∀ y ∈ f.last, (∀ b ∈ y, b ∈ alphabet) ∧ y.length = n
theorem stepA_ok {hs : List Bytes} {n : Nat} {g : Found} {x : Line} {c : UInt8} (o : FOk hs (n + 1) g) (hx : ∀ b ∈ x, b ∈ alphabet) (hxl : x.length = n) (hc : c ∈ alphabet) : FOk hs (n + 1) (stepA hs x g c) := by
  by_cases h : keyOf hs (x ++ [c]) ∈ g.all.map (·.1)
  · rw [stepA_old h]; exact o
  · rw [stepA_new h]
    have hy : (∀ b ∈ x ++ [c], b ∈ alphabet) ∧ (x ++ [c]).length = n + 1 := by
      refine ⟨fun b hb => ?_, by simp [hxl]⟩
      rcases List.mem_append.mp hb with q | q
      · exact hx b q
      · rw [List.mem_singleton.mp q]; exact hc
    refine ⟨fun z hz => ?_, ?_, fun z hz => ?_, fun y hy' => ?_⟩
    · rcases List.mem_append.mp hz with q | q
      · exact o.key z q
      · rw [List.mem_singleton.mp q]
    · rw [List.map_append]
      exact nodup_snoc o.nd h
    · rcases List.mem_append.mp hz with q | q
      · exact o.abc z q
      · rw [List.mem_singleton.mp q]; exact ⟨hy.1, Nat.le_of_eq hy.2⟩
    · rcases List.mem_append.mp hy' with q | q
      · exact o.labc y q
      · rw [List.mem_singleton.mp q]; exact hy
theorem row_ok {hs : List Bytes} {n : Nat} {x : Line} (hx : ∀ b ∈ x, b ∈ alphabet) (hxl : x.length = n) : ∀ (l : List UInt8) {g : Found}, (∀ c ∈ l, c ∈ alphabet) → FOk hs (n + 1) g → FOk hs (n + 1) (l.foldl (stepA hs x) g)
  | [], _, _, o => o
  | c :: r, _, h, o => row_ok hx hxl r (fun d hd => h d (List.mem_cons_of_mem _ hd)) (stepA_ok o hx hxl (h c List.mem_cons_self))
theorem rows_ok {ab : Bytes} (hab : ∀ c ∈ ab, c ∈ alphabet) {hs : List Bytes} {n : Nat} : ∀ (l : List Line) {g : Found}, (∀ x ∈ l, (∀ b ∈ x, b ∈ alphabet) ∧ x.length = n) → FOk hs (n + 1) g → FOk hs (n + 1) (l.foldl (rowL ab hs) g)
  | [], _, _, o => o
  | x :: r, g, h, o => rows_ok hab r (g := rowL ab hs g x) (fun d hd => h d (List.mem_cons_of_mem _ hd)) (row_ok (h x List.mem_cons_self).1 (h x List.mem_cons_self).2 ab hab o)
theorem FOk.start {hs : List Bytes} {n : Nat} {f : Found} (o : FOk hs n f) : FOk hs (n + 1) ⟨f.all, []⟩ :=
  ⟨o.key, o.nd, fun z hz => ⟨(o.abc z hz).1, Nat.le_succ_of_le (o.abc z hz).2⟩, fun y hy => nomatch hy⟩
theorem longerA_ok {hs : List Bytes} {n : Nat} {f : Found} (o : FOk hs n f) : FOk hs (n + 1) (longerA hs f) := rows_ok (ab := alphabet) (fun _ z => z) f.last o.labc o.start
def foundA (hs : List Bytes) : Nat → Found
  | 0 => ⟨[(keyOf hs [], [])], [[]]⟩
  | n + 1 => longerA hs (foundA hs n)
theorem foundA_ok (hs : List Bytes) : ∀ n, FOk hs n (foundA hs n)
  | 0 => ⟨fun z hz => by rw [List.mem_singleton.mp hz], by simp [foundA], fun z hz => by rw [List.mem_singleton.mp hz]; simp, fun y hy => by rw [List.mem_singleton.mp hy]; simp⟩
  | n + 1 => longerA_ok (foundA_ok hs n)
theorem foundA_is {hs : List Bytes} (hne : ∀ w ∈ hs, w ≠ []) (hl : (hs.map fun w => w.length).sum ≤ 16) : ∀ n, foundA hs n = foundBy hs n
  | 0 => rfl
  | n + 1 => by
    show longerA hs (foundA hs n) = longer hs (foundBy hs n)
    rw [longerA_is hne hl, foundA_is hne hl n]
/-! few keys -/
def tails (hs : List Bytes) : List Bytes := [] :: hs.flatMap fun w => (List.range w.length).map fun k => w.take k
theorem lb_tails (hs : List Bytes) (x : Bytes) : lb hs x ∈ tails hs := by
  rcases lb_P hs x with e | e
  · rw [e]; exact List.mem_cons_self
  · obtain ⟨w, hw, h1, h2⟩ := P_iff.mp e
    refine List.mem_cons_of_mem _ (List.mem_flatMap.mpr ⟨w, hw, List.mem_map.mpr ⟨(lb hs x).length, List.mem_range.mpr h1, ?_⟩⟩)
    exact (List.prefix_iff_eq_take.mp h2).symm
theorem tails_len (hs : List Bytes) : (tails hs).length = 1 + (hs.map fun w => w.length).sum := by
  unfold tails
  rw [List.length_cons, List.length_flatMap]
  simp
  omega
def bits : Nat → List (List Bool)
  | 0 => [[]]
  | n + 1 => (bits n).flatMap fun r => [true :: r, false :: r]
theorem bits_len : ∀ n, (bits n).length = 2 ^ n
  | 0 => rfl
  | n + 1 => by
    unfold bits
    rw [List.length_flatMap]
    have : ((bits n).map fun r => [true :: r, false :: r].length) = (bits n).map fun _ => 2 := rfl
    rw [this, List.map_const', List.sum_replicate_nat, bits_len n, Nat.pow_succ]
theorem bits_mem : ∀ l : List Bool, l ∈ bits l.length
  | [] => List.mem_singleton.mpr rfl
  | b :: r => by
    refine List.mem_flatMap.mpr ⟨r, bits_mem r, ?_⟩
    cases b <;> simp
theorem FOk.few {hs : List Bytes} {n : Nat} {f : Found} (o : FOk hs n f) (h4 : hs.length ≤ 4) (hl : (hs.map fun w => w.length).sum ≤ 16) : f.all.length ≤ 272 := by
  have sub : ∀ k ∈ f.all.map (·.1), k ∈ (tails hs).flatMap fun t => (bits hs.length).map fun m => Key.mk t m := fun k hk => by
    obtain ⟨z, hz, e⟩ := List.mem_map.mp hk
    rw [o.key z hz] at e
    subst e
    refine List.mem_flatMap.mpr ⟨_, by rw [ending_lb]; exact lb_tails hs z.2, List.mem_map.mpr ⟨mask hs z.2, ?_, rfl⟩⟩
    have q := bits_mem (mask hs z.2)
    have e : (mask hs z.2).length = hs.length := by unfold mask; simp
    rw [e] at q
    exact q
  have h := len_le_of_nodup_sub o.nd sub
  rw [List.length_map, List.length_flatMap] at h
  have e : ((tails hs).map fun t => ((bits hs.length).map fun m => Key.mk t m).length) = (tails hs).map fun _ => 2 ^ hs.length := by
    refine List.map_congr_left fun t _ => ?_
    rw [List.length_map, bits_len]
  rw [e, List.map_const', List.sum_replicate_nat, tails_len] at h
  have p : 2 ^ hs.length ≤ 2 ^ 4 := Nat.pow_le_pow_right (by omega) h4
  calc f.all.length ≤ (1 + (hs.map fun w => w.length).sum) * 2 ^ hs.length := h
    _ ≤ 17 * 2 ^ 4 := Nat.mul_le_mul (by omega) p
    _ = 272 := rfl

/-! ### the first line of each set -/
def leastStep (hs : List Bytes) (l : List Line) (z : Key × Line) : List Line := if l.any (fun x => mask hs x == z.1.mask) = true then l else l ++ [z.2]
def leastsOf (hs : List Bytes) (all : List (Key × Line)) : List Line := all.foldl (leastStep hs) []
theorem leasts_is (hs : List Bytes) : leasts hs = leastsOf hs (foundBy hs 16).all := rfl
theorem leastsOf_snoc (hs : List Bytes) (all : List (Key × Line)) (y : Line) : leastsOf hs (all ++ [(keyOf hs y, y)]) = if hadOf hs y ∈ (leastsOf hs all).map (hadOf hs) then leastsOf hs all else leastsOf hs all ++ [y] := by
  have e0 : leastsOf hs (all ++ [(keyOf hs y, y)]) = leastStep hs (leastsOf hs all) (keyOf hs y, y) := by
    unfold leastsOf
    rw [List.foldl_append]
    rfl
  rw [e0]
  show (if (leastsOf hs all).any (fun x => mask hs x == (keyOf hs y).mask) = true then leastsOf hs all else leastsOf hs all ++ [y]) = _
  have : ∀ l : List Line, (l.any (fun x => mask hs x == (keyOf hs y).mask) = true) ↔ hadOf hs y ∈ l.map (hadOf hs) := fun l => by
    rw [List.any_eq_true, List.mem_map]
    constructor
    · rintro ⟨x, hx, h⟩
      exact ⟨x, hx, hadOf_eq_iff.mpr (eq_of_beq h)⟩
    · rintro ⟨x, hx, h⟩
      exact ⟨x, hx, by rw [hadOf_eq_iff.mp h]; exact beq_self_eq_true _⟩
  by_cases h : hadOf hs y ∈ (leastsOf hs all).map (hadOf hs)
  · rw [if_pos ((this _).mpr h), if_pos h]
  · rw [if_neg fun z => h ((this _).mp z), if_neg h]
theorem leastsOf_sub (hs : List Bytes) : ∀ (all : List (Key × Line)) (l : List Line), (∀ y ∈ all.foldl (leastStep hs) l, y ∈ l ∨ y ∈ all.map (·.2))
  | [], l, y, h => .inl h
  | z :: r, l, y, h => by
    rw [List.foldl_cons] at h
    rcases leastsOf_sub hs r _ y h with q | q
    · unfold leastStep at q
      split at q
      · exact .inl q
      · rcases List.mem_append.mp q with q | q
        · exact .inl q
        · rw [List.mem_singleton.mp q]; exact .inr (by simp)
    · exact .inr (by rw [List.map_cons]; exact List.mem_cons_of_mem _ q)
theorem leastStep_mono {hs : List Bytes} {l : List Line} {z : Key × Line} {y : Line} (h : y ∈ l) : y ∈ leastStep hs l z := by
  unfold leastStep
  split
  · exact h
  · exact List.mem_append_left _ h
theorem leasts_mono {hs : List Bytes} : ∀ (all : List (Key × Line)) {l : List Line} {y : Line}, y ∈ l → y ∈ all.foldl (leastStep hs) l
  | [], _, _, h => h
  | _ :: r, _, _, h => leasts_mono r (leastStep_mono h)
theorem leasts_all {hs : List Bytes} : ∀ (all : List (Key × Line)) (l : List Line), (∀ z ∈ all, z.1 = keyOf hs z.2) → ∀ z ∈ all, ∃ y ∈ all.foldl (leastStep hs) l, mask hs y = mask hs z.2
  | z0 :: r, l, hk, z, hz => by
    rw [List.foldl_cons]
    rcases List.mem_cons.mp hz with e | hz
    · subst e
      have hm : z.1.mask = mask hs z.2 := by rw [hk z List.mem_cons_self]; rfl
      have : ∃ y ∈ leastStep hs l z, mask hs y = mask hs z.2 := by
        unfold leastStep
        split
        · rename_i h
          obtain ⟨x, hx, h⟩ := List.any_eq_true.mp h
          exact ⟨x, hx, (eq_of_beq h).trans hm⟩
        · exact ⟨z.2, by simp, rfl⟩
      obtain ⟨y, hy, e⟩ := this
      exact ⟨y, leasts_mono r hy, e⟩
    · exact leasts_all r _ (fun q hq => hk q (List.mem_cons_of_mem _ hq)) z hz

/-! ### complete: each set of words that a line of at most 16 letters has is found -/
theorem all_sub {hs : List Bytes} {x : Line} {z : Key × Line} : ∀ (l : List UInt8) {g : Found}, z ∈ g.all → z ∈ (l.foldl (stepA hs x) g).all
  | [], _, h => h
  | c :: r, g, h => all_sub r (by
    by_cases q : keyOf hs (x ++ [c]) ∈ g.all.map (·.1)
    · rw [stepA_old q]; exact h
    · rw [stepA_new q]; exact List.mem_append_left _ h)
theorem row_key {hs : List Bytes} {x : Line} : ∀ (l : List UInt8) {g : Found} {c : UInt8}, c ∈ l → keyOf hs (x ++ [c]) ∈ (l.foldl (stepA hs x) g).all.map (·.1)
  | a :: r, g, c, h => by
    rw [List.foldl_cons]
    rcases List.mem_cons.mp h with e | h
    · subst e; exact fold_mono r (stepA_key hs x g c)
    · exact row_key r h
theorem rows_mono {ab : Bytes} {hs : List Bytes} {k : Key} : ∀ (l : List Line) {g : Found}, k ∈ g.all.map (·.1) → k ∈ (l.foldl (rowL ab hs) g).all.map (·.1)
  | [], _, h => h
  | x :: r, g, h => rows_mono r (g := rowL ab hs g x) (fold_mono ab h)
theorem rows_key {ab : Bytes} {hs : List Bytes} : ∀ (l : List Line) {g : Found} {x : Line} {c : UInt8}, x ∈ l → c ∈ ab → keyOf hs (x ++ [c]) ∈ (l.foldl (rowL ab hs) g).all.map (·.1)
  | a :: r, g, x, c, h, hc => by
    rw [List.foldl_cons]
    rcases List.mem_cons.mp h with e | h
    · subst e; exact rows_mono r (row_key ab hc)
    · exact rows_key r h hc
/-- what is found was found at some length -/
theorem last_of {hs : List Bytes} {x : Line} : ∀ (l : List UInt8) {g : Found} {z : Key × Line}, z ∈ (l.foldl (stepA hs x) g).all → z ∈ g.all ∨ z.2 ∈ (l.foldl (stepA hs x) g).last
  | [], _, _, h => .inl h
  | c :: r, g, z, h => by
    rw [List.foldl_cons] at h ⊢
    rcases last_of r h with q | q
    · by_cases k : keyOf hs (x ++ [c]) ∈ g.all.map (·.1)
      · rw [stepA_old k] at q; exact .inl q
      · rw [stepA_new k] at q
        rcases List.mem_append.mp q with q | q
        · exact .inl q
        · refine .inr ?_
          have keep : ∀ (l : List UInt8) {g : Found} {y : Line}, y ∈ g.last → y ∈ (l.foldl (stepA hs x) g).last := by
            intro l
            induction l with
            | nil => intro g y h; exact h
            | cons a l ih =>
              intro g y h
              refine ih ?_
              by_cases k : keyOf hs (x ++ [a]) ∈ g.all.map (·.1)
              · rw [stepA_old k]; exact h
              · rw [stepA_new k]; exact List.mem_append_left _ h
          refine keep r ?_
          rw [stepA_new k, List.mem_singleton.mp q]
          simp
    · exact .inr q
theorem lasts_keep {ab : Bytes} {hs : List Bytes} {y : Line} : ∀ (l : List Line) {g : Found}, y ∈ g.last → y ∈ (l.foldl (rowL ab hs) g).last
  | [], _, h => h
  | x :: r, g, h => by
    refine lasts_keep r (g := rowL ab hs g x) ?_
    have keep : ∀ (l : List UInt8) {g : Found} {y : Line}, y ∈ g.last → y ∈ (l.foldl (stepA hs x) g).last := by
      intro l
      induction l with
      | nil => intro g y h; exact h
      | cons a l ih =>
        intro g y h
        refine ih ?_
        by_cases k : keyOf hs (x ++ [a]) ∈ g.all.map (·.1)
        · rw [stepA_old k]; exact h
        · rw [stepA_new k]; exact List.mem_append_left _ h
    exact keep ab h
theorem lasts_of {ab : Bytes} {hs : List Bytes} : ∀ (l : List Line) {g : Found} {z : Key × Line}, z ∈ (l.foldl (rowL ab hs) g).all → z ∈ g.all ∨ z.2 ∈ (l.foldl (rowL ab hs) g).last
  | [], _, _, h => .inl h
  | x :: r, g, z, h => by
    rw [List.foldl_cons] at h ⊢
    rcases lasts_of r h with q | q
    · rcases last_of ab q with q | q
      · exact .inl q
      · exact .inr (lasts_keep r q)
    · exact .inr q
theorem found_last {hs : List Bytes} : ∀ (n : Nat) {z : Key × Line}, z ∈ (foundA hs n).all → ∃ m, m ≤ n ∧ z.2 ∈ (foundA hs m).last
  | 0, z, h => by
    have e : z = (keyOf hs [], []) := List.mem_singleton.mp h
    exact ⟨0, Nat.le_refl _, by rw [e]; exact List.mem_singleton.mpr rfl⟩
  | n + 1, z, h => by
    rcases lasts_of (ab := alphabet) (foundA hs n).last (g := ⟨(foundA hs n).all, []⟩) h with q | q
    · obtain ⟨m, hm, e⟩ := found_last n q
      exact ⟨m, Nat.le_succ_of_le hm, e⟩
    · exact ⟨n + 1, Nat.le_refl _, q⟩
theorem found_mono {hs : List Bytes} {k : Key} (m : Nat) : ∀ d, k ∈ (foundA hs m).all.map (·.1) → k ∈ (foundA hs (m + d)).all.map (·.1)
  | 0, h => h
  | d + 1, h => rows_mono (ab := alphabet) (foundA hs (m + d)).last (g := ⟨(foundA hs (m + d)).all, []⟩) (found_mono m d h)
theorem complete {hs : List Bytes} (hne : ∀ w ∈ hs, w ≠ []) : ∀ (n : Nat) (x : Line), x.length = n → (∀ b ∈ x, b ∈ alphabet) → keyOf hs x ∈ (foundA hs n).all.map (·.1)
  | 0, x, hl, _ => by
    have : x = [] := List.length_eq_zero_iff.mp hl
    subst this
    exact List.mem_singleton.mpr rfl
  | n + 1, x, hl, ha => by
    have hx : x ≠ [] := fun e => by subst e; simp at hl
    have e : x.dropLast ++ [x.getLast hx] = x := List.dropLast_concat_getLast hx
    have ih := complete hne n x.dropLast (by simp [hl]) fun b hb => ha b (List.dropLast_subset _ hb)
    obtain ⟨z, hz, hk⟩ := List.mem_map.mp ih
    obtain ⟨m, hm, hlast⟩ := found_last n hz
    have key := (foundA_ok hs n).key z hz
    have hc : x.getLast hx ∈ alphabet := ha _ (List.getLast_mem hx)
    have q := rows_key (ab := alphabet) (hs := hs) (foundA hs m).last (g := ⟨(foundA hs m).all, []⟩) hlast hc
    have q2 : keyOf hs (z.2 ++ [x.getLast hx]) ∈ (foundA hs (m + 1)).all.map (·.1) := q
    have q3 := found_mono (hs := hs) (m + 1) (n - m) q2
    have e1 : m + 1 + (n - m) = n + 1 := by omega
    rw [e1] at q3
    rw [key_snoc hne (x.getLast hx) (key.symm.trans hk), e] at q3
    exact q3
theorem leasts_complete {hs : List Bytes} (hne : ∀ w ∈ hs, w ≠ []) (hl : (hs.map fun w => w.length).sum ≤ 16) {x : Line} (hx : x.length ≤ 16) (ha : ∀ b ∈ x, b ∈ alphabet) : ∃ y ∈ leasts hs, mask hs y = mask hs x := by
  have q := found_mono (hs := hs) x.length (16 - x.length) (complete hne x.length x rfl ha)
  have e : x.length + (16 - x.length) = 16 := by omega
  rw [e] at q
  obtain ⟨z, hz, hk⟩ := List.mem_map.mp q
  have key := (foundA_ok hs 16).key
  obtain ⟨y, hy, hm⟩ := leasts_all (foundA hs 16).all [] key z hz
  refine ⟨y, ?_, ?_⟩
  · rw [leasts_is, ← foundA_is hne hl 16]; exact hy
  · rw [hm]
    have := (key z hz).symm.trans hk
    exact congrArg Key.mask this
theorem leasts_abc {hs : List Bytes} (hne : ∀ w ∈ hs, w ≠ []) (hl : (hs.map fun w => w.length).sum ≤ 16) : ∀ y ∈ leasts hs, (∀ b ∈ y, b ∈ alphabet) ∧ y.length ≤ 16 := by
  intro y hy
  rw [leasts_is, ← foundA_is hne hl 16] at hy
  rcases leastsOf_sub hs _ [] y hy with q | q
  · cases q
  · obtain ⟨z, hz, e⟩ := List.mem_map.mp q
    rw [← e]
    exact (foundA_ok hs 16).abc z hz
end MK
set_option linter.all false
namespace MK
open VasedBase Vasedb
open Vaseda (Addr Deed Cmd Script Line Work Out hasIn begins holds work deed lineRun outOf)

/-! ### a line and its kind -/
structure CmdIn (hs own : List Bytes) (c : Cmd) : Prop where
  has : ∀ w ∈ wordsOf c.a, w ∈ hs
  just : ∀ w ∈ justOf c.a, w ∈ own
  put : ∀ w ∈ putOf c.d, w ∈ own
  plain : plainDeed c.d = true
def ScriptIn (hs own : List Bytes) (s : Script) : Prop := ∀ c ∈ s, CmdIn hs own c
/-- y does for x -/
structure Alike (hs own : List Bytes) (x y : Line) : Prop where
  nx : x ∉ own
  ny : y ∉ own
  has : ∀ w ∈ hs, hasIn w x = hasIn w y
theorem holds_alike {hs own : List Bytes} {x y : Line} (A : Alike hs own x y) (k : Nat) (l : Bool) : ∀ a : Addr, (∀ w ∈ wordsOf a, w ∈ hs) → (∀ w ∈ justOf a, w ∈ own) → holds k l x a = holds k l y a
  | .all, _, _ => rfl
  | .line _, _, _ => rfl
  | .span _ _, _, _ => rfl
  | .last, _, _ => rfl
  | .has w, h, _ => A.has w (h w (List.mem_singleton.mpr rfl))
  | .is_ w, _, h => by
    have hw := h w (List.mem_singleton.mpr rfl)
    show (x == w) = (y == w)
    have h1 : (x == w) = false := beq_eq_false_iff_ne.mpr fun e => A.nx (e ▸ hw)
    have h2 : (y == w) = false := beq_eq_false_iff_ne.mpr fun e => A.ny (e ▸ hw)
    rw [h1, h2]
  | .not a, h1, h2 => by
    show (!holds k l x a) = (!holds k l y a)
    rw [holds_alike A k l a h1 h2]
structure RelW (own : List Bytes) (x y : Line) (w v : Work) : Prop where
  line : (w.x = x ∧ v.x = y) ∨ (w.x = v.x ∧ w.x ∈ own)
  pre : w.pre = v.pre
  post : w.post = v.post
  gone : w.gone = v.gone
  halt : w.halt = v.halt
  left : w.left = v.left
  did : w.did = v.did
  bad : w.bad = v.bad
  preO : ∀ o ∈ w.pre, o.x ∈ own
  postO : ∀ o ∈ w.post, o.x ∈ own
theorem mem_snoc {own : List Bytes} {l : List Out} {o : Out} (h : ∀ o ∈ l, o.x ∈ own) (ho : o.x ∈ own) : ∀ p ∈ l ++ [o], p.x ∈ own := fun p hp => by
  rcases List.mem_append.mp hp with q | q
  · exact h p q
  · rw [List.mem_singleton.mp q]; exact ho
theorem deed_rel {own : List Bytes} {x y : Line} {w v : Work} (k c : Nat) (R : RelW own x y w v) : ∀ d : Deed, plainDeed d = true → (∀ w ∈ putOf d, w ∈ own) → RelW own x y (deed k c w d) (deed k c v d) := by
  obtain ⟨h1, h2, h3, h4, h5, h6, h7, h8, h9, h10⟩ := R
  intro d hp ho
  cases d with
  | delete => exact ⟨h1, h2, h3, rfl, rfl, h6, h7, h8, h9, h10⟩
  | before z => exact ⟨h1, by show w.pre ++ _ = v.pre ++ _; rw [h2], h3, h4, h5, h6, h7, h8, mem_snoc h9 (ho z (List.mem_singleton.mpr rfl)), h10⟩
  | after z => exact ⟨h1, h2, by show w.post ++ _ = v.post ++ _; rw [h3], h4, h5, h6, h7, h8, h9, mem_snoc h10 (ho z (List.mem_singleton.mpr rfl))⟩
  | change z => exact ⟨.inr ⟨rfl, ho z (List.mem_singleton.mpr rfl)⟩, h2, h3, h4, h5, h6, h7, h8, h9, h10⟩
  | swap a b => exact Bool.noConfusion hp
  | first a b => exact Bool.noConfusion hp
  | keep => exact Bool.noConfusion hp
  | bring => exact Bool.noConfusion hp
  | trade => exact Bool.noConfusion hp
  | skip n => exact ⟨h1, h2, h3, h4, h5, rfl, h7, h8, h9, h10⟩
  | halt_ => exact ⟨h1, h2, h3, h4, rfl, h6, h7, h8, h9, h10⟩
theorem RelW.more {own : List Bytes} {x y : Line} {w v : Work} (R : RelW own x y w v) (n : Nat) : RelW own x y { w with did := w.did ++ [n] } { v with did := v.did ++ [n] } :=
  ⟨R.line, R.pre, R.post, R.gone, R.halt, R.left, by show w.did ++ [n] = v.did ++ [n]; rw [R.did], R.bad, R.preO, R.postO⟩
theorem RelW.less {own : List Bytes} {x y : Line} {w v : Work} (R : RelW own x y w v) : RelW own x y { w with left := w.left - 1 } { v with left := v.left - 1 } :=
  ⟨R.line, R.pre, R.post, R.gone, R.halt, by show w.left - 1 = v.left - 1; rw [R.left], R.did, R.bad, R.preO, R.postO⟩
theorem work_rel {hs own : List Bytes} {x y : Line} (A : Alike hs own x y) {w v : Work} (k : Nat) (l : Bool) (R : RelW own x y w v) (c : Cmd × Nat) (hc : CmdIn hs own c.1) : RelW own x y (work k l w c) (work k l v c) := by
  have hh : holds k l w.x c.1.a = holds k l v.x c.1.a := by
    rcases R.line with ⟨e1, e2⟩ | ⟨e1, _⟩
    · rw [e1, e2]; exact holds_alike A k l _ hc.has hc.just
    · rw [e1]
  unfold work
  by_cases a : (w.halt || w.bad) = true
  · have a' : (v.halt || v.bad) = true := by rw [← R.halt, ← R.bad]; exact a
    rw [if_pos a, if_pos a']; exact R
  · have a' : ¬ (v.halt || v.bad) = true := by rw [← R.halt, ← R.bad]; exact a
    rw [if_neg a, if_neg a']
    by_cases b : 0 < w.left
    · have b' : 0 < v.left := by rw [← R.left]; exact b
      rw [if_pos b, if_pos b']; exact R.less
    · have b' : ¬ 0 < v.left := by rw [← R.left]; exact b
      rw [if_neg b, if_neg b']
      by_cases d : holds k l w.x c.1.a = true
      · have d' : holds k l v.x c.1.a = true := by rw [← hh]; exact d
        rw [if_pos d, if_pos d']
        exact deed_rel k c.2 (R.more c.2) c.1.d hc.plain hc.put
      · have d' : ¬ holds k l v.x c.1.a = true := by rw [← hh]; exact d
        rw [if_neg d, if_neg d']; exact R
theorem works_rel {hs own : List Bytes} {x y : Line} (A : Alike hs own x y) (k : Nat) (l : Bool) : ∀ (cs : List (Cmd × Nat)) {w v : Work}, (∀ c ∈ cs, CmdIn hs own c.1) → RelW own x y w v → RelW own x y (cs.foldl (work k l) w) (cs.foldl (work k l) v)
  | [], _, _, _, R => R
  | c :: r, _, _, h, R => works_rel A k l r (fun d hd => h d (List.mem_cons_of_mem _ hd)) (work_rel A k l R c (h c List.mem_cons_self))
theorem zip_in {hs own : List Bytes} {s : Script} (hS : ScriptIn hs own s) : ∀ c ∈ s.zipIdx, CmdIn hs own c.1 := fun c hc => hS c.1 (by
  obtain ⟨a, i⟩ := c
  have := List.mem_zipIdx hc
  simp at this
  obtain ⟨h1, h2⟩ := this
  rw [h2]; exact List.getElem_mem _)
theorem run_rel {hs own : List Bytes} {s : Script} {x y : Line} (hS : ScriptIn hs own s) (A : Alike hs own x y) (p : Spot) : RelW own x y (workAt s p x) (workAt s p y) :=
  works_rel A p.k p.last s.zipIdx (zip_in hS) ⟨.inl ⟨rfl, rfl⟩, rfl, rfl, rfl, rfl, rfl, rfl, rfl, (fun _ h => nomatch h), (fun _ h => nomatch h)⟩
/-- y in the place of x -/
def sub (x y z : Line) : Line := if z = x then y else z
theorem sub_id {own : List Bytes} {x y : Line} (hx : x ∉ own) : ∀ l : List Out, (∀ o ∈ l, o.x ∈ own) → (l.map fun o => o.x).map (sub x y) = l.map fun o => o.x
  | [], _ => rfl
  | o :: r, h => by
    rw [List.map_cons, List.map_cons, sub_id hx r fun p hp => h p (List.mem_cons_of_mem _ hp)]
    have : sub x y o.x = o.x := if_neg fun e => hx (by rw [← e]; exact h o List.mem_cons_self)
    rw [this]
theorem out_sub {hs own : List Bytes} {s : Script} {x y : Line} (hS : ScriptIn hs own s) (A : Alike hs own x y) (p : Spot) : (outAt s p x).map (sub x y) = outAt s p y := by
  have R := run_rel hS A p
  unfold outAt outOf
  rw [List.map_append, List.map_append, List.map_append, List.map_append, List.map_append, List.map_append, sub_id A.nx _ R.preO, sub_id A.nx _ R.postO, R.pre, R.post, ← R.gone]
  congr 2
  cases (workAt s p x).gone with
  | true => rfl
  | false =>
    show [sub x y (workAt s p x).x] = [(workAt s p y).x]
    rcases R.line with ⟨e1, e2⟩ | ⟨e1, e2⟩
    · rw [e1, e2]; unfold sub; rw [if_pos rfl]
    · rw [← e1]; unfold sub; rw [if_neg fun e => A.nx (by rw [← e]; exact e2)]
theorem diff_alike {hs own : List Bytes} {s u : Script} {x y : Line} (hS : ScriptIn hs own s) (hU : ScriptIn hs own u) (A : Alike hs own x y) (p : Spot) (h : outAt s p x = outAt u p x) : outAt s p y = outAt u p y := by
  rw [← out_sub hS A p, ← out_sub hU A p, h]

/-! ### what tells about all lines -/
def Abc (x : Line) : Prop := (∀ b ∈ x, b ∈ alphabet) ∧ x.length ≤ 16
structure Covers (hs own ks : List Bytes) : Prop where
  lines : ∀ x ∈ ks, Abc x
  all : ∀ x, Abc x → x ∈ ks ∨ ∃ y ∈ ks, Alike hs own y x
theorem diffIn_none {ks : List Line} {s u : Script} : (differenceIn ks s u).isNone = true ↔ ∀ p ∈ spots, ∀ x ∈ ks, outAt s p x = outAt u p x := by
  unfold differenceIn
  rw [Option.isNone_iff_eq_none, List.find?_eq_none]
  unfold ats
  constructor
  · intro h p hp x hx
    have := h ⟨p, x⟩ (List.mem_flatMap.mpr ⟨p, hp, List.mem_map.mpr ⟨x, hx, rfl⟩⟩)
    simpa using this
  · intro h a ha
    obtain ⟨p, hp, q⟩ := List.mem_flatMap.mp ha
    obtain ⟨x, hx, e⟩ := List.mem_map.mp q
    subst e
    simp [h p hp x hx]
theorem diffIn_all {hs own ks : List Bytes} {s u : Script} (C : Covers hs own ks) (hS : ScriptIn hs own s) (hU : ScriptIn hs own u) : (differenceIn ks s u).isNone = true ↔ ∀ p ∈ spots, ∀ x, Abc x → outAt s p x = outAt u p x := by
  rw [diffIn_none]
  constructor
  · intro h p hp x hx
    rcases C.all x hx with q | ⟨y, hy, A⟩
    · exact h p hp x q
    · exact diff_alike hS hU A p (h p hp y hy)
  · intro h p hp x hx
    exact h p hp x (C.lines x hx)
theorem diffIn_eq {hs own ks hs' own' ks' : List Bytes} {s u : Script} (C : Covers hs own ks) (hS : ScriptIn hs own s) (hU : ScriptIn hs own u) (C' : Covers hs' own' ks') (hS' : ScriptIn hs' own' s) (hU' : ScriptIn hs' own' u) :
    (differenceIn ks s u).isNone = (differenceIn ks' s u).isNone := by
  rw [Bool.eq_iff_iff, diffIn_all C hS hU, diffIn_all C' hS' hU']
/-! the kinds do -/
structure WordsOk (hs own : List Bytes) : Prop where
  ne : ∀ w ∈ hs, w ≠ []
  few : (hs.map fun w => w.length).sum ≤ 16
  own : ∀ w ∈ own, (∀ b ∈ w, b ∈ alphabet) ∧ w.length ≤ 8
theorem free_in {hs : List Bytes} (hl : (hs.map fun w => w.length).sum ≤ 16) : freeLetter hs ∈ alphabet ∧ noWord hs (freeLetter hs) = true := by
  obtain ⟨f, hf⟩ := free_some hl
  rw [free_is hf]
  exact ⟨List.mem_of_find?_eq_some hf, List.find?_some hf⟩
theorem has_free {hs : List Bytes} (hne : ∀ w ∈ hs, w ≠ []) {c : UInt8} (hc : noWord hs c = true) (x : Line) : ∀ n, ∀ w ∈ hs, hasIn w (x ++ List.replicate n c) = hasIn w x
  | 0, w, hw => by simp
  | n + 1, w, hw => by
    rw [List.replicate_succ', ← List.append_assoc]
    have ih := has_free hne hc x n w hw
    rw [← ih, Bool.eq_iff_iff, hasIn_iff, hasIn_iff, List.infix_concat_iff]
    constructor
    · rintro (h | h)
      · rcases List.suffix_concat_iff.mp h with e | ⟨t, e, _⟩
        · exact absurd e (hne w hw)
        · exact absurd (by rw [e]; simp) (noWord_iff.mp hc w hw)
      · exact h
    · exact .inr
theorem kinds_covers {hs own : List Bytes} (W : WordsOk hs own) : Covers hs own (kindsFor hs own) := by
  obtain ⟨fa, fn⟩ := free_in W.few
  refine ⟨fun x hx => ?_, fun x hx => ?_⟩
  · unfold kindsFor at hx
    rcases List.mem_append.mp hx with q | q
    · rcases List.mem_append.mp q with q | q
      · exact ⟨(W.own x q).1, Nat.le_trans (W.own x q).2 (by decide)⟩
      · split at q
        · cases q
        · rw [List.mem_singleton.mp q]; exact ⟨(fun _ h => nomatch h), Nat.zero_le _⟩
    · obtain ⟨y, hy, e⟩ := List.mem_map.mp q
      obtain ⟨h1, h2⟩ := leasts_abc W.ne W.few y hy
      subst e
      unfold padded
      refine ⟨fun b hb => ?_, ?_⟩
      · rcases List.mem_append.mp hb with q | q
        · exact h1 b q
        · rw [(List.mem_replicate.mp q).2]; exact fa
      · rw [List.length_append, List.length_replicate]
        show y.length + (8 + 1 - y.length) ≤ 16
        omega
  · by_cases ho : x ∈ own
    · exact .inl (List.mem_append_left _ (List.mem_append_left _ ho))
    · obtain ⟨y, hy, hm⟩ := leasts_complete W.ne W.few hx.2 hx.1
      refine .inr ⟨padded hs y, List.mem_append_right _ (List.mem_map.mpr ⟨y, hy, rfl⟩), fun q => ?_, ho, fun w hw => ?_⟩
      · have := (W.own _ q).2
        unfold padded at this
        rw [List.length_append, List.length_replicate] at this
        have e : NAME = 8 := rfl
        omega
      · unfold padded
        rw [has_free W.ne fn y _ w hw]
        exact mask_iff.mp hm w hw

/-! ### scripts whose words are in order -/
def wordOk (w : Bytes) : Prop := w ≠ [] ∧ (∀ b ∈ w, b ∈ alphabet) ∧ w.length ≤ 8
structure CmdOk (c : Cmd) : Prop where
  has : ∀ w ∈ wordsOf c.a, wordOk w
  just : ∀ w ∈ justOf c.a, wordOk w
  put : ∀ w ∈ putOf c.d, wordOk w
def ScriptOk (s : Script) : Prop := ∀ c ∈ s, CmdOk c
theorem mem_hasWords {s : Script} {w : Bytes} : w ∈ hasWords s ↔ ∃ c ∈ s, w ∈ wordsOf c.a := by
  unfold hasWords
  rw [List.mem_eraseDups, List.mem_flatMap]
theorem mem_ownWords {s : Script} {w : Bytes} : w ∈ ownWords s ↔ ∃ c ∈ s, w ∈ justOf c.a ∨ w ∈ putOf c.d := by
  unfold ownWords
  rw [List.mem_eraseDups, List.mem_flatMap]
  simp only [List.mem_append]
theorem plain_deed {s : Script} (hp : plain s = true) : ∀ c ∈ s, plainDeed c.d = true := by
  unfold plain at hp
  rw [Bool.and_eq_true, List.all_eq_true] at hp
  exact hp.1
theorem plain_few {s : Script} (hp : plain s = true) : (hasWords s).length ≤ 4 ∧ ((hasWords s).map fun w => w.length).sum ≤ 16 := by
  unfold plain at hp
  rw [Bool.and_eq_true, Bool.and_eq_true] at hp
  exact ⟨of_decide_eq_true hp.2.1, of_decide_eq_true hp.2.2⟩
theorem script_in {s : Script} (hp : plain s = true) : ScriptIn (hasWords s) (ownWords s) s := fun c hc =>
  ⟨fun w hw => mem_hasWords.mpr ⟨c, hc, hw⟩, fun w hw => mem_ownWords.mpr ⟨c, hc, .inl hw⟩, fun w hw => mem_ownWords.mpr ⟨c, hc, .inr hw⟩, plain_deed hp c hc⟩
theorem words_ok {s : Script} (ho : ScriptOk s) (hp : plain s = true) : WordsOk (hasWords s) (ownWords s) :=
  ⟨fun w hw => by
    obtain ⟨c, hc, q⟩ := mem_hasWords.mp hw
    exact ((ho c hc).has w q).1, (plain_few hp).2, fun w hw => by
    obtain ⟨c, hc, q⟩ := mem_ownWords.mp hw
    rcases q with q | q
    · exact ((ho c hc).just w q).2
    · exact ((ho c hc).put w q).2⟩
theorem sub_in {hs own : List Bytes} {s u : Script} (hS : ScriptIn hs own s) (h : ∀ c ∈ u, c ∈ s) : ScriptIn hs own u := fun c hc => hS c (h c hc)
/-! without a command, two turned -/
theorem without_is (s : Script) (c : Nat) (h : c < s.length) : without s c = s.take c ++ never :: s.drop (c + 1) := by
  unfold without
  apply List.ext_getElem
  · simp; omega
  · intro i h1 h2
    simp only [List.getElem_map, List.getElem_zipIdx, Nat.zero_add]
    by_cases e : i = c
    · subst e
      have hl : (s.take i).length = i := by simp; omega
      rw [if_pos rfl, List.getElem_append_right (by omega)]
      simp only [hl, Nat.sub_self, List.getElem_cons_zero]
    · rw [if_neg e]
      by_cases l : i < c
      · rw [List.getElem_append_left (by simp; omega)]
        simp
      · rw [List.getElem_append_right (by simp; omega)]
        have hl : (s.take c).length = c := by simp; omega
        have : i - c = (i - c - 1) + 1 := by omega
        simp only [hl]
        have e2 : (never :: s.drop (c + 1))[i - c]? = (never :: s.drop (c + 1))[(i - c - 1) + 1]? := by rw [← this]
        rw [List.getElem?_cons_succ, List.getElem?_drop] at e2
        have e3 : c + 1 + (i - c - 1) = i := by omega
        rw [e3] at e2
        have hi : i < s.length := by simp at h1; exact h1
        rw [List.getElem?_eq_getElem hi] at e2
        rw [List.getElem?_eq_getElem (by simp; omega)] at e2
        exact (Option.some.inj e2).symm
theorem turned_is (s : Script) (c : Nat) {x y : Cmd} (hx : s[c]? = some x) (hy : s[c + 1]? = some y) : turned s c = s.take c ++ y :: x :: s.drop (c + 2) := by
  unfold turned
  rw [hx, hy]
  show (s.zipIdx.map fun z => if z.2 = c then y else if z.2 = c + 1 then x else z.1) = _
  have hl : c + 1 < s.length := (List.getElem?_eq_some_iff.mp hy).1
  have lt : (s.take c).length = c := by simp; omega
  apply List.ext_getElem?
  intro i
  rw [List.getElem?_map, List.getElem?_zipIdx, Option.map_map]
  by_cases e : i = c
  · subst e
    rw [hx, List.getElem?_append_right (by omega), lt]
    simp
  · by_cases e' : i = c + 1
    · subst e'
      rw [hy, List.getElem?_append_right (by omega), lt]
      have : c + 1 - c = 1 := by omega
      rw [this]
      simp
    · by_cases l : i < c
      · rw [List.getElem?_append_left (by omega), List.getElem?_take_of_lt l]
        cases q : s[i]? with
        | none => rfl
        | some z => simp [e, e']
      · rw [List.getElem?_append_right (by omega), lt]
        have : i - c = (i - c - 2) + 1 + 1 := by omega
        rw [this, List.getElem?_cons_succ, List.getElem?_cons_succ, List.getElem?_drop]
        have e3 : c + 2 + (i - c - 2) = i := by omega
        rw [e3]
        cases q : s[i]? with
        | none => rfl
        | some z => simp [e, e']
theorem mem_without {s : Script} {k : Nat} (h : k < s.length) {c : Cmd} (hc : c ∈ without s k) : c = never ∨ c ∈ s := by
  rw [without_is s k h] at hc
  rcases List.mem_append.mp hc with q | q
  · exact .inr (List.mem_of_mem_take q)
  · rcases List.mem_cons.mp q with q | q
    · exact .inl q
    · exact .inr (List.mem_of_mem_drop q)
theorem mem_turned {s : Script} {k : Nat} (h : k + 1 < s.length) {c : Cmd} (hc : c ∈ turned s k) : c ∈ s := by
  have e1 : s[k]? = some s[k] := List.getElem?_eq_getElem (by omega)
  have e2 : s[k + 1]? = some s[k + 1] := List.getElem?_eq_getElem h
  rw [turned_is s k e1 e2] at hc
  rcases List.mem_append.mp hc with q | q
  · exact List.mem_of_mem_take q
  · rcases List.mem_cons.mp q with q | q
    · rw [q]; exact List.getElem_mem _
    · rcases List.mem_cons.mp q with q | q
      · rw [q]; exact List.getElem_mem _
      · exact List.mem_of_mem_drop q
theorem never_in (hs own : List Bytes) : CmdIn hs own never := ⟨(fun _ h => nomatch h), (fun _ h => nomatch h), (fun _ h => nomatch h), rfl⟩
theorem without_in {hs own : List Bytes} {s : Script} (hS : ScriptIn hs own s) {k : Nat} (h : k < s.length) : ScriptIn hs own (without s k) := fun c hc => by
  rcases mem_without h hc with e | e
  · rw [e]; exact never_in hs own
  · exact hS c e
theorem bothKinds_sub {s u : Script} (h1 : ∀ w ∈ hasWords u, w ∈ hasWords s) (h2 : ∀ w ∈ ownWords u, w ∈ ownWords s) : bothKinds s u = kinds s := by
  unfold bothKinds kinds
  have e : ∀ {a b : List Bytes}, a.eraseDups = a → (∀ w ∈ b, w ∈ a) → (a ++ b).eraseDups = a := fun {a b} ha h => by
    rw [List.eraseDups_append, ha]
    have : b.removeAll a = [] := by
      unfold List.removeAll
      rw [List.filter_eq_nil_iff]
      intro x hx
      simp [h x hx]
    rw [this]; simp
  rw [e (a := hasWords s) (eraseDups_idem _) h1, e (a := ownWords s) (eraseDups_idem _) h2]
theorem bothKinds_without {s : Script} {k : Nat} (h : k < s.length) : bothKinds s (without s k) = kinds s := by
  refine bothKinds_sub (fun w hw => ?_) fun w hw => ?_
  · obtain ⟨c, hc, q⟩ := mem_hasWords.mp hw
    rcases mem_without h hc with e | e
    · subst e; cases q
    · exact mem_hasWords.mpr ⟨c, e, q⟩
  · obtain ⟨c, hc, q⟩ := mem_ownWords.mp hw
    rcases mem_without h hc with e | e
    · subst e; rcases q with q | q <;> cases q
    · exact mem_ownWords.mpr ⟨c, e, q⟩
theorem bothKinds_turned {s : Script} {k : Nat} (h : k + 1 < s.length) : bothKinds s (turned s k) = kinds s := by
  refine bothKinds_sub (fun w hw => ?_) fun w hw => ?_
  · obtain ⟨c, hc, q⟩ := mem_hasWords.mp hw
    exact mem_hasWords.mpr ⟨c, mem_turned h hc, q⟩
  · obtain ⟨c, hc, q⟩ := mem_ownWords.mp hw
    exact mem_ownWords.mpr ⟨c, mem_turned h hc, q⟩
/-! where a command isn't done nothing else comes without it -/
theorem work_did {k : Nat} {l : Bool} {w : Work} {c : Cmd × Nat} {n : Nat} (h : n ∈ w.did) : n ∈ (work k l w c).did := by
  unfold work
  split
  · exact h
  · split
    · exact h
    · split
      · have h' : n ∈ w.did ++ [c.2] := List.mem_append_left _ h
        cases c.1.d <;> exact h'
      · exact h
theorem works_did {k : Nat} {l : Bool} {n : Nat} : ∀ (cs : List (Cmd × Nat)) {w : Work}, n ∈ w.did → n ∈ (cs.foldl (work k l) w).did
  | [], _, h => h
  | _ :: r, _, h => works_did r (work_did h)
theorem without_run {k : Nat} {l : Bool} {n : Nat} : ∀ (cs : List (Cmd × Nat)) {w : Work}, n ∉ (cs.foldl (work k l) w).did → (cs.map fun x => (if x.2 = n then never else x.1, x.2)).foldl (work k l) w = cs.foldl (work k l) w
  | [], _, _ => rfl
  | c :: r, w, h => by
    rw [List.map_cons, List.foldl_cons, List.foldl_cons]
    rw [List.foldl_cons] at h
    have e : work k l w (if c.2 = n then never else c.1, c.2) = work k l w c := by
      by_cases q : c.2 = n
      · rw [if_pos q]
        have hd : n ∉ (work k l w c).did := fun z => h (works_did r z)
        unfold work at hd ⊢
        split
        · rfl
        · rename_i h1
          rw [if_neg h1] at hd
          split
          · rfl
          · rename_i h2
            rw [if_neg h2] at hd
            have hn : holds k l w.x never.a = false := rfl
            simp only [hn]
            rw [if_neg (by decide)]
            split
            · rename_i h3
              rw [if_pos h3] at hd
              refine absurd ?_ hd
              have h' : n ∈ w.did ++ [c.2] := by rw [q]; simp
              cases c.1.d <;> exact h'
            · rfl
      · rw [if_neg q]
    rw [e]
    exact without_run r h
theorem zipIdx_map {α β : Type} (f : α × Nat → β) : ∀ (l : List α) (n : Nat), ((l.zipIdx n).map f).zipIdx n = (l.zipIdx n).map fun x => (f x, x.2)
  | [], _ => rfl
  | a :: r, n => by
    rw [List.zipIdx_cons, List.map_cons, List.map_cons, List.zipIdx_cons, zipIdx_map f r (n + 1)]
theorem without_at {s : Script} {n : Nat} {p : Spot} {x : Line} (h : n ∉ (workAt s p x).did) : outAt (without s n) p x = outAt s p x := by
  have : workAt (without s n) p x = workAt s p x := by
    unfold workAt lineRun without
    rw [zipIdx_map]
    exact without_run s.zipIdx h
  unfold outAt
  rw [this]
theorem find_filter {α : Type} {p q : α → Bool} : ∀ {l : List α}, (∀ a ∈ l, q a = true → p a = true) → (l.filter p).find? q = l.find? q
  | [], _ => rfl
  | a :: r, h => by
    have ih := find_filter (p := p) (q := q) (l := r) fun b hb => h b (List.mem_cons_of_mem _ hb)
    cases hp : p a with
    | true => rw [List.filter_cons_of_pos hp, List.find?_cons, List.find?_cons, ih]
    | false =>
      have hq : q a = false := by
        cases e : q a with
        | false => rfl
        | true => rw [h a List.mem_cons_self e] at hp; cases hp
      rw [List.filter_cons_of_neg (by simp [hp]), List.find?_cons, hq, ih]
/-- the first place and kind of which something else comes without a command: looked for where it is done alone -/
def doneIn (s : Script) (n : Nat) : List At := (ats (kinds s)).filter fun a => (workAt s a.p a.x).did.contains n
def unlikeIn (l : List At) (s u : Script) : Option At := l.find? fun a => outAt s a.p a.x != outAt u a.p a.x
def mattering (s : Script) (n : Nat) : Option At := unlikeIn (doneIn s n) s (without s n)
theorem mattering_diffIn (s : Script) (n : Nat) : mattering s n = differenceIn (kinds s) s (without s n) := by
  unfold mattering unlikeIn doneIn differenceIn
  refine find_filter fun a _ h => ?_
  rw [List.contains_iff_mem]
  apply Classical.byContradiction
  intro q
  rw [without_at q] at h
  simp at h
theorem mattering_is {s : Script} {n : Nat} (h : n < s.length) : difference s (without s n) = mattering s n := by
  unfold difference
  rw [bothKinds_without h, mattering_diffIn]
theorem idle_is (s : Script) (n : Nat) : idleIn (kinds s) s n = (mattering s n).isNone := by
  unfold idleIn
  rw [mattering_diffIn]
theorem turn_is {s : Script} {n : Nat} (h : n + 1 < s.length) : difference s (turned s n) = unlikeIn (ats (kinds s)) s (turned s n) := by
  unfold difference unlikeIn differenceIn
  rw [bothKinds_turned h]
theorem can_is (s : Script) (n : Nat) : canDo s n = (doneIn s n).head? := by
  unfold canDo doneIn
  rw [List.head?_filter]
/-! ### pruned -/
theorem hasSum {s u : Script} (h : ∀ c ∈ u, c ∈ s) : (∀ w ∈ hasWords u, w ∈ hasWords s) := fun w hw => by
  obtain ⟨c, hc, q⟩ := mem_hasWords.mp hw
  exact mem_hasWords.mpr ⟨c, h c hc, q⟩
theorem sum_sub : ∀ {l m : List Bytes}, l.Nodup → (∀ x ∈ l, x ∈ m) → (l.map fun w => w.length).sum ≤ (m.map fun w => w.length).sum
  | [], _, _, _ => Nat.zero_le _
  | a :: r, m, h, s => by
    obtain ⟨h1, h2⟩ := List.nodup_cons.mp h
    have hm : a ∈ m := s a List.mem_cons_self
    have ih := sum_sub (l := r) (m := m.erase a) h2 fun x hx => (List.mem_erase_of_ne fun e => h1 (by rw [← e]; exact hx)).mpr (s x (List.mem_cons_of_mem _ hx))
    have pm := (List.perm_cons_erase hm).map (fun w : Bytes => w.length)
    have := pm.sum_nat
    rw [this, List.map_cons, List.sum_cons, List.map_cons, List.sum_cons]
    omega
theorem plain_sub {s u : Script} (hp : plain s = true) (h : ∀ c ∈ u, c ∈ s) : plain u = true := by
  have hw := hasSum h
  obtain ⟨h1, h2⟩ := plain_few hp
  unfold plain
  rw [Bool.and_eq_true, Bool.and_eq_true, List.all_eq_true]
  refine ⟨fun c hc => plain_deed hp c (h c hc), decide_eq_true ?_, decide_eq_true ?_⟩
  · exact Nat.le_trans (len_le_of_nodup_sub (nodup_eraseDups _) hw) h1
  · exact Nat.le_trans (sum_sub (nodup_eraseDups _) hw) h2
theorem ok_sub {s u : Script} (ho : ScriptOk s) (h : ∀ c ∈ u, c ∈ s) : ScriptOk u := fun c hc => ho c (h c hc)
theorem idle_any {s u : Script} (ho : ScriptOk s) (hp : plain s = true) (h : ∀ c ∈ u, c ∈ s) {n : Nat} (hn : n < u.length) : idleIn (kinds s) u n = idleIn (kinds u) u n := by
  unfold idleIn
  have S := script_in hp
  have pu := plain_sub hp h
  exact diffIn_eq (kinds_covers (words_ok ho hp)) (sub_in S h) (without_in (sub_in S h) hn) (kinds_covers (words_ok (ok_sub ho h) pu)) (script_in pu) (without_in (script_in pu) hn)
def firstIdle (s : Script) : Option Nat := (List.range s.length).find? fun n => (mattering s n).isNone
theorem find_congr {α : Type} {p q : α → Bool} : ∀ {l : List α}, (∀ a ∈ l, p a = q a) → l.find? p = l.find? q
  | [], _ => rfl
  | a :: r, h => by
    rw [List.find?_cons, List.find?_cons, h a List.mem_cons_self, find_congr fun b hb => h b (List.mem_cons_of_mem _ hb)]
theorem firstIdle_is {s u : Script} (ho : ScriptOk s) (hp : plain s = true) (h : ∀ c ∈ u, c ∈ s) : (List.range u.length).find? (idleIn (kinds s) u) = firstIdle u := by
  unfold firstIdle
  refine find_congr fun n hn => ?_
  rw [idle_any ho hp h (List.mem_range.mp hn), idle_is]
theorem pruneBy_none {ks : List Line} : ∀ (f : Nat) {s : Script}, (List.range s.length).find? (idleIn ks s) = none → pruneBy ks f s = s
  | 0, _, _ => rfl
  | f + 1, s, h => by
    unfold pruneBy
    rw [h]
theorem pruneBy_some {ks : List Line} {f : Nat} {s : Script} {c : Nat} (h : (List.range s.length).find? (idleIn ks s) = some c) : pruneBy ks (f + 1) s = pruneBy ks f (s.eraseIdx c) := by
  rw [pruneBy, h]
/-- the loop: of the script as it is by now, u, and so much fuel as u is long the pruned one comes -/
structure Pruning (s u : Script) : Prop where
  sub : ∀ c ∈ u, c ∈ s
  eq : pruneBy (kinds s) u.length u = pruned s
theorem Pruning.start (s : Script) : Pruning s s := ⟨fun _ h => h, rfl⟩
theorem Pruning.done {s u : Script} (ho : ScriptOk s) (hp : plain s = true) (R : Pruning s u) (h : firstIdle u = none) : u = pruned s := by
  rw [← R.eq, pruneBy_none _ (by rw [firstIdle_is ho hp R.sub]; exact h)]
theorem firstIdle_lt {u : Script} {n : Nat} (h : firstIdle u = some n) : n < u.length := List.mem_range.mp (List.mem_of_find?_eq_some h)
theorem Pruning.more {s u : Script} (ho : ScriptOk s) (hp : plain s = true) (R : Pruning s u) {n : Nat} (h : firstIdle u = some n) : Pruning s (u.eraseIdx n) := by
  have hn := firstIdle_lt h
  have h' : (List.range u.length).find? (idleIn (kinds s) u) = some n := by rw [firstIdle_is ho hp R.sub]; exact h
  refine ⟨fun c hc => R.sub c (List.eraseIdx_subset hc), ?_⟩
  rw [← R.eq, List.length_eraseIdx_of_lt hn]
  obtain ⟨m, hm⟩ : ∃ m, u.length = m + 1 := ⟨u.length - 1, by omega⟩
  rw [hm]
  exact (pruneBy_some h').symm
theorem hasSkip_sub {s u : Script} (h : ∀ c ∈ u, c ∈ s) (hs : hasSkip s = false) : hasSkip u = false := by
  unfold hasSkip at hs ⊢
  rw [List.any_eq_false] at hs ⊢
  exact fun c hc => hs c (h c hc)
end MK
set_option linter.all false
/-! how a command is shown: words with a blank between -/
namespace MK
open VasedBase Vaseda
def joinB (s : Bytes) : List Bytes → Bytes
  | [] => []
  | [x] => x
  | x :: y :: r => x ++ s ++ joinB s (y :: r)
theorem joinB_last (s x : Bytes) : ∀ ws : List Bytes, joinB s (ws ++ [x]) = ws.flatMap (fun w => w ++ s) ++ x
  | [] => rfl
  | [w] => by
    show w ++ s ++ x = (w ++ s ++ []) ++ x
    rw [List.append_nil]
  | w :: v :: r => by
    have ih := joinB_last s x (v :: r)
    show w ++ s ++ joinB s (v :: r ++ [x]) = (w ++ s ++ (v :: r).flatMap fun w => w ++ s) ++ x
    rw [ih, List.append_assoc (w ++ s)]
def baseW : Addr → List Bytes
  | .all => [word "all"]
  | .line n => [word "line", showNat n]
  | .span a b => [word "from", showNat a, word "to", showNat b]
  | .last => [word "last"]
  | .has w => [word "has", w]
  | .is_ w => [word "is", w]
  | .not a => baseW a
def nts : Addr → Nat
  | .not a => nts a + 1
  | _ => 0
def aWords : Addr → List Bytes
  | .not a => word "not" :: aWords a
  | a => baseW a
theorem aWords_rep : ∀ a : Addr, aWords a = List.replicate (nts a) (word "not") ++ baseW a
  | .not a => by
    show word "not" :: aWords a = List.replicate (nts a + 1) (word "not") ++ baseW a
    rw [aWords_rep a, List.replicate_succ]
    rfl
  | .all => rfl
  | .line n => rfl
  | .span a b => rfl
  | .last => rfl
  | .has w => rfl
  | .is_ w => rfl
def adrWords (a : Addr) : List Bytes := if a = .all then [] else word "if" :: aWords a
def dWords : Deed → List Bytes
  | .delete => [word "delete"]
  | .before w => [word "before", w]
  | .after w => [word "after", w]
  | .change w => [word "change", w]
  | .swap a b => [word "swap", a, instead b]
  | .first a b => [word "first", a, instead b]
  | .keep => [word "keep"]
  | .bring => [word "bring"]
  | .trade => [word "trade"]
  | .skip k => [word "skip", showNat k]
  | .halt_ => [word "stop"]
abbrev sp1 : Bytes := word " "
theorem show_addr : ∀ a : Addr, (aWords a).flatMap (fun w => w ++ sp1) = showAddr a ++ sp1
  | .not a => by
    show (word "not" ++ sp1) ++ (aWords a).flatMap (fun w => w ++ sp1) = (word "not " ++ showAddr a) ++ sp1
    rw [show_addr a, List.append_assoc (word "not ")]
    rfl
  | .all => rfl
  | .line n => by
    show (word "line" ++ sp1) ++ ((showNat n ++ sp1) ++ []) = (word "line " ++ showNat n) ++ sp1
    rw [List.append_nil, List.append_assoc (word "line ")]
    rfl
  | .span a b => by
    show (word "from" ++ sp1) ++ ((showNat a ++ sp1) ++ ((word "to" ++ sp1) ++ ((showNat b ++ sp1) ++ []))) = (word "from " ++ (showNat a ++ (word " to " ++ showNat b))) ++ sp1
    rw [List.append_nil, show word "from " = word "from" ++ sp1 by decide, show word " to " = sp1 ++ (word "to" ++ sp1) by decide]
    simp only [List.append_assoc]
  | .last => rfl
  | .has w => by
    show (word "has" ++ sp1) ++ ((w ++ sp1) ++ []) = (word "has " ++ w) ++ sp1
    rw [List.append_nil, List.append_assoc (word "has ")]
    rfl
  | .is_ w => by
    show (word "is" ++ sp1) ++ ((w ++ sp1) ++ []) = (word "is " ++ w) ++ sp1
    rw [List.append_nil, List.append_assoc (word "is ")]
    rfl
theorem show_deed (d : Deed) : (dWords d).flatMap (fun w => w ++ sp1) = showDeed d ++ sp1 := by
  have two : ∀ (a b x : Bytes), x = a ++ sp1 → (a ++ sp1) ++ ((b ++ sp1) ++ []) = (x ++ b) ++ sp1 := fun a b x e => by
    rw [e, List.append_nil, List.append_assoc (a ++ sp1)]
  have three : ∀ (a b c x : Bytes), x = a ++ sp1 → (a ++ sp1) ++ ((b ++ sp1) ++ ((c ++ sp1) ++ [])) = (x ++ (b ++ (sp1 ++ c))) ++ sp1 := fun a b c x e => by
    rw [e, List.append_nil]
    simp only [List.append_assoc]
  cases d with
  | delete => rfl
  | before w => exact two _ w _ (by decide)
  | after w => exact two _ w _ (by decide)
  | change w => exact two _ w _ (by decide)
  | swap a b => exact three _ a (instead b) _ (by decide)
  | first a b => exact three _ a (instead b) _ (by decide)
  | keep => rfl
  | bring => rfl
  | trade => rfl
  | skip k => exact two _ (showNat k) _ (by decide)
  | halt_ => rfl
theorem show_cmd (c : Cmd) : joinB sp1 (adrWords c.a ++ dWords c.d ++ [word ";"]) ++ [10] = showCmd c := by
  rw [joinB_last, List.flatMap_append, show_deed]
  have e : (adrWords c.a).flatMap (fun w => w ++ sp1) = if c.a = .all then [] else word "if " ++ (showAddr c.a ++ word " ") := by
    unfold adrWords
    by_cases h : c.a = .all
    · rw [if_pos h, if_pos h]
      rfl
    · rw [if_neg h, if_neg h]
      show (word "if" ++ sp1) ++ (aWords c.a).flatMap (fun w => w ++ sp1) = _
      rw [show_addr]
      rfl
  rw [e]
  unfold showCmd
  have z : ∀ a b : Bytes, a ++ (b ++ sp1) ++ word ";" ++ [10] = a ++ (b ++ (word " ;" ++ [10])) := fun a b => by
    rw [show word " ;" = sp1 ++ word ";" by decide]
    simp only [List.append_assoc]
  exact z _ _
end MK
set_option Elab.async false
set_option linter.all false
set_option maxRecDepth 100000
/-! tokens by places -/
namespace MP
open VasedBase
theorem tok_pos {b : UInt8} {r : Bytes} {x : Tok × Nat} (h : token (b :: r) = some x) : 1 ≤ x.2 ∧ x.2 ≤ (b :: r).length := by
  unfold token at h
  simp only [] at h
  have tw : ∀ (p : UInt8 → Bool), p b = true → 1 ≤ ((b :: r).takeWhile p).length ∧ ((b :: r).takeWhile p).length ≤ (b :: r).length := fun p hp => by
    refine ⟨?_, (List.takeWhile_prefix p).length_le⟩
    rw [List.takeWhile_cons, if_pos hp, List.length_cons]
    omega
  by_cases h1 : isLetter b = true
  · rw [if_pos h1] at h
    split at h
    · cases h
    · cases h
      exact tw _ h1
  · rw [if_neg h1] at h
    by_cases h2 : isDigit b = true
    · rw [if_pos h2] at h
      cases e : numberOf ((b :: r).takeWhile isDigit) with
      | none =>
        rw [e] at h
        cases h
      | some n =>
        rw [e] at h
        cases h
        exact tw _ h2
    · rw [if_neg h2] at h
      split at h
      · cases h
        exact ⟨Nat.le_refl _, by simp⟩
      · cases h
theorem lex_fuel : ∀ (n m at_ : Nat) (l : Bytes), l.length < n → l.length < m → lex n at_ l = lex m at_ l
  | 0, _, _, _, h, _ => absurd h (Nat.not_lt_zero _)
  | _, 0, _, _, _, h => absurd h (Nat.not_lt_zero _)
  | n + 1, m + 1, at_, [], _, _ => rfl
  | n + 1, m + 1, at_, b :: r, h1, h2 => by
    rw [List.length_cons] at h1 h2
    unfold lex
    by_cases hb : isBlank b = true
    · rw [if_pos hb, if_pos hb]
      exact lex_fuel n m _ r (by omega) (by omega)
    · rw [if_neg hb, if_neg hb]
      by_cases h35 : (b == 35) = true
      · rw [if_pos h35, if_pos h35]
        have := (List.dropWhile_suffix (p := (· != 10)) (l := r)).length_le
        exact lex_fuel n m _ _ (by omega) (by omega)
      · rw [if_neg h35, if_neg h35]
        cases e : token (b :: r) with
        | none => rfl
        | some x =>
          have p := (tok_pos e).1
          simp only []
          have : ((b :: r).drop x.2).length ≤ r.length := by
            rw [List.length_drop, List.length_cons]
            omega
          rw [lex_fuel n m _ _ (by omega) (by omega)]
def lx (b : Bytes) (i : Nat) : Except Fault Toks := lex (b.length + 1) i (b.drop i)
theorem lx_by {b : Bytes} {i n : Nat} (h : (b.drop i).length < n) : lex n i (b.drop i) = lx b i := lex_fuel _ _ _ _ h (by rw [List.length_drop]; omega)
theorem drop_at {α : Type} {l : List α} {i : Nat} {x : α} (h : l[i]? = some x) : l.drop i = x :: l.drop (i + 1) := by
  obtain ⟨hi, e⟩ := List.getElem?_eq_some_iff.mp h
  rw [List.drop_eq_getElem_cons hi, e]
theorem lx_end (b : Bytes) : lx b b.length = .ok [⟨b.length, .last⟩] := by
  unfold lx
  rw [List.drop_length]
  rfl
theorem lx_blank {b : Bytes} {i : Nat} {c : UInt8} (h : b[i]? = some c) (hc : isBlank c = true) : lx b i = lx b (i + 1) := by
  have hi := (List.getElem?_eq_some_iff.mp h).1
  rw [← lx_by (i := i + 1) (n := b.length) (by rw [List.length_drop]; omega)]
  unfold lx
  rw [drop_at h]
  show lex (b.length + 1) i (c :: b.drop (i + 1)) = _
  rw [lex, if_pos hc]
theorem dropWhile_drop {α : Type} (p : α → Bool) (l : List α) : l.dropWhile p = l.drop (l.takeWhile p).length := by
  induction l with
  | nil => rfl
  | cons a l ih =>
    rw [List.dropWhile_cons, List.takeWhile_cons]
    by_cases h : p a = true
    · rw [if_pos h, if_pos h, List.length_cons, List.drop_succ_cons, ih]
    · rw [if_neg h, if_neg h]
      rfl
theorem lx_remark {b : Bytes} {i : Nat} (h : b[i]? = some 35) : lx b i = lx b (i + ((b.drop i).takeWhile (· != 10)).length) := by
  have hi := (List.getElem?_eq_some_iff.mp h).1
  rw [← lx_by (i := i + ((b.drop i).takeWhile (· != 10)).length) (n := b.length) (by
    rw [List.length_drop, drop_at h, List.takeWhile_cons, if_pos (by decide), List.length_cons]
    omega)]
  unfold lx
  rw [drop_at h, List.takeWhile_cons, if_pos (by decide), List.length_cons, lex, if_neg (by decide), if_pos (by decide), dropWhile_drop, List.drop_drop]
  congr 1
  · omega
  · congr 1
    omega
theorem lx_none {b : Bytes} {i : Nat} {c : UInt8} (h : b[i]? = some c) (n1 : isBlank c = false) (n2 : (c == 35) = false) (e : token (b.drop i) = none) : lx b i = .error ⟨2, i⟩ := by
  unfold lx
  rw [drop_at h] at e ⊢
  rw [lex, if_neg (by rw [n1]; decide), if_neg (by rw [n2]; decide), e]
theorem lx_some {b : Bytes} {i : Nat} {c : UInt8} (h : b[i]? = some c) (n1 : isBlank c = false) (n2 : (c == 35) = false) {x : Tok × Nat} (e : token (b.drop i) = some x) : lx b i = (lx b (i + x.2)).map fun l => ⟨i, x.1⟩ :: l := by
  have hi := (List.getElem?_eq_some_iff.mp h).1
  have e' := e
  rw [drop_at h] at e'
  have p := (tok_pos e').1
  rw [← lx_by (i := i + x.2) (n := b.length) (by rw [List.length_drop]; omega)]
  unfold lx
  rw [drop_at h] at e ⊢
  rw [lex, if_neg (by rw [n1]; decide), if_neg (by rw [n2]; decide), e]
  simp only []
  rw [← drop_at h, List.drop_drop]
theorem tok_le {b : Bytes} {i : Nat} {c : UInt8} (h : b[i]? = some c) {x : Tok × Nat} (e : token (b.drop i) = some x) : i < i + x.2 ∧ i + x.2 ≤ b.length := by
  have hi := (List.getElem?_eq_some_iff.mp h).1
  have e' := e
  rw [drop_at h] at e'
  have p := tok_pos e'
  rw [← drop_at h, List.length_drop] at p
  omega
/-- tokens that are read: words of letters, at most 8; numbers; the sign -/
def tokOk : Tok → Prop
  | .name w => w ≠ [] ∧ w.length ≤ 8 ∧ ∀ c ∈ w, isLetter c = true
  | .num n => n ≤ 1000000000
  | .sign c => c = 59
  | .last => False
theorem tok_ok {l : Bytes} {x : Tok × Nat} (h : token l = some x) : tokOk x.1 := by
  cases l with
  | nil => cases h
  | cons b r =>
    unfold token at h
    simp only [] at h
    by_cases h1 : isLetter b = true
    · rw [if_pos h1] at h
      split at h
      · cases h
      · rename_i h8
        cases h
        refine ⟨?_, ?_, fun c hc => ?_⟩
        · rw [List.takeWhile_cons, if_pos h1]
          simp
        · have : NAME = 8 := rfl
          omega
        · exact List.all_eq_true.mp List.all_takeWhile c hc
    · rw [if_neg h1] at h
      by_cases h2 : isDigit b = true
      · rw [if_pos h2] at h
        cases e : numberOf ((b :: r).takeWhile isDigit) with
        | none =>
          rw [e] at h
          cases h
        | some n =>
          rw [e] at h
          cases h
          unfold numberOf at e
          split at e
          · cases e
          · rename_i hn
            cases e
            have : NUMBER = 1000000000 := rfl
            show decimal _ ≤ _
            omega
      · rw [if_neg h2] at h
        split at h
        · rename_i hs
          cases h
          have : b ∈ SIGNS := by simpa using hs
          have : b = 59 := by simpa [SIGNS] using this
          rw [this]
          rfl
        · cases h
end MP
set_option Elab.async false
set_option linter.all false
set_option maxRecDepth 100000
/-! reading by places -/
namespace MP
open VasedBase Vaseda
def TkOk : Toks → Prop
  | [] => False
  | t :: r => t.place ≤ 4096 ∧ ((t.tok = .last ∧ r = []) ∨ (tokOk t.tok ∧ TkOk r))
theorem TkOk.cons {l : Toks} (h : TkOk l) : ∃ t r, l = t :: r ∧ t.place ≤ 4096 ∧ ((t.tok = .last ∧ r = []) ∨ (tokOk t.tok ∧ TkOk r)) := by
  cases l with
  | nil => exact h.elim
  | cons t r => exact ⟨t, r, rfl, h⟩
theorem lx_ok {b : Bytes} (hb : b.length ≤ 4096) : ∀ (n i : Nat) (l : Toks), b.length - i ≤ n → i ≤ b.length → lx b i = .ok l → TkOk l
  | n, i, l, hn, hi, h => by
    by_cases e : i = b.length
    · rw [e, lx_end] at h
      cases h
      exact ⟨hb, .inl ⟨rfl, rfl⟩⟩
    · have hlt : i < b.length := by omega
      have hc := List.getElem?_eq_getElem hlt
      generalize b[i] = c at hc
      cases n with
      | zero => omega
      | succ n =>
        by_cases h1 : isBlank c = true
        · rw [lx_blank hc h1] at h
          exact lx_ok hb n (i + 1) l (by omega) hlt h
        · have h1' : isBlank c = false := by simpa using h1
          by_cases h2 : c = 35
          · rw [h2] at hc
            rw [lx_remark hc] at h
            have tw : ((b.drop i).takeWhile (· != 10)).length ≤ (b.drop i).length := (List.takeWhile_prefix _).length_le
            have t1 : 1 ≤ ((b.drop i).takeWhile (· != 10)).length := by
              rw [drop_at hc, List.takeWhile_cons, if_pos (by decide), List.length_cons]
              omega
            rw [List.length_drop] at tw
            exact lx_ok hb n _ l (by omega) (by omega) h
          · have h2' : (c == 35) = false := by simpa using h2
            cases e : token (b.drop i) with
            | none =>
              rw [lx_none hc h1' h2' e] at h
              cases h
            | some x =>
              rw [lx_some hc h1' h2' e] at h
              have le := tok_le hc e
              cases e2 : lx b (i + x.2) with
              | error f =>
                rw [e2] at h
                cases h
              | ok m =>
                rw [e2] at h
                cases h
                exact ⟨by show i ≤ 4096; omega, .inr ⟨tok_ok e, lx_ok hb n _ m (by omega) le.2 e2⟩⟩
theorem lx_len {b : Bytes} : ∀ (n i : Nat) (l : Toks), b.length - i ≤ n → i ≤ b.length → lx b i = .ok l → l.length ≤ b.length - i + 1
  | n, i, l, hn, hi, h => by
    by_cases e : i = b.length
    · rw [e, lx_end] at h
      cases h
      exact Nat.le_add_left _ _
    · have hlt : i < b.length := by omega
      have hc := List.getElem?_eq_getElem hlt
      generalize b[i] = c at hc
      cases n with
      | zero => omega
      | succ n =>
        by_cases h1 : isBlank c = true
        · rw [lx_blank hc h1] at h
          have := lx_len n (i + 1) l (by omega) hlt h
          omega
        · have h1' : isBlank c = false := by simpa using h1
          by_cases h2 : c = 35
          · rw [h2] at hc
            rw [lx_remark hc] at h
            have tw : ((b.drop i).takeWhile (· != 10)).length ≤ (b.drop i).length := (List.takeWhile_prefix _).length_le
            have t1 : 1 ≤ ((b.drop i).takeWhile (· != 10)).length := by
              rw [drop_at hc, List.takeWhile_cons, if_pos (by decide), List.length_cons]
              omega
            rw [List.length_drop] at tw
            have := lx_len n _ l (by omega) (by omega) h
            omega
          · have h2' : (c == 35) = false := by simpa using h2
            cases e : token (b.drop i) with
            | none =>
              rw [lx_none hc h1' h2' e] at h
              cases h
            | some x =>
              rw [lx_some hc h1' h2' e] at h
              have le := tok_le hc e
              cases e2 : lx b (i + x.2) with
              | error f =>
                rw [e2] at h
                cases h
              | ok m =>
                rw [e2] at h
                cases h
                have := lx_len n _ m (by omega) le.2 e2
                rw [List.length_cons]
                omega
/-! words -/
theorem next_iff {t : Tok} {l : Toks} {p : PTok} : next t (p :: l) = tokEq p.tok t := rfl
theorem tokEq_name {t : Tok} {w : Bytes} : tokEq t (.name w) = true ↔ t = .name w := by
  cases t with
  | name a => exact ⟨fun h => by rw [eq_of_beq h], fun h => by cases h; exact beq_self_eq_true _⟩
  | num _ => exact ⟨fun h => (by cases h), fun h => (by cases h)⟩
  | sign _ => exact ⟨fun h => (by cases h), fun h => (by cases h)⟩
  | last => exact ⟨fun h => (by cases h), fun h => (by cases h)⟩
def wk (w : Bytes) : Prop := MK.wordOk w
theorem letter_abc {c : UInt8} (h : isLetter c = true) : c ∈ Vasedb.alphabet := by
  have h2 : 97 ≤ c.toNat ∧ c.toNat ≤ 122 := of_decide_eq_true h
  unfold Vasedb.alphabet
  refine List.mem_map.mpr ⟨c.toNat - 97, List.mem_range.mpr (by omega), ?_⟩
  rw [show 97 + (c.toNat - 97) = c.toNat by omega]
  simp
theorem tok_word {w : Bytes} (h : tokOk (.name w)) : MK.wordOk w := ⟨h.1, fun b hb => letter_abc (h.2.2 b hb), h.2.1⟩
/-! names, numbers -/
theorem letters_ok {l m : Toks} {w : Bytes} (h : takeLetters l = .ok (w, m)) (k : TkOk l) : MK.wordOk w ∧ TkOk m := by
  obtain ⟨t, r, rfl, hp, hc⟩ := k.cons
  obtain ⟨p, tk⟩ := t
  unfold takeLetters takeName at h
  cases tk with
  | name b =>
    simp only [] at h
    split at h
    · cases h
    · cases h
      rcases hc with ⟨z, _⟩ | ⟨z, y⟩
      · cases z
      · exact ⟨tok_word z, y⟩
  | num _ => cases h
  | sign _ => cases h
  | last => cases h
theorem num_ok {lo hi : Nat} {l m : Toks} {n : Nat} (h : takeNum lo hi l = .ok (n, m)) (k : TkOk l) : lo ≤ n ∧ n ≤ hi ∧ TkOk m := by
  obtain ⟨t, r, rfl, hp, hc⟩ := k.cons
  obtain ⟨p, tk⟩ := t
  unfold takeNum at h
  cases tk with
  | num b =>
    simp only [] at h
    split at h
    · cases h
    · rename_i q
      cases h
      rcases hc with ⟨z, _⟩ | ⟨z, y⟩
      · cases z
      · exact ⟨by omega, by omega, y⟩
  | name _ => cases h
  | sign _ => cases h
  | last => cases h
theorem next_ok {w : Bytes} {l : Toks} (h : next (.name w) l = true) (k : TkOk l) : TkOk (l.drop 1) ∧ l.length = (l.drop 1).length + 1 := by
  obtain ⟨t, r, rfl, hp, hc⟩ := k.cons
  have e := tokEq_name.mp h
  rcases hc with ⟨z, _⟩ | ⟨z, y⟩
  · rw [e] at z
    cases z
  · exact ⟨y, rfl⟩
theorem sign_ok {l m : Toks} (h : takeSign 59 l = .ok m) (k : TkOk l) : TkOk m ∧ m = l.drop 1 := by
  obtain ⟨t, r, rfl, hp, hc⟩ := k.cons
  unfold takeSign taken at h
  split at h
  · rename_i q
    cases h
    refine ⟨?_, rfl⟩
    obtain ⟨p, tk⟩ := t
    cases tk with
    | sign c =>
      rcases hc with ⟨z, _⟩ | ⟨z, y⟩
      · cases z
      · exact y
    | name _ => cases q
    | num _ => cases q
    | last => cases q
  · cases h
theorem word_ok {w : String} {l m : Toks} (h : takeWord w l = .ok m) (k : TkOk l) : TkOk m ∧ m = l.drop 1 ∧ l.length = m.length + 1 := by
  unfold takeWord taken at h
  split at h
  · rename_i q
    cases h
    exact ⟨(next_ok q k).1, rfl, (next_ok q k).2⟩
  · cases h
theorem letters_len {l m : Toks} {w : Bytes} (h : takeLetters l = .ok (w, m)) : m = l.drop 1 := by
  unfold takeLetters takeName at h
  cases l with
  | nil => cases h
  | cons t r =>
    obtain ⟨p, tk⟩ := t
    cases tk with
    | name b =>
      simp only [] at h
      split at h
      · cases h
      · cases h
        rfl
    | num _ => cases h
    | sign _ => cases h
    | last => cases h
theorem num_len {lo hi : Nat} {l m : Toks} {n : Nat} (h : takeNum lo hi l = .ok (n, m)) : m = l.drop 1 := by
  unfold takeNum at h
  cases l with
  | nil => cases h
  | cons t r =>
    obtain ⟨p, tk⟩ := t
    cases tk with
    | num b =>
      simp only [] at h
      split at h
      · cases h
      · cases h
        rfl
    | name _ => cases h
    | sign _ => cases h
    | last => cases h
/-! addresses -/
def notN : Nat → Addr → Addr
  | 0, a => a
  | n + 1, a => .not (notN n a)
def takeBase (l : Toks) : Except Fault (Addr × Toks) :=
    if nextWord "all" l = true then .ok (.all, l.drop 1)
    else if nextWord "line" l = true then (takeNum 1 LINE (l.drop 1)).map fun x => (.line x.1, x.2)
    else if nextWord "from" l = true then (takeNum 1 LINE (l.drop 1)).bind fun x => (takeWord "to" x.2).bind fun l => (takeNum x.1 LINE l).map fun y => (.span x.1 y.1, y.2)
    else if nextWord "last" l = true then .ok (.last, l.drop 1)
    else if nextWord "has" l = true then (takeLetters (l.drop 1)).map fun x => (.has x.1, x.2)
    else if nextWord "is" l = true then (takeLetters (l.drop 1)).map fun x => (.is_ x.1, x.2)
    else wrong l
theorem words_apart {v w : String} (h : (word v == word w) = false) {l : Toks} (k : nextWord v l = true) : nextWord w l = false := by
  unfold nextWord at *
  cases l with
  | nil => rfl
  | cons t r =>
    have e := tokEq_name.mp k
    show tokEq t.tok _ = false
    rw [e]
    exact h
theorem addr_step (f n : Nat) (l : Toks) : takeAddr (f + 1) n l = if nextWord "not" l = true then (if 3 ≤ n then .error ⟨4, here l⟩ else (takeAddr f (n + 1) (l.drop 1)).map fun x => (.not x.1, x.2)) else takeBase l := by
  conv => lhs; unfold takeAddr
  unfold takeBase
  by_cases h : nextWord "not" l = true
  · have k : ∀ w, (word "not" == word w) = false → ¬ nextWord w l = true := fun w hw => by rw [words_apart hw h]; decide
    rw [if_neg (k "all" (by decide +kernel)), if_neg (k "line" (by decide +kernel)), if_neg (k "from" (by decide +kernel)), if_neg (k "last" (by decide +kernel)), if_neg (k "has" (by decide +kernel)), if_neg (k "is" (by decide +kernel)), if_pos h, if_pos h]
    rfl
  · simp only [if_neg h]
theorem not_map {n : Nat} {r : Except Fault (Addr × Toks)} : (r.map fun x => (notN n x.1, x.2)).map (fun x => (Addr.not x.1, x.2)) = r.map fun x => (notN (n + 1) x.1, x.2) := by
  cases r <;> rfl
theorem addr_nots : ∀ (n k f : Nat) (l : Toks), (∀ j, j < n → nextWord "not" (l.drop j) = true) → k + n ≤ 3 → takeAddr (f + n) k l = (takeAddr f (k + n) (l.drop n)).map fun x => (notN n x.1, x.2)
  | 0, k, f, l, _, _ => by
    show takeAddr f k l = (takeAddr f k l).map fun x => (x.1, x.2)
    cases takeAddr f k l <;> rfl
  | n + 1, k, f, l, h, hk => by
    rw [show f + (n + 1) = (f + n) + 1 from rfl, addr_step, if_pos (show nextWord "not" l = true from h 0 (Nat.succ_pos _)), if_neg (by omega), addr_nots n (k + 1) f (l.drop 1) (fun j hj => by rw [List.drop_drop, Nat.add_comm]; exact h (j + 1) (by omega)) (by omega), not_map, List.drop_drop, show k + 1 + n = k + (n + 1) by omega, show 1 + n = n + 1 by omega]
theorem addr_many (f : Nat) (l : Toks) (h : ∀ j, j < 4 → nextWord "not" (l.drop j) = true) : takeAddr (f + 4) 0 l = .error ⟨4, here (l.drop 3)⟩ := by
  rw [show f + 4 = (f + 1) + 3 from rfl, addr_nots 3 0 (f + 1) l (fun j hj => h j (by omega)) (by omega), addr_step, if_pos (h 3 (by omega)), if_pos (by omega)]
  rfl
theorem addr_base (n f : Nat) (l : Toks) (h : ∀ j, j < n → nextWord "not" (l.drop j) = true) (hn : n ≤ 3) (k : nextWord "not" (l.drop n) = false) : takeAddr (f + 1 + n) 0 l = (takeBase (l.drop n)).map fun x => (notN n x.1, x.2) := by
  rw [addr_nots n 0 (f + 1) l h (by omega), addr_step, if_neg (by rw [k]; decide)]
end MP
set_option Elab.async false
set_option linter.all false
set_option maxRecDepth 100000
set_option maxHeartbeats 2000000
namespace SK
open PySem PySem.Spec PyProof.Rows L2
def top (i : Nat) : Stmt := PySem.Challenge.pw_scriptsknown_s01_answers.main.body.getD i (.Pass ⟨0, 0, 0, 0⟩)
end SK
set_option Elab.async false
set_option linter.all false
set_option maxRecDepth 100000
set_option maxHeartbeats 2000000
namespace SK
open PySem PySem.Spec PyProof.Rows L2

abbrev s_Address_init : Stmt := inClass (top 1) 0
abbrev N_Address_init : List Str := ["self", "nots", "name", "first", "final", "letters"]
theorem sc_Address_init : FnScope ["self", "nots", "name", "first", "final", "letters"] ["self", "nots", "name", "first", "final", "letters"] (defScope s_Address_init) := ⟨rfl, rfl, rfl, by decide +kernel, rfl, by decide +kernel, by decide +kernel⟩

abbrev s_Deed_init : Stmt := inClass (top 2) 0
abbrev N_Deed_init : List Str := ["self", "name", "letters", "other", "number"]
theorem sc_Deed_init : FnScope ["self", "name", "letters", "other", "number"] ["self", "name", "letters", "other", "number"] (defScope s_Deed_init) := ⟨rfl, rfl, rfl, by decide +kernel, rfl, by decide +kernel, by decide +kernel⟩

abbrev s_Command_init : Stmt := inClass (top 3) 0
abbrev N_Command_init : List Str := ["self", "address", "deed"]
theorem sc_Command_init : FnScope ["self", "address", "deed"] ["self", "address", "deed"] (defScope s_Command_init) := ⟨rfl, rfl, rfl, by decide +kernel, rfl, by decide +kernel, by decide +kernel⟩

abbrev s_everywhere : Stmt := top 4
abbrev N_everywhere : List Str := []
theorem sc_everywhere : FnScope [] [] (defScope s_everywhere) := ⟨rfl, rfl, rfl, by decide +kernel, rfl, by decide +kernel, by decide +kernel⟩

abbrev s_never_done : Stmt := top 5
abbrev N_never_done : List Str := []
theorem sc_never_done : FnScope [] [] (defScope s_never_done) := ⟨rfl, rfl, rfl, by decide +kernel, rfl, by decide +kernel, by decide +kernel⟩

abbrev s_without : Stmt := top 6
abbrev N_without : List Str := ["commands", "number"]
theorem sc_without : FnScope ["commands", "number"] ["commands", "number"] (defScope s_without) := ⟨rfl, rfl, rfl, by decide +kernel, rfl, by decide +kernel, by decide +kernel⟩

abbrev s_taken_out : Stmt := top 7
abbrev N_taken_out : List Str := ["commands", "number"]
theorem sc_taken_out : FnScope ["commands", "number"] ["commands", "number"] (defScope s_taken_out) := ⟨rfl, rfl, rfl, by decide +kernel, rfl, by decide +kernel, by decide +kernel⟩

abbrev s_turned : Stmt := top 8
abbrev N_turned : List Str := ["commands", "number"]
theorem sc_turned : FnScope ["commands", "number"] ["commands", "number"] (defScope s_turned) := ⟨rfl, rfl, rfl, by decide +kernel, rfl, by decide +kernel, by decide +kernel⟩

abbrev s_has_skip : Stmt := top 9
abbrev N_has_skip : List Str := ["commands", "command"]
theorem sc_has_skip : FnScope ["commands", "command"] ["commands"] (defScope s_has_skip) := ⟨rfl, rfl, rfl, by decide +kernel, rfl, by decide +kernel, by decide +kernel⟩

abbrev s_form_of : Stmt := top 10
abbrev N_form_of : List Str := ["commands", "command"]
theorem sc_form_of : FnScope ["commands", "command"] ["commands"] (defScope s_form_of) := ⟨rfl, rfl, rfl, by decide +kernel, rfl, by decide +kernel, by decide +kernel⟩

abbrev s_command_form : Stmt := top 11
abbrev N_command_form : List Str := ["command", "words"]
theorem sc_command_form : FnScope ["command", "words"] ["command"] (defScope s_command_form) := ⟨rfl, rfl, rfl, by decide +kernel, rfl, by decide +kernel, by decide +kernel⟩

abbrev s_address_words : Stmt := top 12
abbrev N_address_words : List Str := ["address", "words"]
theorem sc_address_words : FnScope ["address", "words"] ["address"] (defScope s_address_words) := ⟨rfl, rfl, rfl, by decide +kernel, rfl, by decide +kernel, by decide +kernel⟩

abbrev s_deed_words : Stmt := top 13
abbrev N_deed_words : List Str := ["deed"]
theorem sc_deed_words : FnScope ["deed"] ["deed"] (defScope s_deed_words) := ⟨rfl, rfl, rfl, by decide +kernel, rfl, by decide +kernel, by decide +kernel⟩

abbrev s_Fault_init : Stmt := inClass (top 15) 0
abbrev N_Fault_init : List Str := ["self", "code", "place"]
theorem sc_Fault_init : FnScope ["self", "code", "place"] ["self", "code", "place"] (defScope s_Fault_init) := ⟨rfl, rfl, rfl, by decide +kernel, rfl, by decide +kernel, by decide +kernel⟩

abbrev s_Token_init : Stmt := inClass (top 29) 0
abbrev N_Token_init : List Str := ["self", "kind", "value", "place", "behind"]
theorem sc_Token_init : FnScope ["self", "kind", "value", "place", "behind"] ["self", "kind", "value", "place", "behind"] (defScope s_Token_init) := ⟨rfl, rfl, rfl, by decide +kernel, rfl, by decide +kernel, by decide +kernel⟩

abbrev s_tokens_of : Stmt := top 30
abbrev N_tokens_of : List Str := ["script", "tokens", "at", "token"]
theorem sc_tokens_of : FnScope ["script", "tokens", "at", "token"] ["script"] (defScope s_tokens_of) := ⟨rfl, rfl, rfl, by decide +kernel, rfl, by decide +kernel, by decide +kernel⟩

abbrev s_behind_blanks : Stmt := top 31
abbrev N_behind_blanks : List Str := ["script", "at"]
theorem sc_behind_blanks : FnScope ["script", "at"] ["script", "at"] (defScope s_behind_blanks) := ⟨rfl, rfl, rfl, by decide +kernel, rfl, by decide +kernel, by decide +kernel⟩

abbrev s_behind_remark : Stmt := top 32
abbrev N_behind_remark : List Str := ["script", "at"]
theorem sc_behind_remark : FnScope ["script", "at"] ["script", "at"] (defScope s_behind_remark) := ⟨rfl, rfl, rfl, by decide +kernel, rfl, by decide +kernel, by decide +kernel⟩

abbrev s_token_at : Stmt := top 33
abbrev N_token_at : List Str := ["script", "at", "byte"]
theorem sc_token_at : FnScope ["script", "at", "byte"] ["script", "at"] (defScope s_token_at) := ⟨rfl, rfl, rfl, by decide +kernel, rfl, by decide +kernel, by decide +kernel⟩

abbrev s_is_letter : Stmt := top 34
abbrev N_is_letter : List Str := ["byte"]
theorem sc_is_letter : FnScope ["byte"] ["byte"] (defScope s_is_letter) := ⟨rfl, rfl, rfl, by decide +kernel, rfl, by decide +kernel, by decide +kernel⟩

abbrev s_is_digit : Stmt := top 35
abbrev N_is_digit : List Str := ["byte"]
theorem sc_is_digit : FnScope ["byte"] ["byte"] (defScope s_is_digit) := ⟨rfl, rfl, rfl, by decide +kernel, rfl, by decide +kernel, by decide +kernel⟩

abbrev s_word_at : Stmt := top 36
abbrev N_word_at : List Str := ["script", "at", "behind"]
theorem sc_word_at : FnScope ["script", "at", "behind"] ["script", "at"] (defScope s_word_at) := ⟨rfl, rfl, rfl, by decide +kernel, rfl, by decide +kernel, by decide +kernel⟩

abbrev s_text_of : Stmt := top 37
abbrev N_text_of : List Str := ["letters", "byte"]
theorem sc_text_of : FnScope ["letters", "byte"] ["letters"] (defScope s_text_of) := ⟨rfl, rfl, rfl, by decide +kernel, rfl, by decide +kernel, by decide +kernel⟩

abbrev s_number_at : Stmt := top 38
abbrev N_number_at : List Str := ["script", "at", "behind", "value"]
theorem sc_number_at : FnScope ["script", "at", "behind", "value"] ["script", "at"] (defScope s_number_at) := ⟨rfl, rfl, rfl, by decide +kernel, rfl, by decide +kernel, by decide +kernel⟩

abbrev s_value_of : Stmt := top 39
abbrev N_value_of : List Str := ["digits", "value", "byte"]
theorem sc_value_of : FnScope ["digits", "value", "byte"] ["digits"] (defScope s_value_of) := ⟨rfl, rfl, rfl, by decide +kernel, rfl, by decide +kernel, by decide +kernel⟩

abbrev s_is_plain : Stmt := top 46
abbrev N_is_plain : List Str := ["commands", "command", "words"]
theorem sc_is_plain : FnScope ["commands", "command", "words"] ["commands"] (defScope s_is_plain) := ⟨rfl, rfl, rfl, by decide +kernel, rfl, by decide +kernel, by decide +kernel⟩

abbrev s_looked_for : Stmt := top 47
abbrev N_looked_for : List Str := ["commands", "words", "command"]
theorem sc_looked_for : FnScope ["commands", "words", "command"] ["commands"] (defScope s_looked_for) := ⟨rfl, rfl, rfl, by decide +kernel, rfl, by decide +kernel, by decide +kernel⟩

abbrev s_own_words : Stmt := top 48
abbrev N_own_words : List Str := ["commands", "words", "command"]
theorem sc_own_words : FnScope ["commands", "words", "command"] ["commands"] (defScope s_own_words) := ⟨rfl, rfl, rfl, by decide +kernel, rfl, by decide +kernel, by decide +kernel⟩

abbrev s_kinds_of : Stmt := top 49
abbrev N_kinds_of : List Str := ["commands", "words", "filler", "filled", "line"]
theorem sc_kinds_of : FnScope ["commands", "words", "filler", "filled", "line"] ["commands"] (defScope s_kinds_of) := ⟨rfl, rfl, rfl, by decide +kernel, rfl, by decide +kernel, by decide +kernel⟩

abbrev s_free_letter : Stmt := top 50
abbrev N_free_letter : List Str := ["words", "taken", "letter"]
theorem sc_free_letter : FnScope ["words", "taken", "letter"] ["words"] (defScope s_free_letter) := ⟨rfl, rfl, rfl, by decide +kernel, rfl, by decide +kernel, by decide +kernel⟩

abbrev s_first_lines : Stmt := top 51
abbrev N_first_lines : List Str := ["words", "beginnings", "seen", "lines", "longest", "length", "longer", "line", "end", "had", "letter", "more", "rest"]
theorem sc_first_lines : FnScope ["words", "beginnings", "seen", "lines", "longest", "length", "longer", "line", "end", "had", "letter", "more", "rest"] ["words"] (defScope s_first_lines) := ⟨rfl, rfl, rfl, by decide +kernel, rfl, by decide +kernel, by decide +kernel⟩

abbrev s_beginnings_of : Stmt := top 52
abbrev N_beginnings_of : List Str := ["words", "beginnings", "word", "length"]
theorem sc_beginnings_of : FnScope ["words", "beginnings", "word", "length"] ["words"] (defScope s_beginnings_of) := ⟨rfl, rfl, rfl, by decide +kernel, rfl, by decide +kernel, by decide +kernel⟩

abbrev s_words_had : Stmt := top 53
abbrev N_words_had : List Str := ["words", "had", "end", "word"]
theorem sc_words_had : FnScope ["words", "had", "end", "word"] ["words", "had", "end"] (defScope s_words_had) := ⟨rfl, rfl, rfl, by decide +kernel, rfl, by decide +kernel, by decide +kernel⟩

abbrev s_longest_beginning : Stmt := top 54
abbrev N_longest_beginning : List Str := ["end", "beginnings", "start"]
theorem sc_longest_beginning : FnScope ["end", "beginnings", "start"] ["end", "beginnings"] (defScope s_longest_beginning) := ⟨rfl, rfl, rfl, by decide +kernel, rfl, by decide +kernel, by decide +kernel⟩

abbrev s_LineRun_init : Stmt := inClass (top 56) 0
abbrev N_LineRun_init : List Str := ["self", "line"]
theorem sc_LineRun_init : FnScope ["self", "line"] ["self", "line"] (defScope s_LineRun_init) := ⟨rfl, rfl, rfl, by decide +kernel, rfl, by decide +kernel, by decide +kernel⟩

abbrev s_LineRun_coming : Stmt := inClass (top 56) 1
abbrev N_LineRun_coming : List Str := ["self"]
theorem sc_LineRun_coming : FnScope ["self"] ["self"] (defScope s_LineRun_coming) := ⟨rfl, rfl, rfl, by decide +kernel, rfl, by decide +kernel, by decide +kernel⟩

abbrev s_line_run : Stmt := top 57
abbrev N_line_run : List Str := ["commands", "line", "place", "run", "number", "command"]
theorem sc_line_run : FnScope ["commands", "line", "place", "run", "number", "command"] ["commands", "line", "place"] (defScope s_line_run) := ⟨rfl, rfl, rfl, by decide +kernel, rfl, by decide +kernel, by decide +kernel⟩

abbrev s_holds : Stmt := top 58
abbrev N_holds : List Str := ["address", "line", "place", "held"]
theorem sc_holds : FnScope ["address", "line", "place", "held"] ["address", "line", "place"] (defScope s_holds) := ⟨rfl, rfl, rfl, by decide +kernel, rfl, by decide +kernel, by decide +kernel⟩

abbrev s_holds_without_nots : Stmt := top 59
abbrev N_holds_without_nots : List Str := ["address", "line", "place"]
theorem sc_holds_without_nots : FnScope ["address", "line", "place"] ["address", "line", "place"] (defScope s_holds_without_nots) := ⟨rfl, rfl, rfl, by decide +kernel, rfl, by decide +kernel, by decide +kernel⟩

abbrev s_do_deed : Stmt := top 60
abbrev N_do_deed : List Str := ["deed", "run"]
theorem sc_do_deed : FnScope ["deed", "run"] ["deed", "run"] (defScope s_do_deed) := ⟨rfl, rfl, rfl, by decide +kernel, rfl, by decide +kernel, by decide +kernel⟩

abbrev s_Outcome_init : Stmt := inClass (top 63) 0
abbrev N_Outcome_init : List Str := ["self", "place", "kind", "run"]
theorem sc_Outcome_init : FnScope ["self", "place", "kind", "run"] ["self", "place", "kind", "run"] (defScope s_Outcome_init) := ⟨rfl, rfl, rfl, by decide +kernel, rfl, by decide +kernel, by decide +kernel⟩

abbrev s_all_places : Stmt := top 64
abbrev N_all_places : List Str := ["places", "number"]
theorem sc_all_places : FnScope ["places", "number"] [] (defScope s_all_places) := ⟨rfl, rfl, rfl, by decide +kernel, rfl, by decide +kernel, by decide +kernel⟩

abbrev s_all_outcomes : Stmt := top 65
abbrev N_all_outcomes : List Str := ["commands", "kinds", "outcomes", "place", "kind"]
theorem sc_all_outcomes : FnScope ["commands", "kinds", "outcomes", "place", "kind"] ["commands", "kinds"] (defScope s_all_outcomes) := ⟨rfl, rfl, rfl, by decide +kernel, rfl, by decide +kernel, by decide +kernel⟩

abbrev s_where_done : Stmt := top 66
abbrev N_where_done : List Str := ["outcomes", "number", "outcome"]
theorem sc_where_done : FnScope ["outcomes", "number", "outcome"] ["outcomes", "number"] (defScope s_where_done) := ⟨rfl, rfl, rfl, by decide +kernel, rfl, by decide +kernel, by decide +kernel⟩

abbrev s_first_unlike : Stmt := top 67
abbrev N_first_unlike : List Str := ["outcomes", "others", "outcome", "run"]
theorem sc_first_unlike : FnScope ["outcomes", "others", "outcome", "run"] ["outcomes", "others"] (defScope s_first_unlike) := ⟨rfl, rfl, rfl, by decide +kernel, rfl, by decide +kernel, by decide +kernel⟩

abbrev s_numbers_of : Stmt := top 68
abbrev N_numbers_of : List Str := ["outcomes", "outcome"]
theorem sc_numbers_of : FnScope ["outcomes", "outcome"] ["outcomes"] (defScope s_numbers_of) := ⟨rfl, rfl, rfl, by decide +kernel, rfl, by decide +kernel, by decide +kernel⟩

abbrev s_first_unsafe : Stmt := top 69
abbrev N_first_unsafe : List Str := ["commands", "line", "place", "run"]
theorem sc_first_unsafe : FnScope ["commands", "line", "place", "run"] ["commands", "line"] (defScope s_first_unsafe) := ⟨rfl, rfl, rfl, by decide +kernel, rfl, by decide +kernel, by decide +kernel⟩

abbrev s_Reader_init : Stmt := inClass (top 80) 0
abbrev N_Reader_init : List Str := ["self", "tokens"]
theorem sc_Reader_init : FnScope ["self", "tokens"] ["self", "tokens"] (defScope s_Reader_init) := ⟨rfl, rfl, rfl, by decide +kernel, rfl, by decide +kernel, by decide +kernel⟩

abbrev s_Reader_here : Stmt := inClass (top 80) 1
abbrev N_Reader_here : List Str := ["self"]
theorem sc_Reader_here : FnScope ["self"] ["self"] (defScope s_Reader_here) := ⟨rfl, rfl, rfl, by decide +kernel, rfl, by decide +kernel, by decide +kernel⟩

abbrev s_Reader_stands : Stmt := inClass (top 80) 2
abbrev N_Reader_stands : List Str := ["self", "word"]
theorem sc_Reader_stands : FnScope ["self", "word"] ["self", "word"] (defScope s_Reader_stands) := ⟨rfl, rfl, rfl, by decide +kernel, rfl, by decide +kernel, by decide +kernel⟩

abbrev s_Reader_take_kind : Stmt := inClass (top 80) 3
abbrev N_Reader_take_kind : List Str := ["self", "kind", "token"]
theorem sc_Reader_take_kind : FnScope ["self", "kind", "token"] ["self", "kind"] (defScope s_Reader_take_kind) := ⟨rfl, rfl, rfl, by decide +kernel, rfl, by decide +kernel, by decide +kernel⟩

abbrev s_Reader_take_word : Stmt := inClass (top 80) 4
abbrev N_Reader_take_word : List Str := ["self", "word", "token"]
theorem sc_Reader_take_word : FnScope ["self", "word", "token"] ["self", "word"] (defScope s_Reader_take_word) := ⟨rfl, rfl, rfl, by decide +kernel, rfl, by decide +kernel, by decide +kernel⟩

abbrev s_Reader_take_letters : Stmt := inClass (top 80) 5
abbrev N_Reader_take_letters : List Str := ["self", "token"]
theorem sc_Reader_take_letters : FnScope ["self", "token"] ["self"] (defScope s_Reader_take_letters) := ⟨rfl, rfl, rfl, by decide +kernel, rfl, by decide +kernel, by decide +kernel⟩

abbrev s_Reader_take_number : Stmt := inClass (top 80) 6
abbrev N_Reader_take_number : List Str := ["self", "least", "greatest", "token"]
theorem sc_Reader_take_number : FnScope ["self", "least", "greatest", "token"] ["self", "least", "greatest"] (defScope s_Reader_take_number) := ⟨rfl, rfl, rfl, by decide +kernel, rfl, by decide +kernel, by decide +kernel⟩

abbrev s_commands_of : Stmt := top 81
abbrev N_commands_of : List Str := ["script", "reader", "commands"]
theorem sc_commands_of : FnScope ["script", "reader", "commands"] ["script"] (defScope s_commands_of) := ⟨rfl, rfl, rfl, by decide +kernel, rfl, by decide +kernel, by decide +kernel⟩

abbrev s_read_command : Stmt := top 82
abbrev N_read_command : List Str := ["reader", "address", "deed"]
theorem sc_read_command : FnScope ["reader", "address", "deed"] ["reader"] (defScope s_read_command) := ⟨rfl, rfl, rfl, by decide +kernel, rfl, by decide +kernel, by decide +kernel⟩

abbrev s_read_address : Stmt := top 83
abbrev N_read_address : List Str := ["reader", "nots", "token", "name", "number", "first"]
theorem sc_read_address : FnScope ["reader", "nots", "token", "name", "number", "first"] ["reader"] (defScope s_read_address) := ⟨rfl, rfl, rfl, by decide +kernel, rfl, by decide +kernel, by decide +kernel⟩

abbrev s_read_nots : Stmt := top 84
abbrev N_read_nots : List Str := ["reader", "nots"]
theorem sc_read_nots : FnScope ["reader", "nots"] ["reader"] (defScope s_read_nots) := ⟨rfl, rfl, rfl, by decide +kernel, rfl, by decide +kernel, by decide +kernel⟩

abbrev s_read_deed : Stmt := top 85
abbrev N_read_deed : List Str := ["reader", "token", "name", "letters"]
theorem sc_read_deed : FnScope ["reader", "token", "name", "letters"] ["reader"] (defScope s_read_deed) := ⟨rfl, rfl, rfl, by decide +kernel, rfl, by decide +kernel, by decide +kernel⟩

abbrev s_read_other : Stmt := top 86
abbrev N_read_other : List Str := ["reader"]
theorem sc_read_other : FnScope ["reader"] ["reader"] (defScope s_read_other) := ⟨rfl, rfl, rfl, by decide +kernel, rfl, by decide +kernel, by decide +kernel⟩

abbrev s_Holder_init : Stmt := inClass (top 103) 0
abbrev N_Holder_init : List Str := ["self"]
theorem sc_Holder_init : FnScope ["self"] ["self"] (defScope s_Holder_init) := ⟨rfl, rfl, rfl, by decide +kernel, rfl, by decide +kernel, by decide +kernel⟩

abbrev s_Holder_hold : Stmt := inClass (top 103) 1
abbrev N_Holder_hold : List Str := ["self", "commands"]
theorem sc_Holder_hold : FnScope ["self", "commands"] ["self", "commands"] (defScope s_Holder_hold) := ⟨rfl, rfl, rfl, by decide +kernel, rfl, by decide +kernel, by decide +kernel⟩

abbrev s_Holder_load : Stmt := inClass (top 103) 2
abbrev N_Holder_load : List Str := ["self", "script", "commands", "fault"]
theorem sc_Holder_load : FnScope ["self", "script", "commands", "fault"] ["self", "script"] (defScope s_Holder_load) := ⟨rfl, rfl, rfl, by decide +kernel, rfl, by decide +kernel, by decide +kernel⟩

abbrev s_Holder_shown : Stmt := inClass (top 103) 3
abbrev N_Holder_shown : List Str := ["self"]
theorem sc_Holder_shown : FnScope ["self"] ["self"] (defScope s_Holder_shown) := ⟨rfl, rfl, rfl, by decide +kernel, rfl, by decide +kernel, by decide +kernel⟩

abbrev s_Holder_kinds : Stmt := inClass (top 103) 4
abbrev N_Holder_kinds : List Str := ["self", "told", "kind"]
theorem sc_Holder_kinds : FnScope ["self", "told", "kind"] ["self"] (defScope s_Holder_kinds) := ⟨rfl, rfl, rfl, by decide +kernel, rfl, by decide +kernel, by decide +kernel⟩

abbrev s_Holder_can : Stmt := inClass (top 103) 5
abbrev N_Holder_can : List Str := ["self", "number", "done"]
theorem sc_Holder_can : FnScope ["self", "number", "done"] ["self", "number"] (defScope s_Holder_can) := ⟨rfl, rfl, rfl, by decide +kernel, rfl, by decide +kernel, by decide +kernel⟩

abbrev s_Holder_matters : Stmt := inClass (top 103) 6
abbrev N_Holder_matters : List Str := ["self", "number", "found"]
theorem sc_Holder_matters : FnScope ["self", "number", "found"] ["self", "number"] (defScope s_Holder_matters) := ⟨rfl, rfl, rfl, by decide +kernel, rfl, by decide +kernel, by decide +kernel⟩

abbrev s_Holder_idle : Stmt := inClass (top 103) 7
abbrev N_Holder_idle : List Str := ["self", "numbers", "number"]
theorem sc_Holder_idle : FnScope ["self", "numbers", "number"] ["self"] (defScope s_Holder_idle) := ⟨rfl, rfl, rfl, by decide +kernel, rfl, by decide +kernel, by decide +kernel⟩

abbrev s_Holder_turn : Stmt := inClass (top 103) 8
abbrev N_Holder_turn : List Str := ["self", "number", "found"]
theorem sc_Holder_turn : FnScope ["self", "number", "found"] ["self", "number"] (defScope s_Holder_turn) := ⟨rfl, rfl, rfl, by decide +kernel, rfl, by decide +kernel, by decide +kernel⟩

abbrev s_Holder_lines : Stmt := inClass (top 103) 9
abbrev N_Holder_lines : List Str := ["self", "number", "numbers"]
theorem sc_Holder_lines : FnScope ["self", "number", "numbers"] ["self", "number"] (defScope s_Holder_lines) := ⟨rfl, rfl, rfl, by decide +kernel, rfl, by decide +kernel, by decide +kernel⟩

abbrev s_Holder_safe : Stmt := inClass (top 103) 10
abbrev N_Holder_safe : List Str := ["self", "line", "place", "byte"]
theorem sc_Holder_safe : FnScope ["self", "line", "place", "byte"] ["self", "line"] (defScope s_Holder_safe) := ⟨rfl, rfl, rfl, by decide +kernel, rfl, by decide +kernel, by decide +kernel⟩

abbrev s_Holder_prune : Stmt := inClass (top 103) 11
abbrev N_Holder_prune : List Str := ["self", "number"]
theorem sc_Holder_prune : FnScope ["self", "number"] ["self"] (defScope s_Holder_prune) := ⟨rfl, rfl, rfl, by decide +kernel, rfl, by decide +kernel, by decide +kernel⟩

abbrev s_Holder_has_command : Stmt := inClass (top 103) 12
abbrev N_Holder_has_command : List Str := ["self", "number"]
theorem sc_Holder_has_command : FnScope ["self", "number"] ["self", "number"] (defScope s_Holder_has_command) := ⟨rfl, rfl, rfl, by decide +kernel, rfl, by decide +kernel, by decide +kernel⟩

abbrev s_Holder_first_mattering : Stmt := inClass (top 103) 13
abbrev N_Holder_first_mattering : List Str := ["self", "number"]
theorem sc_Holder_first_mattering : FnScope ["self", "number"] ["self", "number"] (defScope s_Holder_first_mattering) := ⟨rfl, rfl, rfl, by decide +kernel, rfl, by decide +kernel, by decide +kernel⟩

abbrev s_Holder_first_idle : Stmt := inClass (top 103) 14
abbrev N_Holder_first_idle : List Str := ["self", "number"]
theorem sc_Holder_first_idle : FnScope ["self", "number"] ["self"] (defScope s_Holder_first_idle) := ⟨rfl, rfl, rfl, by decide +kernel, rfl, by decide +kernel, by decide +kernel⟩

abbrev s_answers : Stmt := top 104
abbrev N_answers : List Str := ["calls", "holder", "told", "at", "behind", "answer"]
theorem sc_answers : FnScope ["calls", "holder", "told", "at", "behind", "answer"] ["calls"] (defScope s_answers) := ⟨rfl, rfl, rfl, by decide +kernel, rfl, by decide +kernel, by decide +kernel⟩

abbrev s_behind_call : Stmt := top 105
abbrev N_behind_call : List Str := ["calls", "at"]
theorem sc_behind_call : FnScope ["calls", "at"] ["calls", "at"] (defScope s_behind_call) := ⟨rfl, rfl, rfl, by decide +kernel, rfl, by decide +kernel, by decide +kernel⟩

abbrev s_answer_of : Stmt := top 106
abbrev N_answer_of : List Str := ["holder", "call"]
theorem sc_answer_of : FnScope ["holder", "call"] ["holder", "call"] (defScope s_answer_of) := ⟨rfl, rfl, rfl, by decide +kernel, rfl, by decide +kernel, by decide +kernel⟩

abbrev s_answer_of_command : Stmt := top 107
abbrev N_answer_of_command : List Str := ["holder", "call", "number"]
theorem sc_answer_of_command : FnScope ["holder", "call", "number"] ["holder", "call", "number"] (defScope s_answer_of_command) := ⟨rfl, rfl, rfl, by decide +kernel, rfl, by decide +kernel, by decide +kernel⟩

abbrev s_told_text : Stmt := top 108
abbrev N_told_text : List Str := ["text", "sign"]
theorem sc_told_text : FnScope ["text", "sign"] ["text"] (defScope s_told_text) := ⟨rfl, rfl, rfl, by decide +kernel, rfl, by decide +kernel, by decide +kernel⟩

abbrev s_told_place_and_kind : Stmt := top 109
abbrev N_told_place_and_kind : List Str := ["outcome"]
theorem sc_told_place_and_kind : FnScope ["outcome"] ["outcome"] (defScope s_told_place_and_kind) := ⟨rfl, rfl, rfl, by decide +kernel, rfl, by decide +kernel, by decide +kernel⟩

end SK
set_option Elab.async false
set_option linter.all false
set_option maxRecDepth 100000
set_option maxHeartbeats 2000000
/-! dicts whose keys are tuples of texts, or pairs of a text and such a tuple -/
namespace SK
open PySem PySem.Spec PyProof.Rows L2

def kT (ws : List Str) : NestedKey := .tup (ws.map .text)
def kP (x : Str) (ws : List Str) : NestedKey := .tup [.text x, kT ws]
theorem text_inj : ∀ {a b : List Str}, a.map NestedKey.text = b.map NestedKey.text → a = b
  | [], [], _ => rfl
  | [], _ :: _, h => by simp at h
  | _ :: _, [], h => by simp at h
  | x :: a, y :: b, h => by
    simp only [List.map_cons, List.cons.injEq, NestedKey.text.injEq] at h
    rw [h.1, text_inj h.2]
theorem kT_inj {a b : List Str} (h : kT a = kT b) : a = b := by
  unfold kT at h
  exact text_inj (NestedKey.tup.inj h)
theorem kP_inj {x y : Str} {a b : List Str} (h : kP x a = kP y b) : x = y ∧ a = b := by
  unfold kP at h
  have h := NestedKey.tup.inj h
  simp only [List.cons.injEq, NestedKey.text.injEq, and_true] at h
  exact ⟨h.1, kT_inj h.2⟩

inductive KeyAt (H : Hp) : NestedKey → Addr → Prop
  | txt {ws a} : H a = some (.tup (ws.map V.str)) → KeyAt H (kT ws) a
  | two {x ws a t} : H a = some (.tup [.str x, .ref t]) → H t = some (.tup (ws.map V.str)) → KeyAt H (kP x ws) a
theorem KeyAt.same {H H' : Hp} {k : NestedKey} {a : Addr} (h : KeyAt H k a) (s : ∀ b xs, H b = some (.tup xs) → H' b = some (.tup xs)) : KeyAt H' k a := by
  cases h with
  | txt e => exact .txt (s _ _ e)
  | two e f => exact .two (s _ _ e) (s _ _ f)
theorem depth_texts : ∀ ws : List Str, NestedKey.depthAll (ws.map .text) = 0
  | [] => rfl
  | x :: r => by
    rw [List.map_cons, NestedKey.depthAll, depth_texts r]
    rfl
theorem all_texts {h : Heap} : ∀ {ws : List Str} {us : List Value}, Vals (ws.map V.str) us → NestedAll h (ws.map .text) us
  | [], _, r => by
    cases r
    exact .nil
  | x :: ws, _, r => by
    cases r with
    | cons q t =>
      obtain ⟨k, rfl⟩ := q
      exact .cons (.text x k) (all_texts t)
section
variable {P : Program} {w : World} {H : Hp} {h : Heap} {k : NestedKey} {a : Addr}
theorem nested_txt (ok : HOk P w H h) {ws : List Str} (e : H a = some (.tup (ws.map V.str))) : NestedIs h (kT ws) (.ref a) := by
  obtain ⟨_, its, r, o, ho, hc, n, hd⟩ := (show ObjOk P w H h a (.tup (ws.map V.str)) from ok a _ e)
  exact .tup ho hc hd (all_texts r)
theorem KeyAt.is (K : KeyAt H k a) (ok : HOk P w H h) : (nestedKind P w).is h k a := by
  cases K with
  | @txt ws _ e =>
    refine ⟨nested_txt ok e, ?_⟩
    show NestedKey.depthAll (ws.map .text) + 1 ≤ 8
    rw [depth_texts]
    decide
  | @two x ws _ t e f =>
    refine ⟨?_, ?_⟩
    · obtain ⟨_, its, r, o, ho, hc, n, hd⟩ := (show ObjOk P w H h a (.tup [.str x, .ref t]) from ok a _ e)
      cases r with
      | cons r1 r =>
        cases r with
        | cons r2 r =>
          cases r
          obtain ⟨tk, rfl⟩ := r1
          cases r2
          exact .tup ho hc hd (.cons (.text x tk) (.cons (nested_txt ok f) .nil))
    · show NestedKey.depthAll [.text x, kT ws] + 1 ≤ 8
      have e1 : NestedKey.depth (kT ws) = 1 := by
        show NestedKey.depthAll (ws.map .text) + 1 = 1
        rw [depth_texts]
      have e2 : NestedKey.depthAll [.text x, kT ws] = 1 := by
        show max 0 (max (NestedKey.depth (kT ws)) 0) = 1
        rw [e1]
        decide
      rw [e2]
      decide
end

abbrev NKs := List (NestedKey × Addr × V)
abbrev NVs := List (NestedKey × Addr × Value)
abbrev RelN : NKs → NVs → Prop := Paired fun p q => p.1 = q.1 ∧ p.2.1 = q.2.1 ∧ RelV p.2.2 q.2.2
def KeysAt (H : Hp) (kvs : NKs) : Prop := ∀ p ∈ kvs, KeyAt H p.1 p.2.1
structure NkR (P : Program) (w : World) (a : Addr) (kvs : NKs) (h : Heap) : Prop where
  low : (a == sysModules) = false
  len : kvs.length ≤ sizeLine
  nd : (kvs.map (·.1)).Nodup
  ob : ∃ (xs : NVs) (o : Obj) (es : Array DictEntry) (ep : Nat), RelN kvs xs ∧ h.get? a = some o ∧ o.ExactDict ∧ o.data = .dict es ep ∧ es.toList = xs.map (entryOfKey (nestedKind P w))
def NkO (P : Program) (w : World) (a : Addr) (kvs : NKs) : HO := .ext (NkR P w a kvs)
theorem nk_new {P : Program} {w : World} {H : Hp} {h : Heap} {a : Addr} {kvs : NKs} (R : NkR P w a kvs h) : ObjOk P w H h a (NkO P w a kvs) := by
  have ⟨_, o, _, _, _, ho, _⟩ := R.ob
  refine ⟨R, ⟨o, ho⟩, fun h1 h2 p k => ⟨p.low, p.len, p.nd, ?_⟩⟩
  obtain ⟨xs, o, es, ep, r, ho, q⟩ := p.ob
  exact ⟨xs, o, es, ep, r, k o ho, q⟩
theorem RelN.keys : ∀ {kvs : NKs} {xs : NVs}, RelN kvs xs → xs.map (·.1) = kvs.map (·.1)
  | _, _, .nil => rfl
  | _, _, .cons r t => by rw [List.map_cons, List.map_cons, RelN.keys t, r.1]
theorem RelN.app : ∀ {kvs : NKs} {xs : NVs} {k : NestedKey} {b : Addr} {v : V} {u : Value}, RelN kvs xs → RelV v u → RelN (kvs ++ [(k, b, v)]) (xs ++ [(k, b, u)])
  | _, _, _, _, _, _, .nil, q => .cons ⟨rfl, rfl, q⟩ .nil
  | _, _, _, _, _, _, .cons r t, q => .cons r (RelN.app t q)
theorem RelN.mem : ∀ {kvs : NKs} {xs : NVs} {x : NestedKey × Addr × Value}, RelN kvs xs → x ∈ xs → ∃ p ∈ kvs, p.1 = x.1 ∧ p.2.1 = x.2.1 ∧ RelV p.2.2 x.2.2
  | _, _, x, .cons r t, h => by
    rcases List.mem_cons.mp h with e | h
    · subst e
      exact ⟨_, List.mem_cons_self, r⟩
    · obtain ⟨p, hp, q⟩ := RelN.mem t h
      exact ⟨p, List.mem_cons_of_mem _ hp, q⟩
theorem atKey_none {xs : NVs} {k : NestedKey} (h : k ∉ xs.map (·.1)) : atKey xs k = none := by
  unfold atKey
  rw [Option.map_eq_none_iff, List.find?_eq_none]
  intro x hx e
  exact h (List.mem_map.mpr ⟨x, hx, of_decide_eq_true e⟩)
theorem atKey_some {xs : NVs} {k : NestedKey} (h : k ∈ xs.map (·.1)) : ∃ x ∈ xs, x.1 = k ∧ atKey xs k = some x.2 := by
  unfold atKey
  cases e : xs.find? fun x => decide (x.1 = k) with
  | none =>
    obtain ⟨x, hx, hk⟩ := List.mem_map.mp h
    exact absurd (decide_eq_true hk) (List.find?_eq_none.mp e x hx)
  | some x =>
    have e2 := List.find?_some e
    exact ⟨x, List.mem_of_find?_eq_some e, of_decide_eq_true e2, rfl⟩
section
variable {P : Program} {w : World} {H : Hp} {h : Heap} {a : Addr} {kvs : NKs}
theorem nk_get (ok : HOk P w H h) (e : H a = some (NkO P w a kvs)) (ks : KeysAt H kvs) : NkR P w a kvs h ∧ ∃ xs, RelN kvs xs ∧ h.DictOfH (nestedKind P w) a xs := by
  obtain ⟨R, _, _⟩ := (show ObjOk P w H h a (NkO P w a kvs) from ok a _ e)
  refine ⟨R, ?_⟩
  obtain ⟨xs, o, es, ep, r, ho, hx, hd, he⟩ := R.ob
  refine ⟨xs, r, o, es, ep, ho, hx, hd, he, fun x hx => ?_, by rw [r.keys]; exact R.nd⟩
  obtain ⟨p, hp, e1, e2, _⟩ := r.mem hx
  rw [← e1, ← e2]
  exact (ks p hp).is ok
theorem nk_put {h' : Heap} {xs : NVs} {k : NestedKey} {b : Addr} {v : V} {u : Value} (R : NkR P w a kvs h) (r : RelN kvs xs) (rv : RelV v u) (hk : k ∉ kvs.map (·.1)) (hl : kvs.length < sizeLine)
    (dd : h'.DictOfH (nestedKind P w) a (storedH xs k b u)) : NkR P w a (kvs ++ [(k, b, v)]) h' := by
  have hn : atKey xs k = none := atKey_none (by rw [r.keys]; exact hk)
  rw [storedH_new hn] at dd
  obtain ⟨o, es, ep, ho, hx, hd, he, _, nd⟩ := dd
  refine ⟨R.low, ?_, ?_, xs ++ [(k, b, u)], o, es, ep, r.app rv, ho, hx, hd, he⟩
  · rw [List.length_append]
    show kvs.length + 1 ≤ sizeLine
    omega
  · rw [← (r.app (k := k) (b := b) rv).keys]
    exact nd
end
section
variable {X : Cx}
/-- y not in d -/
def rNkNot (P : Program) (w : World) : R2 := fun x y H Q => ∃ (b a : Addr) (k : NestedKey) (kvs : NKs), x = .ref b ∧ y = .ref a ∧ KeyAt H k b ∧ H a = some (NkO P w a kvs) ∧ KeysAt H kvs ∧ Q (.bl (!decide (k ∈ kvs.map (·.1)))) H
theorem op_notin_nk (hu : X.A.units + 64 < cLine) : OpR X (compareOp .NotIn) (rNkNot X.prog X.w) := by
  intro pins s σ H x y v u Q I rx ry h
  obtain ⟨b, a, k, kvs, rfl, rfl, K, ha, ks, q⟩ := h
  cases rx
  cases ry
  obtain ⟨R, xs, r, dd⟩ := nk_get I.hok ha ks
  refine wpAny_notIn_heap (knd := nestedKind X.prog X.w) (by show X.A.units + 1 + 8 < cLine; omega) (K.is I.hok) R.low dd ?_
  refine ⟨.bl (!decide (k ∈ kvs.map (·.1))), H, I.tok _, ?_, q⟩
  show Value.bool _ = Value.bool _
  by_cases hk : k ∈ xs.map (·.1)
  · obtain ⟨x, _, _, e⟩ := atKey_some hk
    rw [e, decide_eq_true (by rw [← r.keys]; exact hk)]
    rfl
  · rw [atKey_none hk, decide_eq_false (by rw [← r.keys]; exact hk)]
    rfl
theorem nk_write {pins : List (Addr × Obj)} {σ : L2.St} {H : Hp} {s : Shared} {a : Addr} {h' : Heap} {t' : Nat} {kvs kvs' : NKs} (I : Inv X pins σ H s) (e : H a = some (NkO X.prog X.w a kvs)) (hs : Heap.SameBut a s.heap h') (R : NkR X.prog X.w a kvs' h') :
    Inv X pins σ (upd H a (NkO X.prog X.w a kvs')) { s with heap := h', toks := t' } := by
  obtain ⟨_, o, _, _, _, ho, _⟩ := R.ob
  exact I.write (x := a) (e := a) (by rw [e]; exact True.intro) (.inl rfl) (fun b q hb z => (hs.2 b hb).trans z) ⟨o, ho⟩ (nk_new R)
/-- d[k] = v, the key not there -/
def rNkSet (P : Program) (w : World) : TSet := fun o i v H Q => ∃ (a b : Addr) (k : NestedKey) (kvs : NKs), o = .ref a ∧ i = .ref b ∧ KeyAt H k b ∧ H a = some (NkO P w a kvs) ∧ KeysAt H kvs ∧ k ∉ kvs.map (·.1) ∧ kvs.length < sizeLine ∧
  Q (upd H a (NkO P w a (kvs ++ [(k, b, v)])))
theorem set_nk (hu : X.A.units + 64 < cLine) : PSet X (rNkSet X.prog X.w) := by
  intro pins s σ H o i v ov iv u Q I ro ri rv h
  obtain ⟨a, b, k, kvs, rfl, rfl, K, ha, ks, hn, hl, q⟩ := h
  cases ro
  cases ri
  obtain ⟨R, xs, r, dd⟩ := nk_get I.hok ha ks
  have hz : xs.length ≤ sizeLine := by
    rw [← Paired.length r]
    exact R.len
  refine wpAny_setItem_heap (knd := nestedKind X.prog X.w) (hsz := hz) (by show X.A.units + 1 + 8 < cLine; omega) (K.is I.hok) dd fun h' dd' hs => ?_
  exact ⟨_, nk_write I ha hs (nk_put R r rv hn hl dd'), q⟩
/-- {k: v}, the key a tuple; the new dict stands empty meanwhile -/
def tNk1 (P : Program) (w : World) (tk tv : TE) : TE := fun σ H Q => ∀ p, H p = none → tk σ (upd H p (NkO P w p [])) fun x H1 => tv σ H1 fun y H2 => H2 p = some (NkO P w p []) ∧ ∃ (b : Addr) (k : NestedKey), x = .ref b ∧ KeyAt H2 k b ∧
  Q (.ref p) (upd H2 p (NkO P w p [(k, b, y)]))
theorem nk_empty {P : Program} {w : World} (h : Heap) (hb : sysModules < h.objs.size) : NkR P w h.objs.size [] (h.push { cls := .type "dict", data := .dict #[] }) :=
  ⟨beq_eq_false_iff_ne.mpr (Ne.symm (Nat.ne_of_lt hb)), Nat.zero_le _, List.nodup_nil, [], _, #[], 0, .nil, Heap.get?_push_size _ rfl, ⟨rfl, rfl, rfl⟩, rfl, rfl⟩
theorem pe_nk1 {k v : Expr} {tk tv : TE} {pos : Pos} (hu : X.A.units + 64 < cLine) (hk : PE X k tk) (hv : PE X v tv) : PE X (.Dict [some k] [v] pos) (tNk1 X.prog X.w tk tv) := by
  refine ⟨fun pins s σ H Q I q => ?_⟩
  have hn := I.hok.fresh (Nat.le_refl s.heap.objs.size)
  have I1 : Inv X pins σ (upd H s.heap.objs.size (NkO X.prog X.w s.heap.objs.size [])) { s with heap := s.heap.push { cls := .type "dict", data := .dict #[] }, toks := s.toks } :=
    I.laid (fun _ _ z => Heap.get?_push_of_some _ z) (Nat.le_refl _) (nk_new (nk_empty s.heap I.big))
  have key : wpAny (model X.prog X.w) X.A (evalPairs (pairTrees [some k] [v] X.env pos)) (fun vs s2 => ∃ (x y : V) (H2 : Hp), Inv X pins σ H2 s2 ∧ (∃ u u', vs = [(u, u')] ∧ RelV x u ∧ RelV y u') ∧ H2 s.heap.objs.size = some (NkO X.prog X.w s.heap.objs.size []) ∧
      ∃ (b : Addr) (kk : NestedKey), x = .ref b ∧ KeyAt H2 kk b ∧ Q (.ref s.heap.objs.size) (upd H2 s.heap.objs.size (NkO X.prog X.w s.heap.objs.size [(kk, b, y)]))) X.xe { s with heap := s.heap.push { cls := .type "dict", data := .dict #[] } } :=
    pairTrees_cons_walk (thn (hk.run pins _ σ _ _ I1 (q _ hn)) fun u s1 ⟨x, H1, J1, rx, q1⟩ => thn (hv.run pins s1 σ H1 _ J1 q1) fun u' s2 ⟨y, H2, J2, ry, q2⟩ => pairTrees_nil_walk ⟨x, y, H2, J2, ⟨u, u', rfl, rx, ry⟩, q2⟩)
  rw [arm_eval_Dict, zip_pairTrees [some k] [v] X.env pos rfl rfl, dictDisplay_pairs (pairTrees [some k] [v] X.env pos) (fun z => by cases z) (by show 1 < 17; decide)]
  refine wpAny_bind (wpAny_standAt (wpAny_bind (wpAny_subDictH (knd := nestedKind X.prog X.w) (by show X.A.units + 8 < cLine; omega) (by show 1 ≤ 15; decide) (thn key fun vs s2 hh => ?_))))
  obtain ⟨x, y, H2, J2, ⟨u, u', e, rx, ry⟩, he, b, kk, ex, K, q2⟩ := hh
  subst e
  subst ex
  cases rx
  obtain ⟨R, xs, r, dd⟩ := nk_get J2.hok he (fun _ z => by cases z)
  cases r
  refine ⟨[(kk, b, u')], ⟨rfl, rfl, K.is J2.hok, trivial⟩, dd, fun h' tk dk hs => ?_⟩
  refine wpAny_pure ⟨.ref s.heap.objs.size, _, nk_write J2 he hs ?_, rfl, q2⟩
  exact nk_put (xs := []) (h := s2.heap) R .nil ry (by simp) (by rw [sizeLine_eq]; decide) dk
/-- d.setdefault(k, v) -/
def tNkDef (P : Program) (w : World) (td tk tv : TE) : TE := fun σ H Q => td σ H fun x H1 => ∃ (a : Addr) (kvs0 : NKs), x = .ref a ∧ H1 a = some (NkO P w a kvs0) ∧ tk σ H1 fun y H2 => tv σ H2 fun z H3 => ∃ (b : Addr) (k : NestedKey) (kvs : NKs),
  y = .ref b ∧ KeyAt H3 k b ∧ H3 a = some (NkO P w a kvs) ∧ KeysAt H3 kvs ∧ kvs.length < sizeLine ∧ (∀ p ∈ kvs, p.1 = k → Q p.2.2 H3) ∧ (k ∉ kvs.map (·.1) → Q z (upd H3 a (NkO P w a (kvs ++ [(k, b, z)]))))
theorem nk_type {pins : List (Addr × Obj)} {σ : L2.St} {H : Hp} {s : Shared} {a : Addr} {kvs : NKs} (I : Inv X pins σ H s) (e : H a = some (NkO X.prog X.w a kvs)) :
    s.TypeIs (.ref a) "dict" ∧ ∀ b, Value.ref a = .ref b → ∃ ob, s.heap.get? b = some ob ∧ ob.dict = none := by
  obtain ⟨R, _, _⟩ := (show ObjOk X.prog X.w H s.heap a (NkO X.prog X.w a kvs) from I.hok a _ e)
  obtain ⟨xs, o, es, ep, r, ho, hx, hd, he⟩ := R.ob
  refine ⟨⟨o, ho, hx.1⟩, fun b z => ?_⟩
  cases z
  exact ⟨o, ho, hx.2.1⟩
theorem pe_nkdef {o e f : Expr} {td tk tv : TE} {apos cpos : Pos} (hu : X.A.units + 64 < cLine) (ho : PE X o td) (he : PE X e tk) (hf : PE X f tv) (m : M2 X o "setdefault" apos e f cpos) :
    PE X (.Call (.Attribute o "setdefault" apos) [e, f] [] cpos) (tNkDef X.prog X.w td tk tv) := by
  refine ⟨fun pins s σ H Q I h => ?_⟩
  refine wpAny_Call_method m.base m.few m.line PySem.F.plainAttrs_dict PySem.F.slot_dict_setdefault PySem.F.type_dict_setdefault (thn (ho.run pins s σ H _ I h) fun u s1 hh => ?_)
  obtain ⟨x, H1, I1, rx, a, kvs0, ex, ha0, q1⟩ := hh
  subst ex
  cases rx
  refine ⟨(nk_type I1 ha0).1, (nk_type I1 ha0).2, ?_⟩
  rw [m.trees]
  refine Calls.callWith_builtin rfl (Calls.evalArgs_plain (Calls.spliced_cons (thn (he.run pins s1 σ H1 _ I1 q1) fun u2 s2 hh2 => ?_)))
  obtain ⟨y, H2, I2, ry, q2⟩ := hh2
  refine Calls.spliced_cons (thn (hf.run pins s2 σ H2 _ I2 q2) fun u3 s3 hh3 => Calls.spliced_nil ?_)
  obtain ⟨z, H3, I3, rz, b, k, kvs, ey, K, ha, ks, hl, q3, q4⟩ := hh3
  subst ey
  cases ry
  obtain ⟨R, xs, r, dd⟩ := nk_get I3.hok ha ks
  have hz : xs.length ≤ sizeLine := by
    rw [← Paired.length r]
    exact R.len
  refine call_setdefault_heap (knd := nestedKind X.prog X.w) (hsz := hz) (by show X.A.units + 1 + 8 < cLine; omega) (K.is I3.hok) R.low dd (fun p hp => ?_) fun hn h' dd' hs => ?_
  · by_cases hk : k ∈ xs.map (·.1)
    · obtain ⟨x, hx, e1, e2⟩ := atKey_some hk
      rw [hp] at e2
      cases e2
      obtain ⟨p, hp1, e3, e4, rv⟩ := r.mem hx
      exact ⟨p.2.2, H3, I3.tok _, rv, q3 p hp1 (e3.trans e1)⟩
    · rw [atKey_none hk] at hp
      cases hp
  · have hk : k ∉ kvs.map (·.1) := fun hk => by
      rw [← r.keys] at hk
      obtain ⟨x, _, _, e2⟩ := atKey_some hk
      rw [hn] at e2
      cases e2
    exact ⟨z, _, nk_write I3 ha hs (nk_put R r rz hk hl dd'), rz, q4 hk⟩

/-- d.values() -/
theorem meets_values {prog : Program} {w : World} {d : Addr} (hd : (d == sysModules) = false) :
    MeetsIn prog w (Builtin.«dict.values» ⟨[.ref d], []⟩) (fun _ R s => s.TypeIs (.ref d) "dict" ∧ R (.ok (.ret (.ref s.heap.objs.size))) { s with heap := s.heap.push { cls := .type "dict_values", data := .fields #[.ref d] } }) :=
  .of_wp fun A R s hh => by
    obtain ⟨ht, h⟩ := hh
    unfold Builtin.«dict.values»
    refine wpAny_bind ?_
    unfold Builtin.Dict.noArgs
    refine wpAny_bind (wpAny_notOrdered_dict ht ?_)
    show wpAny _ _ (pure d) _ _ _
    refine wpAny_pure ?_
    show wpAny _ _ (Builtin.Dict.showsAll d >>= _) _ _ _
    unfold Builtin.Dict.showsAll
    rw [hd, if_neg Bool.false_ne_true]
    exact wpAny_bind (wpAny_pure (wpAny_bind (wpAny_newObj_type (wpAny_pure ⟨_, rfl, h⟩))))
def vwO (p d : Addr) : HO := .ext fun h => h.IsValuesView p d
theorem vw_new {P : Program} {w : World} {H : Hp} {h : Heap} {p d : Addr} (e : h.get? p = some { cls := .type "dict_values", data := .fields #[.ref d] }) : ObjOk P w H h p (vwO p d) :=
  ⟨⟨_, e, rfl, rfl⟩, ⟨_, e⟩, fun _ _ x k => let ⟨o, ho, z⟩ := x; ⟨o, k o ho, z⟩⟩
def tNkVw (P : Program) (w : World) (td : TE) : TE := fun σ H Q => td σ H fun x H1 => ∃ (a : Addr) (kvs : NKs), x = .ref a ∧ H1 a = some (NkO P w a kvs) ∧ ∀ p, H1 p = none → Q (.ref p) (upd H1 p (vwO p a))
theorem pe_nkvw {o : Expr} {td : TE} {apos cpos : Pos} (ho : PE X o td)
    (hbase : attributeBase o "values" X.env (eval o X.env) = eval o X.env := by rfl) (hline : (apos.endLine == cpos.line) = true := by rfl)
    (hfew : ((backTo cpos (starEach [] X.env)).all (fun x => !x.1) && (backToKw cpos (keywordEach [] X.env)).all (fun x => x.1.isSome) && decide (([] : List Expr).length + ([] : List Keyword).length + (if ([] : List Keyword).isEmpty then 0 else 1) < 30)) = true := by rfl)
    (htr : backTo cpos (starEach [] X.env) = [] := by rfl) : PE X (.Call (.Attribute o "values" apos) [] [] cpos) (tNkVw X.prog X.w td) := by
  refine ⟨fun pins s σ H Q I h => ?_⟩
  refine wpAny_Call_method hbase hfew hline PySem.F.plainAttrs_dict PySem.F.slot_dict_values PySem.F.type_dict_values (thn (ho.run pins s σ H _ I h) fun u s1 hh => ?_)
  obtain ⟨x, H1, I1, rx, a, kvs, ex, ha, q⟩ := hh
  subst ex
  cases rx
  refine ⟨(nk_type I1 ha).1, (nk_type I1 ha).2, ?_⟩
  rw [htr]
  obtain ⟨R, _, _⟩ := (show ObjOk X.prog X.w H1 s1.heap a (NkO X.prog X.w a kvs) from I1.hok a _ ha)
  refine Calls.callWith_builtin rfl (evalArgs_nil3 ?_)
  refine call_meetsIn PySem.F.slot_dict_values (nk_type I1 ha).1 PySem.F.entry_dict_values (PySem.F.args_dict_values_1 _) (meets_values R.low) ⟨(nk_type I1 ha).1, ?_⟩
  exact ⟨.ref s1.heap.objs.size, _, I1.laid (t' := s1.toks) (fun b u e => Heap.get?_push_of_some _ e) (Nat.le_refl _) (vw_new (Heap.get?_push_size _ rfl)), rfl, q _ (I1.hok.fresh (Nat.le_refl _))⟩
theorem RelN.vals : ∀ {kvs : NKs} {xs : NVs}, RelN kvs xs → Vals (kvs.map fun z => z.2.2) (xs.map fun z => z.2.2)
  | _, _, .nil => .nil
  | _, _, .cons r t => .cons r.2.2 (RelN.vals t)
def rListVw (P : Program) (w : World) : List V → Hp → VK → Prop := fun xs H Q => ∃ (v a : Addr) (kvs : NKs), xs = [.ref v] ∧ H v = some (vwO v a) ∧ H a = some (NkO P w a kvs) ∧ ∀ p, H p = none → Q (.ref p) (upd H p (.lst (kvs.map fun z => z.2.2)))
theorem call_listVw (hc : X.calm = true) : CallR X (.type "list") (rListVw X.prog X.w) := by
  intro pins s σ H xs us Q I r h
  obtain ⟨v, a, kvs, e, hv, ha, q⟩ := h
  subst e
  obtain ⟨u, eu, rx⟩ := r.one
  subst eu
  cases rx
  obtain ⟨hvw, _, _⟩ := (show ObjOk X.prog X.w H s.heap v (vwO v a) from I.hok v _ hv)
  obtain ⟨R, _, _⟩ := (show ObjOk X.prog X.w H s.heap a (NkO X.prog X.w a kvs) from I.hok a _ ha)
  obtain ⟨ks, o, es, ep, rk, ho, hx, hd, he⟩ := R.ob
  have l1 : es.size = ks.length := size_of_entries he
  have l2 : kvs.length = ks.length := Paired.length rk
  have hz := R.len
  refine PySem.W.kdl_call (KdlSrc.rawValues (r := v) (d := a) (es := es) (ep := ep)) (I.ok.hd hc) ⟨hvw, ⟨o, ho, hx, hd⟩⟩ (by omega) fun h' tk acc' c' hk e it => ?_
  have ea : acc'.toList = ks.map fun z => z.2.2 := by
    apply List.ext_getElem?
    intro j
    have hl : acc'.size = ks.length := it.1.trans l1
    rw [List.getElem?_map]
    cases hj : acc'.toList[j]? with
    | none =>
      have h1 := List.getElem?_eq_none_iff.mp hj
      rw [Array.length_toList, hl] at h1
      rw [List.getElem?_eq_none_iff.mpr h1]
      rfl
    | some y =>
      obtain ⟨hi, ey⟩ := it.2 j y (by rw [← Array.getElem?_toList]; exact hj)
      have h2 := entry_at he j
      rw [Array.getElem?_eq_getElem hi] at h2
      cases hk : ks[j]? with
      | none =>
        rw [hk] at h2
        cases h2
      | some z =>
        rw [hk] at h2
        have h3 : es[j] = entryOfKey (nestedKind X.prog X.w) z := Option.some.inj h2
        rw [ey, h3]
        rfl
  refine ⟨.ref s.heap.objs.size, _, I.laid (t' := tk) (o := .lst (kvs.map fun z => z.2.2)) hk (Nat.le_refl _) ⟨by rw [List.length_map]; exact hz, ks.map (fun z => z.2.2), c', rk.vals, ?_⟩, rfl, q _ (I.hok.fresh (Nat.le_refl _))⟩
  rw [← ea, Array.toArray_toList]
  exact e
end
end SK
set_option Elab.async false
set_option linter.all false
set_option maxRecDepth 100000
set_option maxHeartbeats 2000000
/-! ljust with a letter to fill, set() of a list -/
namespace PySem
namespace SKL
open Builtin Builtin.Str Builtin.Int
/-! ### s.ljust(n, c) -/
def filled (x : Str) (i : Int) (c : Nat) : Str := if i ≤ x.length then x else Builtin.Str.padded x 0 (i.toNat - x.length) c
theorem gives_ljust2 (x : Str) (i : Int) (c : Nat) (t u v : Tok) (hr : (decide (i < -(2 ^ 63 : Int)) || decide (i ≥ 2 ^ 63)) = false) (hl : tooLong i.toNat = false) :
    Gives (Builtin.«str.ljust» ⟨[.str x t, .int i u, .str ⟨#[c]⟩ v], []⟩) (if i ≤ x.length then .val (.str x t) else .str (Builtin.Str.padded x 0 (i.toNat - x.length) c)) := by
  show Gives (do
    let n ← asSsize "str.ljust" (.int i u)
    if n ≤ x.length then (do rule "str.ljust.long-enough"; ret (.str x t)) else
    if tooLong n.toNat = true then unsupported "str.ljust:memory" else retStr (Builtin.Str.padded x 0 (n.toNat - x.length) c)) _
  rw [asSsize_int _ _ _ hr]
  show Gives (if i ≤ x.length then (do rule "str.ljust.long-enough"; ret (.str x t)) else if tooLong i.toNat = true then unsupported "str.ljust:memory" else retStr (Builtin.Str.padded x 0 (i.toNat - x.length) c)) _
  rw [hl]
  by_cases h : i ≤ (x.length : Int)
  · rw [if_pos h, if_pos h]
    exact .rule (.of_eq rfl)
  · rw [if_neg h, if_neg h]
    exact .of_eq rfl
theorem call_ljust2 {prog : Program} {w : World} {A : Around} {E : Value → Shared → Prop} {s : Shared} {Q : Value → Shared → Prop} (x : Str) (i : Int) (c : Nat) (t u v : Tok) (hp : PadOk i = true)
    (hq : ∀ t' k, Q (.str (filled x i c) t') { s with toks := k }) : wpAny (model prog w) A (call (.builtin "str.ljust") [.str x t, .int i u, .str ⟨#[c]⟩ v]) Q E s :=
  call_gives F.slot_str_ljust (typeIs_str _ _ _) F.entry_str_ljust (F.args_str_ljust_3 _ _ _) (gives_ljust2 x i c t u v (PadOk.parts hp).1 (PadOk.parts hp).2) (post_val_or_made (fits_padR c (PadOk.parts hp).2) hq)
end SKL
end PySem
namespace SK
open PySem PySem.Spec PyProof.Rows L2
theorem mt_ljust2 {X : Cx} : MtR X "str.ljust" (fun x xs H Q => ∃ (a : Str) (i : Int) (c : Nat), x = .str a ∧ xs = [.int i, .str ⟨#[c]⟩] ∧ PadOk i = true ∧ Q (.str (PySem.SKL.filled a i c)) H) := by
  intro pins s σ H x xs v us Q I rx rs h
  obtain ⟨a, i, c, rfl, rfl, hp, q⟩ := h
  obtain ⟨t, rfl⟩ := rx
  cases rs with
  | cons r1 rs =>
    cases rs with
    | cons r2 rs =>
      cases rs
      obtain ⟨u, rfl⟩ := r1
      obtain ⟨z, rfl⟩ := r2
      exact PySem.SKL.call_ljust2 a i c t u z hp fun t' k => ⟨.str (PySem.SKL.filled a i c), H, I.tok k, ⟨t', rfl⟩, q⟩
end SK

/-! ### set(l) of a list of ints -/
namespace PySem
namespace SKL
open PyProof.Rows L2
abbrev newSet (w : World) : Obj := { cls := .type "set", dict := none, data := .set #[] 0 (.fresh 0 0 (!w.params.followText "set-order")) }
section
variable {P : Program} {w : World} {A : Around} {E : Value → Shared → Prop} {s : Shared}
set_option maxHeartbeats 4000000 in
theorem call_setL {l : Addr} {its : Array Value} (ns : List Int) {Q : Value → Shared → Prop} (calm : A.handled = none) (isl : s.heap.IsList l its) (isI : IntsAre its.toList ns) (few : ns.length + 1 < scanBound)
    (fin : ∀ (h' : Heap) (tk c : Nat), SetR w h' s.heap.objs.size (fun j => decide (j ∈ ns)) c → (∀ b o, s.heap.get? b = some o → h'.get? b = some o) → Q (.ref s.heap.objs.size) { s with heap := h', toks := tk }) :
    wpAny (model P w) A (call (.type "set") [.ref l]) Q E s := by
  have hn : its.size = ns.length := by
    have q := IntsAre.length isI
    rwa [Array.length_toList] at q
  obtain ⟨mc, mt, mro⟩ := F.called_set.mro
  have made := F.called_set.made
  have sub := F.called_set.sub
  refine wpAny_call (codeAny_of_tree ?_)
  show wpAny _ _ (callAny (.type "set") _) _ _ _
  refine wpAny_pure ⟨Code.quiet_builtin _ (by decide +kernel), codeAny_builtin F.entry_type_call ?_⟩
  rw [Around.under_plain (weight_type_call_type "set" [.ref l] []) rfl]
  have q1 := F.called_set.notType
  have q2 := F.called_set.canCreate
  have q3 := F.typeCall_set_1 (.ref l)
  repeat (any_goals (first | assumption | wp_step))
  refine codeAny_mono (code_set_led1 (.ref l) (E := E) (Q₁ := fun ob s1 => ob = .ref s.heap.objs.size ∧ s1 = { s with heap := s.heap.push (newSet w) }) ⟨rfl, rfl⟩) fun r s1 hr => ?_
  cases r with
  | error e => exact hr
  | ok f =>
    cases f with
    | ret ob =>
      obtain ⟨rfl, rfl⟩ := hr
      have at_ : (s.heap.push (newSet w)).get? s.heap.objs.size = some (newSet w) := Heap.get?_push_size _ rfl
      have ty : Shared.TypeIs { s with heap := s.heap.push (newSet w) } (.ref s.heap.objs.size) "set" := ⟨_, at_, rfl⟩
      have i1 := F.called_set.init.lookup
      have i2 := F.called_set.init.bind (.ref s.heap.objs.size)
      repeat (any_goals (first | assumption | wp_step))
      refine codeAny_mono (codeAny_call_builtin (R := wants (fun r s2 => r = .none ∧ ∃ h' tk c, s2 = { s with heap := h', toks := tk } ∧ SetR w h' s.heap.objs.size (fun j => decide (j ∈ ns)) c ∧ (∀ b o, s.heap.get? b = some o → h'.get? b = some o)) E)
        F.called_set.init.plain F.entry_set_init (check_set_init_1 ty ?_)) fun r2 s2 hr2 => ?_
      · obtain ⟨ob, hob, hc, m, hd⟩ := isl
        obtain ⟨c1, c2, c3, c4⟩ := ob
        simp only at hc hd
        subst hc; subst hd
        have hob1 : (s.heap.push (newSet w)).get? l = some { cls := .type "list", dict := c2, data := .seq its m, slots := c4 } := Heap.get?_push_of_some _ hob
        have z1 := F.sub_list_set
        have z2 := F.sub_list_frozenset
        have z3 : (Value.type "list" == Value.type "dict") = false := by decide
        have isl1 : (s.heap.push (newSet w)).IsList l its := ⟨_, hob1, rfl, m, rfl⟩
        unfold Builtin.«set.__init__» noKeywords Builtin.Frozenset.updateFrom
        generalize hPI : pyIter = PI
        wp_walk
        subst hPI
        refine wpAny_pyIter_list isl1 (wpAny_bind (wpAny_runValue ?_))
        have low : l < s.heap.objs.size := Heap.lt_size hob
        have calm3 : A.in1.in1.in1.handled = none := by simp [calm]
        have sz1 : (s.heap.push (newSet w)).objs.size = s.heap.objs.size + 1 := Heap.size_push ..
        have ne1 : l ≠ (s.heap.push (newSet w)).objs.size := by
          rw [sz1]
          exact Nat.ne_of_lt (Nat.lt_succ_of_lt low)
        have out1 : s.heap.objs.size ∉ [(s.heap.push (newSet w)).objs.size, l] := by
          rw [sz1]
          simp only [List.mem_cons, List.not_mem_nil, or_false, not_or]
          exact ⟨Nat.ne_of_lt (Nat.lt_succ_self _), Nat.ne_of_gt low⟩
        have val : ∀ (i : Nat) (v : Value), its[i]? = some v → ∃ k t, ns[i]? = some k ∧ v = .int k t := fun i v hv => by
          have hi : i < ns.length := by
            rw [← hn]
            exact (Array.getElem?_eq_some_iff.mp hv).1
          obtain ⟨t, e⟩ := IntsAre.int_at isI i v (by rw [Array.getElem?_toList]; exact hv)
          refine ⟨ns[i], t, List.getElem?_eq_getElem hi, ?_⟩
          rw [e, List.getD_eq_getElem?_getD, List.getElem?_eq_getElem hi]
          rfl
        refine set_update_ints ((Walks.list calm3 _ l ne1 its).toS) s.heap.objs.size out1 ns hn few val (its.size - 0) 0 _ (by omega) (Nat.zero_le _) ⟨⟨_, Heap.get?_push_size _ rfl, rfl, rfl⟩, isl1.push _⟩ ?sgo ?sfin
        case sgo =>
          have g : ((s.heap.push (newSet w)).push { cls := .type "list_iterator", data := .fields #[.ref l, .int 0 0] }).get? s.heap.objs.size = some (newSet w) := Heap.get?_push_of_some _ at_
          exact ⟨0, Nat.le_refl 0, setR_new_at g⟩
        case sfin =>
          intro t c mv _ R
          obtain ⟨h', g', d', tk', os'⟩ := t
          have e1 : g' = s.gens := mv.gens
          have e2 : d' = s.drawn := mv.drawn
          have e3 : os' = s.os := mv.os
          subst e1; subst e2; subst e3
          show wpAny _ _ _ _ _ _
          refine wpAny_pure ?_
          show wpAny _ _ (ret Value.none) _ _ _
          refine wpAny_pure ⟨rfl, h', tk', c, rfl, R, fun b o e => ?_⟩
          have b0 : b < s.heap.objs.size := Heap.lt_size e
          refine mv.heap b o ?_ (Heap.get?_push_of_some _ (Heap.get?_push_of_some _ e))
          rw [sz1]
          simp only [List.mem_cons, List.not_mem_nil, or_false, not_or]
          exact ⟨Nat.ne_of_lt b0, Nat.ne_of_lt (Nat.lt_succ_of_lt b0)⟩
      · cases r2 with
        | error e => exact hr2
        | ok f2 =>
          cases f2 with
          | ret v =>
            obtain ⟨rfl, h', tk, c, rfl, R, hk⟩ := hr2
            repeat (any_goals (first | assumption | wp_step))
            exact fin _ _ _ R hk
          | _ => exact hr2.elim
    | _ => exact hr.elim
end
end SKL
end PySem
namespace SK
open PySem PySem.Spec PyProof.Rows L2
def rSetL (K : PySem.W.Frag) (w : World) : List V → Hp → VK → Prop := fun xs H Q => ∃ (a : Addr) (ns : List Int), xs = [.ref a] ∧ SqL K H a (ns.map V.int) ∧ ns.length + 1 < scanBound ∧ ∀ p c, H p = none → Q (.ref p) (upd H p (SetO w p (fun j => decide (j ∈ ns)) c))
theorem cr_setL {X : Cx} (hc : X.calm = true) : CallR X (.type "set") (rSetL X.K X.w) := by
  intro pins s σ H xs us Q I r h
  obtain ⟨a, ns, e, ha, few, q⟩ := h
  subst e
  obtain ⟨u, eu, rx⟩ := r.one
  subst eu
  cases rx
  obtain ⟨its, rv, pl, hz⟩ := I.list ha
  refine PySem.SKL.call_setL ns (I.ok.hd hc) pl.isList (by simpa using ints_of_vals rv) few fun h' tk c R hk => ?_
  exact ⟨.ref s.heap.objs.size, _, I.laid (t' := tk) hk (Nat.le_refl _) (setO_new R), rfl, q _ c (I.hok.fresh (Nat.le_refl _))⟩
/-- sorted(s): every member within 0 .. 63 -/
def rSrtS (w : World) (m : Nat) : List V → Hp → VK → Prop := fun vs H Q => ∃ (a : Addr) (S : Int → Bool) (n : Nat), vs = [V.ref a] ∧ H a = some (SetO w a S n) ∧ (∀ k : Int, S k = true → 0 ≤ k ∧ k < m) ∧
  ∀ (ns : List Int) (p : Addr), ns.Pairwise (· < ·) → (∀ k : Int, k ∈ ns ↔ S k = true) → H p = none → Q (.ref p) (upd H p (.lst (ns.map V.int)))
theorem cr_srtS {X : Cx} {m : Nat} (hc : X.calm = true) (hm : m < 64) : CallR X (.builtin "sorted") (rSrtS X.w m) := by
  intro pins s σ H vs us Q I r h
  obtain ⟨a, S, n, e, ha, lim, q⟩ := h
  refine cr_sortedSet hc pins s σ H vs us Q I r ⟨a, S, n, e, ha, ?_, fun ns p h1 h2 _ hp => q ns p h1 h2 hp⟩
  obtain ⟨o, es, ep, t, _, _, _, _, nd, mem, _, _, hn, _⟩ := setO_get I ha
  have hl : (es.toList.map L2.keyOf).length ≤ ((List.range m).map Int.ofNat).length := nd.length_le_of_subset fun k hk => by
    obtain ⟨h1, h2⟩ := lim k ((mem k).mpr hk)
    exact List.mem_map.mpr ⟨k.toNat, List.mem_range.mpr (by omega), by show (k.toNat : Int) = k; omega⟩
  rw [List.length_map, List.length_map, List.length_range, Array.length_toList, hn] at hl
  omega
end SK
set_option Elab.async false
set_option linter.all false
set_option maxRecDepth 100000
set_option maxHeartbeats 2000000
/-! the fault: a class over Exception, whose __init__ calls Exception.__init__ and stores two fields -/
namespace SK
open PySem PySem.Spec PyProof.Rows L2
abbrev xTail : List Value := PySem.ESX.exTail
/-- what the written part says of the class at C -/
structure FlC (K : PySem.W.Frag) (C : Addr) : Prop where
  cls : ∃ nm q N bs sn sub ab col dd k0 k1 k2 k3 k5, K.lookup C = some (excClassObj nm q C N bs xTail true sn sub ab col dd k0 k1 k2 k3 k5 "Exception.__new__")
  sa : PySem.W.findIn K (.ref C) "__setattr__" = some (some (.builtin "object.__setattr__"))
  up : PySem.W.subIn K (.ref C) (.type "BaseException") = some true
  ty : PySem.W.typeIn K (.ref C) = some (.type "type")
  kp : PySem.W.keepIn K (.ref C) = true
theorem FlC.data {K : PySem.W.Frag} {C : Addr} (T : FlC K C) : ∃ cd, PySem.W.clsIn K C = some cd ∧ cd.mro = .ref C :: xTail ∧ cd.hasDict = true := by
  obtain ⟨nm, q, N, bs, sn, sub, ab, col, dd, k0, k1, k2, k3, k5, h⟩ := T.cls
  refine ⟨{ name := nm, bases := bs, mro := .ref C :: xTail, ns := N, qualname := q, hasDict := true, slotNames := sn, subclasses := sub, abstract := ab, collection := col, hasDel := false }, ?_, rfl, rfl⟩
  unfold PySem.W.clsIn
  rw [h] <;> rfl
section
variable {X : Cx} {pins : List (Addr × Obj)} {σ : L2.St} {H : Hp} {s : Shared} {x C dx : Addr} {f : Str} {y : V} {u : Value} {fs : List (Str × V)} {Q : Unit → Shared → Prop} {E : Value → Shared → Prop} {A : Around}
/-- the first field -/
theorem fst_new (T : FlC X.K C) (I : Inv X pins σ H s) (hx : H x = some (exo x C none)) (no : PySem.W.findIn X.K (.ref C) f = some none) (ry : RelV y u)
    (k : ∀ dx s', H dx = none → dx ≠ x → Inv X pins σ (upd (upd H dx (exd dx [(f, y)])) x (exo x C (some dx))) s' → Q () s') : wpAny (model X.prog X.w) A (setAttr (.ref x) f u) Q E s := by
  obtain ⟨cd, c1, c2, c3⟩ := T.data
  obtain ⟨t1, ob⟩ := exo_at I.hok hx
  obtain ⟨h0, gs, dw, tk, os⟩ := s
  refine PySem.W.set_plain I.kIn (od := none) ⟨ob, rfl, rfl, trivial⟩ T.sa ?_
  refine PySem.ESX.osa_new I.kIn ob c1 c2 c3 no fun h' tk' dx keep low ne at_ ns => ?_
  have free : H dx = none := I.hok.fresh low
  have off : ∀ {b : Addr} {o : Obj}, h0.get? b = some o → b ≠ dx := fun {b o} q => Nat.ne_of_lt (Nat.lt_of_lt_of_le (Heap.lt_size q) low)
  have offx : ∀ {b : Addr}, H b = none → b ≠ x := fun {b} n e => by
    rw [e, hx] at n; cases n
  refine k dx _ free ne (I.un (t' := tk') ?_ ?_)
  · constructor
    · exact fun b o q n _ _ => keep b o (offx n) q
    · exact fun b o q n _ _ => ⟨o.slots, keep b o (offx n) q⟩
    · intro b o q n _
      rw [upd_ne (offx n), upd_ne (off q)]; exact n
    · intro b o q _
      by_cases e : b = x
      · rw [e]; exact ⟨_, at_⟩
      · exact ⟨o, keep b o e q⟩
    · intro b xs q
      rw [upd_ne (at_ne hx q exo_tup), upd_ne (ne_of_none q free)]; exact q
    · intro b o v q
      rw [upd_ne (at_ne hx q exo_frz), upd_ne (ne_of_none q free)]; exact q
    · intro b ps q
      refine ⟨#[], ?_⟩
      rw [upd_ne (at_ne hx q exo_tbl), upd_ne (ne_of_none q free), q]
      simp
  · intro b o q
    by_cases e : b = x
    · subst e
      rw [upd_same] at q
      cases q; exact exo_ok at_
    · rw [upd_ne e] at q
      by_cases e2 : b = dx
      · subst e2
        rw [upd_same] at q
        cases q; exact exd_ok ns (relO_put (fs := []) ry fun _ => True.intro)
      · rw [upd_ne e2] at q
        refine (I.hok b o q).stay (fun c v hc z => keep c v ?_ z) (fun c hc => ?_) fun c xs hc => ?_
        · rcases hc with hc | hc
          · rw [hc]; exact e
          · exact at_ne hx hc exo_own
        · rw [upd_ne (at_ne hx hc exo_own), upd_ne (ne_of_none hc free)]; exact hc
        · rw [upd_ne (at_ne hx hc exo_tup), upd_ne (ne_of_none hc free)]; exact hc
/-- a further field -/
theorem fst_old (T : FlC X.K C) (I : Inv X pins σ H s) (hx : H x = some (exo x C (some dx))) (hd : H dx = some (exd dx fs)) (few : fs.length ≤ 900) (no : PySem.W.findIn X.K (.ref C) f = some none) (ry : RelV y u)
    (k : ∀ s', Inv X pins σ (upd H dx (exd dx ((f, y) :: fs))) s' → Q () s') : wpAny (model X.prog X.w) A (setAttr (.ref x) f u) Q E s := by
  obtain ⟨cd, c1, c2, c3⟩ := T.data
  obtain ⟨t1, ob⟩ := exo_at I.hok hx
  obtain ⟨m0, ns, rel⟩ := exd_at I.hok hd
  have within := within_of rel
  obtain ⟨h0, gs, dw, tk, os⟩ := s
  obtain ⟨oD, _, _, hoD, _, _⟩ := ns.count within
  refine PySem.W.set_plain I.kIn (od := some oD) ⟨ob, rfl, rfl, hoD⟩ T.sa ?_
  refine PySem.ESX.osa_old I.kIn ob ns within (by rw [List.length_map]; omega) c1 c2 c3 no fun h' tk' keep ns' => k _ ?_
  have there : ∃ o, h'.get? dx = some o := by
    obtain ⟨o, _, _, e, _⟩ := ns'
    exact ⟨o, e⟩
  exact I.write (t' := tk') (x := dx) (e := dx) (by rw [hd]; exact True.intro) (.inl rfl) keep there (exd_ok ns' (relO_put ry rel))
end
/-- Exception.__init__(self, ..) -/
def rFInit (K : PySem.W.Frag) : List V → Hp → VK → Prop := fun vs H Q => ∃ (x C : Addr) (ws : List V), vs = .ref x :: ws ∧ ws.length ≤ 1000 ∧ FlC K C ∧ H x = some (exo x C none) ∧ Q .non H
section
variable {X : Cx}
theorem call_finit : CallR X (.builtin "Exception.__init__") (rFInit X.K) := by
  intro pins s σ H vs us Q I r h
  obtain ⟨x, C, ws, e, few, T, hx, q⟩ := h
  subst e
  cases r with
  | @cons _ u0 _ ur r0 rr =>
    obtain rfl : u0 = Value.ref x := r0
    have hl : ur.length ≤ sizeLine := by
      rw [← Paired.length rr, sizeLine_eq]; omega
    obtain ⟨nm, qn, N, bs, sn, sub, ab, col, dd, k0, k1, k2, k3, k5, hC⟩ := T.cls
    obtain ⟨t1, ob⟩ := exo_at I.hok hx
    obtain ⟨h0, gs, dw, tk, os⟩ := s
    refine wpAny_call (PySem.HandSPX.init_base F.excBase_Exception (fun Y => rfl) (I.kIn _ _ hC) ob hl fun h' t2 keep at_ => ?_)
    have J : Inv X pins σ (upd H x (exo x C none)) ⟨h', gs, dw, tk, os⟩ := I.write (t' := tk) (x := x) (e := x) (by rw [hx]; exact True.intro) (.inl rfl) keep ⟨_, at_⟩ (exo_ok at_)
    have same : upd H x (exo x C none) = H := by
      funext b
      by_cases e : b = x
      · rw [e, upd_same, hx]
      · rw [upd_ne e]
    rw [same] at J
    exact ⟨.non, H, J, rfl, q⟩
theorem tyAt_exc : NwS.TyAt "Exception" "__init__" "Exception.__init__" := ⟨by decide +kernel, by first | rfl | kernel_rfl, fun K => by kernel_rfl, by decide +kernel⟩
/-- self.f = e, self an exception that is being made -/
def tFst (K : PySem.W.Frag) (f : Str) (to te : TE) : TS := fun D σ H => te σ H fun y H1 => to σ H1 fun v H2 => ∃ x C : Addr, v = .ref x ∧ FlC K C ∧ PySem.W.findIn K (.ref C) f = some none ∧
  ((H2 x = some (exo x C none) ∧ ∀ dx, H2 dx = none → dx ≠ x → D.nx σ (upd (upd H2 dx (exd dx [(f, y)])) x (exo x C (some dx)))) ∨
   (∃ (dx : Addr) (fs : List (Str × V)), H2 x = some (exo x C (some dx)) ∧ H2 dx = some (exd dx fs) ∧ fs.length ≤ 900 ∧ D.nx σ (upd H2 dx (exd dx ((f, y) :: fs)))))
theorem ps_fst {o e : Expr} {to te : TE} {f : Str} {p' pos : Pos} (ho : PE X o to) (he : PE X e te) (hs : swapsWith e (some (.Attribute o f p')) pos.line X.env = pure false := by rfl) : PS X (.Assign [.Attribute o f p'] e pos) (tFst X.K f to te) := by
  refine ⟨fun pins s σ H D I h => plainObj_wpAny_Assign_Attribute (thn (he.run pins s σ H _ I h) fun v s1 h1 => ?_) hs⟩
  obtain ⟨y, H1, I1, r1, q1⟩ := h1
  refine thn (ho.run pins s1 σ H1 _ I1 q1) fun u s2 h2 => ?_
  obtain ⟨z, H2, I2, r2, x, C, ez, T, no, q⟩ := h2
  subst ez
  obtain rfl : u = Value.ref x := r2
  rcases q with ⟨hx, q⟩ | ⟨dx, fs, hx, hd, few, q⟩
  · exact fst_new T I2 hx no r1 fun dx s' n ne J => ⟨σ, _, J, q dx n ne⟩
  · exact fst_old T I2 hx hd few no r1 fun s' J => ⟨σ, _, J, q⟩
/-- C(e, ..) -/
def tMkF (C : Addr) (sp : Sp) (ta : TA) : L2.St → Hp → XK → Prop := fun σ H Q => ta σ H fun vs H1 => vs.length ≤ 1000 ∧ ∀ x, H1 x = none → sp (.ref x :: vs) (upd H1 x (exo x C none))
  (fun v H2 => v = .non ∧ ∃ (d : Addr) (fs : List (Str × V)), H2 x = some (exo x C (some d)) ∧ H2 d = some (exd d fs) ∧ H1 d = none ∧ Q (.ref C) (some d) (upd (del H2 x) d (.xd fs))) (fun _ _ _ => False)
theorem pmk_fl {x : Str} {C fI : Addr} {k : Nat} {fd : FuncData} {ps : List Str} {sp : Sp} {e : Expr} {es : List Expr} {ta : TA} {p pos : Pos} (T : FlC X.K C) (iC : PySem.W.findIn X.K (.ref C) "__init__" = some (some (.ref fI))) (tI : PySem.W.typeIn X.K (.ref fI) = some (.type "function"))
    (G : FnOk X.prog X.w X.K X.mg X.base CX0 k fI fd ps sp) (hr : Room (k + 1) X.A) (hb : Binds X.K fd ps []) (hm : X.mg x = some (.ref C)) (ha : PA X (e :: es) ta) (hg : Gl X x := by rfl)
    (hdb : (x == ("__debug__" : Str)) = false := by decide) (he : starEach (e :: es) X.env = (false, eval e X.env) :: starEach es X.env := by rfl) (hpl : (backTo pos (starEach es X.env)).any (·.1) = false := by rfl) :
    PMk X (.Call (.Name x p) (e :: es) [] pos) (tMkF C sp ta) := by
  intro pins s σ H Q I h
  obtain ⟨nm, qn, N, bs, sn, sub, ab, col, dd, k0, k1, k2, k3, k5, hC⟩ := T.cls
  refine wpAny_Call_Name_kw (ld_glob I hg hm ?_ hdb)
  refine PySem.W.callWith_K (h₀ := X.base) I.ok.mod.kin T.kp (thn (ha.run pos pins s σ H _ I h) fun us s1 h1 => ?_) he hpl
  obtain ⟨vs, H1, I1, r1, few, q1⟩ := h1
  refine ⟨I1.kIn, ?_⟩
  show wpAny _ _ (call (.ref C) us) _ _ _
  obtain ⟨h0, gs, dw, tk, os⟩ := s1
  obtain ⟨a, ea⟩ : ∃ a, a = h0.objs.size + 1 := ⟨_, rfl⟩
  have low : h0.objs.size ≤ a := by omega
  have free : H1 a = none := I1.hok.fresh low
  have hq := q1 a free
  have keep : ∀ b o, h0.get? b = some o → ((h0.push (PySem.W.kdv_tup us)).push (PySem.HandSPX.excO C h0.objs.size)).get? b = some o := fun b o z => Heap.get?_push_of_some _ (Heap.get?_push_of_some _ z)
  have at_ : ((h0.push (PySem.W.kdv_tup us)).push (PySem.HandSPX.excO C h0.objs.size)).get? a = some (PySem.HandSPX.excO C h0.objs.size) := by
    rw [ea]
    heap_get
  have I2 : Inv X pins σ (upd H1 a (exo a C none)) ⟨(h0.push (PySem.W.kdv_tup us)).push (PySem.HandSPX.excO C h0.objs.size), gs, dw, tk, os⟩ := I1.laid (t' := tk) keep low (exo_ok at_)
  have r2 : Vals (V.ref a :: vs) (Value.ref a :: us) := .cons rfl r1
  have hl : (Value.ref a :: us ++ []).length = ps.length := by
    have z := r2.length
    rw [G.len _ _ _ _ hq] at z
    rw [List.append_nil]; exact z.symm
  have hus : us.length ≤ sizeLine := by
    rw [← Paired.length r1, sizeLine_eq]; omega
  have hbt := hb _ (Value.ref a :: us) I2.kIn hl
  rw [List.append_nil] at hbt
  subst ea
  refine wpAny_call (PySem.HandSPX.call_own F.excBase_Exception (fun Y => rfl) (I1.kIn _ _ hC) (PySem.W.looks_findIn I1.kIn iC) (fun self => PySem.W.bind_fn I1.kIn self tI) hus
    (codeAny_mono (G.run _ X.stack _ _ ⟨Value.ref (h0.objs.size + 1) :: us, []⟩ (Value.ref (h0.objs.size + 1) :: us) (V.ref (h0.objs.size + 1) :: vs) _ (fun _ _ _ => False) (hr.make C us []) (I2.env0.make C us []) hbt r2 hq) fun r s' hh => ?_))
  · cases r with
    | error er => exact False.elim hh
    | ok fl =>
      cases fl with
      | ret u =>
        obtain ⟨v, H2, os2, bare2, un2, ok2, rv, ev, d, fs, e1, e2, e3, q2⟩ := hh
        subst ev
        obtain ⟨h2, g2, d2, t2, os'⟩ := s'
        exact ⟨rv, mk_end (raises_own T.up T.ty) I1 low keep un2 ok2 os2 bare2 e1 e2 e3 q2⟩
      | next => exact False.elim hh
      | brk => exact False.elim hh
      | cont => exact False.elim hh
end
end SK
set_option Elab.async false
set_option linter.all false
set_option maxRecDepth 100000
set_option maxHeartbeats 2000000
/-! what the top has left, and small rules over it -/
namespace SK
open PySem PySem.Spec PyProof.Rows L2
/-- where the classes stand -/
structure Ad where
  Address : Addr
  Deed : Addr
  Command : Addr
  Fault : Addr
  Token : Addr
  LineRun : Addr
  Outcome : Addr
  Reader : Addr
  Holder : Addr
section
variable (K : PySem.W.Frag) (mg : Str → Option Value)
structure DefAt (x : Str) (st : Stmt) (ps : List Str) : Prop where
  ex : ∃ f fd, Fun K x x st f fd ∧ mg x = some (.ref f) ∧ Binds K fd ps []
structure MetAt (C : Addr) (m qual : Str) (st : Stmt) (ps : List Str) : Prop where
  ex : ∃ f fd, Fun K m qual st f fd ∧ Meth K C m f ∧ Binds K fd ps []
structure IniAt (x qual : Str) (C : Addr) (st : Stmt) (ps : List Str) : Prop where
  ex : ∃ f fd, Fun K "__init__" qual st f fd ∧ Mk K C f ∧ mg x = some (.ref C) ∧ Binds K fd ps []
structure ClsAt (C : Addr) (fs : List Str) : Prop where
  cl : Cls K C
  no : ∀ f ∈ fs, NoAttr K C f
def IntAt (x : Str) (n : Int) : Prop := ∃ t, mg x = some (.int n t)
def StrAt (x : Str) (z : Str) : Prop := ∃ t, mg x = some (.str z t)
def TupAt (x : Str) (xs : List V) : Prop := ∃ a, mg x = some (.ref a) ∧ ∀ H, SqT K H a xs
structure FltAt (C : Addr) (st : Stmt) : Prop where
  fl : FlC K C
  xf : XfC K C
  g : mg "Fault" = some (.ref C)
  no1 : PySem.W.findIn K (.ref C) "code" = some none
  no2 : PySem.W.findIn K (.ref C) "place" = some none
  ini : ∃ f fd, Fun K "__init__" "Fault.__init__" st f fd ∧ PySem.W.findIn K (.ref C) "__init__" = some (some (.ref f)) ∧ PySem.W.typeIn K (.ref f) = some (.type "function") ∧ Binds K fd ["self", "code", "place"] []
  te : PySem.W.exmOne K (.ref C) (.ref C) = some true
end
section
variable {X : Cx}
theorem pe_gi {x : Str} {pos : Pos} {n : Int} (h : IntAt X.mg x n) (hg : Gl X x := by rfl) (hd : (x == ("__debug__" : Str)) = false := by decide) : PE X (.Name x pos) (tC (.int n)) := by
  obtain ⟨t, e⟩ := h
  exact pe_glob hg e ⟨t, rfl⟩ hd
theorem pe_gs {x : Str} {pos : Pos} {z : Str} (h : StrAt X.mg x z) (hg : Gl X x := by rfl) (hd : (x == ("__debug__" : Str)) = false := by decide) : PE X (.Name x pos) (tC (.str z)) := by
  obtain ⟨t, e⟩ := h
  exact pe_glob hg e ⟨t, rfl⟩ hd
/-- a written tuple -/
def tTupC (K : PySem.W.Frag) (xs : List V) : TE := fun _ H Q => ∀ a, SqT K H a xs → Q (.ref a) H
theorem pe_gt {x : Str} {pos : Pos} {xs : List V} (h : TupAt X.K X.mg x xs) (hg : Gl X x := by rfl) (hd : (x == ("__debug__" : Str)) = false := by decide) : PE X (.Name x pos) (tTupC X.K xs) := by
  obtain ⟨a, e, k⟩ := h
  refine ⟨fun pins s σ H Q I q => ?_⟩
  exact (pe_glob (v := .ref a) hg e rfl hd).run pins s σ H Q I (q a (k H))
theorem pe_fldK {e : Expr} {f : Str} {pos : Pos} {ta : TE} {K : PySem.W.Frag} (he : PE X e ta) (hb : attributeBase e f X.env (eval e X.env) = eval e X.env) (hK : X.K = K := by rfl) : PE X (.Attribute e f pos) (tFld K ta f) := by
  subst hK
  exact pe_fld he hb
theorem pe_bmK {e : Expr} {T : String} {r : V → List V → Hp → VK → Prop} {to : TE} {t : TA} {K : PySem.W.Frag} (h : PE X e (tBM X.K T r to t)) (hK : X.K = K := by rfl) : PE X e (tBM K T r to t) := by
  subst hK
  exact h
theorem op_in_seqK {K : PySem.W.Frag} (hK : X.K = K := by rfl) : OpR X (compareOp .In) (rIn K false) := by
  subst hK
  exact op_in_seq
theorem ix_tupK {K : PySem.W.Frag} (hK : X.K = K := by rfl) : IxR X (rIxT K) := by
  subst hK
  exact ix_tup
end
/-- all that the top has left -/
structure Txt (K : PySem.W.Frag) (mg : Str → Option Value) (A : Ad) : Prop where
  c_Address : ClsAt K A.Address ["nots", "name", "first", "final", "letters"]
  c_Deed : ClsAt K A.Deed ["name", "letters", "other", "number"]
  c_Command : ClsAt K A.Command ["address", "deed"]
  c_Token : ClsAt K A.Token ["kind", "value", "place", "behind"]
  c_LineRun : ClsAt K A.LineRun ["line", "done", "ahead", "behind", "left_out", "deleted", "over"]
  c_Outcome : ClsAt K A.Outcome ["place", "kind", "run"]
  c_Reader : ClsAt K A.Reader ["tokens", "at"]
  c_Holder : ClsAt K A.Holder ["commands", "kinds_held", "outcomes"]
  d_Address_init : IniAt K mg "Address" "Address.__init__" A.Address s_Address_init ["self", "nots", "name", "first", "final", "letters"]
  d_Deed_init : IniAt K mg "Deed" "Deed.__init__" A.Deed s_Deed_init ["self", "name", "letters", "other", "number"]
  d_Command_init : IniAt K mg "Command" "Command.__init__" A.Command s_Command_init ["self", "address", "deed"]
  d_everywhere : DefAt K mg "everywhere" s_everywhere []
  d_never_done : DefAt K mg "never_done" s_never_done []
  d_without : DefAt K mg "without" s_without ["commands", "number"]
  d_taken_out : DefAt K mg "taken_out" s_taken_out ["commands", "number"]
  d_turned : DefAt K mg "turned" s_turned ["commands", "number"]
  d_has_skip : DefAt K mg "has_skip" s_has_skip ["commands"]
  d_form_of : DefAt K mg "form_of" s_form_of ["commands"]
  d_command_form : DefAt K mg "command_form" s_command_form ["command"]
  d_address_words : DefAt K mg "address_words" s_address_words ["address"]
  d_deed_words : DefAt K mg "deed_words" s_deed_words ["deed"]
  d_Token_init : IniAt K mg "Token" "Token.__init__" A.Token s_Token_init ["self", "kind", "value", "place", "behind"]
  d_tokens_of : DefAt K mg "tokens_of" s_tokens_of ["script"]
  d_behind_blanks : DefAt K mg "behind_blanks" s_behind_blanks ["script", "at"]
  d_behind_remark : DefAt K mg "behind_remark" s_behind_remark ["script", "at"]
  d_token_at : DefAt K mg "token_at" s_token_at ["script", "at"]
  d_is_letter : DefAt K mg "is_letter" s_is_letter ["byte"]
  d_is_digit : DefAt K mg "is_digit" s_is_digit ["byte"]
  d_word_at : DefAt K mg "word_at" s_word_at ["script", "at"]
  d_text_of : DefAt K mg "text_of" s_text_of ["letters"]
  d_number_at : DefAt K mg "number_at" s_number_at ["script", "at"]
  d_value_of : DefAt K mg "value_of" s_value_of ["digits"]
  d_is_plain : DefAt K mg "is_plain" s_is_plain ["commands"]
  d_looked_for : DefAt K mg "looked_for" s_looked_for ["commands"]
  d_own_words : DefAt K mg "own_words" s_own_words ["commands"]
  d_kinds_of : DefAt K mg "kinds_of" s_kinds_of ["commands"]
  d_free_letter : DefAt K mg "free_letter" s_free_letter ["words"]
  d_first_lines : DefAt K mg "first_lines" s_first_lines ["words"]
  d_beginnings_of : DefAt K mg "beginnings_of" s_beginnings_of ["words"]
  d_words_had : DefAt K mg "words_had" s_words_had ["words", "had", "end"]
  d_longest_beginning : DefAt K mg "longest_beginning" s_longest_beginning ["end", "beginnings"]
  d_LineRun_init : IniAt K mg "LineRun" "LineRun.__init__" A.LineRun s_LineRun_init ["self", "line"]
  d_LineRun_coming : MetAt K A.LineRun "coming" "LineRun.coming" s_LineRun_coming ["self"]
  d_line_run : DefAt K mg "line_run" s_line_run ["commands", "line", "place"]
  d_holds : DefAt K mg "holds" s_holds ["address", "line", "place"]
  d_holds_without_nots : DefAt K mg "holds_without_nots" s_holds_without_nots ["address", "line", "place"]
  d_do_deed : DefAt K mg "do_deed" s_do_deed ["deed", "run"]
  d_Outcome_init : IniAt K mg "Outcome" "Outcome.__init__" A.Outcome s_Outcome_init ["self", "place", "kind", "run"]
  d_all_places : DefAt K mg "all_places" s_all_places []
  d_all_outcomes : DefAt K mg "all_outcomes" s_all_outcomes ["commands", "kinds"]
  d_where_done : DefAt K mg "where_done" s_where_done ["outcomes", "number"]
  d_first_unlike : DefAt K mg "first_unlike" s_first_unlike ["outcomes", "others"]
  d_numbers_of : DefAt K mg "numbers_of" s_numbers_of ["outcomes"]
  d_first_unsafe : DefAt K mg "first_unsafe" s_first_unsafe ["commands", "line"]
  d_Reader_init : IniAt K mg "Reader" "Reader.__init__" A.Reader s_Reader_init ["self", "tokens"]
  d_Reader_here : MetAt K A.Reader "here" "Reader.here" s_Reader_here ["self"]
  d_Reader_stands : MetAt K A.Reader "stands" "Reader.stands" s_Reader_stands ["self", "word"]
  d_Reader_take_kind : MetAt K A.Reader "take_kind" "Reader.take_kind" s_Reader_take_kind ["self", "kind"]
  d_Reader_take_word : MetAt K A.Reader "take_word" "Reader.take_word" s_Reader_take_word ["self", "word"]
  d_Reader_take_letters : MetAt K A.Reader "take_letters" "Reader.take_letters" s_Reader_take_letters ["self"]
  d_Reader_take_number : MetAt K A.Reader "take_number" "Reader.take_number" s_Reader_take_number ["self", "least", "greatest"]
  d_commands_of : DefAt K mg "commands_of" s_commands_of ["script"]
  d_read_command : DefAt K mg "read_command" s_read_command ["reader"]
  d_read_address : DefAt K mg "read_address" s_read_address ["reader"]
  d_read_nots : DefAt K mg "read_nots" s_read_nots ["reader"]
  d_read_deed : DefAt K mg "read_deed" s_read_deed ["reader"]
  d_read_other : DefAt K mg "read_other" s_read_other ["reader"]
  d_Holder_init : IniAt K mg "Holder" "Holder.__init__" A.Holder s_Holder_init ["self"]
  d_Holder_hold : MetAt K A.Holder "hold" "Holder.hold" s_Holder_hold ["self", "commands"]
  d_Holder_load : MetAt K A.Holder "load" "Holder.load" s_Holder_load ["self", "script"]
  d_Holder_shown : MetAt K A.Holder "shown" "Holder.shown" s_Holder_shown ["self"]
  d_Holder_kinds : MetAt K A.Holder "kinds" "Holder.kinds" s_Holder_kinds ["self"]
  d_Holder_can : MetAt K A.Holder "can" "Holder.can" s_Holder_can ["self", "number"]
  d_Holder_matters : MetAt K A.Holder "matters" "Holder.matters" s_Holder_matters ["self", "number"]
  d_Holder_idle : MetAt K A.Holder "idle" "Holder.idle" s_Holder_idle ["self"]
  d_Holder_turn : MetAt K A.Holder "turn" "Holder.turn" s_Holder_turn ["self", "number"]
  d_Holder_lines : MetAt K A.Holder "lines" "Holder.lines" s_Holder_lines ["self", "number"]
  d_Holder_safe : MetAt K A.Holder "safe" "Holder.safe" s_Holder_safe ["self", "line"]
  d_Holder_prune : MetAt K A.Holder "prune" "Holder.prune" s_Holder_prune ["self"]
  d_Holder_has_command : MetAt K A.Holder "has_command" "Holder.has_command" s_Holder_has_command ["self", "number"]
  d_Holder_first_mattering : MetAt K A.Holder "first_mattering" "Holder.first_mattering" s_Holder_first_mattering ["self", "number"]
  d_Holder_first_idle : MetAt K A.Holder "first_idle" "Holder.first_idle" s_Holder_first_idle ["self"]
  d_answers : DefAt K mg "answers" s_answers ["calls"]
  d_behind_call : DefAt K mg "behind_call" s_behind_call ["calls", "at"]
  d_answer_of : DefAt K mg "answer_of" s_answer_of ["holder", "call"]
  d_answer_of_command : DefAt K mg "answer_of_command" s_answer_of_command ["holder", "call", "number"]
  d_told_text : DefAt K mg "told_text" s_told_text ["text"]
  d_told_place_and_kind : DefAt K mg "told_place_and_kind" s_told_place_and_kind ["outcome"]
  flt : FltAt K mg A.Fault s_Fault_init
  g_LETTERS : StrAt mg "LETTERS" "abcdefghijklmnopqrstuvwxyz"
  g_BLANKS : TupAt K mg "BLANKS" [.int 32, .int 9, .int 10]
  g_LINE_END : IntAt mg "LINE_END" (10)
  g_REMARK : IntAt mg "REMARK" (35)
  g_SIGN : IntAt mg "SIGN" (59)
  g_FIRST_LETTER : IntAt mg "FIRST_LETTER" (97)
  g_FINAL_LETTER : IntAt mg "FINAL_LETTER" (122)
  g_FIRST_DIGIT : IntAt mg "FIRST_DIGIT" (48)
  g_FINAL_DIGIT : IntAt mg "FINAL_DIGIT" (57)
  g_LONGEST_WORD : IntAt mg "LONGEST_WORD" (8)
  g_GREATEST_NUMBER : IntAt mg "GREATEST_NUMBER" (1000000000)
  g_LONGEST_NUMBER : IntAt mg "LONGEST_NUMBER" (10)
  g_DEEDS_NOT_PLAIN : TupAt K mg "DEEDS_NOT_PLAIN" [.str "swap", .str "first", .str "keep", .str "bring", .str "trade"]
  g_MOST_LOOKED_FOR : IntAt mg "MOST_LOOKED_FOR" (4)
  g_MOST_LETTERS : IntAt mg "MOST_LETTERS" (16)
  g_LONGEST_LINE : IntAt mg "LONGEST_LINE" (16)
  g_LEAST_FILLED : IntAt mg "LEAST_FILLED" (9)
  g_FINAL_LINE : IntAt mg "FINAL_LINE" (24)
  g_MOST_BYTES : IntAt mg "MOST_BYTES" (4096)
  g_MOST_COMMANDS : IntAt mg "MOST_COMMANDS" (16)
  g_MOST_NOTS : IntAt mg "MOST_NOTS" (3)
  g_GREATEST_LINE : IntAt mg "GREATEST_LINE" (99)
  g_GREATEST_SKIP : IntAt mg "GREATEST_SKIP" (9)
  g_OWN_WORDS : TupAt K mg "OWN_WORDS" [.str "if", .str "all", .str "line", .str "from", .str "to", .str "last", .str "has", .str "is", .str "not", .str "delete", .str "before", .str "after", .str "change", .str "swap", .str "first", .str "keep", .str "bring", .str "trade", .str "skip", .str "stop", .str "none"]
  g_DEEDS_ALONE : TupAt K mg "DEEDS_ALONE" [.str "delete", .str "keep", .str "bring", .str "trade", .str "stop"]
  g_DEEDS_OF_LETTERS : TupAt K mg "DEEDS_OF_LETTERS" [.str "before", .str "after", .str "change"]
  g_DEEDS_OF_TWO : TupAt K mg "DEEDS_OF_TWO" [.str "swap", .str "first"]
  g_LOAD : IntAt mg "LOAD" (0)
  g_SHOWN : IntAt mg "SHOWN" (1)
  g_KINDS : IntAt mg "KINDS" (2)
  g_CAN : IntAt mg "CAN" (3)
  g_MATTERS : IntAt mg "MATTERS" (4)
  g_IDLE : IntAt mg "IDLE" (5)
  g_TURN : IntAt mg "TURN" (6)
  g_SAFE : IntAt mg "SAFE" (8)
  g_CALLS_WITH_A_NUMBER : TupAt K mg "CALLS_WITH_A_NUMBER" [.int 3, .int 4, .int 6, .int 7]
  g_CALLS_WITH_A_LIST : TupAt K mg "CALLS_WITH_A_LIST" [.int 0, .int 8]
  g_NO_SCRIPT : IntAt mg "NO_SCRIPT" (-1)
  g_NO_SUCH_COMMAND : IntAt mg "NO_SUCH_COMMAND" (-2)
  g_HAS_SKIP : IntAt mg "HAS_SKIP" (-3)
  g_NOT_A_LINE : IntAt mg "NOT_A_LINE" (-4)
  g_NOT_PLAIN : IntAt mg "NOT_PLAIN" (-6)
  z_all : mg "all" = none
  z_any : mg "any" = none
  z_enumerate : mg "enumerate" = none
  z_len : mg "len" = none
  z_list : mg "list" = none
  z_ord : mg "ord" = none
  z_range : mg "range" = none
  z_set : mg "set" = none
  z_sorted : mg "sorted" = none
  z_str : mg "str" = none
  z_tuple : mg "tuple" = none
  z_Exception : mg "Exception" = none
end SK
set_option Elab.async false
set_option linter.all false
set_option maxRecDepth 100000
set_option maxHeartbeats 2000000
/-! the fields of each class: how they are read and stored -/
namespace SK
open PySem PySem.Spec PyProof.Rows L2
theorem lkn {f g : Str} {v : V} {r : List (Str × V)} (h : (f == g) = false) : List.lookup f ((g, v) :: r) = List.lookup f r := by simp [List.lookup, h]
theorem lke {f : Str} {v : V} {r : List (Str × V)} : List.lookup f ((f, v) :: r) = some v := by simp [List.lookup]
theorem pfn {f g : Str} {y v : V} {r s : List (Str × V)} (h : (f == g) = false) (e : putF f y r = s) : putF f y ((g, v) :: r) = (g, v) :: s := by
  rw [← e]
  exact if_neg fun z => by
    rw [z] at h
    simp at h
theorem pfe {f : Str} {y v : V} {r : List (Str × V)} : putF f y ((f, v) :: r) = (f, y) :: r := if_pos rfl
section
variable {K : PySem.W.Frag} {mg : Str → Option Value} {A : Ad}

theorem nq_name_nots : (("name" : Str) == "nots") = false := by decide +kernel
theorem nq_first_name : (("first" : Str) == "name") = false := by decide +kernel
theorem nq_first_nots : (("first" : Str) == "nots") = false := by decide +kernel
theorem nq_final_first : (("final" : Str) == "first") = false := by decide +kernel
theorem nq_final_name : (("final" : Str) == "name") = false := by decide +kernel
theorem nq_final_nots : (("final" : Str) == "nots") = false := by decide +kernel
theorem nq_letters_final : (("letters" : Str) == "final") = false := by decide +kernel
theorem nq_letters_first : (("letters" : Str) == "first") = false := by decide +kernel
theorem nq_letters_name : (("letters" : Str) == "name") = false := by decide +kernel
theorem nq_letters_nots : (("letters" : Str) == "nots") = false := by decide +kernel
theorem nq_other_letters : (("other" : Str) == "letters") = false := by decide +kernel
theorem nq_other_name : (("other" : Str) == "name") = false := by decide +kernel
theorem nq_number_other : (("number" : Str) == "other") = false := by decide +kernel
theorem nq_number_letters : (("number" : Str) == "letters") = false := by decide +kernel
theorem nq_number_name : (("number" : Str) == "name") = false := by decide +kernel
theorem nq_deed_address : (("deed" : Str) == "address") = false := by decide +kernel
theorem nq_value_kind : (("value" : Str) == "kind") = false := by decide +kernel
theorem nq_place_value : (("place" : Str) == "value") = false := by decide +kernel
theorem nq_place_kind : (("place" : Str) == "kind") = false := by decide +kernel
theorem nq_behind_place : (("behind" : Str) == "place") = false := by decide +kernel
theorem nq_behind_value : (("behind" : Str) == "value") = false := by decide +kernel
theorem nq_behind_kind : (("behind" : Str) == "kind") = false := by decide +kernel
theorem nq_done_line : (("done" : Str) == "line") = false := by decide +kernel
theorem nq_ahead_done : (("ahead" : Str) == "done") = false := by decide +kernel
theorem nq_ahead_line : (("ahead" : Str) == "line") = false := by decide +kernel
theorem nq_behind_ahead : (("behind" : Str) == "ahead") = false := by decide +kernel
theorem nq_behind_done : (("behind" : Str) == "done") = false := by decide +kernel
theorem nq_behind_line : (("behind" : Str) == "line") = false := by decide +kernel
theorem nq_left_out_behind : (("left_out" : Str) == "behind") = false := by decide +kernel
theorem nq_left_out_ahead : (("left_out" : Str) == "ahead") = false := by decide +kernel
theorem nq_left_out_done : (("left_out" : Str) == "done") = false := by decide +kernel
theorem nq_left_out_line : (("left_out" : Str) == "line") = false := by decide +kernel
theorem nq_deleted_left_out : (("deleted" : Str) == "left_out") = false := by decide +kernel
theorem nq_deleted_behind : (("deleted" : Str) == "behind") = false := by decide +kernel
theorem nq_deleted_ahead : (("deleted" : Str) == "ahead") = false := by decide +kernel
theorem nq_deleted_done : (("deleted" : Str) == "done") = false := by decide +kernel
theorem nq_deleted_line : (("deleted" : Str) == "line") = false := by decide +kernel
theorem nq_over_deleted : (("over" : Str) == "deleted") = false := by decide +kernel
theorem nq_over_left_out : (("over" : Str) == "left_out") = false := by decide +kernel
theorem nq_over_behind : (("over" : Str) == "behind") = false := by decide +kernel
theorem nq_over_ahead : (("over" : Str) == "ahead") = false := by decide +kernel
theorem nq_over_done : (("over" : Str) == "done") = false := by decide +kernel
theorem nq_over_line : (("over" : Str) == "line") = false := by decide +kernel
theorem nq_coming_over : (("coming" : Str) == "over") = false := by decide +kernel
theorem nq_coming_deleted : (("coming" : Str) == "deleted") = false := by decide +kernel
theorem nq_coming_left_out : (("coming" : Str) == "left_out") = false := by decide +kernel
theorem nq_coming_behind : (("coming" : Str) == "behind") = false := by decide +kernel
theorem nq_coming_ahead : (("coming" : Str) == "ahead") = false := by decide +kernel
theorem nq_coming_done : (("coming" : Str) == "done") = false := by decide +kernel
theorem nq_coming_line : (("coming" : Str) == "line") = false := by decide +kernel
theorem nq_kind_place : (("kind" : Str) == "place") = false := by decide +kernel
theorem nq_run_kind : (("run" : Str) == "kind") = false := by decide +kernel
theorem nq_run_place : (("run" : Str) == "place") = false := by decide +kernel
theorem nq_at_tokens : (("at" : Str) == "tokens") = false := by decide +kernel
theorem nq_here_at : (("here" : Str) == "at") = false := by decide +kernel
theorem nq_here_tokens : (("here" : Str) == "tokens") = false := by decide +kernel
theorem nq_stands_at : (("stands" : Str) == "at") = false := by decide +kernel
theorem nq_stands_tokens : (("stands" : Str) == "tokens") = false := by decide +kernel
theorem nq_take_kind_at : (("take_kind" : Str) == "at") = false := by decide +kernel
theorem nq_take_kind_tokens : (("take_kind" : Str) == "tokens") = false := by decide +kernel
theorem nq_take_word_at : (("take_word" : Str) == "at") = false := by decide +kernel
theorem nq_take_word_tokens : (("take_word" : Str) == "tokens") = false := by decide +kernel
theorem nq_take_letters_at : (("take_letters" : Str) == "at") = false := by decide +kernel
theorem nq_take_letters_tokens : (("take_letters" : Str) == "tokens") = false := by decide +kernel
theorem nq_take_number_at : (("take_number" : Str) == "at") = false := by decide +kernel
theorem nq_take_number_tokens : (("take_number" : Str) == "tokens") = false := by decide +kernel
theorem nq_kinds_held_commands : (("kinds_held" : Str) == "commands") = false := by decide +kernel
theorem nq_outcomes_kinds_held : (("outcomes" : Str) == "kinds_held") = false := by decide +kernel
theorem nq_outcomes_commands : (("outcomes" : Str) == "commands") = false := by decide +kernel
theorem nq_hold_outcomes : (("hold" : Str) == "outcomes") = false := by decide +kernel
theorem nq_hold_kinds_held : (("hold" : Str) == "kinds_held") = false := by decide +kernel
theorem nq_hold_commands : (("hold" : Str) == "commands") = false := by decide +kernel
theorem nq_load_outcomes : (("load" : Str) == "outcomes") = false := by decide +kernel
theorem nq_load_kinds_held : (("load" : Str) == "kinds_held") = false := by decide +kernel
theorem nq_load_commands : (("load" : Str) == "commands") = false := by decide +kernel
theorem nq_shown_outcomes : (("shown" : Str) == "outcomes") = false := by decide +kernel
theorem nq_shown_kinds_held : (("shown" : Str) == "kinds_held") = false := by decide +kernel
theorem nq_shown_commands : (("shown" : Str) == "commands") = false := by decide +kernel
theorem nq_kinds_outcomes : (("kinds" : Str) == "outcomes") = false := by decide +kernel
theorem nq_kinds_kinds_held : (("kinds" : Str) == "kinds_held") = false := by decide +kernel
theorem nq_kinds_commands : (("kinds" : Str) == "commands") = false := by decide +kernel
theorem nq_can_outcomes : (("can" : Str) == "outcomes") = false := by decide +kernel
theorem nq_can_kinds_held : (("can" : Str) == "kinds_held") = false := by decide +kernel
theorem nq_can_commands : (("can" : Str) == "commands") = false := by decide +kernel
theorem nq_matters_outcomes : (("matters" : Str) == "outcomes") = false := by decide +kernel
theorem nq_matters_kinds_held : (("matters" : Str) == "kinds_held") = false := by decide +kernel
theorem nq_matters_commands : (("matters" : Str) == "commands") = false := by decide +kernel
theorem nq_idle_outcomes : (("idle" : Str) == "outcomes") = false := by decide +kernel
theorem nq_idle_kinds_held : (("idle" : Str) == "kinds_held") = false := by decide +kernel
theorem nq_idle_commands : (("idle" : Str) == "commands") = false := by decide +kernel
theorem nq_turn_outcomes : (("turn" : Str) == "outcomes") = false := by decide +kernel
theorem nq_turn_kinds_held : (("turn" : Str) == "kinds_held") = false := by decide +kernel
theorem nq_turn_commands : (("turn" : Str) == "commands") = false := by decide +kernel
theorem nq_lines_outcomes : (("lines" : Str) == "outcomes") = false := by decide +kernel
theorem nq_lines_kinds_held : (("lines" : Str) == "kinds_held") = false := by decide +kernel
theorem nq_lines_commands : (("lines" : Str) == "commands") = false := by decide +kernel
theorem nq_safe_outcomes : (("safe" : Str) == "outcomes") = false := by decide +kernel
theorem nq_safe_kinds_held : (("safe" : Str) == "kinds_held") = false := by decide +kernel
theorem nq_safe_commands : (("safe" : Str) == "commands") = false := by decide +kernel
theorem nq_prune_outcomes : (("prune" : Str) == "outcomes") = false := by decide +kernel
theorem nq_prune_kinds_held : (("prune" : Str) == "kinds_held") = false := by decide +kernel
theorem nq_prune_commands : (("prune" : Str) == "commands") = false := by decide +kernel
theorem nq_has_command_outcomes : (("has_command" : Str) == "outcomes") = false := by decide +kernel
theorem nq_has_command_kinds_held : (("has_command" : Str) == "kinds_held") = false := by decide +kernel
theorem nq_has_command_commands : (("has_command" : Str) == "commands") = false := by decide +kernel
theorem nq_first_mattering_outcomes : (("first_mattering" : Str) == "outcomes") = false := by decide +kernel
theorem nq_first_mattering_kinds_held : (("first_mattering" : Str) == "kinds_held") = false := by decide +kernel
theorem nq_first_mattering_commands : (("first_mattering" : Str) == "commands") = false := by decide +kernel
theorem nq_first_idle_outcomes : (("first_idle" : Str) == "outcomes") = false := by decide +kernel
theorem nq_first_idle_kinds_held : (("first_idle" : Str) == "kinds_held") = false := by decide +kernel
theorem nq_first_idle_commands : (("first_idle" : Str) == "commands") = false := by decide +kernel
def fs_Address (v0 v1 v2 v3 v4 : V) : List (Str × V) := [("nots", v0), ("name", v1), ("first", v2), ("final", v3), ("letters", v4)]
theorem lk_Address_nots {v0 v1 v2 v3 v4 : V} : (fs_Address v0 v1 v2 v3 v4).lookup ("nots" : Str) = some v0 := lke
theorem pf_Address_nots {v0 v1 v2 v3 v4 y : V} : putF "nots" y (fs_Address v0 v1 v2 v3 v4) = fs_Address y v1 v2 v3 v4 := pfe
theorem rd_Address_nots (T : Txt K mg A) {H : Hp} {p dx : Addr} {v0 v1 v2 v3 v4 : V} {Q : VK} (h : H p = some (.ins A.Address dx (fs_Address v0 v1 v2 v3 v4))) (q : Q v0 H) :
    ∃ a C dx fs v, V.ref p = .ref a ∧ H a = some (.ins C dx fs) ∧ Cls K C ∧ NoAttr K C "nots" ∧ fs.lookup ("nots" : Str) = some v ∧ Q v H :=
  ⟨p, _, dx, _, _, rfl, h, T.c_Address.cl, T.c_Address.no _ (by simp), lk_Address_nots, q⟩
theorem wr_Address_nots (T : Txt K mg A) {H : Hp} {p dx : Addr} {v0 v1 v2 v3 v4 y : V} {D : Hp → Prop} (h : H p = some (.ins A.Address dx (fs_Address v0 v1 v2 v3 v4))) (q : D (upd H p (.ins A.Address dx (fs_Address y v1 v2 v3 v4)))) :
    ∃ a C dx fs, V.ref p = .ref a ∧ H a = some (.ins C dx fs) ∧ Cls K C ∧ NoAttr K C "nots" ∧ fs.length < 1000 ∧ D (upd H a (.ins C dx (putF "nots" y fs))) :=
  ⟨p, _, dx, _, rfl, h, T.c_Address.cl, T.c_Address.no _ (by simp), (by show 5 < 1000; decide), (by rw [pf_Address_nots]; exact q)⟩
theorem in_Address_nots (T : Txt K mg A) {H : Hp} {p dx : Addr} {v0 : V} {D : Hp → Prop} (h : H p = some (.ins A.Address dx [])) (q : D (upd H p (.ins A.Address dx ([(("nots" : Str), v0)])))) :
    ∃ a C dx fs, V.ref p = .ref a ∧ H a = some (.ins C dx fs) ∧ Cls K C ∧ NoAttr K C "nots" ∧ fs.length < 1000 ∧ D (upd H a (.ins C dx (putF "nots" v0 fs))) :=
  ⟨p, _, dx, _, rfl, h, T.c_Address.cl, T.c_Address.no _ (by simp), (by show 0 < 1000; decide), (by rw [show putF "nots" v0 [] = [(("nots" : Str), v0)] from rfl]; exact q)⟩
theorem lk_Address_name {v0 v1 v2 v3 v4 : V} : (fs_Address v0 v1 v2 v3 v4).lookup ("name" : Str) = some v1 := (lkn nq_name_nots).trans (lke)
theorem pf_Address_name {v0 v1 v2 v3 v4 y : V} : putF "name" y (fs_Address v0 v1 v2 v3 v4) = fs_Address v0 y v2 v3 v4 := (pfn nq_name_nots pfe)
theorem rd_Address_name (T : Txt K mg A) {H : Hp} {p dx : Addr} {v0 v1 v2 v3 v4 : V} {Q : VK} (h : H p = some (.ins A.Address dx (fs_Address v0 v1 v2 v3 v4))) (q : Q v1 H) :
    ∃ a C dx fs v, V.ref p = .ref a ∧ H a = some (.ins C dx fs) ∧ Cls K C ∧ NoAttr K C "name" ∧ fs.lookup ("name" : Str) = some v ∧ Q v H :=
  ⟨p, _, dx, _, _, rfl, h, T.c_Address.cl, T.c_Address.no _ (by simp), lk_Address_name, q⟩
theorem wr_Address_name (T : Txt K mg A) {H : Hp} {p dx : Addr} {v0 v1 v2 v3 v4 y : V} {D : Hp → Prop} (h : H p = some (.ins A.Address dx (fs_Address v0 v1 v2 v3 v4))) (q : D (upd H p (.ins A.Address dx (fs_Address v0 y v2 v3 v4)))) :
    ∃ a C dx fs, V.ref p = .ref a ∧ H a = some (.ins C dx fs) ∧ Cls K C ∧ NoAttr K C "name" ∧ fs.length < 1000 ∧ D (upd H a (.ins C dx (putF "name" y fs))) :=
  ⟨p, _, dx, _, rfl, h, T.c_Address.cl, T.c_Address.no _ (by simp), (by show 5 < 1000; decide), (by rw [pf_Address_name]; exact q)⟩
theorem in_Address_name (T : Txt K mg A) {H : Hp} {p dx : Addr} {v0 v1 : V} {D : Hp → Prop} (h : H p = some (.ins A.Address dx [(("nots" : Str), v0)])) (q : D (upd H p (.ins A.Address dx ([(("nots" : Str), v0), (("name" : Str), v1)])))) :
    ∃ a C dx fs, V.ref p = .ref a ∧ H a = some (.ins C dx fs) ∧ Cls K C ∧ NoAttr K C "name" ∧ fs.length < 1000 ∧ D (upd H a (.ins C dx (putF "name" v1 fs))) :=
  ⟨p, _, dx, _, rfl, h, T.c_Address.cl, T.c_Address.no _ (by simp), (by show 1 < 1000; decide), (by rw [show putF "name" v1 [(("nots" : Str), v0)] = [(("nots" : Str), v0), (("name" : Str), v1)] from (pfn nq_name_nots rfl)]; exact q)⟩
theorem lk_Address_first {v0 v1 v2 v3 v4 : V} : (fs_Address v0 v1 v2 v3 v4).lookup ("first" : Str) = some v2 := (lkn nq_first_nots).trans ((lkn nq_first_name).trans (lke))
theorem pf_Address_first {v0 v1 v2 v3 v4 y : V} : putF "first" y (fs_Address v0 v1 v2 v3 v4) = fs_Address v0 v1 y v3 v4 := (pfn nq_first_nots (pfn nq_first_name pfe))
theorem rd_Address_first (T : Txt K mg A) {H : Hp} {p dx : Addr} {v0 v1 v2 v3 v4 : V} {Q : VK} (h : H p = some (.ins A.Address dx (fs_Address v0 v1 v2 v3 v4))) (q : Q v2 H) :
    ∃ a C dx fs v, V.ref p = .ref a ∧ H a = some (.ins C dx fs) ∧ Cls K C ∧ NoAttr K C "first" ∧ fs.lookup ("first" : Str) = some v ∧ Q v H :=
  ⟨p, _, dx, _, _, rfl, h, T.c_Address.cl, T.c_Address.no _ (by simp), lk_Address_first, q⟩
theorem wr_Address_first (T : Txt K mg A) {H : Hp} {p dx : Addr} {v0 v1 v2 v3 v4 y : V} {D : Hp → Prop} (h : H p = some (.ins A.Address dx (fs_Address v0 v1 v2 v3 v4))) (q : D (upd H p (.ins A.Address dx (fs_Address v0 v1 y v3 v4)))) :
    ∃ a C dx fs, V.ref p = .ref a ∧ H a = some (.ins C dx fs) ∧ Cls K C ∧ NoAttr K C "first" ∧ fs.length < 1000 ∧ D (upd H a (.ins C dx (putF "first" y fs))) :=
  ⟨p, _, dx, _, rfl, h, T.c_Address.cl, T.c_Address.no _ (by simp), (by show 5 < 1000; decide), (by rw [pf_Address_first]; exact q)⟩
theorem in_Address_first (T : Txt K mg A) {H : Hp} {p dx : Addr} {v0 v1 v2 : V} {D : Hp → Prop} (h : H p = some (.ins A.Address dx [(("nots" : Str), v0), (("name" : Str), v1)])) (q : D (upd H p (.ins A.Address dx ([(("nots" : Str), v0), (("name" : Str), v1), (("first" : Str), v2)])))) :
    ∃ a C dx fs, V.ref p = .ref a ∧ H a = some (.ins C dx fs) ∧ Cls K C ∧ NoAttr K C "first" ∧ fs.length < 1000 ∧ D (upd H a (.ins C dx (putF "first" v2 fs))) :=
  ⟨p, _, dx, _, rfl, h, T.c_Address.cl, T.c_Address.no _ (by simp), (by show 2 < 1000; decide), (by rw [show putF "first" v2 [(("nots" : Str), v0), (("name" : Str), v1)] = [(("nots" : Str), v0), (("name" : Str), v1), (("first" : Str), v2)] from (pfn nq_first_nots (pfn nq_first_name rfl))]; exact q)⟩
theorem lk_Address_final {v0 v1 v2 v3 v4 : V} : (fs_Address v0 v1 v2 v3 v4).lookup ("final" : Str) = some v3 := (lkn nq_final_nots).trans ((lkn nq_final_name).trans ((lkn nq_final_first).trans (lke)))
theorem pf_Address_final {v0 v1 v2 v3 v4 y : V} : putF "final" y (fs_Address v0 v1 v2 v3 v4) = fs_Address v0 v1 v2 y v4 := (pfn nq_final_nots (pfn nq_final_name (pfn nq_final_first pfe)))
theorem rd_Address_final (T : Txt K mg A) {H : Hp} {p dx : Addr} {v0 v1 v2 v3 v4 : V} {Q : VK} (h : H p = some (.ins A.Address dx (fs_Address v0 v1 v2 v3 v4))) (q : Q v3 H) :
    ∃ a C dx fs v, V.ref p = .ref a ∧ H a = some (.ins C dx fs) ∧ Cls K C ∧ NoAttr K C "final" ∧ fs.lookup ("final" : Str) = some v ∧ Q v H :=
  ⟨p, _, dx, _, _, rfl, h, T.c_Address.cl, T.c_Address.no _ (by simp), lk_Address_final, q⟩
theorem wr_Address_final (T : Txt K mg A) {H : Hp} {p dx : Addr} {v0 v1 v2 v3 v4 y : V} {D : Hp → Prop} (h : H p = some (.ins A.Address dx (fs_Address v0 v1 v2 v3 v4))) (q : D (upd H p (.ins A.Address dx (fs_Address v0 v1 v2 y v4)))) :
    ∃ a C dx fs, V.ref p = .ref a ∧ H a = some (.ins C dx fs) ∧ Cls K C ∧ NoAttr K C "final" ∧ fs.length < 1000 ∧ D (upd H a (.ins C dx (putF "final" y fs))) :=
  ⟨p, _, dx, _, rfl, h, T.c_Address.cl, T.c_Address.no _ (by simp), (by show 5 < 1000; decide), (by rw [pf_Address_final]; exact q)⟩
theorem in_Address_final (T : Txt K mg A) {H : Hp} {p dx : Addr} {v0 v1 v2 v3 : V} {D : Hp → Prop} (h : H p = some (.ins A.Address dx [(("nots" : Str), v0), (("name" : Str), v1), (("first" : Str), v2)])) (q : D (upd H p (.ins A.Address dx ([(("nots" : Str), v0), (("name" : Str), v1), (("first" : Str), v2), (("final" : Str), v3)])))) :
    ∃ a C dx fs, V.ref p = .ref a ∧ H a = some (.ins C dx fs) ∧ Cls K C ∧ NoAttr K C "final" ∧ fs.length < 1000 ∧ D (upd H a (.ins C dx (putF "final" v3 fs))) :=
  ⟨p, _, dx, _, rfl, h, T.c_Address.cl, T.c_Address.no _ (by simp), (by show 3 < 1000; decide), (by rw [show putF "final" v3 [(("nots" : Str), v0), (("name" : Str), v1), (("first" : Str), v2)] = [(("nots" : Str), v0), (("name" : Str), v1), (("first" : Str), v2), (("final" : Str), v3)] from (pfn nq_final_nots (pfn nq_final_name (pfn nq_final_first rfl)))]; exact q)⟩
theorem lk_Address_letters {v0 v1 v2 v3 v4 : V} : (fs_Address v0 v1 v2 v3 v4).lookup ("letters" : Str) = some v4 := (lkn nq_letters_nots).trans ((lkn nq_letters_name).trans ((lkn nq_letters_first).trans ((lkn nq_letters_final).trans (lke))))
theorem pf_Address_letters {v0 v1 v2 v3 v4 y : V} : putF "letters" y (fs_Address v0 v1 v2 v3 v4) = fs_Address v0 v1 v2 v3 y := (pfn nq_letters_nots (pfn nq_letters_name (pfn nq_letters_first (pfn nq_letters_final pfe))))
theorem rd_Address_letters (T : Txt K mg A) {H : Hp} {p dx : Addr} {v0 v1 v2 v3 v4 : V} {Q : VK} (h : H p = some (.ins A.Address dx (fs_Address v0 v1 v2 v3 v4))) (q : Q v4 H) :
    ∃ a C dx fs v, V.ref p = .ref a ∧ H a = some (.ins C dx fs) ∧ Cls K C ∧ NoAttr K C "letters" ∧ fs.lookup ("letters" : Str) = some v ∧ Q v H :=
  ⟨p, _, dx, _, _, rfl, h, T.c_Address.cl, T.c_Address.no _ (by simp), lk_Address_letters, q⟩
theorem wr_Address_letters (T : Txt K mg A) {H : Hp} {p dx : Addr} {v0 v1 v2 v3 v4 y : V} {D : Hp → Prop} (h : H p = some (.ins A.Address dx (fs_Address v0 v1 v2 v3 v4))) (q : D (upd H p (.ins A.Address dx (fs_Address v0 v1 v2 v3 y)))) :
    ∃ a C dx fs, V.ref p = .ref a ∧ H a = some (.ins C dx fs) ∧ Cls K C ∧ NoAttr K C "letters" ∧ fs.length < 1000 ∧ D (upd H a (.ins C dx (putF "letters" y fs))) :=
  ⟨p, _, dx, _, rfl, h, T.c_Address.cl, T.c_Address.no _ (by simp), (by show 5 < 1000; decide), (by rw [pf_Address_letters]; exact q)⟩
theorem in_Address_letters (T : Txt K mg A) {H : Hp} {p dx : Addr} {v0 v1 v2 v3 v4 : V} {D : Hp → Prop} (h : H p = some (.ins A.Address dx [(("nots" : Str), v0), (("name" : Str), v1), (("first" : Str), v2), (("final" : Str), v3)])) (q : D (upd H p (.ins A.Address dx (fs_Address v0 v1 v2 v3 v4)))) :
    ∃ a C dx fs, V.ref p = .ref a ∧ H a = some (.ins C dx fs) ∧ Cls K C ∧ NoAttr K C "letters" ∧ fs.length < 1000 ∧ D (upd H a (.ins C dx (putF "letters" v4 fs))) :=
  ⟨p, _, dx, _, rfl, h, T.c_Address.cl, T.c_Address.no _ (by simp), (by show 4 < 1000; decide), (by rw [show putF "letters" v4 [(("nots" : Str), v0), (("name" : Str), v1), (("first" : Str), v2), (("final" : Str), v3)] = fs_Address v0 v1 v2 v3 v4 from (pfn nq_letters_nots (pfn nq_letters_name (pfn nq_letters_first (pfn nq_letters_final rfl))))]; exact q)⟩
def fs_Deed (v0 v1 v2 v3 : V) : List (Str × V) := [("name", v0), ("letters", v1), ("other", v2), ("number", v3)]
theorem lk_Deed_name {v0 v1 v2 v3 : V} : (fs_Deed v0 v1 v2 v3).lookup ("name" : Str) = some v0 := lke
theorem pf_Deed_name {v0 v1 v2 v3 y : V} : putF "name" y (fs_Deed v0 v1 v2 v3) = fs_Deed y v1 v2 v3 := pfe
theorem rd_Deed_name (T : Txt K mg A) {H : Hp} {p dx : Addr} {v0 v1 v2 v3 : V} {Q : VK} (h : H p = some (.ins A.Deed dx (fs_Deed v0 v1 v2 v3))) (q : Q v0 H) :
    ∃ a C dx fs v, V.ref p = .ref a ∧ H a = some (.ins C dx fs) ∧ Cls K C ∧ NoAttr K C "name" ∧ fs.lookup ("name" : Str) = some v ∧ Q v H :=
  ⟨p, _, dx, _, _, rfl, h, T.c_Deed.cl, T.c_Deed.no _ (by simp), lk_Deed_name, q⟩
theorem wr_Deed_name (T : Txt K mg A) {H : Hp} {p dx : Addr} {v0 v1 v2 v3 y : V} {D : Hp → Prop} (h : H p = some (.ins A.Deed dx (fs_Deed v0 v1 v2 v3))) (q : D (upd H p (.ins A.Deed dx (fs_Deed y v1 v2 v3)))) :
    ∃ a C dx fs, V.ref p = .ref a ∧ H a = some (.ins C dx fs) ∧ Cls K C ∧ NoAttr K C "name" ∧ fs.length < 1000 ∧ D (upd H a (.ins C dx (putF "name" y fs))) :=
  ⟨p, _, dx, _, rfl, h, T.c_Deed.cl, T.c_Deed.no _ (by simp), (by show 4 < 1000; decide), (by rw [pf_Deed_name]; exact q)⟩
theorem in_Deed_name (T : Txt K mg A) {H : Hp} {p dx : Addr} {v0 : V} {D : Hp → Prop} (h : H p = some (.ins A.Deed dx [])) (q : D (upd H p (.ins A.Deed dx ([(("name" : Str), v0)])))) :
    ∃ a C dx fs, V.ref p = .ref a ∧ H a = some (.ins C dx fs) ∧ Cls K C ∧ NoAttr K C "name" ∧ fs.length < 1000 ∧ D (upd H a (.ins C dx (putF "name" v0 fs))) :=
  ⟨p, _, dx, _, rfl, h, T.c_Deed.cl, T.c_Deed.no _ (by simp), (by show 0 < 1000; decide), (by rw [show putF "name" v0 [] = [(("name" : Str), v0)] from rfl]; exact q)⟩
theorem lk_Deed_letters {v0 v1 v2 v3 : V} : (fs_Deed v0 v1 v2 v3).lookup ("letters" : Str) = some v1 := (lkn nq_letters_name).trans (lke)
theorem pf_Deed_letters {v0 v1 v2 v3 y : V} : putF "letters" y (fs_Deed v0 v1 v2 v3) = fs_Deed v0 y v2 v3 := (pfn nq_letters_name pfe)
theorem rd_Deed_letters (T : Txt K mg A) {H : Hp} {p dx : Addr} {v0 v1 v2 v3 : V} {Q : VK} (h : H p = some (.ins A.Deed dx (fs_Deed v0 v1 v2 v3))) (q : Q v1 H) :
    ∃ a C dx fs v, V.ref p = .ref a ∧ H a = some (.ins C dx fs) ∧ Cls K C ∧ NoAttr K C "letters" ∧ fs.lookup ("letters" : Str) = some v ∧ Q v H :=
  ⟨p, _, dx, _, _, rfl, h, T.c_Deed.cl, T.c_Deed.no _ (by simp), lk_Deed_letters, q⟩
theorem wr_Deed_letters (T : Txt K mg A) {H : Hp} {p dx : Addr} {v0 v1 v2 v3 y : V} {D : Hp → Prop} (h : H p = some (.ins A.Deed dx (fs_Deed v0 v1 v2 v3))) (q : D (upd H p (.ins A.Deed dx (fs_Deed v0 y v2 v3)))) :
    ∃ a C dx fs, V.ref p = .ref a ∧ H a = some (.ins C dx fs) ∧ Cls K C ∧ NoAttr K C "letters" ∧ fs.length < 1000 ∧ D (upd H a (.ins C dx (putF "letters" y fs))) :=
  ⟨p, _, dx, _, rfl, h, T.c_Deed.cl, T.c_Deed.no _ (by simp), (by show 4 < 1000; decide), (by rw [pf_Deed_letters]; exact q)⟩
theorem in_Deed_letters (T : Txt K mg A) {H : Hp} {p dx : Addr} {v0 v1 : V} {D : Hp → Prop} (h : H p = some (.ins A.Deed dx [(("name" : Str), v0)])) (q : D (upd H p (.ins A.Deed dx ([(("name" : Str), v0), (("letters" : Str), v1)])))) :
    ∃ a C dx fs, V.ref p = .ref a ∧ H a = some (.ins C dx fs) ∧ Cls K C ∧ NoAttr K C "letters" ∧ fs.length < 1000 ∧ D (upd H a (.ins C dx (putF "letters" v1 fs))) :=
  ⟨p, _, dx, _, rfl, h, T.c_Deed.cl, T.c_Deed.no _ (by simp), (by show 1 < 1000; decide), (by rw [show putF "letters" v1 [(("name" : Str), v0)] = [(("name" : Str), v0), (("letters" : Str), v1)] from (pfn nq_letters_name rfl)]; exact q)⟩
theorem lk_Deed_other {v0 v1 v2 v3 : V} : (fs_Deed v0 v1 v2 v3).lookup ("other" : Str) = some v2 := (lkn nq_other_name).trans ((lkn nq_other_letters).trans (lke))
theorem pf_Deed_other {v0 v1 v2 v3 y : V} : putF "other" y (fs_Deed v0 v1 v2 v3) = fs_Deed v0 v1 y v3 := (pfn nq_other_name (pfn nq_other_letters pfe))
theorem rd_Deed_other (T : Txt K mg A) {H : Hp} {p dx : Addr} {v0 v1 v2 v3 : V} {Q : VK} (h : H p = some (.ins A.Deed dx (fs_Deed v0 v1 v2 v3))) (q : Q v2 H) :
    ∃ a C dx fs v, V.ref p = .ref a ∧ H a = some (.ins C dx fs) ∧ Cls K C ∧ NoAttr K C "other" ∧ fs.lookup ("other" : Str) = some v ∧ Q v H :=
  ⟨p, _, dx, _, _, rfl, h, T.c_Deed.cl, T.c_Deed.no _ (by simp), lk_Deed_other, q⟩
theorem wr_Deed_other (T : Txt K mg A) {H : Hp} {p dx : Addr} {v0 v1 v2 v3 y : V} {D : Hp → Prop} (h : H p = some (.ins A.Deed dx (fs_Deed v0 v1 v2 v3))) (q : D (upd H p (.ins A.Deed dx (fs_Deed v0 v1 y v3)))) :
    ∃ a C dx fs, V.ref p = .ref a ∧ H a = some (.ins C dx fs) ∧ Cls K C ∧ NoAttr K C "other" ∧ fs.length < 1000 ∧ D (upd H a (.ins C dx (putF "other" y fs))) :=
  ⟨p, _, dx, _, rfl, h, T.c_Deed.cl, T.c_Deed.no _ (by simp), (by show 4 < 1000; decide), (by rw [pf_Deed_other]; exact q)⟩
theorem in_Deed_other (T : Txt K mg A) {H : Hp} {p dx : Addr} {v0 v1 v2 : V} {D : Hp → Prop} (h : H p = some (.ins A.Deed dx [(("name" : Str), v0), (("letters" : Str), v1)])) (q : D (upd H p (.ins A.Deed dx ([(("name" : Str), v0), (("letters" : Str), v1), (("other" : Str), v2)])))) :
    ∃ a C dx fs, V.ref p = .ref a ∧ H a = some (.ins C dx fs) ∧ Cls K C ∧ NoAttr K C "other" ∧ fs.length < 1000 ∧ D (upd H a (.ins C dx (putF "other" v2 fs))) :=
  ⟨p, _, dx, _, rfl, h, T.c_Deed.cl, T.c_Deed.no _ (by simp), (by show 2 < 1000; decide), (by rw [show putF "other" v2 [(("name" : Str), v0), (("letters" : Str), v1)] = [(("name" : Str), v0), (("letters" : Str), v1), (("other" : Str), v2)] from (pfn nq_other_name (pfn nq_other_letters rfl))]; exact q)⟩
theorem lk_Deed_number {v0 v1 v2 v3 : V} : (fs_Deed v0 v1 v2 v3).lookup ("number" : Str) = some v3 := (lkn nq_number_name).trans ((lkn nq_number_letters).trans ((lkn nq_number_other).trans (lke)))
theorem pf_Deed_number {v0 v1 v2 v3 y : V} : putF "number" y (fs_Deed v0 v1 v2 v3) = fs_Deed v0 v1 v2 y := (pfn nq_number_name (pfn nq_number_letters (pfn nq_number_other pfe)))
theorem rd_Deed_number (T : Txt K mg A) {H : Hp} {p dx : Addr} {v0 v1 v2 v3 : V} {Q : VK} (h : H p = some (.ins A.Deed dx (fs_Deed v0 v1 v2 v3))) (q : Q v3 H) :
    ∃ a C dx fs v, V.ref p = .ref a ∧ H a = some (.ins C dx fs) ∧ Cls K C ∧ NoAttr K C "number" ∧ fs.lookup ("number" : Str) = some v ∧ Q v H :=
  ⟨p, _, dx, _, _, rfl, h, T.c_Deed.cl, T.c_Deed.no _ (by simp), lk_Deed_number, q⟩
theorem wr_Deed_number (T : Txt K mg A) {H : Hp} {p dx : Addr} {v0 v1 v2 v3 y : V} {D : Hp → Prop} (h : H p = some (.ins A.Deed dx (fs_Deed v0 v1 v2 v3))) (q : D (upd H p (.ins A.Deed dx (fs_Deed v0 v1 v2 y)))) :
    ∃ a C dx fs, V.ref p = .ref a ∧ H a = some (.ins C dx fs) ∧ Cls K C ∧ NoAttr K C "number" ∧ fs.length < 1000 ∧ D (upd H a (.ins C dx (putF "number" y fs))) :=
  ⟨p, _, dx, _, rfl, h, T.c_Deed.cl, T.c_Deed.no _ (by simp), (by show 4 < 1000; decide), (by rw [pf_Deed_number]; exact q)⟩
theorem in_Deed_number (T : Txt K mg A) {H : Hp} {p dx : Addr} {v0 v1 v2 v3 : V} {D : Hp → Prop} (h : H p = some (.ins A.Deed dx [(("name" : Str), v0), (("letters" : Str), v1), (("other" : Str), v2)])) (q : D (upd H p (.ins A.Deed dx (fs_Deed v0 v1 v2 v3)))) :
    ∃ a C dx fs, V.ref p = .ref a ∧ H a = some (.ins C dx fs) ∧ Cls K C ∧ NoAttr K C "number" ∧ fs.length < 1000 ∧ D (upd H a (.ins C dx (putF "number" v3 fs))) :=
  ⟨p, _, dx, _, rfl, h, T.c_Deed.cl, T.c_Deed.no _ (by simp), (by show 3 < 1000; decide), (by rw [show putF "number" v3 [(("name" : Str), v0), (("letters" : Str), v1), (("other" : Str), v2)] = fs_Deed v0 v1 v2 v3 from (pfn nq_number_name (pfn nq_number_letters (pfn nq_number_other rfl)))]; exact q)⟩
def fs_Command (v0 v1 : V) : List (Str × V) := [("address", v0), ("deed", v1)]
theorem lk_Command_address {v0 v1 : V} : (fs_Command v0 v1).lookup ("address" : Str) = some v0 := lke
theorem pf_Command_address {v0 v1 y : V} : putF "address" y (fs_Command v0 v1) = fs_Command y v1 := pfe
theorem rd_Command_address (T : Txt K mg A) {H : Hp} {p dx : Addr} {v0 v1 : V} {Q : VK} (h : H p = some (.ins A.Command dx (fs_Command v0 v1))) (q : Q v0 H) :
    ∃ a C dx fs v, V.ref p = .ref a ∧ H a = some (.ins C dx fs) ∧ Cls K C ∧ NoAttr K C "address" ∧ fs.lookup ("address" : Str) = some v ∧ Q v H :=
  ⟨p, _, dx, _, _, rfl, h, T.c_Command.cl, T.c_Command.no _ (by simp), lk_Command_address, q⟩
theorem wr_Command_address (T : Txt K mg A) {H : Hp} {p dx : Addr} {v0 v1 y : V} {D : Hp → Prop} (h : H p = some (.ins A.Command dx (fs_Command v0 v1))) (q : D (upd H p (.ins A.Command dx (fs_Command y v1)))) :
    ∃ a C dx fs, V.ref p = .ref a ∧ H a = some (.ins C dx fs) ∧ Cls K C ∧ NoAttr K C "address" ∧ fs.length < 1000 ∧ D (upd H a (.ins C dx (putF "address" y fs))) :=
  ⟨p, _, dx, _, rfl, h, T.c_Command.cl, T.c_Command.no _ (by simp), (by show 2 < 1000; decide), (by rw [pf_Command_address]; exact q)⟩
theorem in_Command_address (T : Txt K mg A) {H : Hp} {p dx : Addr} {v0 : V} {D : Hp → Prop} (h : H p = some (.ins A.Command dx [])) (q : D (upd H p (.ins A.Command dx ([(("address" : Str), v0)])))) :
    ∃ a C dx fs, V.ref p = .ref a ∧ H a = some (.ins C dx fs) ∧ Cls K C ∧ NoAttr K C "address" ∧ fs.length < 1000 ∧ D (upd H a (.ins C dx (putF "address" v0 fs))) :=
  ⟨p, _, dx, _, rfl, h, T.c_Command.cl, T.c_Command.no _ (by simp), (by show 0 < 1000; decide), (by rw [show putF "address" v0 [] = [(("address" : Str), v0)] from rfl]; exact q)⟩
theorem lk_Command_deed {v0 v1 : V} : (fs_Command v0 v1).lookup ("deed" : Str) = some v1 := (lkn nq_deed_address).trans (lke)
theorem pf_Command_deed {v0 v1 y : V} : putF "deed" y (fs_Command v0 v1) = fs_Command v0 y := (pfn nq_deed_address pfe)
theorem rd_Command_deed (T : Txt K mg A) {H : Hp} {p dx : Addr} {v0 v1 : V} {Q : VK} (h : H p = some (.ins A.Command dx (fs_Command v0 v1))) (q : Q v1 H) :
    ∃ a C dx fs v, V.ref p = .ref a ∧ H a = some (.ins C dx fs) ∧ Cls K C ∧ NoAttr K C "deed" ∧ fs.lookup ("deed" : Str) = some v ∧ Q v H :=
  ⟨p, _, dx, _, _, rfl, h, T.c_Command.cl, T.c_Command.no _ (by simp), lk_Command_deed, q⟩
theorem wr_Command_deed (T : Txt K mg A) {H : Hp} {p dx : Addr} {v0 v1 y : V} {D : Hp → Prop} (h : H p = some (.ins A.Command dx (fs_Command v0 v1))) (q : D (upd H p (.ins A.Command dx (fs_Command v0 y)))) :
    ∃ a C dx fs, V.ref p = .ref a ∧ H a = some (.ins C dx fs) ∧ Cls K C ∧ NoAttr K C "deed" ∧ fs.length < 1000 ∧ D (upd H a (.ins C dx (putF "deed" y fs))) :=
  ⟨p, _, dx, _, rfl, h, T.c_Command.cl, T.c_Command.no _ (by simp), (by show 2 < 1000; decide), (by rw [pf_Command_deed]; exact q)⟩
theorem in_Command_deed (T : Txt K mg A) {H : Hp} {p dx : Addr} {v0 v1 : V} {D : Hp → Prop} (h : H p = some (.ins A.Command dx [(("address" : Str), v0)])) (q : D (upd H p (.ins A.Command dx (fs_Command v0 v1)))) :
    ∃ a C dx fs, V.ref p = .ref a ∧ H a = some (.ins C dx fs) ∧ Cls K C ∧ NoAttr K C "deed" ∧ fs.length < 1000 ∧ D (upd H a (.ins C dx (putF "deed" v1 fs))) :=
  ⟨p, _, dx, _, rfl, h, T.c_Command.cl, T.c_Command.no _ (by simp), (by show 1 < 1000; decide), (by rw [show putF "deed" v1 [(("address" : Str), v0)] = fs_Command v0 v1 from (pfn nq_deed_address rfl)]; exact q)⟩
def fs_Token (v0 v1 v2 v3 : V) : List (Str × V) := [("kind", v0), ("value", v1), ("place", v2), ("behind", v3)]
theorem lk_Token_kind {v0 v1 v2 v3 : V} : (fs_Token v0 v1 v2 v3).lookup ("kind" : Str) = some v0 := lke
theorem pf_Token_kind {v0 v1 v2 v3 y : V} : putF "kind" y (fs_Token v0 v1 v2 v3) = fs_Token y v1 v2 v3 := pfe
theorem rd_Token_kind (T : Txt K mg A) {H : Hp} {p dx : Addr} {v0 v1 v2 v3 : V} {Q : VK} (h : H p = some (.ins A.Token dx (fs_Token v0 v1 v2 v3))) (q : Q v0 H) :
    ∃ a C dx fs v, V.ref p = .ref a ∧ H a = some (.ins C dx fs) ∧ Cls K C ∧ NoAttr K C "kind" ∧ fs.lookup ("kind" : Str) = some v ∧ Q v H :=
  ⟨p, _, dx, _, _, rfl, h, T.c_Token.cl, T.c_Token.no _ (by simp), lk_Token_kind, q⟩
theorem wr_Token_kind (T : Txt K mg A) {H : Hp} {p dx : Addr} {v0 v1 v2 v3 y : V} {D : Hp → Prop} (h : H p = some (.ins A.Token dx (fs_Token v0 v1 v2 v3))) (q : D (upd H p (.ins A.Token dx (fs_Token y v1 v2 v3)))) :
    ∃ a C dx fs, V.ref p = .ref a ∧ H a = some (.ins C dx fs) ∧ Cls K C ∧ NoAttr K C "kind" ∧ fs.length < 1000 ∧ D (upd H a (.ins C dx (putF "kind" y fs))) :=
  ⟨p, _, dx, _, rfl, h, T.c_Token.cl, T.c_Token.no _ (by simp), (by show 4 < 1000; decide), (by rw [pf_Token_kind]; exact q)⟩
theorem in_Token_kind (T : Txt K mg A) {H : Hp} {p dx : Addr} {v0 : V} {D : Hp → Prop} (h : H p = some (.ins A.Token dx [])) (q : D (upd H p (.ins A.Token dx ([(("kind" : Str), v0)])))) :
    ∃ a C dx fs, V.ref p = .ref a ∧ H a = some (.ins C dx fs) ∧ Cls K C ∧ NoAttr K C "kind" ∧ fs.length < 1000 ∧ D (upd H a (.ins C dx (putF "kind" v0 fs))) :=
  ⟨p, _, dx, _, rfl, h, T.c_Token.cl, T.c_Token.no _ (by simp), (by show 0 < 1000; decide), (by rw [show putF "kind" v0 [] = [(("kind" : Str), v0)] from rfl]; exact q)⟩
theorem lk_Token_value {v0 v1 v2 v3 : V} : (fs_Token v0 v1 v2 v3).lookup ("value" : Str) = some v1 := (lkn nq_value_kind).trans (lke)
theorem pf_Token_value {v0 v1 v2 v3 y : V} : putF "value" y (fs_Token v0 v1 v2 v3) = fs_Token v0 y v2 v3 := (pfn nq_value_kind pfe)
theorem rd_Token_value (T : Txt K mg A) {H : Hp} {p dx : Addr} {v0 v1 v2 v3 : V} {Q : VK} (h : H p = some (.ins A.Token dx (fs_Token v0 v1 v2 v3))) (q : Q v1 H) :
    ∃ a C dx fs v, V.ref p = .ref a ∧ H a = some (.ins C dx fs) ∧ Cls K C ∧ NoAttr K C "value" ∧ fs.lookup ("value" : Str) = some v ∧ Q v H :=
  ⟨p, _, dx, _, _, rfl, h, T.c_Token.cl, T.c_Token.no _ (by simp), lk_Token_value, q⟩
theorem wr_Token_value (T : Txt K mg A) {H : Hp} {p dx : Addr} {v0 v1 v2 v3 y : V} {D : Hp → Prop} (h : H p = some (.ins A.Token dx (fs_Token v0 v1 v2 v3))) (q : D (upd H p (.ins A.Token dx (fs_Token v0 y v2 v3)))) :
    ∃ a C dx fs, V.ref p = .ref a ∧ H a = some (.ins C dx fs) ∧ Cls K C ∧ NoAttr K C "value" ∧ fs.length < 1000 ∧ D (upd H a (.ins C dx (putF "value" y fs))) :=
  ⟨p, _, dx, _, rfl, h, T.c_Token.cl, T.c_Token.no _ (by simp), (by show 4 < 1000; decide), (by rw [pf_Token_value]; exact q)⟩
theorem in_Token_value (T : Txt K mg A) {H : Hp} {p dx : Addr} {v0 v1 : V} {D : Hp → Prop} (h : H p = some (.ins A.Token dx [(("kind" : Str), v0)])) (q : D (upd H p (.ins A.Token dx ([(("kind" : Str), v0), (("value" : Str), v1)])))) :
    ∃ a C dx fs, V.ref p = .ref a ∧ H a = some (.ins C dx fs) ∧ Cls K C ∧ NoAttr K C "value" ∧ fs.length < 1000 ∧ D (upd H a (.ins C dx (putF "value" v1 fs))) :=
  ⟨p, _, dx, _, rfl, h, T.c_Token.cl, T.c_Token.no _ (by simp), (by show 1 < 1000; decide), (by rw [show putF "value" v1 [(("kind" : Str), v0)] = [(("kind" : Str), v0), (("value" : Str), v1)] from (pfn nq_value_kind rfl)]; exact q)⟩
theorem lk_Token_place {v0 v1 v2 v3 : V} : (fs_Token v0 v1 v2 v3).lookup ("place" : Str) = some v2 := (lkn nq_place_kind).trans ((lkn nq_place_value).trans (lke))
theorem pf_Token_place {v0 v1 v2 v3 y : V} : putF "place" y (fs_Token v0 v1 v2 v3) = fs_Token v0 v1 y v3 := (pfn nq_place_kind (pfn nq_place_value pfe))
theorem rd_Token_place (T : Txt K mg A) {H : Hp} {p dx : Addr} {v0 v1 v2 v3 : V} {Q : VK} (h : H p = some (.ins A.Token dx (fs_Token v0 v1 v2 v3))) (q : Q v2 H) :
    ∃ a C dx fs v, V.ref p = .ref a ∧ H a = some (.ins C dx fs) ∧ Cls K C ∧ NoAttr K C "place" ∧ fs.lookup ("place" : Str) = some v ∧ Q v H :=
  ⟨p, _, dx, _, _, rfl, h, T.c_Token.cl, T.c_Token.no _ (by simp), lk_Token_place, q⟩
theorem wr_Token_place (T : Txt K mg A) {H : Hp} {p dx : Addr} {v0 v1 v2 v3 y : V} {D : Hp → Prop} (h : H p = some (.ins A.Token dx (fs_Token v0 v1 v2 v3))) (q : D (upd H p (.ins A.Token dx (fs_Token v0 v1 y v3)))) :
    ∃ a C dx fs, V.ref p = .ref a ∧ H a = some (.ins C dx fs) ∧ Cls K C ∧ NoAttr K C "place" ∧ fs.length < 1000 ∧ D (upd H a (.ins C dx (putF "place" y fs))) :=
  ⟨p, _, dx, _, rfl, h, T.c_Token.cl, T.c_Token.no _ (by simp), (by show 4 < 1000; decide), (by rw [pf_Token_place]; exact q)⟩
theorem in_Token_place (T : Txt K mg A) {H : Hp} {p dx : Addr} {v0 v1 v2 : V} {D : Hp → Prop} (h : H p = some (.ins A.Token dx [(("kind" : Str), v0), (("value" : Str), v1)])) (q : D (upd H p (.ins A.Token dx ([(("kind" : Str), v0), (("value" : Str), v1), (("place" : Str), v2)])))) :
    ∃ a C dx fs, V.ref p = .ref a ∧ H a = some (.ins C dx fs) ∧ Cls K C ∧ NoAttr K C "place" ∧ fs.length < 1000 ∧ D (upd H a (.ins C dx (putF "place" v2 fs))) :=
  ⟨p, _, dx, _, rfl, h, T.c_Token.cl, T.c_Token.no _ (by simp), (by show 2 < 1000; decide), (by rw [show putF "place" v2 [(("kind" : Str), v0), (("value" : Str), v1)] = [(("kind" : Str), v0), (("value" : Str), v1), (("place" : Str), v2)] from (pfn nq_place_kind (pfn nq_place_value rfl))]; exact q)⟩
theorem lk_Token_behind {v0 v1 v2 v3 : V} : (fs_Token v0 v1 v2 v3).lookup ("behind" : Str) = some v3 := (lkn nq_behind_kind).trans ((lkn nq_behind_value).trans ((lkn nq_behind_place).trans (lke)))
theorem pf_Token_behind {v0 v1 v2 v3 y : V} : putF "behind" y (fs_Token v0 v1 v2 v3) = fs_Token v0 v1 v2 y := (pfn nq_behind_kind (pfn nq_behind_value (pfn nq_behind_place pfe)))
theorem rd_Token_behind (T : Txt K mg A) {H : Hp} {p dx : Addr} {v0 v1 v2 v3 : V} {Q : VK} (h : H p = some (.ins A.Token dx (fs_Token v0 v1 v2 v3))) (q : Q v3 H) :
    ∃ a C dx fs v, V.ref p = .ref a ∧ H a = some (.ins C dx fs) ∧ Cls K C ∧ NoAttr K C "behind" ∧ fs.lookup ("behind" : Str) = some v ∧ Q v H :=
  ⟨p, _, dx, _, _, rfl, h, T.c_Token.cl, T.c_Token.no _ (by simp), lk_Token_behind, q⟩
theorem wr_Token_behind (T : Txt K mg A) {H : Hp} {p dx : Addr} {v0 v1 v2 v3 y : V} {D : Hp → Prop} (h : H p = some (.ins A.Token dx (fs_Token v0 v1 v2 v3))) (q : D (upd H p (.ins A.Token dx (fs_Token v0 v1 v2 y)))) :
    ∃ a C dx fs, V.ref p = .ref a ∧ H a = some (.ins C dx fs) ∧ Cls K C ∧ NoAttr K C "behind" ∧ fs.length < 1000 ∧ D (upd H a (.ins C dx (putF "behind" y fs))) :=
  ⟨p, _, dx, _, rfl, h, T.c_Token.cl, T.c_Token.no _ (by simp), (by show 4 < 1000; decide), (by rw [pf_Token_behind]; exact q)⟩
theorem in_Token_behind (T : Txt K mg A) {H : Hp} {p dx : Addr} {v0 v1 v2 v3 : V} {D : Hp → Prop} (h : H p = some (.ins A.Token dx [(("kind" : Str), v0), (("value" : Str), v1), (("place" : Str), v2)])) (q : D (upd H p (.ins A.Token dx (fs_Token v0 v1 v2 v3)))) :
    ∃ a C dx fs, V.ref p = .ref a ∧ H a = some (.ins C dx fs) ∧ Cls K C ∧ NoAttr K C "behind" ∧ fs.length < 1000 ∧ D (upd H a (.ins C dx (putF "behind" v3 fs))) :=
  ⟨p, _, dx, _, rfl, h, T.c_Token.cl, T.c_Token.no _ (by simp), (by show 3 < 1000; decide), (by rw [show putF "behind" v3 [(("kind" : Str), v0), (("value" : Str), v1), (("place" : Str), v2)] = fs_Token v0 v1 v2 v3 from (pfn nq_behind_kind (pfn nq_behind_value (pfn nq_behind_place rfl)))]; exact q)⟩
def fs_LineRun (v0 v1 v2 v3 v4 v5 v6 : V) : List (Str × V) := [("line", v0), ("done", v1), ("ahead", v2), ("behind", v3), ("left_out", v4), ("deleted", v5), ("over", v6)]
theorem lk_LineRun_line {v0 v1 v2 v3 v4 v5 v6 : V} : (fs_LineRun v0 v1 v2 v3 v4 v5 v6).lookup ("line" : Str) = some v0 := lke
theorem pf_LineRun_line {v0 v1 v2 v3 v4 v5 v6 y : V} : putF "line" y (fs_LineRun v0 v1 v2 v3 v4 v5 v6) = fs_LineRun y v1 v2 v3 v4 v5 v6 := pfe
theorem rd_LineRun_line (T : Txt K mg A) {H : Hp} {p dx : Addr} {v0 v1 v2 v3 v4 v5 v6 : V} {Q : VK} (h : H p = some (.ins A.LineRun dx (fs_LineRun v0 v1 v2 v3 v4 v5 v6))) (q : Q v0 H) :
    ∃ a C dx fs v, V.ref p = .ref a ∧ H a = some (.ins C dx fs) ∧ Cls K C ∧ NoAttr K C "line" ∧ fs.lookup ("line" : Str) = some v ∧ Q v H :=
  ⟨p, _, dx, _, _, rfl, h, T.c_LineRun.cl, T.c_LineRun.no _ (by simp), lk_LineRun_line, q⟩
theorem wr_LineRun_line (T : Txt K mg A) {H : Hp} {p dx : Addr} {v0 v1 v2 v3 v4 v5 v6 y : V} {D : Hp → Prop} (h : H p = some (.ins A.LineRun dx (fs_LineRun v0 v1 v2 v3 v4 v5 v6))) (q : D (upd H p (.ins A.LineRun dx (fs_LineRun y v1 v2 v3 v4 v5 v6)))) :
    ∃ a C dx fs, V.ref p = .ref a ∧ H a = some (.ins C dx fs) ∧ Cls K C ∧ NoAttr K C "line" ∧ fs.length < 1000 ∧ D (upd H a (.ins C dx (putF "line" y fs))) :=
  ⟨p, _, dx, _, rfl, h, T.c_LineRun.cl, T.c_LineRun.no _ (by simp), (by show 7 < 1000; decide), (by rw [pf_LineRun_line]; exact q)⟩
theorem in_LineRun_line (T : Txt K mg A) {H : Hp} {p dx : Addr} {v0 : V} {D : Hp → Prop} (h : H p = some (.ins A.LineRun dx [])) (q : D (upd H p (.ins A.LineRun dx ([(("line" : Str), v0)])))) :
    ∃ a C dx fs, V.ref p = .ref a ∧ H a = some (.ins C dx fs) ∧ Cls K C ∧ NoAttr K C "line" ∧ fs.length < 1000 ∧ D (upd H a (.ins C dx (putF "line" v0 fs))) :=
  ⟨p, _, dx, _, rfl, h, T.c_LineRun.cl, T.c_LineRun.no _ (by simp), (by show 0 < 1000; decide), (by rw [show putF "line" v0 [] = [(("line" : Str), v0)] from rfl]; exact q)⟩
theorem lk_LineRun_done {v0 v1 v2 v3 v4 v5 v6 : V} : (fs_LineRun v0 v1 v2 v3 v4 v5 v6).lookup ("done" : Str) = some v1 := (lkn nq_done_line).trans (lke)
theorem pf_LineRun_done {v0 v1 v2 v3 v4 v5 v6 y : V} : putF "done" y (fs_LineRun v0 v1 v2 v3 v4 v5 v6) = fs_LineRun v0 y v2 v3 v4 v5 v6 := (pfn nq_done_line pfe)
theorem rd_LineRun_done (T : Txt K mg A) {H : Hp} {p dx : Addr} {v0 v1 v2 v3 v4 v5 v6 : V} {Q : VK} (h : H p = some (.ins A.LineRun dx (fs_LineRun v0 v1 v2 v3 v4 v5 v6))) (q : Q v1 H) :
    ∃ a C dx fs v, V.ref p = .ref a ∧ H a = some (.ins C dx fs) ∧ Cls K C ∧ NoAttr K C "done" ∧ fs.lookup ("done" : Str) = some v ∧ Q v H :=
  ⟨p, _, dx, _, _, rfl, h, T.c_LineRun.cl, T.c_LineRun.no _ (by simp), lk_LineRun_done, q⟩
theorem wr_LineRun_done (T : Txt K mg A) {H : Hp} {p dx : Addr} {v0 v1 v2 v3 v4 v5 v6 y : V} {D : Hp → Prop} (h : H p = some (.ins A.LineRun dx (fs_LineRun v0 v1 v2 v3 v4 v5 v6))) (q : D (upd H p (.ins A.LineRun dx (fs_LineRun v0 y v2 v3 v4 v5 v6)))) :
    ∃ a C dx fs, V.ref p = .ref a ∧ H a = some (.ins C dx fs) ∧ Cls K C ∧ NoAttr K C "done" ∧ fs.length < 1000 ∧ D (upd H a (.ins C dx (putF "done" y fs))) :=
  ⟨p, _, dx, _, rfl, h, T.c_LineRun.cl, T.c_LineRun.no _ (by simp), (by show 7 < 1000; decide), (by rw [pf_LineRun_done]; exact q)⟩
theorem in_LineRun_done (T : Txt K mg A) {H : Hp} {p dx : Addr} {v0 v1 : V} {D : Hp → Prop} (h : H p = some (.ins A.LineRun dx [(("line" : Str), v0)])) (q : D (upd H p (.ins A.LineRun dx ([(("line" : Str), v0), (("done" : Str), v1)])))) :
    ∃ a C dx fs, V.ref p = .ref a ∧ H a = some (.ins C dx fs) ∧ Cls K C ∧ NoAttr K C "done" ∧ fs.length < 1000 ∧ D (upd H a (.ins C dx (putF "done" v1 fs))) :=
  ⟨p, _, dx, _, rfl, h, T.c_LineRun.cl, T.c_LineRun.no _ (by simp), (by show 1 < 1000; decide), (by rw [show putF "done" v1 [(("line" : Str), v0)] = [(("line" : Str), v0), (("done" : Str), v1)] from (pfn nq_done_line rfl)]; exact q)⟩
theorem lk_LineRun_ahead {v0 v1 v2 v3 v4 v5 v6 : V} : (fs_LineRun v0 v1 v2 v3 v4 v5 v6).lookup ("ahead" : Str) = some v2 := (lkn nq_ahead_line).trans ((lkn nq_ahead_done).trans (lke))
theorem pf_LineRun_ahead {v0 v1 v2 v3 v4 v5 v6 y : V} : putF "ahead" y (fs_LineRun v0 v1 v2 v3 v4 v5 v6) = fs_LineRun v0 v1 y v3 v4 v5 v6 := (pfn nq_ahead_line (pfn nq_ahead_done pfe))
theorem rd_LineRun_ahead (T : Txt K mg A) {H : Hp} {p dx : Addr} {v0 v1 v2 v3 v4 v5 v6 : V} {Q : VK} (h : H p = some (.ins A.LineRun dx (fs_LineRun v0 v1 v2 v3 v4 v5 v6))) (q : Q v2 H) :
    ∃ a C dx fs v, V.ref p = .ref a ∧ H a = some (.ins C dx fs) ∧ Cls K C ∧ NoAttr K C "ahead" ∧ fs.lookup ("ahead" : Str) = some v ∧ Q v H :=
  ⟨p, _, dx, _, _, rfl, h, T.c_LineRun.cl, T.c_LineRun.no _ (by simp), lk_LineRun_ahead, q⟩
theorem wr_LineRun_ahead (T : Txt K mg A) {H : Hp} {p dx : Addr} {v0 v1 v2 v3 v4 v5 v6 y : V} {D : Hp → Prop} (h : H p = some (.ins A.LineRun dx (fs_LineRun v0 v1 v2 v3 v4 v5 v6))) (q : D (upd H p (.ins A.LineRun dx (fs_LineRun v0 v1 y v3 v4 v5 v6)))) :
    ∃ a C dx fs, V.ref p = .ref a ∧ H a = some (.ins C dx fs) ∧ Cls K C ∧ NoAttr K C "ahead" ∧ fs.length < 1000 ∧ D (upd H a (.ins C dx (putF "ahead" y fs))) :=
  ⟨p, _, dx, _, rfl, h, T.c_LineRun.cl, T.c_LineRun.no _ (by simp), (by show 7 < 1000; decide), (by rw [pf_LineRun_ahead]; exact q)⟩
theorem in_LineRun_ahead (T : Txt K mg A) {H : Hp} {p dx : Addr} {v0 v1 v2 : V} {D : Hp → Prop} (h : H p = some (.ins A.LineRun dx [(("line" : Str), v0), (("done" : Str), v1)])) (q : D (upd H p (.ins A.LineRun dx ([(("line" : Str), v0), (("done" : Str), v1), (("ahead" : Str), v2)])))) :
    ∃ a C dx fs, V.ref p = .ref a ∧ H a = some (.ins C dx fs) ∧ Cls K C ∧ NoAttr K C "ahead" ∧ fs.length < 1000 ∧ D (upd H a (.ins C dx (putF "ahead" v2 fs))) :=
  ⟨p, _, dx, _, rfl, h, T.c_LineRun.cl, T.c_LineRun.no _ (by simp), (by show 2 < 1000; decide), (by rw [show putF "ahead" v2 [(("line" : Str), v0), (("done" : Str), v1)] = [(("line" : Str), v0), (("done" : Str), v1), (("ahead" : Str), v2)] from (pfn nq_ahead_line (pfn nq_ahead_done rfl))]; exact q)⟩
theorem lk_LineRun_behind {v0 v1 v2 v3 v4 v5 v6 : V} : (fs_LineRun v0 v1 v2 v3 v4 v5 v6).lookup ("behind" : Str) = some v3 := (lkn nq_behind_line).trans ((lkn nq_behind_done).trans ((lkn nq_behind_ahead).trans (lke)))
theorem pf_LineRun_behind {v0 v1 v2 v3 v4 v5 v6 y : V} : putF "behind" y (fs_LineRun v0 v1 v2 v3 v4 v5 v6) = fs_LineRun v0 v1 v2 y v4 v5 v6 := (pfn nq_behind_line (pfn nq_behind_done (pfn nq_behind_ahead pfe)))
theorem rd_LineRun_behind (T : Txt K mg A) {H : Hp} {p dx : Addr} {v0 v1 v2 v3 v4 v5 v6 : V} {Q : VK} (h : H p = some (.ins A.LineRun dx (fs_LineRun v0 v1 v2 v3 v4 v5 v6))) (q : Q v3 H) :
    ∃ a C dx fs v, V.ref p = .ref a ∧ H a = some (.ins C dx fs) ∧ Cls K C ∧ NoAttr K C "behind" ∧ fs.lookup ("behind" : Str) = some v ∧ Q v H :=
  ⟨p, _, dx, _, _, rfl, h, T.c_LineRun.cl, T.c_LineRun.no _ (by simp), lk_LineRun_behind, q⟩
theorem wr_LineRun_behind (T : Txt K mg A) {H : Hp} {p dx : Addr} {v0 v1 v2 v3 v4 v5 v6 y : V} {D : Hp → Prop} (h : H p = some (.ins A.LineRun dx (fs_LineRun v0 v1 v2 v3 v4 v5 v6))) (q : D (upd H p (.ins A.LineRun dx (fs_LineRun v0 v1 v2 y v4 v5 v6)))) :
    ∃ a C dx fs, V.ref p = .ref a ∧ H a = some (.ins C dx fs) ∧ Cls K C ∧ NoAttr K C "behind" ∧ fs.length < 1000 ∧ D (upd H a (.ins C dx (putF "behind" y fs))) :=
  ⟨p, _, dx, _, rfl, h, T.c_LineRun.cl, T.c_LineRun.no _ (by simp), (by show 7 < 1000; decide), (by rw [pf_LineRun_behind]; exact q)⟩
theorem in_LineRun_behind (T : Txt K mg A) {H : Hp} {p dx : Addr} {v0 v1 v2 v3 : V} {D : Hp → Prop} (h : H p = some (.ins A.LineRun dx [(("line" : Str), v0), (("done" : Str), v1), (("ahead" : Str), v2)])) (q : D (upd H p (.ins A.LineRun dx ([(("line" : Str), v0), (("done" : Str), v1), (("ahead" : Str), v2), (("behind" : Str), v3)])))) :
    ∃ a C dx fs, V.ref p = .ref a ∧ H a = some (.ins C dx fs) ∧ Cls K C ∧ NoAttr K C "behind" ∧ fs.length < 1000 ∧ D (upd H a (.ins C dx (putF "behind" v3 fs))) :=
  ⟨p, _, dx, _, rfl, h, T.c_LineRun.cl, T.c_LineRun.no _ (by simp), (by show 3 < 1000; decide), (by rw [show putF "behind" v3 [(("line" : Str), v0), (("done" : Str), v1), (("ahead" : Str), v2)] = [(("line" : Str), v0), (("done" : Str), v1), (("ahead" : Str), v2), (("behind" : Str), v3)] from (pfn nq_behind_line (pfn nq_behind_done (pfn nq_behind_ahead rfl)))]; exact q)⟩
theorem lk_LineRun_left_out {v0 v1 v2 v3 v4 v5 v6 : V} : (fs_LineRun v0 v1 v2 v3 v4 v5 v6).lookup ("left_out" : Str) = some v4 := (lkn nq_left_out_line).trans ((lkn nq_left_out_done).trans ((lkn nq_left_out_ahead).trans ((lkn nq_left_out_behind).trans (lke))))
theorem pf_LineRun_left_out {v0 v1 v2 v3 v4 v5 v6 y : V} : putF "left_out" y (fs_LineRun v0 v1 v2 v3 v4 v5 v6) = fs_LineRun v0 v1 v2 v3 y v5 v6 := (pfn nq_left_out_line (pfn nq_left_out_done (pfn nq_left_out_ahead (pfn nq_left_out_behind pfe))))
theorem rd_LineRun_left_out (T : Txt K mg A) {H : Hp} {p dx : Addr} {v0 v1 v2 v3 v4 v5 v6 : V} {Q : VK} (h : H p = some (.ins A.LineRun dx (fs_LineRun v0 v1 v2 v3 v4 v5 v6))) (q : Q v4 H) :
    ∃ a C dx fs v, V.ref p = .ref a ∧ H a = some (.ins C dx fs) ∧ Cls K C ∧ NoAttr K C "left_out" ∧ fs.lookup ("left_out" : Str) = some v ∧ Q v H :=
  ⟨p, _, dx, _, _, rfl, h, T.c_LineRun.cl, T.c_LineRun.no _ (by simp), lk_LineRun_left_out, q⟩
theorem wr_LineRun_left_out (T : Txt K mg A) {H : Hp} {p dx : Addr} {v0 v1 v2 v3 v4 v5 v6 y : V} {D : Hp → Prop} (h : H p = some (.ins A.LineRun dx (fs_LineRun v0 v1 v2 v3 v4 v5 v6))) (q : D (upd H p (.ins A.LineRun dx (fs_LineRun v0 v1 v2 v3 y v5 v6)))) :
    ∃ a C dx fs, V.ref p = .ref a ∧ H a = some (.ins C dx fs) ∧ Cls K C ∧ NoAttr K C "left_out" ∧ fs.length < 1000 ∧ D (upd H a (.ins C dx (putF "left_out" y fs))) :=
  ⟨p, _, dx, _, rfl, h, T.c_LineRun.cl, T.c_LineRun.no _ (by simp), (by show 7 < 1000; decide), (by rw [pf_LineRun_left_out]; exact q)⟩
theorem in_LineRun_left_out (T : Txt K mg A) {H : Hp} {p dx : Addr} {v0 v1 v2 v3 v4 : V} {D : Hp → Prop} (h : H p = some (.ins A.LineRun dx [(("line" : Str), v0), (("done" : Str), v1), (("ahead" : Str), v2), (("behind" : Str), v3)])) (q : D (upd H p (.ins A.LineRun dx ([(("line" : Str), v0), (("done" : Str), v1), (("ahead" : Str), v2), (("behind" : Str), v3), (("left_out" : Str), v4)])))) :
    ∃ a C dx fs, V.ref p = .ref a ∧ H a = some (.ins C dx fs) ∧ Cls K C ∧ NoAttr K C "left_out" ∧ fs.length < 1000 ∧ D (upd H a (.ins C dx (putF "left_out" v4 fs))) :=
  ⟨p, _, dx, _, rfl, h, T.c_LineRun.cl, T.c_LineRun.no _ (by simp), (by show 4 < 1000; decide), (by rw [show putF "left_out" v4 [(("line" : Str), v0), (("done" : Str), v1), (("ahead" : Str), v2), (("behind" : Str), v3)] = [(("line" : Str), v0), (("done" : Str), v1), (("ahead" : Str), v2), (("behind" : Str), v3), (("left_out" : Str), v4)] from (pfn nq_left_out_line (pfn nq_left_out_done (pfn nq_left_out_ahead (pfn nq_left_out_behind rfl))))]; exact q)⟩
theorem lk_LineRun_deleted {v0 v1 v2 v3 v4 v5 v6 : V} : (fs_LineRun v0 v1 v2 v3 v4 v5 v6).lookup ("deleted" : Str) = some v5 := (lkn nq_deleted_line).trans ((lkn nq_deleted_done).trans ((lkn nq_deleted_ahead).trans ((lkn nq_deleted_behind).trans ((lkn nq_deleted_left_out).trans (lke)))))
theorem pf_LineRun_deleted {v0 v1 v2 v3 v4 v5 v6 y : V} : putF "deleted" y (fs_LineRun v0 v1 v2 v3 v4 v5 v6) = fs_LineRun v0 v1 v2 v3 v4 y v6 := (pfn nq_deleted_line (pfn nq_deleted_done (pfn nq_deleted_ahead (pfn nq_deleted_behind (pfn nq_deleted_left_out pfe)))))
theorem rd_LineRun_deleted (T : Txt K mg A) {H : Hp} {p dx : Addr} {v0 v1 v2 v3 v4 v5 v6 : V} {Q : VK} (h : H p = some (.ins A.LineRun dx (fs_LineRun v0 v1 v2 v3 v4 v5 v6))) (q : Q v5 H) :
    ∃ a C dx fs v, V.ref p = .ref a ∧ H a = some (.ins C dx fs) ∧ Cls K C ∧ NoAttr K C "deleted" ∧ fs.lookup ("deleted" : Str) = some v ∧ Q v H :=
  ⟨p, _, dx, _, _, rfl, h, T.c_LineRun.cl, T.c_LineRun.no _ (by simp), lk_LineRun_deleted, q⟩
theorem wr_LineRun_deleted (T : Txt K mg A) {H : Hp} {p dx : Addr} {v0 v1 v2 v3 v4 v5 v6 y : V} {D : Hp → Prop} (h : H p = some (.ins A.LineRun dx (fs_LineRun v0 v1 v2 v3 v4 v5 v6))) (q : D (upd H p (.ins A.LineRun dx (fs_LineRun v0 v1 v2 v3 v4 y v6)))) :
    ∃ a C dx fs, V.ref p = .ref a ∧ H a = some (.ins C dx fs) ∧ Cls K C ∧ NoAttr K C "deleted" ∧ fs.length < 1000 ∧ D (upd H a (.ins C dx (putF "deleted" y fs))) :=
  ⟨p, _, dx, _, rfl, h, T.c_LineRun.cl, T.c_LineRun.no _ (by simp), (by show 7 < 1000; decide), (by rw [pf_LineRun_deleted]; exact q)⟩
theorem in_LineRun_deleted (T : Txt K mg A) {H : Hp} {p dx : Addr} {v0 v1 v2 v3 v4 v5 : V} {D : Hp → Prop} (h : H p = some (.ins A.LineRun dx [(("line" : Str), v0), (("done" : Str), v1), (("ahead" : Str), v2), (("behind" : Str), v3), (("left_out" : Str), v4)])) (q : D (upd H p (.ins A.LineRun dx ([(("line" : Str), v0), (("done" : Str), v1), (("ahead" : Str), v2), (("behind" : Str), v3), (("left_out" : Str), v4), (("deleted" : Str), v5)])))) :
    ∃ a C dx fs, V.ref p = .ref a ∧ H a = some (.ins C dx fs) ∧ Cls K C ∧ NoAttr K C "deleted" ∧ fs.length < 1000 ∧ D (upd H a (.ins C dx (putF "deleted" v5 fs))) :=
  ⟨p, _, dx, _, rfl, h, T.c_LineRun.cl, T.c_LineRun.no _ (by simp), (by show 5 < 1000; decide), (by rw [show putF "deleted" v5 [(("line" : Str), v0), (("done" : Str), v1), (("ahead" : Str), v2), (("behind" : Str), v3), (("left_out" : Str), v4)] = [(("line" : Str), v0), (("done" : Str), v1), (("ahead" : Str), v2), (("behind" : Str), v3), (("left_out" : Str), v4), (("deleted" : Str), v5)] from (pfn nq_deleted_line (pfn nq_deleted_done (pfn nq_deleted_ahead (pfn nq_deleted_behind (pfn nq_deleted_left_out rfl)))))]; exact q)⟩
theorem lk_LineRun_over {v0 v1 v2 v3 v4 v5 v6 : V} : (fs_LineRun v0 v1 v2 v3 v4 v5 v6).lookup ("over" : Str) = some v6 := (lkn nq_over_line).trans ((lkn nq_over_done).trans ((lkn nq_over_ahead).trans ((lkn nq_over_behind).trans ((lkn nq_over_left_out).trans ((lkn nq_over_deleted).trans (lke))))))
theorem pf_LineRun_over {v0 v1 v2 v3 v4 v5 v6 y : V} : putF "over" y (fs_LineRun v0 v1 v2 v3 v4 v5 v6) = fs_LineRun v0 v1 v2 v3 v4 v5 y := (pfn nq_over_line (pfn nq_over_done (pfn nq_over_ahead (pfn nq_over_behind (pfn nq_over_left_out (pfn nq_over_deleted pfe))))))
theorem rd_LineRun_over (T : Txt K mg A) {H : Hp} {p dx : Addr} {v0 v1 v2 v3 v4 v5 v6 : V} {Q : VK} (h : H p = some (.ins A.LineRun dx (fs_LineRun v0 v1 v2 v3 v4 v5 v6))) (q : Q v6 H) :
    ∃ a C dx fs v, V.ref p = .ref a ∧ H a = some (.ins C dx fs) ∧ Cls K C ∧ NoAttr K C "over" ∧ fs.lookup ("over" : Str) = some v ∧ Q v H :=
  ⟨p, _, dx, _, _, rfl, h, T.c_LineRun.cl, T.c_LineRun.no _ (by simp), lk_LineRun_over, q⟩
theorem wr_LineRun_over (T : Txt K mg A) {H : Hp} {p dx : Addr} {v0 v1 v2 v3 v4 v5 v6 y : V} {D : Hp → Prop} (h : H p = some (.ins A.LineRun dx (fs_LineRun v0 v1 v2 v3 v4 v5 v6))) (q : D (upd H p (.ins A.LineRun dx (fs_LineRun v0 v1 v2 v3 v4 v5 y)))) :
    ∃ a C dx fs, V.ref p = .ref a ∧ H a = some (.ins C dx fs) ∧ Cls K C ∧ NoAttr K C "over" ∧ fs.length < 1000 ∧ D (upd H a (.ins C dx (putF "over" y fs))) :=
  ⟨p, _, dx, _, rfl, h, T.c_LineRun.cl, T.c_LineRun.no _ (by simp), (by show 7 < 1000; decide), (by rw [pf_LineRun_over]; exact q)⟩
theorem in_LineRun_over (T : Txt K mg A) {H : Hp} {p dx : Addr} {v0 v1 v2 v3 v4 v5 v6 : V} {D : Hp → Prop} (h : H p = some (.ins A.LineRun dx [(("line" : Str), v0), (("done" : Str), v1), (("ahead" : Str), v2), (("behind" : Str), v3), (("left_out" : Str), v4), (("deleted" : Str), v5)])) (q : D (upd H p (.ins A.LineRun dx (fs_LineRun v0 v1 v2 v3 v4 v5 v6)))) :
    ∃ a C dx fs, V.ref p = .ref a ∧ H a = some (.ins C dx fs) ∧ Cls K C ∧ NoAttr K C "over" ∧ fs.length < 1000 ∧ D (upd H a (.ins C dx (putF "over" v6 fs))) :=
  ⟨p, _, dx, _, rfl, h, T.c_LineRun.cl, T.c_LineRun.no _ (by simp), (by show 6 < 1000; decide), (by rw [show putF "over" v6 [(("line" : Str), v0), (("done" : Str), v1), (("ahead" : Str), v2), (("behind" : Str), v3), (("left_out" : Str), v4), (("deleted" : Str), v5)] = fs_LineRun v0 v1 v2 v3 v4 v5 v6 from (pfn nq_over_line (pfn nq_over_done (pfn nq_over_ahead (pfn nq_over_behind (pfn nq_over_left_out (pfn nq_over_deleted rfl))))))]; exact q)⟩
theorem lm_LineRun_coming {v0 v1 v2 v3 v4 v5 v6 : V} : (fs_LineRun v0 v1 v2 v3 v4 v5 v6).lookup ("coming" : Str) = none := (lkn nq_coming_line).trans ((lkn nq_coming_done).trans ((lkn nq_coming_ahead).trans ((lkn nq_coming_behind).trans ((lkn nq_coming_left_out).trans ((lkn nq_coming_deleted).trans ((lkn nq_coming_over).trans (rfl)))))))
def fs_Outcome (v0 v1 v2 : V) : List (Str × V) := [("place", v0), ("kind", v1), ("run", v2)]
theorem lk_Outcome_place {v0 v1 v2 : V} : (fs_Outcome v0 v1 v2).lookup ("place" : Str) = some v0 := lke
theorem pf_Outcome_place {v0 v1 v2 y : V} : putF "place" y (fs_Outcome v0 v1 v2) = fs_Outcome y v1 v2 := pfe
theorem rd_Outcome_place (T : Txt K mg A) {H : Hp} {p dx : Addr} {v0 v1 v2 : V} {Q : VK} (h : H p = some (.ins A.Outcome dx (fs_Outcome v0 v1 v2))) (q : Q v0 H) :
    ∃ a C dx fs v, V.ref p = .ref a ∧ H a = some (.ins C dx fs) ∧ Cls K C ∧ NoAttr K C "place" ∧ fs.lookup ("place" : Str) = some v ∧ Q v H :=
  ⟨p, _, dx, _, _, rfl, h, T.c_Outcome.cl, T.c_Outcome.no _ (by simp), lk_Outcome_place, q⟩
theorem wr_Outcome_place (T : Txt K mg A) {H : Hp} {p dx : Addr} {v0 v1 v2 y : V} {D : Hp → Prop} (h : H p = some (.ins A.Outcome dx (fs_Outcome v0 v1 v2))) (q : D (upd H p (.ins A.Outcome dx (fs_Outcome y v1 v2)))) :
    ∃ a C dx fs, V.ref p = .ref a ∧ H a = some (.ins C dx fs) ∧ Cls K C ∧ NoAttr K C "place" ∧ fs.length < 1000 ∧ D (upd H a (.ins C dx (putF "place" y fs))) :=
  ⟨p, _, dx, _, rfl, h, T.c_Outcome.cl, T.c_Outcome.no _ (by simp), (by show 3 < 1000; decide), (by rw [pf_Outcome_place]; exact q)⟩
theorem in_Outcome_place (T : Txt K mg A) {H : Hp} {p dx : Addr} {v0 : V} {D : Hp → Prop} (h : H p = some (.ins A.Outcome dx [])) (q : D (upd H p (.ins A.Outcome dx ([(("place" : Str), v0)])))) :
    ∃ a C dx fs, V.ref p = .ref a ∧ H a = some (.ins C dx fs) ∧ Cls K C ∧ NoAttr K C "place" ∧ fs.length < 1000 ∧ D (upd H a (.ins C dx (putF "place" v0 fs))) :=
  ⟨p, _, dx, _, rfl, h, T.c_Outcome.cl, T.c_Outcome.no _ (by simp), (by show 0 < 1000; decide), (by rw [show putF "place" v0 [] = [(("place" : Str), v0)] from rfl]; exact q)⟩
theorem lk_Outcome_kind {v0 v1 v2 : V} : (fs_Outcome v0 v1 v2).lookup ("kind" : Str) = some v1 := (lkn nq_kind_place).trans (lke)
theorem pf_Outcome_kind {v0 v1 v2 y : V} : putF "kind" y (fs_Outcome v0 v1 v2) = fs_Outcome v0 y v2 := (pfn nq_kind_place pfe)
theorem rd_Outcome_kind (T : Txt K mg A) {H : Hp} {p dx : Addr} {v0 v1 v2 : V} {Q : VK} (h : H p = some (.ins A.Outcome dx (fs_Outcome v0 v1 v2))) (q : Q v1 H) :
    ∃ a C dx fs v, V.ref p = .ref a ∧ H a = some (.ins C dx fs) ∧ Cls K C ∧ NoAttr K C "kind" ∧ fs.lookup ("kind" : Str) = some v ∧ Q v H :=
  ⟨p, _, dx, _, _, rfl, h, T.c_Outcome.cl, T.c_Outcome.no _ (by simp), lk_Outcome_kind, q⟩
theorem wr_Outcome_kind (T : Txt K mg A) {H : Hp} {p dx : Addr} {v0 v1 v2 y : V} {D : Hp → Prop} (h : H p = some (.ins A.Outcome dx (fs_Outcome v0 v1 v2))) (q : D (upd H p (.ins A.Outcome dx (fs_Outcome v0 y v2)))) :
    ∃ a C dx fs, V.ref p = .ref a ∧ H a = some (.ins C dx fs) ∧ Cls K C ∧ NoAttr K C "kind" ∧ fs.length < 1000 ∧ D (upd H a (.ins C dx (putF "kind" y fs))) :=
  ⟨p, _, dx, _, rfl, h, T.c_Outcome.cl, T.c_Outcome.no _ (by simp), (by show 3 < 1000; decide), (by rw [pf_Outcome_kind]; exact q)⟩
theorem in_Outcome_kind (T : Txt K mg A) {H : Hp} {p dx : Addr} {v0 v1 : V} {D : Hp → Prop} (h : H p = some (.ins A.Outcome dx [(("place" : Str), v0)])) (q : D (upd H p (.ins A.Outcome dx ([(("place" : Str), v0), (("kind" : Str), v1)])))) :
    ∃ a C dx fs, V.ref p = .ref a ∧ H a = some (.ins C dx fs) ∧ Cls K C ∧ NoAttr K C "kind" ∧ fs.length < 1000 ∧ D (upd H a (.ins C dx (putF "kind" v1 fs))) :=
  ⟨p, _, dx, _, rfl, h, T.c_Outcome.cl, T.c_Outcome.no _ (by simp), (by show 1 < 1000; decide), (by rw [show putF "kind" v1 [(("place" : Str), v0)] = [(("place" : Str), v0), (("kind" : Str), v1)] from (pfn nq_kind_place rfl)]; exact q)⟩
theorem lk_Outcome_run {v0 v1 v2 : V} : (fs_Outcome v0 v1 v2).lookup ("run" : Str) = some v2 := (lkn nq_run_place).trans ((lkn nq_run_kind).trans (lke))
theorem pf_Outcome_run {v0 v1 v2 y : V} : putF "run" y (fs_Outcome v0 v1 v2) = fs_Outcome v0 v1 y := (pfn nq_run_place (pfn nq_run_kind pfe))
theorem rd_Outcome_run (T : Txt K mg A) {H : Hp} {p dx : Addr} {v0 v1 v2 : V} {Q : VK} (h : H p = some (.ins A.Outcome dx (fs_Outcome v0 v1 v2))) (q : Q v2 H) :
    ∃ a C dx fs v, V.ref p = .ref a ∧ H a = some (.ins C dx fs) ∧ Cls K C ∧ NoAttr K C "run" ∧ fs.lookup ("run" : Str) = some v ∧ Q v H :=
  ⟨p, _, dx, _, _, rfl, h, T.c_Outcome.cl, T.c_Outcome.no _ (by simp), lk_Outcome_run, q⟩
theorem wr_Outcome_run (T : Txt K mg A) {H : Hp} {p dx : Addr} {v0 v1 v2 y : V} {D : Hp → Prop} (h : H p = some (.ins A.Outcome dx (fs_Outcome v0 v1 v2))) (q : D (upd H p (.ins A.Outcome dx (fs_Outcome v0 v1 y)))) :
    ∃ a C dx fs, V.ref p = .ref a ∧ H a = some (.ins C dx fs) ∧ Cls K C ∧ NoAttr K C "run" ∧ fs.length < 1000 ∧ D (upd H a (.ins C dx (putF "run" y fs))) :=
  ⟨p, _, dx, _, rfl, h, T.c_Outcome.cl, T.c_Outcome.no _ (by simp), (by show 3 < 1000; decide), (by rw [pf_Outcome_run]; exact q)⟩
theorem in_Outcome_run (T : Txt K mg A) {H : Hp} {p dx : Addr} {v0 v1 v2 : V} {D : Hp → Prop} (h : H p = some (.ins A.Outcome dx [(("place" : Str), v0), (("kind" : Str), v1)])) (q : D (upd H p (.ins A.Outcome dx (fs_Outcome v0 v1 v2)))) :
    ∃ a C dx fs, V.ref p = .ref a ∧ H a = some (.ins C dx fs) ∧ Cls K C ∧ NoAttr K C "run" ∧ fs.length < 1000 ∧ D (upd H a (.ins C dx (putF "run" v2 fs))) :=
  ⟨p, _, dx, _, rfl, h, T.c_Outcome.cl, T.c_Outcome.no _ (by simp), (by show 2 < 1000; decide), (by rw [show putF "run" v2 [(("place" : Str), v0), (("kind" : Str), v1)] = fs_Outcome v0 v1 v2 from (pfn nq_run_place (pfn nq_run_kind rfl))]; exact q)⟩
def fs_Reader (v0 v1 : V) : List (Str × V) := [("tokens", v0), ("at", v1)]
theorem lk_Reader_tokens {v0 v1 : V} : (fs_Reader v0 v1).lookup ("tokens" : Str) = some v0 := lke
theorem pf_Reader_tokens {v0 v1 y : V} : putF "tokens" y (fs_Reader v0 v1) = fs_Reader y v1 := pfe
theorem rd_Reader_tokens (T : Txt K mg A) {H : Hp} {p dx : Addr} {v0 v1 : V} {Q : VK} (h : H p = some (.ins A.Reader dx (fs_Reader v0 v1))) (q : Q v0 H) :
    ∃ a C dx fs v, V.ref p = .ref a ∧ H a = some (.ins C dx fs) ∧ Cls K C ∧ NoAttr K C "tokens" ∧ fs.lookup ("tokens" : Str) = some v ∧ Q v H :=
  ⟨p, _, dx, _, _, rfl, h, T.c_Reader.cl, T.c_Reader.no _ (by simp), lk_Reader_tokens, q⟩
theorem wr_Reader_tokens (T : Txt K mg A) {H : Hp} {p dx : Addr} {v0 v1 y : V} {D : Hp → Prop} (h : H p = some (.ins A.Reader dx (fs_Reader v0 v1))) (q : D (upd H p (.ins A.Reader dx (fs_Reader y v1)))) :
    ∃ a C dx fs, V.ref p = .ref a ∧ H a = some (.ins C dx fs) ∧ Cls K C ∧ NoAttr K C "tokens" ∧ fs.length < 1000 ∧ D (upd H a (.ins C dx (putF "tokens" y fs))) :=
  ⟨p, _, dx, _, rfl, h, T.c_Reader.cl, T.c_Reader.no _ (by simp), (by show 2 < 1000; decide), (by rw [pf_Reader_tokens]; exact q)⟩
theorem in_Reader_tokens (T : Txt K mg A) {H : Hp} {p dx : Addr} {v0 : V} {D : Hp → Prop} (h : H p = some (.ins A.Reader dx [])) (q : D (upd H p (.ins A.Reader dx ([(("tokens" : Str), v0)])))) :
    ∃ a C dx fs, V.ref p = .ref a ∧ H a = some (.ins C dx fs) ∧ Cls K C ∧ NoAttr K C "tokens" ∧ fs.length < 1000 ∧ D (upd H a (.ins C dx (putF "tokens" v0 fs))) :=
  ⟨p, _, dx, _, rfl, h, T.c_Reader.cl, T.c_Reader.no _ (by simp), (by show 0 < 1000; decide), (by rw [show putF "tokens" v0 [] = [(("tokens" : Str), v0)] from rfl]; exact q)⟩
theorem lk_Reader_at {v0 v1 : V} : (fs_Reader v0 v1).lookup ("at" : Str) = some v1 := (lkn nq_at_tokens).trans (lke)
theorem pf_Reader_at {v0 v1 y : V} : putF "at" y (fs_Reader v0 v1) = fs_Reader v0 y := (pfn nq_at_tokens pfe)
theorem rd_Reader_at (T : Txt K mg A) {H : Hp} {p dx : Addr} {v0 v1 : V} {Q : VK} (h : H p = some (.ins A.Reader dx (fs_Reader v0 v1))) (q : Q v1 H) :
    ∃ a C dx fs v, V.ref p = .ref a ∧ H a = some (.ins C dx fs) ∧ Cls K C ∧ NoAttr K C "at" ∧ fs.lookup ("at" : Str) = some v ∧ Q v H :=
  ⟨p, _, dx, _, _, rfl, h, T.c_Reader.cl, T.c_Reader.no _ (by simp), lk_Reader_at, q⟩
theorem wr_Reader_at (T : Txt K mg A) {H : Hp} {p dx : Addr} {v0 v1 y : V} {D : Hp → Prop} (h : H p = some (.ins A.Reader dx (fs_Reader v0 v1))) (q : D (upd H p (.ins A.Reader dx (fs_Reader v0 y)))) :
    ∃ a C dx fs, V.ref p = .ref a ∧ H a = some (.ins C dx fs) ∧ Cls K C ∧ NoAttr K C "at" ∧ fs.length < 1000 ∧ D (upd H a (.ins C dx (putF "at" y fs))) :=
  ⟨p, _, dx, _, rfl, h, T.c_Reader.cl, T.c_Reader.no _ (by simp), (by show 2 < 1000; decide), (by rw [pf_Reader_at]; exact q)⟩
theorem in_Reader_at (T : Txt K mg A) {H : Hp} {p dx : Addr} {v0 v1 : V} {D : Hp → Prop} (h : H p = some (.ins A.Reader dx [(("tokens" : Str), v0)])) (q : D (upd H p (.ins A.Reader dx (fs_Reader v0 v1)))) :
    ∃ a C dx fs, V.ref p = .ref a ∧ H a = some (.ins C dx fs) ∧ Cls K C ∧ NoAttr K C "at" ∧ fs.length < 1000 ∧ D (upd H a (.ins C dx (putF "at" v1 fs))) :=
  ⟨p, _, dx, _, rfl, h, T.c_Reader.cl, T.c_Reader.no _ (by simp), (by show 1 < 1000; decide), (by rw [show putF "at" v1 [(("tokens" : Str), v0)] = fs_Reader v0 v1 from (pfn nq_at_tokens rfl)]; exact q)⟩
theorem lm_Reader_here {v0 v1 : V} : (fs_Reader v0 v1).lookup ("here" : Str) = none := (lkn nq_here_tokens).trans ((lkn nq_here_at).trans (rfl))
theorem lm_Reader_stands {v0 v1 : V} : (fs_Reader v0 v1).lookup ("stands" : Str) = none := (lkn nq_stands_tokens).trans ((lkn nq_stands_at).trans (rfl))
theorem lm_Reader_take_kind {v0 v1 : V} : (fs_Reader v0 v1).lookup ("take_kind" : Str) = none := (lkn nq_take_kind_tokens).trans ((lkn nq_take_kind_at).trans (rfl))
theorem lm_Reader_take_word {v0 v1 : V} : (fs_Reader v0 v1).lookup ("take_word" : Str) = none := (lkn nq_take_word_tokens).trans ((lkn nq_take_word_at).trans (rfl))
theorem lm_Reader_take_letters {v0 v1 : V} : (fs_Reader v0 v1).lookup ("take_letters" : Str) = none := (lkn nq_take_letters_tokens).trans ((lkn nq_take_letters_at).trans (rfl))
theorem lm_Reader_take_number {v0 v1 : V} : (fs_Reader v0 v1).lookup ("take_number" : Str) = none := (lkn nq_take_number_tokens).trans ((lkn nq_take_number_at).trans (rfl))
def fs_Holder (v0 v1 v2 : V) : List (Str × V) := [("commands", v0), ("kinds_held", v1), ("outcomes", v2)]
theorem lk_Holder_commands {v0 v1 v2 : V} : (fs_Holder v0 v1 v2).lookup ("commands" : Str) = some v0 := lke
theorem pf_Holder_commands {v0 v1 v2 y : V} : putF "commands" y (fs_Holder v0 v1 v2) = fs_Holder y v1 v2 := pfe
theorem rd_Holder_commands (T : Txt K mg A) {H : Hp} {p dx : Addr} {v0 v1 v2 : V} {Q : VK} (h : H p = some (.ins A.Holder dx (fs_Holder v0 v1 v2))) (q : Q v0 H) :
    ∃ a C dx fs v, V.ref p = .ref a ∧ H a = some (.ins C dx fs) ∧ Cls K C ∧ NoAttr K C "commands" ∧ fs.lookup ("commands" : Str) = some v ∧ Q v H :=
  ⟨p, _, dx, _, _, rfl, h, T.c_Holder.cl, T.c_Holder.no _ (by simp), lk_Holder_commands, q⟩
theorem wr_Holder_commands (T : Txt K mg A) {H : Hp} {p dx : Addr} {v0 v1 v2 y : V} {D : Hp → Prop} (h : H p = some (.ins A.Holder dx (fs_Holder v0 v1 v2))) (q : D (upd H p (.ins A.Holder dx (fs_Holder y v1 v2)))) :
    ∃ a C dx fs, V.ref p = .ref a ∧ H a = some (.ins C dx fs) ∧ Cls K C ∧ NoAttr K C "commands" ∧ fs.length < 1000 ∧ D (upd H a (.ins C dx (putF "commands" y fs))) :=
  ⟨p, _, dx, _, rfl, h, T.c_Holder.cl, T.c_Holder.no _ (by simp), (by show 3 < 1000; decide), (by rw [pf_Holder_commands]; exact q)⟩
theorem in_Holder_commands (T : Txt K mg A) {H : Hp} {p dx : Addr} {v0 : V} {D : Hp → Prop} (h : H p = some (.ins A.Holder dx [])) (q : D (upd H p (.ins A.Holder dx ([(("commands" : Str), v0)])))) :
    ∃ a C dx fs, V.ref p = .ref a ∧ H a = some (.ins C dx fs) ∧ Cls K C ∧ NoAttr K C "commands" ∧ fs.length < 1000 ∧ D (upd H a (.ins C dx (putF "commands" v0 fs))) :=
  ⟨p, _, dx, _, rfl, h, T.c_Holder.cl, T.c_Holder.no _ (by simp), (by show 0 < 1000; decide), (by rw [show putF "commands" v0 [] = [(("commands" : Str), v0)] from rfl]; exact q)⟩
theorem lk_Holder_kinds_held {v0 v1 v2 : V} : (fs_Holder v0 v1 v2).lookup ("kinds_held" : Str) = some v1 := (lkn nq_kinds_held_commands).trans (lke)
theorem pf_Holder_kinds_held {v0 v1 v2 y : V} : putF "kinds_held" y (fs_Holder v0 v1 v2) = fs_Holder v0 y v2 := (pfn nq_kinds_held_commands pfe)
theorem rd_Holder_kinds_held (T : Txt K mg A) {H : Hp} {p dx : Addr} {v0 v1 v2 : V} {Q : VK} (h : H p = some (.ins A.Holder dx (fs_Holder v0 v1 v2))) (q : Q v1 H) :
    ∃ a C dx fs v, V.ref p = .ref a ∧ H a = some (.ins C dx fs) ∧ Cls K C ∧ NoAttr K C "kinds_held" ∧ fs.lookup ("kinds_held" : Str) = some v ∧ Q v H :=
  ⟨p, _, dx, _, _, rfl, h, T.c_Holder.cl, T.c_Holder.no _ (by simp), lk_Holder_kinds_held, q⟩
theorem wr_Holder_kinds_held (T : Txt K mg A) {H : Hp} {p dx : Addr} {v0 v1 v2 y : V} {D : Hp → Prop} (h : H p = some (.ins A.Holder dx (fs_Holder v0 v1 v2))) (q : D (upd H p (.ins A.Holder dx (fs_Holder v0 y v2)))) :
    ∃ a C dx fs, V.ref p = .ref a ∧ H a = some (.ins C dx fs) ∧ Cls K C ∧ NoAttr K C "kinds_held" ∧ fs.length < 1000 ∧ D (upd H a (.ins C dx (putF "kinds_held" y fs))) :=
  ⟨p, _, dx, _, rfl, h, T.c_Holder.cl, T.c_Holder.no _ (by simp), (by show 3 < 1000; decide), (by rw [pf_Holder_kinds_held]; exact q)⟩
theorem in_Holder_kinds_held (T : Txt K mg A) {H : Hp} {p dx : Addr} {v0 v1 : V} {D : Hp → Prop} (h : H p = some (.ins A.Holder dx [(("commands" : Str), v0)])) (q : D (upd H p (.ins A.Holder dx ([(("commands" : Str), v0), (("kinds_held" : Str), v1)])))) :
    ∃ a C dx fs, V.ref p = .ref a ∧ H a = some (.ins C dx fs) ∧ Cls K C ∧ NoAttr K C "kinds_held" ∧ fs.length < 1000 ∧ D (upd H a (.ins C dx (putF "kinds_held" v1 fs))) :=
  ⟨p, _, dx, _, rfl, h, T.c_Holder.cl, T.c_Holder.no _ (by simp), (by show 1 < 1000; decide), (by rw [show putF "kinds_held" v1 [(("commands" : Str), v0)] = [(("commands" : Str), v0), (("kinds_held" : Str), v1)] from (pfn nq_kinds_held_commands rfl)]; exact q)⟩
theorem lk_Holder_outcomes {v0 v1 v2 : V} : (fs_Holder v0 v1 v2).lookup ("outcomes" : Str) = some v2 := (lkn nq_outcomes_commands).trans ((lkn nq_outcomes_kinds_held).trans (lke))
theorem pf_Holder_outcomes {v0 v1 v2 y : V} : putF "outcomes" y (fs_Holder v0 v1 v2) = fs_Holder v0 v1 y := (pfn nq_outcomes_commands (pfn nq_outcomes_kinds_held pfe))
theorem rd_Holder_outcomes (T : Txt K mg A) {H : Hp} {p dx : Addr} {v0 v1 v2 : V} {Q : VK} (h : H p = some (.ins A.Holder dx (fs_Holder v0 v1 v2))) (q : Q v2 H) :
    ∃ a C dx fs v, V.ref p = .ref a ∧ H a = some (.ins C dx fs) ∧ Cls K C ∧ NoAttr K C "outcomes" ∧ fs.lookup ("outcomes" : Str) = some v ∧ Q v H :=
  ⟨p, _, dx, _, _, rfl, h, T.c_Holder.cl, T.c_Holder.no _ (by simp), lk_Holder_outcomes, q⟩
theorem wr_Holder_outcomes (T : Txt K mg A) {H : Hp} {p dx : Addr} {v0 v1 v2 y : V} {D : Hp → Prop} (h : H p = some (.ins A.Holder dx (fs_Holder v0 v1 v2))) (q : D (upd H p (.ins A.Holder dx (fs_Holder v0 v1 y)))) :
    ∃ a C dx fs, V.ref p = .ref a ∧ H a = some (.ins C dx fs) ∧ Cls K C ∧ NoAttr K C "outcomes" ∧ fs.length < 1000 ∧ D (upd H a (.ins C dx (putF "outcomes" y fs))) :=
  ⟨p, _, dx, _, rfl, h, T.c_Holder.cl, T.c_Holder.no _ (by simp), (by show 3 < 1000; decide), (by rw [pf_Holder_outcomes]; exact q)⟩
theorem in_Holder_outcomes (T : Txt K mg A) {H : Hp} {p dx : Addr} {v0 v1 v2 : V} {D : Hp → Prop} (h : H p = some (.ins A.Holder dx [(("commands" : Str), v0), (("kinds_held" : Str), v1)])) (q : D (upd H p (.ins A.Holder dx (fs_Holder v0 v1 v2)))) :
    ∃ a C dx fs, V.ref p = .ref a ∧ H a = some (.ins C dx fs) ∧ Cls K C ∧ NoAttr K C "outcomes" ∧ fs.length < 1000 ∧ D (upd H a (.ins C dx (putF "outcomes" v2 fs))) :=
  ⟨p, _, dx, _, rfl, h, T.c_Holder.cl, T.c_Holder.no _ (by simp), (by show 2 < 1000; decide), (by rw [show putF "outcomes" v2 [(("commands" : Str), v0), (("kinds_held" : Str), v1)] = fs_Holder v0 v1 v2 from (pfn nq_outcomes_commands (pfn nq_outcomes_kinds_held rfl))]; exact q)⟩
theorem lm_Holder_hold {v0 v1 v2 : V} : (fs_Holder v0 v1 v2).lookup ("hold" : Str) = none := (lkn nq_hold_commands).trans ((lkn nq_hold_kinds_held).trans ((lkn nq_hold_outcomes).trans (rfl)))
theorem lm_Holder_load {v0 v1 v2 : V} : (fs_Holder v0 v1 v2).lookup ("load" : Str) = none := (lkn nq_load_commands).trans ((lkn nq_load_kinds_held).trans ((lkn nq_load_outcomes).trans (rfl)))
theorem lm_Holder_shown {v0 v1 v2 : V} : (fs_Holder v0 v1 v2).lookup ("shown" : Str) = none := (lkn nq_shown_commands).trans ((lkn nq_shown_kinds_held).trans ((lkn nq_shown_outcomes).trans (rfl)))
theorem lm_Holder_kinds {v0 v1 v2 : V} : (fs_Holder v0 v1 v2).lookup ("kinds" : Str) = none := (lkn nq_kinds_commands).trans ((lkn nq_kinds_kinds_held).trans ((lkn nq_kinds_outcomes).trans (rfl)))
theorem lm_Holder_can {v0 v1 v2 : V} : (fs_Holder v0 v1 v2).lookup ("can" : Str) = none := (lkn nq_can_commands).trans ((lkn nq_can_kinds_held).trans ((lkn nq_can_outcomes).trans (rfl)))
theorem lm_Holder_matters {v0 v1 v2 : V} : (fs_Holder v0 v1 v2).lookup ("matters" : Str) = none := (lkn nq_matters_commands).trans ((lkn nq_matters_kinds_held).trans ((lkn nq_matters_outcomes).trans (rfl)))
theorem lm_Holder_idle {v0 v1 v2 : V} : (fs_Holder v0 v1 v2).lookup ("idle" : Str) = none := (lkn nq_idle_commands).trans ((lkn nq_idle_kinds_held).trans ((lkn nq_idle_outcomes).trans (rfl)))
theorem lm_Holder_turn {v0 v1 v2 : V} : (fs_Holder v0 v1 v2).lookup ("turn" : Str) = none := (lkn nq_turn_commands).trans ((lkn nq_turn_kinds_held).trans ((lkn nq_turn_outcomes).trans (rfl)))
theorem lm_Holder_lines {v0 v1 v2 : V} : (fs_Holder v0 v1 v2).lookup ("lines" : Str) = none := (lkn nq_lines_commands).trans ((lkn nq_lines_kinds_held).trans ((lkn nq_lines_outcomes).trans (rfl)))
theorem lm_Holder_safe {v0 v1 v2 : V} : (fs_Holder v0 v1 v2).lookup ("safe" : Str) = none := (lkn nq_safe_commands).trans ((lkn nq_safe_kinds_held).trans ((lkn nq_safe_outcomes).trans (rfl)))
theorem lm_Holder_prune {v0 v1 v2 : V} : (fs_Holder v0 v1 v2).lookup ("prune" : Str) = none := (lkn nq_prune_commands).trans ((lkn nq_prune_kinds_held).trans ((lkn nq_prune_outcomes).trans (rfl)))
theorem lm_Holder_has_command {v0 v1 v2 : V} : (fs_Holder v0 v1 v2).lookup ("has_command" : Str) = none := (lkn nq_has_command_commands).trans ((lkn nq_has_command_kinds_held).trans ((lkn nq_has_command_outcomes).trans (rfl)))
theorem lm_Holder_first_mattering {v0 v1 v2 : V} : (fs_Holder v0 v1 v2).lookup ("first_mattering" : Str) = none := (lkn nq_first_mattering_commands).trans ((lkn nq_first_mattering_kinds_held).trans ((lkn nq_first_mattering_outcomes).trans (rfl)))
theorem lm_Holder_first_idle {v0 v1 v2 : V} : (fs_Holder v0 v1 v2).lookup ("first_idle" : Str) = none := (lkn nq_first_idle_commands).trans ((lkn nq_first_idle_kinds_held).trans ((lkn nq_first_idle_outcomes).trans (rfl)))
end
end SK
set_option Elab.async false
set_option linter.all false
set_option maxRecDepth 100000
set_option maxHeartbeats 2000000
/-! a list that is put aside while an expression runs: what the expression does not know it leaves -/
namespace SK
open PySem PySem.Spec PyProof.Rows L2
theorem fs_there {h base : Heap} : ∀ {l : List Env} {b : PySem.Addr}, h.FunFrames base l → b ∈ frs l → ∃ o, h.get? b = some o
  | [], b, _, hb => by cases hb
  | env :: r, b, hf, hb => by
    obtain ⟨_, ⟨L, o, e, _, eo, _⟩, hr⟩ := hf
    unfold frs at hb
    rw [List.filterMap_cons, e] at hb
    rcases List.mem_cons.mp hb with z | z
    · rw [z]
      exact ⟨o, eo⟩
    · exact fs_there hr z
section
variable {X : Cx} {pins : List (PySem.Addr × Obj)} {σ : L2.St} {H : Hp} {s : Shared} {t : PySem.Addr} {xs : List V}
theorem not_fs (I : Inv X pins σ H s) {u : HO} (ht : H t = some u) : t ∉ X.fs := fun hf => by
  obtain ⟨o, e⟩ := fs_there I.ok.funs hf
  have n := I.base.free t o e (I.ok.frf t hf) fun z => I.ok.exfs t z hf
  rw [ht] at n
  cases n
theorem inv_aside (I : Inv X pins σ H s) (ht : H t = some (.lst xs)) : ∃ ob its, ∃ n, ob = ({ cls := .type "list", data := .seq its n } : Obj) ∧ Vals xs its.toList ∧ s.heap.get? t = some ob ∧ xs.length ≤ sizeLine ∧ Inv X ((t, ob) :: pins) σ (del H t) s := by
  obtain ⟨z, its, n, r, e⟩ := (show ObjOk X.prog X.w H s.heap t (.lst xs) from I.hok t _ ht)
  refine ⟨_, its.toArray, n, rfl, by simpa using r, e, z, ?_⟩
  have nt : ∀ {b : PySem.Addr} {o : HO}, H b = some o → o ≠ .lst xs → b ≠ t := fun hb d z => by
    rw [z, ht] at hb
    exact d (Option.some.inj hb).symm
  have U : Un X.fs [] H (del H t) s.heap s.heap := by
    constructor
    · exact fun b o q _ _ _ => q
    · exact fun b o q _ _ _ => ⟨o.slots, q⟩
    · intro b o q n _
      by_cases e : b = t
      · rw [e, del_same]
      · rw [del_ne e]; exact n
    · exact fun b o q _ => ⟨o, q⟩
    · intro b ys q
      rw [del_ne (nt q (fun z => by cases z))]; exact q
    · intro b o v q
      rw [del_ne (nt q (fun z => by cases z))]; exact q
    · intro b ps q
      refine ⟨#[], ?_⟩
      rw [del_ne (nt q (fun z => by cases z)), q]
      simp
  have K : HOk X.prog X.w (del H t) s.heap := fun b o q => by
    have hb : b ≠ t := fun z => by
      rw [z, del_same] at q; cases q
    rw [del_ne hb] at q
    refine (I.hok b o q).stay (fun c v _ y => y) (fun c hc => ?_) fun c ys hc => ?_
    · rw [del_ne (nt hc (fun z => by cases z))]; exact hc
    · rw [del_ne (nt hc (fun z => by cases z))]; exact hc
  have J : Inv X pins σ (del H t) s := I.un (t' := s.toks) U K
  obtain ⟨m, ⟨oL, _, _, hoL, _⟩, _⟩ := id I.loc
  refine ⟨J.ok, J.os, J.bare, J.base, J.loc, J.cell, J.free, J.freeC, fun p hp => ?_, J.hok, J.len⟩
  rcases List.mem_append.mp hp with hp | hp
  · exact J.pin p (List.mem_append_left _ hp)
  · rcases List.mem_cons.mp hp with q | q
    · rw [q]
      refine ⟨e, del_same, fun z => ?_, not_fs I ht, fun v z => by cases z⟩
      have n := I.free
      rw [← (show t = X.env.locals from z), ht] at n
      cases n
    · exact J.pin p (List.mem_append_right _ q)
theorem inv_again {σ' : L2.St} {H' : Hp} {s' : Shared} {ob : Obj} {its : Array Value} {n : Nat} (I : Inv X pins σ H s) (ht : H t = some (.lst xs)) (hob : ob = ({ cls := .type "list", data := .seq its n } : Obj)) (r : Vals xs its.toList) (z : xs.length ≤ sizeLine)
    (J : Inv X ((t, ob) :: pins) σ' H' s') : H' t = none ∧ Inv X pins σ' (upd H' t (.lst xs)) s' := by
  have P := J.pin (t, ob) (List.mem_append_right _ List.mem_cons_self)
  obtain ⟨et, nt, nL, nF, _⟩ := P
  refine ⟨nt, ?_⟩
  have nb : ∀ {b : PySem.Addr} {o : HO}, H' b = some o → b ≠ t := fun hb z => by
    rw [z, nt] at hb; cases hb
  refine ⟨J.ok, J.os, J.bare, ?_, J.loc, J.cell, ?_, fun x c e => ?_, fun p hp => ?_, fun b o q => ?_, J.len⟩
  · constructor
    · exact J.base.keep
    · exact J.base.slot
    · intro b o q n hx
      by_cases e : b = t
      · have y := I.base.free b o q n hx
        rw [e, ht] at y; cases y
      · rw [upd_ne e]; exact J.base.free b o q n hx
    · exact J.base.there
    · intro b ys q
      have y := J.base.tups b ys q
      rw [upd_ne (nb y)]; exact y
    · intro b o v q
      have y := J.base.frzs b o v q
      rw [upd_ne (nb y)]; exact y
    · intro b ps q
      obtain ⟨more, y⟩ := J.base.tbls b ps q
      exact ⟨more, by rw [upd_ne (nb y)]; exact y⟩
  · rw [upd_ne (Ne.symm nL)]; exact J.free
  · have nc : c ≠ t := fun z => by
      have y := I.freeC x c e
      rw [z, ht] at y; cases y
    rw [upd_ne nc]; exact J.freeC x c e
  · have hp' : p ∈ X.pn ++ (t, ob) :: pins := by
      rcases List.mem_append.mp hp with q | q
      · exact List.mem_append_left _ q
      · exact List.mem_append_right _ (List.mem_cons_of_mem _ q)
    obtain ⟨h1, h2, h3, h4, h5⟩ := J.pin p hp'
    refine ⟨h1, ?_, h3, h4, h5⟩
    have np : p.1 ≠ t := fun z => by
      have y := (I.pin p hp).2.1
      rw [z, ht] at y; cases y
    rw [upd_ne np]; exact h2
  · by_cases e : b = t
    · subst e
      rw [upd_same] at q
      cases q
      rw [hob] at et
      exact ⟨z, its.toList, n, r, by simpa using et⟩
    · rw [upd_ne e] at q
      refine (J.hok b o q).stay (fun c v _ y => y) (fun c hc => ?_) fun c ys hc => ?_
      · rw [upd_ne (nb hc)]; exact hc
      · rw [upd_ne (nb hc)]; exact hc
/-- e, the list at t put aside meanwhile -/
def tHide (te : TE) : TE := fun σ H Q => ∃ (t : PySem.Addr) (xs : List V), H t = some (.lst xs) ∧ te σ (del H t) (fun v H' => H' t = none → Q v (upd H' t (.lst xs)))
theorem pe_hide {e : Expr} {te : TE} (h : PE X e te) : PE X e (tHide te) := by
  refine ⟨fun pins s σ H Q I q => ?_⟩
  obtain ⟨t, xs, ht, q⟩ := q
  obtain ⟨ob, its, n, hob, r, et, z, J⟩ := inv_aside I ht
  refine thn (h.run _ s σ _ _ J q) fun u s' hh => ?_
  obtain ⟨v, H', J', rv, q'⟩ := hh
  obtain ⟨nt, I'⟩ := inv_again I ht hob r z J'
  exact ⟨v, _, I', rv, q' nt⟩
end
end SK
set_option Elab.async false
set_option linter.all false
set_option maxRecDepth 100000
set_option maxHeartbeats 2000000
/-! what stands for a script, a line, an outcome .. in the heap -/
namespace SK
open PySem PySem.Spec PyProof.Rows L2
abbrev Bt := VasedBase.Bytes
/-! ### texts -/
def sB (b : Bt) : Str := ⟨(b.map fun c => c.toNat).toArray⟩
abbrev vB (b : Bt) : V := .str (sB b)
abbrev vN (n : Nat) : V := .int (n : Int)
theorem toNat_inj {a b : UInt8} (h : a.toNat = b.toNat) : a = b := UInt8.toNat_inj.mp h
theorem map_toNat_inj : ∀ {a b : Bt}, (a.map fun c => c.toNat) = (b.map fun c => c.toNat) → a = b
  | [], [], _ => rfl
  | [], _ :: _, h => by simp at h
  | _ :: _, [], h => by simp at h
  | x :: a, y :: b, h => by
    simp only [List.map_cons, List.cons.injEq] at h
    rw [toNat_inj h.1, map_toNat_inj h.2]
theorem sB_inj {a b : Bt} (h : sB a = sB b) : a = b := by
  unfold sB at h
  injection h with h
  exact map_toNat_inj (by simpa using congrArg Array.toList h)
theorem sB_len (b : Bt) : (sB b).length = b.length := by
  show ((b.map fun c => c.toNat).toArray).size = b.length
  simp
theorem sB_list (b : Bt) : (sB b).cps.toList = b.map fun c => c.toNat := rfl
theorem sB_app (a b : Bt) : sB a ++ sB b = sB (a ++ b) := by
  show (⟨(a.map fun c => c.toNat).toArray ++ (b.map fun c => c.toNat).toArray⟩ : Str) = ⟨((a ++ b).map fun c => c.toNat).toArray⟩
  rw [List.map_append]
  simp
theorem sB_nil : sB [] = ("" : Str) := by decide +kernel
theorem dec_vB (a b : Bt) : decide (vB a = vB b) = (a == b) := by
  rw [Bool.eq_iff_iff, decide_eq_true_iff, beq_iff_eq]
  exact ⟨fun h => sB_inj (V.str.inj h), fun h => by rw [h]⟩
/-! ### lists side by side -/
def Two {α : Type} (R : V → α → Prop) (vs : List V) (xs : List α) : Prop := vs.length = xs.length ∧ ∀ (i : Nat) (v : V) (x : α), vs[i]? = some v → xs[i]? = some x → R v x
section
variable {α : Type} {R S : V → α → Prop} {vs ws : List V} {xs ys : List α}
theorem Two.nil : Two R [] ([] : List α) := ⟨rfl, fun i v x h => by simp at h⟩
theorem Two.mono (h : Two R vs xs) (f : ∀ v x, x ∈ xs → R v x → S v x) : Two S vs xs := ⟨h.1, fun i v x a b => f v x (List.mem_of_getElem? b) (h.2 i v x a b)⟩
theorem Two.app (h : Two R vs xs) (k : Two R ws ys) : Two R (vs ++ ws) (xs ++ ys) := by
  refine ⟨by rw [List.length_append, List.length_append, h.1, k.1], fun i v x a b => ?_⟩
  by_cases hi : i < vs.length
  · rw [List.getElem?_append_left hi] at a
    rw [List.getElem?_append_left (by rw [← h.1]; exact hi)] at b
    exact h.2 i v x a b
  · rw [List.getElem?_append_right (by omega)] at a
    rw [List.getElem?_append_right (by rw [← h.1]; omega), ← h.1] at b
    exact k.2 _ v x a b
theorem Two.one {v : V} {x : α} (h : R v x) : Two R [v] [x] := ⟨rfl, fun i a b e f => by
  cases i with
  | zero =>
    cases e
    cases f
    exact h
  | succ i => simp at e⟩
theorem Two.snoc {v : V} {x : α} (h : Two R vs xs) (k : R v x) : Two R (vs ++ [v]) (xs ++ [x]) := h.app (.one k)
theorem Two.cons {v : V} {x : α} (k : R v x) (h : Two R vs xs) : Two R (v :: vs) (x :: xs) := (Two.one k).app h
theorem Two.take (h : Two R vs xs) (n : Nat) : Two R (vs.take n) (xs.take n) := by
  refine ⟨by rw [List.length_take, List.length_take, h.1], fun i v x a b => ?_⟩
  rw [List.getElem?_take] at a b
  split at a
  · rename_i hi
    rw [if_pos hi] at b
    exact h.2 i v x a b
  · cases a
theorem Two.drop (h : Two R vs xs) (n : Nat) : Two R (vs.drop n) (xs.drop n) := by
  refine ⟨by rw [List.length_drop, List.length_drop, h.1], fun i v x a b => ?_⟩
  rw [List.getElem?_drop] at a b
  exact h.2 _ v x a b
theorem Two.at (h : Two R vs xs) {i : Nat} {v : V} (e : vs[i]? = some v) : ∃ x, xs[i]? = some x ∧ R v x := by
  have hi := (List.getElem?_eq_some_iff.mp e).1
  rw [h.1] at hi
  exact ⟨xs[i], List.getElem?_eq_getElem hi, h.2 i v _ e (List.getElem?_eq_getElem hi)⟩
theorem Two.of (h : Two R vs xs) {i : Nat} {x : α} (e : xs[i]? = some x) : ∃ v, vs[i]? = some v ∧ R v x := by
  have hi := (List.getElem?_eq_some_iff.mp e).1
  rw [← h.1] at hi
  exact ⟨vs[i], List.getElem?_eq_getElem hi, h.2 i _ x (List.getElem?_eq_getElem hi) e⟩
end
theorem take_more {α : Type} {l : List α} {i : Nat} {x : α} (h : l[i]? = some x) : l.take (i + 1) = l.take i ++ [x] := by
  rw [List.take_add_one, h]
  rfl
theorem map_at {α β : Type} {f : α → β} {l : List α} {i : Nat} {y : β} (h : (l.map f)[i]? = some y) : ∃ x, l[i]? = some x ∧ y = f x := by
  rw [List.getElem?_map] at h
  cases e : l[i]? with
  | none =>
    rw [e] at h
    cases h
  | some x =>
    rw [e] at h
    exact ⟨x, rfl, (Option.some.inj h).symm⟩
/-! ### what is kept -/
/-- an instance of a class whose instances change -/
def NoM (A : Ad) (o : HO) : Prop := (∀ dx fs, o ≠ .ins A.Holder dx fs) ∧ ∀ dx fs, o ≠ .ins A.Reader dx fs
/-- all that isn't a holder or a reader is kept -/
def Kp (A : Ad) (H H' : Hp) : Prop := ∀ b o, H b = some o → NoM A o → H' b = some o
theorem same_kp {A : Ad} {H H' : Hp} (s : Same H H') : Kp A H H' := fun b o e _ => s b o e
theorem Kp.refl {A : Ad} {H : Hp} : Kp A H H := fun _ _ e _ => e
theorem Kp.trans {A : Ad} {H H1 H2 : Hp} (a : Kp A H H1) (b : Kp A H1 H2) : Kp A H H2 := fun c o e n => b c o (a c o e n) n
theorem Kp.upd {A : Ad} {H : Hp} {p : PySem.Addr} {o u : HO} (h : H p = some o) (n : ¬ NoM A o) : Kp A H (upd H p u) := fun b v e m => by
  have hb : b ≠ p := fun z => by
    rw [z, h] at e
    cases e
    exact n m
  rw [upd_ne hb]
  exact e
theorem noM_lst {A : Ad} {xs : List V} : NoM A (.lst xs) := ⟨fun _ _ z => (by cases z), fun _ _ z => (by cases z)⟩
theorem noM_tup {A : Ad} {xs : List V} : NoM A (.tup xs) := ⟨fun _ _ z => (by cases z), fun _ _ z => (by cases z)⟩
theorem noM_hold {A : Ad} {dx : PySem.Addr} {fs : List (Str × V)} : ¬ NoM A (.ins A.Holder dx fs) := fun z => z.1 dx fs rfl
theorem noM_rdr {A : Ad} {dx : PySem.Addr} {fs : List (Str × V)} : ¬ NoM A (.ins A.Reader dx fs) := fun z => z.2 dx fs rfl
/-- the classes are different -/
structure Apart (A : Ad) : Prop where
  h1 : A.Address ≠ A.Holder
  h2 : A.Deed ≠ A.Holder
  h3 : A.Command ≠ A.Holder
  h4 : A.Token ≠ A.Holder
  h5 : A.LineRun ≠ A.Holder
  h6 : A.Outcome ≠ A.Holder
  r1 : A.Address ≠ A.Reader
  r2 : A.Deed ≠ A.Reader
  r3 : A.Command ≠ A.Reader
  r4 : A.Token ≠ A.Reader
  r5 : A.LineRun ≠ A.Reader
  r6 : A.Outcome ≠ A.Reader
  hr : A.Holder ≠ A.Reader
theorem noM_ins {A : Ad} {C dx : PySem.Addr} {fs : List (Str × V)} (h : C ≠ A.Holder) (r : C ≠ A.Reader) : NoM A (.ins C dx fs) :=
  ⟨fun _ _ z => by injection z with z; exact h z, fun _ _ z => by injection z with z; exact r z⟩
theorem same_new {H : Hp} {p : PySem.Addr} {o : HO} (h : H p = none) : Same H (upd H p o) := fun b u e => by
  rw [upd_ne (ne_of_none e h)]
  exact e
theorem same_none {H H' : Hp} (s : Same H H') {p : PySem.Addr} (h : H' p = none) : H p = none := s.free h
/-- all but these are kept -/
def But (S : List PySem.Addr) (H H' : Hp) : Prop := ∀ b o, H b = some o → b ∉ S → H' b = some o
theorem But.same {S : List PySem.Addr} {H0 H H' : Hp} (s : Same H0 H) (b : But S H H') (n : ∀ x ∈ S, H0 x = none) : Same H0 H' := fun c o e => b c o (s c o e) fun z => by
  rw [n c z] at e
  cases e
theorem But.refl {S : List PySem.Addr} {H : Hp} : But S H H := fun _ _ e _ => e
theorem But.trans {S : List PySem.Addr} {H H1 H2 : Hp} (a : But S H H1) (b : But S H1 H2) : But S H H2 := fun c o e n => b c o (a c o e n) n
theorem But.upd {S : List PySem.Addr} {H : Hp} {p : PySem.Addr} {u : HO} (h : p ∈ S) : But S H (upd H p u) := fun b v e m => by
  have hb : b ≠ p := fun z => m (z ▸ h)
  rw [upd_ne hb]
  exact e
theorem same_but {S : List PySem.Addr} {H H' : Hp} (s : Same H H') : But S H H' := fun b o e _ => s b o e
/-! ### addresses, deeds, commands, scripts -/
section
open Vaseda (Deed Cmd Script Line Work Out)
def nots : Vaseda.Addr → Nat
  | .not a => nots a + 1
  | _ => 0
def aName : Vaseda.Addr → Str
  | .all => "all"
  | .line _ => "line"
  | .span _ _ => "from"
  | .last => "last"
  | .has _ => "has"
  | .is_ _ => "is"
  | .not a => aName a
def aFirst : Vaseda.Addr → Nat
  | .line n => n
  | .span a _ => a
  | .not a => aFirst a
  | _ => 0
def aFinal : Vaseda.Addr → Nat
  | .line n => n
  | .span _ b => b
  | .not a => aFinal a
  | _ => 0
def aLetters : Vaseda.Addr → Bt
  | .has w => w
  | .is_ w => w
  | .not a => aLetters a
  | _ => []
def dName : Deed → Str
  | .delete => "delete"
  | .before _ => "before"
  | .after _ => "after"
  | .change _ => "change"
  | .swap _ _ => "swap"
  | .first _ _ => "first"
  | .keep => "keep"
  | .bring => "bring"
  | .trade => "trade"
  | .skip _ => "skip"
  | .halt_ => "stop"
def dLetters : Deed → Bt
  | .before w => w
  | .after w => w
  | .change w => w
  | .swap a _ => a
  | .first a _ => a
  | _ => []
def dOther : Deed → Bt
  | .swap _ b => b
  | .first _ b => b
  | _ => []
def dNum : Deed → Nat
  | .skip k => k
  | _ => 0
variable (A : Ad) (H : Hp)
def AdrAt (p : PySem.Addr) (a : Vaseda.Addr) : Prop := ∃ dx, H p = some (.ins A.Address dx (fs_Address (vN (nots a)) (.str (aName a)) (vN (aFirst a)) (vN (aFinal a)) (vB (aLetters a))))
def DeedAt (p : PySem.Addr) (d : Deed) : Prop := ∃ dx, H p = some (.ins A.Deed dx (fs_Deed (.str (dName d)) (vB (dLetters d)) (vB (dOther d)) (vN (dNum d))))
def CmdAt (p : PySem.Addr) (c : Cmd) : Prop := ∃ dx pa pd, H p = some (.ins A.Command dx (fs_Command (.ref pa) (.ref pd))) ∧ AdrAt A H pa c.a ∧ DeedAt A H pd c.d
def Cmds (vs : List V) (s : Script) : Prop := Two (fun v c => ∃ q, v = .ref q ∧ CmdAt A H q c) vs s
def ScrAt (p : PySem.Addr) (s : Script) : Prop := ∃ vs, H p = some (.lst vs) ∧ Cmds A H vs s
def TxtsAt (p : PySem.Addr) (l : List Bt) : Prop := H p = some (.lst (l.map vB))
def PlcAt (p : PySem.Addr) (q : Vasedb.Spot) : Prop := H p = some (.tup [vN q.k, vN (Vasedb.bit q.last)])
/-- a line worked, its lists at d, a, b -/
structure RunX (r dx d a b : PySem.Addr) (w : Work) : Prop where
  ob : H r = some (.ins A.LineRun dx (fs_LineRun (vB w.x) (.ref d) (.ref a) (.ref b) (vN w.left) (.bl w.gone) (.bl w.halt)))
  dn : H d = some (.lst (w.did.map vN))
  ah : H a = some (.lst (w.pre.map fun o => vB o.x))
  bh : H b = some (.lst (w.post.map fun o => vB o.x))
  da : d ≠ a
  db : d ≠ b
  ab : a ≠ b
def RunAt (r : PySem.Addr) (w : Work) : Prop := ∃ dx d a b, RunX A H r dx d a b w
def OutAt (s : Script) (p : PySem.Addr) (a : Vasedb.At) : Prop := ∃ dx pp pr, H p = some (.ins A.Outcome dx (fs_Outcome (.ref pp) (vB a.x) (.ref pr))) ∧ PlcAt H pp a.p ∧ RunAt A H pr (Vasedb.workAt s a.p a.x)
def Outs (s : Script) (vs : List V) (l : List Vasedb.At) : Prop := Two (fun v a => ∃ q, v = .ref q ∧ OutAt A H s q a) vs l
def OutsAt (s : Script) (p : PySem.Addr) (l : List Vasedb.At) : Prop := ∃ vs, H p = some (.lst vs) ∧ Outs A H s vs l
variable {A H}
variable {H' : Hp} {p : PySem.Addr}
theorem AdrAt.kp {a} (z : Apart A) (k : Kp A H H') (h : AdrAt A H p a) : AdrAt A H' p a := let ⟨dx, e⟩ := h; ⟨dx, k _ _ e (noM_ins z.h1 z.r1)⟩
theorem DeedAt.kp {d} (z : Apart A) (k : Kp A H H') (h : DeedAt A H p d) : DeedAt A H' p d := let ⟨dx, e⟩ := h; ⟨dx, k _ _ e (noM_ins z.h2 z.r2)⟩
theorem CmdAt.kp {c} (z : Apart A) (k : Kp A H H') (h : CmdAt A H p c) : CmdAt A H' p c := let ⟨dx, pa, pd, e, f, g⟩ := h; ⟨dx, pa, pd, k _ _ e (noM_ins z.h3 z.r3), f.kp z k, g.kp z k⟩
theorem Cmds.kp {vs s} (z : Apart A) (k : Kp A H H') (h : Cmds A H vs s) : Cmds A H' vs s := h.mono fun v c _ ⟨q, e, f⟩ => ⟨q, e, f.kp z k⟩
theorem ScrAt.kp {s} (z : Apart A) (k : Kp A H H') (h : ScrAt A H p s) : ScrAt A H' p s := let ⟨vs, e, f⟩ := h; ⟨vs, k _ _ e noM_lst, f.kp z k⟩
theorem TxtsAt.kp {l} (k : Kp A H H') (h : TxtsAt H p l) : TxtsAt H' p l := k _ _ h noM_lst
theorem PlcAt.kp {q} (k : Kp A H H') (h : PlcAt H p q) : PlcAt H' p q := k _ _ h noM_tup
theorem RunX.kp {r dx d a b w} (z : Apart A) (k : Kp A H H') (h : RunX A H r dx d a b w) : RunX A H' r dx d a b w :=
  ⟨k _ _ h.ob (noM_ins z.h5 z.r5), k _ _ h.dn noM_lst, k _ _ h.ah noM_lst, k _ _ h.bh noM_lst, h.da, h.db, h.ab⟩
theorem RunAt.kp {w} (z : Apart A) (k : Kp A H H') (h : RunAt A H p w) : RunAt A H' p w := let ⟨dx, d, a, b, e⟩ := h; ⟨dx, d, a, b, e.kp z k⟩
theorem OutAt.kp {s a} (z : Apart A) (k : Kp A H H') (h : OutAt A H s p a) : OutAt A H' s p a := let ⟨dx, pp, pr, e, f, g⟩ := h; ⟨dx, pp, pr, k _ _ e (noM_ins z.h6 z.r6), f.kp k, g.kp z k⟩
theorem Outs.kp {s vs l} (z : Apart A) (k : Kp A H H') (h : Outs A H s vs l) : Outs A H' s vs l := h.mono fun v c _ ⟨q, e, f⟩ => ⟨q, e, f.kp z k⟩
theorem OutsAt.kp {s l} (z : Apart A) (k : Kp A H H') (h : OutsAt A H s p l) : OutsAt A H' s p l := let ⟨vs, e, f⟩ := h; ⟨vs, k _ _ e noM_lst, f.kp z k⟩
end
end SK
set_option Elab.async false
set_option linter.all false
set_option maxRecDepth 100000
set_option maxHeartbeats 2000000
/-! rules whose readings speak of any heap that has the new object -/
namespace SK
open PySem PySem.Spec PyProof.Rows L2
theorem ifT {c : Bool} {X Y : Prop} (h : c = true) (q : X) : if c = true then X else Y := by
  rw [if_pos h]
  exact q
theorem ifF {c : Bool} {X Y : Prop} (h : c = false) (q : Y) : if c = true then X else Y := by
  rw [h, if_neg Bool.false_ne_true]
  exact q
theorem but1 {p : PySem.Addr} {H : Hp} {u : HO} : But [p] H (upd H p u) := But.upd (List.mem_singleton.mpr rfl)
theorem size0 : ([] : List V).length ≤ sizeLine := Nat.zero_le _
theorem few {n m : Nat} (h : n ≤ m) (hm : m ≤ 16777216) : n ≤ sizeLine := by rw [sizeLine_eq]; omega
theorem fewer {n m : Nat} (h : n ≤ m) (hm : m < 16777216) : n < sizeLine := by rw [sizeLine_eq]; omega
def Nw (H : Hp) (o : HO) (R : PySem.Addr → Hp → Prop) : Prop := ∀ p H', H p = none → H' p = some o → Same H H' → R p H'
theorem nw {H : Hp} {o : HO} {R : PySem.Addr → Hp → Prop} (h : Nw H o R) : ∀ p, H p = none → R p (upd H p o) := fun p n => h p _ n upd_same (same_new n)
section
variable {X : Cx} {e : Expr} {es : List Expr} {pos : Pos} {t : TA} {K : PySem.W.Frag}
theorem pe_imp {t t' : TE} (h : PE X e t) (i : ∀ σ H Q, t' σ H Q → t σ H Q) : PE X e t' := ⟨fun pins s σ H Q I q => h.run pins s σ H Q I (i σ H Q q)⟩
theorem ps_imp {st : Stmt} {t t' : TS} (h : PS X st t) (i : ∀ D σ H, t' D σ H → t D σ H) : PS X st t' := ⟨fun pins s σ H D I q => h.run pins s σ H D I (i D σ H q)⟩
theorem op_imp {f : Value → Value → Sem Value} {r r' : R2} (h : OpR X f r) (i : ∀ x y H Q, r' x y H Q → r x y H Q) : OpR X f r' := fun pins s σ H x y v u Q I rx ry q => h pins s σ H x y v u Q I rx ry (i x y H Q q)
theorem mt_imp {id : String} {r r' : V → List V → Hp → VK → Prop} (h : MtR X id r) (i : ∀ x y H Q, r' x y H Q → r x y H Q) : MtR X id r' := fun pins s σ H x y v u Q I rx ry q => h pins s σ H x y v u Q I rx ry (i x y H Q q)
theorem cr_imp {f : Value} {r r' : List V → Hp → VK → Prop} (h : CallR X f r) (i : ∀ x H Q, r' x H Q → r x H Q) : CallR X f r' := fun pins s σ H x u Q I rx q => h pins s σ H x u Q I rx (i x H Q q)
theorem sl_imp {r r' : V → Option Int → Option Int → Hp → VK → Prop} (h : SlR X r) (i : ∀ x l u H Q, r' x l u H Q → r x l u H Q) : SlR X r' := fun pins s σ H x v vl vu lo hi sl Q I rx hs pl pu q => h pins s σ H x v vl vu lo hi sl Q I rx hs pl pu (i x lo hi H Q q)
/-- [..] -/
def tLstA (t : TA) : TE := fun σ H Q => t σ H fun xs H1 => xs.length ≤ sizeLine ∧ Nw H1 (.lst xs) fun p H' => Q (.ref p) H'
def tTupA (t : TA) : TE := fun σ H Q => t σ H fun xs H1 => xs.length ≤ sizeLine ∧ Nw H1 (.tup xs) fun p H' => Q (.ref p) H'
def clA (t : TA) : TA := fun σ H R => ∃ Q', t σ H Q' ∧ ∀ xs H1, Q' xs H1 → R xs H1
def cl (t : TE) : TE := fun σ H R => ∃ Q', t σ H Q' ∧ ∀ x H1, Q' x H1 → R x H1
theorem pa_cl (h : PA X es t) : PA X es (clA t) := ⟨fun pos pins s σ H R I q => by
  obtain ⟨Q', q, i⟩ := q
  refine thn (h.run pos pins s σ H Q' I q) fun us s' hh => ?_
  obtain ⟨vs, H1, J, r, z⟩ := hh
  exact ⟨vs, H1, J, r, i vs H1 z⟩⟩
theorem pe_cl {t : TE} (h : PE X e t) : PE X e (cl t) := ⟨fun pins s σ H R I q => by
  obtain ⟨Q', q, i⟩ := q
  refine thn (h.run pins s σ H Q' I q) fun us s' hh => ?_
  obtain ⟨vs, H1, J, r, z⟩ := hh
  exact ⟨vs, H1, J, r, i vs H1 z⟩⟩
theorem pe_lstA (h : PA X es t) : PE X (.List es pos) (tLstA t) := pe_imp (pe_lst (pa_cl h)) fun σ H Q q => ⟨_, q, fun xs H1 z => ⟨z.1, nw z.2⟩⟩
theorem pe_tupA {x1} (h : PA X es t) : PE X (.Tuple es x1 pos) (tTupA t) := pe_imp (pe_tup (pa_cl h)) fun σ H Q q => ⟨_, q, fun xs H1 z => ⟨z.1, nw z.2⟩⟩
def rCatA : R2 := fun x y H Q => ∃ l b xs zs, x = .ref l ∧ y = .ref b ∧ H l = some (.lst xs) ∧ H b = some (.lst zs) ∧ xs.length + zs.length ≤ sizeLine ∧ Nw H (.lst (xs ++ zs)) fun p H' => Q (.ref p) H'
theorem op_catA : OpR X (binaryOp .Add) rCatA := op_imp op_cat fun x y H Q h => by
  obtain ⟨l, b, xs, zs, h1, h2, h3, h4, h5, n⟩ := h
  exact ⟨l, b, xs, zs, h1, h2, h3, h4, h5, nw n⟩
theorem rep1 (n : Nat) (v : V) : (List.replicate (n : Int).toNat [v]).flatten = List.replicate n v := by
  rw [Int.toNat_natCast]
  induction n with
  | zero => rfl
  | succ n ih =>
    rw [List.replicate_succ, List.flatten_cons, ih, List.replicate_succ]
    rfl
/-- [v] * n -/
def rRepA : R2 := fun x y H Q => ∃ (l : PySem.Addr) (n : Nat) (v : V), x = .ref l ∧ y = .int n ∧ H l = some (.lst [v]) ∧ n ≤ 1000 ∧ Nw H (.lst (List.replicate n v)) fun p H' => Q (.ref p) H'
theorem op_repA : OpR X (binaryOp .Mult) rRepA := op_imp op_rep fun x y H Q h => by
  obtain ⟨l, k, v, h1, h2, h3, h4, n⟩ := h
  refine ⟨l, (k : Int), [v], h1, h2, h3, by omega, by omega, few (m := 1000) (by simp; omega) (by decide), ?_⟩
  rw [rep1]
  exact nw n
def rSlA (K : PySem.W.Frag) : V → Option Int → Option Int → Hp → VK → Prop := fun x lo hi H Q => ∃ a xs, x = .ref a ∧ SqL K H a xs ∧ Nw H (.lst (cutV xs lo hi)) fun p H' => Q (.ref p) H'
theorem sl_listA : SlR X (rSlA X.K) := sl_imp sl_list fun x l u H Q h => by
  obtain ⟨a, xs, h1, h2, n⟩ := h
  exact ⟨a, xs, h1, h2, nw n⟩
def rAppA : V → List V → Hp → VK → Prop := fun x vs H Q => ∃ l xs y, x = .ref l ∧ vs = [y] ∧ H l = some (.lst xs) ∧ xs.length < sizeLine ∧ ∀ H', H' l = some (.lst (xs ++ [y])) → But [l] H H' → Q .non H'
theorem mt_appendA : MtR X "list.append" rAppA := mt_imp (r := rAppend) mt_append fun x vs H Q h => by
  obtain ⟨l, xs, y, h1, h2, h3, h4, n⟩ := h
  exact ⟨l, xs, y, h1, h2, h3, h4, n _ upd_same but1⟩
def rExtA : V → List V → Hp → VK → Prop := fun x vs H Q => ∃ l b xs zs, x = .ref l ∧ vs = [.ref b] ∧ H l = some (.lst xs) ∧ H b = some (.lst zs) ∧ xs.length + zs.length ≤ sizeLine ∧ ∀ H', H' l = some (.lst (xs ++ zs)) → But [l] H H' → Q .non H'
theorem mt_extendA : MtR X "list.extend" rExtA := mt_imp (r := rExtend) mt_extend fun x vs H Q h => by
  obtain ⟨l, b, xs, y, h1, h2, h3, h4, h5, n⟩ := h
  exact ⟨l, b, xs, y, h1, h2, h3, h4, h5, n _ upd_same but1⟩
theorem call_tupleA : CallR X (.type "tuple") (fun xs H Q => ∃ p ys, xs = [.ref p] ∧ H p = some (.lst ys) ∧ Nw H (.tup ys) fun l H' => Q (.ref l) H') := cr_imp call_tuple_of fun x H Q h => by
  obtain ⟨p, ys, h1, h2, n⟩ := h
  exact ⟨p, ys, h1, .inl ⟨SqL.of h2, nw n⟩⟩
theorem call_listDA (hc : X.calm = true) : CallR X (.type "list") (fun xs H Q => ∃ p kvs, xs = [.ref p] ∧ H p = some (.dK kvs) ∧ Nw H (.lst (kvs.map fun kv => kV kv.1)) fun l H' => Q (.ref l) H') := cr_imp (call_list_dK hc) fun x H Q h => by
  obtain ⟨p, ys, h1, h2, n⟩ := h
  exact ⟨p, ys, h1, h2, nw n⟩
theorem call_listVA (hc : X.calm = true) : CallR X (.type "list") (fun xs H Q => ∃ (v a : PySem.Addr) (kvs : NKs), xs = [.ref v] ∧ H v = some (vwO v a) ∧ H a = some (NkO X.prog X.w a kvs) ∧ Nw H (.lst (kvs.map fun z => z.2.2)) fun l H' => Q (.ref l) H') := cr_imp (call_listVw hc) fun x H Q h => by
  obtain ⟨p, a, ys, h1, h2, h3, n⟩ := h
  exact ⟨p, a, ys, h1, h2, h3, nw n⟩
theorem cr_setLA (hc : X.calm = true) : CallR X (.type "set") (fun xs H Q => ∃ (a : PySem.Addr) (ns : List Int), xs = [.ref a] ∧ SqL X.K H a (ns.map V.int) ∧ ns.length < 4000 ∧
    ∀ p c H', H p = none → H' p = some (SetO X.w p (fun j => decide (j ∈ ns)) c) → Same H H' → Q (.ref p) H') := cr_imp (cr_setL hc) fun x H Q h => by
  obtain ⟨a, ns, h1, h2, h3, n⟩ := h
  exact ⟨a, ns, h1, h2, by show _ + 1 < 4096; omega, fun p c hp => n p c _ hp upd_same (same_new hp)⟩
theorem cr_srtSA {m : Nat} (hc : X.calm = true) (hm : m < 64) : CallR X (.builtin "sorted") (fun vs H Q => ∃ (a : PySem.Addr) (S : Int → Bool) (n : Nat), vs = [V.ref a] ∧ H a = some (SetO X.w a S n) ∧ (∀ k : Int, S k = true → 0 ≤ k ∧ k < m) ∧
    ∀ (ns : List Int) (p : PySem.Addr) H', ns.Pairwise (· < ·) → (∀ k : Int, k ∈ ns ↔ S k = true) → H' p = some (.lst (ns.map V.int)) → Same H H' → Q (.ref p) H') := cr_imp (cr_srtS hc hm) fun x H Q h => by
  obtain ⟨a, S, k, h1, h2, h3, n⟩ := h
  exact ⟨a, S, k, h1, h2, h3, fun ns p s1 s2 hp => n ns p _ s1 s2 upd_same (same_new hp)⟩
/-- o.f = e -/
def sFldA (K : PySem.W.Frag) (ta tv : TE) (f : Str) : TS := fun D σ H => tv σ H fun y H1 => ta σ H1 fun x H2 => ∃ a C dx fs, x = .ref a ∧ H2 a = some (.ins C dx fs) ∧ Cls K C ∧ NoAttr K C f ∧ fs.length < 1000 ∧
  ∀ H', H' a = some (.ins C dx (putF f y fs)) → But [a] H2 H' → D.nx σ H'
theorem ps_fldA {o e : Expr} {f : Str} {p' pos : Pos} {to te : TE} (ho : PE X o to) (he : PE X e te) (hs : swapsWith e (some (.Attribute o f p')) pos.line X.env = pure false) : PS X (.Assign [.Attribute o f p'] e pos) (sFldA X.K to te f) :=
  ps_imp (ps_fld (pe_cl ho) (pe_cl he) hs) fun D σ H q => ⟨_, q, fun y H1 q1 => ⟨_, q1, fun x H2 h => by
    obtain ⟨a, C, dx, fs, h1, h2, h3, h4, h5, n⟩ := h
    exact ⟨a, C, dx, fs, h1, h2, h3, h4, h5, n _ upd_same but1⟩⟩⟩
end
/-! ### comprehensions -/
section
variable {J : It} {n : Nat} {G : Hp → Prop} {Y : Nat → Hp → V → Hp → Prop}
theorem lc_itA (w : Walk J n G Y) {g : TG} {tt : TT} {te : TE} {vs : List Nat} {σ : L2.St} {H1 : Hp} {D : PySem.Addr} {Qd : Hp → Prop} (out : Nat → List V) (hD : H1 D = none) (hG : ∀ H', Same H1 H' → G H') (h0 : out 0 = []) (hb : ∀ i, i ≤ n → (out i).length < sizeLine)
    (hs : ∀ i x H H', i < n → Same H1 H → Y i H x H' → ∀ (N : V → Hp → Prop) (M : Hp → Prop), (∀ y H4, Same H H4 → out (i + 1) = out i ++ [y] → N y H4) → (∀ H3, Same H H3 → out (i + 1) = out i → M H3) →
      g x (wipe σ vs) H' fun σ2 H2 => wipe σ2 vs = wipe σ vs ∧ tt σ2 H2 fun b H3 => if b = true then te σ2 H3 N else M H3)
    (hd : ∀ H', Same H1 H' → H' D = some (.lst (out n)) → Qd H') :
    ∃ W : Nat → Nat → Hp → Prop, (∃ m, W 0 m (upd H1 D (.lst []))) ∧ ∀ i m H, W i m H →
      (J.stop i H ∧ Qd H) ∨ (J.go i H ∧ ∃ Nx : Hp → Prop, (∀ H', Nx H' → ∃ m', m' < m ∧ W (i + 1) m' H') ∧ ∀ x H', J.yld i H x H' → g x (wipe σ vs) H' fun σ2 H2 => wipe σ2 vs = wipe σ vs ∧ tt σ2 H2 fun b H3 =>
        if b = true then te σ2 H3 fun y H4 => ∃ acc, H4 D = some (.lst acc) ∧ acc.length < sizeLine ∧ Nx (upd H4 D (.lst (acc ++ [y]))) else Nx H3) := by
  refine lc_it w (fun i H => Same H1 H ∧ H D = some (.lst (out i))) ⟨same_new hD, by rw [h0]; exact upd_same⟩ (fun i H _ p => hG H p.1) (fun i x H H' hi p y => ?_) fun H p => hd H p.1 p.2
  obtain ⟨s1, hd1⟩ := p
  refine hs i x H H' hi s1 y _ _ (fun z H4 s4 e => ?_) fun H3 s3 e => ?_
  · refine ⟨_, s4 _ _ hd1, hb i (Nat.le_of_lt hi), fun b o q => ?_, ?_⟩
    · rw [upd_ne (ne_of_none q hD)]
      exact s4 _ _ (s1 _ _ q)
    · rw [upd_same, e]
  · exact ⟨s1.trans s3, by rw [s3 _ _ hd1, e]⟩
end
end SK
set_option Elab.async false
set_option linter.all false
set_option maxRecDepth 100000
set_option maxHeartbeats 2000000
namespace SK
open PySem PySem.Spec PyProof.Rows L2
section
variable {P : Program} {w : World} {K : PySem.W.Frag} {mg : Str → Option Value} {base : Heap} {A : Ad}
def sp_Address_init (A : Ad) (K : PySem.W.Frag) : Sp := fun vs H Q _ => ∃ (p dx : PySem.Addr) (v0 v1 v2 v3 v4 : V), vs = [.ref p, v0, v1, v2, v3, v4] ∧ H p = some (.ins A.Address dx []) ∧
  ∀ H', H' p = some (.ins A.Address dx (fs_Address v0 v1 v2 v3 v4)) → But [p] H H' → Q .non H'
theorem ok_Address_init (T : Txt K mg A) (Z : Apart A) : ∃ f fd, FnOk P w K mg base CX0 1 f fd ["self", "nots", "name", "first", "final", "letters"] (sp_Address_init A K) ∧ Mk K A.Address f ∧ mg "Address" = some (.ref A.Address) ∧ Binds K fd ["self", "nots", "name", "first", "final", "letters"] [] := by
  obtain ⟨f, fd, F, hM, hm, hb⟩ := T.d_Address_init.ex
  refine ⟨f, fd, ?_, hM, hm, hb⟩
  refine F.ok sc_Address_init (fun vs H Q E h => by obtain ⟨p, dx, v0, v1, v2, v3, v4, rfl, hp, k⟩ := h; rfl) (fun cdv A' outer s H vs Q E hr h => ?_)
  obtain ⟨p, dx, v0, v1, v2, v3, v4, rfl, hp, k⟩ := h
  refine ⟨_, (pss_cons (ps_fld (pv 0) (pv 1) rfl)
  (pss_cons (ps_fld (pv 0) (pv 2) rfl)
  (pss_cons (ps_fld (pv 0) (pv 3) rfl)
  (pss_cons (ps_fld (pv 0) (pv 4) rfl)
  (pss_one (ps_fld (pv 0) (pv 5) rfl)))))), ?_⟩
  refine ⟨_, rfl, _, rfl, in_Address_nots T hp ?_⟩
  refine ⟨_, rfl, _, rfl, in_Address_name T upd_same ?_⟩
  refine ⟨_, rfl, _, rfl, in_Address_first T upd_same ?_⟩
  refine ⟨_, rfl, _, rfl, in_Address_final T upd_same ?_⟩
  refine ⟨_, rfl, _, rfl, in_Address_letters T upd_same ?_⟩
  exact k _ upd_same (((((But.upd (List.mem_singleton.mpr rfl)).trans (But.upd (List.mem_singleton.mpr rfl))).trans (But.upd (List.mem_singleton.mpr rfl))).trans (But.upd (List.mem_singleton.mpr rfl))).trans (But.upd (List.mem_singleton.mpr rfl)))
theorem mk_Address {A : Ad} {K : PySem.W.Frag} {H1 : Hp} {R : PySem.Addr → Hp → Prop} {E : XK} {v0 v1 v2 v3 v4 : V} (q : ∀ x dx H2, H2 x = some (.ins A.Address dx (fs_Address v0 v1 v2 v3 v4)) → Same H1 H2 → H1 x = none → R x H2) :
    ∀ x dx, H1 x = none → H1 dx = none → dx ≠ x → sp_Address_init A K (.ref x :: ([v0, v1, v2, v3, v4] ++ [])) (upd (upd H1 dx (.own x)) x (.ins A.Address dx [])) (fun v H2 => v = .non ∧ R x H2) E :=
  fun x dx nx nd ne => ⟨x, dx, v0, v1, v2, v3, v4, rfl, upd_same, fun H' e b => ⟨rfl, q x dx H' e (b.same ((same_new nd).trans (same_new (by rw [upd_ne (Ne.symm ne)]; exact nx))) (by simpa using nx)) nx⟩⟩
def sp_Deed_init (A : Ad) (K : PySem.W.Frag) : Sp := fun vs H Q _ => ∃ (p dx : PySem.Addr) (v0 v1 v2 v3 : V), vs = [.ref p, v0, v1, v2, v3] ∧ H p = some (.ins A.Deed dx []) ∧
  ∀ H', H' p = some (.ins A.Deed dx (fs_Deed v0 v1 v2 v3)) → But [p] H H' → Q .non H'
theorem ok_Deed_init (T : Txt K mg A) (Z : Apart A) : ∃ f fd, FnOk P w K mg base CX0 1 f fd ["self", "name", "letters", "other", "number"] (sp_Deed_init A K) ∧ Mk K A.Deed f ∧ mg "Deed" = some (.ref A.Deed) ∧ Binds K fd ["self", "name", "letters", "other", "number"] [] := by
  obtain ⟨f, fd, F, hM, hm, hb⟩ := T.d_Deed_init.ex
  refine ⟨f, fd, ?_, hM, hm, hb⟩
  refine F.ok sc_Deed_init (fun vs H Q E h => by obtain ⟨p, dx, v0, v1, v2, v3, rfl, hp, k⟩ := h; rfl) (fun cdv A' outer s H vs Q E hr h => ?_)
  obtain ⟨p, dx, v0, v1, v2, v3, rfl, hp, k⟩ := h
  refine ⟨_, (pss_cons (ps_fld (pv 0) (pv 1) rfl)
  (pss_cons (ps_fld (pv 0) (pv 2) rfl)
  (pss_cons (ps_fld (pv 0) (pv 3) rfl)
  (pss_one (ps_fld (pv 0) (pv 4) rfl))))), ?_⟩
  refine ⟨_, rfl, _, rfl, in_Deed_name T hp ?_⟩
  refine ⟨_, rfl, _, rfl, in_Deed_letters T upd_same ?_⟩
  refine ⟨_, rfl, _, rfl, in_Deed_other T upd_same ?_⟩
  refine ⟨_, rfl, _, rfl, in_Deed_number T upd_same ?_⟩
  exact k _ upd_same ((((But.upd (List.mem_singleton.mpr rfl)).trans (But.upd (List.mem_singleton.mpr rfl))).trans (But.upd (List.mem_singleton.mpr rfl))).trans (But.upd (List.mem_singleton.mpr rfl)))
theorem mk_Deed {A : Ad} {K : PySem.W.Frag} {H1 : Hp} {R : PySem.Addr → Hp → Prop} {E : XK} {v0 v1 v2 v3 : V} (q : ∀ x dx H2, H2 x = some (.ins A.Deed dx (fs_Deed v0 v1 v2 v3)) → Same H1 H2 → H1 x = none → R x H2) :
    ∀ x dx, H1 x = none → H1 dx = none → dx ≠ x → sp_Deed_init A K (.ref x :: ([v0, v1, v2, v3] ++ [])) (upd (upd H1 dx (.own x)) x (.ins A.Deed dx [])) (fun v H2 => v = .non ∧ R x H2) E :=
  fun x dx nx nd ne => ⟨x, dx, v0, v1, v2, v3, rfl, upd_same, fun H' e b => ⟨rfl, q x dx H' e (b.same ((same_new nd).trans (same_new (by rw [upd_ne (Ne.symm ne)]; exact nx))) (by simpa using nx)) nx⟩⟩
def sp_Command_init (A : Ad) (K : PySem.W.Frag) : Sp := fun vs H Q _ => ∃ (p dx : PySem.Addr) (v0 v1 : V), vs = [.ref p, v0, v1] ∧ H p = some (.ins A.Command dx []) ∧
  ∀ H', H' p = some (.ins A.Command dx (fs_Command v0 v1)) → But [p] H H' → Q .non H'
theorem ok_Command_init (T : Txt K mg A) (Z : Apart A) : ∃ f fd, FnOk P w K mg base CX0 1 f fd ["self", "address", "deed"] (sp_Command_init A K) ∧ Mk K A.Command f ∧ mg "Command" = some (.ref A.Command) ∧ Binds K fd ["self", "address", "deed"] [] := by
  obtain ⟨f, fd, F, hM, hm, hb⟩ := T.d_Command_init.ex
  refine ⟨f, fd, ?_, hM, hm, hb⟩
  refine F.ok sc_Command_init (fun vs H Q E h => by obtain ⟨p, dx, v0, v1, rfl, hp, k⟩ := h; rfl) (fun cdv A' outer s H vs Q E hr h => ?_)
  obtain ⟨p, dx, v0, v1, rfl, hp, k⟩ := h
  refine ⟨_, (pss_cons (ps_fld (pv 0) (pv 1) rfl)
  (pss_one (ps_fld (pv 0) (pv 2) rfl))), ?_⟩
  refine ⟨_, rfl, _, rfl, in_Command_address T hp ?_⟩
  refine ⟨_, rfl, _, rfl, in_Command_deed T upd_same ?_⟩
  exact k _ upd_same ((But.upd (List.mem_singleton.mpr rfl)).trans (But.upd (List.mem_singleton.mpr rfl)))
theorem mk_Command {A : Ad} {K : PySem.W.Frag} {H1 : Hp} {R : PySem.Addr → Hp → Prop} {E : XK} {v0 v1 : V} (q : ∀ x dx H2, H2 x = some (.ins A.Command dx (fs_Command v0 v1)) → Same H1 H2 → H1 x = none → R x H2) :
    ∀ x dx, H1 x = none → H1 dx = none → dx ≠ x → sp_Command_init A K (.ref x :: ([v0, v1] ++ [])) (upd (upd H1 dx (.own x)) x (.ins A.Command dx [])) (fun v H2 => v = .non ∧ R x H2) E :=
  fun x dx nx nd ne => ⟨x, dx, v0, v1, rfl, upd_same, fun H' e b => ⟨rfl, q x dx H' e (b.same ((same_new nd).trans (same_new (by rw [upd_ne (Ne.symm ne)]; exact nx))) (by simpa using nx)) nx⟩⟩
def sp_Token_init (A : Ad) (K : PySem.W.Frag) : Sp := fun vs H Q _ => ∃ (p dx : PySem.Addr) (v0 v1 v2 v3 : V), vs = [.ref p, v0, v1, v2, v3] ∧ H p = some (.ins A.Token dx []) ∧
  ∀ H', H' p = some (.ins A.Token dx (fs_Token v0 v1 v2 v3)) → But [p] H H' → Q .non H'
theorem ok_Token_init (T : Txt K mg A) (Z : Apart A) : ∃ f fd, FnOk P w K mg base CX0 1 f fd ["self", "kind", "value", "place", "behind"] (sp_Token_init A K) ∧ Mk K A.Token f ∧ mg "Token" = some (.ref A.Token) ∧ Binds K fd ["self", "kind", "value", "place", "behind"] [] := by
  obtain ⟨f, fd, F, hM, hm, hb⟩ := T.d_Token_init.ex
  refine ⟨f, fd, ?_, hM, hm, hb⟩
  refine F.ok sc_Token_init (fun vs H Q E h => by obtain ⟨p, dx, v0, v1, v2, v3, rfl, hp, k⟩ := h; rfl) (fun cdv A' outer s H vs Q E hr h => ?_)
  obtain ⟨p, dx, v0, v1, v2, v3, rfl, hp, k⟩ := h
  refine ⟨_, (pss_cons (ps_fld (pv 0) (pv 1) rfl)
  (pss_cons (ps_fld (pv 0) (pv 2) rfl)
  (pss_cons (ps_fld (pv 0) (pv 3) rfl)
  (pss_one (ps_fld (pv 0) (pv 4) rfl))))), ?_⟩
  refine ⟨_, rfl, _, rfl, in_Token_kind T hp ?_⟩
  refine ⟨_, rfl, _, rfl, in_Token_value T upd_same ?_⟩
  refine ⟨_, rfl, _, rfl, in_Token_place T upd_same ?_⟩
  refine ⟨_, rfl, _, rfl, in_Token_behind T upd_same ?_⟩
  exact k _ upd_same ((((But.upd (List.mem_singleton.mpr rfl)).trans (But.upd (List.mem_singleton.mpr rfl))).trans (But.upd (List.mem_singleton.mpr rfl))).trans (But.upd (List.mem_singleton.mpr rfl)))
theorem mk_Token {A : Ad} {K : PySem.W.Frag} {H1 : Hp} {R : PySem.Addr → Hp → Prop} {E : XK} {v0 v1 v2 v3 : V} (q : ∀ x dx H2, H2 x = some (.ins A.Token dx (fs_Token v0 v1 v2 v3)) → Same H1 H2 → H1 x = none → R x H2) :
    ∀ x dx, H1 x = none → H1 dx = none → dx ≠ x → sp_Token_init A K (.ref x :: ([v0, v1, v2, v3] ++ [])) (upd (upd H1 dx (.own x)) x (.ins A.Token dx [])) (fun v H2 => v = .non ∧ R x H2) E :=
  fun x dx nx nd ne => ⟨x, dx, v0, v1, v2, v3, rfl, upd_same, fun H' e b => ⟨rfl, q x dx H' e (b.same ((same_new nd).trans (same_new (by rw [upd_ne (Ne.symm ne)]; exact nx))) (by simpa using nx)) nx⟩⟩
def sp_Outcome_init (A : Ad) (K : PySem.W.Frag) : Sp := fun vs H Q _ => ∃ (p dx : PySem.Addr) (v0 v1 v2 : V), vs = [.ref p, v0, v1, v2] ∧ H p = some (.ins A.Outcome dx []) ∧
  ∀ H', H' p = some (.ins A.Outcome dx (fs_Outcome v0 v1 v2)) → But [p] H H' → Q .non H'
theorem ok_Outcome_init (T : Txt K mg A) (Z : Apart A) : ∃ f fd, FnOk P w K mg base CX0 1 f fd ["self", "place", "kind", "run"] (sp_Outcome_init A K) ∧ Mk K A.Outcome f ∧ mg "Outcome" = some (.ref A.Outcome) ∧ Binds K fd ["self", "place", "kind", "run"] [] := by
  obtain ⟨f, fd, F, hM, hm, hb⟩ := T.d_Outcome_init.ex
  refine ⟨f, fd, ?_, hM, hm, hb⟩
  refine F.ok sc_Outcome_init (fun vs H Q E h => by obtain ⟨p, dx, v0, v1, v2, rfl, hp, k⟩ := h; rfl) (fun cdv A' outer s H vs Q E hr h => ?_)
  obtain ⟨p, dx, v0, v1, v2, rfl, hp, k⟩ := h
  refine ⟨_, (pss_cons (ps_fld (pv 0) (pv 1) rfl)
  (pss_cons (ps_fld (pv 0) (pv 2) rfl)
  (pss_one (ps_fld (pv 0) (pv 3) rfl)))), ?_⟩
  refine ⟨_, rfl, _, rfl, in_Outcome_place T hp ?_⟩
  refine ⟨_, rfl, _, rfl, in_Outcome_kind T upd_same ?_⟩
  refine ⟨_, rfl, _, rfl, in_Outcome_run T upd_same ?_⟩
  exact k _ upd_same (((But.upd (List.mem_singleton.mpr rfl)).trans (But.upd (List.mem_singleton.mpr rfl))).trans (But.upd (List.mem_singleton.mpr rfl)))
theorem mk_Outcome {A : Ad} {K : PySem.W.Frag} {H1 : Hp} {R : PySem.Addr → Hp → Prop} {E : XK} {v0 v1 v2 : V} (q : ∀ x dx H2, H2 x = some (.ins A.Outcome dx (fs_Outcome v0 v1 v2)) → Same H1 H2 → H1 x = none → R x H2) :
    ∀ x dx, H1 x = none → H1 dx = none → dx ≠ x → sp_Outcome_init A K (.ref x :: ([v0, v1, v2] ++ [])) (upd (upd H1 dx (.own x)) x (.ins A.Outcome dx [])) (fun v H2 => v = .non ∧ R x H2) E :=
  fun x dx nx nd ne => ⟨x, dx, v0, v1, v2, rfl, upd_same, fun H' e b => ⟨rfl, q x dx H' e (b.same ((same_new nd).trans (same_new (by rw [upd_ne (Ne.symm ne)]; exact nx))) (by simpa using nx)) nx⟩⟩
def sp_Reader_init (A : Ad) (K : PySem.W.Frag) : Sp := fun vs H Q _ => ∃ (p dx : PySem.Addr) (v0 : V), vs = [.ref p, v0] ∧ H p = some (.ins A.Reader dx []) ∧
  ∀ H', H' p = some (.ins A.Reader dx (fs_Reader v0 (.int 0))) → But [p] H H' → Q .non H'
theorem ok_Reader_init (T : Txt K mg A) (Z : Apart A) : ∃ f fd, FnOk P w K mg base CX0 1 f fd ["self", "tokens"] (sp_Reader_init A K) ∧ Mk K A.Reader f ∧ mg "Reader" = some (.ref A.Reader) ∧ Binds K fd ["self", "tokens"] [] := by
  obtain ⟨f, fd, F, hM, hm, hb⟩ := T.d_Reader_init.ex
  refine ⟨f, fd, ?_, hM, hm, hb⟩
  refine F.ok sc_Reader_init (fun vs H Q E h => by obtain ⟨p, dx, v0, rfl, hp, k⟩ := h; rfl) (fun cdv A' outer s H vs Q E hr h => ?_)
  obtain ⟨p, dx, v0, rfl, hp, k⟩ := h
  refine ⟨_, (pss_cons (ps_fld (pv 0) (pv 1) rfl)
  (pss_one (ps_fld (pv 0) pe_int rfl))), ?_⟩
  refine ⟨_, rfl, _, rfl, in_Reader_tokens T hp ?_⟩
  refine ⟨_, rfl, in_Reader_at T upd_same ?_⟩
  exact k _ upd_same (but1.trans but1)
theorem mk_Reader {A : Ad} {K : PySem.W.Frag} {H1 : Hp} {R : PySem.Addr → Hp → Prop} {E : XK} {v0 : V} (q : ∀ x dx H2, H2 x = some (.ins A.Reader dx (fs_Reader v0 (.int 0))) → Same H1 H2 → H1 x = none → R x H2) :
    ∀ x dx, H1 x = none → H1 dx = none → dx ≠ x → sp_Reader_init A K (.ref x :: ([v0] ++ [])) (upd (upd H1 dx (.own x)) x (.ins A.Reader dx [])) (fun v H2 => v = .non ∧ R x H2) E :=
  fun x dx nx nd ne => ⟨x, dx, v0, rfl, upd_same, fun H' e b => ⟨rfl, q x dx H' e (b.same ((same_new nd).trans (same_new (by rw [upd_ne (Ne.symm ne)]; exact nx))) (by simpa using nx)) nx⟩⟩
def work0 (x : Bt) : Vaseda.Work := ⟨x, [], [], [], false, false, 0, [], false⟩
def sp_LineRun_init (A : Ad) (K : PySem.W.Frag) : Sp := fun vs H Q _ => ∃ (p dx : PySem.Addr) (x : Bt), vs = [.ref p, vB x] ∧ H p = some (.ins A.LineRun dx []) ∧
  ∀ H' d a b, RunX A H' p dx d a b (work0 x) → H d = none → H a = none → H b = none → But [p] H H' → Q .non H'
theorem ok_LineRun_init (T : Txt K mg A) (Z : Apart A) : ∃ f fd, FnOk P w K mg base CX0 1 f fd ["self", "line"] (sp_LineRun_init A K) ∧ Mk K A.LineRun f ∧ mg "LineRun" = some (.ref A.LineRun) ∧ Binds K fd ["self", "line"] [] := by
  obtain ⟨f, fd, F, hM, hm, hb⟩ := T.d_LineRun_init.ex
  refine ⟨f, fd, ?_, hM, hm, hb⟩
  refine F.ok sc_LineRun_init (fun vs H Q E h => by obtain ⟨p, dx, x, rfl, hp, k⟩ := h; rfl) (fun cdv A' outer s H vs Q E hr h => ?_)
  obtain ⟨p, dx, x, rfl, hp, k⟩ := h
  refine ⟨_, (pss_cons (ps_fld (pv 0) (pv 1) rfl)
  (pss_cons (ps_fld (pv 0) (pe_lst pa_nil) rfl)
  (pss_cons (ps_fld (pv 0) (pe_lst pa_nil) rfl)
  (pss_cons (ps_fld (pv 0) (pe_lst pa_nil) rfl)
  (pss_cons (ps_fld (pv 0) pe_int rfl)
  (pss_cons (ps_fld (pv 0) pe_bl rfl)
  (pss_one (ps_fld (pv 0) pe_bl rfl)))))))), ?_⟩
  refine ⟨_, rfl, _, rfl, in_LineRun_line T hp ?_⟩
  refine ⟨size0, fun d hd => ⟨_, rfl, in_LineRun_done T (by rw [upd_ne (ne_of_none upd_same hd)]; exact upd_same) ?_⟩⟩
  refine ⟨size0, fun a ha => ⟨_, rfl, in_LineRun_ahead T (by rw [upd_ne (ne_of_none upd_same ha)]; exact upd_same) ?_⟩⟩
  refine ⟨size0, fun b hb => ⟨_, rfl, in_LineRun_behind T (by rw [upd_ne (ne_of_none upd_same hb)]; exact upd_same) ?_⟩⟩
  refine ⟨_, rfl, in_LineRun_left_out T upd_same ?_⟩
  refine ⟨_, rfl, in_LineRun_deleted T upd_same ?_⟩
  refine ⟨_, rfl, in_LineRun_over T upd_same ?_⟩
  have pd : p ≠ d := ne_of_none upd_same hd
  have pa : p ≠ a := ne_of_none upd_same ha
  have pb : p ≠ b := ne_of_none upd_same hb
  rw [upd_ne (Ne.symm pd)] at hd
  rw [upd_ne (Ne.symm pa)] at ha
  rw [upd_ne (Ne.symm pb)] at hb
  have da : d ≠ a := ne_of_none upd_same ha
  rw [upd_ne (Ne.symm da), upd_ne (Ne.symm pa)] at ha
  have ab : a ≠ b := ne_of_none upd_same hb
  rw [upd_ne (Ne.symm ab), upd_ne (Ne.symm pb)] at hb
  have db : d ≠ b := ne_of_none upd_same hb
  rw [upd_ne (Ne.symm db), upd_ne (Ne.symm pb)] at hb
  refine k _ d a b ⟨upd_same, ?_, ?_, ?_, da, db, ab⟩ hd ha hb ?_
  · rw [upd_ne (Ne.symm pd), upd_ne (Ne.symm pd), upd_ne (Ne.symm pd), upd_ne (Ne.symm pd), upd_ne db, upd_ne (Ne.symm pd), upd_ne da, upd_ne (Ne.symm pd)]
    exact upd_same
  · rw [upd_ne (Ne.symm pa), upd_ne (Ne.symm pa), upd_ne (Ne.symm pa), upd_ne (Ne.symm pa), upd_ne ab, upd_ne (Ne.symm pa)]
    exact upd_same
  · rw [upd_ne (Ne.symm pb), upd_ne (Ne.symm pb), upd_ne (Ne.symm pb), upd_ne (Ne.symm pb)]
    exact upd_same
  · intro c o e n
    have nc : c ≠ p := fun z => n (z ▸ List.mem_singleton.mpr rfl)
    rw [upd_ne nc, upd_ne nc, upd_ne nc, upd_ne nc, upd_ne (ne_of_none e hb), upd_ne nc, upd_ne (ne_of_none e ha), upd_ne nc, upd_ne (ne_of_none e hd), upd_ne nc]
    exact e
theorem mk_LineRun {A : Ad} {K : PySem.W.Frag} {H1 : Hp} {R : PySem.Addr → Hp → Prop} {E : XK} {z : Bt} (q : ∀ x dx d a b H2, RunX A H2 x dx d a b (work0 z) → Same H1 H2 → H1 x = none → H1 d = none → H1 a = none → H1 b = none → R x H2) :
    ∀ x dx, H1 x = none → H1 dx = none → dx ≠ x → sp_LineRun_init A K (.ref x :: ([vB z] ++ [])) (upd (upd H1 dx (.own x)) x (.ins A.LineRun dx [])) (fun v H2 => v = .non ∧ R x H2) E :=
  fun x dx nx nd ne => by
    have s : Same H1 (upd (upd H1 dx (.own x)) x (.ins A.LineRun dx [])) := (same_new nd).trans (same_new (by rw [upd_ne (Ne.symm ne)]; exact nx))
    exact ⟨x, dx, z, rfl, upd_same, fun H' d a b R hd ha hb bt => ⟨rfl, q x dx d a b H' R (bt.same s (by simpa using nx)) nx (same_none s hd) (same_none s ha) (same_none s hb)⟩⟩
def sp_Holder_init (A : Ad) (K : PySem.W.Frag) : Sp := fun vs H Q _ => ∃ (p dx : PySem.Addr), vs = [.ref p] ∧ H p = some (.ins A.Holder dx []) ∧
  ∀ H' a b, H' p = some (.ins A.Holder dx (fs_Holder .non (.ref a) (.ref b))) → But [p] H H' → Q .non H'
theorem ok_Holder_init (T : Txt K mg A) (Z : Apart A) : ∃ f fd, FnOk P w K mg base CX0 1 f fd ["self"] (sp_Holder_init A K) ∧ Mk K A.Holder f ∧ mg "Holder" = some (.ref A.Holder) ∧ Binds K fd ["self"] [] := by
  obtain ⟨f, fd, F, hM, hm, hb⟩ := T.d_Holder_init.ex
  refine ⟨f, fd, ?_, hM, hm, hb⟩
  refine F.ok sc_Holder_init (fun vs H Q E h => by obtain ⟨p, dx, rfl, hp, k⟩ := h; rfl) (fun cdv A' outer s H vs Q E hr h => ?_)
  obtain ⟨p, dx, rfl, hp, k⟩ := h
  refine ⟨_, (pss_cons (ps_fld (pv 0) pe_non rfl)
  (pss_cons (ps_fld (pv 0) (pe_lst pa_nil) rfl)
  (pss_one (ps_fld (pv 0) (pe_lst pa_nil) rfl)))), ?_⟩
  refine ⟨_, rfl, in_Holder_commands T hp ?_⟩
  refine ⟨size0, fun a ha => ⟨_, rfl, in_Holder_kinds_held T (by rw [upd_ne (ne_of_none upd_same ha)]; exact upd_same) ?_⟩⟩
  refine ⟨size0, fun b hb => ⟨_, rfl, in_Holder_outcomes T (by rw [upd_ne (ne_of_none upd_same hb)]; exact upd_same) ?_⟩⟩
  refine k _ a b upd_same ?_
  exact (((but1.trans (same_but (same_new ha))).trans but1).trans (same_but (same_new hb))).trans but1
/-! ### the other small ones of commands.py -/
def sp_everywhere (A : Ad) (K : PySem.W.Frag) : Sp := fun vs H Q _ => vs = [] ∧ ∀ p H', AdrAt A H' p .all → Same H H' → Q (.ref p) H'
theorem ok_everywhere (T : Txt K mg A) (Z : Apart A) : ∃ f fd, FnOk P w K mg base CX0 3 f fd [] (sp_everywhere A K) ∧ mg "everywhere" = some (.ref f) ∧ PySem.W.keepIn K (.ref f) = true ∧ Binds K fd [] [] := by
  obtain ⟨f, fd, F, hm, hb⟩ := T.d_everywhere.ex
  obtain ⟨f_Address_init, fd_Address_init, G_Address_init, M_Address, m_Address, b_Address_init⟩ := ok_Address_init (P := P) (w := w) (base := base) T Z
  refine ⟨f, fd, ?_, hm, F.kp, hb⟩
  refine F.ok sc_everywhere (fun vs H Q E h => by obtain ⟨rfl, k⟩ := h; rfl) (fun cdv A' outer s H vs Q E hr h => ?_)
  obtain ⟨rfl, k⟩ := h
  refine ⟨_, (pss_one (ps_ret (pe_make M_Address G_Address_init (hr.mono (by decide)) rfl m_Address b_Address_init .nil pass0 (pa_cons pe_int (pa_cons pe_str (pa_cons pe_int (pa_cons pe_int (pa_cons pe_str pa_nil)))))))), ?_⟩
  refine mk_Address fun x dx H2 e s _ => ?_
  exact k x H2 ⟨dx, e⟩ s
def sp_never_done (A : Ad) (K : PySem.W.Frag) : Sp := fun vs H Q _ => vs = [] ∧ ∀ p H', CmdAt A H' p Vasedb.never → Same H H' → Q (.ref p) H'
theorem ok_never_done (T : Txt K mg A) (Z : Apart A) : ∃ f fd, FnOk P w K mg base CX0 3 f fd [] (sp_never_done A K) ∧ mg "never_done" = some (.ref f) ∧ PySem.W.keepIn K (.ref f) = true ∧ Binds K fd [] [] := by
  obtain ⟨f, fd, F, hm, hb⟩ := T.d_never_done.ex
  obtain ⟨f_Address_init, fd_Address_init, G_Address_init, M_Address, m_Address, b_Address_init⟩ := ok_Address_init (P := P) (w := w) (base := base) T Z
  obtain ⟨f_Command_init, fd_Command_init, G_Command_init, M_Command, m_Command, b_Command_init⟩ := ok_Command_init (P := P) (w := w) (base := base) T Z
  obtain ⟨f_Deed_init, fd_Deed_init, G_Deed_init, M_Deed, m_Deed, b_Deed_init⟩ := ok_Deed_init (P := P) (w := w) (base := base) T Z
  refine ⟨f, fd, ?_, hm, F.kp, hb⟩
  refine F.ok sc_never_done (fun vs H Q E h => by obtain ⟨rfl, k⟩ := h; rfl) (fun cdv A' outer s H vs Q E hr h => ?_)
  obtain ⟨rfl, k⟩ := h
  refine ⟨_, (pss_one (ps_ret (pe_make M_Command G_Command_init (hr.mono (by decide)) rfl m_Command b_Command_init .nil pass0 (pa_cons (pe_make M_Address G_Address_init (hr.mono (by decide)) rfl m_Address b_Address_init .nil pass0 (pa_cons pe_int (pa_cons pe_str (pa_cons pe_int (pa_cons pe_int (pa_cons pe_str pa_nil)))))) (pa_cons (pe_make M_Deed G_Deed_init (hr.mono (by decide)) rfl m_Deed b_Deed_init .nil pass0 (pa_cons pe_str (pa_cons pe_str (pa_cons pe_str (pa_cons pe_int pa_nil))))) pa_nil))))), ?_⟩
  refine mk_Address fun x dx H2 e s _ => ?_
  refine mk_Deed fun y dy H3 e3 s3 _ => ?_
  refine mk_Command fun z dz H4 e4 s4 _ => ?_
  exact k z H4 ⟨dz, x, y, e4, ⟨dx, s4 _ _ (s3 _ _ e)⟩, ⟨dy, s4 _ _ e3⟩⟩ ((s.trans s3).trans s4)
end
end SK
set_option Elab.async false
set_option linter.all false
set_option maxRecDepth 100000
set_option maxHeartbeats 2000000
namespace SK
open PySem PySem.Spec PyProof.Rows L2
section
variable {P : Program} {w : World} {K : PySem.W.Frag} {mg : Str → Option Value} {base : Heap} {A : Ad}
theorem cut_to (xs : List V) (n : Nat) (h : n ≤ xs.length) : cutV xs none (some (n : Int)) = xs.take n := by
  unfold cutV
  rw [HT.sIx_nat, HT.sIx_none, Nat.min_eq_left h, List.drop_zero, Nat.sub_zero]
theorem cut_from (xs : List V) (n : Nat) (h : n ≤ xs.length) : cutV xs (some (n : Int)) none = xs.drop n := by
  unfold cutV
  rw [HT.sIx_nat, HT.sIx_none, Nat.min_eq_left h, List.take_of_length_le (by rw [List.length_drop]; exact Nat.le_refl _)]
theorem cut_mid (xs : List V) (n m : Nat) (h : n ≤ xs.length) (k : m ≤ xs.length) : cutV xs (some (n : Int)) (some (m : Int)) = (xs.drop n).take (m - n) := by
  unfold cutV
  rw [HT.sIx_nat, HT.sIx_nat, Nat.min_eq_left h, Nat.min_eq_left k]
/-- a list by its two halves -/
theorem up2 {H : Hp} {p q : PySem.Addr} {o u : HO} (hp : H p = none) (hq : upd H p o q = none) : upd (upd H p o) q u p = some o := by
  rw [upd_ne (ne_of_none upd_same hq)]
  exact upd_same
theorem same2 {H : Hp} {p q : PySem.Addr} {o u : HO} (hp : H p = none) (hq : upd H p o q = none) : Same H (upd (upd H p o) q u) := (same_new hp).trans (same_new hq)
section
open Vaseda (Script Deed)
def sp_taken_out (A : Ad) (K : PySem.W.Frag) : Sp := fun vs H Q _ => ∃ (c : PySem.Addr) (s : Script) (n : Nat), vs = [.ref c, vN n] ∧ ScrAt A H c s ∧ s.length ≤ 16 ∧ n < s.length ∧ ∀ p H', ScrAt A H' p (s.eraseIdx n) → Same H H' → Q (.ref p) H'
theorem ok_taken_out (T : Txt K mg A) (Z : Apart A) : ∃ f fd, FnOk P w K mg base CX0 1 f fd ["commands", "number"] (sp_taken_out A K) ∧ mg "taken_out" = some (.ref f) ∧ PySem.W.keepIn K (.ref f) = true ∧ Binds K fd ["commands", "number"] [] := by
  obtain ⟨f, fd, F, hm, hb⟩ := T.d_taken_out.ex
  refine ⟨f, fd, ?_, hm, F.kp, hb⟩
  refine F.ok sc_taken_out (fun vs H Q E h => by obtain ⟨c, s, n, rfl, ⟨vs, hc, hs⟩, few1, hn, k⟩ := h; rfl) (fun cdv A' outer s H vs Q E hr h => ?_)
  obtain ⟨c, s, n, rfl, ⟨vs, hc, hs⟩, few1, hn, k⟩ := h
  refine ⟨_, (pss_one (ps_ret (pe_op op_cat (pe_slice sl_list (pv 0) po_none (po_some (pv 1))) (pe_slice sl_list (pv 0) (po_some (pe_op op_add (pv 1) pe_int)) po_none)))), ?_⟩
  have hl := hs.1
  refine ⟨_, rfl, _, rfl, n, rfl, c, vs, rfl, SqL.of hc, fun p hp => ?_⟩
  refine ⟨_, rfl, _, rfl, _, _, rfl, rfl, _, rfl, c, vs, rfl, SqL.of (same_new hp _ _ hc), fun q hq => ?_⟩
  refine ⟨p, q, _, _, rfl, rfl, up2 hp hq, upd_same, ?_, fun r hr' => ?_⟩
  · have h1 := cutV_length vs none (some (n : Int))
    have h2 := cutV_length vs (some ((n : Int) + 1)) none
    exact few (m := 32) (by omega) (by decide)
  · have S := (same2 (u := .lst (cutV vs (some ((n : Int) + 1)) none)) hp hq).trans (same_new (o := .lst (cutV vs none (some (n : Int)) ++ cutV vs (some ((n : Int) + 1)) none)) hr')
    refine k r _ ⟨_, upd_same, ?_⟩ S
    rw [cut_to vs n (by omega), show ((n : Int) + 1) = ((n + 1 : Nat) : Int) from rfl, cut_from vs (n + 1) (by omega), List.eraseIdx_eq_take_drop_succ]
    rw [cut_to vs n (by omega), show ((n : Int) + 1) = ((n + 1 : Nat) : Int) from rfl, cut_from vs (n + 1) (by omega)] at S
    exact Cmds.kp Z (same_kp S) ((hs.take n).app (hs.drop (n + 1)))
def sp_without (A : Ad) (K : PySem.W.Frag) : Sp := fun vs H Q _ => ∃ (c : PySem.Addr) (s : Script) (n : Nat), vs = [.ref c, vN n] ∧ ScrAt A H c s ∧ s.length ≤ 16 ∧ n < s.length ∧ ∀ p H', ScrAt A H' p (Vasedb.without s n) → Same H H' → Q (.ref p) H'
theorem ok_without (T : Txt K mg A) (Z : Apart A) : ∃ f fd, FnOk P w K mg base CX0 4 f fd ["commands", "number"] (sp_without A K) ∧ mg "without" = some (.ref f) ∧ PySem.W.keepIn K (.ref f) = true ∧ Binds K fd ["commands", "number"] [] := by
  obtain ⟨f, fd, F, hm, hb⟩ := T.d_without.ex
  obtain ⟨f_never_done, fd_never_done, G_never_done, m_never_done, k_never_done, b_never_done⟩ := ok_never_done (P := P) (w := w) (base := base) T Z
  refine ⟨f, fd, ?_, hm, F.kp, hb⟩
  refine F.ok sc_without (fun vs H Q E h => by obtain ⟨c, s, n, rfl, ⟨vs, hc, hs⟩, few1, hn, k⟩ := h; rfl) (fun cdv A' outer s H vs Q E hr h => ?_)
  obtain ⟨c, s, n, rfl, ⟨vs, hc, hs⟩, few1, hn, k⟩ := h
  refine ⟨_, (pss_one (ps_ret (pe_op op_cat (pe_op op_cat (pe_slice sl_list (pv 0) po_none (po_some (pv 1))) (pe_lst (pa_cons (pe_call0 G_never_done (hr.mono (by decide)) rfl m_never_done k_never_done b_never_done .nil pass0) pa_nil))) (pe_slice sl_list (pv 0) (po_some (pe_op op_add (pv 1) pe_int)) po_none)))), ?_⟩
  have hl := hs.1
  refine ⟨_, rfl, _, rfl, n, rfl, c, vs, rfl, SqL.of hc, fun p hp => ?_⟩
  rw [cut_to vs n (by omega)]
  refine ⟨rfl, fun x H1 hx s1 => ⟨by show 1 ≤ sizeLine; exact few (Nat.le_refl 1) (by decide), fun y hy => ?_⟩⟩
  have s2 : Same (upd H p (.lst (vs.take n))) (upd H1 y (.lst [.ref x])) := s1.trans (same_new hy)
  refine ⟨p, y, _, _, rfl, rfl, s2 _ _ upd_same, upd_same, few (m := 17) (by rw [List.length_take]; show _ + 1 ≤ _; omega) (by decide), fun z hz => ?_⟩
  have s3 := (same_new hp).trans (s2.trans (same_new (o := .lst (vs.take n ++ [.ref x])) hz))
  refine ⟨_, rfl, _, rfl, _, _, rfl, rfl, _, rfl, c, vs, rfl, SqL.of (s3 _ _ hc), fun q hq => ?_⟩
  rw [show ((n : Int) + 1) = ((n + 1 : Nat) : Int) from rfl, cut_from vs (n + 1) (by omega)]
  refine ⟨z, q, _, _, rfl, rfl, up2 hz hq, upd_same, few (m := 64) (by simp; omega) (by decide), fun r hr' => ?_⟩
  have s4 := s3.trans ((same_new (o := .lst (vs.drop (n + 1))) hq).trans (same_new (o := .lst (vs.take n ++ [.ref x] ++ vs.drop (n + 1))) hr'))
  have s5 := ((same_new (o := .lst [V.ref x]) hy).trans (same2 (o := .lst (vs.take n ++ [.ref x])) hz hq)).trans (same_new (o := .lst (vs.take n ++ [.ref x] ++ vs.drop (n + 1))) hr')
  refine k r _ ⟨_, upd_same, ?_⟩ s4
  rw [MK.without_is s n hn, show s.take n ++ Vasedb.never :: s.drop (n + 1) = s.take n ++ [Vasedb.never] ++ s.drop (n + 1) from List.append_cons ..]
  exact ((Cmds.kp Z (same_kp s4) (hs.take n)).app (Two.one ⟨x, rfl, hx.kp Z (same_kp s5)⟩)).app (Cmds.kp Z (same_kp s4) (hs.drop (n + 1)))
def sp_turned (A : Ad) (K : PySem.W.Frag) : Sp := fun vs H Q _ => ∃ (c : PySem.Addr) (s : Script) (n : Nat), vs = [.ref c, vN n] ∧ ScrAt A H c s ∧ s.length ≤ 16 ∧ n + 1 < s.length ∧ ∀ p H', ScrAt A H' p (Vasedb.turned s n) → Same H H' → Q (.ref p) H'
theorem ok_turned (T : Txt K mg A) (Z : Apart A) : ∃ f fd, FnOk P w K mg base CX0 1 f fd ["commands", "number"] (sp_turned A K) ∧ mg "turned" = some (.ref f) ∧ PySem.W.keepIn K (.ref f) = true ∧ Binds K fd ["commands", "number"] [] := by
  obtain ⟨f, fd, F, hm, hb⟩ := T.d_turned.ex
  refine ⟨f, fd, ?_, hm, F.kp, hb⟩
  refine F.ok sc_turned (fun vs H Q E h => by obtain ⟨c, s, n, rfl, ⟨vs, hc, hs⟩, few1, hn, k⟩ := h; rfl) (fun cdv A' outer s H vs Q E hr h => ?_)
  obtain ⟨c, s, n, rfl, ⟨vs, hc, hs⟩, few1, hn, k⟩ := h
  refine ⟨_, (pss_one (ps_ret (pe_op op_cat (pe_op op_cat (pe_slice sl_list (pv 0) po_none (po_some (pv 1))) (pe_lst (pa_cons (pe_ix ix_list (pv 0) (pe_op op_add (pv 1) pe_int) (fun _ _ => rfl)) (pa_cons (pe_ix ix_list (pv 0) (pv 1) (fun _ _ => rfl)) pa_nil)))) (pe_slice sl_list (pv 0) (po_some (pe_op op_add (pv 1) pe_int)) po_none)))), ?_⟩
  have hl := hs.1
  obtain ⟨v1, e1, q1, rfl, g1⟩ := hs.of (List.getElem?_eq_getElem (show n < s.length by omega))
  obtain ⟨v2, e2, q2, rfl, g2⟩ := hs.of (List.getElem?_eq_getElem hn)
  refine ⟨_, rfl, _, rfl, n, rfl, c, vs, rfl, SqL.of hc, fun p hp => ?_⟩
  rw [cut_to vs n (by omega)]
  have s1 := same_new (o := .lst (vs.take n)) hp
  refine ⟨_, rfl, _, rfl, _, _, rfl, rfl, c, vs, _, _, rfl, rfl, SqL.of (s1 _ _ hc), atI_nat e2, ?_⟩
  refine ⟨_, rfl, _, rfl, c, vs, _, _, rfl, rfl, SqL.of (s1 _ _ hc), atI_nat e1, ?_⟩
  refine ⟨few (n := 2) (Nat.le_refl 2) (by decide), fun y hy => ?_⟩
  refine ⟨p, y, _, _, rfl, rfl, up2 hp hy, upd_same, few (m := 18) (by rw [List.length_take]; show _ + 2 ≤ _; omega) (by decide), fun z hz => ?_⟩
  have s3 := (same2 (u := .lst [V.ref q2, V.ref q1]) hp hy).trans (same_new (o := .lst (vs.take n ++ [V.ref q2, V.ref q1])) hz)
  refine ⟨_, rfl, _, rfl, _, _, rfl, rfl, _, rfl, c, vs, rfl, SqL.of (s3 _ _ hc), fun q hq => ?_⟩
  rw [show ((n : Int) + 2) = ((n + 2 : Nat) : Int) from rfl, cut_from vs (n + 2) (by omega)]
  refine ⟨z, q, _, _, rfl, rfl, up2 hz hq, upd_same, few (m := 64) (by simp; omega) (by decide), fun r hr' => ?_⟩
  have s4 := s3.trans ((same_new (o := .lst (vs.drop (n + 2))) hq).trans (same_new (o := .lst (vs.take n ++ [V.ref q2, V.ref q1] ++ vs.drop (n + 2))) hr'))
  refine k r _ ⟨_, upd_same, ?_⟩ s4
  rw [MK.turned_is s n (List.getElem?_eq_getElem (show n < s.length by omega)) (List.getElem?_eq_getElem hn), show ∀ (a b : Vaseda.Cmd) (l m : Script), l ++ a :: b :: m = l ++ [a, b] ++ m from fun a b l m => by simp]
  exact ((Cmds.kp Z (same_kp s4) (hs.take n)).app (Two.cons ⟨q2, rfl, g2.kp Z (same_kp s4)⟩ (Two.one ⟨q1, rfl, g1.kp Z (same_kp s4)⟩))).app (Cmds.kp Z (same_kp s4) (hs.drop (n + 2)))
/-! ### has_skip -/
def isSkip (c : Vaseda.Cmd) : Bool := match c.d with
  | .skip _ => true
  | _ => false
theorem skip_name (c : Vaseda.Cmd) : decide (V.str (dName c.d) = V.str "skip") = isSkip c := by
  obtain ⟨a, d⟩ := c
  cases d <;> kernel_rfl
def sp_has_skip (A : Ad) (K : PySem.W.Frag) : Sp := fun vs H Q _ => ∃ (c : PySem.Addr) (s : Script), vs = [.ref c] ∧ ScrAt A H c s ∧ s.length ≤ 16 ∧ ∀ H', Same H H' → Q (.bl (Vasedb.hasSkip s)) H'
theorem ok_has_skip (T : Txt K mg A) (Z : Apart A) : ∃ f fd, FnOk P w K mg base CX0 1 f fd ["commands"] (sp_has_skip A K) ∧ mg "has_skip" = some (.ref f) ∧ PySem.W.keepIn K (.ref f) = true ∧ Binds K fd ["commands"] [] := by
  obtain ⟨f, fd, F, hm, hb⟩ := T.d_has_skip.ex
  refine ⟨f, fd, ?_, hm, F.kp, hb⟩
  refine F.ok sc_has_skip (fun vs H Q E h => by obtain ⟨c, s, rfl, ⟨vs, hc, hs⟩, few1, k⟩ := h; rfl) (fun cdv A' outer s H vs Q E hr h => ?_)
  obtain ⟨c, s, rfl, ⟨vs, hc, hs⟩, few1, k⟩ := h
  refine ⟨_, (pss_one (ps_ret (pe_callB (cr_any rfl) (by rfl) T.z_any (by decide +kernel) (pa_cons (pe_lc (own := [("command", 1)]) (g := gName 1) rfl sc_has_skip.nd (pi_list (pv 0)) (blkOk_by (N := N_has_skip) (sc := defScope s_has_skip) (by decide +kernel))
   (fun _ _ _ _ _ => pg_name (i := 1) sc_has_skip.nd rfl (Or.inl rfl)) (fun _ _ _ _ _ => by exact pts_nil) (fun _ _ _ _ _ => by exact (pe_cmpR op_eq (pe_fldK (K := K) (pe_fldK (K := K) (pv 1) rfl) rfl) pe_str (nomark _)))) pa_nil)))), ?_⟩
  have hl := hs.1
  refine ⟨_, rfl, c, rfl, ⟨vs, SqL.of hc⟩, fun D hD => ?_⟩
  refine lc_list (K := K) (a := c) (xs := vs) (fun i H' => Same H H' ∧ H' D = some (.lst ((s.take i).map fun c => V.bl (isSkip c)))) ⟨same_new hD, by simpa using upd_same⟩ (fun i H' _ ⟨s5, _⟩ => SqL.of (s5 _ _ hc)) ?_ ?_
  · rintro i v H1 hi ⟨s1, hd⟩
    obtain ⟨c1, e1, q1, rfl, dx, pa, pd, o1, _, dd, o2⟩ := hs.at hi
    refine ⟨rfl, ?_⟩
    refine ⟨_, rfl, ?_⟩
    refine ⟨_, _, _, _, _, rfl, (s1 _ _ o1), T.c_Command.cl, T.c_Command.no _ (by simp), lk_Command_deed, ?_⟩
    refine ⟨_, _, _, _, _, rfl, (s1 _ _ o2), T.c_Deed.cl, T.c_Deed.no _ (by simp), lk_Deed_name, ?_⟩
    refine ⟨rfl, _, hd, ?_, ?_, ?_⟩
    · rw [sizeLine_eq, List.length_map, List.length_take]
      omega
    · intro b o e
      rw [upd_ne (ne_of_none e hD)]
      exact s1 b o e
    · rw [take_more e1, List.map_append, upd_same, skip_name]
      rfl
  · rintro H1 ⟨s1, hd⟩
    refine ⟨D, (s.map isSkip), rfl, SqL.of ?_, ?_⟩
    · rw [hd, hl, List.take_length, List.map_map]
      rfl
    · rw [List.any_map]
      exact k H1 s1
end
end
end SK
set_option Elab.async false
set_option linter.all false
set_option maxRecDepth 100000
set_option maxHeartbeats 2000000
namespace SK
open PySem PySem.Spec PyProof.Rows L2
section
variable {P : Program} {w : World} {K : PySem.W.Frag} {mg : Str → Option Value} {base : Heap} {A : Ad}
theorem str_num (n : Nat) : (Str.ofString (toString ((n : Nat) : Int))) = sB (VasedBase.showNat n) := by
  have h := TL.tl_num n
  have e : (sB (VasedBase.showNat n)).cps.toList = TL.numL n := by
    rw [sB_list]
    unfold VasedBase.showNat
    rw [List.map_map]
    refine List.map_congr_left fun c hc => ?_
    have d := TL.numL_digits n c.toNat (List.mem_map_of_mem hc)
    show (UInt8.ofNat c.toNat).toNat = c.toNat
    rw [UInt8.toNat_ofNat']
    omega
  have e2 : (Str.ofString (toString ((n : Nat) : Int))).cps.toList = (sB (VasedBase.showNat n)).cps.toList := by
    rw [e]
    exact h
  have e3 := Array.ext' e2
  generalize Str.ofString (toString ((n : Nat) : Int)) = x at *
  generalize sB (VasedBase.showNat n) = y at *
  cases x
  cases y
  exact congrArg Str.mk e3
theorem log_small {n : Nat} (h : n ≤ 100000) : ((n : Int).natAbs).log2 < 1920 := by
  have e : (n : Int).natAbs = n := by omega
  rw [e]
  by_cases z : n = 0
  · subst z
    decide
  · have h2 : n.log2 < 17 := (Nat.log2_lt z).mpr (Nat.lt_of_le_of_lt h (by decide))
    omega
section
open Vaseda (Script Deed Cmd)
/-- an address without its nots -/
def base_ : Vaseda.Addr → Vaseda.Addr
  | .not a => base_ a
  | a => a
theorem base_name : ∀ a, aName a = aName (base_ a)
  | .not a => base_name a
  | .all | .line _ | .span _ _ | .last | .has _ | .is_ _ => rfl
theorem base_first : ∀ a, aFirst a = aFirst (base_ a)
  | .not a => base_first a
  | .all | .line _ | .span _ _ | .last | .has _ | .is_ _ => rfl
theorem base_final : ∀ a, aFinal a = aFinal (base_ a)
  | .not a => base_final a
  | .all | .line _ | .span _ _ | .last | .has _ | .is_ _ => rfl
theorem base_letters : ∀ a, aLetters a = aLetters (base_ a)
  | .not a => base_letters a
  | .all | .line _ | .span _ _ | .last | .has _ | .is_ _ => rfl
theorem base_words : ∀ a, MK.baseW a = MK.baseW (base_ a)
  | .not a => base_words a
  | .all | .line _ | .span _ _ | .last | .has _ | .is_ _ => rfl
theorem base_not : ∀ a b, base_ a ≠ .not b
  | .not a, b, h => base_not a b h
  | .all, _, h | .line _, _, h | .span _ _, _, h | .last, _, h | .has _, _, h | .is_ _, _, h => by cases h
theorem nots_nts : ∀ a, nots a = MK.nts a
  | .not a => congrArg (· + 1) (nots_nts a)
  | .all | .line _ | .span _ _ | .last | .has _ | .is_ _ => rfl
theorem nots0 : ∀ a, nots a = 0 → base_ a = a
  | .not a, h => by cases h
  | .all, _ | .line _, _ | .span _ _, _ | .last, _ | .has _, _ | .is_ _, _ => rfl
/-- numbers and letters of an address that is read -/
structure AdrFew (a : Vaseda.Addr) : Prop where
  n : nots a ≤ 3
  f : aFirst a ≤ 99
  l : aFinal a ≤ 99
  w : (aLetters a).length ≤ 8
structure DeedFew (d : Deed) : Prop where
  n : dNum d ≤ 9
  w : (dLetters d).length ≤ 8
  o : (dOther d).length ≤ 8
structure CmdFew (c : Cmd) : Prop where
  a : AdrFew c.a
  d : DeedFew c.d
def sp_address_words (A : Ad) (K : PySem.W.Frag) : Sp := fun vs H Q _ => ∃ (p : PySem.Addr) (a : Vaseda.Addr), vs = [.ref p] ∧ AdrAt A H p a ∧ AdrFew a ∧ ∀ q H', TxtsAt H' q (MK.adrWords a) → Same H H' → Q (.ref q) H'
theorem ok_address_words (T : Txt K mg A) (Z : Apart A) : ∃ f fd, FnOk P w K mg base CX0 1 f fd ["address"] (sp_address_words A K) ∧ mg "address_words" = some (.ref f) ∧ PySem.W.keepIn K (.ref f) = true ∧ Binds K fd ["address"] [] := by
  obtain ⟨f, fd, F, hm, hb⟩ := T.d_address_words.ex
  refine ⟨f, fd, ?_, hm, F.kp, hb⟩
  refine F.ok sc_address_words (fun vs H Q E h => by obtain ⟨p, a, rfl, ⟨dx, hp⟩, fw, k⟩ := h; rfl) (fun cdv A' outer s H vs Q E hr h => ?_)
  obtain ⟨p, a, rfl, ⟨dx, hp⟩, fw, k⟩ := h
  refine ⟨_, (pss_cons (ps_if (PW.pt (pw_and (pt_cmpR op_eq (pe_fldK (K := K) (pv 0) rfl) pe_int (nomark _)) (pw_and1 (pt_cmpR op_eq (pe_fldK (K := K) (pv 0) rfl) pe_str (nomark _))))) (pss_one (ps_ret (pe_lstA pa_nil))) pss_nil)
  (pss_cons (ps_set (i := 1) sc_address_words.nd rfl (by first | exact Or.inl rfl | exact Or.inr rfl) (pe_op op_catA (pe_lstA (pa_cons pe_str pa_nil)) (pe_op op_repA (pe_lstA (pa_cons pe_str pa_nil)) (pe_fldK (K := K) (pv 0) rfl))))
  (pss_cons (ps_if (pt_cmpR op_eq (pe_fldK (K := K) (pv 0) rfl) pe_str (nomark _)) (pss_one (ps_ret (pe_op op_catA (pv 1) (pe_lstA (pa_cons pe_str (pa_cons (pe_callTy call_str_int (by rfl) T.z_str (by decide +kernel) (pa_cons (pe_fldK (K := K) (pv 0) rfl) pa_nil)) pa_nil)))))) pss_nil)
  (pss_cons (ps_if (pt_cmpR op_eq (pe_fldK (K := K) (pv 0) rfl) pe_str (nomark _)) (pss_one (ps_ret (pe_op op_catA (pv 1) (pe_lstA (pa_cons pe_str (pa_cons (pe_callTy call_str_int (by rfl) T.z_str (by decide +kernel) (pa_cons (pe_fldK (K := K) (pv 0) rfl) pa_nil)) (pa_cons pe_str (pa_cons (pe_callTy call_str_int (by rfl) T.z_str (by decide +kernel) (pa_cons (pe_fldK (K := K) (pv 0) rfl) pa_nil)) pa_nil)))))))) pss_nil)
  (pss_cons (ps_if (PW.pt (pw_or (pt_cmpR op_eq (pe_fldK (K := K) (pv 0) rfl) pe_str (nomark _)) (pw_or1 (pt_cmpR op_eq (pe_fldK (K := K) (pv 0) rfl) pe_str (nomark _))))) (pss_one (ps_ret (pe_op op_catA (pv 1) (pe_lstA (pa_cons (pe_fldK (K := K) (pv 0) rfl) (pa_cons (pe_fldK (K := K) (pv 0) rfl) pa_nil)))))) pss_nil)
  (pss_one (ps_ret (pe_op op_catA (pv 1) (pe_lstA (pa_cons (pe_fldK (K := K) (pv 0) rfl) pa_nil)))))))))), ?_⟩
  refine ⟨_, rfl, ?_⟩
  refine ⟨_, _, _, _, _, rfl, (hp), T.c_Address.cl, T.c_Address.no _ (by simp), lk_Address_nots, ?_⟩
  refine ⟨rfl, _, rfl, ?_⟩
  by_cases ha : a = .all
  · subst ha
    refine ifT rfl ?_
    refine ⟨_, rfl, ?_⟩
    refine ⟨_, _, _, _, _, rfl, (hp), T.c_Address.cl, T.c_Address.no _ (by simp), lk_Address_name, ?_⟩
    refine ⟨rfl, _, rfl, ifT (by kernel_rfl) ?_⟩
    exact ⟨size0, fun q H' _ e s => k q _ e s⟩
  have hw : MK.adrWords a = VasedBase.word "if" :: (List.replicate (nots a) (VasedBase.word "not") ++ MK.baseW a) := by
    unfold MK.adrWords
    rw [if_neg ha, MK.aWords_rep, nots_nts]
  rw [hw, base_words] at k
  rw [base_name, base_first, base_final, base_letters] at hp
  obtain ⟨fn, ff, fl, _⟩ := fw
  rw [base_first] at ff
  rw [base_final] at fl
  refine ite2 (fun h => ?_) (fun h => ?_)
  · have n0 : nots a = 0 := by
      have h2 := of_decide_eq_true h
      injection h2 with h2
      omega
    refine ⟨_, rfl, ?_⟩
    refine ⟨_, _, _, _, _, rfl, (hp), T.c_Address.cl, T.c_Address.no _ (by simp), lk_Address_name, ?_⟩
    refine ⟨rfl, _, rfl, ?_⟩
    refine ifF ?_ ?_
    · rw [nots0 a n0]
      rw [nots0 a n0] at hp
      cases a with
      | all => exact absurd rfl ha
      | not b => cases n0
      | _ => kernel_rfl
    have e0 := base_not a
    generalize base_ a = b at *
    refine ⟨few (n := 1) (Nat.le_refl 1) (by decide), fun y H1 ny hy s1 => ?_⟩
    refine ⟨few (n := 1) (Nat.le_refl 1) (by decide), fun z H2 nz hz s2 => ?_⟩
    refine ⟨_, rfl, ?_⟩
    refine ⟨_, _, _, _, _, rfl, (s2 _ _ (s1 _ _ hp)), T.c_Address.cl, T.c_Address.no _ (by simp), lk_Address_nots, ?_⟩
    refine ⟨z, nots a, _, rfl, rfl, hz, by omega, fun u H3 nu hu s3 => ?_⟩
    refine ⟨y, u, _, _, rfl, rfl, s3 _ _ (s2 _ _ hy), hu, few (m := 4) (by simp; omega) (by decide), fun r H4 nr hr4 s4 => ?_⟩
    have s5 := ((s1.trans s2).trans s3).trans s4
    have hp5 := s5 _ _ hp
    have fin : ∀ (w : List V) (l : List Bt) (q : PySem.Addr) (H' : Hp), w = l.map vB → H' q = some (.lst ([V.str "if"] ++ List.replicate (nots a) (V.str "not") ++ w)) → l = MK.baseW b → Same H4 H' → Q (.ref q) H' := fun w l q H' e1 e2 e3 s6 => by
      refine k q H' ?_ (s5.trans s6)
      show H' q = _
      rw [e2, e1, e3, List.map_cons, List.map_append, List.map_replicate, show vB (VasedBase.word "if") = V.str "if" from by kernel_rfl, show vB (VasedBase.word "not") = V.str "not" from by kernel_rfl]
      rfl
    have lw : ∀ {x l : List V}, x.length ≤ 6 → ([V.str "if"] ++ List.replicate (nots a) (V.str "not") : List V).length + x.length ≤ sizeLine := fun {x _} h => few (m := 16) (by simp; omega) (by decide)
    clear hw k hp s1 s2 s3 s4 hy hz hu ny nz nu nr
    have t1 : ∀ (s : String) , (∃ c, c = decide (V.str (aName b) = V.str s)) := fun s => ⟨_, rfl⟩
    clear t1
    cases b with
    | not c => exact absurd rfl (e0 c)
    | line n =>
      refine ⟨_, rfl, ?_⟩; refine ⟨_, _, _, _, _, rfl, (hp5), T.c_Address.cl, T.c_Address.no _ (by simp), lk_Address_name, ?_⟩
      refine ⟨rfl, _, rfl, ?_⟩
      (first | refine ifF (decide_eq_false (by simp only [aName, dName]; decide +kernel)) ?_ | refine ifT (decide_eq_true rfl) ?_ | refine ifF (by decide +kernel) ?_ | refine ifT (by decide +kernel) ?_)
      refine ⟨_, rfl, _, rfl, ?_⟩
      refine ⟨_, _, _, _, _, rfl, (hp5), T.c_Address.cl, T.c_Address.no _ (by simp), lk_Address_first, ?_⟩
      refine ⟨_, rfl, log_small (n := n) (by show n ≤ _; have : n ≤ 99 := ff; omega), few (n := 2) (Nat.le_refl 2) (by decide), fun v H6 nv hv s6 => ?_⟩
      refine ⟨r, v, _, _, rfl, rfl, s6 _ _ hr4, hv, lw (l := []) (by simp), fun q H7 nq hq s7 => ?_⟩
      refine fin _ [VasedBase.word "line", VasedBase.showNat n] q H7 ?_ hq rfl (s6.trans s7)
      show [V.str "line", V.str (Str.ofString (toString ((n : Nat) : Int)))] = _
      rw [str_num, ← show vB (VasedBase.word "line") = V.str "line" from by kernel_rfl]
      rfl
    | span n m =>
      refine ⟨_, rfl, ?_⟩; refine ⟨_, _, _, _, _, rfl, (hp5), T.c_Address.cl, T.c_Address.no _ (by simp), lk_Address_name, ?_⟩
      refine ⟨rfl, _, rfl, ?_⟩
      (first | refine ifF (decide_eq_false (by simp only [aName, dName]; decide +kernel)) ?_ | refine ifT (decide_eq_true rfl) ?_ | refine ifF (by decide +kernel) ?_ | refine ifT (by decide +kernel) ?_)
      refine ⟨_, rfl, ?_⟩; refine ⟨_, _, _, _, _, rfl, (hp5), T.c_Address.cl, T.c_Address.no _ (by simp), lk_Address_name, ?_⟩
      refine ⟨rfl, _, rfl, ?_⟩
      (first | refine ifF (decide_eq_false (by simp only [aName, dName]; decide +kernel)) ?_ | refine ifT (decide_eq_true rfl) ?_ | refine ifF (by decide +kernel) ?_ | refine ifT (by decide +kernel) ?_)
      refine ⟨_, rfl, _, rfl, ?_⟩
      refine ⟨_, _, _, _, _, rfl, (hp5), T.c_Address.cl, T.c_Address.no _ (by simp), lk_Address_first, ?_⟩
      refine ⟨_, rfl, log_small (n := n) (by show n ≤ _; have : n ≤ 99 := ff; omega), _, rfl, ?_⟩
      refine ⟨_, _, _, _, _, rfl, (hp5), T.c_Address.cl, T.c_Address.no _ (by simp), lk_Address_final, ?_⟩
      refine ⟨_, rfl, log_small (n := m) (by show m ≤ _; have : m ≤ 99 := fl; omega), few (n := 4) (Nat.le_refl 4) (by decide), fun v H6 nv hv s6 => ?_⟩
      refine ⟨r, v, _, _, rfl, rfl, s6 _ _ hr4, hv, lw (l := []) (by simp), fun q H7 nq hq s7 => ?_⟩
      refine fin _ [VasedBase.word "from", VasedBase.showNat n, VasedBase.word "to", VasedBase.showNat m] q H7 ?_ hq rfl (s6.trans s7)
      show [V.str "from", V.str (Str.ofString (toString ((n : Nat) : Int))), V.str "to", V.str (Str.ofString (toString ((m : Nat) : Int)))] = _
      rw [str_num, str_num, ← show vB (VasedBase.word "from") = V.str "from" from by kernel_rfl, ← show vB (VasedBase.word "to") = V.str "to" from by kernel_rfl]
      rfl
    | has w =>
      refine ⟨_, rfl, ?_⟩; refine ⟨_, _, _, _, _, rfl, (hp5), T.c_Address.cl, T.c_Address.no _ (by simp), lk_Address_name, ?_⟩
      refine ⟨rfl, _, rfl, ?_⟩
      (first | refine ifF (decide_eq_false (by simp only [aName, dName]; decide +kernel)) ?_ | refine ifT (decide_eq_true rfl) ?_ | refine ifF (by decide +kernel) ?_ | refine ifT (by decide +kernel) ?_)
      refine ⟨_, rfl, ?_⟩; refine ⟨_, _, _, _, _, rfl, (hp5), T.c_Address.cl, T.c_Address.no _ (by simp), lk_Address_name, ?_⟩
      refine ⟨rfl, _, rfl, ?_⟩
      (first | refine ifF (decide_eq_false (by simp only [aName, dName]; decide +kernel)) ?_ | refine ifT (decide_eq_true rfl) ?_ | refine ifF (by decide +kernel) ?_ | refine ifT (by decide +kernel) ?_)
      refine ⟨_, rfl, ?_⟩; refine ⟨_, _, _, _, _, rfl, (hp5), T.c_Address.cl, T.c_Address.no _ (by simp), lk_Address_name, ?_⟩
      refine ⟨rfl, _, rfl, ?_⟩
      (first | refine ifF (decide_eq_false (by simp only [aName, dName]; decide +kernel)) ?_ | refine ifT (decide_eq_true rfl) ?_ | refine ifF (by decide +kernel) ?_ | refine ifT (by decide +kernel) ?_)
      (first | refine ifF (decide_eq_false (by simp only [aName, dName]; decide +kernel)) ?_ | refine ifT (decide_eq_true rfl) ?_ | refine ifF (by decide +kernel) ?_ | refine ifT (by decide +kernel) ?_)
      refine ⟨_, rfl, _, rfl, ?_⟩
      refine ⟨_, _, _, _, _, rfl, (hp5), T.c_Address.cl, T.c_Address.no _ (by simp), lk_Address_name, ?_⟩
      refine ⟨_, rfl, ?_⟩
      refine ⟨_, _, _, _, _, rfl, (hp5), T.c_Address.cl, T.c_Address.no _ (by simp), lk_Address_letters, ?_⟩
      refine ⟨few (n := 2) (Nat.le_refl 2) (by decide), fun v H6 nv hv s6 => ?_⟩
      refine ⟨r, v, _, _, rfl, rfl, s6 _ _ hr4, hv, lw (l := []) (by simp), fun q H7 nq hq s7 => ?_⟩
      exact fin _ [VasedBase.word "has", w] q H7 (by show [V.str "has", vB w] = _; rw [← show vB (VasedBase.word "has") = V.str "has" from by kernel_rfl]; rfl) hq rfl (s6.trans s7)
    | is_ w =>
      refine ⟨_, rfl, ?_⟩; refine ⟨_, _, _, _, _, rfl, (hp5), T.c_Address.cl, T.c_Address.no _ (by simp), lk_Address_name, ?_⟩
      refine ⟨rfl, _, rfl, ?_⟩
      (first | refine ifF (decide_eq_false (by simp only [aName, dName]; decide +kernel)) ?_ | refine ifT (decide_eq_true rfl) ?_ | refine ifF (by decide +kernel) ?_ | refine ifT (by decide +kernel) ?_)
      refine ⟨_, rfl, ?_⟩; refine ⟨_, _, _, _, _, rfl, (hp5), T.c_Address.cl, T.c_Address.no _ (by simp), lk_Address_name, ?_⟩
      refine ⟨rfl, _, rfl, ?_⟩
      (first | refine ifF (decide_eq_false (by simp only [aName, dName]; decide +kernel)) ?_ | refine ifT (decide_eq_true rfl) ?_ | refine ifF (by decide +kernel) ?_ | refine ifT (by decide +kernel) ?_)
      refine ⟨_, rfl, ?_⟩; refine ⟨_, _, _, _, _, rfl, (hp5), T.c_Address.cl, T.c_Address.no _ (by simp), lk_Address_name, ?_⟩
      refine ⟨rfl, _, rfl, ?_⟩
      (first | refine ifF (decide_eq_false (by simp only [aName, dName]; decide +kernel)) ?_ | refine ifT (decide_eq_true rfl) ?_ | refine ifF (by decide +kernel) ?_ | refine ifT (by decide +kernel) ?_)
      refine ⟨_, rfl, ?_⟩; refine ⟨_, _, _, _, _, rfl, (hp5), T.c_Address.cl, T.c_Address.no _ (by simp), lk_Address_name, ?_⟩
      refine ⟨rfl, _, rfl, ?_⟩
      (first | refine ifF (decide_eq_false (by simp only [aName, dName]; decide +kernel)) ?_ | refine ifT (decide_eq_true rfl) ?_ | refine ifF (by decide +kernel) ?_ | refine ifT (by decide +kernel) ?_)
      refine ⟨_, rfl, _, rfl, ?_⟩
      refine ⟨_, _, _, _, _, rfl, (hp5), T.c_Address.cl, T.c_Address.no _ (by simp), lk_Address_name, ?_⟩
      refine ⟨_, rfl, ?_⟩
      refine ⟨_, _, _, _, _, rfl, (hp5), T.c_Address.cl, T.c_Address.no _ (by simp), lk_Address_letters, ?_⟩
      refine ⟨few (n := 2) (Nat.le_refl 2) (by decide), fun v H6 nv hv s6 => ?_⟩
      refine ⟨r, v, _, _, rfl, rfl, s6 _ _ hr4, hv, lw (l := []) (by simp), fun q H7 nq hq s7 => ?_⟩
      exact fin _ [VasedBase.word "is", w] q H7 (by show [V.str "is", vB w] = _; rw [← show vB (VasedBase.word "is") = V.str "is" from by kernel_rfl]; rfl) hq rfl (s6.trans s7)
    | all =>
      refine ⟨_, rfl, ?_⟩; refine ⟨_, _, _, _, _, rfl, (hp5), T.c_Address.cl, T.c_Address.no _ (by simp), lk_Address_name, ?_⟩
      refine ⟨rfl, _, rfl, ?_⟩
      (first | refine ifF (decide_eq_false (by simp only [aName, dName]; decide +kernel)) ?_ | refine ifT (decide_eq_true rfl) ?_ | refine ifF (by decide +kernel) ?_ | refine ifT (by decide +kernel) ?_)
      refine ⟨_, rfl, ?_⟩; refine ⟨_, _, _, _, _, rfl, (hp5), T.c_Address.cl, T.c_Address.no _ (by simp), lk_Address_name, ?_⟩
      refine ⟨rfl, _, rfl, ?_⟩
      (first | refine ifF (decide_eq_false (by simp only [aName, dName]; decide +kernel)) ?_ | refine ifT (decide_eq_true rfl) ?_ | refine ifF (by decide +kernel) ?_ | refine ifT (by decide +kernel) ?_)
      refine ⟨_, rfl, ?_⟩; refine ⟨_, _, _, _, _, rfl, (hp5), T.c_Address.cl, T.c_Address.no _ (by simp), lk_Address_name, ?_⟩
      refine ⟨rfl, _, rfl, ?_⟩
      (first | refine ifF (decide_eq_false (by simp only [aName, dName]; decide +kernel)) ?_ | refine ifT (decide_eq_true rfl) ?_ | refine ifF (by decide +kernel) ?_ | refine ifT (by decide +kernel) ?_)
      refine ⟨_, rfl, ?_⟩; refine ⟨_, _, _, _, _, rfl, (hp5), T.c_Address.cl, T.c_Address.no _ (by simp), lk_Address_name, ?_⟩
      refine ⟨rfl, _, rfl, ?_⟩
      (first | refine ifF (decide_eq_false (by simp only [aName, dName]; decide +kernel)) ?_ | refine ifT (decide_eq_true rfl) ?_ | refine ifF (by decide +kernel) ?_ | refine ifT (by decide +kernel) ?_)
      refine ⟨_, rfl, _, rfl, ?_⟩
      refine ⟨_, _, _, _, _, rfl, (hp5), T.c_Address.cl, T.c_Address.no _ (by simp), lk_Address_name, ?_⟩
      refine ⟨few (n := 1) (Nat.le_refl 1) (by decide), fun v H6 nv hv s6 => ?_⟩
      refine ⟨r, v, _, _, rfl, rfl, s6 _ _ hr4, hv, lw (l := []) (by simp), fun q H7 nq hq s7 => ?_⟩
      exact fin _ [VasedBase.word "all"] q H7 (by show [V.str "all"] = _; rw [← show vB (VasedBase.word "all") = V.str "all" from by kernel_rfl]; rfl) hq rfl (s6.trans s7)
    | last =>
      refine ⟨_, rfl, ?_⟩; refine ⟨_, _, _, _, _, rfl, (hp5), T.c_Address.cl, T.c_Address.no _ (by simp), lk_Address_name, ?_⟩
      refine ⟨rfl, _, rfl, ?_⟩
      (first | refine ifF (decide_eq_false (by simp only [aName, dName]; decide +kernel)) ?_ | refine ifT (decide_eq_true rfl) ?_ | refine ifF (by decide +kernel) ?_ | refine ifT (by decide +kernel) ?_)
      refine ⟨_, rfl, ?_⟩; refine ⟨_, _, _, _, _, rfl, (hp5), T.c_Address.cl, T.c_Address.no _ (by simp), lk_Address_name, ?_⟩
      refine ⟨rfl, _, rfl, ?_⟩
      (first | refine ifF (decide_eq_false (by simp only [aName, dName]; decide +kernel)) ?_ | refine ifT (decide_eq_true rfl) ?_ | refine ifF (by decide +kernel) ?_ | refine ifT (by decide +kernel) ?_)
      refine ⟨_, rfl, ?_⟩; refine ⟨_, _, _, _, _, rfl, (hp5), T.c_Address.cl, T.c_Address.no _ (by simp), lk_Address_name, ?_⟩
      refine ⟨rfl, _, rfl, ?_⟩
      (first | refine ifF (decide_eq_false (by simp only [aName, dName]; decide +kernel)) ?_ | refine ifT (decide_eq_true rfl) ?_ | refine ifF (by decide +kernel) ?_ | refine ifT (by decide +kernel) ?_)
      refine ⟨_, rfl, ?_⟩; refine ⟨_, _, _, _, _, rfl, (hp5), T.c_Address.cl, T.c_Address.no _ (by simp), lk_Address_name, ?_⟩
      refine ⟨rfl, _, rfl, ?_⟩
      (first | refine ifF (decide_eq_false (by simp only [aName, dName]; decide +kernel)) ?_ | refine ifT (decide_eq_true rfl) ?_ | refine ifF (by decide +kernel) ?_ | refine ifT (by decide +kernel) ?_)
      refine ⟨_, rfl, _, rfl, ?_⟩
      refine ⟨_, _, _, _, _, rfl, (hp5), T.c_Address.cl, T.c_Address.no _ (by simp), lk_Address_name, ?_⟩
      refine ⟨few (n := 1) (Nat.le_refl 1) (by decide), fun v H6 nv hv s6 => ?_⟩
      refine ⟨r, v, _, _, rfl, rfl, s6 _ _ hr4, hv, lw (l := []) (by simp), fun q H7 nq hq s7 => ?_⟩
      exact fin _ [VasedBase.word "last"] q H7 (by show [V.str "last"] = _; rw [← show vB (VasedBase.word "last") = V.str "last" from by kernel_rfl]; rfl) hq rfl (s6.trans s7)
  · have e0 := base_not a
    generalize base_ a = b at *
    refine ⟨few (n := 1) (Nat.le_refl 1) (by decide), fun y H1 ny hy s1 => ?_⟩
    refine ⟨few (n := 1) (Nat.le_refl 1) (by decide), fun z H2 nz hz s2 => ?_⟩
    refine ⟨_, rfl, ?_⟩
    refine ⟨_, _, _, _, _, rfl, (s2 _ _ (s1 _ _ hp)), T.c_Address.cl, T.c_Address.no _ (by simp), lk_Address_nots, ?_⟩
    refine ⟨z, nots a, _, rfl, rfl, hz, by omega, fun u H3 nu hu s3 => ?_⟩
    refine ⟨y, u, _, _, rfl, rfl, s3 _ _ (s2 _ _ hy), hu, few (m := 4) (by simp; omega) (by decide), fun r H4 nr hr4 s4 => ?_⟩
    have s5 := ((s1.trans s2).trans s3).trans s4
    have hp5 := s5 _ _ hp
    have fin : ∀ (w : List V) (l : List Bt) (q : PySem.Addr) (H' : Hp), w = l.map vB → H' q = some (.lst ([V.str "if"] ++ List.replicate (nots a) (V.str "not") ++ w)) → l = MK.baseW b → Same H4 H' → Q (.ref q) H' := fun w l q H' e1 e2 e3 s6 => by
      refine k q H' ?_ (s5.trans s6)
      show H' q = _
      rw [e2, e1, e3, List.map_cons, List.map_append, List.map_replicate, show vB (VasedBase.word "if") = V.str "if" from by kernel_rfl, show vB (VasedBase.word "not") = V.str "not" from by kernel_rfl]
      rfl
    have lw : ∀ {x l : List V}, x.length ≤ 6 → ([V.str "if"] ++ List.replicate (nots a) (V.str "not") : List V).length + x.length ≤ sizeLine := fun {x _} h => few (m := 16) (by simp; omega) (by decide)
    clear hw k hp s1 s2 s3 s4 hy hz hu ny nz nu nr
    have t1 : ∀ (s : String) , (∃ c, c = decide (V.str (aName b) = V.str s)) := fun s => ⟨_, rfl⟩
    clear t1
    cases b with
    | not c => exact absurd rfl (e0 c)
    | line n =>
      refine ⟨_, rfl, ?_⟩; refine ⟨_, _, _, _, _, rfl, (hp5), T.c_Address.cl, T.c_Address.no _ (by simp), lk_Address_name, ?_⟩
      refine ⟨rfl, _, rfl, ?_⟩
      (first | refine ifF (decide_eq_false (by simp only [aName, dName]; decide +kernel)) ?_ | refine ifT (decide_eq_true rfl) ?_ | refine ifF (by decide +kernel) ?_ | refine ifT (by decide +kernel) ?_)
      refine ⟨_, rfl, _, rfl, ?_⟩
      refine ⟨_, _, _, _, _, rfl, (hp5), T.c_Address.cl, T.c_Address.no _ (by simp), lk_Address_first, ?_⟩
      refine ⟨_, rfl, log_small (n := n) (by show n ≤ _; have : n ≤ 99 := ff; omega), few (n := 2) (Nat.le_refl 2) (by decide), fun v H6 nv hv s6 => ?_⟩
      refine ⟨r, v, _, _, rfl, rfl, s6 _ _ hr4, hv, lw (l := []) (by simp), fun q H7 nq hq s7 => ?_⟩
      refine fin _ [VasedBase.word "line", VasedBase.showNat n] q H7 ?_ hq rfl (s6.trans s7)
      show [V.str "line", V.str (Str.ofString (toString ((n : Nat) : Int)))] = _
      rw [str_num, ← show vB (VasedBase.word "line") = V.str "line" from by kernel_rfl]
      rfl
    | span n m =>
      refine ⟨_, rfl, ?_⟩; refine ⟨_, _, _, _, _, rfl, (hp5), T.c_Address.cl, T.c_Address.no _ (by simp), lk_Address_name, ?_⟩
      refine ⟨rfl, _, rfl, ?_⟩
      (first | refine ifF (decide_eq_false (by simp only [aName, dName]; decide +kernel)) ?_ | refine ifT (decide_eq_true rfl) ?_ | refine ifF (by decide +kernel) ?_ | refine ifT (by decide +kernel) ?_)
      refine ⟨_, rfl, ?_⟩; refine ⟨_, _, _, _, _, rfl, (hp5), T.c_Address.cl, T.c_Address.no _ (by simp), lk_Address_name, ?_⟩
      refine ⟨rfl, _, rfl, ?_⟩
      (first | refine ifF (decide_eq_false (by simp only [aName, dName]; decide +kernel)) ?_ | refine ifT (decide_eq_true rfl) ?_ | refine ifF (by decide +kernel) ?_ | refine ifT (by decide +kernel) ?_)
      refine ⟨_, rfl, _, rfl, ?_⟩
      refine ⟨_, _, _, _, _, rfl, (hp5), T.c_Address.cl, T.c_Address.no _ (by simp), lk_Address_first, ?_⟩
      refine ⟨_, rfl, log_small (n := n) (by show n ≤ _; have : n ≤ 99 := ff; omega), _, rfl, ?_⟩
      refine ⟨_, _, _, _, _, rfl, (hp5), T.c_Address.cl, T.c_Address.no _ (by simp), lk_Address_final, ?_⟩
      refine ⟨_, rfl, log_small (n := m) (by show m ≤ _; have : m ≤ 99 := fl; omega), few (n := 4) (Nat.le_refl 4) (by decide), fun v H6 nv hv s6 => ?_⟩
      refine ⟨r, v, _, _, rfl, rfl, s6 _ _ hr4, hv, lw (l := []) (by simp), fun q H7 nq hq s7 => ?_⟩
      refine fin _ [VasedBase.word "from", VasedBase.showNat n, VasedBase.word "to", VasedBase.showNat m] q H7 ?_ hq rfl (s6.trans s7)
      show [V.str "from", V.str (Str.ofString (toString ((n : Nat) : Int))), V.str "to", V.str (Str.ofString (toString ((m : Nat) : Int)))] = _
      rw [str_num, str_num, ← show vB (VasedBase.word "from") = V.str "from" from by kernel_rfl, ← show vB (VasedBase.word "to") = V.str "to" from by kernel_rfl]
      rfl
    | has w =>
      refine ⟨_, rfl, ?_⟩; refine ⟨_, _, _, _, _, rfl, (hp5), T.c_Address.cl, T.c_Address.no _ (by simp), lk_Address_name, ?_⟩
      refine ⟨rfl, _, rfl, ?_⟩
      (first | refine ifF (decide_eq_false (by simp only [aName, dName]; decide +kernel)) ?_ | refine ifT (decide_eq_true rfl) ?_ | refine ifF (by decide +kernel) ?_ | refine ifT (by decide +kernel) ?_)
      refine ⟨_, rfl, ?_⟩; refine ⟨_, _, _, _, _, rfl, (hp5), T.c_Address.cl, T.c_Address.no _ (by simp), lk_Address_name, ?_⟩
      refine ⟨rfl, _, rfl, ?_⟩
      (first | refine ifF (decide_eq_false (by simp only [aName, dName]; decide +kernel)) ?_ | refine ifT (decide_eq_true rfl) ?_ | refine ifF (by decide +kernel) ?_ | refine ifT (by decide +kernel) ?_)
      refine ⟨_, rfl, ?_⟩; refine ⟨_, _, _, _, _, rfl, (hp5), T.c_Address.cl, T.c_Address.no _ (by simp), lk_Address_name, ?_⟩
      refine ⟨rfl, _, rfl, ?_⟩
      (first | refine ifF (decide_eq_false (by simp only [aName, dName]; decide +kernel)) ?_ | refine ifT (decide_eq_true rfl) ?_ | refine ifF (by decide +kernel) ?_ | refine ifT (by decide +kernel) ?_)
      (first | refine ifF (decide_eq_false (by simp only [aName, dName]; decide +kernel)) ?_ | refine ifT (decide_eq_true rfl) ?_ | refine ifF (by decide +kernel) ?_ | refine ifT (by decide +kernel) ?_)
      refine ⟨_, rfl, _, rfl, ?_⟩
      refine ⟨_, _, _, _, _, rfl, (hp5), T.c_Address.cl, T.c_Address.no _ (by simp), lk_Address_name, ?_⟩
      refine ⟨_, rfl, ?_⟩
      refine ⟨_, _, _, _, _, rfl, (hp5), T.c_Address.cl, T.c_Address.no _ (by simp), lk_Address_letters, ?_⟩
      refine ⟨few (n := 2) (Nat.le_refl 2) (by decide), fun v H6 nv hv s6 => ?_⟩
      refine ⟨r, v, _, _, rfl, rfl, s6 _ _ hr4, hv, lw (l := []) (by simp), fun q H7 nq hq s7 => ?_⟩
      exact fin _ [VasedBase.word "has", w] q H7 (by show [V.str "has", vB w] = _; rw [← show vB (VasedBase.word "has") = V.str "has" from by kernel_rfl]; rfl) hq rfl (s6.trans s7)
    | is_ w =>
      refine ⟨_, rfl, ?_⟩; refine ⟨_, _, _, _, _, rfl, (hp5), T.c_Address.cl, T.c_Address.no _ (by simp), lk_Address_name, ?_⟩
      refine ⟨rfl, _, rfl, ?_⟩
      (first | refine ifF (decide_eq_false (by simp only [aName, dName]; decide +kernel)) ?_ | refine ifT (decide_eq_true rfl) ?_ | refine ifF (by decide +kernel) ?_ | refine ifT (by decide +kernel) ?_)
      refine ⟨_, rfl, ?_⟩; refine ⟨_, _, _, _, _, rfl, (hp5), T.c_Address.cl, T.c_Address.no _ (by simp), lk_Address_name, ?_⟩
      refine ⟨rfl, _, rfl, ?_⟩
      (first | refine ifF (decide_eq_false (by simp only [aName, dName]; decide +kernel)) ?_ | refine ifT (decide_eq_true rfl) ?_ | refine ifF (by decide +kernel) ?_ | refine ifT (by decide +kernel) ?_)
      refine ⟨_, rfl, ?_⟩; refine ⟨_, _, _, _, _, rfl, (hp5), T.c_Address.cl, T.c_Address.no _ (by simp), lk_Address_name, ?_⟩
      refine ⟨rfl, _, rfl, ?_⟩
      (first | refine ifF (decide_eq_false (by simp only [aName, dName]; decide +kernel)) ?_ | refine ifT (decide_eq_true rfl) ?_ | refine ifF (by decide +kernel) ?_ | refine ifT (by decide +kernel) ?_)
      refine ⟨_, rfl, ?_⟩; refine ⟨_, _, _, _, _, rfl, (hp5), T.c_Address.cl, T.c_Address.no _ (by simp), lk_Address_name, ?_⟩
      refine ⟨rfl, _, rfl, ?_⟩
      (first | refine ifF (decide_eq_false (by simp only [aName, dName]; decide +kernel)) ?_ | refine ifT (decide_eq_true rfl) ?_ | refine ifF (by decide +kernel) ?_ | refine ifT (by decide +kernel) ?_)
      refine ⟨_, rfl, _, rfl, ?_⟩
      refine ⟨_, _, _, _, _, rfl, (hp5), T.c_Address.cl, T.c_Address.no _ (by simp), lk_Address_name, ?_⟩
      refine ⟨_, rfl, ?_⟩
      refine ⟨_, _, _, _, _, rfl, (hp5), T.c_Address.cl, T.c_Address.no _ (by simp), lk_Address_letters, ?_⟩
      refine ⟨few (n := 2) (Nat.le_refl 2) (by decide), fun v H6 nv hv s6 => ?_⟩
      refine ⟨r, v, _, _, rfl, rfl, s6 _ _ hr4, hv, lw (l := []) (by simp), fun q H7 nq hq s7 => ?_⟩
      exact fin _ [VasedBase.word "is", w] q H7 (by show [V.str "is", vB w] = _; rw [← show vB (VasedBase.word "is") = V.str "is" from by kernel_rfl]; rfl) hq rfl (s6.trans s7)
    | all =>
      refine ⟨_, rfl, ?_⟩; refine ⟨_, _, _, _, _, rfl, (hp5), T.c_Address.cl, T.c_Address.no _ (by simp), lk_Address_name, ?_⟩
      refine ⟨rfl, _, rfl, ?_⟩
      (first | refine ifF (decide_eq_false (by simp only [aName, dName]; decide +kernel)) ?_ | refine ifT (decide_eq_true rfl) ?_ | refine ifF (by decide +kernel) ?_ | refine ifT (by decide +kernel) ?_)
      refine ⟨_, rfl, ?_⟩; refine ⟨_, _, _, _, _, rfl, (hp5), T.c_Address.cl, T.c_Address.no _ (by simp), lk_Address_name, ?_⟩
      refine ⟨rfl, _, rfl, ?_⟩
      (first | refine ifF (decide_eq_false (by simp only [aName, dName]; decide +kernel)) ?_ | refine ifT (decide_eq_true rfl) ?_ | refine ifF (by decide +kernel) ?_ | refine ifT (by decide +kernel) ?_)
      refine ⟨_, rfl, ?_⟩; refine ⟨_, _, _, _, _, rfl, (hp5), T.c_Address.cl, T.c_Address.no _ (by simp), lk_Address_name, ?_⟩
      refine ⟨rfl, _, rfl, ?_⟩
      (first | refine ifF (decide_eq_false (by simp only [aName, dName]; decide +kernel)) ?_ | refine ifT (decide_eq_true rfl) ?_ | refine ifF (by decide +kernel) ?_ | refine ifT (by decide +kernel) ?_)
      refine ⟨_, rfl, ?_⟩; refine ⟨_, _, _, _, _, rfl, (hp5), T.c_Address.cl, T.c_Address.no _ (by simp), lk_Address_name, ?_⟩
      refine ⟨rfl, _, rfl, ?_⟩
      (first | refine ifF (decide_eq_false (by simp only [aName, dName]; decide +kernel)) ?_ | refine ifT (decide_eq_true rfl) ?_ | refine ifF (by decide +kernel) ?_ | refine ifT (by decide +kernel) ?_)
      refine ⟨_, rfl, _, rfl, ?_⟩
      refine ⟨_, _, _, _, _, rfl, (hp5), T.c_Address.cl, T.c_Address.no _ (by simp), lk_Address_name, ?_⟩
      refine ⟨few (n := 1) (Nat.le_refl 1) (by decide), fun v H6 nv hv s6 => ?_⟩
      refine ⟨r, v, _, _, rfl, rfl, s6 _ _ hr4, hv, lw (l := []) (by simp), fun q H7 nq hq s7 => ?_⟩
      exact fin _ [VasedBase.word "all"] q H7 (by show [V.str "all"] = _; rw [← show vB (VasedBase.word "all") = V.str "all" from by kernel_rfl]; rfl) hq rfl (s6.trans s7)
    | last =>
      refine ⟨_, rfl, ?_⟩; refine ⟨_, _, _, _, _, rfl, (hp5), T.c_Address.cl, T.c_Address.no _ (by simp), lk_Address_name, ?_⟩
      refine ⟨rfl, _, rfl, ?_⟩
      (first | refine ifF (decide_eq_false (by simp only [aName, dName]; decide +kernel)) ?_ | refine ifT (decide_eq_true rfl) ?_ | refine ifF (by decide +kernel) ?_ | refine ifT (by decide +kernel) ?_)
      refine ⟨_, rfl, ?_⟩; refine ⟨_, _, _, _, _, rfl, (hp5), T.c_Address.cl, T.c_Address.no _ (by simp), lk_Address_name, ?_⟩
      refine ⟨rfl, _, rfl, ?_⟩
      (first | refine ifF (decide_eq_false (by simp only [aName, dName]; decide +kernel)) ?_ | refine ifT (decide_eq_true rfl) ?_ | refine ifF (by decide +kernel) ?_ | refine ifT (by decide +kernel) ?_)
      refine ⟨_, rfl, ?_⟩; refine ⟨_, _, _, _, _, rfl, (hp5), T.c_Address.cl, T.c_Address.no _ (by simp), lk_Address_name, ?_⟩
      refine ⟨rfl, _, rfl, ?_⟩
      (first | refine ifF (decide_eq_false (by simp only [aName, dName]; decide +kernel)) ?_ | refine ifT (decide_eq_true rfl) ?_ | refine ifF (by decide +kernel) ?_ | refine ifT (by decide +kernel) ?_)
      refine ⟨_, rfl, ?_⟩; refine ⟨_, _, _, _, _, rfl, (hp5), T.c_Address.cl, T.c_Address.no _ (by simp), lk_Address_name, ?_⟩
      refine ⟨rfl, _, rfl, ?_⟩
      (first | refine ifF (decide_eq_false (by simp only [aName, dName]; decide +kernel)) ?_ | refine ifT (decide_eq_true rfl) ?_ | refine ifF (by decide +kernel) ?_ | refine ifT (by decide +kernel) ?_)
      refine ⟨_, rfl, _, rfl, ?_⟩
      refine ⟨_, _, _, _, _, rfl, (hp5), T.c_Address.cl, T.c_Address.no _ (by simp), lk_Address_name, ?_⟩
      refine ⟨few (n := 1) (Nat.le_refl 1) (by decide), fun v H6 nv hv s6 => ?_⟩
      refine ⟨r, v, _, _, rfl, rfl, s6 _ _ hr4, hv, lw (l := []) (by simp), fun q H7 nq hq s7 => ?_⟩
      exact fin _ [VasedBase.word "last"] q H7 (by show [V.str "last"] = _; rw [← show vB (VasedBase.word "last") = V.str "last" from by kernel_rfl]; rfl) hq rfl (s6.trans s7)
def sp_deed_words (A : Ad) (K : PySem.W.Frag) : Sp := fun vs H Q _ => ∃ (p : PySem.Addr) (d : Deed), vs = [.ref p] ∧ DeedAt A H p d ∧ DeedFew d ∧ ∀ q H', TxtsAt H' q (MK.dWords d) → Same H H' → Q (.ref q) H'
theorem ok_deed_words (T : Txt K mg A) (Z : Apart A) : ∃ f fd, FnOk P w K mg base CX0 1 f fd ["deed"] (sp_deed_words A K) ∧ mg "deed_words" = some (.ref f) ∧ PySem.W.keepIn K (.ref f) = true ∧ Binds K fd ["deed"] [] := by
  obtain ⟨f, fd, F, hm, hb⟩ := T.d_deed_words.ex
  refine ⟨f, fd, ?_, hm, F.kp, hb⟩
  refine F.ok sc_deed_words (fun vs H Q E h => by obtain ⟨p, d, rfl, ⟨dx, hp⟩, fw, k⟩ := h; rfl) (fun cdv A' outer s H vs Q E hr h => ?_)
  obtain ⟨p, d, rfl, ⟨dx, hp⟩, fw, k⟩ := h
  refine ⟨_, (pss_cons (ps_if (pt_cmpR (op_in_seqK (K := K)) (pe_fldK (K := K) (pv 0) rfl) (pe_tupA (pa_cons pe_str (pa_cons pe_str (pa_cons pe_str pa_nil)))) (by rfl)) (pss_one (ps_ret (pe_lstA (pa_cons (pe_fldK (K := K) (pv 0) rfl) (pa_cons (pe_fldK (K := K) (pv 0) rfl) pa_nil))))) pss_nil)
  (pss_cons (ps_if (pt_cmpR (op_in_seqK (K := K)) (pe_fldK (K := K) (pv 0) rfl) (pe_tupA (pa_cons pe_str (pa_cons pe_str pa_nil))) (by rfl)) (pss_one (ps_ret (pe_lstA (pa_cons (pe_fldK (K := K) (pv 0) rfl) (pa_cons (pe_fldK (K := K) (pv 0) rfl) (pa_cons (pe_ifExp (pt_cmpR op_ne (pe_fldK (K := K) (pv 0) rfl) pe_str (nomark _)) (pe_fldK (K := K) (pv 0) rfl) pe_str) pa_nil)))))) pss_nil)
  (pss_cons (ps_if (pt_cmpR op_eq (pe_fldK (K := K) (pv 0) rfl) pe_str (nomark _)) (pss_one (ps_ret (pe_lstA (pa_cons pe_str (pa_cons (pe_callTy call_str_int (by rfl) T.z_str (by decide +kernel) (pa_cons (pe_fldK (K := K) (pv 0) rfl) pa_nil)) pa_nil))))) pss_nil)
  (pss_one (ps_ret (pe_lstA (pa_cons (pe_fldK (K := K) (pv 0) rfl) pa_nil))))))), ?_⟩
  refine ⟨_, rfl, ?_⟩
  refine ⟨_, _, _, _, _, rfl, (hp), T.c_Deed.cl, T.c_Deed.no _ (by simp), lk_Deed_name, ?_⟩
  refine ⟨few (n := 3) (Nat.le_refl 3) (by decide), fun t H1 nt ht s1 => ?_⟩
  refine ⟨t, _, rfl, .inr (SqT.of ht), rfl, rfl, _, rfl, ?_⟩
  have hp1 := s1 _ _ hp
  obtain ⟨fn, fw1, fo⟩ := fw
  have fin : ∀ (w : List V) (l : List Bt) (q : PySem.Addr) (H' : Hp), w = l.map vB → H' q = some (.lst w) → l = MK.dWords d → Same H1 H' → Q (.ref q) H' := fun w l q H' e1 e2 e3 s6 => by
    refine k q H' ?_ (s1.trans s6)
    show H' q = _
    rw [e2, e1, e3]
  have two : ∀ (H2 : Hp), Same H1 H2 → True := fun _ _ => trivial
  cases d with
  | before w =>
    (first | refine ifF (by simp only [aName, dName]; decide +kernel) ?_ | refine ifT (by simp only [aName, dName]; decide +kernel) ?_)
    refine ⟨_, rfl, ?_⟩
    refine ⟨_, _, _, _, _, rfl, (hp1), T.c_Deed.cl, T.c_Deed.no _ (by simp), lk_Deed_name, ?_⟩
    refine ⟨_, rfl, ?_⟩
    refine ⟨_, _, _, _, _, rfl, (hp1), T.c_Deed.cl, T.c_Deed.no _ (by simp), lk_Deed_letters, ?_⟩
    refine ⟨few (n := 2) (Nat.le_refl 2) (by decide), fun v H6 nv hv s6 => ?_⟩
    exact fin _ [VasedBase.word "before", w] v H6 (by show [V.str "before", vB w] = _; rw [← show vB (VasedBase.word "before") = V.str "before" from by kernel_rfl]; rfl) hv rfl s6
  | after w =>
    (first | refine ifF (by simp only [aName, dName]; decide +kernel) ?_ | refine ifT (by simp only [aName, dName]; decide +kernel) ?_)
    refine ⟨_, rfl, ?_⟩
    refine ⟨_, _, _, _, _, rfl, (hp1), T.c_Deed.cl, T.c_Deed.no _ (by simp), lk_Deed_name, ?_⟩
    refine ⟨_, rfl, ?_⟩
    refine ⟨_, _, _, _, _, rfl, (hp1), T.c_Deed.cl, T.c_Deed.no _ (by simp), lk_Deed_letters, ?_⟩
    refine ⟨few (n := 2) (Nat.le_refl 2) (by decide), fun v H6 nv hv s6 => ?_⟩
    exact fin _ [VasedBase.word "after", w] v H6 (by show [V.str "after", vB w] = _; rw [← show vB (VasedBase.word "after") = V.str "after" from by kernel_rfl]; rfl) hv rfl s6
  | change w =>
    (first | refine ifF (by simp only [aName, dName]; decide +kernel) ?_ | refine ifT (by simp only [aName, dName]; decide +kernel) ?_)
    refine ⟨_, rfl, ?_⟩
    refine ⟨_, _, _, _, _, rfl, (hp1), T.c_Deed.cl, T.c_Deed.no _ (by simp), lk_Deed_name, ?_⟩
    refine ⟨_, rfl, ?_⟩
    refine ⟨_, _, _, _, _, rfl, (hp1), T.c_Deed.cl, T.c_Deed.no _ (by simp), lk_Deed_letters, ?_⟩
    refine ⟨few (n := 2) (Nat.le_refl 2) (by decide), fun v H6 nv hv s6 => ?_⟩
    exact fin _ [VasedBase.word "change", w] v H6 (by show [V.str "change", vB w] = _; rw [← show vB (VasedBase.word "change") = V.str "change" from by kernel_rfl]; rfl) hv rfl s6
  | swap a b =>
    (first | refine ifF (by simp only [aName, dName]; decide +kernel) ?_ | refine ifT (by simp only [aName, dName]; decide +kernel) ?_)
    refine ⟨_, rfl, ?_⟩
    refine ⟨_, _, _, _, _, rfl, (hp1), T.c_Deed.cl, T.c_Deed.no _ (by simp), lk_Deed_name, ?_⟩
    refine ⟨few (n := 2) (Nat.le_refl 2) (by decide), fun u H2 nu hu s2 => ?_⟩
    refine ⟨u, _, rfl, .inr (SqT.of hu), rfl, rfl, _, rfl, ?_⟩
    have hp2 := s2 _ _ hp1
    (first | refine ifF (by simp only [aName, dName]; decide +kernel) ?_ | refine ifT (by simp only [aName, dName]; decide +kernel) ?_)
    refine ⟨_, rfl, ?_⟩
    refine ⟨_, _, _, _, _, rfl, (hp2), T.c_Deed.cl, T.c_Deed.no _ (by simp), lk_Deed_name, ?_⟩
    refine ⟨_, rfl, ?_⟩
    refine ⟨_, _, _, _, _, rfl, (hp2), T.c_Deed.cl, T.c_Deed.no _ (by simp), lk_Deed_letters, ?_⟩
    refine ⟨_, rfl, ?_⟩
    refine ⟨_, _, _, _, _, rfl, (hp2), T.c_Deed.cl, T.c_Deed.no _ (by simp), lk_Deed_other, ?_⟩
    refine ⟨rfl, _, rfl, ?_⟩
    refine ite2 (fun h => ?_) (fun h => ?_)
    · refine ⟨_, rfl, ?_⟩
      refine ⟨_, _, _, _, _, rfl, (hp2), T.c_Deed.cl, T.c_Deed.no _ (by simp), lk_Deed_other, ?_⟩
      refine ⟨few (n := 3) (Nat.le_refl 3) (by decide), fun v H6 nv hv s6 => ?_⟩
      refine fin _ [VasedBase.word "swap", a, Vaseda.instead b] v H6 ?_ hv rfl (s2.trans s6)
      have e : Vaseda.instead b = b := by
        cases b with
        | nil => exact absurd h (by show ¬ (!decide (vB [] = V.str "")) = true; decide +kernel)
        | cons c r => rfl
      rw [e]
      show [V.str "swap", vB a, vB b] = _
      rw [← show vB (VasedBase.word "swap") = V.str "swap" from by kernel_rfl]
      rfl
    · refine ⟨few (n := 3) (Nat.le_refl 3) (by decide), fun v H6 nv hv s6 => ?_⟩
      refine fin _ [VasedBase.word "swap", a, Vaseda.instead b] v H6 ?_ hv rfl (s2.trans s6)
      have e : b = [] := by
        cases b with
        | nil => rfl
        | cons c r =>
          refine absurd ?_ h
          rw [decide_eq_false]
          · rfl
          · intro z
            have z2 := sB_inj ((V.str.inj z).trans sB_nil.symm)
            cases z2
      rw [e]
      show [V.str "swap", vB a, V.str "none"] = _
      rw [← show vB (VasedBase.word "swap") = V.str "swap" from by kernel_rfl, ← show vB (VasedBase.word "none") = V.str "none" from by kernel_rfl]
      rfl
  | first a b =>
    (first | refine ifF (by simp only [aName, dName]; decide +kernel) ?_ | refine ifT (by simp only [aName, dName]; decide +kernel) ?_)
    refine ⟨_, rfl, ?_⟩
    refine ⟨_, _, _, _, _, rfl, (hp1), T.c_Deed.cl, T.c_Deed.no _ (by simp), lk_Deed_name, ?_⟩
    refine ⟨few (n := 2) (Nat.le_refl 2) (by decide), fun u H2 nu hu s2 => ?_⟩
    refine ⟨u, _, rfl, .inr (SqT.of hu), rfl, rfl, _, rfl, ?_⟩
    have hp2 := s2 _ _ hp1
    (first | refine ifF (by simp only [aName, dName]; decide +kernel) ?_ | refine ifT (by simp only [aName, dName]; decide +kernel) ?_)
    refine ⟨_, rfl, ?_⟩
    refine ⟨_, _, _, _, _, rfl, (hp2), T.c_Deed.cl, T.c_Deed.no _ (by simp), lk_Deed_name, ?_⟩
    refine ⟨_, rfl, ?_⟩
    refine ⟨_, _, _, _, _, rfl, (hp2), T.c_Deed.cl, T.c_Deed.no _ (by simp), lk_Deed_letters, ?_⟩
    refine ⟨_, rfl, ?_⟩
    refine ⟨_, _, _, _, _, rfl, (hp2), T.c_Deed.cl, T.c_Deed.no _ (by simp), lk_Deed_other, ?_⟩
    refine ⟨rfl, _, rfl, ?_⟩
    refine ite2 (fun h => ?_) (fun h => ?_)
    · refine ⟨_, rfl, ?_⟩
      refine ⟨_, _, _, _, _, rfl, (hp2), T.c_Deed.cl, T.c_Deed.no _ (by simp), lk_Deed_other, ?_⟩
      refine ⟨few (n := 3) (Nat.le_refl 3) (by decide), fun v H6 nv hv s6 => ?_⟩
      refine fin _ [VasedBase.word "first", a, Vaseda.instead b] v H6 ?_ hv rfl (s2.trans s6)
      have e : Vaseda.instead b = b := by
        cases b with
        | nil => exact absurd h (by show ¬ (!decide (vB [] = V.str "")) = true; decide +kernel)
        | cons c r => rfl
      rw [e]
      show [V.str "first", vB a, vB b] = _
      rw [← show vB (VasedBase.word "first") = V.str "first" from by kernel_rfl]
      rfl
    · refine ⟨few (n := 3) (Nat.le_refl 3) (by decide), fun v H6 nv hv s6 => ?_⟩
      refine fin _ [VasedBase.word "first", a, Vaseda.instead b] v H6 ?_ hv rfl (s2.trans s6)
      have e : b = [] := by
        cases b with
        | nil => rfl
        | cons c r =>
          refine absurd ?_ h
          rw [decide_eq_false]
          · rfl
          · intro z
            have z2 := sB_inj ((V.str.inj z).trans sB_nil.symm)
            cases z2
      rw [e]
      show [V.str "first", vB a, V.str "none"] = _
      rw [← show vB (VasedBase.word "first") = V.str "first" from by kernel_rfl, ← show vB (VasedBase.word "none") = V.str "none" from by kernel_rfl]
      rfl
  | skip n =>
    (first | refine ifF (by simp only [aName, dName]; decide +kernel) ?_ | refine ifT (by simp only [aName, dName]; decide +kernel) ?_)
    refine ⟨_, rfl, ?_⟩
    refine ⟨_, _, _, _, _, rfl, (hp1), T.c_Deed.cl, T.c_Deed.no _ (by simp), lk_Deed_name, ?_⟩
    refine ⟨few (n := 2) (Nat.le_refl 2) (by decide), fun u H2 nu hu s2 => ?_⟩
    refine ⟨u, _, rfl, .inr (SqT.of hu), rfl, rfl, _, rfl, ?_⟩
    have hp2 := s2 _ _ hp1
    (first | refine ifF (by simp only [aName, dName]; decide +kernel) ?_ | refine ifT (by simp only [aName, dName]; decide +kernel) ?_)
    refine ⟨_, rfl, ?_⟩; refine ⟨_, _, _, _, _, rfl, (hp2), T.c_Deed.cl, T.c_Deed.no _ (by simp), lk_Deed_name, ?_⟩
    refine ⟨rfl, _, rfl, ?_⟩
    (first | refine ifF (decide_eq_false (by simp only [aName, dName]; decide +kernel)) ?_ | refine ifT (decide_eq_true rfl) ?_ | refine ifF (by decide +kernel) ?_ | refine ifT (by decide +kernel) ?_)
    refine ⟨_, rfl, ?_⟩
    refine ⟨_, _, _, _, _, rfl, (hp2), T.c_Deed.cl, T.c_Deed.no _ (by simp), lk_Deed_number, ?_⟩
    refine ⟨_, rfl, log_small (n := n) (by show n ≤ _; have : n ≤ 9 := fn; omega), few (n := 2) (Nat.le_refl 2) (by decide), fun v H6 nv hv s6 => ?_⟩
    refine fin _ [VasedBase.word "skip", VasedBase.showNat n] v H6 ?_ hv rfl (s2.trans s6)
    show [V.str "skip", V.str (Str.ofString (toString ((n : Nat) : Int)))] = _
    rw [str_num, ← show vB (VasedBase.word "skip") = V.str "skip" from by kernel_rfl]
    rfl
  | delete =>
    (first | refine ifF (by simp only [aName, dName]; decide +kernel) ?_ | refine ifT (by simp only [aName, dName]; decide +kernel) ?_)
    refine ⟨_, rfl, ?_⟩
    refine ⟨_, _, _, _, _, rfl, (hp1), T.c_Deed.cl, T.c_Deed.no _ (by simp), lk_Deed_name, ?_⟩
    refine ⟨few (n := 2) (Nat.le_refl 2) (by decide), fun u H2 nu hu s2 => ?_⟩
    refine ⟨u, _, rfl, .inr (SqT.of hu), rfl, rfl, _, rfl, ?_⟩
    have hp2 := s2 _ _ hp1
    (first | refine ifF (by simp only [aName, dName]; decide +kernel) ?_ | refine ifT (by simp only [aName, dName]; decide +kernel) ?_)
    refine ⟨_, rfl, ?_⟩; refine ⟨_, _, _, _, _, rfl, (hp2), T.c_Deed.cl, T.c_Deed.no _ (by simp), lk_Deed_name, ?_⟩
    refine ⟨rfl, _, rfl, ?_⟩
    (first | refine ifF (decide_eq_false (by simp only [aName, dName]; decide +kernel)) ?_ | refine ifT (decide_eq_true rfl) ?_ | refine ifF (by decide +kernel) ?_ | refine ifT (by decide +kernel) ?_)
    refine ⟨_, rfl, ?_⟩
    refine ⟨_, _, _, _, _, rfl, (hp2), T.c_Deed.cl, T.c_Deed.no _ (by simp), lk_Deed_name, ?_⟩
    refine ⟨few (n := 1) (Nat.le_refl 1) (by decide), fun v H6 nv hv s6 => ?_⟩
    exact fin _ [VasedBase.word "delete"] v H6 (by show [V.str "delete"] = _; rw [← show vB (VasedBase.word "delete") = V.str "delete" from by kernel_rfl]; rfl) hv rfl (s2.trans s6)
  | keep =>
    (first | refine ifF (by simp only [aName, dName]; decide +kernel) ?_ | refine ifT (by simp only [aName, dName]; decide +kernel) ?_)
    refine ⟨_, rfl, ?_⟩
    refine ⟨_, _, _, _, _, rfl, (hp1), T.c_Deed.cl, T.c_Deed.no _ (by simp), lk_Deed_name, ?_⟩
    refine ⟨few (n := 2) (Nat.le_refl 2) (by decide), fun u H2 nu hu s2 => ?_⟩
    refine ⟨u, _, rfl, .inr (SqT.of hu), rfl, rfl, _, rfl, ?_⟩
    have hp2 := s2 _ _ hp1
    (first | refine ifF (by simp only [aName, dName]; decide +kernel) ?_ | refine ifT (by simp only [aName, dName]; decide +kernel) ?_)
    refine ⟨_, rfl, ?_⟩; refine ⟨_, _, _, _, _, rfl, (hp2), T.c_Deed.cl, T.c_Deed.no _ (by simp), lk_Deed_name, ?_⟩
    refine ⟨rfl, _, rfl, ?_⟩
    (first | refine ifF (decide_eq_false (by simp only [aName, dName]; decide +kernel)) ?_ | refine ifT (decide_eq_true rfl) ?_ | refine ifF (by decide +kernel) ?_ | refine ifT (by decide +kernel) ?_)
    refine ⟨_, rfl, ?_⟩
    refine ⟨_, _, _, _, _, rfl, (hp2), T.c_Deed.cl, T.c_Deed.no _ (by simp), lk_Deed_name, ?_⟩
    refine ⟨few (n := 1) (Nat.le_refl 1) (by decide), fun v H6 nv hv s6 => ?_⟩
    exact fin _ [VasedBase.word "keep"] v H6 (by show [V.str "keep"] = _; rw [← show vB (VasedBase.word "keep") = V.str "keep" from by kernel_rfl]; rfl) hv rfl (s2.trans s6)
  | bring =>
    (first | refine ifF (by simp only [aName, dName]; decide +kernel) ?_ | refine ifT (by simp only [aName, dName]; decide +kernel) ?_)
    refine ⟨_, rfl, ?_⟩
    refine ⟨_, _, _, _, _, rfl, (hp1), T.c_Deed.cl, T.c_Deed.no _ (by simp), lk_Deed_name, ?_⟩
    refine ⟨few (n := 2) (Nat.le_refl 2) (by decide), fun u H2 nu hu s2 => ?_⟩
    refine ⟨u, _, rfl, .inr (SqT.of hu), rfl, rfl, _, rfl, ?_⟩
    have hp2 := s2 _ _ hp1
    (first | refine ifF (by simp only [aName, dName]; decide +kernel) ?_ | refine ifT (by simp only [aName, dName]; decide +kernel) ?_)
    refine ⟨_, rfl, ?_⟩; refine ⟨_, _, _, _, _, rfl, (hp2), T.c_Deed.cl, T.c_Deed.no _ (by simp), lk_Deed_name, ?_⟩
    refine ⟨rfl, _, rfl, ?_⟩
    (first | refine ifF (decide_eq_false (by simp only [aName, dName]; decide +kernel)) ?_ | refine ifT (decide_eq_true rfl) ?_ | refine ifF (by decide +kernel) ?_ | refine ifT (by decide +kernel) ?_)
    refine ⟨_, rfl, ?_⟩
    refine ⟨_, _, _, _, _, rfl, (hp2), T.c_Deed.cl, T.c_Deed.no _ (by simp), lk_Deed_name, ?_⟩
    refine ⟨few (n := 1) (Nat.le_refl 1) (by decide), fun v H6 nv hv s6 => ?_⟩
    exact fin _ [VasedBase.word "bring"] v H6 (by show [V.str "bring"] = _; rw [← show vB (VasedBase.word "bring") = V.str "bring" from by kernel_rfl]; rfl) hv rfl (s2.trans s6)
  | trade =>
    (first | refine ifF (by simp only [aName, dName]; decide +kernel) ?_ | refine ifT (by simp only [aName, dName]; decide +kernel) ?_)
    refine ⟨_, rfl, ?_⟩
    refine ⟨_, _, _, _, _, rfl, (hp1), T.c_Deed.cl, T.c_Deed.no _ (by simp), lk_Deed_name, ?_⟩
    refine ⟨few (n := 2) (Nat.le_refl 2) (by decide), fun u H2 nu hu s2 => ?_⟩
    refine ⟨u, _, rfl, .inr (SqT.of hu), rfl, rfl, _, rfl, ?_⟩
    have hp2 := s2 _ _ hp1
    (first | refine ifF (by simp only [aName, dName]; decide +kernel) ?_ | refine ifT (by simp only [aName, dName]; decide +kernel) ?_)
    refine ⟨_, rfl, ?_⟩; refine ⟨_, _, _, _, _, rfl, (hp2), T.c_Deed.cl, T.c_Deed.no _ (by simp), lk_Deed_name, ?_⟩
    refine ⟨rfl, _, rfl, ?_⟩
    (first | refine ifF (decide_eq_false (by simp only [aName, dName]; decide +kernel)) ?_ | refine ifT (decide_eq_true rfl) ?_ | refine ifF (by decide +kernel) ?_ | refine ifT (by decide +kernel) ?_)
    refine ⟨_, rfl, ?_⟩
    refine ⟨_, _, _, _, _, rfl, (hp2), T.c_Deed.cl, T.c_Deed.no _ (by simp), lk_Deed_name, ?_⟩
    refine ⟨few (n := 1) (Nat.le_refl 1) (by decide), fun v H6 nv hv s6 => ?_⟩
    exact fin _ [VasedBase.word "trade"] v H6 (by show [V.str "trade"] = _; rw [← show vB (VasedBase.word "trade") = V.str "trade" from by kernel_rfl]; rfl) hv rfl (s2.trans s6)
  | halt_ =>
    (first | refine ifF (by simp only [aName, dName]; decide +kernel) ?_ | refine ifT (by simp only [aName, dName]; decide +kernel) ?_)
    refine ⟨_, rfl, ?_⟩
    refine ⟨_, _, _, _, _, rfl, (hp1), T.c_Deed.cl, T.c_Deed.no _ (by simp), lk_Deed_name, ?_⟩
    refine ⟨few (n := 2) (Nat.le_refl 2) (by decide), fun u H2 nu hu s2 => ?_⟩
    refine ⟨u, _, rfl, .inr (SqT.of hu), rfl, rfl, _, rfl, ?_⟩
    have hp2 := s2 _ _ hp1
    (first | refine ifF (by simp only [aName, dName]; decide +kernel) ?_ | refine ifT (by simp only [aName, dName]; decide +kernel) ?_)
    refine ⟨_, rfl, ?_⟩; refine ⟨_, _, _, _, _, rfl, (hp2), T.c_Deed.cl, T.c_Deed.no _ (by simp), lk_Deed_name, ?_⟩
    refine ⟨rfl, _, rfl, ?_⟩
    (first | refine ifF (decide_eq_false (by simp only [aName, dName]; decide +kernel)) ?_ | refine ifT (decide_eq_true rfl) ?_ | refine ifF (by decide +kernel) ?_ | refine ifT (by decide +kernel) ?_)
    refine ⟨_, rfl, ?_⟩
    refine ⟨_, _, _, _, _, rfl, (hp2), T.c_Deed.cl, T.c_Deed.no _ (by simp), lk_Deed_name, ?_⟩
    refine ⟨few (n := 1) (Nat.le_refl 1) (by decide), fun v H6 nv hv s6 => ?_⟩
    exact fin _ [VasedBase.word "stop"] v H6 (by show [V.str "stop"] = _; rw [← show vB (VasedBase.word "stop") = V.str "stop" from by kernel_rfl]; rfl) hv rfl (s2.trans s6)
/-! ### command_form, form_of -/
theorem join_B (s : Bt) : ∀ l : List Bt, Str.join (sB s) (l.map sB) = sB (MK.joinB s l)
  | [] => by
    show Str.empty = sB []
    decide +kernel
  | [x] => rfl
  | x :: y :: r => by
    show sB x ++ sB s ++ Str.join (sB s) ((y :: r).map sB) = sB (x ++ s ++ MK.joinB s (y :: r))
    rw [join_B s (y :: r), sB_app, sB_app]
theorem joined (s : Bt) (l : List Bt) : Txt.join (sB s) (l.map sB) = sB (MK.joinB s l) := by
  rw [TL.join_eq, join_B]
theorem map_vB (l : List Bt) : l.map vB = (l.map sB).map V.str := by
  rw [List.map_map]
  rfl
theorem sum_len (l : List Bt) : ((l.map sB).map fun x => x.length) = l.map fun x => x.length := by
  rw [List.map_map]
  exact List.map_congr_left fun x _ => sB_len x
theorem sum_few {m : Nat} : ∀ {l : List Bt}, (∀ x ∈ l, x.length ≤ m) → (l.map fun x => x.length).sum ≤ l.length * m
  | [], _ => by simp
  | x :: r, h => by
    have h1 := h x List.mem_cons_self
    have h2 := sum_few (l := r) fun y hy => h y (List.mem_cons_of_mem _ hy)
    rw [List.map_cons, List.sum_cons, List.length_cons, Nat.succ_mul]
    omega
theorem nat_few {n : Nat} (h : n ≤ 99) : (VasedBase.showNat n).length ≤ 8 := by
  have h2 : (TL.numL n).length ≤ 2 := TL.numL_len (by decide) (by omega)
  unfold VasedBase.showNat
  unfold TL.numL at h2
  rw [List.length_map] at h2 ⊢
  omega
theorem adr_few {a : Vaseda.Addr} (f : AdrFew a) : (MK.adrWords a).length ≤ 8 ∧ ∀ w ∈ MK.adrWords a, w.length ≤ 8 := by
  unfold MK.adrWords
  split
  · exact ⟨by decide, fun w h => by cases h⟩
  · obtain ⟨h1, h2, h3, h4⟩ := f
    rw [MK.aWords_rep, ← nots_nts, base_words]
    rw [base_first] at h2
    rw [base_final] at h3
    rw [base_letters] at h4
    have e0 := base_not a
    generalize base_ a = b at *
    have k : (MK.baseW b).length ≤ 4 ∧ ∀ w ∈ MK.baseW b, w.length ≤ 8 := by
      cases b with
      | not c => exact absurd rfl (e0 c)
      | all => exact ⟨by decide, by decide⟩
      | last => exact ⟨by decide, by decide⟩
      | line n =>
        refine ⟨by show 2 ≤ 4; decide, fun w hw => ?_⟩
        rcases List.mem_cons.mp hw with e | hw
        · rw [e]; decide
        · rw [List.mem_singleton.mp hw]; exact nat_few h2
      | span n m =>
        refine ⟨by show 4 ≤ 4; decide, fun w hw => ?_⟩
        rcases List.mem_cons.mp hw with e | hw
        · rw [e]; decide
        rcases List.mem_cons.mp hw with e | hw
        · rw [e]; exact nat_few h2
        rcases List.mem_cons.mp hw with e | hw
        · rw [e]; decide
        · rw [List.mem_singleton.mp hw]; exact nat_few h3
      | has x =>
        refine ⟨by show 2 ≤ 4; decide, fun w hw => ?_⟩
        rcases List.mem_cons.mp hw with e | hw
        · rw [e]; decide
        · rw [List.mem_singleton.mp hw]; exact h4
      | is_ x =>
        refine ⟨by show 2 ≤ 4; decide, fun w hw => ?_⟩
        rcases List.mem_cons.mp hw with e | hw
        · rw [e]; decide
        · rw [List.mem_singleton.mp hw]; exact h4
    refine ⟨by simp; omega, fun w hw => ?_⟩
    rcases List.mem_cons.mp hw with e | hw
    · rw [e]; decide
    rcases List.mem_append.mp hw with e | hw
    · rw [List.eq_of_mem_replicate e]; decide
    · exact k.2 w hw
theorem deed_few {d : Deed} (f : DeedFew d) : (MK.dWords d).length ≤ 3 ∧ ∀ w ∈ MK.dWords d, w.length ≤ 8 := by
  obtain ⟨h1, h2, h3⟩ := f
  have i : ∀ b : Bt, b.length ≤ 8 → (Vaseda.instead b).length ≤ 8 := fun b h => by
    unfold Vaseda.instead
    split
    · decide
    · exact h
  have one : ∀ {x : Bt}, x.length ≤ 8 → ∀ w ∈ [x], w.length ≤ 8 := fun h w hw => by rw [List.mem_singleton.mp hw]; exact h
  have two : ∀ {x y : Bt}, x.length ≤ 8 → y.length ≤ 8 → ∀ w ∈ [x, y], w.length ≤ 8 := fun h h' w hw => by
    rcases List.mem_cons.mp hw with e | hw
    · rw [e]; exact h
    · exact one h' w hw
  have three : ∀ {x y z : Bt}, x.length ≤ 8 → y.length ≤ 8 → z.length ≤ 8 → ∀ w ∈ [x, y, z], w.length ≤ 8 := fun h h' h'' w hw => by
    rcases List.mem_cons.mp hw with e | hw
    · rw [e]; exact h
    · exact two h' h'' w hw
  cases d with
  | before w => exact ⟨by show 2 ≤ 3; decide, two (by decide) h2⟩
  | after w => exact ⟨by show 2 ≤ 3; decide, two (by decide) h2⟩
  | change w => exact ⟨by show 2 ≤ 3; decide, two (by decide) h2⟩
  | swap a b => exact ⟨by show 3 ≤ 3; decide, three (by decide) h2 (i b h3)⟩
  | first a b => exact ⟨by show 3 ≤ 3; decide, three (by decide) h2 (i b h3)⟩
  | skip n => exact ⟨by show 2 ≤ 3; decide, two (by decide) (nat_few (by have : n ≤ 9 := h1; omega))⟩
  | delete => exact ⟨by show 1 ≤ 3; decide, one (by decide)⟩
  | keep => exact ⟨by show 1 ≤ 3; decide, one (by decide)⟩
  | bring => exact ⟨by show 1 ≤ 3; decide, one (by decide)⟩
  | trade => exact ⟨by show 1 ≤ 3; decide, one (by decide)⟩
  | halt_ => exact ⟨by show 1 ≤ 3; decide, one (by decide)⟩
theorem cmd_few {c : Cmd} (f : CmdFew c) : (MK.adrWords c.a ++ MK.dWords c.d ++ [VasedBase.word ";"]).length ≤ 12 ∧ ∀ w ∈ MK.adrWords c.a ++ MK.dWords c.d ++ [VasedBase.word ";"], w.length ≤ 8 := by
  obtain ⟨a1, a2⟩ := adr_few f.a
  obtain ⟨d1, d2⟩ := deed_few f.d
  refine ⟨by simp; omega, fun w hw => ?_⟩
  rcases List.mem_append.mp hw with hw | hw
  · rcases List.mem_append.mp hw with hw | hw
    · exact a2 w hw
    · exact d2 w hw
  · rw [List.mem_singleton.mp hw]; decide
theorem joinB_len (s : Bt) : ∀ l : List Bt, (MK.joinB s l).length ≤ (l.map fun x => x.length).sum + l.length * s.length
  | [] => by simp [MK.joinB]
  | [x] => by simp [MK.joinB]
  | x :: y :: r => by
    have ih := joinB_len s (y :: r)
    show (x ++ s ++ MK.joinB s (y :: r)).length ≤ _
    rw [List.length_append, List.length_append, List.map_cons, List.sum_cons, List.length_cons, Nat.succ_mul]
    omega
theorem show_few {c : Cmd} (f : CmdFew c) : (Vaseda.showCmd c).length ≤ 200 := by
  obtain ⟨h1, h2⟩ := cmd_few f
  have h3 := sum_few h2
  have h4 := joinB_len MK.sp1 (MK.adrWords c.a ++ MK.dWords c.d ++ [VasedBase.word ";"])
  rw [← MK.show_cmd, List.length_append]
  have h5 : MK.sp1.length = 1 := by decide
  rw [h5] at h4
  have h6 : ([10] : Bt).length = 1 := rfl
  rw [h6]
  omega
def sp_command_form (A : Ad) (K : PySem.W.Frag) : Sp := fun vs H Q _ => ∃ (p : PySem.Addr) (c : Cmd), vs = [.ref p] ∧ CmdAt A H p c ∧ CmdFew c ∧ ∀ H', Same H H' → Q (vB (Vaseda.showCmd c)) H'
theorem ok_command_form (T : Txt K mg A) (Z : Apart A) : ∃ f fd, FnOk P w K mg base CX0 2 f fd ["command"] (sp_command_form A K) ∧ mg "command_form" = some (.ref f) ∧ PySem.W.keepIn K (.ref f) = true ∧ Binds K fd ["command"] [] := by
  obtain ⟨f, fd, F, hm, hb⟩ := T.d_command_form.ex
  obtain ⟨f_address_words, fd_address_words, G_address_words, m_address_words, k_address_words, b_address_words⟩ := ok_address_words (P := P) (w := w) (base := base) T Z
  obtain ⟨f_deed_words, fd_deed_words, G_deed_words, m_deed_words, k_deed_words, b_deed_words⟩ := ok_deed_words (P := P) (w := w) (base := base) T Z
  refine ⟨f, fd, ?_, hm, F.kp, hb⟩
  refine F.ok sc_command_form (fun vs H Q E h => by obtain ⟨p, c, rfl, ⟨dx, pa, pd, hp, ha, hd⟩, fw, k⟩ := h; rfl) (fun cdv A' outer s H vs Q E hr h => ?_)
  obtain ⟨p, c, rfl, ⟨dx, pa, pd, hp, ha, hd⟩, fw, k⟩ := h
  refine ⟨_, (pss_cons (ps_set (i := 1) sc_command_form.nd rfl (by first | exact Or.inl rfl | exact Or.inr rfl) (pe_op op_catA (pe_op op_catA (pe_call G_address_words (hr.mono (by decide)) rfl m_address_words k_address_words b_address_words .nil pass0 (pa_cons (pe_fldK (K := K) (pv 0) rfl) pa_nil)) (pe_call G_deed_words (hr.mono (by decide)) rfl m_deed_words k_deed_words b_deed_words .nil pass0 (pa_cons (pe_fldK (K := K) (pv 0) rfl) pa_nil))) (pe_lstA (pa_cons pe_str pa_nil))))
  (pss_one (ps_ret (pe_op op_add_str (pe_join pe_str (pv 1)) pe_str)))), ?_⟩
  refine ⟨_, rfl, ?_⟩
  refine ⟨_, _, _, _, _, rfl, (hp), T.c_Command.cl, T.c_Command.no _ (by simp), lk_Command_address, ?_⟩
  refine ⟨pa, c.a, rfl, ha, fw.a, fun q H1 hq s1 => ?_⟩
  refine ⟨_, rfl, ?_⟩
  refine ⟨_, _, _, _, _, rfl, (s1 _ _ hp), T.c_Command.cl, T.c_Command.no _ (by simp), lk_Command_deed, ?_⟩
  refine ⟨pd, c.d, rfl, hd.kp Z (same_kp s1), fw.d, fun r H2 hr2 s2 => ?_⟩
  obtain ⟨f1, f2⟩ := cmd_few fw
  have f3 := sum_few f2
  have f4 : (MK.adrWords c.a ++ MK.dWords c.d ++ [VasedBase.word ";"]).length * 8 ≤ 12 * 8 := Nat.mul_le_mul_right _ f1
  rw [List.length_append, List.length_append] at f1
  refine ⟨q, r, _, _, rfl, rfl, s2 _ _ hq, hr2, few (m := 12) (by rw [List.length_map, List.length_map]; omega) (by decide), fun y H3 ny hy s3 => ?_⟩
  refine ⟨few (n := 1) (Nat.le_refl 1) (by decide), fun z H4 nz hz s4 => ?_⟩
  refine ⟨y, z, _, _, rfl, rfl, s4 _ _ hy, hz, few (m := 12) (by rw [List.length_append, List.length_map, List.length_map]; exact f1) (by decide), fun v H5 nv hv s5 => ?_⟩
  have e1 : (List.map vB (MK.adrWords c.a) ++ List.map vB (MK.dWords c.d) ++ [V.str ";"]) = ((MK.adrWords c.a ++ MK.dWords c.d ++ [VasedBase.word ";"]).map sB).map V.str := by
    rw [← map_vB, List.map_append, List.map_append, ← show vB (VasedBase.word ";") = V.str ";" from by kernel_rfl]
    rfl
  rw [e1] at hv
  refine ⟨⟨_, rfl⟩, _, rfl, _, v, _, rfl, rfl, .inl (SqL.of hv), ?_, ?_⟩
  · rw [sum_len, List.length_map, List.length_append, List.length_append]
    show _ + (_ + _ + _) * 1 ≤ _
    omega
  · rw [show (Str.ofString " ") = sB MK.sp1 from by kernel_rfl, joined]
    have e2 : MK.joinB MK.sp1 (MK.adrWords c.a ++ MK.dWords c.d ++ [VasedBase.word ";"]) ++ [10] = Vaseda.showCmd c := MK.show_cmd c
    have e3 := show_few fw
    rw [← e2, List.length_append] at e3
    refine ⟨_, _, rfl, rfl, few (m := 200) (by rw [sB_len]; exact e3) (by decide), ?_⟩
    rw [show (Str.ofString "\n") = sB [10] from by kernel_rfl, sB_app, e2]
    exact k H5 ((((s1.trans s2).trans s3).trans s4).trans s5)
def ScrFew (s : Script) : Prop := s.length ≤ 16 ∧ ∀ c ∈ s, CmdFew c
def sp_form_of (A : Ad) (K : PySem.W.Frag) : Sp := fun vs H Q _ => ∃ (c : PySem.Addr) (s : Script), vs = [.ref c] ∧ ScrAt A H c s ∧ ScrFew s ∧ ∀ H', Same H H' → Q (vB (Vaseda.shown s)) H'
theorem ok_form_of (T : Txt K mg A) (Z : Apart A) : ∃ f fd, FnOk P w K mg base CX0 3 f fd ["commands"] (sp_form_of A K) ∧ mg "form_of" = some (.ref f) ∧ PySem.W.keepIn K (.ref f) = true ∧ Binds K fd ["commands"] [] := by
  obtain ⟨f, fd, F, hm, hb⟩ := T.d_form_of.ex
  obtain ⟨f_command_form, fd_command_form, G_command_form, m_command_form, k_command_form, b_command_form⟩ := ok_command_form (P := P) (w := w) (base := base) T Z
  refine ⟨f, fd, ?_, hm, F.kp, hb⟩
  refine F.ok sc_form_of (fun vs H Q E h => by obtain ⟨c, s, rfl, ⟨vs, hc, hs⟩, fw, k⟩ := h; rfl) (fun cdv A' outer s H vs Q E hr h => ?_)
  obtain ⟨c, s, rfl, ⟨vs, hc, hs⟩, fw, k⟩ := h
  refine ⟨_, (pss_one (ps_ret (pe_join pe_str (pe_lc (own := [("command", 1)]) (g := gName 1) rfl sc_form_of.nd (pi_list (pv 0)) (blkOk_by (N := N_form_of) (sc := defScope s_form_of) (by decide +kernel))
   (fun _ _ _ _ _ => pg_name (i := 1) sc_form_of.nd rfl (Or.inl rfl)) (fun _ _ _ _ _ => by exact pts_nil) (fun _ _ _ _ _ => by exact (pe_call G_command_form (hr.mono (by decide)) rfl m_command_form k_command_form b_command_form .nil pass0 (pa_cons (pv 1) pa_nil))))))), ?_⟩
  have hl := hs.1
  refine ⟨⟨_, rfl⟩, _, rfl, c, rfl, ⟨vs, SqL.of hc⟩, fun D hD => ?_⟩
  refine lc_itA (walk_list (K := K) (a := c) (xs := vs)) (fun i => (s.take i).map fun c => vB (Vaseda.showCmd c)) hD (fun H' s1 => SqL.of (s1 _ _ hc)) rfl (fun i _ => fewer (m := 16) (by rw [List.length_map, List.length_take]; have := fw.1; omega) (by decide)) ?_ ?_
  · rintro i v H1 H2 hi s1 ⟨rfl, hv⟩ N M hN hM
    obtain ⟨c1, e1, q1, rfl, g1⟩ := hs.at hv
    refine ⟨rfl, ?_⟩
    refine ⟨_, rfl, q1, c1, rfl, g1.kp Z (same_kp s1), fw.2 c1 (List.mem_of_getElem? e1), fun H3 s3 => hN _ _ s3 ?_⟩
    show (s.take (i + 1)).map _ = _
    rw [take_more e1, List.map_append]
    rfl
  · intro H1 s1 hd
    rw [hl, List.take_length] at hd
    have e1 : (s.map fun c => vB (Vaseda.showCmd c)) = ((s.map Vaseda.showCmd).map sB).map V.str := by
      rw [← map_vB, List.map_map]
      rfl
    have e4 : ∀ w ∈ s.map Vaseda.showCmd, w.length ≤ 200 := fun w hw => by
      obtain ⟨c1, h1, rfl⟩ := List.mem_map.mp hw
      exact show_few (fw.2 c1 h1)
    have e5 := sum_few e4
    rw [List.length_map] at e5
    have e6 := fw.1
    refine ⟨_, D, (s.map Vaseda.showCmd).map sB, rfl, rfl, .inl (SqL.of (by rw [hd, e1])), ?_, ?_⟩
    · rw [sum_len]
      show _ + _ * 0 ≤ _
      have : s.length * 200 ≤ 16 * 200 := Nat.mul_le_mul_right _ e6
      omega
    · rw [show (Str.ofString "") = sB [] from by kernel_rfl, joined]
      have e7 : ∀ l : List Bt, MK.joinB [] l = l.flatten := by
        intro l
        induction l with
        | nil => rfl
        | cons x r ih =>
          cases r with
          | nil => simp [MK.joinB]
          | cons y r =>
            show x ++ [] ++ MK.joinB [] (y :: r) = _
            rw [ih, List.append_nil]
            rfl
      rw [e7, ← List.flatMap_def]
      exact k H1 s1
end
end
end SK
set_option Elab.async false
set_option linter.all false
set_option maxRecDepth 100000
set_option maxHeartbeats 2000000
namespace SK
open PySem PySem.Spec PyProof.Rows L2
section
variable {P : Program} {w : World} {K : PySem.W.Frag} {mg : Str → Option Value} {base : Heap} {A : Ad}
theorem subAt_B (x w : Bt) (i : Nat) : Builtin.Str.subAt (sB x) (sB w) i = ((x.drop i).take w.length == w) := by
  unfold Builtin.Str.subAt
  have e1 : ((sB x).cps.extract i (i + (sB w).length) == (sB w).cps) = (((sB x).cps.extract i (i + (sB w).length)).toList == (sB w).cps.toList) := by
    rw [Bool.eq_iff_iff, beq_iff_eq, beq_iff_eq]
    exact ⟨fun h => by rw [h], fun h => Array.ext' h⟩
  rw [e1, Array.toList_extract, sB_list, sB_list, sB_len]
  rw [Bool.eq_iff_iff, beq_iff_eq, beq_iff_eq]
  rw [List.extract_eq_take_drop, Nat.add_sub_cancel_left]
  rw [← List.map_drop, ← List.map_take]
  exact ⟨map_toNat_inj, fun h => by rw [h]⟩
theorem has_B (x w : Bt) : (!(Builtin.Str.occurrences (sB x) (sB w) 0 (sB x).length 1).isEmpty) = Vaseda.hasIn w x := by
  rw [Bool.eq_iff_iff, StrLaws.found_iff, MK.hasIn_iff]
  constructor
  · rintro ⟨i, hi, h⟩
    rw [subAt_B, beq_iff_eq] at h
    refine ⟨x.take i, (x.drop i).drop w.length, ?_⟩
    have e := List.take_append_drop w.length (x.drop i)
    rw [h] at e
    rw [List.append_assoc, e, List.take_append_drop]
  · rintro ⟨s, t, e⟩
    refine ⟨s.length, ?_, ?_⟩
    · rw [sB_len, sB_len, ← e]
      simp
    · rw [subAt_B, beq_iff_eq, ← e, List.append_assoc, List.drop_left, List.take_left]
theorem ends_B (x w : Bt) : Txt.endswith (sB x) (sB w) = w.isSuffixOf x := by
  unfold Txt.endswith
  rw [subAt_B, sB_len, sB_len, Bool.eq_iff_iff, Bool.and_eq_true, beq_iff_eq, decide_eq_true_iff, List.isSuffixOf_iff_suffix]
  constructor
  · rintro ⟨h1, h2⟩
    rw [List.take_of_length_le (by rw [List.length_drop]; omega)] at h2
    refine ⟨x.take (x.length - w.length), ?_⟩
    have e := List.take_append_drop (x.length - w.length) x
    rw [h2] at e
    exact e
  · rintro ⟨s, e⟩
    refine ⟨by rw [← e]; simp, ?_⟩
    rw [← e, List.length_append, Nat.add_sub_cancel, List.drop_left, List.take_of_length_le (Nat.le_refl _)]
section
open Vaseda (Script Deed Cmd Work Out)
theorem holds_base (k : Nat) (l : Bool) (x : Bt) : ∀ a, Vaseda.holds k l x a = if nots a % 2 = 0 then Vaseda.holds k l x (base_ a) else !Vaseda.holds k l x (base_ a)
  | .not a => by
    have ih := holds_base k l x a
    show (!Vaseda.holds k l x a) = if (nots a + 1) % 2 = 0 then Vaseda.holds k l x (base_ a) else !Vaseda.holds k l x (base_ a)
    rw [ih]
    by_cases h : nots a % 2 = 0
    · rw [if_pos h, if_neg (by omega)]
    · rw [if_neg h, if_pos (by omega), Bool.not_not]
  | .all | .line _ | .span _ _ | .last | .has _ | .is_ _ => rfl
theorem bit_eq (b : Bool) : decide (vN (Vasedb.bit b) = V.int 1) = b := by cases b <;> decide +kernel
def sp_holds_without_nots (A : Ad) (K : PySem.W.Frag) : Sp := fun vs H Q _ => ∃ (p pl : PySem.Addr) (a : Vaseda.Addr) (x : Bt) (q : Vasedb.Spot), vs = [.ref p, vB x, .ref pl] ∧ AdrAt A H p a ∧ PlcAt H pl q ∧ Q (.bl (Vaseda.holds q.k q.last x (base_ a))) H
theorem ok_holds_without_nots (T : Txt K mg A) (Z : Apart A) : ∃ f fd, FnOk P w K mg base CX0 1 f fd ["address", "line", "place"] (sp_holds_without_nots A K) ∧ mg "holds_without_nots" = some (.ref f) ∧ PySem.W.keepIn K (.ref f) = true ∧ Binds K fd ["address", "line", "place"] [] := by
  obtain ⟨f, fd, F, hm, hb⟩ := T.d_holds_without_nots.ex
  refine ⟨f, fd, ?_, hm, F.kp, hb⟩
  refine F.ok sc_holds_without_nots (fun vs H Q E h => by obtain ⟨p, pl, a, x, q, rfl, ⟨dx, hp⟩, hl, k⟩ := h; rfl) (fun cdv A' outer s H vs Q E hr h => ?_)
  obtain ⟨p, pl, a, x, q, rfl, ⟨dx, hp⟩, hl, k⟩ := h
  refine ⟨_, (pss_cons (ps_if (pt_cmpR op_eq (pe_fldK (K := K) (pv 0) rfl) pe_str (nomark _)) (pss_one (ps_ret pe_bl)) pss_nil)
  (pss_cons (ps_if (pt_cmpR op_eq (pe_fldK (K := K) (pv 0) rfl) pe_str (nomark _)) (pss_one (ps_ret (pe_cmpR op_eq (pe_ix (ix_tupK (K := K)) (pv 2) pe_int (fun _ _ => rfl)) pe_int (nomark _)))) pss_nil)
  (pss_cons (ps_if (pt_cmpR op_eq (pe_fldK (K := K) (pv 0) rfl) pe_str (nomark _)) (pss_one (ps_ret (pe_cmpR op_in_str (pe_fldK (K := K) (pv 0) rfl) (pv 1) (by rfl)))) pss_nil)
  (pss_cons (ps_if (pt_cmpR op_eq (pe_fldK (K := K) (pv 0) rfl) pe_str (nomark _)) (pss_one (ps_ret (pe_cmpR op_eq (pe_fldK (K := K) (pv 0) rfl) (pv 1) (nomark _)))) pss_nil)
  (pss_one (ps_ret (pe_and (pe_cmpR op_ge (pe_ix (ix_tupK (K := K)) (pv 2) pe_int (fun _ _ => rfl)) (pe_fldK (K := K) (pv 0) rfl) (nomark _)) (pe_one (pe_cmpR op_le (pe_ix (ix_tupK (K := K)) (pv 2) pe_int (fun _ _ => rfl)) (pe_fldK (K := K) (pv 0) rfl) (nomark _)))))))))), ?_⟩
  rw [base_name, base_first, base_final, base_letters] at hp
  have e0 := base_not a
  generalize base_ a = b at *
  cases b with
  | not c => exact absurd rfl (e0 c)
  | all =>
    refine ⟨_, rfl, ?_⟩; refine ⟨_, _, _, _, _, rfl, (hp), T.c_Address.cl, T.c_Address.no _ (by simp), lk_Address_name, ?_⟩
    refine ⟨rfl, _, rfl, ?_⟩
    (first | refine ifF (decide_eq_false (by simp only [aName, dName]; decide +kernel)) ?_ | refine ifT (decide_eq_true rfl) ?_ | refine ifF (by decide +kernel) ?_ | refine ifT (by decide +kernel) ?_)
    exact k
  | last =>
    refine ⟨_, rfl, ?_⟩; refine ⟨_, _, _, _, _, rfl, (hp), T.c_Address.cl, T.c_Address.no _ (by simp), lk_Address_name, ?_⟩
    refine ⟨rfl, _, rfl, ?_⟩
    (first | refine ifF (decide_eq_false (by simp only [aName, dName]; decide +kernel)) ?_ | refine ifT (decide_eq_true rfl) ?_ | refine ifF (by decide +kernel) ?_ | refine ifT (by decide +kernel) ?_)
    refine ⟨_, rfl, ?_⟩; refine ⟨_, _, _, _, _, rfl, (hp), T.c_Address.cl, T.c_Address.no _ (by simp), lk_Address_name, ?_⟩
    refine ⟨rfl, _, rfl, ?_⟩
    (first | refine ifF (decide_eq_false (by simp only [aName, dName]; decide +kernel)) ?_ | refine ifT (decide_eq_true rfl) ?_ | refine ifF (by decide +kernel) ?_ | refine ifT (by decide +kernel) ?_)
    refine ⟨_, rfl, _, _, _, _, rfl, rfl, SqT.of hl, atI_nat (j := 1) rfl, rfl, ?_⟩
    rw [bit_eq]
    exact k
  | has w =>
    refine ⟨_, rfl, ?_⟩; refine ⟨_, _, _, _, _, rfl, (hp), T.c_Address.cl, T.c_Address.no _ (by simp), lk_Address_name, ?_⟩
    refine ⟨rfl, _, rfl, ?_⟩
    (first | refine ifF (decide_eq_false (by simp only [aName, dName]; decide +kernel)) ?_ | refine ifT (decide_eq_true rfl) ?_ | refine ifF (by decide +kernel) ?_ | refine ifT (by decide +kernel) ?_)
    refine ⟨_, rfl, ?_⟩; refine ⟨_, _, _, _, _, rfl, (hp), T.c_Address.cl, T.c_Address.no _ (by simp), lk_Address_name, ?_⟩
    refine ⟨rfl, _, rfl, ?_⟩
    (first | refine ifF (decide_eq_false (by simp only [aName, dName]; decide +kernel)) ?_ | refine ifT (decide_eq_true rfl) ?_ | refine ifF (by decide +kernel) ?_ | refine ifT (by decide +kernel) ?_)
    refine ⟨_, rfl, ?_⟩; refine ⟨_, _, _, _, _, rfl, (hp), T.c_Address.cl, T.c_Address.no _ (by simp), lk_Address_name, ?_⟩
    refine ⟨rfl, _, rfl, ?_⟩
    (first | refine ifF (decide_eq_false (by simp only [aName, dName]; decide +kernel)) ?_ | refine ifT (decide_eq_true rfl) ?_ | refine ifF (by decide +kernel) ?_ | refine ifT (by decide +kernel) ?_)
    refine ⟨_, rfl, ?_⟩
    refine ⟨_, _, _, _, _, rfl, (hp), T.c_Address.cl, T.c_Address.no _ (by simp), lk_Address_letters, ?_⟩
    refine ⟨_, rfl, _, _, rfl, rfl, ?_⟩
    rw [has_B]
    exact k
  | is_ w =>
    refine ⟨_, rfl, ?_⟩; refine ⟨_, _, _, _, _, rfl, (hp), T.c_Address.cl, T.c_Address.no _ (by simp), lk_Address_name, ?_⟩
    refine ⟨rfl, _, rfl, ?_⟩
    (first | refine ifF (decide_eq_false (by simp only [aName, dName]; decide +kernel)) ?_ | refine ifT (decide_eq_true rfl) ?_ | refine ifF (by decide +kernel) ?_ | refine ifT (by decide +kernel) ?_)
    refine ⟨_, rfl, ?_⟩; refine ⟨_, _, _, _, _, rfl, (hp), T.c_Address.cl, T.c_Address.no _ (by simp), lk_Address_name, ?_⟩
    refine ⟨rfl, _, rfl, ?_⟩
    (first | refine ifF (decide_eq_false (by simp only [aName, dName]; decide +kernel)) ?_ | refine ifT (decide_eq_true rfl) ?_ | refine ifF (by decide +kernel) ?_ | refine ifT (by decide +kernel) ?_)
    refine ⟨_, rfl, ?_⟩; refine ⟨_, _, _, _, _, rfl, (hp), T.c_Address.cl, T.c_Address.no _ (by simp), lk_Address_name, ?_⟩
    refine ⟨rfl, _, rfl, ?_⟩
    (first | refine ifF (decide_eq_false (by simp only [aName, dName]; decide +kernel)) ?_ | refine ifT (decide_eq_true rfl) ?_ | refine ifF (by decide +kernel) ?_ | refine ifT (by decide +kernel) ?_)
    refine ⟨_, rfl, ?_⟩; refine ⟨_, _, _, _, _, rfl, (hp), T.c_Address.cl, T.c_Address.no _ (by simp), lk_Address_name, ?_⟩
    refine ⟨rfl, _, rfl, ?_⟩
    (first | refine ifF (decide_eq_false (by simp only [aName, dName]; decide +kernel)) ?_ | refine ifT (decide_eq_true rfl) ?_ | refine ifF (by decide +kernel) ?_ | refine ifT (by decide +kernel) ?_)
    refine ⟨_, rfl, ?_⟩
    refine ⟨_, _, _, _, _, rfl, (hp), T.c_Address.cl, T.c_Address.no _ (by simp), lk_Address_letters, ?_⟩
    refine ⟨_, rfl, rfl, ?_⟩
    rw [dec_vB]
    rw [show (aLetters (.is_ w) == x) = (x == w) from by rw [Bool.eq_iff_iff, beq_iff_eq, beq_iff_eq]; exact eq_comm]
    exact k
  | line n =>
    refine ⟨_, rfl, ?_⟩; refine ⟨_, _, _, _, _, rfl, (hp), T.c_Address.cl, T.c_Address.no _ (by simp), lk_Address_name, ?_⟩
    refine ⟨rfl, _, rfl, ?_⟩
    (first | refine ifF (decide_eq_false (by simp only [aName, dName]; decide +kernel)) ?_ | refine ifT (decide_eq_true rfl) ?_ | refine ifF (by decide +kernel) ?_ | refine ifT (by decide +kernel) ?_)
    refine ⟨_, rfl, ?_⟩; refine ⟨_, _, _, _, _, rfl, (hp), T.c_Address.cl, T.c_Address.no _ (by simp), lk_Address_name, ?_⟩
    refine ⟨rfl, _, rfl, ?_⟩
    (first | refine ifF (decide_eq_false (by simp only [aName, dName]; decide +kernel)) ?_ | refine ifT (decide_eq_true rfl) ?_ | refine ifF (by decide +kernel) ?_ | refine ifT (by decide +kernel) ?_)
    refine ⟨_, rfl, ?_⟩; refine ⟨_, _, _, _, _, rfl, (hp), T.c_Address.cl, T.c_Address.no _ (by simp), lk_Address_name, ?_⟩
    refine ⟨rfl, _, rfl, ?_⟩
    (first | refine ifF (decide_eq_false (by simp only [aName, dName]; decide +kernel)) ?_ | refine ifT (decide_eq_true rfl) ?_ | refine ifF (by decide +kernel) ?_ | refine ifT (by decide +kernel) ?_)
    refine ⟨_, rfl, ?_⟩; refine ⟨_, _, _, _, _, rfl, (hp), T.c_Address.cl, T.c_Address.no _ (by simp), lk_Address_name, ?_⟩
    refine ⟨rfl, _, rfl, ?_⟩
    (first | refine ifF (decide_eq_false (by simp only [aName, dName]; decide +kernel)) ?_ | refine ifT (decide_eq_true rfl) ?_ | refine ifF (by decide +kernel) ?_ | refine ifT (by decide +kernel) ?_)
    refine ⟨_, rfl, _, _, _, _, rfl, rfl, SqT.of hl, atI_nat (j := 0) rfl, _, rfl, ?_⟩
    refine ⟨_, _, _, _, _, rfl, (hp), T.c_Address.cl, T.c_Address.no _ (by simp), lk_Address_first, ?_⟩
    refine ⟨_, _, rfl, rfl, _, rfl, ?_⟩
    refine ite2 (fun h => ?_) (fun h => ?_)
    · refine ⟨_, rfl, _, _, _, _, rfl, rfl, SqT.of hl, atI_nat (j := 0) rfl, _, rfl, ?_⟩
      refine ⟨_, _, _, _, _, rfl, (hp), T.c_Address.cl, T.c_Address.no _ (by simp), lk_Address_final, ?_⟩
      refine ⟨_, _, rfl, rfl, ?_⟩
      have h1 : n ≤ q.k := by
        have h2 := of_decide_eq_true h
        show n ≤ q.k
        have h3 : ((n : Nat) : Int) ≤ (q.k : Int) := h2
        omega
      have e : Vaseda.holds q.k q.last x (.line n) = decide (((q.k : Nat) : Int) ≤ ((n : Nat) : Int)) := by
        show (q.k == n) = _
        rw [Bool.eq_iff_iff]
        simp only [beq_iff_eq, decide_eq_true_iff]
        omega
      rw [e] at k
      exact k
    · have h1 : ¬ n ≤ q.k := fun h2 => h (decide_eq_true (by show ((n : Nat) : Int) ≤ (q.k : Int); omega))
      have e : Vaseda.holds q.k q.last x (.line n) = false := by
        show (q.k == n) = false
        rw [Bool.eq_false_iff]
        simp only [ne_eq, beq_iff_eq, decide_eq_true_iff]
        omega
      rw [e] at k
      exact k
  | span n m =>
    refine ⟨_, rfl, ?_⟩; refine ⟨_, _, _, _, _, rfl, (hp), T.c_Address.cl, T.c_Address.no _ (by simp), lk_Address_name, ?_⟩
    refine ⟨rfl, _, rfl, ?_⟩
    (first | refine ifF (decide_eq_false (by simp only [aName, dName]; decide +kernel)) ?_ | refine ifT (decide_eq_true rfl) ?_ | refine ifF (by decide +kernel) ?_ | refine ifT (by decide +kernel) ?_)
    refine ⟨_, rfl, ?_⟩; refine ⟨_, _, _, _, _, rfl, (hp), T.c_Address.cl, T.c_Address.no _ (by simp), lk_Address_name, ?_⟩
    refine ⟨rfl, _, rfl, ?_⟩
    (first | refine ifF (decide_eq_false (by simp only [aName, dName]; decide +kernel)) ?_ | refine ifT (decide_eq_true rfl) ?_ | refine ifF (by decide +kernel) ?_ | refine ifT (by decide +kernel) ?_)
    refine ⟨_, rfl, ?_⟩; refine ⟨_, _, _, _, _, rfl, (hp), T.c_Address.cl, T.c_Address.no _ (by simp), lk_Address_name, ?_⟩
    refine ⟨rfl, _, rfl, ?_⟩
    (first | refine ifF (decide_eq_false (by simp only [aName, dName]; decide +kernel)) ?_ | refine ifT (decide_eq_true rfl) ?_ | refine ifF (by decide +kernel) ?_ | refine ifT (by decide +kernel) ?_)
    refine ⟨_, rfl, ?_⟩; refine ⟨_, _, _, _, _, rfl, (hp), T.c_Address.cl, T.c_Address.no _ (by simp), lk_Address_name, ?_⟩
    refine ⟨rfl, _, rfl, ?_⟩
    (first | refine ifF (decide_eq_false (by simp only [aName, dName]; decide +kernel)) ?_ | refine ifT (decide_eq_true rfl) ?_ | refine ifF (by decide +kernel) ?_ | refine ifT (by decide +kernel) ?_)
    refine ⟨_, rfl, _, _, _, _, rfl, rfl, SqT.of hl, atI_nat (j := 0) rfl, _, rfl, ?_⟩
    refine ⟨_, _, _, _, _, rfl, (hp), T.c_Address.cl, T.c_Address.no _ (by simp), lk_Address_first, ?_⟩
    refine ⟨_, _, rfl, rfl, _, rfl, ?_⟩
    refine ite2 (fun h => ?_) (fun h => ?_)
    · refine ⟨_, rfl, _, _, _, _, rfl, rfl, SqT.of hl, atI_nat (j := 0) rfl, _, rfl, ?_⟩
      refine ⟨_, _, _, _, _, rfl, (hp), T.c_Address.cl, T.c_Address.no _ (by simp), lk_Address_final, ?_⟩
      refine ⟨_, _, rfl, rfl, ?_⟩
      have h1 : n ≤ q.k := by
        have h2 := of_decide_eq_true h
        show n ≤ q.k
        have h3 : ((n : Nat) : Int) ≤ (q.k : Int) := h2
        omega
      have e : Vaseda.holds q.k q.last x (.span n m) = decide (((q.k : Nat) : Int) ≤ ((m : Nat) : Int)) := by
        show decide (n ≤ q.k ∧ q.k ≤ m) = _
        rw [Bool.eq_iff_iff]
        simp only [beq_iff_eq, decide_eq_true_iff]
        omega
      rw [e] at k
      exact k
    · have h1 : ¬ n ≤ q.k := fun h2 => h (decide_eq_true (by show ((n : Nat) : Int) ≤ (q.k : Int); omega))
      have e : Vaseda.holds q.k q.last x (.span n m) = false := by
        show decide (n ≤ q.k ∧ q.k ≤ m) = false
        rw [Bool.eq_false_iff]
        simp only [ne_eq, beq_iff_eq, decide_eq_true_iff]
        omega
      rw [e] at k
      exact k
def sp_holds (A : Ad) (K : PySem.W.Frag) : Sp := fun vs H Q _ => ∃ (p pl : PySem.Addr) (a : Vaseda.Addr) (x : Bt) (q : Vasedb.Spot), vs = [.ref p, vB x, .ref pl] ∧ AdrAt A H p a ∧ PlcAt H pl q ∧ Q (.bl (Vaseda.holds q.k q.last x a)) H
theorem ok_holds (T : Txt K mg A) (Z : Apart A) : ∃ f fd, FnOk P w K mg base CX0 2 f fd ["address", "line", "place"] (sp_holds A K) ∧ mg "holds" = some (.ref f) ∧ PySem.W.keepIn K (.ref f) = true ∧ Binds K fd ["address", "line", "place"] [] := by
  obtain ⟨f, fd, F, hm, hb⟩ := T.d_holds.ex
  obtain ⟨f_holds_without_nots, fd_holds_without_nots, G_holds_without_nots, m_holds_without_nots, k_holds_without_nots, b_holds_without_nots⟩ := ok_holds_without_nots (P := P) (w := w) (base := base) T Z
  refine ⟨f, fd, ?_, hm, F.kp, hb⟩
  refine F.ok sc_holds (fun vs H Q E h => by obtain ⟨p, pl, a, x, q, rfl, hp, hl, k⟩ := h; rfl) (fun cdv A' outer s H vs Q E hr h => ?_)
  obtain ⟨p, pl, a, x, q, rfl, hp, hl, k⟩ := h
  refine ⟨_, (pss_cons (ps_set (i := 3) sc_holds.nd rfl (by first | exact Or.inl rfl | exact Or.inr rfl) (pe_call G_holds_without_nots (hr.mono (by decide)) rfl m_holds_without_nots k_holds_without_nots b_holds_without_nots .nil pass0 (pa_cons (pv 0) (pa_cons (pv 1) (pa_cons (pv 2) pa_nil)))))
  (pss_one (ps_ret (pe_ifExp (pt_cmpR op_eq (pe_op op_mod (pe_fldK (K := K) (pv 0) rfl) pe_int) pe_int (nomark _)) (pv 3) (pe_not (pv 3)))))), ?_⟩
  refine ⟨_, rfl, _, rfl, _, rfl, p, pl, a, x, q, rfl, hp, hl, ?_⟩
  obtain ⟨dx, hp⟩ := hp
  refine ⟨_, rfl, ?_⟩
  refine ⟨_, _, _, _, _, rfl, (hp), T.c_Address.cl, T.c_Address.no _ (by simp), lk_Address_nots, ?_⟩
  refine ⟨_, _, rfl, rfl, (by show (0 : Int) < 2; decide), rfl, _, rfl, ?_⟩
  rw [holds_base] at k
  have e : ((nots a : Int) % 2 = 0) ↔ nots a % 2 = 0 := by omega
  refine ite2 (fun h => ?_) (fun h => ?_)
  · have h2 := of_decide_eq_true h
    injection h2 with h2
    rw [if_pos (e.mp h2)] at k
    exact ⟨_, rfl, k⟩
  · rw [if_neg (fun z => h (decide_eq_true (congrArg V.int (e.mpr z))))] at k
    exact ⟨_, rfl, _, rfl, k⟩
section
variable {H H' : Hp} {r dx d a b : PySem.Addr} {w v : Work}
theorem RunX.rd (R : RunX A H r dx d a b w) : r ≠ d ∧ r ≠ a ∧ r ≠ b := ⟨ne_of R.ob R.dn (fun z => by cases z), ne_of R.ob R.ah (fun z => by cases z), ne_of R.ob R.bh (fun z => by cases z)⟩
theorem RunX.fld (R : RunX A H r dx d a b w) (h : H' r = some (.ins A.LineRun dx (fs_LineRun (vB v.x) (.ref d) (.ref a) (.ref b) (vN v.left) (.bl v.gone) (.bl v.halt)))) (t : But [r] H H') (e1 : v.did = w.did) (e2 : v.pre = w.pre) (e3 : v.post = w.post) : RunX A H' r dx d a b v := by
  obtain ⟨n1, n2, n3⟩ := R.rd
  refine ⟨h, ?_, ?_, ?_, R.da, R.db, R.ab⟩
  · rw [e1]; exact t _ _ R.dn (by simpa using Ne.symm n1)
  · rw [e2]; exact t _ _ R.ah (by simpa using Ne.symm n2)
  · rw [e3]; exact t _ _ R.bh (by simpa using Ne.symm n3)
theorem RunX.did (R : RunX A H r dx d a b w) {l : List Nat} (h : H' d = some (.lst (l.map vN))) (t : But [d] H H') : RunX A H' r dx d a b { w with did := l } := by
  obtain ⟨n1, n2, n3⟩ := R.rd
  exact ⟨t _ _ R.ob (by simpa using n1), h, t _ _ R.ah (by simpa using Ne.symm R.da), t _ _ R.bh (by simpa using Ne.symm R.db), R.da, R.db, R.ab⟩
theorem RunX.pre (R : RunX A H r dx d a b w) {l : List Out} (h : H' a = some (.lst (l.map fun o => vB o.x))) (t : But [a] H H') : RunX A H' r dx d a b { w with pre := l } := by
  obtain ⟨n1, n2, n3⟩ := R.rd
  exact ⟨t _ _ R.ob (by simpa using n2), t _ _ R.dn (by simpa using R.da), h, t _ _ R.bh (by simpa using Ne.symm R.ab), R.da, R.db, R.ab⟩
theorem RunX.post (R : RunX A H r dx d a b w) {l : List Out} (h : H' b = some (.lst (l.map fun o => vB o.x))) (t : But [b] H H') : RunX A H' r dx d a b { w with post := l } := by
  obtain ⟨n1, n2, n3⟩ := R.rd
  exact ⟨t _ _ R.ob (by simpa using n3), t _ _ R.dn (by simpa using R.db), t _ _ R.ah (by simpa using R.ab), h, R.da, R.db, R.ab⟩
end
theorem But.wide {S S' : List PySem.Addr} {H H' : Hp} (h : But S H H') (s : ∀ x ∈ S, x ∈ S') : But S' H H' := fun b o e n => h b o e fun z => n (s b z)
def sp_do_deed (A : Ad) (K : PySem.W.Frag) : Sp := fun vs H Q _ => ∃ (p r dx e a b : PySem.Addr) (d : Deed) (w : Work), vs = [.ref p, .ref r] ∧ DeedAt A H p d ∧ Vasedb.plainDeed d = true ∧ RunX A H r dx e a b w ∧ w.pre.length ≤ 100 ∧ w.post.length ≤ 100 ∧
  ∀ H', (∀ k c, RunX A H' r dx e a b (Vaseda.deed k c w d)) → But [r, e, a, b] H H' → Q .non H'
theorem ok_do_deed (T : Txt K mg A) (Z : Apart A) : ∃ f fd, FnOk P w K mg base CX0 1 f fd ["deed", "run"] (sp_do_deed A K) ∧ mg "do_deed" = some (.ref f) ∧ PySem.W.keepIn K (.ref f) = true ∧ Binds K fd ["deed", "run"] [] := by
  obtain ⟨f, fd, F, hm, hb⟩ := T.d_do_deed.ex
  refine ⟨f, fd, ?_, hm, F.kp, hb⟩
  refine F.ok sc_do_deed (fun vs H Q E h => by obtain ⟨p, r, dx, e, a, b, d, w, rfl, ⟨dp, hp⟩, pl, R, l1, l2, k⟩ := h; rfl) (fun cdv A' outer s H vs Q E hr h => ?_)
  obtain ⟨p, r, dx, e, a, b, d, w, rfl, ⟨dp, hp⟩, pl, R, l1, l2, k⟩ := h
  refine ⟨_, (pss_one (ps_if (pt_cmpR op_eq (pe_fldK (K := K) (pv 0) rfl) pe_str (nomark _)) (pss_cons (ps_fldA (pv 1) pe_bl rfl)
  (pss_one (ps_fldA (pv 1) pe_bl rfl))) (pss_one (ps_if (pt_cmpR op_eq (pe_fldK (K := K) (pv 0) rfl) pe_str (nomark _)) (pss_one (ps_fldA (pv 1) pe_bl rfl)) (pss_one (ps_if (pt_cmpR op_eq (pe_fldK (K := K) (pv 0) rfl) pe_str (nomark _)) (pss_one (ps_expr (pe_bm PySem.F.plainAttrs_list PySem.F.slot_list_append PySem.F.type_list_append mt_appendA (pe_fldK (K := K) (pv 1) rfl) (pa_cons (pe_fldK (K := K) (pv 0) rfl) pa_nil)))) (pss_one (ps_if (pt_cmpR op_eq (pe_fldK (K := K) (pv 0) rfl) pe_str (nomark _)) (pss_one (ps_expr (pe_bm PySem.F.plainAttrs_list PySem.F.slot_list_append PySem.F.type_list_append mt_appendA (pe_fldK (K := K) (pv 1) rfl) (pa_cons (pe_fldK (K := K) (pv 0) rfl) pa_nil)))) (pss_one (ps_if (pt_cmpR op_eq (pe_fldK (K := K) (pv 0) rfl) pe_str (nomark _)) (pss_one (ps_fldA (pv 1) (pe_fldK (K := K) (pv 0) rfl) rfl)) (pss_one (ps_if (pt_cmpR op_eq (pe_fldK (K := K) (pv 0) rfl) pe_str (nomark _)) (pss_one (ps_fldA (pv 1) (pe_fldK (K := K) (pv 0) rfl) rfl)) pss_nil)))))))))))), ?_⟩
  cases d with
  | swap x y => cases pl
  | first x y => cases pl
  | keep => cases pl
  | bring => cases pl
  | trade => cases pl
  | delete =>
    refine ⟨_, rfl, ?_⟩; refine ⟨_, _, _, _, _, rfl, (hp), T.c_Deed.cl, T.c_Deed.no _ (by simp), lk_Deed_name, ?_⟩
    refine ⟨rfl, _, rfl, ?_⟩
    (first | refine ifF (decide_eq_false (by simp only [aName, dName]; decide +kernel)) ?_ | refine ifT (decide_eq_true rfl) ?_ | refine ifF (by decide +kernel) ?_ | refine ifT (by decide +kernel) ?_)
    refine ⟨_, rfl, ?_⟩
    refine ⟨_, _, _, _, rfl, (R.ob), T.c_LineRun.cl, T.c_LineRun.no _ (by simp), (by show 7 < 1000; decide), ?_⟩; rw [pf_LineRun_deleted]; intro H1 h1 b1
    refine ⟨_, rfl, ?_⟩
    refine ⟨_, _, _, _, rfl, (h1), T.c_LineRun.cl, T.c_LineRun.no _ (by simp), (by show 7 < 1000; decide), ?_⟩; rw [pf_LineRun_over]; intro H2 h2 b2
    exact k H2 (fun k c => RunX.fld R h2 (b1.trans b2) rfl rfl rfl) ((b1.trans b2).wide (by simp))
  | halt_ =>
    refine ⟨_, rfl, ?_⟩; refine ⟨_, _, _, _, _, rfl, (hp), T.c_Deed.cl, T.c_Deed.no _ (by simp), lk_Deed_name, ?_⟩
    refine ⟨rfl, _, rfl, ?_⟩
    (first | refine ifF (decide_eq_false (by simp only [aName, dName]; decide +kernel)) ?_ | refine ifT (decide_eq_true rfl) ?_ | refine ifF (by decide +kernel) ?_ | refine ifT (by decide +kernel) ?_)
    refine ⟨_, rfl, ?_⟩; refine ⟨_, _, _, _, _, rfl, (hp), T.c_Deed.cl, T.c_Deed.no _ (by simp), lk_Deed_name, ?_⟩
    refine ⟨rfl, _, rfl, ?_⟩
    (first | refine ifF (decide_eq_false (by simp only [aName, dName]; decide +kernel)) ?_ | refine ifT (decide_eq_true rfl) ?_ | refine ifF (by decide +kernel) ?_ | refine ifT (by decide +kernel) ?_)
    refine ⟨_, rfl, ?_⟩
    refine ⟨_, _, _, _, rfl, (R.ob), T.c_LineRun.cl, T.c_LineRun.no _ (by simp), (by show 7 < 1000; decide), ?_⟩; rw [pf_LineRun_over]; intro H1 h1 b1
    exact k H1 (fun k c => RunX.fld R h1 b1 rfl rfl rfl) (b1.wide (by simp))
  | before x =>
    refine ⟨_, rfl, ?_⟩; refine ⟨_, _, _, _, _, rfl, (hp), T.c_Deed.cl, T.c_Deed.no _ (by simp), lk_Deed_name, ?_⟩
    refine ⟨rfl, _, rfl, ?_⟩
    (first | refine ifF (decide_eq_false (by simp only [aName, dName]; decide +kernel)) ?_ | refine ifT (decide_eq_true rfl) ?_ | refine ifF (by decide +kernel) ?_ | refine ifT (by decide +kernel) ?_)
    refine ⟨_, rfl, ?_⟩; refine ⟨_, _, _, _, _, rfl, (hp), T.c_Deed.cl, T.c_Deed.no _ (by simp), lk_Deed_name, ?_⟩
    refine ⟨rfl, _, rfl, ?_⟩
    (first | refine ifF (decide_eq_false (by simp only [aName, dName]; decide +kernel)) ?_ | refine ifT (decide_eq_true rfl) ?_ | refine ifF (by decide +kernel) ?_ | refine ifT (by decide +kernel) ?_)
    refine ⟨_, rfl, ?_⟩; refine ⟨_, _, _, _, _, rfl, (hp), T.c_Deed.cl, T.c_Deed.no _ (by simp), lk_Deed_name, ?_⟩
    refine ⟨rfl, _, rfl, ?_⟩
    (first | refine ifF (decide_eq_false (by simp only [aName, dName]; decide +kernel)) ?_ | refine ifT (decide_eq_true rfl) ?_ | refine ifF (by decide +kernel) ?_ | refine ifT (by decide +kernel) ?_)
    refine ⟨_, rfl, ?_⟩
    refine ⟨_, _, _, _, _, rfl, (R.ob), T.c_LineRun.cl, T.c_LineRun.no _ (by simp), lk_LineRun_ahead, ?_⟩
    refine ⟨.inl ⟨rfl, _, SqL.of R.ah⟩, _, rfl, ?_⟩
    refine ⟨_, _, _, _, _, rfl, (hp), T.c_Deed.cl, T.c_Deed.no _ (by simp), lk_Deed_letters, ?_⟩
    refine ⟨a, _, _, rfl, rfl, R.ah, fewer (m := 100) (by rw [List.length_map]; exact l1) (by decide), fun H1 h1 b1 => ?_⟩
    exact k H1 (fun k c => R.pre (l := w.pre ++ [Out.mk x k (some c)]) (by rw [h1, List.map_append]; rfl) b1) (b1.wide (by simp))
  | after x =>
    refine ⟨_, rfl, ?_⟩; refine ⟨_, _, _, _, _, rfl, (hp), T.c_Deed.cl, T.c_Deed.no _ (by simp), lk_Deed_name, ?_⟩
    refine ⟨rfl, _, rfl, ?_⟩
    (first | refine ifF (decide_eq_false (by simp only [aName, dName]; decide +kernel)) ?_ | refine ifT (decide_eq_true rfl) ?_ | refine ifF (by decide +kernel) ?_ | refine ifT (by decide +kernel) ?_)
    refine ⟨_, rfl, ?_⟩; refine ⟨_, _, _, _, _, rfl, (hp), T.c_Deed.cl, T.c_Deed.no _ (by simp), lk_Deed_name, ?_⟩
    refine ⟨rfl, _, rfl, ?_⟩
    (first | refine ifF (decide_eq_false (by simp only [aName, dName]; decide +kernel)) ?_ | refine ifT (decide_eq_true rfl) ?_ | refine ifF (by decide +kernel) ?_ | refine ifT (by decide +kernel) ?_)
    refine ⟨_, rfl, ?_⟩; refine ⟨_, _, _, _, _, rfl, (hp), T.c_Deed.cl, T.c_Deed.no _ (by simp), lk_Deed_name, ?_⟩
    refine ⟨rfl, _, rfl, ?_⟩
    (first | refine ifF (decide_eq_false (by simp only [aName, dName]; decide +kernel)) ?_ | refine ifT (decide_eq_true rfl) ?_ | refine ifF (by decide +kernel) ?_ | refine ifT (by decide +kernel) ?_)
    refine ⟨_, rfl, ?_⟩; refine ⟨_, _, _, _, _, rfl, (hp), T.c_Deed.cl, T.c_Deed.no _ (by simp), lk_Deed_name, ?_⟩
    refine ⟨rfl, _, rfl, ?_⟩
    (first | refine ifF (decide_eq_false (by simp only [aName, dName]; decide +kernel)) ?_ | refine ifT (decide_eq_true rfl) ?_ | refine ifF (by decide +kernel) ?_ | refine ifT (by decide +kernel) ?_)
    refine ⟨_, rfl, ?_⟩
    refine ⟨_, _, _, _, _, rfl, (R.ob), T.c_LineRun.cl, T.c_LineRun.no _ (by simp), lk_LineRun_behind, ?_⟩
    refine ⟨.inl ⟨rfl, _, SqL.of R.bh⟩, _, rfl, ?_⟩
    refine ⟨_, _, _, _, _, rfl, (hp), T.c_Deed.cl, T.c_Deed.no _ (by simp), lk_Deed_letters, ?_⟩
    refine ⟨b, _, _, rfl, rfl, R.bh, fewer (m := 100) (by rw [List.length_map]; exact l2) (by decide), fun H1 h1 b1 => ?_⟩
    exact k H1 (fun k c => R.post (l := w.post ++ [Out.mk x k (some c)]) (by rw [h1, List.map_append]; rfl) b1) (b1.wide (by simp))
  | change x =>
    refine ⟨_, rfl, ?_⟩; refine ⟨_, _, _, _, _, rfl, (hp), T.c_Deed.cl, T.c_Deed.no _ (by simp), lk_Deed_name, ?_⟩
    refine ⟨rfl, _, rfl, ?_⟩
    (first | refine ifF (decide_eq_false (by simp only [aName, dName]; decide +kernel)) ?_ | refine ifT (decide_eq_true rfl) ?_ | refine ifF (by decide +kernel) ?_ | refine ifT (by decide +kernel) ?_)
    refine ⟨_, rfl, ?_⟩; refine ⟨_, _, _, _, _, rfl, (hp), T.c_Deed.cl, T.c_Deed.no _ (by simp), lk_Deed_name, ?_⟩
    refine ⟨rfl, _, rfl, ?_⟩
    (first | refine ifF (decide_eq_false (by simp only [aName, dName]; decide +kernel)) ?_ | refine ifT (decide_eq_true rfl) ?_ | refine ifF (by decide +kernel) ?_ | refine ifT (by decide +kernel) ?_)
    refine ⟨_, rfl, ?_⟩; refine ⟨_, _, _, _, _, rfl, (hp), T.c_Deed.cl, T.c_Deed.no _ (by simp), lk_Deed_name, ?_⟩
    refine ⟨rfl, _, rfl, ?_⟩
    (first | refine ifF (decide_eq_false (by simp only [aName, dName]; decide +kernel)) ?_ | refine ifT (decide_eq_true rfl) ?_ | refine ifF (by decide +kernel) ?_ | refine ifT (by decide +kernel) ?_)
    refine ⟨_, rfl, ?_⟩; refine ⟨_, _, _, _, _, rfl, (hp), T.c_Deed.cl, T.c_Deed.no _ (by simp), lk_Deed_name, ?_⟩
    refine ⟨rfl, _, rfl, ?_⟩
    (first | refine ifF (decide_eq_false (by simp only [aName, dName]; decide +kernel)) ?_ | refine ifT (decide_eq_true rfl) ?_ | refine ifF (by decide +kernel) ?_ | refine ifT (by decide +kernel) ?_)
    refine ⟨_, rfl, ?_⟩; refine ⟨_, _, _, _, _, rfl, (hp), T.c_Deed.cl, T.c_Deed.no _ (by simp), lk_Deed_name, ?_⟩
    refine ⟨rfl, _, rfl, ?_⟩
    (first | refine ifF (decide_eq_false (by simp only [aName, dName]; decide +kernel)) ?_ | refine ifT (decide_eq_true rfl) ?_ | refine ifF (by decide +kernel) ?_ | refine ifT (by decide +kernel) ?_)
    refine ⟨_, rfl, ?_⟩
    refine ⟨_, _, _, _, _, rfl, (hp), T.c_Deed.cl, T.c_Deed.no _ (by simp), lk_Deed_letters, ?_⟩
    refine ⟨_, rfl, ?_⟩
    refine ⟨_, _, _, _, rfl, (R.ob), T.c_LineRun.cl, T.c_LineRun.no _ (by simp), (by show 7 < 1000; decide), ?_⟩; rw [pf_LineRun_line]; intro H1 h1 b1
    exact k H1 (fun k c => RunX.fld R h1 b1 rfl rfl rfl) (b1.wide (by simp))
  | skip n =>
    refine ⟨_, rfl, ?_⟩; refine ⟨_, _, _, _, _, rfl, (hp), T.c_Deed.cl, T.c_Deed.no _ (by simp), lk_Deed_name, ?_⟩
    refine ⟨rfl, _, rfl, ?_⟩
    (first | refine ifF (decide_eq_false (by simp only [aName, dName]; decide +kernel)) ?_ | refine ifT (decide_eq_true rfl) ?_ | refine ifF (by decide +kernel) ?_ | refine ifT (by decide +kernel) ?_)
    refine ⟨_, rfl, ?_⟩; refine ⟨_, _, _, _, _, rfl, (hp), T.c_Deed.cl, T.c_Deed.no _ (by simp), lk_Deed_name, ?_⟩
    refine ⟨rfl, _, rfl, ?_⟩
    (first | refine ifF (decide_eq_false (by simp only [aName, dName]; decide +kernel)) ?_ | refine ifT (decide_eq_true rfl) ?_ | refine ifF (by decide +kernel) ?_ | refine ifT (by decide +kernel) ?_)
    refine ⟨_, rfl, ?_⟩; refine ⟨_, _, _, _, _, rfl, (hp), T.c_Deed.cl, T.c_Deed.no _ (by simp), lk_Deed_name, ?_⟩
    refine ⟨rfl, _, rfl, ?_⟩
    (first | refine ifF (decide_eq_false (by simp only [aName, dName]; decide +kernel)) ?_ | refine ifT (decide_eq_true rfl) ?_ | refine ifF (by decide +kernel) ?_ | refine ifT (by decide +kernel) ?_)
    refine ⟨_, rfl, ?_⟩; refine ⟨_, _, _, _, _, rfl, (hp), T.c_Deed.cl, T.c_Deed.no _ (by simp), lk_Deed_name, ?_⟩
    refine ⟨rfl, _, rfl, ?_⟩
    (first | refine ifF (decide_eq_false (by simp only [aName, dName]; decide +kernel)) ?_ | refine ifT (decide_eq_true rfl) ?_ | refine ifF (by decide +kernel) ?_ | refine ifT (by decide +kernel) ?_)
    refine ⟨_, rfl, ?_⟩; refine ⟨_, _, _, _, _, rfl, (hp), T.c_Deed.cl, T.c_Deed.no _ (by simp), lk_Deed_name, ?_⟩
    refine ⟨rfl, _, rfl, ?_⟩
    (first | refine ifF (decide_eq_false (by simp only [aName, dName]; decide +kernel)) ?_ | refine ifT (decide_eq_true rfl) ?_ | refine ifF (by decide +kernel) ?_ | refine ifT (by decide +kernel) ?_)
    refine ⟨_, rfl, ?_⟩; refine ⟨_, _, _, _, _, rfl, (hp), T.c_Deed.cl, T.c_Deed.no _ (by simp), lk_Deed_name, ?_⟩
    refine ⟨rfl, _, rfl, ?_⟩
    (first | refine ifF (decide_eq_false (by simp only [aName, dName]; decide +kernel)) ?_ | refine ifT (decide_eq_true rfl) ?_ | refine ifF (by decide +kernel) ?_ | refine ifT (by decide +kernel) ?_)
    refine ⟨_, rfl, ?_⟩
    refine ⟨_, _, _, _, _, rfl, (hp), T.c_Deed.cl, T.c_Deed.no _ (by simp), lk_Deed_number, ?_⟩
    refine ⟨_, rfl, ?_⟩
    refine ⟨_, _, _, _, rfl, (R.ob), T.c_LineRun.cl, T.c_LineRun.no _ (by simp), (by show 7 < 1000; decide), ?_⟩; rw [pf_LineRun_left_out]; intro H1 h1 b1
    exact k H1 (fun k c => RunX.fld R h1 b1 rfl rfl rfl) (b1.wide (by simp))
def sp_LineRun_coming (A : Ad) (K : PySem.W.Frag) : Sp := fun vs H Q _ => ∃ (r : PySem.Addr) (w : Work), vs = [.ref r] ∧ RunAt A H r w ∧ w.pre.length ≤ 100 ∧ w.post.length ≤ 100 ∧
  ∀ p H', TxtsAt H' p ((Vaseda.outOf 0 w).map fun o => o.x) → Same H H' → Q (.ref p) H'
theorem ok_LineRun_coming (T : Txt K mg A) (Z : Apart A) : ∃ f fd, FnOk P w K mg base CX0 1 f fd ["self"] (sp_LineRun_coming A K) ∧ Meth K A.LineRun "coming" f ∧ Binds K fd ["self"] [] := by
  obtain ⟨f, fd, F, hm, hb⟩ := T.d_LineRun_coming.ex
  refine ⟨f, fd, ?_, hm, hb⟩
  refine F.ok sc_LineRun_coming (fun vs H Q E h => by obtain ⟨r, w, rfl, ⟨dx, d, a, b, R⟩, l1, l2, k⟩ := h; rfl) (fun cdv A' outer s H vs Q E hr h => ?_)
  obtain ⟨r, w, rfl, ⟨dx, d, a, b, R⟩, l1, l2, k⟩ := h
  refine ⟨_, (pss_cons (ps_if (pt_val (pe_fldK (K := K) (pv 0) rfl)) (pss_one (ps_ret (pe_op op_catA (pe_fldK (K := K) (pv 0) rfl) (pe_fldK (K := K) (pv 0) rfl)))) pss_nil)
  (pss_one (ps_ret (pe_op op_catA (pe_op op_catA (pe_fldK (K := K) (pv 0) rfl) (pe_lstA (pa_cons (pe_fldK (K := K) (pv 0) rfl) pa_nil))) (pe_fldK (K := K) (pv 0) rfl))))), ?_⟩
  have e1 : ∀ l : List Out, (l.map fun o => vB o.x) = (l.map fun o => o.x).map vB := fun l => by rw [List.map_map]; rfl
  refine ⟨_, rfl, ?_⟩
  refine ⟨_, _, _, _, _, rfl, (R.ob), T.c_LineRun.cl, T.c_LineRun.no _ (by simp), lk_LineRun_deleted, ?_⟩
  refine ⟨_, rfl, ?_⟩
  refine ite2 (fun h => ?_) (fun h => ?_)
  · refine ⟨_, rfl, ?_⟩
    refine ⟨_, _, _, _, _, rfl, (R.ob), T.c_LineRun.cl, T.c_LineRun.no _ (by simp), lk_LineRun_ahead, ?_⟩
    refine ⟨_, rfl, ?_⟩
    refine ⟨_, _, _, _, _, rfl, (R.ob), T.c_LineRun.cl, T.c_LineRun.no _ (by simp), lk_LineRun_behind, ?_⟩
    refine ⟨a, b, _, _, rfl, rfl, R.ah, R.bh, few (m := 200) (by rw [List.length_map, List.length_map]; omega) (by decide), fun p H1 np hp s1 => k p H1 ?_ s1⟩
    show H1 p = _
    rw [hp, ← List.map_append, e1]
    unfold Vaseda.outOf
    rw [if_pos h, List.nil_append]
  · refine ⟨_, rfl, ?_⟩
    refine ⟨_, _, _, _, _, rfl, (R.ob), T.c_LineRun.cl, T.c_LineRun.no _ (by simp), lk_LineRun_ahead, ?_⟩
    refine ⟨_, rfl, ?_⟩
    refine ⟨_, _, _, _, _, rfl, (R.ob), T.c_LineRun.cl, T.c_LineRun.no _ (by simp), lk_LineRun_line, ?_⟩
    refine ⟨few (n := 1) (Nat.le_refl 1) (by decide), fun y H1 ny hy s1 => ?_⟩
    refine ⟨a, y, _, _, rfl, rfl, s1 _ _ R.ah, hy, few (m := 200) (by rw [List.length_map]; show _ + 1 ≤ _; omega) (by decide), fun z H2 nz hz s2 => ?_⟩
    refine ⟨_, rfl, ?_⟩
    refine ⟨_, _, _, _, _, rfl, (s2 _ _ (s1 _ _ R.ob)), T.c_LineRun.cl, T.c_LineRun.no _ (by simp), lk_LineRun_behind, ?_⟩
    refine ⟨z, b, _, _, rfl, rfl, hz, s2 _ _ (s1 _ _ R.bh), few (m := 300) (by simp; omega) (by decide), fun p H3 np hp s3 => k p H3 ?_ ((s1.trans s2).trans s3)⟩
    show H3 p = _
    rw [hp]
    unfold Vaseda.outOf
    rw [if_neg h, ← e1, List.map_append, List.map_append, List.append_assoc]
    rfl
end
end
end SK
set_option Elab.async false
set_option linter.all false
set_option maxRecDepth 100000
set_option maxHeartbeats 2000000
namespace SK
open PySem PySem.Spec PyProof.Rows L2
section
variable {P : Program} {w : World} {K : PySem.W.Frag} {mg : Str → Option Value} {base : Heap} {A : Ad}
section
open Vaseda (Script Deed Cmd Work Out)
/-- a line worked by the first i commands -/
def wk (s : Script) (q : Vasedb.Spot) (x : Bt) (i : Nat) : Work := (s.zipIdx.take i).foldl (Vaseda.work q.k q.last) (work0 x)
theorem wk_all (s : Script) (q : Vasedb.Spot) (x : Bt) : wk s q x s.length = Vasedb.workAt s q x := by
  unfold wk
  rw [List.take_of_length_le (by simp)]
  rfl
theorem zip_at {s : Script} {i : Nat} {c : Cmd} (h : s[i]? = some c) : s.zipIdx[i]? = some (c, i) := by
  rw [List.getElem?_zipIdx, h]
  simp
theorem wk_more {s : Script} {q : Vasedb.Spot} {x : Bt} {i : Nat} {c : Cmd} (h : s[i]? = some c) : wk s q x (i + 1) = Vaseda.work q.k q.last (wk s q x i) (c, i) := by
  unfold wk
  rw [take_more (zip_at h), List.foldl_append]
  rfl
structure WkOk (n : Nat) (w : Work) : Prop where
  pre : w.pre.length ≤ n
  post : w.post.length ≤ n
  did : w.did.length ≤ n
  bad : w.bad = false
theorem WkOk.more {n : Nat} {w : Work} (h : WkOk n w) (k : Nat) (l : Bool) (c : Cmd × Nat) (p : Vasedb.plainDeed c.1.d = true) : WkOk (n + 1) (Vaseda.work k l w c) := by
  obtain ⟨h1, h2, h3, h4⟩ := h
  unfold Vaseda.work
  split
  · exact ⟨by omega, by omega, by omega, h4⟩
  · split
    · exact ⟨by show w.pre.length ≤ _; omega, by show w.post.length ≤ _; omega, by show w.did.length ≤ _; omega, h4⟩
    · split
      · have g : WkOk (n + 1) { w with did := w.did ++ [c.2] } := ⟨by show w.pre.length ≤ _; omega, by show w.post.length ≤ _; omega, by show (w.did ++ [c.2]).length ≤ _; simp; omega, h4⟩
        cases hd : c.1.d with
        | delete => exact ⟨g.pre, g.post, g.did, g.bad⟩
        | halt_ => exact ⟨g.pre, g.post, g.did, g.bad⟩
        | change y => exact ⟨g.pre, g.post, g.did, g.bad⟩
        | skip n => exact ⟨g.pre, g.post, g.did, g.bad⟩
        | before y => exact ⟨by show (w.pre ++ [_]).length ≤ _; simp; omega, g.post, g.did, g.bad⟩
        | after y => exact ⟨g.pre, by show (w.post ++ [_]).length ≤ _; simp; omega, g.did, g.bad⟩
        | swap a b => rw [hd] at p; cases p
        | first a b => rw [hd] at p; cases p
        | keep => rw [hd] at p; cases p
        | bring => rw [hd] at p; cases p
        | trade => rw [hd] at p; cases p
      · exact ⟨by omega, by omega, by omega, h4⟩
theorem wk_ok {s : Script} {q : Vasedb.Spot} {x : Bt} (p : ∀ c ∈ s, Vasedb.plainDeed c.d = true) : ∀ i, i ≤ s.length → WkOk i (wk s q x i)
  | 0, _ => ⟨Nat.le_refl 0, Nat.le_refl 0, Nat.le_refl 0, rfl⟩
  | i + 1, h => by
    rw [wk_more (List.getElem?_eq_getElem (show i < s.length by omega))]
    exact (wk_ok p i (by omega)).more _ _ _ (p _ (List.getElem_mem _))
theorem wk_halt {s : Script} {q : Vasedb.Spot} {x : Bt} {i : Nat} (h : (wk s q x i).halt = true) : ∀ j, i + j ≤ s.length → wk s q x (i + j) = wk s q x i
  | 0, _ => rfl
  | j + 1, hj => by
    have ih := wk_halt h j (by omega)
    rw [← Nat.add_assoc, wk_more (List.getElem?_eq_getElem (show i + j < s.length by omega)), ih]
    unfold Vaseda.work
    rw [h, Bool.true_or, if_pos rfl]
def sp_line_run (A : Ad) (K : PySem.W.Frag) : Sp := fun vs H Q _ => ∃ (c pl : PySem.Addr) (s : Script) (x : Bt) (q : Vasedb.Spot), vs = [.ref c, vB x, .ref pl] ∧ ScrAt A H c s ∧ PlcAt H pl q ∧ s.length ≤ 16 ∧ (∀ c ∈ s, Vasedb.plainDeed c.d = true) ∧
  ∀ r H', RunAt A H' r (Vasedb.workAt s q x) → Same H H' → Q (.ref r) H'
theorem ok_line_run (T : Txt K mg A) (Z : Apart A) : ∃ f fd, FnOk P w K mg base CX0 3 f fd ["commands", "line", "place"] (sp_line_run A K) ∧ mg "line_run" = some (.ref f) ∧ PySem.W.keepIn K (.ref f) = true ∧ Binds K fd ["commands", "line", "place"] [] := by
  obtain ⟨f, fd, F, hm, hb⟩ := T.d_line_run.ex
  obtain ⟨f_LineRun_init, fd_LineRun_init, G_LineRun_init, M_LineRun, m_LineRun, b_LineRun_init⟩ := ok_LineRun_init (P := P) (w := w) (base := base) T Z
  obtain ⟨f_do_deed, fd_do_deed, G_do_deed, m_do_deed, k_do_deed, b_do_deed⟩ := ok_do_deed (P := P) (w := w) (base := base) T Z
  obtain ⟨f_holds, fd_holds, G_holds, m_holds, k_holds, b_holds⟩ := ok_holds (P := P) (w := w) (base := base) T Z
  refine ⟨f, fd, ?_, hm, F.kp, hb⟩
  refine F.ok sc_line_run (fun vs H Q E h => by obtain ⟨c, pl, s, x, q, rfl, ⟨vs, hc, hs⟩, hpl, few1, plain, k⟩ := h; rfl) (fun cdv A' outer s H vs Q E hr h => ?_)
  obtain ⟨c, pl, s, x, q, rfl, ⟨vs, hc, hs⟩, hpl, few1, plain, k⟩ := h
  refine ⟨_, (pss_cons (ps_set (i := 3) sc_line_run.nd rfl (by first | exact Or.inl rfl | exact Or.inr rfl) (pe_make M_LineRun G_LineRun_init (hr.mono (by decide)) rfl m_LineRun b_LineRun_init .nil pass0 (pa_cons (pv 1) pa_nil)))
  (pss_cons (ps_for PassesOwn.never rfl (pi_enum (by rfl) T.z_enumerate (pa_cons (pv 0) pa_nil)) (pg_tup rfl (pgs_cons (pg_name (i := 4) sc_line_run.nd rfl (by first | exact Or.inl rfl | exact Or.inr rfl)) (pgs_cons (pg_name (i := 5) sc_line_run.nd rfl (by first | exact Or.inl rfl | exact Or.inr rfl)) pgs_nil)))
  (pss_cons (ps_if (pt_val (pe_fldK (K := K) (pv 3) rfl)) (pss_one ps_break) pss_nil)
  (pss_one (ps_if (pt_cmpR op_gt (pe_fldK (K := K) (pv 3) rfl) pe_int (nomark _)) (pss_one (ps_fldaug (pv 3) pe_int in_sub)) (pss_one (ps_if (pt_val (pe_call G_holds (hr.mono (by decide)) rfl m_holds k_holds b_holds .nil pass0 (pa_cons (pe_fldK (K := K) (pv 5) rfl) (pa_cons (pe_fldK (K := K) (pv 3) rfl) (pa_cons (pv 2) pa_nil))))) (pss_cons (ps_expr (pe_bm PySem.F.plainAttrs_list PySem.F.slot_list_append PySem.F.type_list_append mt_appendA (pe_fldK (K := K) (pv 3) rfl) (pa_cons (pv 4) pa_nil)))
  (pss_one (ps_expr (pe_call G_do_deed (hr.mono (by decide)) rfl m_do_deed k_do_deed b_do_deed .nil pass0 (pa_cons (pe_fldK (K := K) (pv 5) rfl) (pa_cons (pv 3) pa_nil)))))) pss_nil))))))
  (pss_one (ps_ret (pv 3))))), ?_⟩
  have hl := hs.1
  refine ⟨_, rfl, ?_⟩
  refine mk_LineRun fun r dx d a b H1 R s1 nr nd na nb => ?_
  refine ⟨_, rfl, c, vs, rfl, SqL.of (s1 _ _ hc), ?_⟩
  refine for_it (walk_enum (K := K) (a := c) (xs := vs)) (fun i σ H' => ∃ o1 o2, σ = [some (.ref c), some (vB x), some (.ref pl), some (.ref r), o1, o2] ∧ Same H H' ∧ RunX A H' r dx d a b (wk s q x i))
    ⟨none, none, rfl, s1, R⟩ (fun i σ H' _ ⟨_, _, _, s2, _⟩ => SqL.of (s2 _ _ hc)) ?_ ?_
  · rintro i v σ H2 H3 hi ⟨o1, o2, rfl, s2, R2⟩ ⟨t, y1, y2, rfl, nt, rfl, e1, e2⟩
    cases e1
    obtain ⟨c1, e3, q1, rfl, dq, pa, pd, ho, ga, gd⟩ := hs.at (show vs[i]? = some y2 from e2)
    refine ⟨t, _, rfl, SqT.of upd_same, rfl, _, _, rfl, _, _, rfl, rfl, ?_⟩
    have s3 : Same H2 (upd H2 t (.tup [V.int i, V.ref q1])) := same_new nt
    generalize upd H2 t (.tup [V.int i, V.ref q1]) = H3 at *
    have R3 := R2.kp Z (same_kp s3)
    have s4 := s2.trans s3
    have ok := wk_ok (q := q) (x := x) plain i (by omega)
    have hin : c1 ∈ s := List.mem_of_getElem? e3
    have hil : i < s.length := by omega
    clear s3 R2 hi
    refine ⟨_, rfl, ?_⟩
    refine ⟨_, _, _, _, _, rfl, (R3.ob), T.c_LineRun.cl, T.c_LineRun.no _ (by simp), lk_LineRun_over, ?_⟩
    refine ⟨_, rfl, ?_⟩
    refine ite2 (fun h => ?_) (fun h => ?_)
    · have e := wk_halt h (s.length - i) (by omega)
      rw [show i + (s.length - i) = s.length by omega, wk_all] at e
      exact ⟨_, rfl, k r H3 ⟨dx, d, a, b, by rw [e]; exact R3⟩ s4⟩
    have hh : (wk s q x i).halt = false := by simpa using h
    refine ⟨_, rfl, ?_⟩
    refine ⟨_, _, _, _, _, rfl, (R3.ob), T.c_LineRun.cl, T.c_LineRun.no _ (by simp), lk_LineRun_left_out, ?_⟩
    refine ⟨_, _, rfl, rfl, _, rfl, ?_⟩
    have more := wk_more (q := q) (x := x) e3
    unfold Vaseda.work at more
    rw [if_neg (show ¬ ((wk s q x i).halt || (wk s q x i).bad) = true by rw [hh, ok.bad]; decide)] at more
    refine ite2 (fun h2 => ?_) (fun h2 => ?_)
    · have h3 : 0 < (wk s q x i).left := by
        have h4 := of_decide_eq_true h2
        omega
      rw [if_pos h3] at more
      refine ⟨_, rfl, _, _, _, _, _, rfl, R3.ob, T.c_LineRun.cl, T.c_LineRun.no _ (by simp), lk_LineRun_left_out, _, _, rfl, rfl, _, _, R3.ob, (by show 7 < 1000; decide), ?_⟩
      rw [pf_LineRun_left_out]
      refine ⟨_, _, rfl, fun b o e => ?_, ?_⟩
      · rw [upd_ne (ne_of_none e nr)]
        exact s4 b o e
      · rw [more]
        refine RunX.fld R3 ?_ but1 rfl rfl rfl
        rw [upd_same, show (((wk s q x i).left : Nat) : Int) - 1 = (((wk s q x i).left - 1 : Nat) : Int) by omega]
    have h3 : ¬ 0 < (wk s q x i).left := fun z => h2 (decide_eq_true (by omega))
    rw [if_neg h3] at more
    refine ⟨_, rfl, ?_⟩
    refine ⟨_, _, _, _, _, rfl, (s4 _ _ ho), T.c_Command.cl, T.c_Command.no _ (by simp), lk_Command_address, ?_⟩
    refine ⟨_, rfl, ?_⟩
    refine ⟨_, _, _, _, _, rfl, (R3.ob), T.c_LineRun.cl, T.c_LineRun.no _ (by simp), lk_LineRun_line, ?_⟩
    refine ⟨_, rfl, pa, pl, c1.a, _, q, rfl, ga.kp Z (same_kp s4), hpl.kp (same_kp (A := A) s4), _, rfl, ?_⟩
    refine ite2 (fun h5 => ?_) (fun h5 => ?_)
    · rw [if_pos h5] at more
      refine ⟨_, rfl, ?_⟩
      refine ⟨_, _, _, _, _, rfl, (R3.ob), T.c_LineRun.cl, T.c_LineRun.no _ (by simp), lk_LineRun_done, ?_⟩
      refine ⟨.inl ⟨rfl, _, SqL.of R3.dn⟩, _, rfl, d, _, _, rfl, rfl, R3.dn, fewer (m := 16) (by rw [List.length_map]; have := ok.did; omega) (by decide), fun H4 h4 b4 => ?_⟩
      have R4 : RunX A H4 r dx d a b { wk s q x i with did := (wk s q x i).did ++ [i] } := R3.did (by rw [h4, List.map_append]; rfl) b4
      have s5 : Same H H4 := b4.same s4 (by simpa using nd)
      refine ⟨_, rfl, ?_⟩
      refine ⟨_, _, _, _, _, rfl, (s5 _ _ ho), T.c_Command.cl, T.c_Command.no _ (by simp), lk_Command_deed, ?_⟩
      refine ⟨_, rfl, pd, r, dx, d, a, b, c1.d, _, rfl, gd.kp Z (same_kp s5), plain c1 hin, R4, by have := ok.pre; show (wk s q x i).pre.length ≤ 100; omega, by have := ok.post; show (wk s q x i).post.length ≤ 100; omega, fun H5 R5 b5 => ?_⟩
      refine ⟨_, _, rfl, b5.same s5 ?_, ?_⟩
      · intro z hz
        rcases List.mem_cons.mp hz with e | hz
        · rw [e]; exact nr
        rcases List.mem_cons.mp hz with e | hz
        · rw [e]; exact nd
        rcases List.mem_cons.mp hz with e | hz
        · rw [e]; exact na
        · rw [List.mem_singleton.mp hz]; exact nb
      · rw [more]
        exact R5 _ _
    · rw [if_neg h5] at more
      exact ⟨_, _, rfl, s4, by rw [more]; exact R3⟩
  · rintro σ H2 ⟨o1, o2, rfl, s2, R2⟩
    rw [hl, wk_all] at R2
    exact ⟨_, rfl, k r H2 ⟨dx, d, a, b, R2⟩ s2⟩
end
end
end SK
set_option Elab.async false
set_option linter.all false
set_option maxRecDepth 100000
set_option maxHeartbeats 2000000
namespace SK
open PySem PySem.Spec PyProof.Rows L2
section
variable {P : Program} {w : World} {K : PySem.W.Frag} {mg : Str → Option Value} {base : Heap} {A : Ad}
section
open Vaseda (Script Deed Cmd Work Out)
open Vasedb (Spot At)
def PlsX (A : Ad) (H : Hp) (vs : List V) (l : List Spot) : Prop := Two (fun v q => ∃ t, v = .ref t ∧ PlcAt H t q) vs l
def PlsAt (A : Ad) (H : Hp) (p : PySem.Addr) (l : List Spot) : Prop := ∃ vs, H p = some (.lst vs) ∧ PlsX A H vs l
theorem PlsX.kp {H H' : Hp} {vs l} (k : Kp A H H') (h : PlsX A H vs l) : PlsX A H' vs l := Two.mono h fun v c _ ⟨q, e, f⟩ => ⟨q, e, f.kp k⟩
theorem PlsAt.kp {H H' : Hp} {p l} (k : Kp A H H') (h : PlsAt A H p l) : PlsAt A H' p l := let ⟨vs, e, f⟩ := h; ⟨vs, k _ _ e noM_lst, f.kp k⟩
def upto (n : Nat) : List Spot := (List.range n).flatMap fun i => [⟨i + 1, false⟩, ⟨i + 1, true⟩]
theorem upto_more (n : Nat) : upto (n + 1) = upto n ++ [⟨n + 1, false⟩, ⟨n + 1, true⟩] := by
  unfold upto
  rw [List.range_succ, List.flatMap_append]
  rfl
theorem upto_len (n : Nat) : (upto n).length = 2 * n := by
  induction n with
  | zero => rfl
  | succ n ih => rw [upto_more, List.length_append, ih]; show 2 * n + 2 = _; omega
theorem spots_is : Vasedb.spots = upto 23 ++ [⟨24, true⟩] := by decide
def sp_all_places (A : Ad) (K : PySem.W.Frag) : Sp := fun vs H Q _ => vs = [] ∧ ∀ p H', PlsAt A H' p Vasedb.spots → Same H H' → Q (.ref p) H'
theorem ok_all_places (T : Txt K mg A) (Z : Apart A) : ∃ f fd, FnOk P w K mg base CX0 1 f fd [] (sp_all_places A K) ∧ mg "all_places" = some (.ref f) ∧ PySem.W.keepIn K (.ref f) = true ∧ Binds K fd [] [] := by
  obtain ⟨f, fd, F, hm, hb⟩ := T.d_all_places.ex
  refine ⟨f, fd, ?_, hm, F.kp, hb⟩
  refine F.ok sc_all_places (fun vs H Q E h => by obtain ⟨rfl, k⟩ := h; rfl) (fun cdv A' outer s H vs Q E hr h => ?_)
  obtain ⟨rfl, k⟩ := h
  refine ⟨_, (pss_cons (ps_set (i := 0) sc_all_places.nd rfl (by first | exact Or.inl rfl | exact Or.inr rfl) (pe_lstA pa_nil))
  (pss_cons (ps_for PassesOwn.never rfl (pi_range2 (by rfl) T.z_range (pa_cons pe_int (pa_cons (pe_gi T.g_FINAL_LINE) pa_nil))) (pg_name (i := 1) sc_all_places.nd rfl (by first | exact Or.inl rfl | exact Or.inr rfl))
  (pss_cons (ps_expr (pe_bm PySem.F.plainAttrs_list PySem.F.slot_list_append PySem.F.type_list_append mt_appendA (pv 0) (pa_cons (pe_tupA (pa_cons (pv 1) (pa_cons pe_int pa_nil))) pa_nil)))
  (pss_one (ps_expr (pe_bm PySem.F.plainAttrs_list PySem.F.slot_list_append PySem.F.type_list_append mt_appendA (pv 0) (pa_cons (pe_tupA (pa_cons (pv 1) (pa_cons pe_int pa_nil))) pa_nil))))))
  (pss_cons (ps_expr (pe_bm PySem.F.plainAttrs_list PySem.F.slot_list_append PySem.F.type_list_append mt_appendA (pv 0) (pa_cons (pe_tupA (pa_cons (pe_gi T.g_FINAL_LINE) (pa_cons pe_int pa_nil))) pa_nil)))
  (pss_one (ps_ret (pv 0)))))), ?_⟩
  refine ⟨size0, fun p H1 np hp s1 => ?_⟩
  refine ⟨1, 24, rfl, (by decide), ?_⟩
  refine for_it (walk_range (lo := 1) (n := 23)) (fun i σ H' => ∃ o vs, σ = [some (.ref p), o] ∧ Same H H' ∧ H' p = some (.lst vs) ∧ PlsX A H' vs (upto i))
    ⟨none, [], rfl, s1, hp, Two.nil⟩ (fun _ _ _ _ _ => trivial) ?_ ?_
  · rintro i v σ Hx H2 hi ⟨o, vs, rfl, s2, h2, t2⟩ ⟨rfl, rfl⟩
    have hl := t2.1
    rw [upto_len] at hl
    have st : ∀ (b : Bool) (H3 : Hp) (ws : List V) (l : List Spot), H3 p = some (.lst ws) → PlsX A H3 ws l → ∀ t H4 H5, H4 t = some (.tup [V.int (1 + (i : Int)), .int (Vasedb.bit b : Int)]) → Same H3 H4 → H5 p = some (.lst (ws ++ [V.ref t])) → But [p] H4 H5 → PlsX A H5 (ws ++ [V.ref t]) (l ++ [⟨i + 1, b⟩]) := fun b H3 ws l e1 t1 t H4 H5 e2 s e3 bt => by
      have kp : ∀ x xs, H4 x = some (.tup xs) → H5 x = some (.tup xs) := fun x xs e => bt _ _ e (by
        intro z
        rw [List.mem_singleton.mp z, s _ _ e1] at e
        cases e)
      refine Two.snoc (Two.mono t1 fun v c _ ⟨q, e, f⟩ => ⟨q, e, kp _ _ (s _ _ f)⟩) ⟨t, rfl, kp _ _ ?_⟩
      rw [e2, show (1 + (i : Int)) = ((i + 1 : Nat) : Int) by omega]
    refine ⟨_, rfl, .inl ⟨rfl, _, SqL.of h2⟩, _, rfl, few (n := 2) (Nat.le_refl 2) (by decide), fun t H3 nt ht s3 => ?_⟩
    refine ⟨p, _, _, rfl, rfl, s3 _ _ h2, fewer (m := 100) (by omega) (by decide), fun H4 h4 b4 => ?_⟩
    have t4 := st false H2 vs _ h2 t2 t H3 H4 ht s3 h4 b4
    have s4 := b4.same (s2.trans s3) (by simpa using np)
    refine ⟨_, rfl, .inl ⟨rfl, _, SqL.of h4⟩, _, rfl, few (n := 2) (Nat.le_refl 2) (by decide), fun u H5 nu hu s5 => ?_⟩
    refine ⟨p, _, _, rfl, rfl, s5 _ _ h4, fewer (m := 100) (by rw [List.length_append]; show _ + 1 ≤ _; omega) (by decide), fun H6 h6 b6 => ?_⟩
    have t6 := st true H4 _ _ h4 t4 u H5 H6 hu s5 h6 b6
    refine ⟨_, _, rfl, b6.same (s4.trans s5) (by simpa using np), h6, ?_⟩
    rw [upto_more, show upto i ++ [⟨i + 1, false⟩, ⟨i + 1, true⟩] = upto i ++ [⟨i + 1, false⟩] ++ [⟨i + 1, true⟩] by simp]
    exact t6
  · rintro σ H2 ⟨o, vs, rfl, s2, h2, t2⟩
    have hl := t2.1
    rw [upto_len] at hl
    refine ⟨_, rfl, .inl ⟨rfl, _, SqL.of h2⟩, few (n := 2) (Nat.le_refl 2) (by decide), fun t H3 nt ht s3 => ?_⟩
    refine ⟨p, _, _, rfl, rfl, s3 _ _ h2, fewer (m := 100) (by omega) (by decide), fun H4 h4 b4 => ?_⟩
    have kp : ∀ x xs, H3 x = some (.tup xs) → H4 x = some (.tup xs) := fun x xs e => b4 _ _ e (by
      intro z
      rw [List.mem_singleton.mp z, s3 _ _ h2] at e
      cases e)
    refine ⟨_, rfl, k p H4 ⟨_, h4, ?_⟩ (b4.same (s2.trans s3) (by simpa using np))⟩
    rw [spots_is]
    exact Two.snoc (Two.mono t2 fun v c _ ⟨q, e, f⟩ => ⟨q, e, kp _ _ (s3 _ _ f)⟩) ⟨t, rfl, kp _ _ ht⟩
/-! ### all_outcomes -/
def atsTo (ks : List Bt) (l : List Spot) (i : Nat) : List At := (l.take i).flatMap fun p => ks.map fun x => ⟨p, x⟩
theorem atsTo_more {ks : List Bt} {l : List Spot} {i : Nat} {p : Spot} (h : l[i]? = some p) : atsTo ks l (i + 1) = atsTo ks l i ++ ks.map fun x => (⟨p, x⟩ : At) := by
  unfold atsTo
  rw [take_more h, List.flatMap_append]
  simp
theorem spots_len : Vasedb.spots.length = 47 := by decide
theorem atsTo_len (ks : List Bt) : ∀ i, i ≤ 47 → (atsTo ks Vasedb.spots i).length = i * ks.length
  | 0, _ => by simp [atsTo]
  | i + 1, h => by
    have hi : i < Vasedb.spots.length := by rw [spots_len]; omega
    rw [atsTo_more (List.getElem?_eq_getElem hi), List.length_append, atsTo_len ks i (by omega), List.length_map, Nat.succ_mul]
theorem ats_is (ks : List Bt) : Vasedb.ats ks = atsTo ks Vasedb.spots 47 := by
  unfold atsTo Vasedb.ats
  rw [List.take_of_length_le (by rw [spots_len]; decide)]
def sp_all_outcomes (A : Ad) (K : PySem.W.Frag) : Sp := fun vs H Q _ => ∃ (c kp : PySem.Addr) (s : Script) (ks : List Bt), vs = [.ref c, .ref kp] ∧ ScrAt A H c s ∧ TxtsAt H kp ks ∧ s.length ≤ 16 ∧ ks.length ≤ 10000 ∧ (∀ c ∈ s, Vasedb.plainDeed c.d = true) ∧
  ∀ p H', OutsAt A H' s p (Vasedb.ats ks) → Same H H' → Q (.ref p) H'
theorem ok_all_outcomes (T : Txt K mg A) (Z : Apart A) : ∃ f fd, FnOk P w K mg base CX0 4 f fd ["commands", "kinds"] (sp_all_outcomes A K) ∧ mg "all_outcomes" = some (.ref f) ∧ PySem.W.keepIn K (.ref f) = true ∧ Binds K fd ["commands", "kinds"] [] := by
  obtain ⟨f, fd, F, hm, hb⟩ := T.d_all_outcomes.ex
  obtain ⟨f_Outcome_init, fd_Outcome_init, G_Outcome_init, M_Outcome, m_Outcome, b_Outcome_init⟩ := ok_Outcome_init (P := P) (w := w) (base := base) T Z
  obtain ⟨f_all_places, fd_all_places, G_all_places, m_all_places, k_all_places, b_all_places⟩ := ok_all_places (P := P) (w := w) (base := base) T Z
  obtain ⟨f_line_run, fd_line_run, G_line_run, m_line_run, k_line_run, b_line_run⟩ := ok_line_run (P := P) (w := w) (base := base) T Z
  refine ⟨f, fd, ?_, hm, F.kp, hb⟩
  refine F.ok sc_all_outcomes (fun vs H Q E h => by obtain ⟨c, kp, s, ks, rfl, hc, hk, few1, few2, plain, k⟩ := h; rfl) (fun cdv A' outer s H vs Q E hr h => ?_)
  obtain ⟨c, kp, s, ks, rfl, hc, hk, few1, few2, plain, k⟩ := h
  refine ⟨_, (pss_cons (ps_set (i := 2) sc_all_outcomes.nd rfl (by first | exact Or.inl rfl | exact Or.inr rfl) (pe_lstA pa_nil))
  (pss_cons (ps_for PassesOwn.never rfl (pi_list (pe_call0 G_all_places (hr.mono (by decide)) rfl m_all_places k_all_places b_all_places .nil pass0)) (pg_name (i := 3) sc_all_outcomes.nd rfl (by first | exact Or.inl rfl | exact Or.inr rfl))
  (pss_one (ps_for PassesOwn.never rfl (pi_list (pv 1)) (pg_name (i := 4) sc_all_outcomes.nd rfl (by first | exact Or.inl rfl | exact Or.inr rfl))
  (pss_one (ps_expr (pe_bm PySem.F.plainAttrs_list PySem.F.slot_list_append PySem.F.type_list_append mt_appendA (pv 2) (pa_cons (pe_hide (pe_make M_Outcome G_Outcome_init (hr.mono (by decide)) rfl m_Outcome b_Outcome_init .nil pass0 (pa_cons (pv 3) (pa_cons (pv 4) (pa_cons (pe_call G_line_run (hr.mono (by decide)) rfl m_line_run k_line_run b_line_run .nil pass0 (pa_cons (pv 0) (pa_cons (pv 4) (pa_cons (pv 3) pa_nil)))) pa_nil))))) pa_nil)))))))
  (pss_one (ps_ret (pv 2))))), ?_⟩
  refine ⟨size0, fun p H1 np hp s1 => ?_⟩
  refine ⟨rfl, fun pl H2 hpl s2 => ?_⟩
  obtain ⟨ps, hps, tps⟩ := hpl
  have lps := tps.1
  have len47 : ps.length = 47 := by rw [lps, spots_len]
  have npl : pl ≠ p := ne_of hps (s2 _ _ hp) (fun z => by
    injection z with z
    rw [z] at len47
    cases len47)
  obtain ⟨B, eB⟩ : ∃ B, B = del H2 p := ⟨_, rfl⟩
  have hB : ∀ {b o}, H2 b = some o → b ≠ p → B b = some o := fun h n => by rw [eB, del_ne n]; exact h
  have sB1 : Same H B := fun b o e => hB ((s1.trans s2) b o e) (ne_of_none e np)
  have hplB : B pl = some (.lst ps) := hB hps npl
  have tB : PlsX A B ps Vasedb.spots := Two.mono tps fun v q _ ⟨t, e, f⟩ => ⟨t, e, hB f (ne_of f (s2 _ _ hp) (fun z => by cases z))⟩
  have toB : ∀ {H' : Hp}, Same B (del H' p) → Same B H' := fun h b o e => by
    have z := h b o e
    by_cases n : b = p
    · rw [n, del_same] at z; cases z
    · rw [del_ne n] at z; exact z
  refine ⟨pl, rfl, ⟨_, SqL.of hps⟩, ?_⟩
  refine for_it (walk_list (K := K) (a := pl) (xs := ps)) (fun i σ H' => ∃ o1 o2 vs, σ = [some (.ref c), some (.ref kp), some (.ref p), o1, o2] ∧ Same B (del H' p) ∧ H' p = some (.lst vs) ∧ Outs A (del H' p) s vs (atsTo ks Vasedb.spots i))
    ⟨none, none, [], rfl, (by rw [eB]; exact Same.refl _), s2 _ _ hp, Two.nil⟩ (fun i σ H' _ ⟨_, _, _, _, s3, _⟩ => SqL.of (toB s3 _ _ hplB)) ?_ ?_
  · rintro i v σ Hx H3 hi ⟨o1, o2, vs, rfl, s3, h3, t3⟩ ⟨rfl, e3⟩
    obtain ⟨q, eq, t, rfl, ht⟩ := tB.at e3
    have hi2 : i ≤ 47 := by omega
    refine ⟨_, rfl, kp, rfl, ⟨_, SqL.of (toB s3 _ _ (sB1 _ _ hk))⟩, ?_⟩
    refine for_it (walk_list (K := K) (a := kp) (xs := ks.map vB)) (fun j σ H' => ∃ o2 vs, σ = [some (.ref c), some (.ref kp), some (.ref p), some (.ref t), o2] ∧ Same B (del H' p) ∧ H' p = some (.lst vs) ∧ Outs A (del H' p) s vs (atsTo ks Vasedb.spots i ++ (ks.take j).map fun x => (⟨q, x⟩ : At)))
      ⟨o2, vs, rfl, s3, h3, by simpa using t3⟩ (fun j σ H' _ ⟨_, _, _, s3, _⟩ => SqL.of (toB s3 _ _ (sB1 _ _ hk))) ?_ ?_
    · rintro j v σ Hy H4 hj ⟨o2, vs, rfl, s4, h4, t4⟩ ⟨rfl, e4⟩
      obtain ⟨x, ex, rfl⟩ := map_at e4
      have lv := t4.1
      rw [List.length_append, atsTo_len ks i hi2, List.length_map, List.length_take] at lv
      have lv2 : vs.length ≤ 500000 := by
        have : i * ks.length ≤ 47 * 10000 := Nat.mul_le_mul hi2 few2
        omega
      refine ⟨_, rfl, .inl ⟨rfl, _, SqL.of h4⟩, p, vs, h4, _, rfl, _, rfl, _, rfl, _, rfl, _, rfl, c, t, s, x, q, rfl, hc.kp Z (same_kp (sB1.trans s4)), s4 _ _ ht, few1, plain, fun r H5 hr5 s5 => ?_⟩
      refine mk_Outcome fun y dy H6 e6 s6 ny n6 => ?_
      refine ⟨p, vs, _, rfl, rfl, upd_same, fewer (m := 500000) lv2 (by decide), fun H7 h7 b7 => ?_⟩
      have s7 : Same H6 (del H7 p) := fun b o e => by
        have nb : b ≠ p := fun z => by rw [z, n6] at e; cases e
        rw [del_ne nb]
        exact b7 b o (by rw [upd_ne nb]; exact e) (by simpa using nb)
      have s8 := (s5.trans s6).trans s7
      refine ⟨_, _, rfl, s4.trans s8, h7, ?_⟩
      rw [take_more ex, List.map_append, ← List.append_assoc]
      exact Two.snoc (Outs.kp Z (same_kp s8) t4) ⟨y, rfl, dy, t, r, s7 _ _ e6, s8 _ _ (s4 _ _ ht), hr5.kp Z (same_kp (s6.trans s7))⟩
    · rintro σ H4 ⟨o2, vs, rfl, s4, h4, t4⟩
      rw [List.length_map, List.take_length] at t4
      exact ⟨_, _, _, rfl, s4, h4, by rw [atsTo_more eq]; exact t4⟩
  · rintro σ H3 ⟨o1, o2, vs, rfl, s3, h3, t3⟩
    rw [len47, ← ats_is] at t3
    refine ⟨_, rfl, k p H3 ⟨vs, h3, Outs.kp Z (same_kp fun b o e => ?_) t3⟩ (sB1.trans (toB s3))⟩
    by_cases n : b = p
    · rw [n, del_same] at e; cases e
    · rw [del_ne n] at e; exact e
end
end
end SK
set_option Elab.async false
set_option linter.all false
set_option maxRecDepth 100000
set_option maxHeartbeats 2000000
namespace SK
open PySem PySem.Spec PyProof.Rows L2
section
variable {P : Program} {w : World} {K : PySem.W.Frag} {mg : Str → Option Value} {base : Heap} {A : Ad}
section
open Vaseda (Script Deed Cmd Work Out)
open Vasedb (Spot At)
/-! ### where_done -/
def fil {α : Type} (p : α → Bool) : List V → List α → List V
  | v :: vs, x :: xs => if p x = true then v :: fil p vs xs else fil p vs xs
  | _, _ => []
theorem fil_snoc {α : Type} (p : α → Bool) (v : V) (x : α) : ∀ (vs : List V) (xs : List α), vs.length = xs.length → fil p (vs ++ [v]) (xs ++ [x]) = fil p vs xs ++ if p x = true then [v] else []
  | [], [], _ => by
    show (if p x = true then v :: fil p [] [] else fil p [] []) = [] ++ _
    split <;> rfl
  | [], _ :: _, h => by simp at h
  | _ :: _, [], h => by simp at h
  | u :: vs, y :: xs, h => by
    have ih := fil_snoc p v x vs xs (by simpa using h)
    show (if p y = true then u :: fil p (vs ++ [v]) (xs ++ [x]) else fil p (vs ++ [v]) (xs ++ [x])) = (if p y = true then u :: fil p vs xs else fil p vs xs) ++ _
    rw [ih]
    split <;> simp
theorem fil_len {α : Type} (p : α → Bool) : ∀ (vs : List V) (xs : List α), (fil p vs xs).length ≤ vs.length
  | [], _ => Nat.zero_le _
  | _ :: _, [] => Nat.zero_le _
  | u :: vs, y :: xs => by
    have ih := fil_len p vs xs
    show (if p y = true then u :: fil p vs xs else fil p vs xs).length ≤ vs.length + 1
    split
    · exact Nat.succ_le_succ ih
    · omega
theorem Two.tail {α : Type} {R : V → α → Prop} {v : V} {x : α} {vs : List V} {xs : List α} (h : Two R (v :: vs) (x :: xs)) : R v x ∧ Two R vs xs := by
  refine ⟨h.2 0 v x rfl rfl, by simpa using h.1, fun i a b e f => h.2 (i + 1) a b (by simpa using e) (by simpa using f)⟩
theorem fil_two {α : Type} {R : V → α → Prop} (p : α → Bool) : ∀ {vs : List V} {xs : List α}, Two R vs xs → Two R (fil p vs xs) (xs.filter p)
  | [], [], _ => Two.nil
  | [], _ :: _, h => by have := h.1; simp at this
  | _ :: _, [], h => by have := h.1; simp at this
  | u :: vs, y :: xs, h => by
    obtain ⟨h1, h2⟩ := h.tail
    have ih := fil_two p h2
    show Two R (if p y = true then u :: fil p vs xs else fil p vs xs) _
    rw [List.filter_cons]
    split
    · exact Two.cons h1 ih
    · exact ih
theorem in_nats (n : Nat) (l : List Nat) : inV (V.int n) (l.map vN) = l.contains n := by
  unfold inV
  rw [List.any_map]
  induction l with
  | nil => rfl
  | cons m r ih =>
    rw [List.any_cons, ih, List.contains_cons]
    congr 1
    show (((m : Nat) : Int) == ((n : Nat) : Int)) = (n == m)
    rw [Bool.eq_iff_iff, beq_iff_eq, beq_iff_eq]
    omega
theorem flat_nats (l : List Nat) : (l.map vN).all flatV = true := by
  rw [List.all_map, List.all_eq_true]
  intro x _
  rfl
def sp_where_done (A : Ad) (K : PySem.W.Frag) : Sp := fun vs H Q _ => ∃ (p : PySem.Addr) (s : Script) (l : List At) (n : Nat), vs = [.ref p, vN n] ∧ OutsAt A H s p l ∧ l.length ≤ 1000000 ∧ ∀ q H', OutsAt A H' s q (l.filter fun a => (Vasedb.workAt s a.p a.x).did.contains n) → Same H H' → Q (.ref q) H'
theorem ok_where_done (T : Txt K mg A) (Z : Apart A) : ∃ f fd, FnOk P w K mg base CX0 1 f fd ["outcomes", "number"] (sp_where_done A K) ∧ mg "where_done" = some (.ref f) ∧ PySem.W.keepIn K (.ref f) = true ∧ Binds K fd ["outcomes", "number"] [] := by
  obtain ⟨f, fd, F, hm, hb⟩ := T.d_where_done.ex
  refine ⟨f, fd, ?_, hm, F.kp, hb⟩
  refine F.ok sc_where_done (fun vs H Q E h => by obtain ⟨p, s, l, n, rfl, ⟨vs, hp, hs⟩, few1, k⟩ := h; rfl) (fun cdv A' outer s H vs Q E hr h => ?_)
  obtain ⟨p, s, l, n, rfl, ⟨vs, hp, hs⟩, few1, k⟩ := h
  refine ⟨_, (pss_one (ps_ret (pe_lc (own := [("outcome", 2)]) (g := gName 2) rfl sc_where_done.nd (pi_list (pv 0)) (blkOk_by (N := N_where_done) (sc := defScope s_where_done) (by decide +kernel))
   (fun _ _ _ _ _ => pg_name (i := 2) sc_where_done.nd rfl (Or.inl rfl)) (fun _ _ _ _ _ => by exact (pts_one (pt_cmpR (op_in_seqK (K := K)) (pv 1) (pe_fldK (K := K) (pe_fldK (K := K) (pv 2) rfl) rfl) (by rfl)))) (fun _ _ _ _ _ => by exact (pv 2))))), ?_⟩
  have hl := hs.1
  refine ⟨_, rfl, p, rfl, ⟨vs, SqL.of hp⟩, fun D hD => ?_⟩
  refine lc_itA (walk_list (K := K) (a := p) (xs := vs)) (fun i => fil (fun a => (Vasedb.workAt s a.p a.x).did.contains n) (vs.take i) (l.take i)) hD (fun H' s1 => SqL.of (s1 _ _ hp)) rfl (fun i _ => ?_) ?_ ?_
  · have := fil_len (fun a : At => (Vasedb.workAt s a.p a.x).did.contains n) (vs.take i) (l.take i)
    rw [List.length_take] at this
    exact fewer (m := 1000000) (by omega) (by decide)
  · rintro i v Hx H2 hi s1 ⟨rfl, hv⟩ N M hN hM
    obtain ⟨a, e1, q1, rfl, dx, pp, pr, g1, g2, dr, d, x, y, R⟩ := hs.at hv
    have nx : fil (fun a : At => (Vasedb.workAt s a.p a.x).did.contains n) (vs.take (i + 1)) (l.take (i + 1)) = fil (fun a : At => (Vasedb.workAt s a.p a.x).did.contains n) (vs.take i) (l.take i) ++ if (Vasedb.workAt s a.p a.x).did.contains n = true then [V.ref q1] else [] := by
      rw [take_more hv, take_more e1]
      exact fil_snoc _ _ _ _ _ (by rw [List.length_take, List.length_take, hl])
    refine ⟨rfl, ?_⟩
    refine ⟨_, rfl, _, rfl, ?_⟩
    refine ⟨_, _, _, _, _, rfl, (s1 _ _ g1), T.c_Outcome.cl, T.c_Outcome.no _ (by simp), lk_Outcome_run, ?_⟩
    refine ⟨_, _, _, _, _, rfl, (s1 _ _ R.ob), T.c_LineRun.cl, T.c_LineRun.no _ (by simp), lk_LineRun_done, ?_⟩
    refine ⟨d, _, rfl, .inl (SqL.of (s1 _ _ R.dn)), rfl, flat_nats _, _, rfl, ?_⟩
    rw [if_neg Bool.false_ne_true, in_nats]
    refine ite2 (fun h => ?_) (fun h => ?_)
    · rw [if_pos h] at nx
      exact ⟨_, rfl, hN _ _ (Same.refl _) nx⟩
    · rw [if_neg h, List.append_nil] at nx
      exact hM _ (Same.refl _) nx
  · intro H2 s1 hd
    rw [List.take_of_length_le (Nat.le_refl _), List.take_of_length_le (by rw [hl]; exact Nat.le_refl _)] at hd
    exact k D H2 ⟨_, hd, Outs.kp Z (same_kp s1) (fil_two _ hs)⟩ s1
/-! ### first_unlike -/
theorem strOk_B (b : Bt) : PyData.strOk (sB b) = true := by
  unfold PyData.strOk
  rw [Array.all_eq_true']
  intro x hx
  have := (Array.mem_toList_iff).mpr hx
  rw [sB_list, List.mem_map] at this
  obtain ⟨c, _, rfl⟩ := this
  have := c.toNat_lt
  exact decide_eq_true (by omega)
theorem eqv_txts : ∀ l m : List Bt, PyData.eqvAll (l.map fun b => .str (sB b)) (m.map fun b => .str (sB b)) = decide (l = m)
  | [], [] => by simp [PyData.eqvAll]
  | [], _ :: _ => by simp [PyData.eqvAll]
  | _ :: _, [] => by simp [PyData.eqvAll]
  | x :: l, y :: m => by
    have ih := eqv_txts l m
    show (PyData.eqv (.str (sB x)) (.str (sB y)) && PyData.eqvAll (l.map fun b => .str (sB b)) (m.map fun b => .str (sB b))) = _
    rw [ih]
    show ((sB x == sB y) && decide (l = m)) = _
    rw [Bool.eq_iff_iff, Bool.and_eq_true, beq_iff_eq, decide_eq_true_iff, decide_eq_true_iff, List.cons.injEq]
    exact ⟨fun h => ⟨sB_inj h.1, h.2⟩, fun h => ⟨by rw [h.1], h.2⟩⟩
theorem lay_txts : ∀ l : List Bt, PyData.canLayAll0 (l.map fun b => .str (sB b)) = true
  | [] => rfl
  | x :: l => by
    show (PyData.strOk (sB x) && PyData.canLayAll0 (l.map fun b => .str (sB b))) = true
    rw [strOk_B, lay_txts l]
    rfl
theorem deep_txts : ∀ l : List Bt, PyData.depthAll (l.map fun b => .str (sB b)) = 0
  | [] => rfl
  | x :: l => by
    show max 0 (PyData.depthAll (l.map fun b => .str (sB b))) = 0
    rw [deep_txts l]
    rfl
theorem shape_txts (l : List Bt) : SeqAt.shaped (.list (l.map fun b => .str (sB b))) = true := by
  unfold SeqAt.shaped
  rw [Bool.and_eq_true, decide_eq_true_iff]
  refine ⟨lay_txts l, ?_⟩
  show PyData.depthAll _ + 1 ≤ 64
  rw [deep_txts]
  decide
theorem dp_txts {K : PySem.W.Frag} {H : Hp} : ∀ l : List Bt, DpAll K H (l.map vB) (l.map fun b => .str (sB b))
  | [] => .nil
  | x :: l => .cons (.str _) (dp_txts l)
theorem out_is (s : Script) (p : Spot) (x : Bt) : Vasedb.outAt s p x = (Vaseda.outOf 0 (Vasedb.workAt s p x)).map fun o => o.x := by
  unfold Vasedb.outAt Vaseda.outOf
  rw [List.map_append, List.map_append, List.map_append, List.map_append]
  congr 2
  split <;> rfl
theorem find_one_pos {α : Type} {f : α → Bool} {a : α} (h : f a = true) : [a].find? f = some a := by
  rw [List.find?_cons_of_pos h]
theorem find_one_neg {α : Type} {f : α → Bool} {a : α} (h : ¬ f a = true) : [a].find? f = none := by
  rw [List.find?_cons_of_neg h]
  rfl
def sp_first_unlike (A : Ad) (K : PySem.W.Frag) : Sp := fun vs H Q _ => ∃ (p c : PySem.Addr) (s u : Script) (l : List At), vs = [.ref p, .ref c] ∧ OutsAt A H s p l ∧ ScrAt A H c u ∧ u.length ≤ 16 ∧ s.length ≤ 16 ∧ (∀ c ∈ u, Vasedb.plainDeed c.d = true) ∧ (∀ c ∈ s, Vasedb.plainDeed c.d = true) ∧
  (∀ q H' a, MK.unlikeIn l s u = some a → OutAt A H' s q a → Same H H' → Q (.ref q) H') ∧ (∀ H', MK.unlikeIn l s u = none → Same H H' → Q .non H')
theorem ok_first_unlike (T : Txt K mg A) (Z : Apart A) : ∃ f fd, FnOk P w K mg base CX0 4 f fd ["outcomes", "others"] (sp_first_unlike A K) ∧ mg "first_unlike" = some (.ref f) ∧ PySem.W.keepIn K (.ref f) = true ∧ Binds K fd ["outcomes", "others"] [] := by
  obtain ⟨f, fd, F, hm, hb⟩ := T.d_first_unlike.ex
  obtain ⟨f_LineRun_coming, fd_LineRun_coming, G_LineRun_coming, M_LineRun_coming, b_LineRun_coming⟩ := ok_LineRun_coming (P := P) (w := w) (base := base) T Z
  obtain ⟨f_line_run, fd_line_run, G_line_run, m_line_run, k_line_run, b_line_run⟩ := ok_line_run (P := P) (w := w) (base := base) T Z
  refine ⟨f, fd, ?_, hm, F.kp, hb⟩
  refine F.ok sc_first_unlike (fun vs H Q E h => by obtain ⟨p, c, s, u, l, rfl, ⟨vs, hp, hs⟩, hc, few1, few2, pl1, pl2, k1, k2⟩ := h; rfl) (fun cdv A' outer s H vs Q E hr h => ?_)
  obtain ⟨p, c, s, u, l, rfl, ⟨vs, hp, hs⟩, hc, few1, few2, pl1, pl2, k1, k2⟩ := h
  refine ⟨_, (pss_cons (ps_for PassesOwn.never rfl (pi_list (pv 0)) (pg_name (i := 2) sc_first_unlike.nd rfl (by first | exact Or.inl rfl | exact Or.inr rfl))
  (pss_cons (ps_set (i := 3) sc_first_unlike.nd rfl (by first | exact Or.inl rfl | exact Or.inr rfl) (pe_call G_line_run (hr.mono (by decide)) rfl m_line_run k_line_run b_line_run .nil pass0 (pa_cons (pv 1) (pa_cons (pe_fldK (K := K) (pv 2) rfl) (pa_cons (pe_fldK (K := K) (pv 2) rfl) pa_nil)))))
  (pss_one (ps_if (pt_cmpR (op_neD hr.units) (pe_meth0 (pv 3) T.c_LineRun.cl M_LineRun_coming G_LineRun_coming (hr.mono (by decide)) b_LineRun_coming .nil pass0) (pe_meth0 (pe_fldK (K := K) (pv 2) rfl) T.c_LineRun.cl M_LineRun_coming G_LineRun_coming (hr.mono (by decide)) b_LineRun_coming .nil pass0) (nomark _)) (pss_one (ps_ret (pv 2))) pss_nil))))
  (pss_one (ps_ret pe_non))), ?_⟩
  have hl := hs.1
  refine ⟨_, rfl, p, rfl, ⟨vs, SqL.of hp⟩, ?_⟩
  refine for_it (walk_list (K := K) (a := p) (xs := vs)) (fun i σ H' => ∃ o1 o2, σ = [some (.ref p), some (.ref c), o1, o2] ∧ Same H H' ∧ (l.take i).find? (fun a => Vasedb.outAt s a.p a.x != Vasedb.outAt u a.p a.x) = none)
    ⟨none, none, rfl, Same.refl _, rfl⟩ (fun i σ H' _ ⟨_, _, _, s3, _⟩ => SqL.of (s3 _ _ hp)) ?_ ?_
  · rintro i v σ Hx H2 hi ⟨o1, o2, rfl, s2, n2⟩ ⟨rfl, hv⟩
    obtain ⟨a, e1, q1, rfl, dx, pp, pr, g1, g2, g3⟩ := hs.at hv
    refine ⟨_, rfl, _, rfl, ?_⟩
    refine ⟨_, _, _, _, _, rfl, (s2 _ _ g1), T.c_Outcome.cl, T.c_Outcome.no _ (by simp), lk_Outcome_kind, ?_⟩
    refine ⟨_, rfl, ?_⟩
    refine ⟨_, _, _, _, _, rfl, (s2 _ _ g1), T.c_Outcome.cl, T.c_Outcome.no _ (by simp), lk_Outcome_place, ?_⟩
    refine ⟨c, pp, u, a.x, a.p, rfl, hc.kp Z (same_kp s2), s2 _ _ g2, few1, pl1, fun r H3 hr3 s3 => ?_⟩
    have s4 := s2.trans s3
    obtain ⟨dr, rd, ra, rb, R⟩ := id hr3
    have okU := wk_ok (q := a.p) (x := a.x) pl1 u.length (Nat.le_refl _)
    have okS := wk_ok (q := a.p) (x := a.x) pl2 s.length (Nat.le_refl _)
    rw [wk_all] at okU okS
    obtain ⟨dr2, rd2, ra2, rb2, R2⟩ := id g3
    refine ⟨_, rfl, r, dr, _, rfl, R.ob, lm_LineRun_coming, r, _, rfl, hr3, by have := okU.pre; omega, by have := okU.post; omega, fun x H4 hx s5 => ?_⟩
    refine ⟨_, rfl, ?_⟩
    refine ⟨_, _, _, _, _, rfl, (s5 _ _ (s4 _ _ g1)), T.c_Outcome.cl, T.c_Outcome.no _ (by simp), lk_Outcome_run, ?_⟩
    refine ⟨pr, dr2, _, rfl, s5 _ _ (s4 _ _ R2.ob), lm_LineRun_coming, pr, _, rfl, g3.kp Z (same_kp (s4.trans s5)), by have := okS.pre; omega, by have := okS.post; omega, fun y H5 hy s6 => ?_⟩
    refine ⟨_, _, .lst (SqL.of (s6 _ _ hx)) (dp_txts _), .lst (SqL.of hy) (dp_txts _), shape_txts _, shape_txts _, _, rfl, ?_⟩
    have e5 : (!PyData.eqv (.list (((Vaseda.outOf 0 (Vasedb.workAt u a.p a.x)).map fun o => o.x).map fun b => .str (sB b))) (.list (((Vaseda.outOf 0 (Vasedb.workAt s a.p a.x)).map fun o => o.x).map fun b => .str (sB b)))) = (Vasedb.outAt s a.p a.x != Vasedb.outAt u a.p a.x) := by
      show (!PyData.eqvAll _ _) = _
      rw [eqv_txts, ← out_is, ← out_is]
      rw [Bool.eq_iff_iff]
      simp only [Bool.not_eq_true', decide_eq_false_iff_not, bne_iff_ne, ne_eq]
      exact ⟨fun h z => h z.symm, fun h z => h z.symm⟩
    rw [e5]
    have s7 := (s4.trans s5).trans s6
    have nx : (l.take (i + 1)).find? (fun a => Vasedb.outAt s a.p a.x != Vasedb.outAt u a.p a.x) = if (Vasedb.outAt s a.p a.x != Vasedb.outAt u a.p a.x) = true then some a else none := by
      rw [take_more e1, List.find?_append, n2, Option.none_or]
      by_cases h : (Vasedb.outAt s a.p a.x != Vasedb.outAt u a.p a.x) = true
      · rw [if_pos h]
        exact find_one_pos h
      · rw [if_neg h]
        exact find_one_neg h
    refine ite2 (fun h => ?_) (fun h => ?_)
    · rw [if_pos h] at nx
      refine ⟨_, rfl, k1 q1 H5 a ?_ ⟨dx, pp, pr, s7 _ _ g1, s7 _ _ g2, g3.kp Z (same_kp s7)⟩ s7⟩
      unfold MK.unlikeIn
      rw [← List.take_append_drop (i + 1) l, List.find?_append, nx]
      rfl
    · rw [if_neg h] at nx
      exact ⟨_, _, rfl, s7, nx⟩
  · rintro σ H2 ⟨o1, o2, rfl, s2, n2⟩
    rw [hl, List.take_length] at n2
    exact k2 H2 n2 s2
/-! ### numbers_of -/
def sp_numbers_of (A : Ad) (K : PySem.W.Frag) : Sp := fun vs H Q _ => ∃ (p : PySem.Addr) (s : Script) (l : List At), vs = [.ref p] ∧ OutsAt A H s p l ∧ l.length < 4000 ∧ (∀ a ∈ l, a.p.k ≤ 24) ∧
  ∀ q H' (ns : List Nat), ns.Pairwise (· < ·) → (∀ k, k ∈ ns ↔ ∃ a ∈ l, a.p.k = k) → H' q = some (.lst (ns.map vN)) → Same H H' → Q (.ref q) H'
theorem ok_numbers_of (T : Txt K mg A) (Z : Apart A) : ∃ f fd, FnOk P w K mg base CX0 1 f fd ["outcomes"] (sp_numbers_of A K) ∧ mg "numbers_of" = some (.ref f) ∧ PySem.W.keepIn K (.ref f) = true ∧ Binds K fd ["outcomes"] [] := by
  obtain ⟨f, fd, F, hm, hb⟩ := T.d_numbers_of.ex
  refine ⟨f, fd, ?_, hm, F.kp, hb⟩
  refine F.ok sc_numbers_of (fun vs H Q E h => by obtain ⟨p, s, l, rfl, ⟨vs, hp, hs⟩, few1, few2, k⟩ := h; rfl) (fun cdv A' outer s H vs Q E hr h => ?_)
  obtain ⟨p, s, l, rfl, ⟨vs, hp, hs⟩, few1, few2, k⟩ := h
  refine ⟨_, (pss_one (ps_ret (pe_callB (cr_srtSA (m := 25) rfl (by decide)) (by rfl) T.z_sorted (by decide +kernel) (pa_cons (pe_callTy (cr_setLA rfl) (by rfl) T.z_set (by decide +kernel) (pa_cons (pe_lc (own := [("outcome", 1)]) (g := gName 1) rfl sc_numbers_of.nd (pi_list (pv 0)) (blkOk_by (N := N_numbers_of) (sc := defScope s_numbers_of) (by decide +kernel))
   (fun _ _ _ _ _ => pg_name (i := 1) sc_numbers_of.nd rfl (Or.inl rfl)) (fun _ _ _ _ _ => by exact pts_nil) (fun _ _ _ _ _ => by exact (pe_ix (ix_tupK (K := K)) (pe_fldK (K := K) (pv 1) rfl) pe_int (fun _ _ => rfl)))) pa_nil)) pa_nil)))), ?_⟩
  have hl := hs.1
  refine ⟨_, rfl, p, rfl, ⟨vs, SqL.of hp⟩, fun D hD => ?_⟩
  refine lc_itA (walk_list (K := K) (a := p) (xs := vs)) (fun i => (l.take i).map fun a => vN a.p.k) hD (fun H' s1 => SqL.of (s1 _ _ hp)) rfl (fun i _ => fewer (m := 4000) (by rw [List.length_map, List.length_take]; omega) (by decide)) ?_ ?_
  · rintro i v Hx H2 hi s1 ⟨rfl, hv⟩ N M hN hM
    obtain ⟨a, e1, q1, rfl, dx, pp, pr, g1, g2, g3⟩ := hs.at hv
    refine ⟨rfl, ?_⟩
    refine ⟨_, rfl, ?_⟩
    refine ⟨_, _, _, _, _, rfl, (s1 _ _ g1), T.c_Outcome.cl, T.c_Outcome.no _ (by simp), lk_Outcome_place, ?_⟩
    refine ⟨pp, _, _, _, rfl, rfl, SqT.of (s1 _ _ g2), atI_nat (j := 0) rfl, hN _ _ (Same.refl _) ?_⟩
    rw [take_more e1, List.map_append]
    rfl
  · intro H2 s1 hd
    rw [hl, List.take_length] at hd
    have e1 : (l.map fun a => vN a.p.k) = (l.map fun a => ((a.p.k : Nat) : Int)).map V.int := by rw [List.map_map]; rfl
    rw [e1] at hd
    refine ⟨D, _, rfl, SqL.of hd, by rw [List.length_map]; exact few1, fun q c H3 nq hq s3 => ?_⟩
    refine ⟨q, _, c, rfl, hq, fun z hz => ?_, fun ms r H4 hms hk hr4 s4 => ?_⟩
    · obtain ⟨a, ha, rfl⟩ := List.mem_map.mp (of_decide_eq_true hz)
      have := few2 a ha
      show (0 : Int) ≤ (a.p.k : Int) ∧ (a.p.k : Int) < 25
      omega
    · have nn : ∀ z ∈ ms, ∃ m : Nat, z = (m : Int) := fun z hz => by
        obtain ⟨a, ha, rfl⟩ := List.mem_map.mp (of_decide_eq_true ((hk z).mp hz))
        exact ⟨_, rfl⟩
      have e2 : ms = (ms.map Int.toNat).map fun (m : Nat) => (m : Int) := by
        rw [List.map_map]
        have : ∀ z ∈ ms, ((fun (m : Nat) => (m : Int)) ∘ Int.toNat) z = id z := fun z hz => by
          obtain ⟨m, rfl⟩ := nn z hz
          simp
        rw [List.map_congr_left this, List.map_id]
      refine k r H4 (ms.map Int.toNat) ?_ (fun m => ?_) ?_ ((s1.trans s3).trans s4)
      · rw [List.pairwise_map]
        refine hms.imp_of_mem fun {x y} hx hy h => ?_
        obtain ⟨m, rfl⟩ := nn x hx
        obtain ⟨m', rfl⟩ := nn y hy
        simp only [Int.toNat_natCast]
        omega
      · rw [List.mem_map]
        constructor
        · rintro ⟨z, hz, rfl⟩
          obtain ⟨a, ha, rfl⟩ := List.mem_map.mp (of_decide_eq_true ((hk z).mp hz))
          exact ⟨a, ha, by simp⟩
        · rintro ⟨a, ha, rfl⟩
          exact ⟨((a.p.k : Nat) : Int), (hk _).mpr (decide_eq_true (List.mem_map.mpr ⟨a, ha, rfl⟩)), by simp⟩
      · rw [hr4, List.map_map]
        conv => lhs; rw [e2]
        rw [List.map_map, List.map_map]
        rfl
/-! ### first_unsafe -/
def sp_first_unsafe (A : Ad) (K : PySem.W.Frag) : Sp := fun vs H Q _ => ∃ (c : PySem.Addr) (s : Script) (x : Bt), vs = [.ref c, vB x] ∧ ScrAt A H c s ∧ s.length ≤ 16 ∧ (∀ c ∈ s, Vasedb.plainDeed c.d = true) ∧
  (∀ q H' p, Vasedb.unsafe_ s x = some p → PlcAt H' q p → Same H H' → Q (.ref q) H') ∧ (∀ H', Vasedb.unsafe_ s x = none → Same H H' → Q .non H')
theorem ok_first_unsafe (T : Txt K mg A) (Z : Apart A) : ∃ f fd, FnOk P w K mg base CX0 4 f fd ["commands", "line"] (sp_first_unsafe A K) ∧ mg "first_unsafe" = some (.ref f) ∧ PySem.W.keepIn K (.ref f) = true ∧ Binds K fd ["commands", "line"] [] := by
  obtain ⟨f, fd, F, hm, hb⟩ := T.d_first_unsafe.ex
  obtain ⟨f_all_places, fd_all_places, G_all_places, m_all_places, k_all_places, b_all_places⟩ := ok_all_places (P := P) (w := w) (base := base) T Z
  obtain ⟨f_line_run, fd_line_run, G_line_run, m_line_run, k_line_run, b_line_run⟩ := ok_line_run (P := P) (w := w) (base := base) T Z
  refine ⟨f, fd, ?_, hm, F.kp, hb⟩
  refine F.ok sc_first_unsafe (fun vs H Q E h => by obtain ⟨c, s, x, rfl, hc, few1, pl1, k1, k2⟩ := h; rfl) (fun cdv A' outer s H vs Q E hr h => ?_)
  obtain ⟨c, s, x, rfl, hc, few1, pl1, k1, k2⟩ := h
  refine ⟨_, (pss_cons (ps_for PassesOwn.never rfl (pi_list (pe_call0 G_all_places (hr.mono (by decide)) rfl m_all_places k_all_places b_all_places .nil pass0)) (pg_name (i := 2) sc_first_unsafe.nd rfl (by first | exact Or.inl rfl | exact Or.inr rfl))
  (pss_cons (ps_set (i := 3) sc_first_unsafe.nd rfl (by first | exact Or.inl rfl | exact Or.inr rfl) (pe_call G_line_run (hr.mono (by decide)) rfl m_line_run k_line_run b_line_run .nil pass0 (pa_cons (pv 0) (pa_cons (pv 1) (pa_cons (pv 2) pa_nil)))))
  (pss_one (ps_if (PW.pt (pw_or (pt_val (pe_fldK (K := K) (pv 3) rfl)) (pw_or1 (pt_cmpR op_ne (pe_fldK (K := K) (pv 3) rfl) (pv 1) (nomark _))))) (pss_one (ps_ret (pv 2))) pss_nil))))
  (pss_one (ps_ret pe_non))), ?_⟩
  refine ⟨rfl, fun p H1 hp s1 => ?_⟩
  obtain ⟨vs, hp, hs⟩ := hp
  have hl := hs.1
  obtain ⟨f, ef⟩ : ∃ f : Spot → Bool, f = fun p => let w := Vasedb.workAt s p x; w.gone || w.x != x := ⟨_, rfl⟩
  have eu : Vasedb.unsafe_ s x = Vasedb.spots.find? f := by rw [ef]; rfl
  refine ⟨p, rfl, ⟨vs, SqL.of hp⟩, ?_⟩
  refine for_it (walk_list (K := K) (a := p) (xs := vs)) (fun i σ H' => ∃ o1 o2, σ = [some (.ref c), some (vB x), o1, o2] ∧ Same H1 H' ∧ (Vasedb.spots.take i).find? f = none)
    ⟨none, none, rfl, Same.refl _, rfl⟩ (fun i σ H' _ ⟨_, _, _, s3, _⟩ => SqL.of (s3 _ _ hp)) ?_ ?_
  · rintro i v σ Hx H2 hi ⟨o1, o2, rfl, s2, n2⟩ ⟨rfl, hv⟩
    obtain ⟨q, e1, t, rfl, g1⟩ := hs.at hv
    refine ⟨_, rfl, _, rfl, _, rfl, c, t, s, x, q, rfl, hc.kp Z (same_kp (s1.trans s2)), s2 _ _ g1, few1, pl1, fun r H3 hr3 s3 => ?_⟩
    obtain ⟨dr, rd, ra, rb, R⟩ := id hr3
    have s4 := s2.trans s3
    have nx : (Vasedb.spots.take (i + 1)).find? f = if f q = true then some q else none := by
      rw [take_more e1, List.find?_append, n2, Option.none_or]
      by_cases h : f q = true
      · rw [if_pos h]
        exact find_one_pos h
      · rw [if_neg h]
        exact find_one_neg h
    have yes : f q = true → Q (.ref t) H3 := fun h => by
      rw [if_pos h] at nx
      refine k1 t H3 q ?_ (s4 _ _ g1) (s1.trans s4)
      rw [eu, ← List.take_append_drop (i + 1) Vasedb.spots, List.find?_append, nx]
      rfl
    have fq : f q = ((Vasedb.workAt s q x).gone || (Vasedb.workAt s q x).x != x) := by rw [ef]
    refine ⟨_, rfl, ?_⟩
    refine ⟨_, _, _, _, _, rfl, (R.ob), T.c_LineRun.cl, T.c_LineRun.no _ (by simp), lk_LineRun_deleted, ?_⟩
    refine ⟨_, rfl, ?_⟩
    refine ite2 (fun h => ?_) (fun h => ?_)
    · exact ⟨_, rfl, yes (by rw [fq, h]; rfl)⟩
    · refine ⟨_, rfl, ?_⟩
      refine ⟨_, _, _, _, _, rfl, (R.ob), T.c_LineRun.cl, T.c_LineRun.no _ (by simp), lk_LineRun_line, ?_⟩
      refine ⟨_, rfl, rfl, _, rfl, ?_⟩
      rw [dec_vB]
      refine ite2 (fun h2 => ?_) (fun h2 => ?_)
      · refine ⟨_, rfl, yes ?_⟩
        rw [fq]
        show (_ || !((Vasedb.workAt s q x).x == x)) = true
        rw [h2, Bool.or_true]
      · refine ⟨_, _, rfl, s4, ?_⟩
        rw [nx, if_neg]
        rw [fq]
        intro z
        rcases (Bool.or_eq_true _ _).mp z with z | z
        · exact h z
        · exact h2 z
  · rintro σ H2 ⟨o1, o2, rfl, s2, n2⟩
    rw [hl, List.take_length, ← eu] at n2
    exact k2 H2 n2 (s1.trans s2)
end
end
end SK
set_option Elab.async false
set_option linter.all false
set_option maxRecDepth 100000
set_option maxHeartbeats 2000000
namespace SK
open PySem PySem.Spec PyProof.Rows L2
section
variable {P : Program} {w : World} {K : PySem.W.Frag} {mg : Str → Option Value} {base : Heap} {A : Ad}
theorem same_put {H H1 : Hp} {p : PySem.Addr} {u : HO} (s : Same H H1) (n : H p = none) : Same H (upd H1 p u) := fun b o e => by
  rw [upd_ne (ne_of_none e n)]
  exact s b o e
theorem same_at {H H1 H2 : Hp} {p : PySem.Addr} (s : Same H H1) (n : H p = none) (b : But [p] H1 H2) : Same H H2 := fun c o e => b c o (s c o e) (by
  intro z
  rw [List.mem_singleton.mp z, n] at e
  cases e)
/-! ### dicts of texts -/
def kX (x : Bt) : Key := .inr (sB x)
theorem kX_inj {x y : Bt} (h : kX x = kX y) : x = y := sB_inj (Sum.inr.inj h)
theorem kV_kX (x : Bt) : kV (kX x) = vB x := rfl
def dkx (l : List Bt) : List (Key × V) := l.map fun x => (kX x, V.bl true)
theorem dkx_keys (l : List Bt) : ((dkx l).map fun kv => kV kv.1) = l.map vB := by
  unfold dkx
  rw [List.map_map]
  rfl
theorem dkx_any (l : List Bt) (x : Bt) : ((dkx l).any fun kv => decide (kv.1 = kX x)) = decide (x ∈ l) := by
  rw [Bool.eq_iff_iff, List.any_eq_true, decide_eq_true_iff]
  constructor
  · rintro ⟨kv, h, e⟩
    obtain ⟨y, hy, rfl⟩ := List.mem_map.mp h
    have := kX_inj (of_decide_eq_true e)
    exact this ▸ hy
  · exact fun h => ⟨_, List.mem_map.mpr ⟨x, h, rfl⟩, decide_eq_true rfl⟩
theorem dkx_at (l : List Bt) (x : Bt) : (valV (dkx l) (kX x)).isSome = decide (x ∈ l) := by
  rw [← valV_any, dkx_any]
theorem put_dkx (l : List Bt) (x : Bt) : putK (dkx l) (kX x) (.bl true) = dkx (if x ∈ l then l else l ++ [x]) := by
  unfold putK
  rw [dkx_any]
  by_cases h : x ∈ l
  · rw [if_pos (decide_eq_true h), if_pos h]
    unfold dkx
    rw [List.map_map]
    refine List.map_congr_left fun y hy => ?_
    show (if kX y = kX x then (kX y, V.bl true) else (kX y, V.bl true)) = _
    split <;> rfl
  · rw [if_neg (by simpa using h), if_neg h]
    unfold dkx
    rw [List.map_append]
    rfl
theorem put_more (l : List Bt) (x : Bt) : putK (dkx l.eraseDups) (kX x) (.bl true) = dkx (l ++ [x]).eraseDups := by
  rw [put_dkx, MK.eraseDups_snoc]
  by_cases h : x ∈ l
  · rw [if_pos h, if_pos (List.mem_eraseDups.mpr h)]
  · rw [if_neg h, if_neg (fun z => h (List.mem_eraseDups.mp z))]
theorem erase_len (l : List Bt) : l.eraseDups.length ≤ l.length := MK.len_le_of_nodup_sub (MK.nodup_eraseDups l) fun x h => List.mem_eraseDups.mp h
theorem dkx_len (l : List Bt) : (dkx l.eraseDups).length ≤ l.length := by
  unfold dkx
  rw [List.length_map]
  exact erase_len l
section
open Vaseda (Script Deed Cmd Work Out)
open Vasedb (Spot At)
/-! ### words looked for -/
theorem words_has : ∀ a : Vaseda.Addr, Vasedb.wordsOf a = if aName a = "has" then [aLetters a] else []
  | .not a => by
    have ih := words_has a
    show Vasedb.wordsOf a = if aName a = "has" then [aLetters a] else []
    exact ih
  | .all | .line _ | .span _ _ | .last | .has _ | .is_ _ => by kernel_rfl
theorem just_is : ∀ a : Vaseda.Addr, Vasedb.justOf a = if aName a = "is" then [aLetters a] else []
  | .not a => by
    have ih := just_is a
    show Vasedb.justOf a = if aName a = "is" then [aLetters a] else []
    exact ih
  | .all | .line _ | .span _ _ | .last | .has _ | .is_ _ => by kernel_rfl
def isPut (d : Deed) : Bool := inV (.str (dName d)) [.str "before", .str "after", .str "change"]
theorem put_is (d : Deed) : Vasedb.putOf d = if isPut d = true then [dLetters d] else [] := by
  cases d <;> kernel_rfl
theorem plain_is (d : Deed) : inV (.str (dName d)) [.str "swap", .str "first", .str "keep", .str "bring", .str "trade"] = !Vasedb.plainDeed d := by
  cases d <;> kernel_rfl
def lookedBy (s : Script) : List Bt := s.flatMap fun c => Vasedb.wordsOf c.a
def ownBy (s : Script) : List Bt := s.flatMap fun c => Vasedb.justOf c.a ++ Vasedb.putOf c.d
theorem looked_len : ∀ s : Script, (lookedBy s).length ≤ s.length
  | [] => Nat.le_refl _
  | c :: s => by
    have ih := looked_len s
    unfold lookedBy at ih ⊢
    rw [List.flatMap_cons, List.length_append, List.length_cons]
    have : (Vasedb.wordsOf c.a).length ≤ 1 := by
      rw [words_has]
      split <;> simp
    omega
theorem own_len : ∀ s : Script, (ownBy s).length ≤ 2 * s.length
  | [] => Nat.le_refl _
  | c :: s => by
    have ih := own_len s
    unfold ownBy at ih ⊢
    rw [List.flatMap_cons, List.length_append, List.length_cons, List.length_append]
    have : (Vasedb.justOf c.a).length ≤ 1 := by
      rw [just_is]
      split <;> simp
    have : (Vasedb.putOf c.d).length ≤ 1 := by
      rw [put_is]
      split <;> simp
    omega
def sp_looked_for (A : Ad) (K : PySem.W.Frag) : Sp := fun vs H Q _ => ∃ (c : PySem.Addr) (s : Script), vs = [.ref c] ∧ ScrAt A H c s ∧ s.length ≤ 16 ∧ ∀ p H', TxtsAt H' p (Vasedb.hasWords s) → Same H H' → Q (.ref p) H'
theorem ok_looked_for (T : Txt K mg A) (Z : Apart A) : ∃ f fd, FnOk P w K mg base CX0 1 f fd ["commands"] (sp_looked_for A K) ∧ mg "looked_for" = some (.ref f) ∧ PySem.W.keepIn K (.ref f) = true ∧ Binds K fd ["commands"] [] := by
  obtain ⟨f, fd, F, hm, hb⟩ := T.d_looked_for.ex
  refine ⟨f, fd, ?_, hm, F.kp, hb⟩
  refine F.ok sc_looked_for (fun vs H Q E h => by obtain ⟨c, s, rfl, ⟨vs, hc, hs⟩, few1, k⟩ := h; rfl) (fun cdv A' outer s H vs Q E hr h => ?_)
  obtain ⟨c, s, rfl, ⟨vs, hc, hs⟩, few1, k⟩ := h
  refine ⟨_, (pss_cons (ps_set (i := 1) sc_looked_for.nd rfl (by first | exact Or.inl rfl | exact Or.inr rfl) pe_dnewK)
  (pss_cons (ps_for PassesOwn.never rfl (pi_list (pv 0)) (pg_name (i := 2) sc_looked_for.nd rfl (by first | exact Or.inl rfl | exact Or.inr rfl))
  (pss_one (ps_if (pt_cmpR op_eq (pe_fldK (K := K) (pe_fldK (K := K) (pv 2) rfl) rfl) pe_str (nomark _)) (pss_one (ps_dput (hu_of hr) (pv 1) (pe_fldK (K := K) (pe_fldK (K := K) (pv 2) rfl) rfl) pe_bl rfl)) pss_nil)))
  (pss_one (ps_ret (pe_callTy (call_listDA rfl) (by rfl) T.z_list (by decide +kernel) (pa_cons (pv 1) pa_nil)))))), ?_⟩
  have hl := hs.1
  intro p hp
  refine ⟨_, rfl, c, rfl, ⟨vs, SqL.of (same_new hp _ _ hc)⟩, ?_⟩
  refine for_it (walk_list (K := K) (a := c) (xs := vs)) (fun i σ H' => ∃ o, σ = [some (.ref c), some (.ref p), o] ∧ Same H H' ∧ H' p = some (.dK (dkx (lookedBy (s.take i)).eraseDups)))
    ⟨none, rfl, same_new hp, upd_same⟩ (fun i σ H' _ ⟨_, _, s3, _⟩ => SqL.of (s3 _ _ hc)) ?_ ?_
  · rintro i v σ Hx H2 hi ⟨o, rfl, s2, hd⟩ ⟨rfl, hv⟩
    obtain ⟨c1, e1, q1, rfl, dx, pa, pd, o1, ⟨da, o2⟩, _⟩ := hs.at hv
    have nx : lookedBy (s.take (i + 1)) = lookedBy (s.take i) ++ Vasedb.wordsOf c1.a := by
      unfold lookedBy
      rw [take_more e1, List.flatMap_append]
      simp
    rw [words_has] at nx
    refine ⟨_, rfl, ?_⟩
    refine ⟨_, _, _, _, _, rfl, (s2 _ _ o1), T.c_Command.cl, T.c_Command.no _ (by simp), lk_Command_address, ?_⟩
    refine ⟨_, _, _, _, _, rfl, (s2 _ _ o2), T.c_Address.cl, T.c_Address.no _ (by simp), lk_Address_name, ?_⟩
    refine ⟨rfl, _, rfl, ?_⟩
    refine ite2 (fun h => ?_) (fun h => ?_)
    · have h := V.str.inj (of_decide_eq_true h)
      rw [if_pos h] at nx
      refine ⟨_, rfl, ?_⟩
      refine ⟨_, rfl, ?_⟩
      refine ⟨_, _, _, _, _, rfl, (s2 _ _ o1), T.c_Command.cl, T.c_Command.no _ (by simp), lk_Command_address, ?_⟩
      refine ⟨_, _, _, _, _, rfl, (s2 _ _ o2), T.c_Address.cl, T.c_Address.no _ (by simp), lk_Address_letters, ?_⟩
      refine ⟨p, _, rfl, DPut.k (k := kX (aLetters c1.a)) hd ?_, _, rfl, same_put s2 hp, ?_⟩
      · have h1 := dkx_len (lookedBy (s.take i))
        have h2 := looked_len (s.take i)
        rw [List.length_take] at h2
        exact fewer (m := 16) (by omega) (by decide)
      · rw [upd_same, put_more, nx]
    · have h : ¬ aName c1.a = "has" := fun z => h (decide_eq_true (by rw [z]))
      rw [if_neg h, List.append_nil] at nx
      exact ⟨_, rfl, s2, by rw [nx]; exact hd⟩
  · rintro σ H2 ⟨o, rfl, s2, hd⟩
    rw [hl, List.take_length] at hd
    refine ⟨_, rfl, p, _, rfl, hd, fun q H3 nq hq s3 => k q H3 ?_ (s2.trans s3)⟩
    rw [dkx_keys] at hq
    exact hq
def sp_own_words (A : Ad) (K : PySem.W.Frag) : Sp := fun vs H Q _ => ∃ (c : PySem.Addr) (s : Script), vs = [.ref c] ∧ ScrAt A H c s ∧ s.length ≤ 16 ∧ ∀ p H', TxtsAt H' p (Vasedb.ownWords s) → Same H H' → Q (.ref p) H'
theorem ok_own_words (T : Txt K mg A) (Z : Apart A) : ∃ f fd, FnOk P w K mg base CX0 1 f fd ["commands"] (sp_own_words A K) ∧ mg "own_words" = some (.ref f) ∧ PySem.W.keepIn K (.ref f) = true ∧ Binds K fd ["commands"] [] := by
  obtain ⟨f, fd, F, hm, hb⟩ := T.d_own_words.ex
  refine ⟨f, fd, ?_, hm, F.kp, hb⟩
  refine F.ok sc_own_words (fun vs H Q E h => by obtain ⟨c, s, rfl, ⟨vs, hc, hs⟩, few1, k⟩ := h; rfl) (fun cdv A' outer s H vs Q E hr h => ?_)
  obtain ⟨c, s, rfl, ⟨vs, hc, hs⟩, few1, k⟩ := h
  refine ⟨_, (pss_cons (ps_set (i := 1) sc_own_words.nd rfl (by first | exact Or.inl rfl | exact Or.inr rfl) pe_dnewK)
  (pss_cons (ps_for PassesOwn.never rfl (pi_list (pv 0)) (pg_name (i := 2) sc_own_words.nd rfl (by first | exact Or.inl rfl | exact Or.inr rfl))
  (pss_cons (ps_if (pt_cmpR op_eq (pe_fldK (K := K) (pe_fldK (K := K) (pv 2) rfl) rfl) pe_str (nomark _)) (pss_one (ps_dput (hu_of hr) (pv 1) (pe_fldK (K := K) (pe_fldK (K := K) (pv 2) rfl) rfl) pe_bl rfl)) pss_nil)
  (pss_one (ps_if (pt_cmpR (op_in_seqK (K := K)) (pe_fldK (K := K) (pe_fldK (K := K) (pv 2) rfl) rfl) (pe_tupA (pa_cons pe_str (pa_cons pe_str (pa_cons pe_str pa_nil)))) (by rfl)) (pss_one (ps_dput (hu_of hr) (pv 1) (pe_fldK (K := K) (pe_fldK (K := K) (pv 2) rfl) rfl) pe_bl rfl)) pss_nil))))
  (pss_one (ps_ret (pe_callTy (call_listDA rfl) (by rfl) T.z_list (by decide +kernel) (pa_cons (pv 1) pa_nil)))))), ?_⟩
  have hl := hs.1
  intro p hp
  refine ⟨_, rfl, c, rfl, ⟨vs, SqL.of (same_new hp _ _ hc)⟩, ?_⟩
  refine for_it (walk_list (K := K) (a := c) (xs := vs)) (fun i σ H' => ∃ o, σ = [some (.ref c), some (.ref p), o] ∧ Same H H' ∧ H' p = some (.dK (dkx (ownBy (s.take i)).eraseDups)))
    ⟨none, rfl, same_new hp, upd_same⟩ (fun i σ H' _ ⟨_, _, s3, _⟩ => SqL.of (s3 _ _ hc)) ?_ ?_
  · rintro i v σ Hx H2 hi ⟨o, rfl, s2, hd⟩ ⟨rfl, hv⟩
    obtain ⟨c1, e1, q1, rfl, dx, pa, pd, o1, ⟨da, o2⟩, ⟨dd, o3⟩⟩ := hs.at hv
    have nx : ownBy (s.take (i + 1)) = ownBy (s.take i) ++ Vasedb.justOf c1.a ++ Vasedb.putOf c1.d := by
      unfold ownBy
      rw [take_more e1, List.flatMap_append]
      simp
    have h2 := own_len (s.take i)
    rw [List.length_take] at h2
    rw [just_is, put_is] at nx
    refine ⟨_, rfl, ?_⟩
    refine ⟨_, _, _, _, _, rfl, (s2 _ _ o1), T.c_Command.cl, T.c_Command.no _ (by simp), lk_Command_address, ?_⟩
    refine ⟨_, _, _, _, _, rfl, (s2 _ _ o2), T.c_Address.cl, T.c_Address.no _ (by simp), lk_Address_name, ?_⟩
    refine ⟨rfl, _, rfl, ?_⟩
    have f2 : (dkx (ownBy (s.take i)).eraseDups).length < sizeLine := by
      have h1 := dkx_len (ownBy (s.take i))
      exact fewer (m := 32) (by omega) (by decide)
    have key : ∃ l, l.length ≤ 40 ∧ (if aName c1.a = "is" then ownBy (s.take i) ++ [aLetters c1.a] else ownBy (s.take i)) = l ∧ ownBy (s.take (i + 1)) = l ++ (if isPut c1.d = true then [dLetters c1.d] else []) := by
      refine ⟨_, ?_, rfl, ?_⟩
      · split
        · rw [List.length_append]
          show _ + 1 ≤ _
          omega
        · omega
      · rw [nx]
        split <;> simp
    obtain ⟨l, f3, el, nl⟩ := key
    refine ite2 (fun h => ?_) (fun h => ?_)
    have h := V.str.inj (of_decide_eq_true h)
    rw [if_pos h] at el
    refine ⟨_, rfl, ?_⟩
    refine ⟨_, rfl, ?_⟩
    refine ⟨_, _, _, _, _, rfl, (s2 _ _ o1), T.c_Command.cl, T.c_Command.no _ (by simp), lk_Command_address, ?_⟩
    refine ⟨_, _, _, _, _, rfl, (s2 _ _ o2), T.c_Address.cl, T.c_Address.no _ (by simp), lk_Address_letters, ?_⟩
    refine ⟨p, _, rfl, DPut.k (k := kX (aLetters c1.a)) hd f2, ?_⟩
    have s3 := same_put (u := .dK (putK (dkx (ownBy (s.take i)).eraseDups) (kX (aLetters c1.a)) (.bl true))) s2 hp
    have hd3 : upd H2 p (.dK (putK (dkx (ownBy (s.take i)).eraseDups) (kX (aLetters c1.a)) (.bl true))) p = some (.dK (dkx l.eraseDups)) := by rw [upd_same, put_more, el]
    generalize upd H2 p (.dK (putK (dkx (ownBy (s.take i)).eraseDups) (kX (aLetters c1.a)) (.bl true))) = H3 at s3 hd3 ⊢
    rotate_left
    have h : ¬ aName c1.a = "is" := fun z => h (decide_eq_true (by rw [z]))
    rw [if_neg h] at el
    have s3 := s2
    have hd3 : H2 p = some (.dK (dkx l.eraseDups)) := by rw [← el]; exact hd
    all_goals
      refine ⟨_, rfl, ?_⟩
      refine ⟨_, _, _, _, _, rfl, (s3 _ _ o1), T.c_Command.cl, T.c_Command.no _ (by simp), lk_Command_deed, ?_⟩
      refine ⟨_, _, _, _, _, rfl, (s3 _ _ o3), T.c_Deed.cl, T.c_Deed.no _ (by simp), lk_Deed_name, ?_⟩
      refine ⟨few (n := 3) (Nat.le_refl 3) (by decide), fun t H4 nt ht s4 => ?_⟩
      have s5 := s3.trans s4
      refine ⟨t, _, rfl, .inr (SqT.of ht), rfl, rfl, _, rfl, ?_⟩
      rw [if_neg Bool.false_ne_true]
      refine ite2 (fun h => ?_) (fun h => ?_)
      · have h : isPut c1.d = true := h
        rw [if_pos h] at nl
        refine ⟨_, rfl, ?_⟩
        refine ⟨_, rfl, ?_⟩
        refine ⟨_, _, _, _, _, rfl, (s5 _ _ o1), T.c_Command.cl, T.c_Command.no _ (by simp), lk_Command_deed, ?_⟩
        refine ⟨_, _, _, _, _, rfl, (s5 _ _ o3), T.c_Deed.cl, T.c_Deed.no _ (by simp), lk_Deed_letters, ?_⟩
        refine ⟨p, _, rfl, DPut.k (k := kX (dLetters c1.d)) (s4 _ _ hd3) ?_, _, rfl, same_put s5 hp, ?_⟩
        · have h1 := dkx_len l
          exact fewer (m := 40) (by omega) (by decide)
        · rw [upd_same, put_more, nl]
      · have h : ¬ isPut c1.d = true := h
        rw [if_neg h, List.append_nil] at nl
        exact ⟨_, rfl, s5, by rw [nl]; exact s4 _ _ hd3⟩
  · rintro σ H2 ⟨o, rfl, s2, hd⟩
    rw [hl, List.take_length] at hd
    refine ⟨_, rfl, p, _, rfl, hd, fun q H3 nq hq s3 => k q H3 ?_ (s2.trans s3)⟩
    rw [dkx_keys] at hq
    exact hq
/-! ### is_plain -/
theorem sum_le {m : Nat} {l : List Bt} (h : ∀ x ∈ l, x.length ≤ m) : (l.map fun x => x.length).sum ≤ l.length * m := sum_few h
theorem has_mem {s : Script} {w : Bt} (h : w ∈ Vasedb.hasWords s) : ∃ c ∈ s, w = aLetters c.a := by
  obtain ⟨c, hc, hw⟩ := MK.mem_hasWords.mp h
  rw [words_has] at hw
  split at hw
  · exact ⟨c, hc, List.mem_singleton.mp hw⟩
  · cases hw
theorem has_len (s : Script) : (Vasedb.hasWords s).length ≤ s.length := Nat.le_trans (erase_len _) (looked_len s)
theorem joinB_flat : ∀ l : List Bt, (MK.joinB [] l).length = (l.map fun x => x.length).sum
  | [] => rfl
  | [x] => by simp [MK.joinB]
  | x :: y :: r => by
    have ih := joinB_flat (y :: r)
    show (x ++ [] ++ MK.joinB [] (y :: r)).length = _
    rw [List.length_append, ih, List.append_nil]
    rfl
theorem joinB_mem (c : UInt8) : ∀ l : List Bt, c ∈ MK.joinB [] l ↔ ∃ w ∈ l, c ∈ w
  | [] => by simp [MK.joinB]
  | [x] => by simp [MK.joinB]
  | x :: y :: r => by
    have ih := joinB_mem c (y :: r)
    show c ∈ x ++ [] ++ MK.joinB [] (y :: r) ↔ _
    rw [List.mem_append, ih, List.append_nil]
    simp
theorem le_nat (n m : Nat) : decide ((n : Int) ≤ (m : Int)) = decide (n ≤ m) := decide_eq_decide.mpr (by omega)
def sp_is_plain (A : Ad) (K : PySem.W.Frag) : Sp := fun vs H Q _ => ∃ (c : PySem.Addr) (s : Script), vs = [.ref c] ∧ ScrAt A H c s ∧ ScrFew s ∧ ∀ H', Same H H' → Q (.bl (Vasedb.plain s)) H'
theorem ok_is_plain (T : Txt K mg A) (Z : Apart A) : ∃ f fd, FnOk P w K mg base CX0 2 f fd ["commands"] (sp_is_plain A K) ∧ mg "is_plain" = some (.ref f) ∧ PySem.W.keepIn K (.ref f) = true ∧ Binds K fd ["commands"] [] := by
  obtain ⟨f, fd, F, hm, hb⟩ := T.d_is_plain.ex
  obtain ⟨f_looked_for, fd_looked_for, G_looked_for, m_looked_for, k_looked_for, b_looked_for⟩ := ok_looked_for (P := P) (w := w) (base := base) T Z
  refine ⟨f, fd, ?_, hm, F.kp, hb⟩
  refine F.ok sc_is_plain (fun vs H Q E h => by obtain ⟨c, s, rfl, ⟨vs, hc, hs⟩, few1, k⟩ := h; rfl) (fun cdv A' outer s H vs Q E hr h => ?_)
  obtain ⟨c, s, rfl, ⟨vs, hc, hs⟩, few1, k⟩ := h
  refine ⟨_, (pss_cons (ps_for PassesOwn.never rfl (pi_list (pv 0)) (pg_name (i := 1) sc_is_plain.nd rfl (by first | exact Or.inl rfl | exact Or.inr rfl))
  (pss_one (ps_if (pt_cmpR (op_in_seqK (K := K)) (pe_fldK (K := K) (pe_fldK (K := K) (pv 1) rfl) rfl) (pe_gt T.g_DEEDS_NOT_PLAIN) (by rfl)) (pss_one (ps_ret pe_bl)) pss_nil)))
  (pss_cons (ps_set (i := 2) sc_is_plain.nd rfl (by first | exact Or.inl rfl | exact Or.inr rfl) (pe_call G_looked_for (hr.mono (by decide)) rfl m_looked_for k_looked_for b_looked_for .nil pass0 (pa_cons (pv 0) pa_nil)))
  (pss_one (ps_ret (pe_and (pe_cmpR op_le (pe_callB call_len_seq (by rfl) T.z_len PySem.boot_len (pa_cons (pv 2) pa_nil)) (pe_gi T.g_MOST_LOOKED_FOR) (nomark _)) (pe_one (pe_cmpR op_le (pe_callB call_len_str (by rfl) T.z_len PySem.boot_len (pa_cons (pe_join pe_str (pv 2)) pa_nil)) (pe_gi T.g_MOST_LETTERS) (nomark _)))))))), ?_⟩
  have hl := hs.1
  refine ⟨_, rfl, c, rfl, ⟨vs, SqL.of hc⟩, ?_⟩
  refine for_it (walk_list (K := K) (a := c) (xs := vs)) (fun i σ H' => ∃ o1 o2, σ = [some (.ref c), o1, o2] ∧ Same H H' ∧ (s.take i).all (fun c => Vasedb.plainDeed c.d) = true)
    ⟨none, none, rfl, Same.refl _, rfl⟩ (fun i σ H' _ ⟨_, _, _, s3, _⟩ => SqL.of (s3 _ _ hc)) ?_ ?_
  · rintro i v σ Hx H2 hi ⟨o1, o2, rfl, s2, hd⟩ ⟨rfl, hv⟩
    obtain ⟨c1, e1, q1, rfl, dx, pa, pd, o1, ⟨da, o2⟩, ⟨dd, o3⟩⟩ := hs.at hv
    refine ⟨_, rfl, ?_⟩
    refine ⟨_, _, _, _, _, rfl, (s2 _ _ o1), T.c_Command.cl, T.c_Command.no _ (by simp), lk_Command_deed, ?_⟩
    refine ⟨_, _, _, _, _, rfl, (s2 _ _ o3), T.c_Deed.cl, T.c_Deed.no _ (by simp), lk_Deed_name, ?_⟩
    intro a ha
    refine ⟨a, _, rfl, .inr ha, rfl, rfl, _, rfl, ?_⟩
    rw [if_neg Bool.false_ne_true, plain_is]
    refine ite2 (fun h => ?_) (fun h => ?_)
    · have e : Vasedb.plain s = false := by
        have h1 : Vasedb.plainDeed c1.d = false := by simpa using h
        have : s.all (fun c => Vasedb.plainDeed c.d) = false := List.all_eq_false.mpr ⟨c1, List.mem_of_getElem? e1, by rw [h1]; decide⟩
        unfold Vasedb.plain
        rw [this]
        rfl
      rw [← e]
      exact k H2 s2
    · refine ⟨_, _, rfl, s2, ?_⟩
      rw [take_more e1, List.all_append, hd]
      simpa using h
  · rintro σ H2 ⟨o1, o2, rfl, s2, hd⟩
    rw [hl, List.take_length] at hd
    refine ⟨_, rfl, c, s, rfl, ⟨vs, s2 _ _ hc, Cmds.kp Z (same_kp s2) hs⟩, few1.1, fun p H3 hp s3 => ?_⟩
    have e : Vasedb.plain s = (decide ((Vasedb.hasWords s).length ≤ 4) && decide (((Vasedb.hasWords s).map fun w => w.length).sum ≤ 16)) := by
      unfold Vasedb.plain
      rw [hd]
      rfl
    have h3 : SqL K H3 p ((Vasedb.hasWords s).map vB) := SqL.of hp
    refine ⟨_, rfl, p, _, rfl, .inl h3, _, _, rfl, rfl, ?_⟩
    have e1 : decide ((((Vasedb.hasWords s).map vB).length : Int) ≤ 4) = decide ((Vasedb.hasWords s).length ≤ 4) := by
      rw [List.length_map]
      exact decide_eq_decide.mpr (by omega)
    refine ⟨_, rfl, ?_⟩
    rw [e1]
    by_cases h4 : (Vasedb.hasWords s).length ≤ 4
    · refine ifT (decide_eq_true h4) ?_
      refine ⟨⟨_, rfl⟩, _, rfl, _, p, (Vasedb.hasWords s).map sB, rfl, rfl, .inl ?_, ?_, ?_⟩
      · rw [← map_vB]
        exact h3
      · rw [sum_len, List.length_map]
        have := sum_le (m := 8) (l := Vasedb.hasWords s) fun x hx => by
          obtain ⟨c, hc, rfl⟩ := has_mem hx
          exact (few1.2 c hc).a.w
        show _ + _ * 0 ≤ _
        omega
      · rw [show (Str.ofString "") = sB [] from sB_nil.symm, joined]
        refine ⟨_, rfl, few (m := 1000) ?_ (by decide), _, _, rfl, rfl, ?_⟩
        · rw [sB_len, joinB_flat]
          have := sum_le (m := 8) (l := Vasedb.hasWords s) fun x hx => by
            obtain ⟨c, hc, rfl⟩ := has_mem hx
            exact (few1.2 c hc).a.w
          omega
        · have e2 : decide (((sB (MK.joinB [] (Vasedb.hasWords s))).length : Int) ≤ 16) = decide (((Vasedb.hasWords s).map fun w => w.length).sum ≤ 16) := by
            rw [sB_len, joinB_flat]
            exact le_nat _ 16
          rw [decide_eq_true h4, Bool.true_and, ← e2] at e
          have q := k H3 (s2.trans s3)
          rw [e] at q
          exact q
    · refine ifF (decide_eq_false h4) ?_
      rw [decide_eq_false h4, Bool.false_and] at e
      rw [← e]
      exact k H3 (s2.trans s3)
/-! ### free_letter -/
theorem abc_is : ("abcdefghijklmnopqrstuvwxyz" : Str) = sB Vasedb.alphabet := by decide +kernel
theorem hasIn_one (c : UInt8) (x : Bt) : Vaseda.hasIn [c] x = decide (c ∈ x) := by
  rw [Bool.eq_iff_iff, MK.hasIn_iff, decide_eq_true_iff]
  constructor
  · rintro ⟨s, t, e⟩
    rw [← e]
    simp
  · intro h
    obtain ⟨s, t, e⟩ := List.append_of_mem h
    exact ⟨s, t, by rw [e]; simp⟩
theorem sB_at {x : Bt} {i c : Nat} (h : (sB x).cps[i]? = some c) : ∃ b, x[i]? = some b ∧ (.str ⟨#[c]⟩ : V) = vB [b] := by
  have h1 : (x.map fun c => c.toNat)[i]? = some c := by
    rw [← h]
    show _ = ((x.map fun c => c.toNat).toArray)[i]?
    simp
  rw [List.getElem?_map] at h1
  cases e : x[i]? with
  | none =>
    rw [e] at h1
    cases h1
  | some b =>
    rw [e] at h1
    exact ⟨b, rfl, by rw [← Option.some.inj h1]; rfl⟩
theorem sB_size (x : Bt) : (sB x).cps.size = x.length := sB_len x
def sp_free_letter (A : Ad) (K : PySem.W.Frag) : Sp := fun vs H Q _ => ∃ (p : PySem.Addr) (ws : List Bt), vs = [.ref p] ∧ TxtsAt H p ws ∧ (ws.map fun w => w.length).sum ≤ 16 ∧ ws.length ≤ 16 ∧ ∀ H', Same H H' → Q (vB [Vasedb.freeLetter ws]) H'
theorem ok_free_letter (T : Txt K mg A) (Z : Apart A) : ∃ f fd, FnOk P w K mg base CX0 1 f fd ["words"] (sp_free_letter A K) ∧ mg "free_letter" = some (.ref f) ∧ PySem.W.keepIn K (.ref f) = true ∧ Binds K fd ["words"] [] := by
  obtain ⟨f, fd, F, hm, hb⟩ := T.d_free_letter.ex
  refine ⟨f, fd, ?_, hm, F.kp, hb⟩
  refine F.ok sc_free_letter (fun vs H Q E h => by obtain ⟨p, ws, rfl, hp, few1, few2, k⟩ := h; rfl) (fun cdv A' outer s H vs Q E hr h => ?_)
  obtain ⟨p, ws, rfl, hp, few1, few2, k⟩ := h
  refine ⟨_, (pss_cons (ps_set (i := 1) sc_free_letter.nd rfl (by first | exact Or.inl rfl | exact Or.inr rfl) (pe_join pe_str (pv 0)))
  (pss_one (ps_ret (pe_ix ix_list (pe_lc (own := [("letter", 2)]) (g := gName 2) rfl sc_free_letter.nd (pi_str (pe_gs T.g_LETTERS)) (blkOk_by (N := N_free_letter) (sc := defScope s_free_letter) (by decide +kernel))
   (fun _ _ _ _ _ => pg_name (i := 2) sc_free_letter.nd rfl (Or.inl rfl)) (fun _ _ _ _ _ => by exact (pts_one (pt_cmpR op_notIn_str (pv 2) (pv 1) (by rfl)))) (fun _ _ _ _ _ => by exact (pv 2))) pe_int (fun _ _ => rfl))))), ?_⟩
  refine ⟨⟨_, rfl⟩, _, rfl, _, p, ws.map sB, rfl, rfl, .inl ?_, ?_, ?_⟩
  · rw [← map_vB]
    exact SqL.of hp
  · rw [sum_len, List.length_map]
    show _ + _ * 0 ≤ _
    omega
  rw [show (Str.ofString "") = sB [] from sB_nil.symm, joined]
  refine ⟨sB Vasedb.alphabet, congrArg V.str abc_is, fun D hD => ?_⟩
  refine lc_itA (walk_str (z := sB Vasedb.alphabet)) (fun i => ((Vasedb.alphabet.take i).filter (MK.noWord ws)).map fun c => vB [c]) hD (fun H' s1 => trivial) rfl (fun i _ => ?_) ?_ ?_
  · have := List.length_filter_le (MK.noWord ws) (Vasedb.alphabet.take i)
    rw [List.length_take] at this
    rw [List.length_map]
    exact fewer (m := 26) (by have := MK.alphabet_len; omega) (by decide)
  · rintro i v Hx H2 hi s1 ⟨rfl, c, hc, rfl⟩ N M hN hM
    obtain ⟨b, e1, e2⟩ := sB_at hc
    rw [e2]
    refine ⟨rfl, ?_⟩
    refine ⟨_, rfl, ?_⟩
    refine ⟨_, rfl, ?_⟩
    refine ⟨_, _, rfl, rfl, _, rfl, ?_⟩
    have e3 : (!!(Builtin.Str.occurrences (sB (MK.joinB [] ws)) (sB [b]) 0 (sB (MK.joinB [] ws)).length 1).isEmpty) = MK.noWord ws b := by
      rw [Bool.not_eq_eq_eq_not, has_B, hasIn_one, Bool.eq_iff_iff, decide_eq_true_iff, joinB_mem]
      have := MK.noWord_iff (hs := ws) (c := b)
      rw [Bool.not_eq_true', ← Bool.not_eq_true, this]
      constructor
      · rintro ⟨w, h1, h2⟩ z
        exact z w h1 h2
      · intro z
        apply Classical.byContradiction
        intro q
        exact z fun w h1 h2 => q ⟨w, h1, h2⟩
    rw [e3]
    have nx : (Vasedb.alphabet.take (i + 1)).filter (MK.noWord ws) = (Vasedb.alphabet.take i).filter (MK.noWord ws) ++ if MK.noWord ws b = true then [b] else [] := by
      rw [take_more e1, List.filter_append, List.filter_cons, List.filter_nil]
    refine ite2 (fun h => ?_) (fun h => ?_)
    · rw [if_pos h] at nx
      refine ⟨_, rfl, hN _ _ (Same.refl _) ?_⟩
      rw [nx, List.map_append]
      rfl
    · rw [if_neg h, List.append_nil] at nx
      exact hM _ (Same.refl _) (by rw [nx])
  · intro H2 s1 hd
    rw [sB_size, List.take_length] at hd
    obtain ⟨c, hc⟩ := MK.free_some few1
    have e1 := MK.free_is hc
    have e2 : ∃ r, Vasedb.alphabet.filter (MK.noWord ws) = c :: r := by
      rw [← List.head?_filter] at hc
      cases e : Vasedb.alphabet.filter (MK.noWord ws) with
      | nil => rw [e] at hc; cases hc
      | cons d r => rw [e] at hc; exact ⟨r, by rw [← Option.some.inj hc]⟩
    obtain ⟨r, e2⟩ := e2
    rw [e2, List.map_cons] at hd
    refine ⟨D, _, _, _, rfl, rfl, SqL.of hd, atI_nat (j := 0) rfl, ?_⟩
    rw [← e1]
    exact k H2 s1
/-! ### beginnings_of -/
def tl1 (w : Bt) : List Bt := (List.range w.length).map fun k => w.take k
theorem tails_is (ws : List Bt) : MK.tails ws = [] :: ws.flatMap tl1 := rfl
def tlBy (ws : List Bt) (i : Nat) (w : Bt) (j : Nat) : List Bt := [] :: ((ws.take i).flatMap tl1 ++ (List.range j).map fun k => w.take k)
theorem tlBy_more (ws : List Bt) (i : Nat) (w : Bt) (j : Nat) : tlBy ws i w (j + 1) = tlBy ws i w j ++ [w.take j] := by
  unfold tlBy
  rw [List.range_succ, List.map_append, ← List.append_assoc]
  rfl
theorem tlBy_next {ws : List Bt} {i : Nat} {w v : Bt} (h : ws[i]? = some w) : tlBy ws i w w.length = tlBy ws (i + 1) v 0 := by
  unfold tlBy
  rw [take_more h, List.flatMap_append]
  simp [tl1]
theorem cutS_mid (x : Bt) (n m : Nat) (h : n ≤ x.length) (k : m ≤ x.length) : cutS (sB x) (some (n : Int)) (some (m : Int)) = sB ((x.drop n).take (m - n)) := by
  unfold cutS
  rw [HT.sIx_nat, HT.sIx_nat, sB_len, Nat.min_eq_left h, Nat.min_eq_left k, sB_list, ← List.map_drop, ← List.map_take]
  rfl
theorem cutS_to (x : Bt) (n : Nat) (h : n ≤ x.length) : cutS (sB x) none (some (n : Int)) = sB (x.take n) := by
  unfold cutS
  rw [HT.sIx_nat, HT.sIx_none, sB_len, Nat.min_eq_left h, sB_list, List.drop_zero, Nat.sub_zero, ← List.map_take]
  rfl
theorem cutS_from (x : Bt) (n : Nat) (h : n ≤ x.length) : cutS (sB x) (some (n : Int)) none = sB (x.drop n) := by
  unfold cutS
  rw [HT.sIx_nat, HT.sIx_none, sB_len, Nat.min_eq_left h, sB_list, ← List.map_drop, List.take_of_length_le (by rw [List.length_map, List.length_drop]; exact Nat.le_refl _)]
  rfl
theorem tlBy_len (ws : List Bt) (i : Nat) (w : Bt) (j : Nat) : (tlBy ws i w j).length ≤ 1 + (ws.map fun w => w.length).sum + j := by
  unfold tlBy
  rw [List.length_cons, List.length_append, List.length_map, List.length_range]
  have : ∀ (l : List Bt) (i : Nat), ((l.take i).flatMap tl1).length ≤ (l.map fun w => w.length).sum := by
    intro l
    induction l with
    | nil => intro i; simp
    | cons x r ih =>
      intro i
      cases i with
      | zero => simp
      | succ i =>
        rw [List.take_succ_cons, List.flatMap_cons, List.length_append, List.map_cons, List.sum_cons]
        have := ih i
        have e : (tl1 x).length = x.length := by simp [tl1]
        omega
  have := this ws i
  omega
def sp_beginnings_of (A : Ad) (K : PySem.W.Frag) : Sp := fun vs H Q _ => ∃ (p : PySem.Addr) (ws : List Bt), vs = [.ref p] ∧ TxtsAt H p ws ∧ (ws.map fun w => w.length).sum ≤ 16 ∧ (∀ w ∈ ws, w.length ≤ 16) ∧
  ∀ q H', H' q = some (.dK (dkx (MK.tails ws).eraseDups)) → Same H H' → Q (.ref q) H'
theorem ok_beginnings_of (T : Txt K mg A) (Z : Apart A) : ∃ f fd, FnOk P w K mg base CX0 1 f fd ["words"] (sp_beginnings_of A K) ∧ mg "beginnings_of" = some (.ref f) ∧ PySem.W.keepIn K (.ref f) = true ∧ Binds K fd ["words"] [] := by
  obtain ⟨f, fd, F, hm, hb⟩ := T.d_beginnings_of.ex
  refine ⟨f, fd, ?_, hm, F.kp, hb⟩
  refine F.ok sc_beginnings_of (fun vs H Q E h => by obtain ⟨p, ws, rfl, hp, few1, few2, k⟩ := h; rfl) (fun cdv A' outer s H vs Q E hr h => ?_)
  obtain ⟨p, ws, rfl, hp, few1, few2, k⟩ := h
  refine ⟨_, (pss_cons (ps_set (i := 1) sc_beginnings_of.nd rfl (by first | exact Or.inl rfl | exact Or.inr rfl) (pe_disp (pps_cons pe_str pe_bl pps_nil) (by rfl) (by rfl) (fun z => by cases z) (by decide)))
  (pss_cons (ps_for PassesOwn.never rfl (pi_list (pv 0)) (pg_name (i := 2) sc_beginnings_of.nd rfl (by first | exact Or.inl rfl | exact Or.inr rfl))
  (pss_one (ps_for PassesOwn.never rfl (pi_range1 (by rfl) T.z_range (pa_cons (pe_callB call_len_str (by rfl) T.z_len PySem.boot_len (pa_cons (pv 2) pa_nil)) pa_nil)) (pg_name (i := 3) sc_beginnings_of.nd rfl (by first | exact Or.inl rfl | exact Or.inr rfl))
  (pss_one (ps_dput (hu_of hr) (pv 1) (pe_slice sl_str (pv 2) po_none (po_some (pv 3))) pe_bl rfl)))))
  (pss_one (ps_ret (pv 1))))), ?_⟩
  intro q nq
  refine ⟨upd_same, [(kX [], .bl true)], by rw [List.map_cons, List.map_nil, kV_kX, vB, sB_nil], by decide, ?_⟩
  have e0 : mergeK [] [(kX [], V.bl true)] = dkx (tlBy ws 0 [] 0).eraseDups := by
    show putK [] (kX []) (.bl true) = dkx [[]].eraseDups
    rw [MK.eraseDups_one]
    rfl
  rw [e0]
  have s1 : Same H (upd (upd H q (.dK [])) q (.dK (dkx (tlBy ws 0 [] 0).eraseDups))) := same_put (same_new nq) nq
  have h1 : upd (upd H q (.dK [])) q (.dK (dkx (tlBy ws 0 [] 0).eraseDups)) q = some (.dK (dkx (tlBy ws 0 [] 0).eraseDups)) := upd_same
  generalize upd (upd H q (.dK [])) q (.dK (dkx (tlBy ws 0 [] 0).eraseDups)) = H1 at s1 h1 ⊢
  refine ⟨_, rfl, p, rfl, ⟨_, SqL.of (s1 _ _ hp)⟩, ?_⟩
  refine for_it (walk_list (K := K) (a := p) (xs := ws.map vB)) (fun i σ H' => ∃ o1 o2, σ = [some (.ref p), some (.ref q), o1, o2] ∧ Same H H' ∧ H' q = some (.dK (dkx (tlBy ws i [] 0).eraseDups)))
    ⟨none, none, rfl, s1, h1⟩ (fun i σ H' _ ⟨_, _, _, s3, _⟩ => SqL.of (s3 _ _ hp)) ?_ ?_
  · rintro i v σ Hx H2 hi ⟨o1, o2, rfl, s2, hd⟩ ⟨rfl, hv⟩
    obtain ⟨x, e1, rfl⟩ := map_at hv
    have hx := few2 x (List.mem_of_getElem? e1)
    refine ⟨_, rfl, _, rfl, few (m := 16) (by rw [sB_len]; exact hx) (by decide), _, rfl, by omega, by rw [sB_len]; omega, ?_⟩
    rw [Int.toNat_natCast, sB_len]
    refine for_it (walk_range (lo := 0) (n := x.length)) (fun j σ H' => ∃ o2, σ = [some (.ref p), some (.ref q), some (vB x), o2] ∧ Same H H' ∧ H' q = some (.dK (dkx (tlBy ws i x j).eraseDups)))
      ⟨o2, rfl, s2, hd⟩ (fun _ _ _ _ _ => trivial) ?_ ?_
    · rintro j v σ Hx H3 hj ⟨o2, rfl, s3, hd⟩ ⟨rfl, rfl⟩
      have hj : j < x.length := hj
      refine ⟨_, rfl, ?_⟩
      refine ⟨_, rfl, ?_⟩
      refine ⟨_, rfl, j, by show V.int (0 + (j : Int)) = _; rw [Int.zero_add], _, rfl, few (m := 16) (by rw [sB_len]; exact hx) (by decide), ?_⟩
      rw [cutS_to x j (by omega)]
      refine ⟨q, _, rfl, DPut.k (k := kX (x.take j)) hd ?_, _, rfl, same_put s3 nq, ?_⟩
      · have h1 := dkx_len (tlBy ws i x j)
        have h2 := tlBy_len ws i x j
        exact fewer (m := 40) (by omega) (by decide)
      · rw [upd_same, put_more, tlBy_more]
    · rintro σ H3 ⟨o2, rfl, s3, hd⟩
      rw [tlBy_next e1 (v := [])] at hd
      exact ⟨_, _, rfl, s3, hd⟩
  · rintro σ H2 ⟨o1, o2, rfl, s2, hd⟩
    have e1 : tlBy ws (ws.map vB).length [] 0 = MK.tails ws := by
      unfold tlBy
      rw [List.length_map, List.take_length, tails_is]
      simp
    rw [e1] at hd
    exact ⟨_, rfl, k q H2 hd s2⟩
theorem in_txts (x : Bt) (l : List Bt) : inV (vB x) (l.map vB) = l.contains x := by
  unfold inV
  rw [List.any_map]
  induction l with
  | nil => rfl
  | cons m r ih =>
    rw [List.any_cons, ih, List.contains_cons]
    congr 1
    show (sB m == sB x) = (x == m)
    rw [Bool.eq_iff_iff, beq_iff_eq, beq_iff_eq]
    exact ⟨fun h => (sB_inj h).symm, fun h => by rw [h]⟩
theorem flat_txts (l : List Bt) : (l.map vB).all flatV = true := by
  rw [List.all_map, List.all_eq_true]
  intro x _
  rfl
def sp_words_had (A : Ad) (K : PySem.W.Frag) : Sp := fun vs H Q _ => ∃ (p t : PySem.Addr) (ws had : List Bt) (e : Bt), vs = [.ref p, .ref t, vB e] ∧ TxtsAt H p ws ∧ H t = some (.tup (had.map vB)) ∧ ws.length ≤ 1000 ∧
  ∀ q H', H' q = some (.tup ((ws.filter fun w => had.contains w || w.isSuffixOf e).map vB)) → Same H H' → Q (.ref q) H'
theorem ok_words_had (T : Txt K mg A) (Z : Apart A) : ∃ f fd, FnOk P w K mg base CX0 1 f fd ["words", "had", "end"] (sp_words_had A K) ∧ mg "words_had" = some (.ref f) ∧ PySem.W.keepIn K (.ref f) = true ∧ Binds K fd ["words", "had", "end"] [] := by
  obtain ⟨f, fd, F, hm, hb⟩ := T.d_words_had.ex
  refine ⟨f, fd, ?_, hm, F.kp, hb⟩
  refine F.ok sc_words_had (fun vs H Q E h => by obtain ⟨p, t, ws, had, e, rfl, hp, ht, few1, k⟩ := h; rfl) (fun cdv A' outer s H vs Q E hr h => ?_)
  obtain ⟨p, t, ws, had, e, rfl, hp, ht, few1, k⟩ := h
  refine ⟨_, (pss_one (ps_ret (pe_callTy call_tupleA (by rfl) T.z_tuple (by decide +kernel) (pa_cons (pe_lc (own := [("word", 3)]) (g := gName 3) rfl sc_words_had.nd (pi_list (pv 0)) (blkOk_by (N := N_words_had) (sc := defScope s_words_had) (by decide +kernel))
   (fun _ _ _ _ _ => pg_name (i := 3) sc_words_had.nd rfl (Or.inl rfl)) (fun _ _ _ _ _ => by exact (pts_one (PW.pt (pw_or (pt_cmpR (op_in_seqK (K := K)) (pv 3) (pv 1) (by rfl)) (pw_or1 (pt_val (pe_m1 PySem.F.slot_str_endswith PySem.F.type_str_endswith mt_endswith (pv 2) (pv 3)))))))) (fun _ _ _ _ _ => by exact (pv 3))) pa_nil)))), ?_⟩
  refine ⟨_, rfl, p, rfl, ⟨_, SqL.of hp⟩, fun D hD => ?_⟩
  refine lc_itA (walk_list (K := K) (a := p) (xs := ws.map vB)) (fun i => ((ws.take i).filter fun w => had.contains w || w.isSuffixOf e).map vB) hD (fun H' s1 => SqL.of (s1 _ _ hp)) rfl (fun i _ => ?_) ?_ ?_
  · have := List.length_filter_le (fun w => had.contains w || w.isSuffixOf e) (ws.take i)
    rw [List.length_take] at this
    rw [List.length_map]
    exact fewer (m := 1000) (by omega) (by decide)
  · rintro i v Hx H2 hi s1 ⟨rfl, hv⟩ N M hN hM
    obtain ⟨x, e1, rfl⟩ := map_at hv
    have nx : ((ws.take (i + 1)).filter fun w => had.contains w || w.isSuffixOf e) = ((ws.take i).filter fun w => had.contains w || w.isSuffixOf e) ++ if (had.contains x || x.isSuffixOf e) = true then [x] else [] := by
      rw [take_more e1, List.filter_append, List.filter_cons, List.filter_nil]
    have yes : (had.contains x || x.isSuffixOf e) = true → N (vB x) H2 := fun h => hN _ _ (Same.refl _) (by
      rw [nx, if_pos h, List.map_append]
      rfl)
    refine ⟨rfl, ?_⟩
    refine ⟨_, rfl, _, rfl, ?_⟩
    refine ⟨t, _, rfl, .inr (SqT.of (s1 _ _ ht)), rfl, flat_txts _, _, rfl, ?_⟩
    rw [if_neg Bool.false_ne_true, in_txts]
    have no : ¬ (had.contains x || x.isSuffixOf e) = true → ((ws.take (i + 1)).filter fun w => had.contains w || w.isSuffixOf e) = ((ws.take i).filter fun w => had.contains w || w.isSuffixOf e) := fun h => by
      rw [nx, if_neg h, List.append_nil]
    refine ite2 (fun h => ?_) (fun h => ?_)
    · exact ⟨_, rfl, yes (by rw [h]; rfl)⟩
    · refine ⟨_, rfl, ⟨_, rfl⟩, _, rfl, _, _, rfl, rfl, _, rfl, ?_⟩
      rw [ends_B]
      have h' : had.contains x = false := by simpa using h
      refine ite2 (fun h2 => ?_) (fun h2 => ?_)
      · exact ⟨_, rfl, yes (by rw [h2, Bool.or_true])⟩
      · refine hM _ (Same.refl _) (by rw [no]; rw [h', Bool.false_or]; exact h2)
  · intro H2 s1 hd
    rw [List.length_map, List.take_length] at hd
    refine ⟨D, _, rfl, hd, fun q H3 nq hq s3 => k q H3 hq (s1.trans s3)⟩
theorem mem_tails {ws : List Bt} {e : Bt} : e ∈ MK.tails ws ↔ e = [] ∨ ∃ w ∈ ws, e.length < w.length ∧ e <+: w := by
  rw [tails_is, List.mem_cons, List.mem_flatMap]
  refine or_congr Iff.rfl (exists_congr fun w => and_congr Iff.rfl ?_)
  unfold tl1
  rw [List.mem_map]
  constructor
  · rintro ⟨k, hk, rfl⟩
    have := List.mem_range.mp hk
    exact ⟨by rw [List.length_take]; omega, List.take_prefix _ _⟩
  · rintro ⟨h1, h2⟩
    exact ⟨e.length, List.mem_range.mpr h1, (List.prefix_iff_eq_take.mp h2).symm⟩
theorem while_do {c : TT} {tb : TS} {D : Ends} {σ : L2.St} {H : Hp} (Pv : L2.St → Hp → Prop) (μ : L2.St → Hp → Nat) (h0 : Pv σ H)
    (hs : ∀ σ H, Pv σ H → ∀ G : Bool → Hp → Prop, (∀ H1, tb { D with nx := fun σ' H' => Pv σ' H' ∧ μ σ' H' < μ σ H, ct := fun σ' H' => Pv σ' H' ∧ μ σ' H' < μ σ H, bk := D.nx } σ H1 → G true H1) → (∀ H1, D.nx σ H1 → G false H1) → c σ H G) : tWhile c tb D σ H := by
  refine ⟨fun m σ H => m = μ σ H ∧ Pv σ H, ⟨_, rfl, h0⟩, ?_⟩
  rintro m σ H ⟨rfl, p⟩
  exact hs σ H p _ (fun H1 q => ⟨_, fun σ' H' ⟨p', l⟩ => ⟨_, l, rfl, p'⟩, q⟩) (fun H1 q => q)
def sp_longest_beginning (A : Ad) (K : PySem.W.Frag) : Sp := fun vs H Q _ => ∃ (p : PySem.Addr) (ws : List Bt) (e : Bt), vs = [vB e, .ref p] ∧ H p = some (.dK (dkx (MK.tails ws).eraseDups)) ∧ e.length ≤ 1000 ∧ Q (vB (MK.lb ws e)) H
theorem ok_longest_beginning (T : Txt K mg A) (Z : Apart A) : ∃ f fd, FnOk P w K mg base CX0 1 f fd ["end", "beginnings"] (sp_longest_beginning A K) ∧ mg "longest_beginning" = some (.ref f) ∧ PySem.W.keepIn K (.ref f) = true ∧ Binds K fd ["end", "beginnings"] [] := by
  obtain ⟨f, fd, F, hm, hb⟩ := T.d_longest_beginning.ex
  refine ⟨f, fd, ?_, hm, F.kp, hb⟩
  refine F.ok sc_longest_beginning (fun vs H Q E h => by obtain ⟨p, ws, e, rfl, hp, few1, k⟩ := h; rfl) (fun cdv A' outer s H vs Q E hr h => ?_)
  obtain ⟨p, ws, e, rfl, hp, few1, k⟩ := h
  refine ⟨_, (pss_cons (ps_set (i := 2) sc_longest_beginning.nd rfl (by first | exact Or.inl rfl | exact Or.inr rfl) pe_int)
  (pss_cons (ps_while PassesOwn.never (pt_cmp (pc_dnotin (hu_of hr) (pe_slice sl_str (pv 0) (po_some (pv 2)) po_none) (pv 1))) (pss_one (ps_aug (i := 2) sc_longest_beginning.nd rfl (by first | exact Or.inl rfl | exact Or.inr rfl) pe_int ip_add)))
  (pss_one (ps_ret (pe_slice sl_str (pv 0) (po_some (pv 2)) po_none))))), ?_⟩
  refine while_do (fun σ H' => H' = H ∧ ∃ n : Nat, σ = [some (vB e), some (.ref p), some (vN n)] ∧ n ≤ e.length ∧ MK.lb ws e = MK.lb ws (e.drop n)) (fun σ _ => match σ with | [_, _, some (.int n)] => e.length - n.toNat | _ => 0) ⟨rfl, 0, rfl, Nat.zero_le _, rfl⟩ ?_
  rintro σ H1 ⟨rfl, n, rfl, hn, e1⟩ G g1 g2
  refine ⟨_, rfl, _, rfl, n, rfl, _, rfl, few (m := 1000) (by rw [sB_len]; exact few1) (by decide), ?_⟩
  rw [cutS_from e n hn]
  refine ⟨_, rfl, p, _, rfl, DGet.k (k := kX (e.drop n)) hp, _, rfl, ?_⟩
  rw [dkx_at]
  have m : decide (e.drop n ∈ (MK.tails ws).eraseDups) = (decide (e.drop n = []) || MK.P ws (e.drop n)) := by
    rw [Bool.eq_iff_iff, decide_eq_true_iff, List.mem_eraseDups, Bool.or_eq_true, decide_eq_true_iff, MK.P_iff]
    exact mem_tails
  rw [m]
  cases ed : e.drop n with
  | nil =>
    rw [ed] at e1
    refine g2 H1 ?_
    refine ⟨_, rfl, _, rfl, n, rfl, _, rfl, few (m := 1000) (by rw [sB_len]; exact few1) (by decide), ?_⟩
    rw [cutS_from e n hn, ed]
    rw [e1] at k
    exact k
  | cons c r =>
    rw [ed] at e1
    by_cases h : MK.P ws (c :: r) = true
    · rw [h, Bool.or_true]
      refine g2 H1 ?_
      refine ⟨_, rfl, _, rfl, n, rfl, _, rfl, few (m := 1000) (by rw [sB_len]; exact few1) (by decide), ?_⟩
      rw [cutS_from e n hn, ed]
      rw [e1, MK.lb_pos h] at k
      exact k
    · have h' : MK.P ws (c :: r) = false := by simpa using h
      rw [h', show decide (c :: r = []) = false from rfl]
      refine g1 H1 ?_
      have hn2 : n < e.length := by
        have := congrArg List.length ed
        rw [List.length_drop, List.length_cons] at this
        omega
      have ed2 : e.drop (n + 1) = r := by
        rw [← List.drop_drop, ed]
        rfl
      refine ⟨_, rfl, n, 1, rfl, rfl, ⟨rfl, n + 1, rfl, hn2, by rw [ed2, e1, MK.lb_neg h]⟩, ?_⟩
      show e.length - ((n : Int) + 1).toNat < e.length - ((n : Int)).toNat
      omega
end
end
end SK
set_option Elab.async false
set_option linter.all false
set_option maxRecDepth 100000
set_option maxHeartbeats 2000000
namespace SK
open PySem PySem.Spec PyProof.Rows L2
section
variable {P : Program} {w : World} {K : PySem.W.Frag} {mg : Str → Option Value} {base : Heap} {A : Ad}
section
open Vaseda (Script Deed Cmd Work Out)
open Vasedb (Spot At Found Key)
/-! ### first_lines -/
/-- the keys seen, side by side with the found -/
def seenK (hs : List Bt) (z : Vasedb.Key × Bt) : NestedKey := kP (sB (MK.lb hs z.2)) ((MK.hadOf hs z.2).map sB)
def lineK (hs : List Bt) (y : Bt) : NestedKey := kT ((MK.hadOf hs y).map sB)
structure SeenAt (P : Program) (w : World) (H : Hp) (p : PySem.Addr) (hs : List Bt) (all : List (Vasedb.Key × Bt)) : Prop where
  ex : ∃ kvs : NKs, H p = some (NkO P w p kvs) ∧ KeysAt H kvs ∧ kvs.map (·.1) = all.map (seenK hs)
structure LinesAt (P : Program) (w : World) (H : Hp) (p : PySem.Addr) (hs : List Bt) (l : List Bt) : Prop where
  ex : ∃ kvs : NKs, H p = some (NkO P w p kvs) ∧ KeysAt H kvs ∧ kvs.map (·.1) = l.map (lineK hs) ∧ (kvs.map fun z => z.2.2) = l.map vB
def LongAt (H : Hp) (hs : List Bt) (v : V) (y : Bt) : Prop := ∃ q t, v = .ref q ∧ H q = some (.tup [vB y, vB (MK.lb hs y), .ref t]) ∧ H t = some (.tup ((MK.hadOf hs y).map vB))
def LongsAt (H : Hp) (p : PySem.Addr) (hs : List Bt) (l : List Bt) : Prop := ∃ vs, H p = some (.lst vs) ∧ Two (LongAt H hs) vs l
theorem LongAt.kp {H H' : Hp} {hs v y} (s : ∀ b xs, H b = some (.tup xs) → H' b = some (.tup xs)) (h : LongAt H hs v y) : LongAt H' hs v y := let ⟨q, t, e, f, g⟩ := h; ⟨q, t, e, s _ _ f, s _ _ g⟩
def TupKp (H H' : Hp) : Prop := ∀ b xs, H b = some (.tup xs) → H' b = some (.tup xs)
theorem same_tup {H H' : Hp} (s : Same H H') : TupKp H H' := fun b xs e => s b _ e
theorem but_tup {H H' : Hp} {p : PySem.Addr} {o : HO} (b : But [p] H H') (h : H p = some o) (n : ∀ xs, o ≠ .tup xs) : TupKp H H' := fun c xs e => b c _ e (by
  intro z
  rw [List.mem_singleton.mp z, h] at e
  exact n xs (Option.some.inj e))
theorem KeysAt.kp {H H' : Hp} {kvs : NKs} (s : TupKp H H') (h : KeysAt H kvs) : KeysAt H' kvs := fun p hp => (h p hp).same s
theorem SeenAt.kp {P : Program} {w : World} {H H' : Hp} {p hs all} (s : TupKp H H') (e : ∀ o, H p = some o → H' p = some o) (h : SeenAt P w H p hs all) : SeenAt P w H' p hs all := let ⟨kvs, a, b, c⟩ := h.ex; ⟨kvs, e _ a, KeysAt.kp s b, c⟩
theorem LinesAt.kp {P : Program} {w : World} {H H' : Hp} {p hs l} (s : TupKp H H') (e : ∀ o, H p = some o → H' p = some o) (h : LinesAt P w H p hs l) : LinesAt P w H' p hs l := let ⟨kvs, a, b, c, d⟩ := h.ex; ⟨kvs, e _ a, KeysAt.kp s b, c, d⟩
theorem LongsAt.kp {H H' : Hp} {p hs l} (s : TupKp H H') (e : ∀ o, H p = some o → H' p = some o) (h : LongsAt H p hs l) : LongsAt H' p hs l := let ⟨vs, a, b⟩ := h; ⟨vs, e _ a, b.mono fun v x _ h => h.kp s⟩
/-- all that the loops hold -/
structure FL (P : Program) (w : World) (H1 : Hp) (ws : List Bt) (ps pl po : PySem.Addr) (old : List Bt) (all : List (Vasedb.Key × Bt)) (H : Hp) : Prop where
  s : Same H1 H
  se : SeenAt P w H ps ws all
  li : LinesAt P w H pl ws (MK.leastsOf ws all)
  lo : LongsAt H po ws old
  n : H1 ps = none ∧ H1 pl = none ∧ H1 po = none ∧ ps ≠ pl
theorem FL.same {P : Program} {w : World} {H1 : Hp} {ws ps pl po old all} {H H' : Hp} (F : FL P w H1 ws ps pl po old all H) (s : Same H H') : FL P w H1 ws ps pl po old all H' :=
  ⟨F.s.trans s, F.se.kp (same_tup s) (fun _ => s _ _), F.li.kp (same_tup s) (fun _ => s _ _), F.lo.kp (same_tup s) (fun _ => s _ _), F.n⟩
theorem map_sB_inj : ∀ {a b : List Bt}, a.map sB = b.map sB → a = b
  | [], [], _ => rfl
  | [], _ :: _, h => by simp at h
  | _ :: _, [], h => by simp at h
  | x :: a, y :: b, h => by
    simp only [List.map_cons, List.cons.injEq] at h
    rw [sB_inj h.1, map_sB_inj h.2]
theorem seen_iff {ws : List Bt} {n : Nat} {g : Found} (o : MK.FOk ws n g) {y : Bt} : kP (sB (MK.lb ws y)) ((MK.hadOf ws y).map sB) ∈ g.all.map (seenK ws) ↔ Vasedb.keyOf ws y ∈ g.all.map (·.1) := by
  rw [List.mem_map, List.mem_map]
  constructor
  · rintro ⟨z, hz, e⟩
    obtain ⟨h1, h2⟩ := kP_inj e
    exact ⟨z, hz, by rw [o.key z hz]; exact MK.keyOf_eq_iff.mpr ⟨sB_inj h1, map_sB_inj h2⟩⟩
  · rintro ⟨z, hz, e⟩
    rw [o.key z hz] at e
    obtain ⟨h1, h2⟩ := MK.keyOf_eq_iff.mp e
    exact ⟨z, hz, by unfold seenK; rw [h1, h2]⟩
theorem lines_iff {ws l : List Bt} {y : Bt} : kT ((MK.hadOf ws y).map sB) ∈ l.map (lineK ws) ↔ MK.hadOf ws y ∈ l.map (MK.hadOf ws) := by
  rw [List.mem_map, List.mem_map]
  constructor
  · rintro ⟨z, hz, e⟩
    exact ⟨z, hz, map_sB_inj (kT_inj e)⟩
  · rintro ⟨z, hz, e⟩
    exact ⟨z, hz, by unfold lineK; rw [e]⟩
theorem leasts_len (ws : List Bt) : ∀ (all : List (Vasedb.Key × Bt)) (l : List Bt), (all.foldl (MK.leastStep ws) l).length ≤ l.length + all.length
  | [], l => Nat.le_refl _
  | z :: all, l => by
    have ih := leasts_len ws all (MK.leastStep ws l z)
    have : (MK.leastStep ws l z).length ≤ l.length + 1 := by
      unfold MK.leastStep
      split
      · omega
      · rw [List.length_append]
        exact Nat.le_refl _
    rw [List.foldl_cons, List.length_cons]
    omega
theorem step_len {ws : List Bt} {x : Bt} {g : Found} {c : UInt8} (h : g.last.length ≤ g.all.length) : (MK.stepA ws x g c).last.length ≤ (MK.stepA ws x g c).all.length := by
  unfold MK.stepA
  split
  · exact h
  · rw [List.length_append, List.length_append]
    exact Nat.add_le_add_right h 1
theorem steps_len {ws : List Bt} {x : Bt} : ∀ (l : List UInt8) {g : Found}, g.last.length ≤ g.all.length → (l.foldl (MK.stepA ws x) g).last.length ≤ (l.foldl (MK.stepA ws x) g).all.length
  | [], _, h => h
  | c :: l, g, h => by
    rw [List.foldl_cons]
    exact steps_len l (step_len h)
theorem rows_len {ws : List Bt} {ab : Bt} : ∀ (l : List Bt) {g : Found}, g.last.length ≤ g.all.length → (l.foldl (MK.rowL ab ws) g).last.length ≤ (l.foldl (MK.rowL ab ws) g).all.length
  | [], _, h => h
  | c :: l, g, h => by
    rw [List.foldl_cons]
    exact rows_len l (steps_len ab h)
def gI (ws : List Bt) (f : Found) (i : Nat) : Found := (f.last.take i).foldl (MK.rowL Vasedb.alphabet ws) ⟨f.all, []⟩
def gJ (ws : List Bt) (f : Found) (i : Nat) (x : Bt) (j : Nat) : Found := (Vasedb.alphabet.take j).foldl (MK.stepA ws x) (gI ws f i)
theorem gI_ok {ws : List Bt} {n : Nat} {f : Found} (o : MK.FOk ws n f) (i : Nat) : MK.FOk ws (n + 1) (gI ws f i) := MK.rows_ok (ab := Vasedb.alphabet) (fun _ z => z) _ (fun x h => o.labc x (List.mem_of_mem_take h)) o.start
theorem gJ_ok {ws : List Bt} {n : Nat} {f : Found} (o : MK.FOk ws n f) (i : Nat) {x : Bt} (hx : x ∈ f.last) (j : Nat) : MK.FOk ws (n + 1) (gJ ws f i x j) := MK.row_ok (o.labc x hx).1 (o.labc x hx).2 _ (fun c h => List.mem_of_mem_take h) (gI_ok o i)
theorem gJ_len (ws : List Bt) (f : Found) (i : Nat) (x : Bt) (j : Nat) : (gJ ws f i x j).last.length ≤ (gJ ws f i x j).all.length := steps_len _ (rows_len _ (Nat.zero_le _))
theorem gJ_more {ws : List Bt} {f : Found} {i : Nat} {x : Bt} {j : Nat} {c : UInt8} (h : Vasedb.alphabet[j]? = some c) : gJ ws f i x (j + 1) = MK.stepA ws x (gJ ws f i x j) c := by
  unfold gJ
  rw [take_more h, List.foldl_append]
  rfl
theorem gJ_end {ws : List Bt} {f : Found} {i : Nat} {x : Bt} (h : f.last[i]? = some x) : gJ ws f i x 26 = gI ws f (i + 1) := by
  unfold gI gJ
  rw [take_more h, List.foldl_append, List.take_of_length_le (by rw [MK.alphabet_len]; exact Nat.le_refl _)]
  rw [List.foldl_cons, List.foldl_nil, MK.rowL]
  simp only [gI]
theorem gI_end (ws : List Bt) (n : Nat) : gI ws (MK.foundA ws n) (MK.foundA ws n).last.length = MK.foundA ws (n + 1) := by
  have h : ∀ f : Found, gI ws f f.last.length = MK.longerA ws f := fun f => by
    unfold gI
    rw [List.take_length]
    rfl
  rw [h, MK.foundA]
theorem gen_heap {G : Hp → Prop} {H : Hp} (R : Hp → Prop) (r : R H) (h : ∀ H', R H' → G H') : G H := h H r
def sp_first_lines (A : Ad) (K : PySem.W.Frag) : Sp := fun vs H Q _ => ∃ (p : PySem.Addr) (ws : List Bt), vs = [.ref p] ∧ TxtsAt H p ws ∧ (ws.map fun w => w.length).sum ≤ 16 ∧ (∀ w ∈ ws, w ≠ [] ∧ w.length ≤ 16) ∧ ws.length ≤ 4 ∧
  ∀ q H', TxtsAt H' q (Vasedb.leasts ws) → Same H H' → Q (.ref q) H'
theorem ok_first_lines (T : Txt K mg A) (Z : Apart A) : ∃ f fd, FnOk P w K mg base CX0 2 f fd ["words"] (sp_first_lines A K) ∧ mg "first_lines" = some (.ref f) ∧ PySem.W.keepIn K (.ref f) = true ∧ Binds K fd ["words"] [] := by
  obtain ⟨f, fd, F, hm, hb⟩ := T.d_first_lines.ex
  obtain ⟨f_beginnings_of, fd_beginnings_of, G_beginnings_of, m_beginnings_of, k_beginnings_of, b_beginnings_of⟩ := ok_beginnings_of (P := P) (w := w) (base := base) T Z
  obtain ⟨f_longest_beginning, fd_longest_beginning, G_longest_beginning, m_longest_beginning, k_longest_beginning, b_longest_beginning⟩ := ok_longest_beginning (P := P) (w := w) (base := base) T Z
  obtain ⟨f_words_had, fd_words_had, G_words_had, m_words_had, k_words_had, b_words_had⟩ := ok_words_had (P := P) (w := w) (base := base) T Z
  refine ⟨f, fd, ?_, hm, F.kp, hb⟩
  refine F.ok sc_first_lines (fun vs H Q E h => by obtain ⟨p, ws, rfl, hp, few1, few2, few4, k⟩ := h; rfl) (fun cdv A' outer s H vs Q E hr h => ?_)
  obtain ⟨p, ws, rfl, hp, few1, few2, few4, k⟩ := h
  refine ⟨_, (pss_cons (ps_set (i := 1) sc_first_lines.nd rfl (by first | exact Or.inl rfl | exact Or.inr rfl) (pe_call G_beginnings_of (hr.mono (by decide)) rfl m_beginnings_of k_beginnings_of b_beginnings_of .nil pass0 (pa_cons (pv 0) pa_nil)))
  (pss_cons (ps_set (i := 2) sc_first_lines.nd rfl (by first | exact Or.inl rfl | exact Or.inr rfl) (pe_nk1 hr.units (pe_tupA (pa_cons pe_str (pa_cons (pe_tupA pa_nil) pa_nil))) pe_bl))
  (pss_cons (ps_set (i := 3) sc_first_lines.nd rfl (by first | exact Or.inl rfl | exact Or.inr rfl) (pe_nk1 hr.units (pe_tupA pa_nil) pe_str))
  (pss_cons (ps_set (i := 4) sc_first_lines.nd rfl (by first | exact Or.inl rfl | exact Or.inr rfl) (pe_lstA (pa_cons (pe_tupA (pa_cons pe_str (pa_cons pe_str (pa_cons (pe_tupA pa_nil) pa_nil)))) pa_nil)))
  (pss_cons (ps_for PassesOwn.never rfl (pi_range1 (by rfl) T.z_range (pa_cons (pe_gi T.g_LONGEST_LINE) pa_nil)) (pg_name (i := 5) sc_first_lines.nd rfl (by first | exact Or.inl rfl | exact Or.inr rfl))
  (pss_cons (ps_set (i := 6) sc_first_lines.nd rfl (by first | exact Or.inl rfl | exact Or.inr rfl) (pe_lstA pa_nil))
  (pss_cons (ps_for PassesOwn.never rfl (pi_list (pv 4)) (pg_tup rfl (pgs_cons (pg_name (i := 7) sc_first_lines.nd rfl (by first | exact Or.inl rfl | exact Or.inr rfl)) (pgs_cons (pg_name (i := 8) sc_first_lines.nd rfl (by first | exact Or.inl rfl | exact Or.inr rfl)) (pgs_cons (pg_name (i := 9) sc_first_lines.nd rfl (by first | exact Or.inl rfl | exact Or.inr rfl)) pgs_nil))))
  (pss_one (ps_for PassesOwn.never rfl (pi_str (pe_gs T.g_LETTERS)) (pg_name (i := 10) sc_first_lines.nd rfl (by first | exact Or.inl rfl | exact Or.inr rfl))
  (pss_cons (ps_set (i := 11) sc_first_lines.nd rfl (by first | exact Or.inl rfl | exact Or.inr rfl) (pe_call G_words_had (hr.mono (by decide)) rfl m_words_had k_words_had b_words_had .nil pass0 (pa_cons (pv 0) (pa_cons (pv 9) (pa_cons (pe_op op_add_str (pv 8) (pv 10)) pa_nil)))))
  (pss_cons (ps_set (i := 12) sc_first_lines.nd rfl (by first | exact Or.inl rfl | exact Or.inr rfl) (pe_call G_longest_beginning (hr.mono (by decide)) rfl m_longest_beginning k_longest_beginning b_longest_beginning .nil pass0 (pa_cons (pe_op op_add_str (pv 8) (pv 10)) (pa_cons (pv 1) pa_nil))))
  (pss_one (ps_if (pt_cmpR (op_notin_nk hr.units) (pe_tupA (pa_cons (pv 12) (pa_cons (pv 11) pa_nil))) (pv 2) (by rfl)) (pss_cons (ps_asg pe_bl (pg_sub (pv 2) (pe_tupA (pa_cons (pv 12) (pa_cons (pv 11) pa_nil))) (set_nk hr.units)))
  (pss_cons (ps_expr (pe_bm PySem.F.plainAttrs_list PySem.F.slot_list_append PySem.F.type_list_append mt_appendA (pv 6) (pa_cons (pe_tupA (pa_cons (pe_op op_add_str (pv 7) (pv 10)) (pa_cons (pv 12) (pa_cons (pv 11) pa_nil)))) pa_nil)))
  (pss_one (ps_expr (pe_nkdef hr.units (pv 3) (pv 11) (pe_op op_add_str (pv 7) (pv 10)) ⟨by rfl, by rfl, by rfl, by rfl⟩))))) pss_nil)))))))
  (pss_one (ps_set (i := 4) sc_first_lines.nd rfl (by first | exact Or.inl rfl | exact Or.inr rfl) (pv 6))))))
  (pss_one (ps_ret (pe_callTy (call_listVA rfl) (by rfl) T.z_list (by decide +kernel) (pa_cons (pe_nkvw (pv 3)) pa_nil))))))))), ?_⟩
  refine ⟨_, rfl, p, ws, rfl, hp, few1, fun w h => (few2 w h).2, fun pb H1 hb s1 => ?_⟩
  intro ps nps
  refine ⟨size0, fun t1 H2 nt1 ht1 s2 => ⟨few (n := 2) (Nat.le_refl 2) (by decide), fun q1 H3 nq1 hq1 s3 => ?_⟩⟩
  have hnil : ∀ y : Bt, y = [] → MK.lb ws y = [] := fun y h => by rw [h]; rfl
  have hne : ∀ w ∈ ws, w ≠ [] := fun w h => (few2 w h).1
  have e0 : MK.hadOf ws [] = [] := MK.hadOf_nil hne
  refine ⟨s3 _ _ (s2 _ _ upd_same), q1, kP (sB []) ([].map sB), rfl, .two (by rw [sB_nil]; exact hq1) (s3 _ _ ht1), ?_⟩
  have nps3 : ∀ {o}, Same H1 (upd H3 ps o) := fun {o} => same_put (((same_new nps).trans s2).trans s3) nps
  have tk3 : TupKp H3 (upd H3 ps (NkO P w ps [(kP (sB []) ([].map sB), q1, V.bl true)])) := but_tup but1 (s3 _ _ (s2 _ _ upd_same)) (fun _ z => by cases z)
  have sa4 : SeenAt P w (upd H3 ps (NkO P w ps [(kP (sB []) ([].map sB), q1, V.bl true)])) ps ws (MK.foundA ws 0).all := by
    refine ⟨_, upd_same, fun p hp => ?_, ?_⟩
    · rw [List.mem_singleton.mp hp]
      exact KeyAt.same (.two (by rw [sB_nil]; exact hq1) (s3 _ _ ht1)) tk3
    · show [_] = [seenK ws (Vasedb.keyOf ws [], [])]
      unfold seenK
      rw [e0]
      rfl
  have s4 : Same H1 (upd H3 ps (NkO P w ps [(kP (sB []) ([].map sB), q1, V.bl true)])) := nps3
  refine gen_heap (H := upd H3 ps (NkO P w ps [(kP (sB []) ([].map sB), q1, V.bl true)])) (fun H' => SeenAt P w H' ps ws (MK.foundA ws 0).all ∧ Same H1 H') ⟨sa4, s4⟩ ?_
  clear sa4 s4 tk3 nps3
  rintro H4 ⟨sa4, s4⟩
  intro pl npl
  refine ⟨size0, fun t5 H5 nt5 ht5 s5 => ?_⟩
  have hpl5 := s5 _ _ (show upd H4 pl (NkO P w pl []) pl = _ from upd_same)
  refine ⟨hpl5, t5, kT ([].map sB), rfl, .txt ht5, ?_⟩
  have npl1 : H1 pl = none := same_none s4 npl
  have ne : ps ≠ pl := fun z => by
    obtain ⟨kvs, e, _⟩ := sa4.ex
    rw [z, npl] at e
    cases e
  have s45 := (same_new (o := NkO P w pl []) npl).trans s5
  have s6 : Same H1 (upd H5 pl (NkO P w pl [(kT ([].map sB), t5, V.str "")])) := same_put (s4.trans s45) npl1
  have tk6 : TupKp H5 (upd H5 pl (NkO P w pl [(kT ([].map sB), t5, V.str "")])) := but_tup but1 hpl5 (fun _ z => by cases z)
  have la6 : LinesAt P w (upd H5 pl (NkO P w pl [(kT ([].map sB), t5, V.str "")])) pl ws (MK.leastsOf ws (MK.foundA ws 0).all) := by
    refine ⟨_, upd_same, fun p hp => ?_, ?_, ?_⟩
    · rw [List.mem_singleton.mp hp]
      exact KeyAt.same (.txt ht5) tk6
    · show [_] = [lineK ws []]
      unfold lineK
      rw [e0]
    · show [V.str ""] = [vB []]
      rw [← sB_nil]
  have sa6 : SeenAt P w (upd H5 pl (NkO P w pl [(kT ([].map sB), t5, V.str "")])) ps ws (MK.foundA ws 0).all := (sa4.kp (same_tup s45) (fun _ => s45 _ _)).kp tk6 (fun _ e => by rw [upd_ne ne]; exact e)
  refine gen_heap (H := upd H5 pl (NkO P w pl [(kT ([].map sB), t5, V.str "")])) (fun H' => SeenAt P w H' ps ws (MK.foundA ws 0).all ∧ LinesAt P w H' pl ws (MK.leastsOf ws (MK.foundA ws 0).all) ∧ Same H1 H') ⟨sa6, la6, s6⟩ ?_
  clear sa6 la6 s6 tk6
  rintro H6 ⟨sa6, la6, s6⟩
  refine ⟨size0, fun t7 H7 nt7 ht7 s7 => ⟨few (n := 3) (Nat.le_refl 3) (by decide), fun q8 H8 nq8 hq8 s8 => ⟨few (n := 1) (Nat.le_refl 1) (by decide), fun po H9 npo hpo s9 => ?_⟩⟩⟩
  have s69 := (s7.trans s8).trans s9
  have F0 : FL P w H1 ws ps pl po (MK.foundA ws 0).last (MK.foundA ws 0).all H9 := by
    refine ⟨s6.trans s69, sa6.kp (same_tup s69) (fun _ => s69 _ _), la6.kp (same_tup s69) (fun _ => s69 _ _), ⟨_, hpo, Two.one ⟨q8, t7, rfl, ?_, ?_⟩⟩, nps, npl1, same_none s6 (same_none (s7.trans s8) npo), ne⟩
    · rw [hnil [] rfl, vB, sB_nil]
      exact s9 _ _ hq8
    · rw [e0]
      exact s9 _ _ (s8 _ _ ht7)
  refine ⟨16, rfl, by decide, by decide, ?_⟩
  refine for_it (walk_range (lo := 0) (n := 16)) (fun n σ H' => ∃ po o5 o6 o7 o8 o9 o10 o11 o12, σ = [some (.ref p), some (.ref pb), some (.ref ps), some (.ref pl), some (.ref po), o5, o6, o7, o8, o9, o10, o11, o12] ∧ FL P w H1 ws ps pl po (MK.foundA ws n).last (MK.foundA ws n).all H')
    ⟨po, _, _, _, _, _, _, _, _, rfl, F0⟩ (fun _ _ _ _ _ => trivial) ?_ ?_
  · rintro n v σ Hx H2 hn ⟨po, o5, o6, o7, o8, o9, o10, o11, o12, rfl, F⟩ ⟨rfl, rfl⟩
    have o := MK.foundA_ok ws n
    generalize ef : MK.foundA ws n = f at F o
    refine ⟨size0, fun pn H3 npn hpn s3 => ?_⟩
    have sH2 := F.s
    have nepp : po ≠ pn := by
      obtain ⟨_, e, _⟩ := F.lo
      exact ne_of_none e npn
    have F := F.same s3
    have npn1 : H1 pn = none := same_none sH2 npn
    obtain ⟨vs, hvs, hT⟩ := F.lo
    have hl := hT.1
    have eg : gI ws f 0 = ⟨f.all, []⟩ := rfl
    refine ⟨_, rfl, po, rfl, ⟨vs, SqL.of hvs⟩, ?_⟩
    refine for_it (walk_list (K := K) (a := po) (xs := vs)) (fun i σ H' => ∃ o7 o8 o9 o10 o11 o12, σ = [some (.ref p), some (.ref pb), some (.ref ps), some (.ref pl), some (.ref po), some (.int (0 + (n : Int))), some (.ref pn), o7, o8, o9, o10, o11, o12] ∧ FL P w H1 ws ps pl po f.last (gI ws f i).all H' ∧ LongsAt H' pn ws (gI ws f i).last ∧ H' po = some (.lst vs))
      ⟨_, _, _, _, _, _, rfl, by rw [eg]; exact F, by rw [eg]; exact ⟨_, hpn, Two.nil⟩, hvs⟩ (fun i σ H' _ ⟨_, _, _, _, _, _, _, _, _, q⟩ => SqL.of q) ?_ ?_
    · rintro i v σ Hx H4 hi ⟨o7, o8, o9, o10, o11, o12, rfl, F4, L4, h4⟩ ⟨rfl, hv⟩
      obtain ⟨vs', e', hT'⟩ := F4.lo
      rw [h4] at e'
      cases e'
      obtain ⟨x, e1, q, t, rfl, hq, ht⟩ := hT'.at hv
      have hx := List.mem_of_getElem? e1
      have hxl : x.length ≤ 16 := by
        have := (o.labc x hx).2
        have hn : n < 16 := hn
        omega
      have hlb : (MK.lb ws x).length ≤ 16 := Nat.le_trans (MK.lb_suffix ws x).length_le hxl
      refine ⟨q, _, rfl, SqT.of hq, rfl, _, _, rfl, _, _, rfl, _, _, rfl, rfl, ?_⟩
      refine ⟨sB Vasedb.alphabet, congrArg V.str abc_is, ?_⟩
      have eg : gJ ws f i x 0 = gI ws f i := rfl
      refine for_it (walk_str (z := sB Vasedb.alphabet)) (fun j σ H' => ∃ o10 o11 o12, σ = [some (.ref p), some (.ref pb), some (.ref ps), some (.ref pl), some (.ref po), some (.int (0 + (n : Int))), some (.ref pn), some (vB x), some (vB (MK.lb ws x)), some (.ref t), o10, o11, o12] ∧ FL P w H1 ws ps pl po f.last (gJ ws f i x j).all H' ∧ LongsAt H' pn ws (gJ ws f i x j).last ∧ H' po = some (.lst vs) ∧ H' t = some (.tup ((MK.hadOf ws x).map vB)))
        ⟨_, _, _, rfl, by rw [eg]; exact F4, by rw [eg]; exact L4, h4, ht⟩ (fun _ _ _ _ _ => trivial) ?_ ?_
      · rintro j v σ Hx H5 hj ⟨o10, o11, o12, rfl, F5, L5, h5, ht5⟩ ⟨rfl, c0, hc0, rfl⟩
        obtain ⟨c, e2, e3⟩ := sB_at hc0
        rw [e3]
        have og := gJ_ok o i hx j
        have lg := gJ_len ws f i x j
        rw [gJ_more e2]
        generalize gJ ws f i x j = g at F5 L5 og lg ⊢
        refine ⟨_, rfl, _, rfl, _, rfl, _, rfl, _, _, rfl, rfl, few (m := 40) (by rw [sB_len, sB_len]; show _ + 1 ≤ 40; omega) (by decide), ?_⟩
        refine ⟨p, t, ws, MK.hadOf ws x, MK.lb ws x ++ [c], by rw [sB_app]; rfl, F5.s _ _ (s1 _ _ hp), ht5, by omega, fun qm H6 hm s6 => ?_⟩
        rw [← MK.hadOf_snoc hne c x] at hm
        refine ⟨_, rfl, _, rfl, _, _, rfl, rfl, few (m := 40) (by rw [sB_len, sB_len]; show _ + 1 ≤ 40; omega) (by decide), ?_⟩
        refine ⟨_, rfl, ?_⟩
        refine ⟨pb, ws, MK.lb ws x ++ [c], by rw [sB_app]; rfl, s6 _ _ (F5.s _ _ hb), by rw [List.length_append]; show _ + 1 ≤ 1000; omega, ?_⟩
        rw [← MK.lb_snoc]
        refine ⟨_, rfl, _, rfl, few (n := 2) (Nat.le_refl 2) (by decide), fun qk H7 nk hk s7 => ?_⟩
        have s67 := s6.trans s7
        have F7 := F5.same s67
        have L7 := L5.kp (same_tup s67) (fun _ => s67 _ _)
        have hm7 := s7 _ _ hm
        have h7 := s67 _ _ h5
        have ht7 := s67 _ _ ht5
        obtain ⟨kvs, k1, k2, k3⟩ := F7.se.ex
        have kl := congrArg List.length k3
        rw [List.length_map, List.length_map] at kl
        have gf := og.few few4 few1
        refine ⟨_, rfl, ?_⟩
        refine ⟨qk, ps, kP (sB (MK.lb ws (x ++ [c]))) ((MK.hadOf ws (x ++ [c])).map sB), kvs, rfl, rfl, .two hk (by rw [hm7, map_vB]), k1, k2, _, rfl, ?_⟩
        rw [k3]
        have iff := seen_iff og (y := x ++ [c])
        refine ite2 (fun h => ?_) (fun h => ?_)
        · have hnot : Vasedb.keyOf ws (x ++ [c]) ∉ g.all.map (·.1) := fun z => by
            rw [decide_eq_true (iff.mpr z)] at h
            cases h
          rw [MK.stepA_new hnot]
          have hnk : kP (sB (MK.lb ws (x ++ [c]))) ((MK.hadOf ws (x ++ [c])).map sB) ∉ kvs.map (·.1) := fun z => hnot (iff.mp (k3 ▸ z))
          refine ⟨_, rfl, _, rfl, _, rfl, few (n := 2) (Nat.le_refl 2) (by decide), fun qs H8 ns hs8 s8 => ?_⟩
          have k18 := s8 _ _ k1
          have hm8 := s8 _ _ hm7
          have F8 := F7.same s8
          have L8 := L7.kp (same_tup s8) (fun _ => s8 _ _)
          have h8 := s8 _ _ h7
          have ht8 := s8 _ _ ht7
          refine ⟨ps, qs, kP (sB (MK.lb ws (x ++ [c]))) ((MK.hadOf ws (x ++ [c])).map sB), kvs, rfl, rfl, .two hs8 (by rw [hm8, map_vB]), k18, KeysAt.kp (same_tup s8) k2, hnk, fewer (m := 300) (by omega) (by decide), ?_⟩
          refine gen_heap (H := upd H8 ps (NkO P w ps (kvs ++ [(kP (sB (MK.lb ws (x ++ [c]))) ((MK.hadOf ws (x ++ [c])).map sB), qs, V.bl true)]))) (fun H' => SeenAt P w H' ps ws (g.all ++ [(Vasedb.keyOf ws (x ++ [c]), x ++ [c])]) ∧ LinesAt P w H' pl ws (MK.leastsOf ws g.all) ∧ LongsAt H' pn ws g.last ∧ H' po = some (.lst vs) ∧ LongsAt H' po ws f.last ∧ H' t = some (.tup ((MK.hadOf ws x).map vB)) ∧ H' qm = some (.tup ((MK.hadOf ws (x ++ [c])).map vB)) ∧ Same H1 H') ?_ ?_
          · have tk : TupKp H8 (upd H8 ps (NkO P w ps (kvs ++ [(kP (sB (MK.lb ws (x ++ [c]))) ((MK.hadOf ws (x ++ [c])).map sB), qs, V.bl true)]))) := but_tup but1 k18 (fun _ z => by cases z)
            obtain ⟨vn, ln1, ln2⟩ := id L8
            have n1 : pn ≠ ps := fun z => by
              rw [z, k18] at ln1
              cases ln1
            have n2 : po ≠ ps := fun z => by
              rw [z, k18] at h8
              cases h8
            refine ⟨⟨_, upd_same, fun z hz => ?_, ?_⟩, F8.li.kp tk (fun _ e => by rw [upd_ne (Ne.symm ne)]; exact e), L8.kp tk (fun _ e => by rw [upd_ne n1]; exact e), by rw [upd_ne n2]; exact h8, F8.lo.kp tk (fun _ e => by rw [upd_ne n2]; exact e), tk _ _ ht8, tk _ _ hm8, same_put F8.s nps⟩
            · rcases List.mem_append.mp hz with hz | hz
              · exact KeyAt.same (KeysAt.kp (same_tup s8) k2 z hz) tk
              · rw [List.mem_singleton.mp hz]
                exact KeyAt.same (.two hs8 (by rw [hm8, map_vB])) tk
            · rw [List.map_append, List.map_append, k3]
              rfl
          rintro H9 ⟨S9, I9, L9, h9, O9, ht9, hm9, s9⟩
          obtain ⟨vn, ln1, ln2⟩ := L9
          refine ⟨_, rfl, .inl ⟨rfl, _, SqL.of ln1⟩, ?_⟩
          refine ⟨_, rfl, _, rfl, _, _, rfl, rfl, few (m := 40) (by rw [sB_len, sB_len]; show _ + 1 ≤ 40; omega) (by decide), ?_⟩
          rw [sB_app]
          refine ⟨_, rfl, _, rfl, few (n := 3) (Nat.le_refl 3) (by decide), fun qt H10 nt10 ht10 s10 => ?_⟩
          have f9 : vn.length < 300 := by
            have := ln2.1
            omega
          refine ⟨pn, _, _, rfl, rfl, s10 _ _ ln1, fewer (m := 300) (by omega) (by decide), fun H11 h11 b11 => ?_⟩
          have k10 := s10
          have tk : TupKp H10 H11 := but_tup b11 (s10 _ _ ln1) (fun _ z => by cases z)
          have tk9 : TupKp H9 H11 := fun b xs e => tk b xs (s10 _ _ e)
          have L11 : LongsAt H11 pn ws (g.last ++ [x ++ [c]]) := ⟨_, h11, (ln2.mono fun v y _ h => h.kp tk9).snoc ⟨qt, qm, rfl, tk _ _ ht10, tk9 _ _ hm9⟩⟩
          have kp11 : ∀ {b o}, b ≠ pn → H9 b = some o → H11 b = some o := fun n e => b11 _ _ (s10 _ _ e) (fun z => n (List.mem_singleton.mp z))
          have n2 : ps ≠ pn := fun z => by
            obtain ⟨_, e, _⟩ := S9.ex
            rw [z, ln1] at e
            cases e
          have n3 : pl ≠ pn := fun z => by
            obtain ⟨_, e, _⟩ := I9.ex
            rw [z, ln1] at e
            cases e
          have S11 := S9.kp tk9 (fun _ => kp11 n2)
          have I11 := I9.kp tk9 (fun _ => kp11 n3)
          have O11 := O9.kp tk9 (fun _ => kp11 nepp)
          have s11 : Same H1 H11 := same_at (s9.trans s10) npn1 b11
          have h11' := kp11 nepp h9
          have ht11 := tk9 _ _ ht9
          have hm11 := tk9 _ _ hm9
          obtain ⟨kvl, j1, j2, j3, j4⟩ := I11.ex
          have jl := congrArg List.length j3
          rw [List.length_map, List.length_map] at jl
          have jf := leasts_len ws g.all []
          have jf' : (MK.leastsOf ws g.all).length ≤ g.all.length := by
            show (g.all.foldl (MK.leastStep ws) []).length ≤ _
            simpa using jf
          have lk := MK.leastsOf_snoc ws g.all (x ++ [c])
          have liff := lines_iff (ws := ws) (l := MK.leastsOf ws g.all) (y := x ++ [c])
          refine ⟨_, rfl, pl, _, rfl, j1, ?_⟩
          refine ⟨_, rfl, _, rfl, _, rfl, _, _, rfl, rfl, few (m := 40) (by rw [sB_len, sB_len]; show _ + 1 ≤ 40; omega) (by decide), ?_⟩
          rw [sB_app]
          refine ⟨qm, kT ((MK.hadOf ws (x ++ [c])).map sB), kvl, rfl, .txt (by rw [hm11, map_vB]), j1, j2, fewer (m := 300) (by omega) (by decide), fun z hz ez => ?_, fun hno => ?_⟩
          · have hin : MK.hadOf ws (x ++ [c]) ∈ (MK.leastsOf ws g.all).map (MK.hadOf ws) := by
              rw [← liff, ← j3, ← ez]
              exact List.mem_map.mpr ⟨z, hz, rfl⟩
            rw [if_pos hin] at lk
            exact ⟨_, _, _, rfl, ⟨s11, S11, by rw [lk]; exact I11, O11, nps, npl1, F.n.2.2.1, ne⟩, L11, h11', ht11⟩
          · have hnot : MK.hadOf ws (x ++ [c]) ∉ (MK.leastsOf ws g.all).map (MK.hadOf ws) := by
              rw [← liff, ← j3]
              exact hno
            rw [if_neg hnot] at lk
            have tk12 : TupKp H11 (upd H11 pl (NkO P w pl (kvl ++ [(kT ((MK.hadOf ws (x ++ [c])).map sB), qm, vB (x ++ [c])) ]))) := but_tup but1 j1 (fun _ z => by cases z)
            have nol : po ≠ pl := fun z => by
              rw [z, j1] at h11'
              cases h11'
            refine ⟨_, _, _, rfl, ⟨same_put s11 npl1, S11.kp tk12 (fun _ e => by rw [upd_ne ne]; exact e), ?_, O11.kp tk12 (fun _ e => by rw [upd_ne nol]; exact e), nps, npl1, F.n.2.2.1, ne⟩, L11.kp tk12 (fun _ e => by rw [upd_ne (Ne.symm n3)]; exact e), by rw [upd_ne nol]; exact h11', tk12 _ _ ht11⟩
            rw [lk]
            refine ⟨_, upd_same, fun z hz => ?_, ?_, ?_⟩
            · rcases List.mem_append.mp hz with hz | hz
              · exact (j2 z hz).same tk12
              · rw [List.mem_singleton.mp hz]
                exact KeyAt.same (.txt (by rw [hm11, map_vB])) tk12
            · rw [List.map_append, List.map_append, j3]
              rfl
            · rw [List.map_append, List.map_append, j4]
              rfl
        · have hin : Vasedb.keyOf ws (x ++ [c]) ∈ g.all.map (·.1) := Classical.byContradiction fun z => by
            rw [decide_eq_false (fun q => z (iff.mp q))] at h
            exact h rfl
          rw [MK.stepA_old hin]
          exact ⟨_, _, _, rfl, F7, L7, h7, ht7⟩
      · rintro σ H5 ⟨o10, o11, o12, rfl, F5, L5, h5, ht5⟩
        rw [sB_size, MK.alphabet_len, gJ_end e1] at F5 L5
        exact ⟨_, _, _, _, _, _, rfl, F5, L5, h5⟩
    · rintro σ H4 ⟨o7, o8, o9, o10, o11, o12, rfl, F4, L4, h4⟩
      rw [hl] at F4 L4
      rw [← ef, gI_end] at F4 L4
      exact ⟨_, rfl, pn, _, _, _, _, _, _, _, _, rfl, F4.s, F4.se, F4.li, L4, nps, npl1, npn1, ne⟩
  · rintro σ H2 ⟨po, o5, o6, o7, o8, o9, o10, o11, o12, rfl, F⟩
    obtain ⟨kvs, h1, h2, h3, h4⟩ := F.li.ex
    refine ⟨_, rfl, pl, kvs, rfl, h1, fun v nv => ?_⟩
    have sv := same_new (o := vwO v pl) nv
    refine ⟨v, pl, kvs, rfl, upd_same, sv _ _ h1, fun q H3 nq hq sq => ?_⟩
    refine k q H3 ?_ (s1.trans ((F.s.trans sv).trans sq))
    rw [h4, MK.foundA_is hne few1] at hq
    exact hq
end
end
end SK
set_option Elab.async false
set_option linter.all false
set_option maxRecDepth 100000
set_option maxHeartbeats 2000000
namespace SK
open PySem PySem.Spec PyProof.Rows L2
section
variable {P : Program} {w : World} {K : PySem.W.Frag} {mg : Str → Option Value} {base : Heap} {A : Ad}
section
open Vaseda (Script Deed Cmd Work Out)
open Vasedb (Spot At)
theorem filled_is (hs : List Bt) (x : Bt) : PySem.SKL.filled (sB x) 9 (Vasedb.freeLetter hs).toNat = sB (Vasedb.padded hs x) := by
  unfold PySem.SKL.filled Vasedb.padded
  rw [sB_len]
  by_cases h : (9 : Int) ≤ x.length
  · rw [if_pos h, show VasedBase.NAME + 1 - x.length = 0 from by show 8 + 1 - x.length = 0; omega, List.replicate_zero, List.append_nil]
  · rw [if_neg h]
    unfold Builtin.Str.padded
    rw [show Int.toNat 9 - x.length = VasedBase.NAME + 1 - x.length from rfl]
    show (⟨_⟩ : Str) = ⟨_⟩
    congr 1
    apply Array.ext'
    simp [sB_list]
def sp_kinds_of (A : Ad) (K : PySem.W.Frag) : Sp := fun vs H Q _ => ∃ (c : PySem.Addr) (s : Script), vs = [.ref c] ∧ ScrAt A H c s ∧ ScrFew s ∧ MK.ScriptOk s ∧ Vasedb.plain s = true ∧ ∀ p H', TxtsAt H' p (Vasedb.kinds s) → Same H H' → Q (.ref p) H'
theorem ok_kinds_of (T : Txt K mg A) (Z : Apart A) : ∃ f fd, FnOk P w K mg base CX0 3 f fd ["commands"] (sp_kinds_of A K) ∧ mg "kinds_of" = some (.ref f) ∧ PySem.W.keepIn K (.ref f) = true ∧ Binds K fd ["commands"] [] := by
  obtain ⟨f, fd, F, hm, hb⟩ := T.d_kinds_of.ex
  obtain ⟨f_first_lines, fd_first_lines, G_first_lines, m_first_lines, k_first_lines, b_first_lines⟩ := ok_first_lines (P := P) (w := w) (base := base) T Z
  obtain ⟨f_free_letter, fd_free_letter, G_free_letter, m_free_letter, k_free_letter, b_free_letter⟩ := ok_free_letter (P := P) (w := w) (base := base) T Z
  obtain ⟨f_looked_for, fd_looked_for, G_looked_for, m_looked_for, k_looked_for, b_looked_for⟩ := ok_looked_for (P := P) (w := w) (base := base) T Z
  obtain ⟨f_own_words, fd_own_words, G_own_words, m_own_words, k_own_words, b_own_words⟩ := ok_own_words (P := P) (w := w) (base := base) T Z
  refine ⟨f, fd, ?_, hm, F.kp, hb⟩
  refine F.ok sc_kinds_of (fun vs H Q E h => by obtain ⟨c, s, rfl, hc, few1, so, pl, k⟩ := h; rfl) (fun cdv A' outer s H vs Q E hr h => ?_)
  obtain ⟨c, s, rfl, hc, few1, so, pl, k⟩ := h
  refine ⟨_, (pss_cons (ps_set (i := 1) sc_kinds_of.nd rfl (by first | exact Or.inl rfl | exact Or.inr rfl) (pe_call G_looked_for (hr.mono (by decide)) rfl m_looked_for k_looked_for b_looked_for .nil pass0 (pa_cons (pv 0) pa_nil)))
  (pss_cons (ps_set (i := 2) sc_kinds_of.nd rfl (by first | exact Or.inl rfl | exact Or.inr rfl) (pe_call G_free_letter (hr.mono (by decide)) rfl m_free_letter k_free_letter b_free_letter .nil pass0 (pa_cons (pv 1) pa_nil)))
  (pss_cons (ps_setLc (i := 3) (own := [("line", 4)]) (g := gName 4) rfl sc_kinds_of.nd rfl rfl (sw_true rfl rfl rfl (by decide +kernel)) (pi_list (pe_call G_first_lines (hr.mono (by decide)) rfl m_first_lines k_first_lines b_first_lines .nil pass0 (pa_cons (pv 1) pa_nil))) (blkOk_by (N := N_kinds_of) (sc := defScope s_kinds_of) (by decide +kernel))
   (fun _ _ _ _ _ => pg_name (i := 4) sc_kinds_of.nd rfl (Or.inl rfl)) (fun _ _ _ _ _ => by exact pts_nil) (fun _ _ _ _ _ => by exact (pe_bmK (K := K) (pe_bm PySem.F.plainAttrs_str PySem.F.slot_str_ljust PySem.F.type_str_ljust mt_ljust2 (pv 4) (pa_cons (pe_gi T.g_LEAST_FILLED) (pa_cons (pv 2) pa_nil))))))
  (pss_one (ps_ret (pe_op op_catA (pe_op op_catA (pe_call G_own_words (hr.mono (by decide)) rfl m_own_words k_own_words b_own_words .nil pass0 (pa_cons (pv 0) pa_nil)) (pe_lstA (pa_cons pe_str pa_nil))) (pv 3))))))), ?_⟩
  obtain ⟨w4, w16⟩ := MK.plain_few pl
  have W := MK.words_ok so pl
  refine ⟨_, rfl, c, s, rfl, hc, few1.1, fun p1 H1 hp1 s1 => ?_⟩
  refine ⟨_, rfl, p1, _, rfl, hp1, w16, by omega, fun H2 s2 => ?_⟩
  have hws : ∀ w ∈ Vasedb.hasWords s, w ≠ [] ∧ w.length ≤ 16 := fun w hw => by
    obtain ⟨c, hc, rfl⟩ := has_mem hw
    exact ⟨W.ne _ hw, Nat.le_trans (few1.2 c hc).a.w (by decide)⟩
  refine ⟨_, rfl, p1, _, rfl, s2 _ _ hp1, w16, hws, w4, fun q H3 hq s3 => ?_⟩
  have s13 := (s1.trans s2).trans s3
  have hlen : (Vasedb.leasts (Vasedb.hasWords s)).length ≤ 272 := by
    have o := MK.foundA_ok (Vasedb.hasWords s) 16
    have h1 := leasts_len (Vasedb.hasWords s) (Vasedb.foundBy (Vasedb.hasWords s) 16).all []
    rw [← MK.foundA_is W.ne w16] at h1
    have h2 := o.few w4 w16
    rw [MK.leasts_is, ← MK.foundA_is W.ne w16]
    unfold MK.leastsOf
    rw [List.length_nil, Nat.zero_add] at h1
    omega
  refine ⟨q, rfl, ⟨_, SqL.of hq⟩, fun D hD => ?_⟩
  refine lc_itA (walk_list (K := K) (a := q) (xs := (Vasedb.leasts (Vasedb.hasWords s)).map vB)) (fun i => ((Vasedb.leasts (Vasedb.hasWords s)).take i).map fun x => vB (Vasedb.padded (Vasedb.hasWords s) x)) hD (fun H' s4 => SqL.of (s4 _ _ hq)) rfl (fun i _ => fewer (m := 272) (by rw [List.length_map, List.length_take]; omega) (by decide)) ?_ ?_
  · rintro i v Hx H4 hi s4 ⟨rfl, hv⟩ N M hN hM
    obtain ⟨x, e1, rfl⟩ := map_at hv
    refine ⟨rfl, ?_⟩
    refine ⟨_, rfl, rfl, ?_⟩
    refine ⟨_, rfl, _, 9, (Vasedb.freeLetter (Vasedb.hasWords s)).toNat, rfl, rfl, by decide, ?_⟩
    rw [filled_is]
    refine hN _ _ (Same.refl _) ?_
    rw [take_more e1, List.map_append]
    rfl
  · intro H4 s4 hd
    rw [List.length_map, List.take_length] at hd
    have s14 := s13.trans s4
    refine ⟨_, rfl, c, s, rfl, hc.kp Z (same_kp s14), few1.1, fun po H5 ho s5 => ?_⟩
    refine ⟨few (n := 1) (Nat.le_refl 1) (by decide), fun pe H6 ne he s6 => ?_⟩
    have ol : (Vasedb.ownWords s).length ≤ 32 := Nat.le_trans (erase_len _) (Nat.le_trans (own_len s) (by have := few1.1; omega))
    refine ⟨po, pe, _, _, rfl, rfl, s6 _ _ ho, he, few (m := 40) (by rw [List.length_map]; show _ + 1 ≤ 40; omega) (by decide), fun pb H7 nb hb s7 => ?_⟩
    refine ⟨_, rfl, pb, D, _, _, rfl, rfl, hb, s7 _ _ (s6 _ _ (s5 _ _ hd)), few (m := 400) (by simp; omega) (by decide), fun pr H8 nr hr8 s8 => ?_⟩
    refine k pr H8 ?_ ((((s14.trans s5).trans s6).trans s7).trans s8)
    have nil : (Vasedb.ownWords s).contains [] = false := by
      rw [List.contains_eq_any_beq, List.any_eq_false]
      intro w hw z
      obtain ⟨c, hc, q⟩ := MK.mem_ownWords.mp hw
      have e := eq_of_beq z
      rcases q with q | q
      · exact ((so c hc).just w q).1 e.symm
      · exact ((so c hc).put w q).1 e.symm
    have e : Vasedb.kinds s = Vasedb.ownWords s ++ [[]] ++ (Vasedb.leasts (Vasedb.hasWords s)).map (Vasedb.padded (Vasedb.hasWords s)) := by
      unfold Vasedb.kinds Vasedb.kindsFor
      rw [nil]
      rfl
    unfold TxtsAt
    rw [hr8, e, List.map_append, List.map_append, List.map_map, List.map_cons, List.map_nil, vB, sB_nil]
    rfl
end
end
end SK
set_option Elab.async false
set_option linter.all false
set_option maxRecDepth 100000
set_option maxHeartbeats 2000000
namespace SK
open PySem PySem.Spec PyProof.Rows L2
section
variable {P : Program} {w : World} {K : PySem.W.Frag} {mg : Str → Option Value} {base : Heap} {A : Ad}
section
open VasedBase (PTok Tok Toks)
/-! ### Fault -/
def fs_Fault (code place : Nat) : List (Str × V) := [("place", vN place), ("code", vN code)]
def sp_Fault_init (A : Ad) (K : PySem.W.Frag) : Sp := fun vs H Q _ => ∃ (x : PySem.Addr) (code place : Nat), vs = [.ref x, vN code, vN place] ∧ code ≤ 9 ∧ place ≤ 5000 ∧ H x = some (exo x A.Fault none) ∧
  ∀ dx H', H dx = none → dx ≠ x → H' x = some (exo x A.Fault (some dx)) → H' dx = some (exd dx (fs_Fault code place)) → But [x, dx] H H' → Q .non H'
theorem num_short (n : Nat) (h : n ≤ 5000) : (VasedBase.showNat n).length ≤ 10 := by
  unfold VasedBase.showNat
  rw [List.length_map]
  exact (Nat.length_toDigits_le_iff (by decide) (by decide)).mpr (Nat.lt_of_le_of_lt h (by decide))
theorem ok_Fault_init (T : Txt K mg A) (Z : Apart A) : ∃ f fd, FnOk P w K mg base CX0 1 f fd ["self", "code", "place"] (sp_Fault_init A K) ∧ PySem.W.findIn K (.ref A.Fault) "__init__" = some (some (.ref f)) ∧ PySem.W.typeIn K (.ref f) = some (.type "function") ∧ Binds K fd ["self", "code", "place"] [] := by
  obtain ⟨f, fd, F, iF, tF, hb⟩ := T.flt.ini
  refine ⟨f, fd, ?_, iF, tF, hb⟩
  refine F.ok sc_Fault_init (fun vs H Q E h => by obtain ⟨x, code, place, rfl, h⟩ := h; rfl) (fun cdv A' outer s H vs Q E hr h => ?_)
  obtain ⟨x, code, place, rfl, few1, few2, hx, k⟩ := h
  refine ⟨_, (pss_cons (ps_expr (NwS.pe_tyat call_finit tyAt_exc (by rfl) T.z_Exception (by decide +kernel) (pa_cons (pv 0) (pa_cons (pe_joined (PJ.cons pe_str (PJ.cons (pe_fmt (pv 1)) (PJ.cons pe_str (PJ.cons (pe_fmt (pv 2)) PJ.nil))))) pa_nil)))) (pss_cons (ps_fst (pv 0) (pv 1)) (pss_one (ps_fst (pv 0) (pv 2))))), ?_⟩
  refine ⟨_, rfl, ?_⟩
  have el (a b : Str) : (a ++ b).length = a.length + b.length := by
    show (a.cps ++ b.cps).size = _
    rw [Array.size_append]
    rfl
  have l1 : (Str.ofString (toString ((code : Nat) : Int))).length ≤ 10 := by
    rw [str_num, sB_len]
    exact num_short code (by omega)
  have l2 : (Str.ofString (toString ((place : Nat) : Int))).length ≤ 10 := by
    rw [str_num, sB_len]
    exact num_short place (by omega)
  have z1 : (Str.ofString "fault ").length = 6 := by decide +kernel
  have z2 : (Str.ofString " at ").length = 4 := by decide +kernel
  have z0 : Str.empty.length = 0 := rfl
  refine ⟨_, rfl, few (m := 100) (by decide) (by decide), ?_⟩
  refine ⟨_, rfl, .inr ⟨_, rfl, log_small (by omega), _, rfl, few (m := 100) ?_ (by decide), ?_⟩⟩
  · rw [el, el]
    omega
  refine ⟨_, rfl, few (m := 100) ?_ (by decide), ?_⟩
  · rw [el, el, el]
    omega
  refine ⟨_, rfl, .inr ⟨_, rfl, log_small (by omega), _, rfl, few (m := 100) ?_ (by decide), ?_⟩⟩
  · rw [el, el, el, el]
    omega
  refine ⟨x, A.Fault, _, rfl, Nat.le_trans (Nat.le_refl 1) (by decide), T.flt.fl, hx, ?_⟩
  refine ⟨_, rfl, _, rfl, x, A.Fault, rfl, T.flt.fl, T.flt.no1, .inl ⟨hx, fun dx hd hne => ?_⟩⟩
  refine ⟨_, rfl, _, rfl, x, A.Fault, rfl, T.flt.fl, T.flt.no2, .inr ⟨dx, _, upd_same, by rw [upd_ne hne]; exact upd_same, Nat.le_trans (Nat.le_refl 1) (by decide), ?_⟩⟩
  refine k dx _ hd hne ?_ upd_same ?_
  · rw [upd_ne (Ne.symm hne)]
    exact upd_same
  · intro b o e nb
    have n1 : b ≠ x := fun z => nb (by rw [z]; simp)
    have n2 : b ≠ dx := fun z => nb (by rw [z]; simp)
    rw [upd_ne n2, upd_ne n1, upd_ne n2]
    exact e
/-- a fault raised -/
theorem flt_mk {H1 : Hp} {code place : Nat} {E : XK} (f1 : code ≤ 9) (f2 : place ≤ 5000) (q : ∀ d H', H' d = some (.xd (fs_Fault code place)) → Same H1 H' → E (.ref A.Fault) (some d) H') :
    ([vN code, vN place] ++ ([] : List V)).length ≤ 1000 ∧ ∀ x, H1 x = none → sp_Fault_init A K (.ref x :: ([vN code, vN place] ++ [])) (upd H1 x (exo x A.Fault none))
      (fun v H2 => v = .non ∧ ∃ (d : PySem.Addr) (fs : List (Str × V)), H2 x = some (exo x A.Fault (some d)) ∧ H2 d = some (exd d fs) ∧ H1 d = none ∧ E (.ref A.Fault) (some d) (upd (del H2 x) d (.xd fs))) (fun _ _ _ => False) := by
  refine ⟨Nat.le_trans (Nat.le_refl 2) (by decide), fun x nx => ⟨x, code, place, rfl, f1, f2, upd_same, fun dx H' nd ne h1 h2 b => ⟨rfl, dx, _, h1, h2, ?_, q _ _ upd_same ?_⟩⟩⟩
  · rw [upd_ne ne] at nd
    exact nd
  · intro c o e
    rw [upd_ne ne] at nd
    have n1 : c ≠ x := ne_of_none e nx
    have n2 : c ≠ dx := ne_of_none e nd
    rw [upd_ne n2, del_ne n1]
    refine b c o ?_ (by simp [n1, n2])
    rw [upd_ne n1]
    exact e
/-! ### signs -/
abbrev vC (c : UInt8) : V := vN c.toNat
def BytesAt (H : Hp) (p : PySem.Addr) (b : Bt) : Prop := H p = some (.lst (b.map vC))
theorem letter_is (c : UInt8) : (decide ((c.toNat : Int) ≥ 97) && decide ((c.toNat : Int) ≤ 122)) = VasedBase.isLetter c := by
  unfold VasedBase.isLetter
  rw [Bool.eq_iff_iff, Bool.and_eq_true, decide_eq_true_iff, decide_eq_true_iff, decide_eq_true_iff]
  omega
theorem digit_is (c : UInt8) : (decide ((c.toNat : Int) ≥ 48) && decide ((c.toNat : Int) ≤ 57)) = VasedBase.isDigit c := by
  unfold VasedBase.isDigit
  rw [Bool.eq_iff_iff, Bool.and_eq_true, decide_eq_true_iff, decide_eq_true_iff, decide_eq_true_iff]
  omega
def sp_is_letter (A : Ad) (K : PySem.W.Frag) : Sp := fun vs H Q _ => ∃ c : UInt8, vs = [vC c] ∧ Q (.bl (VasedBase.isLetter c)) H
def sp_is_digit (A : Ad) (K : PySem.W.Frag) : Sp := fun vs H Q _ => ∃ c : UInt8, vs = [vC c] ∧ Q (.bl (VasedBase.isDigit c)) H
theorem ok_is_letter (T : Txt K mg A) (Z : Apart A) : ∃ f fd, FnOk P w K mg base CX0 1 f fd ["byte"] (sp_is_letter A K) ∧ mg "is_letter" = some (.ref f) ∧ PySem.W.keepIn K (.ref f) = true ∧ Binds K fd ["byte"] [] := by
  obtain ⟨f, fd, F, hm, hb⟩ := T.d_is_letter.ex
  refine ⟨f, fd, ?_, hm, F.kp, hb⟩
  refine F.ok sc_is_letter (fun vs H Q E h => by obtain ⟨c, rfl, k⟩ := h; rfl) (fun cdv A' outer s H vs Q E hr h => ?_)
  obtain ⟨c, rfl, k⟩ := h
  refine ⟨_, (pss_one (ps_ret (pe_and (pe_cmpR op_ge (pv 0) (pe_gi T.g_FIRST_LETTER) (nomark _)) (pe_one (pe_cmpR op_le (pv 0) (pe_gi T.g_FINAL_LETTER) (nomark _)))))), ?_⟩
  rw [← letter_is] at k
  refine ⟨_, rfl, _, _, rfl, rfl, _, rfl, ?_⟩
  refine ite2 (fun h => ?_) (fun h => ?_)
  · rw [h, Bool.true_and] at k
    exact ⟨_, rfl, _, _, rfl, rfl, k⟩
  · have h' : decide ((c.toNat : Int) ≥ 97) = false := by simpa using h
    rw [h', Bool.false_and] at k
    exact k
theorem ok_is_digit (T : Txt K mg A) (Z : Apart A) : ∃ f fd, FnOk P w K mg base CX0 1 f fd ["byte"] (sp_is_digit A K) ∧ mg "is_digit" = some (.ref f) ∧ PySem.W.keepIn K (.ref f) = true ∧ Binds K fd ["byte"] [] := by
  obtain ⟨f, fd, F, hm, hb⟩ := T.d_is_digit.ex
  refine ⟨f, fd, ?_, hm, F.kp, hb⟩
  refine F.ok sc_is_digit (fun vs H Q E h => by obtain ⟨c, rfl, k⟩ := h; rfl) (fun cdv A' outer s H vs Q E hr h => ?_)
  obtain ⟨c, rfl, k⟩ := h
  refine ⟨_, (pss_one (ps_ret (pe_and (pe_cmpR op_ge (pv 0) (pe_gi T.g_FIRST_DIGIT) (nomark _)) (pe_one (pe_cmpR op_le (pv 0) (pe_gi T.g_FINAL_DIGIT) (nomark _)))))), ?_⟩
  rw [← digit_is] at k
  refine ⟨_, rfl, _, _, rfl, rfl, _, rfl, ?_⟩
  refine ite2 (fun h => ?_) (fun h => ?_)
  · rw [h, Bool.true_and] at k
    exact ⟨_, rfl, _, _, rfl, rfl, k⟩
  · have h' : decide ((c.toNat : Int) ≥ 48) = false := by simpa using h
    rw [h', Bool.false_and] at k
    exact k
theorem drop_at {α : Type} {l : List α} {i : Nat} {x : α} (h : l[i]? = some x) : l.drop i = x :: l.drop (i + 1) := by
  obtain ⟨hi, e⟩ := List.getElem?_eq_some_iff.mp h
  rw [List.drop_eq_getElem_cons hi, e]
theorem vC_inj {c d : UInt8} (h : vC c = vC d) : c = d := by
  have : ((c.toNat : Nat) : Int) = (d.toNat : Nat) := V.int.inj h
  exact toNat_inj (by omega)
theorem dec_vC (c d : UInt8) : decide (vC c = vC d) = (c == d) := by
  rw [Bool.eq_iff_iff, decide_eq_true_iff, beq_iff_eq]
  exact ⟨vC_inj, fun h => by rw [h]⟩
def sp_behind_remark (A : Ad) (K : PySem.W.Frag) : Sp := fun vs H Q _ => ∃ (p : PySem.Addr) (b : Bt) (i : Nat), vs = [.ref p, vN i] ∧ BytesAt H p b ∧ i ≤ b.length ∧ Q (vN (i + ((b.drop i).takeWhile (· != 10)).length)) H
theorem ok_behind_remark (T : Txt K mg A) (Z : Apart A) : ∃ f fd, FnOk P w K mg base CX0 1 f fd ["script", "at"] (sp_behind_remark A K) ∧ mg "behind_remark" = some (.ref f) ∧ PySem.W.keepIn K (.ref f) = true ∧ Binds K fd ["script", "at"] [] := by
  obtain ⟨f, fd, F, hm, hb⟩ := T.d_behind_remark.ex
  refine ⟨f, fd, ?_, hm, F.kp, hb⟩
  refine F.ok sc_behind_remark (fun vs H Q E h => by obtain ⟨p, b, i, rfl, hp, hi, k⟩ := h; rfl) (fun cdv A' outer s H vs Q E hr h => ?_)
  obtain ⟨p, b, i, rfl, hp, hi, k⟩ := h
  refine ⟨_, (pss_cons (ps_while PassesOwn.never (PW.pt (pw_and (pt_cmpR op_lt (pv 1) (pe_callB call_len_seq (by rfl) T.z_len PySem.boot_len (pa_cons (pv 0) pa_nil)) (nomark _)) (pw_and1 (pt_cmpR op_ne (pe_ix ix_list (pv 0) (pv 1) (fun _ _ => rfl)) (pe_gi T.g_LINE_END) (nomark _))))) (pss_one (ps_aug (i := 1) sc_behind_remark.nd rfl (by first | exact Or.inl rfl | exact Or.inr rfl) pe_int ip_add)))
  (pss_one (ps_ret (pv 1)))), ?_⟩
  refine while_do (fun σ H' => H' = H ∧ ∃ n : Nat, σ = [some (.ref p), some (vN n)] ∧ n ≤ b.length ∧ i + ((b.drop i).takeWhile (· != 10)).length = n + ((b.drop n).takeWhile (· != 10)).length) (fun σ _ => match σ with | [_, some (.int n)] => b.length - n.toNat | _ => 0) ⟨rfl, i, rfl, hi, rfl⟩ ?_
  rintro σ H1 ⟨rfl, n, rfl, hn, e1⟩ G g1 g2
  refine ⟨_, rfl, _, rfl, p, _, rfl, .inl (SqL.of hp), _, _, rfl, rfl, _, rfl, ?_⟩
  rw [List.length_map]
  by_cases h : n < b.length
  · rw [show decide ((n : Int) < (b.length : Int)) = true from decide_eq_true (by omega)]
    have e2 := List.getElem?_eq_getElem h
    have dr := drop_at e2
    refine ⟨_, rfl, _, rfl, p, _, n, vC b[n], rfl, rfl, SqL.of hp, atI_nat (by rw [List.getElem?_map, e2]; rfl), rfl, _, rfl, ?_⟩
    have e3 : (!decide (vC b[n] = V.int 10)) = (b[n] != 10) := by
      rw [show V.int 10 = vC 10 from rfl, dec_vC]
      rfl
    rw [e3]
    rw [dr, List.takeWhile_cons] at e1
    by_cases h2 : (b[n] != 10) = true
    · rw [h2]
      rw [if_pos h2, List.length_cons] at e1
      refine g1 H1 ?_
      refine ⟨_, rfl, n, 1, rfl, rfl, ⟨rfl, n + 1, rfl, h, by omega⟩, ?_⟩
      show b.length - ((n : Int) + 1).toNat < b.length - (n : Int).toNat
      omega
    · rw [show (b[n] != 10) = false by simpa using h2]
      rw [if_neg h2, List.length_nil] at e1
      refine g2 H1 ⟨_, rfl, ?_⟩
      rw [e1] at k
      exact k
  · rw [show decide ((n : Int) < (b.length : Int)) = false from decide_eq_false (by omega)]
    rw [List.drop_eq_nil_of_le (show b.length ≤ n by omega)] at e1
    refine g2 H1 ⟨_, rfl, ?_⟩
    rw [e1] at k
    exact k
end
end
end SK
set_option Elab.async false
set_option linter.all false
set_option maxRecDepth 100000
set_option maxHeartbeats 2000000
namespace SK
open PySem PySem.Spec PyProof.Rows L2
section
variable {P : Program} {w : World} {K : PySem.W.Frag} {mg : Str → Option Value} {base : Heap} {A : Ad}
section
open VasedBase (PTok Tok Toks)
def tkKind : VasedBase.Tok → Str
  | .name _ => "word"
  | .num _ => "number"
  | .sign _ => "sign"
  | .last => "end"
def tkVal : VasedBase.Tok → V
  | .name w => vB w
  | .num n => vN n
  | .sign _ => .str ";"
  | .last => .str ""
def TokAt (A : Ad) (H : Hp) (q : PySem.Addr) (t : PTok) (bh : Nat) : Prop := ∃ dx, H q = some (.ins A.Token dx (fs_Token (.str (tkKind t.tok)) (tkVal t.tok) (vN t.place) (vN bh)))
theorem TokAt.kp {A : Ad} {H H' : Hp} {q t bh} (z : Apart A) (k : Kp A H H') (h : TokAt A H q t bh) : TokAt A H' q t bh := let ⟨dx, e⟩ := h; ⟨dx, k _ _ e (noM_ins z.h4 z.r4)⟩
def TokX (A : Ad) (H : Hp) (v : V) (t : PTok) : Prop := ∃ q bh, v = .ref q ∧ TokAt A H q t bh
def ToksX (A : Ad) (H : Hp) (vs : List V) (l : Toks) : Prop := Two (TokX A H) vs l
def ToksAt (A : Ad) (H : Hp) (p : PySem.Addr) (l : Toks) : Prop := ∃ vs, H p = some (.lst vs) ∧ ToksX A H vs l
theorem ToksX.kp {A : Ad} {H H' : Hp} {vs l} (z : Apart A) (k : Kp A H H') (h : ToksX A H vs l) : ToksX A H' vs l := Two.mono h fun v t _ ⟨q, bh, e, f⟩ => ⟨q, bh, e, f.kp z k⟩
theorem ToksAt.kp {A : Ad} {H H' : Hp} {p l} (z : Apart A) (k : Kp A H H') (h : ToksAt A H p l) : ToksAt A H' p l := let ⟨vs, e, f⟩ := h; ⟨vs, k _ _ e noM_lst, ToksX.kp z k f⟩
theorem blank_is (c : UInt8) : inV (vC c) [.int 32, .int 9, .int 10] = VasedBase.isBlank c := by
  have h := in_nats c.toNat [32, 9, 10]
  rw [show ([V.int 32, V.int 9, V.int 10] : List V) = [32, 9, 10].map vN from rfl]
  show inV (V.int c.toNat) _ = _
  rw [h]
  unfold VasedBase.isBlank
  have e : ∀ n : Nat, n < 256 → (c.toNat == n) = (c == UInt8.ofNat n) := fun n hn => by
    rw [Bool.eq_iff_iff, beq_iff_eq, beq_iff_eq]
    constructor
    · intro h
      rw [← h]
      simp
    · intro h
      rw [h]
      simp
      omega
  rw [List.contains_cons, List.contains_cons, List.contains_cons, List.contains_nil, Bool.or_false, e 32 (by decide), e 9 (by decide), e 10 (by decide)]
  rfl
def sp_behind_blanks (A : Ad) (K : PySem.W.Frag) : Sp := fun vs H Q _ => ∃ (p : PySem.Addr) (b : Bt) (i : Nat), vs = [.ref p, vN i] ∧ BytesAt H p b ∧ i ≤ b.length ∧ ∀ j, i ≤ j → j ≤ b.length → MP.lx b i = MP.lx b j → (∀ c, b[j]? = some c → VasedBase.isBlank c = false ∧ (c == 35) = false) → Q (vN j) H
theorem ok_behind_blanks (T : Txt K mg A) (Z : Apart A) : ∃ f fd, FnOk P w K mg base CX0 2 f fd ["script", "at"] (sp_behind_blanks A K) ∧ mg "behind_blanks" = some (.ref f) ∧ PySem.W.keepIn K (.ref f) = true ∧ Binds K fd ["script", "at"] [] := by
  obtain ⟨f, fd, F, hm, hb⟩ := T.d_behind_blanks.ex
  obtain ⟨f_behind_remark, fd_behind_remark, G_behind_remark, m_behind_remark, k_behind_remark, b_behind_remark⟩ := ok_behind_remark (P := P) (w := w) (base := base) T Z
  refine ⟨f, fd, ?_, hm, F.kp, hb⟩
  refine F.ok sc_behind_blanks (fun vs H Q E h => by obtain ⟨p, b, i, rfl, hp, hi, k⟩ := h; rfl) (fun cdv A' outer s H vs Q E hr h => ?_)
  obtain ⟨p, b, i, rfl, hp, hi, k⟩ := h
  refine ⟨_, (pss_cons (ps_while PassesOwn.never (pt_cmpR op_lt (pv 1) (pe_callB call_len_seq (by rfl) T.z_len PySem.boot_len (pa_cons (pv 0) pa_nil)) (nomark _)) (pss_one (ps_if (pt_cmpR op_eq (pe_ix ix_list (pv 0) (pv 1) (fun _ _ => rfl)) (pe_gi T.g_REMARK) (nomark _)) (pss_one (ps_set (i := 1) sc_behind_blanks.nd rfl (by first | exact Or.inl rfl | exact Or.inr rfl) (pe_call G_behind_remark (hr.mono (by decide)) rfl m_behind_remark k_behind_remark b_behind_remark .nil pass0 (pa_cons (pv 0) (pa_cons (pv 1) pa_nil))))) (pss_one (ps_if (pt_cmpR (op_in_seqK (K := K)) (pe_ix ix_list (pv 0) (pv 1) (fun _ _ => rfl)) (pe_gt T.g_BLANKS) (by rfl)) (pss_one (ps_aug (i := 1) sc_behind_blanks.nd rfl (by first | exact Or.inl rfl | exact Or.inr rfl) pe_int ip_add)) (pss_one ps_break))))))
  (pss_one (ps_ret (pv 1)))), ?_⟩
  refine while_do (fun σ H' => H' = H ∧ ∃ n : Nat, σ = [some (.ref p), some (vN n)] ∧ i ≤ n ∧ n ≤ b.length ∧ MP.lx b i = MP.lx b n) (fun σ _ => match σ with | [_, some (.int n)] => b.length - n.toNat | _ => 0) ⟨rfl, i, rfl, Nat.le_refl _, hi, rfl⟩ ?_
  rintro σ H1 ⟨rfl, n, rfl, hin, hn, e1⟩ G g1 g2
  refine ⟨_, rfl, _, rfl, p, _, rfl, .inl (SqL.of hp), _, _, rfl, rfl, _, rfl, ?_⟩
  rw [List.length_map]
  by_cases h : n < b.length
  · rw [show decide ((n : Int) < (b.length : Int)) = true from decide_eq_true (by omega)]
    have e2 := List.getElem?_eq_getElem h
    have dr := drop_at e2
    generalize b[n] = c at e2 dr
    refine g1 H1 ?_
    refine ⟨_, rfl, _, rfl, p, _, n, vC c, rfl, rfl, SqL.of hp, atI_nat (by rw [List.getElem?_map, e2]; rfl), rfl, _, rfl, ?_⟩
    rw [show V.int 35 = vC 35 from rfl, dec_vC]
    refine ite2 (fun h2 => ?_) (fun h2 => ?_)
    · have h3 : c = 35 := by simpa using h2
      rw [h3] at e2
      have tw : ((b.drop n).takeWhile (· != 10)).length ≤ (b.drop n).length := (List.takeWhile_prefix _).length_le
      have t1 : 1 ≤ ((b.drop n).takeWhile (· != 10)).length := by
        rw [dr, h3, List.takeWhile_cons, if_pos (by decide), List.length_cons]
        omega
      rw [List.length_drop] at tw
      refine ⟨_, rfl, _, rfl, p, b, n, rfl, hp, hn, ?_⟩
      refine ⟨⟨rfl, n + ((b.drop n).takeWhile (· != 10)).length, rfl, by omega, by omega, e1.trans (MP.lx_remark e2)⟩, ?_⟩
      show b.length - ((n + ((b.drop n).takeWhile (· != 10)).length : Nat) : Int).toNat < b.length - (n : Int).toNat
      omega
    · refine ⟨_, rfl, _, rfl, p, _, n, vC c, rfl, rfl, SqL.of hp, atI_nat (by rw [List.getElem?_map, e2]; rfl), ?_⟩
      intro a ha
      refine ⟨a, _, rfl, .inr ha, rfl, rfl, _, rfl, ?_⟩
      rw [if_neg Bool.false_ne_true, blank_is]
      refine ite2 (fun h3 => ?_) (fun h3 => ?_)
      · refine ⟨_, rfl, n, 1, rfl, rfl, ⟨rfl, n + 1, rfl, by omega, h, e1.trans (MP.lx_blank e2 h3)⟩, ?_⟩
        show b.length - ((n : Int) + 1).toNat < b.length - (n : Int).toNat
        omega
      · refine ⟨_, rfl, k n hin hn e1 fun d hd => ?_⟩
        rw [e2] at hd
        cases hd
        exact ⟨by simpa using h3, by simpa using h2⟩
  · rw [show decide ((n : Int) < (b.length : Int)) = false from decide_eq_false (by omega)]
    refine g2 H1 ⟨_, rfl, k n hin hn e1 fun d hd => ?_⟩
    have := (List.getElem?_eq_some_iff.mp hd).1
    exact absurd this h
theorem join_ones : ∀ w : Bt, MK.joinB [] (w.map fun c => [c]) = w
  | [] => rfl
  | [x] => rfl
  | x :: y :: r => by
    have ih := join_ones (y :: r)
    show [x] ++ [] ++ MK.joinB [] ((y :: r).map fun c => [c]) = _
    rw [ih]
    rfl
theorem letter_at {c : UInt8} (h : VasedBase.isLetter c = true) : Vasedb.alphabet[c.toNat - 97]? = some c := by
  have h2 : 97 ≤ c.toNat ∧ c.toNat ≤ 122 := of_decide_eq_true h
  unfold Vasedb.alphabet
  rw [List.getElem?_map, List.getElem?_range (by omega)]
  show some (UInt8.ofNat (97 + (c.toNat - 97))) = some c
  rw [show 97 + (c.toNat - 97) = c.toNat by omega]
  simp
def sp_text_of (A : Ad) (K : PySem.W.Frag) : Sp := fun vs H Q _ => ∃ (p : PySem.Addr) (x : Bt), vs = [.ref p] ∧ BytesAt H p x ∧ (∀ c ∈ x, VasedBase.isLetter c = true) ∧ x.length ≤ 1000 ∧ ∀ H', Same H H' → Q (vB x) H'
theorem ok_text_of (T : Txt K mg A) (Z : Apart A) : ∃ f fd, FnOk P w K mg base CX0 1 f fd ["letters"] (sp_text_of A K) ∧ mg "text_of" = some (.ref f) ∧ PySem.W.keepIn K (.ref f) = true ∧ Binds K fd ["letters"] [] := by
  obtain ⟨f, fd, F, hm, hb⟩ := T.d_text_of.ex
  refine ⟨f, fd, ?_, hm, F.kp, hb⟩
  refine F.ok sc_text_of (fun vs H Q E h => by obtain ⟨p, x, rfl, hp, hl, few1, k⟩ := h; rfl) (fun cdv A' outer s H vs Q E hr h => ?_)
  obtain ⟨p, x, rfl, hp, hl, few1, k⟩ := h
  refine ⟨_, (pss_one (ps_ret (pe_join pe_str (pe_lc (own := [("byte", 1)]) (g := gName 1) rfl sc_text_of.nd (pi_list (pv 0)) (blkOk_by (N := N_text_of) (sc := defScope s_text_of) (by decide +kernel))
   (fun _ _ _ _ _ => pg_name (i := 1) sc_text_of.nd rfl (Or.inl rfl)) (fun _ _ _ _ _ => by exact pts_nil) (fun _ _ _ _ _ => by exact (pe_ix ix_str (pe_gs T.g_LETTERS) (pe_op op_sub (pv 1) (pe_gi T.g_FIRST_LETTER)) (fun _ _ => rfl))))))), ?_⟩
  refine ⟨⟨_, rfl⟩, ?_⟩
  refine ⟨_, rfl, p, rfl, ⟨_, SqL.of hp⟩, fun D hD => ?_⟩
  refine lc_itA (walk_list (K := K) (a := p) (xs := x.map vC)) (fun i => (x.take i).map fun c => vB [c]) hD (fun H' s1 => SqL.of (s1 _ _ hp)) rfl (fun i _ => fewer (m := 1000) (by rw [List.length_map, List.length_take]; omega) (by decide)) ?_ ?_
  · rintro i v Hx H2 hi s1 ⟨rfl, hv⟩ N M hN hM
    obtain ⟨c, e1, rfl⟩ := map_at hv
    have hc := hl c (List.mem_of_getElem? e1)
    have h2 : 97 ≤ c.toNat ∧ c.toNat ≤ 122 := of_decide_eq_true hc
    refine ⟨rfl, ?_⟩
    refine ifT (Y := M H2) rfl ?_
    refine ⟨_, rfl, _, _, rfl, rfl, ?_⟩
    refine ⟨_, ((c.toNat - 97 : Nat) : Int), c.toNat, congrArg V.str abc_is, congrArg V.int (by show (c.toNat : Int) - 97 = _; omega), few (m := 26) (by rw [sB_len, MK.alphabet_len]; exact Nat.le_refl _) (by decide), atI_nat ?_, ?_⟩
    · rw [sB_list, List.getElem?_map, letter_at hc]
      rfl
    · refine hN _ _ (Same.refl _) ?_
      rw [take_more e1, List.map_append]
      rfl
  · intro H2 s1 hd
    rw [List.length_map, List.take_length] at hd
    have e1 : (x.map fun c => vB [c]) = ((x.map fun c => [c]).map sB).map V.str := by
      rw [List.map_map, List.map_map]
      rfl
    rw [e1] at hd
    refine ⟨_, D, _, rfl, rfl, .inl (SqL.of hd), ?_, ?_⟩
    · rw [sum_len, List.length_map, List.length_map, List.map_map]
      have : ∀ y : Bt, (y.map ((fun x : Bt => x.length) ∘ fun c => [c])).sum = y.length := by
        intro y
        rw [show ((fun x : Bt => x.length) ∘ fun c : UInt8 => [c]) = fun _ => 1 from rfl, List.map_const', List.sum_replicate_nat]
        omega
      have e := this x
      refine Nat.le_trans (Nat.le_of_eq (Nat.add_comm _ _)) ?_
      show x.length * 0 + _ ≤ _
      rw [Nat.mul_zero, Nat.zero_add]
      exact Nat.le_trans (Nat.le_of_eq e) (by omega)
    · rw [show (Str.ofString "") = sB [] from sB_nil.symm, joined, join_ones]
      exact k H2 s1
theorem dec_snoc (l : Bt) (c : UInt8) : VasedBase.decimal (l ++ [c]) = 10 * VasedBase.decimal l + (c.toNat - 48) := by
  unfold VasedBase.decimal
  rw [List.foldl_append]
  rfl
def sp_value_of (A : Ad) (K : PySem.W.Frag) : Sp := fun vs H Q _ => ∃ (p : PySem.Addr) (x : Bt), vs = [.ref p] ∧ BytesAt H p x ∧ (∀ c ∈ x, VasedBase.isDigit c = true) ∧ Q (vN (VasedBase.decimal x)) H
theorem ok_value_of (T : Txt K mg A) (Z : Apart A) : ∃ f fd, FnOk P w K mg base CX0 1 f fd ["digits"] (sp_value_of A K) ∧ mg "value_of" = some (.ref f) ∧ PySem.W.keepIn K (.ref f) = true ∧ Binds K fd ["digits"] [] := by
  obtain ⟨f, fd, F, hm, hb⟩ := T.d_value_of.ex
  refine ⟨f, fd, ?_, hm, F.kp, hb⟩
  refine F.ok sc_value_of (fun vs H Q E h => by obtain ⟨p, x, rfl, hp, hl, k⟩ := h; rfl) (fun cdv A' outer s H vs Q E hr h => ?_)
  obtain ⟨p, x, rfl, hp, hl, k⟩ := h
  refine ⟨_, (pss_cons (ps_set (i := 1) sc_value_of.nd rfl (by first | exact Or.inl rfl | exact Or.inr rfl) pe_int)
  (pss_cons (ps_for PassesOwn.never rfl (pi_list (pv 0)) (pg_name (i := 2) sc_value_of.nd rfl (by first | exact Or.inl rfl | exact Or.inr rfl))
  (pss_one (ps_set (i := 1) sc_value_of.nd rfl (by first | exact Or.inl rfl | exact Or.inr rfl) (pe_op op_sub (pe_op op_add (pe_op op_mul (pv 1) pe_int) (pv 2)) (pe_gi T.g_FIRST_DIGIT)))))
  (pss_one (ps_ret (pv 1))))), ?_⟩
  refine ⟨_, rfl, p, rfl, ⟨_, SqL.of hp⟩, ?_⟩
  refine for_it (walk_list (K := K) (a := p) (xs := x.map vC)) (fun i σ H' => H' = H ∧ ∃ o, σ = [some (.ref p), some (vN (VasedBase.decimal (x.take i))), o])
    ⟨rfl, none, rfl⟩ (fun i σ H' _ ⟨e, _⟩ => by rw [e]; exact SqL.of hp) ?_ ?_
  · rintro i v σ Hx H2 hi ⟨rfl, o, rfl⟩ ⟨rfl, hv⟩
    obtain ⟨c, e1, rfl⟩ := map_at hv
    have hc := hl c (List.mem_of_getElem? e1)
    have h2 : 48 ≤ c.toNat ∧ c.toNat ≤ 57 := of_decide_eq_true hc
    refine ⟨_, rfl, _, _, rfl, rfl, .inr ⟨by decide, by decide⟩, ?_⟩
    refine ⟨_, rfl, _, _, rfl, rfl, _, _, rfl, rfl, rfl, some (vC c), ?_⟩
    rw [take_more e1, dec_snoc]
    have e : ((VasedBase.decimal (x.take i) : Nat) : Int) * 10 + (c.toNat : Int) - 48 = ((10 * VasedBase.decimal (x.take i) + (c.toNat - 48) : Nat) : Int) := by omega
    exact congrArg (fun z => [some (V.ref p), some (V.int z), some (vC c)]) e
  · rintro σ H2 ⟨rfl, o, rfl⟩
    rw [List.length_map, List.take_length]
    exact ⟨_, rfl, k⟩
/-! ### tokens -/
def Err (A : Ad) (H : Hp) (E : XK) (f : VasedBase.Fault) : Prop := ∀ d H', H' d = some (.xd (fs_Fault f.code f.place)) → Same H H' → E (.ref A.Fault) (some d) H'
theorem cut_midB (b : Bt) (n m : Nat) (h : n ≤ b.length) (k : m ≤ b.length) : cutV (b.map vC) (some (n : Int)) (some (m : Int)) = ((b.drop n).take (m - n)).map vC := by
  rw [cut_mid _ n m (by rw [List.length_map]; exact h) (by rw [List.length_map]; exact k), ← List.map_drop, ← List.map_take]
theorem take_while (p : UInt8 → Bool) (l : Bt) : l.take (l.takeWhile p).length = l.takeWhile p := (List.prefix_iff_eq_take.mp (List.takeWhile_prefix p)).symm
def sp_word_at (A : Ad) (K : PySem.W.Frag) : Sp := fun vs H Q E => ∃ (p : PySem.Addr) (b : Bt) (i : Nat) (c : UInt8), vs = [.ref p, vN i] ∧ BytesAt H p b ∧ b.length ≤ 4096 ∧ b[i]? = some c ∧ VasedBase.isLetter c = true ∧
  (∀ q H' x, VasedBase.token (b.drop i) = some x → TokAt A H' q ⟨i, x.1⟩ (i + x.2) → Same H H' → Q (.ref q) H') ∧ (VasedBase.token (b.drop i) = none → Err A H E ⟨2, i⟩)
theorem ok_word_at (T : Txt K mg A) (Z : Apart A) : ∃ f fd, FnOk P w K mg base (L2.CX P w) 3 f fd ["script", "at"] (sp_word_at A K) ∧ mg "word_at" = some (.ref f) ∧ PySem.W.keepIn K (.ref f) = true ∧ Binds K fd ["script", "at"] [] := by
  obtain ⟨f, fd, F, hm, hb⟩ := T.d_word_at.ex
  obtain ⟨f_Token_init, fd_Token_init, G_Token_init, M_Token, m_Token, b_Token_init⟩ := ok_Token_init (P := P) (w := w) (base := base) T Z
  obtain ⟨f_is_letter, fd_is_letter, G_is_letter, m_is_letter, k_is_letter, b_is_letter⟩ := ok_is_letter (P := P) (w := w) (base := base) T Z
  obtain ⟨f_text_of, fd_text_of, G_text_of, m_text_of, k_text_of, b_text_of⟩ := ok_text_of (P := P) (w := w) (base := base) T Z
  obtain ⟨fF, fdF, GF, iF, tF, bF⟩ := ok_Fault_init (P := P) (w := w) (base := base) T Z
  refine ⟨f, fd, ?_, hm, F.kp, hb⟩
  refine F.okX sc_word_at (fun vs H Q E h => by obtain ⟨p, b, i, c, rfl, hp, few1, hi, hc, k1, k2⟩ := h; rfl) (fun cdv A' outer s H vs Q E hr h => ?_)
  obtain ⟨p, b, i, c, rfl, hp, few1, hi, hc, k1, k2⟩ := h
  refine ⟨_, (pss_cons (ps_set (i := 2) sc_word_at.nd rfl (by first | exact Or.inl rfl | exact Or.inr rfl) (pv 1))
  (pss_cons (ps_while (passes_of rfl) (PW.pt (pw_and (pt_cmpR op_lt (pv 2) (pe_callB call_len_seq (by rfl) T.z_len PySem.boot_len (pa_cons (pv 0) pa_nil)) (nomark _)) (pw_and1 (pt_val (pe_call G_is_letter (hr.mono (by decide)) rfl m_is_letter k_is_letter b_is_letter .nil pass0 (pa_cons (pe_ix ix_list (pv 0) (pv 2) (fun _ _ => rfl)) pa_nil)))))) (pss_one (ps_aug (i := 2) sc_word_at.nd rfl (by first | exact Or.inl rfl | exact Or.inr rfl) pe_int ip_add)))
  (pss_cons (ps_if (pt_cmpR op_gt (pe_op op_sub (pv 2) (pv 1)) (pe_gi T.g_LONGEST_WORD) (nomark _)) (pss_one (ps_raise rfl (takes_of rfl rfl rfl rfl) (pmk_fl T.flt.fl iF tF GF (hr.mono (by decide)) bF T.flt.g (pa_cons pe_int (pa_cons (pv 1) pa_nil))))) pss_nil)
  (pss_one (ps_ret (pe_make M_Token G_Token_init (hr.mono (by decide)) rfl m_Token b_Token_init .nil pass0 (pa_cons pe_str (pa_cons (pe_call G_text_of (hr.mono (by decide)) rfl m_text_of k_text_of b_text_of .nil pass0 (pa_cons (pe_slice sl_listA (pv 0) (po_some (pv 1)) (po_some (pv 2))) pa_nil)) (pa_cons (pv 1) (pa_cons (pv 2) pa_nil)))))))))), ?_⟩
  have hl := (List.getElem?_eq_some_iff.mp hi).1
  refine ⟨_, rfl, ?_⟩
  refine while_do (fun σ H' => H' = H ∧ ∃ n : Nat, σ = [some (.ref p), some (vN i), some (vN n)] ∧ i ≤ n ∧ n ≤ b.length ∧ i + ((b.drop i).takeWhile VasedBase.isLetter).length = n + ((b.drop n).takeWhile VasedBase.isLetter).length) (fun σ _ => match σ with | [_, _, some (.int n)] => b.length - n.toNat | _ => 0) ⟨rfl, i, rfl, Nat.le_refl _, by omega, rfl⟩ ?_
  rintro σ H1 ⟨rfl, n, rfl, hin, hn, e1⟩ G g1 g2
  refine ⟨_, rfl, _, rfl, p, _, rfl, .inl (SqL.of hp), _, _, rfl, rfl, _, rfl, ?_⟩
  have done : i + ((b.drop i).takeWhile VasedBase.isLetter).length = n → G false H1 := fun e => by
    refine g2 H1 ?_
    refine ⟨_, rfl, _, rfl, _, _, rfl, rfl, _, _, rfl, rfl, _, rfl, ?_⟩
    have tk : VasedBase.token (b.drop i) = if VasedBase.NAME < ((b.drop i).takeWhile VasedBase.isLetter).length then none else some (.name ((b.drop i).takeWhile VasedBase.isLetter), ((b.drop i).takeWhile VasedBase.isLetter).length) := by
      rw [drop_at hi]
      unfold VasedBase.token
      simp only []
      rw [if_pos hc]
    have tw : (b.drop i).take (n - i) = (b.drop i).takeWhile VasedBase.isLetter := by
      rw [← e, Nat.add_sub_cancel_left, take_while]
    have wl : ∀ d ∈ (b.drop i).takeWhile VasedBase.isLetter, VasedBase.isLetter d = true := fun d hd => List.all_eq_true.mp List.all_takeWhile d hd
    generalize (b.drop i).takeWhile VasedBase.isLetter = W at tk tw wl e
    have d1 : decide ((n : Int) - (i : Int) > 8) = decide (8 < W.length) := decide_eq_decide.mpr (by omega)
    show (if decide ((n : Int) - (i : Int) > 8) = true then _ else _)
    rw [d1]
    have eN : VasedBase.NAME = 8 := rfl
    rw [eN] at tk
    by_cases h8 : 8 < W.length
    · rw [if_pos h8] at tk
      refine ifT (decide_eq_true h8) ?_
      exact ⟨_, rfl, flt_mk (by decide) (by omega) (k2 tk)⟩
    · rw [if_neg h8] at tk
      refine ifF (decide_eq_false h8) ?_
      refine ⟨_, rfl, _, rfl, i, rfl, _, rfl, n, rfl, p, _, rfl, SqL.of hp, fun q H2 nq hq s2 => ?_⟩
      rw [cut_midB b i n (by omega) hn, tw] at hq
      refine ⟨q, W, rfl, hq, wl, by omega, fun H3 s3 => ?_⟩
      refine ⟨_, rfl, _, rfl, ?_⟩
      refine mk_Token fun x dx H4 e4 s4 n4 => ?_
      exact k1 x H4 _ tk ⟨dx, by rw [e]; exact e4⟩ ((s2.trans s3).trans s4)
  rw [List.length_map]
  by_cases h : n < b.length
  · rw [show decide ((n : Int) < (b.length : Int)) = true from decide_eq_true (by omega)]
    have e2 := List.getElem?_eq_getElem h
    have dr := drop_at e2
    generalize b[n] = d at e2 dr
    refine ⟨_, rfl, _, rfl, p, _, n, vC d, rfl, rfl, SqL.of hp, atI_nat (by rw [List.getElem?_map, e2]; rfl), ?_⟩
    refine ⟨d, rfl, _, rfl, ?_⟩
    rw [dr, List.takeWhile_cons] at e1
    by_cases h2 : VasedBase.isLetter d = true
    · rw [h2]
      rw [if_pos h2, List.length_cons] at e1
      refine g1 H1 ?_
      refine ⟨_, rfl, n, 1, rfl, rfl, ⟨rfl, n + 1, rfl, by omega, h, by omega⟩, ?_⟩
      show b.length - ((n : Int) + 1).toNat < b.length - (n : Int).toNat
      omega
    · rw [show VasedBase.isLetter d = false by simpa using h2]
      rw [if_neg h2, List.length_nil] at e1
      exact done e1
  · rw [show decide ((n : Int) < (b.length : Int)) = false from decide_eq_false (by omega)]
    rw [List.drop_eq_nil_of_le (show b.length ≤ n by omega)] at e1
    exact done e1
theorem not_letter {c : UInt8} (h : VasedBase.isDigit c = true) : ¬ VasedBase.isLetter c = true := fun z => by
  have h1 : 48 ≤ c.toNat ∧ c.toNat ≤ 57 := of_decide_eq_true h
  have h2 : 97 ≤ c.toNat ∧ c.toNat ≤ 122 := of_decide_eq_true z
  omega
def sp_number_at (A : Ad) (K : PySem.W.Frag) : Sp := fun vs H Q E => ∃ (p : PySem.Addr) (b : Bt) (i : Nat) (c : UInt8), vs = [.ref p, vN i] ∧ BytesAt H p b ∧ b.length ≤ 4096 ∧ b[i]? = some c ∧ VasedBase.isDigit c = true ∧
  (∀ q H' x, VasedBase.token (b.drop i) = some x → TokAt A H' q ⟨i, x.1⟩ (i + x.2) → Same H H' → Q (.ref q) H') ∧ (VasedBase.token (b.drop i) = none → Err A H E ⟨2, i⟩)
theorem ok_number_at (T : Txt K mg A) (Z : Apart A) : ∃ f fd, FnOk P w K mg base (L2.CX P w) 3 f fd ["script", "at"] (sp_number_at A K) ∧ mg "number_at" = some (.ref f) ∧ PySem.W.keepIn K (.ref f) = true ∧ Binds K fd ["script", "at"] [] := by
  obtain ⟨f, fd, F, hm, hb⟩ := T.d_number_at.ex
  obtain ⟨f_Token_init, fd_Token_init, G_Token_init, M_Token, m_Token, b_Token_init⟩ := ok_Token_init (P := P) (w := w) (base := base) T Z
  obtain ⟨f_is_digit, fd_is_digit, G_is_digit, m_is_digit, k_is_digit, b_is_digit⟩ := ok_is_digit (P := P) (w := w) (base := base) T Z
  obtain ⟨f_value_of, fd_value_of, G_value_of, m_value_of, k_value_of, b_value_of⟩ := ok_value_of (P := P) (w := w) (base := base) T Z
  obtain ⟨fF, fdF, GF, iF, tF, bF⟩ := ok_Fault_init (P := P) (w := w) (base := base) T Z
  refine ⟨f, fd, ?_, hm, F.kp, hb⟩
  refine F.okX sc_number_at (fun vs H Q E h => by obtain ⟨p, b, i, c, rfl, hp, few1, hi, hc, k1, k2⟩ := h; rfl) (fun cdv A' outer s H vs Q E hr h => ?_)
  obtain ⟨p, b, i, c, rfl, hp, few1, hi, hc, k1, k2⟩ := h
  refine ⟨_, (pss_cons (ps_set (i := 2) sc_number_at.nd rfl (by first | exact Or.inl rfl | exact Or.inr rfl) (pv 1))
  (pss_cons (ps_while (passes_of rfl) (PW.pt (pw_and (pt_cmpR op_lt (pv 2) (pe_callB call_len_seq (by rfl) T.z_len PySem.boot_len (pa_cons (pv 0) pa_nil)) (nomark _)) (pw_and1 (pt_val (pe_call G_is_digit (hr.mono (by decide)) rfl m_is_digit k_is_digit b_is_digit .nil pass0 (pa_cons (pe_ix ix_list (pv 0) (pv 2) (fun _ _ => rfl)) pa_nil)))))) (pss_one (ps_aug (i := 2) sc_number_at.nd rfl (by first | exact Or.inl rfl | exact Or.inr rfl) pe_int ip_add)))
  (pss_cons (ps_if (pt_cmpR op_gt (pe_op op_sub (pv 2) (pv 1)) (pe_gi T.g_LONGEST_NUMBER) (nomark _)) (pss_one (ps_raise rfl (takes_of rfl rfl rfl rfl) (pmk_fl T.flt.fl iF tF GF (hr.mono (by decide)) bF T.flt.g (pa_cons pe_int (pa_cons (pv 1) pa_nil))))) pss_nil)
  (pss_cons (ps_if (PW.pt (pw_and (pt_cmpR op_gt (pe_op op_sub (pv 2) (pv 1)) pe_int (nomark _)) (pw_and1 (pt_cmpR op_eq (pe_ix ix_list (pv 0) (pv 1) (fun _ _ => rfl)) (pe_gi T.g_FIRST_DIGIT) (nomark _))))) (pss_one (ps_raise rfl (takes_of rfl rfl rfl rfl) (pmk_fl T.flt.fl iF tF GF (hr.mono (by decide)) bF T.flt.g (pa_cons pe_int (pa_cons (pv 1) pa_nil))))) pss_nil)
  (pss_cons (ps_set (i := 3) sc_number_at.nd rfl (by first | exact Or.inl rfl | exact Or.inr rfl) (pe_call G_value_of (hr.mono (by decide)) rfl m_value_of k_value_of b_value_of .nil pass0 (pa_cons (pe_slice sl_listA (pv 0) (po_some (pv 1)) (po_some (pv 2))) pa_nil)))
  (pss_cons (ps_if (pt_cmpR op_gt (pv 3) (pe_gi T.g_GREATEST_NUMBER) (nomark _)) (pss_one (ps_raise rfl (takes_of rfl rfl rfl rfl) (pmk_fl T.flt.fl iF tF GF (hr.mono (by decide)) bF T.flt.g (pa_cons pe_int (pa_cons (pv 1) pa_nil))))) pss_nil)
  (pss_one (ps_ret (pe_make M_Token G_Token_init (hr.mono (by decide)) rfl m_Token b_Token_init .nil pass0 (pa_cons pe_str (pa_cons (pv 3) (pa_cons (pv 1) (pa_cons (pv 2) pa_nil))))))))))))), ?_⟩
  have hl := (List.getElem?_eq_some_iff.mp hi).1
  refine ⟨_, rfl, ?_⟩
  refine while_do (fun σ H' => H' = H ∧ ∃ n : Nat, σ = [some (.ref p), some (vN i), some (vN n), none] ∧ i ≤ n ∧ n ≤ b.length ∧ i + ((b.drop i).takeWhile VasedBase.isDigit).length = n + ((b.drop n).takeWhile VasedBase.isDigit).length) (fun σ _ => match σ with | [_, _, some (.int n), _] => b.length - n.toNat | _ => 0) ⟨rfl, i, rfl, Nat.le_refl _, by omega, rfl⟩ ?_
  rintro σ H1 ⟨rfl, n, rfl, hin, hn, e1⟩ G g1 g2
  refine ⟨_, rfl, _, rfl, p, _, rfl, .inl (SqL.of hp), _, _, rfl, rfl, _, rfl, ?_⟩
  have done : i + ((b.drop i).takeWhile VasedBase.isDigit).length = n → G false H1 := fun e => by
    refine g2 H1 ?_
    have tk : VasedBase.token (b.drop i) = (VasedBase.numberOf ((b.drop i).takeWhile VasedBase.isDigit)).map fun n => (.num n, ((b.drop i).takeWhile VasedBase.isDigit).length) := by
      rw [drop_at hi]
      unfold VasedBase.token
      simp only []
      rw [if_neg (not_letter hc), if_pos hc]
    have tw : (b.drop i).take (n - i) = (b.drop i).takeWhile VasedBase.isDigit := by
      rw [← e, Nat.add_sub_cancel_left, take_while]
    have wl : ∀ d ∈ (b.drop i).takeWhile VasedBase.isDigit, VasedBase.isDigit d = true := fun d hd => List.all_eq_true.mp List.all_takeWhile d hd
    have hd : ((b.drop i).takeWhile VasedBase.isDigit).head? = some c := by
      rw [drop_at hi, List.takeWhile_cons, if_pos hc]
      rfl
    generalize (b.drop i).takeWhile VasedBase.isDigit = W at tk tw wl e hd
    have hne : W ≠ [] := fun z => by rw [z] at hd; cases hd
    unfold VasedBase.numberOf at tk
    have d1 : decide ((n : Int) - (i : Int) > 10) = decide (10 < W.length) := decide_eq_decide.mpr (by omega)
    have d2 : decide ((n : Int) - (i : Int) > 1) = decide (1 < W.length) := decide_eq_decide.mpr (by omega)
    refine ⟨_, rfl, _, rfl, _, _, rfl, rfl, _, _, rfl, rfl, _, rfl, ?_⟩
    show (if decide ((n : Int) - (i : Int) > 10) = true then _ else _)
    rw [d1]
    by_cases h8 : 10 < W.length
    · rw [if_pos (.inr (.inl h8))] at tk
      refine ifT (decide_eq_true h8) ?_
      exact ⟨_, rfl, flt_mk (by decide) (by omega) (k2 tk)⟩
    · refine ifF (decide_eq_false h8) ?_
      refine ⟨_, rfl, _, rfl, _, _, rfl, rfl, _, _, rfl, rfl, _, rfl, ?_⟩
      show (if decide ((n : Int) - (i : Int) > 1) = true then _ else _)
      rw [d2]
      by_cases hz : 1 < W.length ∧ c = 48
      · rw [if_pos (.inr (.inr (.inl ⟨hz.1, by rw [hd, hz.2]⟩)))] at tk
        refine ifT (decide_eq_true hz.1) ?_
        refine ⟨_, rfl, _, rfl, p, _, i, vC c, rfl, rfl, SqL.of hp, atI_nat (by rw [List.getElem?_map, hi]; rfl), rfl, _, rfl, ?_⟩
        refine ifT (decide_eq_true (by rw [hz.2]; rfl)) ?_
        exact ⟨_, rfl, flt_mk (by decide) (by omega) (k2 tk)⟩
      · have nz : ¬ (1 < W.length ∧ W.head? = some 48) := fun z => hz ⟨z.1, by have := z.2; rw [hd] at this; exact Option.some.inj this⟩
        by_cases h2 : 1 < W.length
        refine ifT (decide_eq_true h2) ?_
        refine ⟨_, rfl, _, rfl, p, _, i, vC c, rfl, rfl, SqL.of hp, atI_nat (by rw [List.getElem?_map, hi]; rfl), rfl, _, rfl, ?_⟩
        refine ifF (decide_eq_false fun z => hz ⟨h2, vC_inj z⟩) ?_
        rotate_left
        refine ifF (decide_eq_false h2) ?_
        refine ifF rfl ?_
        all_goals
          refine ⟨_, rfl, _, rfl, i, rfl, _, rfl, n, rfl, p, _, rfl, SqL.of hp, fun q H2 nq hq s2 => ?_⟩
          rw [cut_midB b i n (by omega) hn, tw] at hq
          refine ⟨q, W, rfl, hq, wl, ?_⟩
          refine ⟨_, rfl, _, _, rfl, rfl, _, rfl, ?_⟩
          have d3 : decide (((VasedBase.decimal W : Nat) : Int) > 1000000000) = decide (1000000000 < VasedBase.decimal W) := decide_eq_decide.mpr (by omega)
          show (if decide (((VasedBase.decimal W : Nat) : Int) > 1000000000) = true then _ else _)
          rw [d3]
          by_cases h9 : 1000000000 < VasedBase.decimal W
          · rw [if_pos (.inr (.inr (.inr h9)))] at tk
            refine ifT (decide_eq_true h9) ?_
            exact ⟨_, rfl, flt_mk (by decide) (by omega) fun d H' e s => k2 tk d H' e (s2.trans s)⟩
          · have no : ¬ (W = [] ∨ 10 < W.length ∨ (1 < W.length ∧ W.head? = some 48) ∨ VasedBase.NUMBER < VasedBase.decimal W) := fun z => by
              rcases z with z | z | z | z
              · exact hne z
              · exact h8 z
              · exact nz z
              · exact h9 z
            rw [if_neg no] at tk
            refine ifF (decide_eq_false h9) ?_
            refine ⟨_, rfl, _, rfl, _, rfl, ?_⟩
            refine mk_Token fun x dx H4 e4 s4 n4 => ?_
            exact k1 x H4 _ tk ⟨dx, by rw [e]; exact e4⟩ (s2.trans s4)
  rw [List.length_map]
  by_cases h : n < b.length
  · rw [show decide ((n : Int) < (b.length : Int)) = true from decide_eq_true (by omega)]
    have e2 := List.getElem?_eq_getElem h
    have dr := drop_at e2
    generalize b[n] = d at e2 dr
    refine ⟨_, rfl, _, rfl, p, _, n, vC d, rfl, rfl, SqL.of hp, atI_nat (by rw [List.getElem?_map, e2]; rfl), ?_⟩
    refine ⟨d, rfl, _, rfl, ?_⟩
    rw [dr, List.takeWhile_cons] at e1
    by_cases h2 : VasedBase.isDigit d = true
    · rw [h2]
      rw [if_pos h2, List.length_cons] at e1
      refine g1 H1 ?_
      refine ⟨_, rfl, n, 1, rfl, rfl, ⟨rfl, n + 1, rfl, by omega, h, by omega⟩, ?_⟩
      show b.length - ((n : Int) + 1).toNat < b.length - (n : Int).toNat
      omega
    · rw [show VasedBase.isDigit d = false by simpa using h2]
      rw [if_neg h2, List.length_nil] at e1
      exact done e1
  · rw [show decide ((n : Int) < (b.length : Int)) = false from decide_eq_false (by omega)]
    rw [List.drop_eq_nil_of_le (show b.length ≤ n by omega)] at e1
    exact done e1
def sp_token_at (A : Ad) (K : PySem.W.Frag) : Sp := fun vs H Q E => ∃ (p : PySem.Addr) (b : Bt) (i : Nat), vs = [.ref p, vN i] ∧ BytesAt H p b ∧ b.length ≤ 4096 ∧ i < b.length ∧
  (∀ q H' x, VasedBase.token (b.drop i) = some x → TokAt A H' q ⟨i, x.1⟩ (i + x.2) → Same H H' → Q (.ref q) H') ∧ (VasedBase.token (b.drop i) = none → Err A H E ⟨2, i⟩)
theorem ok_token_at (T : Txt K mg A) (Z : Apart A) : ∃ f fd, FnOk P w K mg base (L2.CX P w) 4 f fd ["script", "at"] (sp_token_at A K) ∧ mg "token_at" = some (.ref f) ∧ PySem.W.keepIn K (.ref f) = true ∧ Binds K fd ["script", "at"] [] := by
  obtain ⟨f, fd, F, hm, hb⟩ := T.d_token_at.ex
  obtain ⟨f_Token_init, fd_Token_init, G_Token_init, M_Token, m_Token, b_Token_init⟩ := ok_Token_init (P := P) (w := w) (base := base) T Z
  obtain ⟨f_is_digit, fd_is_digit, G_is_digit, m_is_digit, k_is_digit, b_is_digit⟩ := ok_is_digit (P := P) (w := w) (base := base) T Z
  obtain ⟨f_is_letter, fd_is_letter, G_is_letter, m_is_letter, k_is_letter, b_is_letter⟩ := ok_is_letter (P := P) (w := w) (base := base) T Z
  obtain ⟨f_number_at, fd_number_at, G_number_at, m_number_at, k_number_at, b_number_at⟩ := ok_number_at (P := P) (w := w) (base := base) T Z
  obtain ⟨f_word_at, fd_word_at, G_word_at, m_word_at, k_word_at, b_word_at⟩ := ok_word_at (P := P) (w := w) (base := base) T Z
  obtain ⟨fF, fdF, GF, iF, tF, bF⟩ := ok_Fault_init (P := P) (w := w) (base := base) T Z
  refine ⟨f, fd, ?_, hm, F.kp, hb⟩
  refine F.okX sc_token_at (fun vs H Q E h => by obtain ⟨p, b, i, rfl, hp, few1, hl, k1, k2⟩ := h; rfl) (fun cdv A' outer s H vs Q E hr h => ?_)
  obtain ⟨p, b, i, rfl, hp, few1, hl, k1, k2⟩ := h
  refine ⟨_, (pss_cons (ps_set (i := 2) sc_token_at.nd rfl (by first | exact Or.inl rfl | exact Or.inr rfl) (pe_ix ix_list (pv 0) (pv 1) (fun _ _ => rfl)))
  (pss_cons (ps_if (pt_cmpR op_eq (pv 2) (pe_gi T.g_SIGN) (nomark _)) (pss_one (ps_ret (pe_make M_Token G_Token_init (hr.mono (by decide)) rfl m_Token b_Token_init .nil pass0 (pa_cons pe_str (pa_cons pe_str (pa_cons (pv 1) (pa_cons (pe_op op_add (pv 1) pe_int) pa_nil))))))) pss_nil)
  (pss_cons (ps_if (pt_val (pe_call G_is_letter (hr.mono (by decide)) rfl m_is_letter k_is_letter b_is_letter .nil pass0 (pa_cons (pv 2) pa_nil))) (pss_one (ps_ret (pe_call G_word_at (hr.mono (by decide)) rfl m_word_at k_word_at b_word_at .nil (passes_call (takes_of rfl rfl rfl rfl) (fun _ _ _ _ h => h)) (pa_cons (pv 0) (pa_cons (pv 1) pa_nil))))) pss_nil)
  (pss_cons (ps_if (pt_val (pe_call G_is_digit (hr.mono (by decide)) rfl m_is_digit k_is_digit b_is_digit .nil pass0 (pa_cons (pv 2) pa_nil))) (pss_one (ps_ret (pe_call G_number_at (hr.mono (by decide)) rfl m_number_at k_number_at b_number_at .nil (passes_call (takes_of rfl rfl rfl rfl) (fun _ _ _ _ h => h)) (pa_cons (pv 0) (pa_cons (pv 1) pa_nil))))) pss_nil)
  (pss_one (ps_raise rfl (takes_of rfl rfl rfl rfl) (pmk_fl T.flt.fl iF tF GF (hr.mono (by decide)) bF T.flt.g (pa_cons pe_int (pa_cons (pv 1) pa_nil))))))))), ?_⟩
  have hi := List.getElem?_eq_getElem hl
  generalize b[i] = c at hi
  have e256 : ∀ n : Nat, n < 256 → decide (vC c = V.int n) = (c == UInt8.ofNat n) := fun n hn => by
    rw [← dec_vC]
    congr 2
    show V.int _ = V.int _
    congr 1
    simp
    omega
  refine ⟨_, rfl, _, rfl, p, _, i, vC c, rfl, rfl, SqL.of hp, atI_nat (by rw [List.getElem?_map, hi]; rfl), ?_⟩
  refine ⟨_, rfl, rfl, _, rfl, ?_⟩
  rw [show V.int 59 = vC 59 from rfl, dec_vC]
  by_cases h59 : c = 59
  · refine ifT (by rw [h59]; rfl) ?_
    refine ⟨_, rfl, _, rfl, _, _, rfl, rfl, ?_⟩
    refine mk_Token fun x dx H4 e4 s4 n4 => ?_
    refine k1 x H4 (.sign 59, 1) ?_ ⟨dx, e4⟩ s4
    rw [drop_at hi, h59]
    rfl
  · refine ifF (by simpa using h59) ?_
    refine ⟨_, rfl, c, rfl, _, rfl, ?_⟩
    by_cases hl : VasedBase.isLetter c = true
    · refine ifT hl ?_
      exact ⟨_, rfl, _, rfl, p, b, i, c, rfl, hp, few1, hi, hl, k1, k2⟩
    · refine ifF (by simpa using hl) ?_
      refine ⟨_, rfl, c, rfl, _, rfl, ?_⟩
      by_cases hd : VasedBase.isDigit c = true
      · refine ifT hd ?_
        exact ⟨_, rfl, _, rfl, p, b, i, c, rfl, hp, few1, hi, hd, k1, k2⟩
      · refine ifF (by simpa using hd) ?_
        refine ⟨_, rfl, flt_mk (by decide) (by omega) (k2 ?_)⟩
        rw [drop_at hi]
        unfold VasedBase.token
        simp only []
        rw [if_neg hl, if_neg hd, if_neg]
        simpa [VasedBase.SIGNS] using h59
theorem TokAt.but {A : Ad} {H H' : Hp} {p q t bh} {xs : List V} (b : But [p] H H') (hp : H p = some (.lst xs)) (h : TokAt A H q t bh) : TokAt A H' q t bh := let ⟨dx, e⟩ := h; ⟨dx, b _ _ e (fun z => by
  rw [List.mem_singleton.mp z, hp] at e
  cases e)⟩
theorem ToksX.but {A : Ad} {H H' : Hp} {p vs l} {xs : List V} (b : But [p] H H') (hp : H p = some (.lst xs)) (h : ToksX A H vs l) : ToksX A H' vs l := Two.mono h fun v t _ ⟨q, bh, e, f⟩ => ⟨q, bh, e, f.but b hp⟩
/-- what is read -/
def sp_tokens_of (A : Ad) (K : PySem.W.Frag) : Sp := fun vs H Q E => ∃ (p : PySem.Addr) (b : Bt), vs = [.ref p] ∧ BytesAt H p b ∧ b.length ≤ 4096 ∧
  (∀ q H' l, MP.lx b 0 = .ok l → ToksAt A H' q l → Same H H' → Q (.ref q) H') ∧ (∀ f, MP.lx b 0 = .error f → Err A H E f)
theorem ok_tokens_of (T : Txt K mg A) (Z : Apart A) : ∃ f fd, FnOk P w K mg base (L2.CX P w) 5 f fd ["script"] (sp_tokens_of A K) ∧ mg "tokens_of" = some (.ref f) ∧ PySem.W.keepIn K (.ref f) = true ∧ Binds K fd ["script"] [] := by
  obtain ⟨f, fd, F, hm, hb⟩ := T.d_tokens_of.ex
  obtain ⟨f_Token_init, fd_Token_init, G_Token_init, M_Token, m_Token, b_Token_init⟩ := ok_Token_init (P := P) (w := w) (base := base) T Z
  obtain ⟨f_behind_blanks, fd_behind_blanks, G_behind_blanks, m_behind_blanks, k_behind_blanks, b_behind_blanks⟩ := ok_behind_blanks (P := P) (w := w) (base := base) T Z
  obtain ⟨f_token_at, fd_token_at, G_token_at, m_token_at, k_token_at, b_token_at⟩ := ok_token_at (P := P) (w := w) (base := base) T Z
  refine ⟨f, fd, ?_, hm, F.kp, hb⟩
  refine F.okX sc_tokens_of (fun vs H Q E h => by obtain ⟨p, b, rfl, hp, few1, k1, k2⟩ := h; rfl) (fun cdv A' outer s H vs Q E hr h => ?_)
  obtain ⟨p, b, rfl, hp, few1, k1, k2⟩ := h
  refine ⟨_, (pss_cons (ps_set (i := 1) sc_tokens_of.nd rfl (by first | exact Or.inl rfl | exact Or.inr rfl) (pe_lstA pa_nil))
  (pss_cons (ps_set (i := 2) sc_tokens_of.nd rfl (by first | exact Or.inl rfl | exact Or.inr rfl) (pe_call G_behind_blanks (hr.mono (by decide)) rfl m_behind_blanks k_behind_blanks b_behind_blanks .nil pass0 (pa_cons (pv 0) (pa_cons pe_int pa_nil))))
  (pss_cons (ps_while (passes_of rfl) (pt_cmpR op_lt (pv 2) (pe_callB call_len_seq (by rfl) T.z_len PySem.boot_len (pa_cons (pv 0) pa_nil)) (nomark _)) (pss_cons (ps_set (i := 3) sc_tokens_of.nd rfl (by first | exact Or.inl rfl | exact Or.inr rfl) (pe_call G_token_at (hr.mono (by decide)) rfl m_token_at k_token_at b_token_at .nil (passes_call (takes_of rfl rfl rfl rfl) (fun _ _ _ _ h => h)) (pa_cons (pv 0) (pa_cons (pv 2) pa_nil))))
  (pss_cons (ps_expr (pe_bm PySem.F.plainAttrs_list PySem.F.slot_list_append PySem.F.type_list_append mt_appendA (pv 1) (pa_cons (pv 3) pa_nil)))
  (pss_one (ps_set (i := 2) sc_tokens_of.nd rfl (by first | exact Or.inl rfl | exact Or.inr rfl) (pe_call G_behind_blanks (hr.mono (by decide)) rfl m_behind_blanks k_behind_blanks b_behind_blanks .nil pass0 (pa_cons (pv 0) (pa_cons (pe_fldK (K := K) (pv 3) rfl) pa_nil))))))))
  (pss_cons (ps_expr (pe_bm PySem.F.plainAttrs_list PySem.F.slot_list_append PySem.F.type_list_append mt_appendA (pv 1) (pa_cons (pe_make M_Token G_Token_init (hr.mono (by decide)) rfl m_Token b_Token_init .nil pass0 (pa_cons pe_str (pa_cons pe_str (pa_cons (pe_callB call_len_seq (by rfl) T.z_len PySem.boot_len (pa_cons (pv 0) pa_nil)) (pa_cons (pe_callB call_len_seq (by rfl) T.z_len PySem.boot_len (pa_cons (pv 0) pa_nil)) pa_nil))))) pa_nil)))
  (pss_one (ps_ret (pv 1))))))), ?_⟩
  refine ⟨size0, fun q H1 nq hq s1 => ?_⟩
  refine ⟨_, rfl, p, b, 0, rfl, s1 _ _ hp, Nat.zero_le _, fun j _ hj ej hb => ?_⟩
  refine while_do (fun σ H' => ∃ (j : Nat) (o : Option V) (vs : List V) (l : Toks), σ = [some (.ref p), some (.ref q), some (vN j), o] ∧ Same H H' ∧ H' q = some (.lst vs) ∧ ToksX A H' vs l ∧ l.length ≤ j ∧ j ≤ b.length ∧ MP.lx b 0 = (MP.lx b j).map (fun m => l ++ m) ∧ (∀ c, b[j]? = some c → VasedBase.isBlank c = false ∧ (c == 35) = false))
    (fun σ _ => match σ with | [_, _, some (.int n), _] => b.length - n.toNat | _ => 0) ⟨j, none, [], [], rfl, s1, hq, Two.nil, Nat.zero_le _, hj, ?_, hb⟩ ?_
  · rw [ej]
    cases MP.lx b j <;> rfl
  rintro σ H2 ⟨n, o, vs, l, rfl, s2, hv, ht, hln, hn, el, hnb⟩ G g1 g2
  have hp2 := s2 _ _ hp
  have vl := ht.1
  refine ⟨_, rfl, _, rfl, p, _, rfl, .inl (SqL.of hp2), _, _, rfl, rfl, _, rfl, ?_⟩
  rw [List.length_map]
  by_cases h : n < b.length
  · rw [show decide ((n : Int) < (b.length : Int)) = true from decide_eq_true (by omega)]
    have e2 := List.getElem?_eq_getElem h
    obtain ⟨b1, b2⟩ := hnb _ e2
    refine g1 H2 ?_
    refine ⟨_, rfl, _, rfl, p, b, n, rfl, hp2, few1, h, fun t H3 x ex ht3 s3 => ?_, fun en => ?_⟩
    · have lx1 := MP.lx_some e2 b1 b2 ex
      have le := MP.tok_le e2 ex
      have hv3 := s3 _ _ hv
      refine ⟨_, rfl, .inl ⟨rfl, _, SqL.of hv3⟩, _, rfl, q, vs, _, rfl, rfl, hv3, fewer (m := 5000) (by omega) (by decide), fun H4 h4 b4 => ?_⟩
      have s4 : Same H H4 := same_at (s2.trans s3) nq b4
      have ht4 : TokAt A H4 t ⟨n, x.1⟩ (n + x.2) := TokAt.but b4 hv3 ht3
      have hx4 := ToksX.but b4 hv3 (ToksX.kp Z (same_kp s3) ht)
      obtain ⟨dt, et⟩ := id ht4
      refine ⟨_, rfl, _, rfl, ?_⟩
      refine ⟨_, _, _, _, _, rfl, (et), T.c_Token.cl, T.c_Token.no _ (by simp), lk_Token_behind, ?_⟩
      refine ⟨p, b, n + x.2, rfl, s4 _ _ hp, le.2, fun j2 hj1 hj2 ej2 hb2 => ?_⟩
      refine ⟨⟨j2, _, vs ++ [.ref t], l ++ [⟨n, x.1⟩], rfl, s4, h4, hx4.snoc ⟨t, _, rfl, ht4⟩, by rw [List.length_append]; show _ + 1 ≤ _; omega, hj2, ?_, hb2⟩, ?_⟩
      · rw [el, lx1, ej2]
        cases MP.lx b j2 with
        | error f => rfl
        | ok m =>
          show Except.ok (l ++ (⟨n, x.1⟩ :: m)) = Except.ok (l ++ [⟨n, x.1⟩] ++ m)
          rw [List.append_cons]
      · show b.length - (j2 : Int).toNat < b.length - (n : Int).toNat
        omega
    · have e := MP.lx_none e2 b1 b2 en
      rw [e] at el
      intro d H' hd s3
      exact k2 ⟨2, n⟩ (by rw [el]; rfl) d H' hd (s2.trans s3)
  · rw [show decide ((n : Int) < (b.length : Int)) = false from decide_eq_false (by omega)]
    obtain rfl : n = b.length := by omega
    rw [MP.lx_end] at el
    refine g2 H2 ?_
    refine ⟨_, rfl, .inl ⟨rfl, _, SqL.of hv⟩, ?_⟩
    refine ⟨_, rfl, p, _, rfl, .inl (SqL.of hp2), ?_⟩
    refine ⟨_, rfl, p, _, rfl, .inl (SqL.of hp2), ?_⟩
    rw [List.length_map]
    refine mk_Token fun t dt H3 et s3 nt => ?_
    have hv3 := s3 _ _ hv
    refine ⟨q, vs, _, rfl, rfl, hv3, fewer (m := 5000) (by omega) (by decide), fun H4 h4 b4 => ?_⟩
    have s4 : Same H H4 := same_at (s2.trans s3) nq b4
    have ht4 : TokAt A H4 t ⟨b.length, .last⟩ b.length := TokAt.but b4 hv3 ⟨dt, et⟩
    refine ⟨_, rfl, ?_⟩
    exact k1 q H4 _ el ⟨_, h4, (ToksX.but b4 hv3 (ToksX.kp Z (same_kp s3) ht)).snoc ⟨t, _, rfl, ht4⟩⟩ s4
end
end
end SK
set_option Elab.async false
set_option linter.all false
set_option maxRecDepth 100000
set_option maxHeartbeats 2000000
namespace SK
open PySem PySem.Spec PyProof.Rows L2
section
variable {P : Program} {w : World} {K : PySem.W.Frag} {mg : Str → Option Value} {base : Heap} {A : Ad}
section
open VasedBase (PTok Toks Fault)
open MP (TkOk tokOk)
/-- all that isn't a reader is kept -/
def KpR (A : Ad) (H H' : Hp) : Prop := ∀ b o, H b = some o → (∀ dx fs, o ≠ .ins A.Reader dx fs) → H' b = some o
theorem KpR.of {A : Ad} {H H' : Hp} (k : KpR A H H') : Kp A H H' := fun b o e n => k b o e n.2
instance {A : Ad} {H H' : Hp} : Coe (KpR A H H') (Kp A H H') := ⟨KpR.of⟩
theorem same_kr {A : Ad} {H H' : Hp} (s : Same H H') : KpR A H H' := fun b o e _ => s b o e
theorem KpR.refl {A : Ad} {H : Hp} : KpR A H H := fun _ _ e _ => e
theorem KpR.trans {A : Ad} {H H1 H2 : Hp} (a : KpR A H H1) (b : KpR A H1 H2) : KpR A H H2 := fun c o e n => b c o (a c o e n) n
def ErrK (A : Ad) (H : Hp) (E : XK) (f : Fault) : Prop := ∀ d H', H' d = some (.xd (fs_Fault f.code f.place)) → KpR A H H' → E (.ref A.Fault) (some d) H'
theorem ErrK.same {A : Ad} {H H1 : Hp} {E : XK} {f : Fault} (h : ErrK A H E f) (k : KpR A H H1) : ErrK A H1 E f := fun d H' e s => h d H' e (k.trans s)
theorem ErrK.err {A : Ad} {H : Hp} {E : XK} {f : Fault} (h : ErrK A H E f) : Err A H E f := fun d H' e s => h d H' e (same_kr s)
theorem but_kp {A : Ad} {H H' : Hp} {r dx : PySem.Addr} {fs : List (Str × V)} (b : But [r] H H') (h : H r = some (.ins A.Reader dx fs)) : KpR A H H' := fun c o e n => b c o e (fun z => by
  rw [List.mem_singleton.mp z, h] at e
  cases e
  exact n _ _ rfl)
def RdrAt (A : Ad) (H : Hp) (r : PySem.Addr) (m : Toks) : Prop := ∃ dx tl l i, H r = some (.ins A.Reader dx (fs_Reader (.ref tl) (vN i))) ∧ ToksAt A H tl l ∧ l.drop i = m ∧ l.length ≤ 5000
theorem RdrAt.same {A : Ad} {H H' : Hp} {r m} (z : Apart A) (s : Same H H') (h : RdrAt A H r m) : RdrAt A H' r m := let ⟨dx, tl, l, i, e, f, g⟩ := h; ⟨dx, tl, l, i, s _ _ e, f.kp z (same_kp s), g⟩
def sp_Reader_here (A : Ad) (K : PySem.W.Frag) : Sp := fun vs H Q _ => ∃ (r : PySem.Addr) (t : PTok) (m : Toks), vs = [.ref r] ∧ RdrAt A H r (t :: m) ∧ ∀ q bh, TokAt A H q t bh → Q (.ref q) H
theorem ok_Reader_here (T : Txt K mg A) (Z : Apart A) : ∃ f fd, FnOk P w K mg base CX0 1 f fd ["self"] (sp_Reader_here A K) ∧ Meth K A.Reader "here" f ∧ Binds K fd ["self"] [] := by
  obtain ⟨f, fd, F, hm, hb⟩ := T.d_Reader_here.ex
  refine ⟨f, fd, ?_, hm, hb⟩
  refine F.ok sc_Reader_here (fun vs H Q E h => by obtain ⟨r, t, m, rfl, ⟨dx, tl, l, i, hr', ⟨vs, ht1, ht2⟩, hd, hl⟩, k⟩ := h; rfl) (fun cdv A' outer s H vs Q E hr h => ?_)
  obtain ⟨r, t, m, rfl, ⟨dx, tl, l, i, hr', ⟨vs, ht1, ht2⟩, hd, hl⟩, k⟩ := h
  refine ⟨_, (pss_one (ps_ret (pe_ix ix_list (pe_fldK (K := K) (pv 0) rfl) (pe_fldK (K := K) (pv 0) rfl) (fun _ _ => rfl)))), ?_⟩
  have hi : l[i]? = some t := by
    have : (l.drop i)[0]? = some t := by rw [hd]; rfl
    rw [List.getElem?_drop] at this
    exact this
  obtain ⟨v, e1, q, bh, rfl, tq⟩ := ht2.of hi
  refine ⟨_, rfl, ?_⟩
  refine ⟨_, _, _, _, _, rfl, (hr'), T.c_Reader.cl, T.c_Reader.no _ (by simp), lk_Reader_tokens, ?_⟩
  refine ⟨_, rfl, ?_⟩
  refine ⟨_, _, _, _, _, rfl, (hr'), T.c_Reader.cl, T.c_Reader.no _ (by simp), lk_Reader_at, ?_⟩
  exact ⟨tl, vs, i, .ref q, rfl, rfl, SqL.of ht1, atI_nat e1, k q bh tq⟩
def sp_Reader_stands (A : Ad) (K : PySem.W.Frag) : Sp := fun vs H Q _ => ∃ (r : PySem.Addr) (w : Bt) (t : PTok) (m : Toks), vs = [.ref r, vB w] ∧ RdrAt A H r (t :: m) ∧ Q (.bl (VasedBase.tokEq t.tok (.name w))) H
theorem ok_Reader_stands (T : Txt K mg A) (Z : Apart A) : ∃ f fd, FnOk P w K mg base CX0 2 f fd ["self", "word"] (sp_Reader_stands A K) ∧ Meth K A.Reader "stands" f ∧ Binds K fd ["self", "word"] [] := by
  obtain ⟨f, fd, F, hm, hb⟩ := T.d_Reader_stands.ex
  obtain ⟨f_Reader_here, fd_Reader_here, G_Reader_here, M_Reader_here, b_Reader_here⟩ := ok_Reader_here (P := P) (w := w) (base := base) T Z
  refine ⟨f, fd, ?_, hm, hb⟩
  refine F.ok sc_Reader_stands (fun vs H Q E h => by obtain ⟨r, w, t, m, rfl, hr', k⟩ := h; rfl) (fun cdv A' outer s H vs Q E hr h => ?_)
  obtain ⟨r, w, t, m, rfl, hr', k⟩ := h
  refine ⟨_, (pss_one (ps_ret (pe_and (pe_cmpR op_eq (pe_fldK (K := K) (pe_meth0 (pv 0) T.c_Reader.cl M_Reader_here G_Reader_here (hr.mono (by decide)) b_Reader_here .nil pass0) rfl) pe_str (nomark _)) (pe_one (pe_cmpR op_eq (pe_fldK (K := K) (pe_meth0 (pv 0) T.c_Reader.cl M_Reader_here G_Reader_here (hr.mono (by decide)) b_Reader_here .nil pass0) rfl) (pv 1) (nomark _)))))), ?_⟩
  obtain ⟨dx, tl, l, i, hrr, _⟩ := id hr'
  refine ⟨_, rfl, r, dx, _, rfl, hrr, lm_Reader_here, r, t, m, rfl, hr', fun q bh tq => ?_⟩
  obtain ⟨dt, et⟩ := id tq
  refine ⟨_, _, _, _, _, rfl, (et), T.c_Token.cl, T.c_Token.no _ (by simp), lk_Token_kind, ?_⟩
  refine ⟨rfl, _, rfl, ?_⟩
  have ek : ∀ b : Bool, (decide (V.str (tkKind t.tok) = V.str "word")) = b → b = match t.tok with | .name _ => true | _ => false := by
    intro b e
    rw [← e]
    cases t.tok with
    | name _ => exact decide_eq_true rfl
    | num _ => exact decide_eq_false (by show ¬ V.str "number" = V.str "word"; decide +kernel)
    | sign _ => exact decide_eq_false (by show ¬ V.str "sign" = V.str "word"; decide +kernel)
    | last => exact decide_eq_false (by show ¬ V.str "end" = V.str "word"; decide +kernel)
  rw [ek _ rfl]
  obtain ⟨p, tk⟩ := t
  cases tk with
  | name b =>
    refine ifT rfl ?_
    refine ⟨_, rfl, r, dx, _, rfl, hrr, lm_Reader_here, r, _, m, rfl, hr', fun q2 bh2 tq2 => ?_⟩
    obtain ⟨dt2, et2⟩ := id tq2
    refine ⟨_, _, _, _, _, rfl, (et2), T.c_Token.cl, T.c_Token.no _ (by simp), lk_Token_value, ?_⟩
    refine ⟨_, rfl, rfl, ?_⟩
    show Q (.bl (decide (vB b = vB w))) H
    rw [dec_vB]
    exact k
  | num _ => exact ifF rfl k
  | sign _ => exact ifF rfl k
  | last => exact ifF rfl k
def sp_Reader_take_kind (A : Ad) (K : PySem.W.Frag) : Sp := fun vs H Q E => ∃ (r : PySem.Addr) (kd : Str) (t : PTok) (m : Toks), vs = [.ref r, .str kd] ∧ RdrAt A H r (t :: m) ∧ t.place ≤ 4096 ∧
  (∀ q bh H', tkKind t.tok = kd → TokAt A H' q t bh → RdrAt A H' r m → KpR A H H' → Q (.ref q) H') ∧ (tkKind t.tok ≠ kd → ErrK A H E ⟨3, t.place⟩)
theorem ok_Reader_take_kind (T : Txt K mg A) (Z : Apart A) : ∃ f fd, FnOk P w K mg base (L2.CX P w) 3 f fd ["self", "kind"] (sp_Reader_take_kind A K) ∧ Meth K A.Reader "take_kind" f ∧ Binds K fd ["self", "kind"] [] := by
  obtain ⟨f, fd, F, hm, hb⟩ := T.d_Reader_take_kind.ex
  obtain ⟨f_Reader_here, fd_Reader_here, G_Reader_here, M_Reader_here, b_Reader_here⟩ := ok_Reader_here (P := P) (w := w) (base := base) T Z
  obtain ⟨fF, fdF, GF, iF, tF, bF⟩ := ok_Fault_init (P := P) (w := w) (base := base) T Z
  refine ⟨f, fd, ?_, hm, hb⟩
  refine F.okX sc_Reader_take_kind (fun vs H Q E h => by obtain ⟨r, kd, t, m, rfl, hr', few1, k1, k2⟩ := h; rfl) (fun cdv A' outer s H vs Q E hr h => ?_)
  obtain ⟨r, kd, t, m, rfl, hr', few1, k1, k2⟩ := h
  refine ⟨_, (pss_cons (ps_set (i := 2) sc_Reader_take_kind.nd rfl (by first | exact Or.inl rfl | exact Or.inr rfl) (pe_meth0 (pv 0) T.c_Reader.cl M_Reader_here G_Reader_here (hr.mono (by decide)) b_Reader_here .nil pass0))
  (pss_cons (ps_if (pt_cmpR op_ne (pe_fldK (K := K) (pv 2) rfl) (pv 1) (nomark _)) (pss_one (ps_raise rfl (takes_of rfl rfl rfl rfl) (pmk_fl T.flt.fl iF tF GF (hr.mono (by decide)) bF T.flt.g (pa_cons pe_int (pa_cons (pe_fldK (K := K) (pv 2) rfl) pa_nil))))) pss_nil)
  (pss_cons (ps_fldaug (pv 0) pe_int in_add)
  (pss_one (ps_ret (pv 2)))))), ?_⟩
  obtain ⟨dx, tl, l, i, hrr, ht, hd, hl⟩ := id hr'
  refine ⟨_, rfl, r, dx, _, rfl, hrr, lm_Reader_here, r, t, m, rfl, hr', fun q bh tq => ?_⟩
  obtain ⟨dt, et⟩ := id tq
  refine ⟨_, rfl, ?_⟩
  refine ⟨_, _, _, _, _, rfl, (et), T.c_Token.cl, T.c_Token.no _ (by simp), lk_Token_kind, ?_⟩
  refine ⟨_, rfl, rfl, _, rfl, ?_⟩
  by_cases h : tkKind t.tok = kd
  · refine ifF (by rw [h]; simp) ?_
    refine ⟨_, rfl, r, A.Reader, dx, _, _, rfl, hrr, T.c_Reader.cl, T.c_Reader.no _ (by simp), lk_Reader_at, ?_⟩
    refine ⟨_, _, rfl, rfl, dx, _, hrr, by show 2 < 1000; decide, ?_⟩
    rw [pf_Reader_at]
    refine gen_heap (H := upd H r (.ins A.Reader dx (fs_Reader (.ref tl) (.int ((i : Int) + 1))))) (fun H' => H' r = some (.ins A.Reader dx (fs_Reader (.ref tl) (.int ((i : Int) + 1)))) ∧ But [r] H H') ⟨upd_same, but1⟩ ?_
    rintro H1 ⟨h1, b1⟩
    have kp := but_kp b1 hrr
    exact ⟨_, rfl, k1 q bh H1 h (tq.kp Z kp) ⟨dx, tl, l, i + 1, h1, ht.kp Z kp, by rw [← List.drop_drop, hd]; rfl, hl⟩ kp⟩
  · refine ifT (by simpa using h) ?_
    refine ⟨_, rfl, ?_⟩
    refine ⟨_, _, _, _, _, rfl, (et), T.c_Token.cl, T.c_Token.no _ (by simp), lk_Token_place, ?_⟩
    exact flt_mk (by decide) (by omega) (k2 h).err
/-- the taking methods: what is taken, or the fault -/
theorem kind_word {t : VasedBase.Tok} (h : tkKind t = "word") : ∃ w, t = .name w := by
  cases t with
  | name w => exact ⟨w, rfl⟩
  | num _ => exact absurd h (by show ¬ (Str.ofString "number" = Str.ofString "word"); decide +kernel)
  | sign _ => exact absurd h (by show ¬ (Str.ofString "sign" = Str.ofString "word"); decide +kernel)
  | last => exact absurd h (by show ¬ (Str.ofString "end" = Str.ofString "word"); decide +kernel)
theorem kind_number {t : VasedBase.Tok} (h : tkKind t = "number") : ∃ n, t = .num n := by
  cases t with
  | num w => exact ⟨w, rfl⟩
  | name _ => exact absurd h (by show ¬ (Str.ofString "word" = Str.ofString "number"); decide +kernel)
  | sign _ => exact absurd h (by show ¬ (Str.ofString "sign" = Str.ofString "number"); decide +kernel)
  | last => exact absurd h (by show ¬ (Str.ofString "end" = Str.ofString "number"); decide +kernel)
theorem kind_sign {t : VasedBase.Tok} (h : tkKind t = "sign") : ∃ n, t = .sign n := by
  cases t with
  | sign w => exact ⟨w, rfl⟩
  | name _ => exact absurd h (by show ¬ (Str.ofString "word" = Str.ofString "sign"); decide +kernel)
  | num _ => exact absurd h (by show ¬ (Str.ofString "number" = Str.ofString "sign"); decide +kernel)
  | last => exact absurd h (by show ¬ (Str.ofString "end" = Str.ofString "sign"); decide +kernel)
theorem kind_end {t : VasedBase.Tok} (h : tkKind t = "end") : t = .last := by
  cases t with
  | last => rfl
  | name _ => exact absurd h (by show ¬ (Str.ofString "word" = Str.ofString "end"); decide +kernel)
  | num _ => exact absurd h (by show ¬ (Str.ofString "number" = Str.ofString "end"); decide +kernel)
  | sign _ => exact absurd h (by show ¬ (Str.ofString "sign" = Str.ofString "end"); decide +kernel)
def sp_Reader_take_word (A : Ad) (K : PySem.W.Frag) : Sp := fun vs H Q E => ∃ (r : PySem.Addr) (x : Bt) (t : PTok) (m : Toks), vs = [.ref r, vB x] ∧ RdrAt A H r (t :: m) ∧ t.place ≤ 4096 ∧
  (∀ H', t.tok = .name x → RdrAt A H' r m → KpR A H H' → Q .non H') ∧ (t.tok ≠ .name x → ErrK A H E ⟨3, t.place⟩)
theorem ok_Reader_take_word (T : Txt K mg A) (Z : Apart A) : ∃ f fd, FnOk P w K mg base (L2.CX P w) 4 f fd ["self", "word"] (sp_Reader_take_word A K) ∧ Meth K A.Reader "take_word" f ∧ Binds K fd ["self", "word"] [] := by
  obtain ⟨f, fd, F, hm, hb⟩ := T.d_Reader_take_word.ex
  obtain ⟨f_Reader_take_kind, fd_Reader_take_kind, G_Reader_take_kind, M_Reader_take_kind, b_Reader_take_kind⟩ := ok_Reader_take_kind (P := P) (w := w) (base := base) T Z
  obtain ⟨fF, fdF, GF, iF, tF, bF⟩ := ok_Fault_init (P := P) (w := w) (base := base) T Z
  refine ⟨f, fd, ?_, hm, hb⟩
  refine F.okX sc_Reader_take_word (fun vs H Q E h => by obtain ⟨r, x, t, m, rfl, hr', few1, k1, k2⟩ := h; rfl) (fun cdv A' outer s H vs Q E hr h => ?_)
  obtain ⟨r, x, t, m, rfl, hr', few1, k1, k2⟩ := h
  refine ⟨_, (pss_cons (ps_set (i := 2) sc_Reader_take_word.nd rfl (by first | exact Or.inl rfl | exact Or.inr rfl) (pe_meth (pv 0) T.c_Reader.cl M_Reader_take_kind G_Reader_take_kind (hr.mono (by decide)) b_Reader_take_kind .nil (passes_call (takes_of rfl rfl rfl rfl) (fun _ _ _ _ h => h)) (pa_cons pe_str pa_nil)))
  (pss_one (ps_if (pt_cmpR op_ne (pe_fldK (K := K) (pv 2) rfl) (pv 1) (nomark _)) (pss_one (ps_raise rfl (takes_of rfl rfl rfl rfl) (pmk_fl T.flt.fl iF tF GF (hr.mono (by decide)) bF T.flt.g (pa_cons pe_int (pa_cons (pe_fldK (K := K) (pv 2) rfl) pa_nil))))) pss_nil))), ?_⟩
  obtain ⟨dx, tl, l, i, hrr, ht, hd, hl⟩ := id hr'
  refine ⟨_, rfl, r, dx, _, rfl, hrr, lm_Reader_take_kind, r, "word", t, m, rfl, hr', few1, fun q bh H1 ek tq hr1 kp => ?_, fun nk => k2 fun z => nk (by rw [z]; rfl)⟩
  obtain ⟨y, ey⟩ := kind_word ek
  obtain ⟨dt, et⟩ := id tq
  refine ⟨_, rfl, ?_⟩
  refine ⟨_, _, _, _, _, rfl, (et), T.c_Token.cl, T.c_Token.no _ (by simp), lk_Token_value, ?_⟩
  refine ⟨_, rfl, ?_⟩
  rw [ey]
  refine ⟨rfl, _, rfl, ?_⟩
  show (if (!decide (vB y = vB x)) = true then _ else _)
  rw [dec_vB]
  by_cases h : y = x
  · refine ifF (by rw [h]; simp) ?_
    exact k1 H1 (by rw [ey, h]) hr1 kp
  · refine ifT (by simpa using h) ?_
    refine ⟨_, rfl, ?_⟩
    refine ⟨_, _, _, _, _, rfl, (et), T.c_Token.cl, T.c_Token.no _ (by simp), lk_Token_place, ?_⟩
    exact flt_mk (by decide) (by omega) ((k2 (fun z => h (by rw [ey] at z; cases z; rfl))).same kp).err
theorem reserved_is (x : Bt) : inV (vB x) [.str "if", .str "all", .str "line", .str "from", .str "to", .str "last", .str "has", .str "is", .str "not", .str "delete", .str "before", .str "after", .str "change", .str "swap", .str "first", .str "keep", .str "bring", .str "trade", .str "skip", .str "stop", .str "none"] = VasedBase.RESERVED.contains x := by
  rw [← in_txts]
  congr 1
def sp_Reader_take_letters (A : Ad) (K : PySem.W.Frag) : Sp := fun vs H Q E => ∃ (r : PySem.Addr) (t : PTok) (m : Toks), vs = [.ref r] ∧ RdrAt A H r (t :: m) ∧ t.place ≤ 4096 ∧
  (∀ x H', VasedBase.takeName (t :: m) = .ok (⟨t.place, x⟩, m) → Vaseda.takeLetters (t :: m) = .ok (x, m) → RdrAt A H' r m → KpR A H H' → Q (vB x) H') ∧ (∀ f, Vaseda.takeLetters (t :: m) = .error f → ErrK A H E f)
theorem ok_Reader_take_letters (T : Txt K mg A) (Z : Apart A) : ∃ f fd, FnOk P w K mg base (L2.CX P w) 4 f fd ["self"] (sp_Reader_take_letters A K) ∧ Meth K A.Reader "take_letters" f ∧ Binds K fd ["self"] [] := by
  obtain ⟨f, fd, F, hm, hb⟩ := T.d_Reader_take_letters.ex
  obtain ⟨f_Reader_take_kind, fd_Reader_take_kind, G_Reader_take_kind, M_Reader_take_kind, b_Reader_take_kind⟩ := ok_Reader_take_kind (P := P) (w := w) (base := base) T Z
  obtain ⟨fF, fdF, GF, iF, tF, bF⟩ := ok_Fault_init (P := P) (w := w) (base := base) T Z
  refine ⟨f, fd, ?_, hm, hb⟩
  refine F.okX sc_Reader_take_letters (fun vs H Q E h => by obtain ⟨r, t, m, rfl, hr', few1, k1, k2⟩ := h; rfl) (fun cdv A' outer s H vs Q E hr h => ?_)
  obtain ⟨r, t, m, rfl, hr', few1, k1, k2⟩ := h
  refine ⟨_, (pss_cons (ps_set (i := 1) sc_Reader_take_letters.nd rfl (by first | exact Or.inl rfl | exact Or.inr rfl) (pe_meth (pv 0) T.c_Reader.cl M_Reader_take_kind G_Reader_take_kind (hr.mono (by decide)) b_Reader_take_kind .nil (passes_call (takes_of rfl rfl rfl rfl) (fun _ _ _ _ h => h)) (pa_cons pe_str pa_nil)))
  (pss_cons (ps_if (pt_cmpR (op_in_seqK (K := K)) (pe_fldK (K := K) (pv 1) rfl) (pe_gt T.g_OWN_WORDS) (by rfl)) (pss_one (ps_raise rfl (takes_of rfl rfl rfl rfl) (pmk_fl T.flt.fl iF tF GF (hr.mono (by decide)) bF T.flt.g (pa_cons pe_int (pa_cons (pe_fldK (K := K) (pv 1) rfl) pa_nil))))) pss_nil)
  (pss_one (ps_ret (pe_fldK (K := K) (pv 1) rfl))))), ?_⟩
  obtain ⟨dx, tl, l, i, hrr, ht, hd, hl⟩ := id hr'
  refine ⟨_, rfl, r, dx, _, rfl, hrr, lm_Reader_take_kind, r, "word", t, m, rfl, hr', few1, fun q bh H1 ek tq hr1 kp => ?_, fun nk => k2 _ ?_⟩
  · obtain ⟨y, ey⟩ := kind_word ek
    obtain ⟨dt, et⟩ := id tq
    obtain ⟨p, tk⟩ := t
    cases ey
    refine ⟨_, rfl, ?_⟩
    refine ⟨_, _, _, _, _, rfl, (et), T.c_Token.cl, T.c_Token.no _ (by simp), lk_Token_value, ?_⟩
    intro a ha
    refine ⟨a, _, rfl, .inr ha, rfl, rfl, _, rfl, ?_⟩
    rw [if_neg Bool.false_ne_true]
    show (if inV (vB y) _ = true then _ else _)
    rw [reserved_is]
    by_cases h : VasedBase.RESERVED.contains y = true
    · refine ifT h ?_
      refine ⟨_, rfl, ?_⟩
      refine ⟨_, _, _, _, _, rfl, (et), T.c_Token.cl, T.c_Token.no _ (by simp), lk_Token_place, ?_⟩
      refine flt_mk (by decide) (by omega) ((k2 ⟨3, p⟩ ?_).same kp).err
      unfold Vaseda.takeLetters VasedBase.takeName
      simp only []
      rw [if_pos h]
      rfl
    · refine ifF (by simpa using h) ?_
      refine ⟨_, rfl, ?_⟩
      refine ⟨_, _, _, _, _, rfl, (et), T.c_Token.cl, T.c_Token.no _ (by simp), lk_Token_value, ?_⟩
      have e : VasedBase.takeName (⟨p, .name y⟩ :: m) = .ok (⟨p, y⟩, m) := by
        unfold VasedBase.takeName
        simp only []
        rw [if_neg h]
      refine k1 y H1 e ?_ hr1 kp
      unfold Vaseda.takeLetters
      rw [e]
      rfl
  · obtain ⟨p, tk⟩ := t
    cases tk with
    | name b => exact absurd rfl nk
    | num _ => rfl
    | sign _ => rfl
    | last => rfl
def sp_Reader_take_number (A : Ad) (K : PySem.W.Frag) : Sp := fun vs H Q E => ∃ (r : PySem.Addr) (lo hi : Nat) (t : PTok) (m : Toks), vs = [.ref r, vN lo, vN hi] ∧ RdrAt A H r (t :: m) ∧ t.place ≤ 4096 ∧
  (∀ x H', Vaseda.takeNum lo hi (t :: m) = .ok (x, m) → RdrAt A H' r m → KpR A H H' → Q (vN x) H') ∧ (∀ f, Vaseda.takeNum lo hi (t :: m) = .error f → ErrK A H E f)
theorem ok_Reader_take_number (T : Txt K mg A) (Z : Apart A) : ∃ f fd, FnOk P w K mg base (L2.CX P w) 4 f fd ["self", "least", "greatest"] (sp_Reader_take_number A K) ∧ Meth K A.Reader "take_number" f ∧ Binds K fd ["self", "least", "greatest"] [] := by
  obtain ⟨f, fd, F, hm, hb⟩ := T.d_Reader_take_number.ex
  obtain ⟨f_Reader_take_kind, fd_Reader_take_kind, G_Reader_take_kind, M_Reader_take_kind, b_Reader_take_kind⟩ := ok_Reader_take_kind (P := P) (w := w) (base := base) T Z
  obtain ⟨fF, fdF, GF, iF, tF, bF⟩ := ok_Fault_init (P := P) (w := w) (base := base) T Z
  refine ⟨f, fd, ?_, hm, hb⟩
  refine F.okX sc_Reader_take_number (fun vs H Q E h => by obtain ⟨r, lo, hi, t, m, rfl, hr', few1, k1, k2⟩ := h; rfl) (fun cdv A' outer s H vs Q E hr h => ?_)
  obtain ⟨r, lo, hi, t, m, rfl, hr', few1, k1, k2⟩ := h
  refine ⟨_, (pss_cons (ps_set (i := 3) sc_Reader_take_number.nd rfl (by first | exact Or.inl rfl | exact Or.inr rfl) (pe_meth (pv 0) T.c_Reader.cl M_Reader_take_kind G_Reader_take_kind (hr.mono (by decide)) b_Reader_take_kind .nil (passes_call (takes_of rfl rfl rfl rfl) (fun _ _ _ _ h => h)) (pa_cons pe_str pa_nil)))
  (pss_cons (ps_if (PW.pt (pw_or (pt_cmpR op_lt (pe_fldK (K := K) (pv 3) rfl) (pv 1) (nomark _)) (pw_or1 (pt_cmpR op_gt (pe_fldK (K := K) (pv 3) rfl) (pv 2) (nomark _))))) (pss_one (ps_raise rfl (takes_of rfl rfl rfl rfl) (pmk_fl T.flt.fl iF tF GF (hr.mono (by decide)) bF T.flt.g (pa_cons pe_int (pa_cons (pe_fldK (K := K) (pv 3) rfl) pa_nil))))) pss_nil)
  (pss_one (ps_ret (pe_fldK (K := K) (pv 3) rfl))))), ?_⟩
  obtain ⟨dx, tl, l, i, hrr, ht, hd, hl⟩ := id hr'
  refine ⟨_, rfl, r, dx, _, rfl, hrr, lm_Reader_take_kind, r, "number", t, m, rfl, hr', few1, fun q bh H1 ek tq hr1 kp => ?_, fun nk => k2 _ ?_⟩
  · obtain ⟨y, ey⟩ := kind_number ek
    obtain ⟨dt, et⟩ := id tq
    obtain ⟨p, tk⟩ := t
    cases ey
    refine ⟨_, rfl, ?_⟩
    refine ⟨_, _, _, _, _, rfl, (et), T.c_Token.cl, T.c_Token.no _ (by simp), lk_Token_value, ?_⟩
    refine ⟨_, rfl, _, _, rfl, rfl, _, rfl, ?_⟩
    have d1 : decide ((y : Int) < (lo : Int)) = decide (y < lo) := decide_eq_decide.mpr (by omega)
    have d2 : decide ((y : Int) > (hi : Int)) = decide (hi < y) := decide_eq_decide.mpr (by omega)
    show (if decide ((y : Int) < (lo : Int)) = true then _ else _)
    rw [d1]
    have bad : y < lo ∨ hi < y → ErrK A H1 E ⟨7, p⟩ := fun h => (k2 ⟨7, p⟩ (by
      unfold Vaseda.takeNum
      simp only []
      rw [if_pos h])).same kp
    by_cases h : y < lo
    · refine ifT (decide_eq_true h) ?_
      refine ifT rfl ?_
      refine ⟨_, rfl, ?_⟩
      refine ⟨_, _, _, _, _, rfl, (et), T.c_Token.cl, T.c_Token.no _ (by simp), lk_Token_place, ?_⟩
      exact flt_mk (by decide) (by omega) (bad (.inl h)).err
    · refine ifF (decide_eq_false h) ?_
      refine ⟨_, rfl, ?_⟩
      refine ⟨_, _, _, _, _, rfl, (et), T.c_Token.cl, T.c_Token.no _ (by simp), lk_Token_value, ?_⟩
      refine ⟨_, rfl, _, _, rfl, rfl, _, rfl, ?_⟩
      show (if decide ((y : Int) > (hi : Int)) = true then _ else _)
      rw [d2]
      by_cases h2 : hi < y
      · refine ifT (decide_eq_true h2) ?_
        refine ⟨_, rfl, ?_⟩
        refine ⟨_, _, _, _, _, rfl, (et), T.c_Token.cl, T.c_Token.no _ (by simp), lk_Token_place, ?_⟩
        exact flt_mk (by decide) (by omega) (bad (.inr h2)).err
      · refine ifF (decide_eq_false h2) ?_
        refine ⟨_, rfl, ?_⟩
        refine ⟨_, _, _, _, _, rfl, (et), T.c_Token.cl, T.c_Token.no _ (by simp), lk_Token_value, ?_⟩
        refine k1 y H1 ?_ hr1 kp
        unfold Vaseda.takeNum
        simp only []
        rw [if_neg (by omega)]
  · obtain ⟨p, tk⟩ := t
    cases tk with
    | num b => exact absurd rfl nk
    | name _ => rfl
    | sign _ => rfl
    | last => rfl
end
end
end SK
set_option Elab.async false
set_option linter.all false
set_option maxRecDepth 100000
set_option maxHeartbeats 2000000
namespace SK
open PySem PySem.Spec PyProof.Rows L2
section
variable {P : Program} {w : World} {K : PySem.W.Frag} {mg : Str → Option Value} {base : Heap} {A : Ad}
section
open VasedBase (PTok Toks Fault word)
open MP (TkOk tokOk)
open Vaseda (Deed takeLetters takeNum takeDeed takeInstead takeAddr takeCmd takeCmds)

theorem w_if : V.str "if" = vB (word "if") := by kernel_rfl
theorem w_all : V.str "all" = vB (word "all") := by kernel_rfl
theorem w_line : V.str "line" = vB (word "line") := by kernel_rfl
theorem w_from : V.str "from" = vB (word "from") := by kernel_rfl
theorem w_to : V.str "to" = vB (word "to") := by kernel_rfl
theorem w_last : V.str "last" = vB (word "last") := by kernel_rfl
theorem w_has : V.str "has" = vB (word "has") := by kernel_rfl
theorem w_is : V.str "is" = vB (word "is") := by kernel_rfl
theorem w_not : V.str "not" = vB (word "not") := by kernel_rfl
theorem w_delete : V.str "delete" = vB (word "delete") := by kernel_rfl
theorem w_before : V.str "before" = vB (word "before") := by kernel_rfl
theorem w_after : V.str "after" = vB (word "after") := by kernel_rfl
theorem w_change : V.str "change" = vB (word "change") := by kernel_rfl
theorem w_swap : V.str "swap" = vB (word "swap") := by kernel_rfl
theorem w_first : V.str "first" = vB (word "first") := by kernel_rfl
theorem w_keep : V.str "keep" = vB (word "keep") := by kernel_rfl
theorem w_bring : V.str "bring" = vB (word "bring") := by kernel_rfl
theorem w_trade : V.str "trade" = vB (word "trade") := by kernel_rfl
theorem w_skip : V.str "skip" = vB (word "skip") := by kernel_rfl
theorem w_stop : V.str "stop" = vB (word "stop") := by kernel_rfl
theorem w_none : V.str "none" = vB (word "none") := by kernel_rfl
theorem next_word {t : PTok} {m : Toks} {s : String} : VasedBase.nextWord s (t :: m) = VasedBase.tokEq t.tok (.name (word s)) := rfl
theorem tok_yes {t : VasedBase.Tok} {w : Bt} (h : VasedBase.tokEq t (.name w) = true) : t = .name w := MP.tokEq_name.mp h
/-! ### read_nots -/
def sp_read_nots (A : Ad) (K : PySem.W.Frag) : Sp := fun vs H Q E => ∃ (r : PySem.Addr) (m : Toks), vs = [.ref r] ∧ RdrAt A H r m ∧ TkOk m ∧
  (∀ n H', n ≤ 3 → (∀ j, j < n → VasedBase.nextWord "not" (m.drop j) = true) → VasedBase.nextWord "not" (m.drop n) = false → TkOk (m.drop n) → RdrAt A H' r (m.drop n) → KpR A H H' → Q (vN n) H') ∧
  ((∀ j, j < 4 → VasedBase.nextWord "not" (m.drop j) = true) → ErrK A H E ⟨4, VasedBase.here (m.drop 3)⟩)
theorem ok_read_nots (T : Txt K mg A) (Z : Apart A) : ∃ f fd, FnOk P w K mg base (L2.CX P w) 5 f fd ["reader"] (sp_read_nots A K) ∧ mg "read_nots" = some (.ref f) ∧ PySem.W.keepIn K (.ref f) = true ∧ Binds K fd ["reader"] [] := by
  obtain ⟨f, fd, F, hm, hb⟩ := T.d_read_nots.ex
  obtain ⟨f_Reader_here, fd_Reader_here, G_Reader_here, M_Reader_here, b_Reader_here⟩ := ok_Reader_here (P := P) (w := w) (base := base) T Z
  obtain ⟨f_Reader_stands, fd_Reader_stands, G_Reader_stands, M_Reader_stands, b_Reader_stands⟩ := ok_Reader_stands (P := P) (w := w) (base := base) T Z
  obtain ⟨f_Reader_take_word, fd_Reader_take_word, G_Reader_take_word, M_Reader_take_word, b_Reader_take_word⟩ := ok_Reader_take_word (P := P) (w := w) (base := base) T Z
  obtain ⟨fF, fdF, GF, iF, tF, bF⟩ := ok_Fault_init (P := P) (w := w) (base := base) T Z
  refine ⟨f, fd, ?_, hm, F.kp, hb⟩
  refine F.okX sc_read_nots (fun vs H Q E h => by obtain ⟨r, m, rfl, hr', tk, k1, k2⟩ := h; rfl) (fun cdv A' outer s H vs Q E hr h => ?_)
  obtain ⟨r, m, rfl, hr', tk, k1, k2⟩ := h
  refine ⟨_, (pss_cons (ps_set (i := 1) sc_read_nots.nd rfl (by first | exact Or.inl rfl | exact Or.inr rfl) pe_int)
  (pss_cons (ps_while (passes_of rfl) (pt_val (pe_meth (pv 0) T.c_Reader.cl M_Reader_stands G_Reader_stands (hr.mono (by decide)) b_Reader_stands .nil pass0 (pa_cons pe_str pa_nil))) (pss_cons (ps_if (pt_cmpR op_eq (pv 1) (pe_gi T.g_MOST_NOTS) (nomark _)) (pss_one (ps_raise rfl (takes_of rfl rfl rfl rfl) (pmk_fl T.flt.fl iF tF GF (hr.mono (by decide)) bF T.flt.g (pa_cons pe_int (pa_cons (pe_fldK (K := K) (pe_meth0 (pv 0) T.c_Reader.cl M_Reader_here G_Reader_here (hr.mono (by decide)) b_Reader_here .nil pass0) rfl) pa_nil))))) pss_nil)
  (pss_cons (ps_expr (pe_meth (pv 0) T.c_Reader.cl M_Reader_take_word G_Reader_take_word (hr.mono (by decide)) b_Reader_take_word .nil (passes_call (takes_of rfl rfl rfl rfl) (fun _ _ _ _ h => h)) (pa_cons pe_str pa_nil)))
  (pss_one (ps_aug (i := 1) sc_read_nots.nd rfl (by first | exact Or.inl rfl | exact Or.inr rfl) pe_int ip_add)))))
  (pss_one (ps_ret (pv 1))))), ?_⟩
  refine while_do (fun σ H' => ∃ n : Nat, σ = [some (.ref r), some (vN n)] ∧ n ≤ 3 ∧ (∀ j, j < n → VasedBase.nextWord "not" (m.drop j) = true) ∧ TkOk (m.drop n) ∧ RdrAt A H' r (m.drop n) ∧ KpR A H H')
    (fun σ _ => match σ with | [_, some (.int n)] => 4 - n.toNat | _ => 0) ⟨0, rfl, by decide, fun _ h => absurd h (Nat.not_lt_zero _), tk, hr', KpR.refl⟩ ?_
  rintro σ H1 ⟨n, rfl, hn, hall, tk1, hr1, kp⟩ G g1 g2
  obtain ⟨t, m1, em, hpl, hcase⟩ := tk1.cons
  rw [em] at hr1
  obtain ⟨dx, tl, l, i, hrr, ht, hd, hl⟩ := id hr1
  refine ⟨_, rfl, r, dx, _, rfl, hrr, lm_Reader_stands, ?_⟩
  refine ⟨r, word "not", t, m1, by rw [w_not]; rfl, hr1, _, rfl, ?_⟩
  have ew : VasedBase.nextWord "not" (m.drop n) = VasedBase.tokEq t.tok (.name (word "not")) := by rw [em]; rfl
  by_cases h : VasedBase.tokEq t.tok (.name (word "not")) = true
  · rw [h]
    refine g1 H1 ?_
    have tn := tok_yes h
    refine ⟨_, rfl, rfl, _, rfl, ?_⟩
    by_cases h3 : n = 3
    · subst h3
      refine ifT (decide_eq_true rfl) ?_
      refine ⟨_, rfl, r, dx, _, rfl, hrr, lm_Reader_here, r, t, m1, rfl, hr1, fun q bh tq => ?_⟩
      obtain ⟨dt, et⟩ := id tq
      refine ⟨_, _, _, _, _, rfl, (et), T.c_Token.cl, T.c_Token.no _ (by simp), lk_Token_place, ?_⟩
      have z := (k2 fun j hj => by
        by_cases e : j = 3
        · rw [e, ew]; exact h
        · exact hall j (by omega)).same kp
      rw [em] at z
      exact flt_mk (by decide) (by omega) z.err
    · refine ifF (decide_eq_false fun z => h3 (by have := V.int.inj z; omega)) ?_
      refine ⟨_, rfl, r, dx, _, rfl, hrr, lm_Reader_take_word, r, word "not", t, m1, by rw [w_not]; rfl, hr1, hpl, fun H2 e2 hr2 kp2 => ?_, fun z => absurd tn z⟩
      have dm : m.drop (n + 1) = m1 := by rw [← List.drop_drop, em]; rfl
      refine ⟨_, rfl, n, 1, rfl, rfl, ⟨n + 1, rfl, by omega, fun j hj => ?_, ?_, by rw [dm]; exact hr2, kp.trans kp2⟩, ?_⟩
      · by_cases e : j = n
        · rw [e, ew]; exact h
        · exact hall j (by omega)
      · rw [dm]
        rcases hcase with ⟨z, _⟩ | ⟨_, z⟩
        · rw [tn] at z; cases z
        · exact z
      · show 4 - ((n : Int) + 1).toNat < 4 - (n : Int).toNat
        omega
  · have h' : VasedBase.tokEq t.tok (.name (word "not")) = false := by simpa using h
    rw [h']
    refine g2 H1 ⟨_, rfl, ?_⟩
    exact k1 n H1 hn hall (by rw [ew, h']) tk1 (by rw [em]; exact hr1) kp
/-! ### read_other -/
def sp_read_other (A : Ad) (K : PySem.W.Frag) : Sp := fun vs H Q E => ∃ (r : PySem.Addr) (m : Toks), vs = [.ref r] ∧ RdrAt A H r m ∧ TkOk m ∧
  (∀ x m' H', takeInstead m = .ok (x, m') → RdrAt A H' r m' → KpR A H H' → Q (vB x) H') ∧ (∀ f, takeInstead m = .error f → ErrK A H E f)
theorem ok_read_other (T : Txt K mg A) (Z : Apart A) : ∃ f fd, FnOk P w K mg base (L2.CX P w) 5 f fd ["reader"] (sp_read_other A K) ∧ mg "read_other" = some (.ref f) ∧ PySem.W.keepIn K (.ref f) = true ∧ Binds K fd ["reader"] [] := by
  obtain ⟨f, fd, F, hm, hb⟩ := T.d_read_other.ex
  obtain ⟨f_Reader_stands, fd_Reader_stands, G_Reader_stands, M_Reader_stands, b_Reader_stands⟩ := ok_Reader_stands (P := P) (w := w) (base := base) T Z
  obtain ⟨f_Reader_take_letters, fd_Reader_take_letters, G_Reader_take_letters, M_Reader_take_letters, b_Reader_take_letters⟩ := ok_Reader_take_letters (P := P) (w := w) (base := base) T Z
  obtain ⟨f_Reader_take_word, fd_Reader_take_word, G_Reader_take_word, M_Reader_take_word, b_Reader_take_word⟩ := ok_Reader_take_word (P := P) (w := w) (base := base) T Z
  refine ⟨f, fd, ?_, hm, F.kp, hb⟩
  refine F.okX sc_read_other (fun vs H Q E h => by obtain ⟨r, m, rfl, hr', tk, k1, k2⟩ := h; rfl) (fun cdv A' outer s H vs Q E hr h => ?_)
  obtain ⟨r, m, rfl, hr', tk, k1, k2⟩ := h
  refine ⟨_, (pss_cons (ps_if (pt_val (pe_meth (pv 0) T.c_Reader.cl M_Reader_stands G_Reader_stands (hr.mono (by decide)) b_Reader_stands .nil pass0 (pa_cons pe_str pa_nil))) (pss_cons (ps_expr (pe_meth (pv 0) T.c_Reader.cl M_Reader_take_word G_Reader_take_word (hr.mono (by decide)) b_Reader_take_word .nil (passes_call (takes_of rfl rfl rfl rfl) (fun _ _ _ _ h => h)) (pa_cons pe_str pa_nil)))
  (pss_one (ps_ret pe_str))) pss_nil)
  (pss_one (ps_ret (pe_meth0 (pv 0) T.c_Reader.cl M_Reader_take_letters G_Reader_take_letters (hr.mono (by decide)) b_Reader_take_letters .nil (passes_call (takes_of rfl rfl rfl rfl) (fun _ _ _ _ h => h)))))), ?_⟩
  obtain ⟨t, m1, rfl, hpl, hcase⟩ := tk.cons
  obtain ⟨dx, tl, l, i, hrr, ht, hd, hl⟩ := id hr'
  refine ⟨_, rfl, r, dx, _, rfl, hrr, lm_Reader_stands, r, word "none", t, m1, by rw [w_none]; rfl, hr', _, rfl, ?_⟩
  by_cases h : VasedBase.tokEq t.tok (.name (word "none")) = true
  · refine ifT h ?_
    refine ⟨_, rfl, r, dx, _, rfl, hrr, lm_Reader_take_word, r, word "none", t, m1, by rw [w_none]; rfl, hr', hpl, fun H2 e2 hr2 kp2 => ?_, fun z => absurd (tok_yes h) z⟩
    have q := k1 [] m1 H2 (by unfold takeInstead; rw [next_word, if_pos h]; rfl) hr2 kp2
    rw [vB, sB_nil] at q
    exact q
  · refine ifF (by simpa using h) ?_
    have e : takeInstead (t :: m1) = takeLetters (t :: m1) := by unfold takeInstead; rw [next_word, if_neg h]
    refine ⟨_, rfl, r, dx, _, rfl, hrr, lm_Reader_take_letters, r, t, m1, rfl, hr', hpl, fun x H2 _ e2 hr2 kp2 => ?_, fun f ef => k2 f (by rw [e]; exact ef)⟩
    exact k1 x m1 H2 (by rw [e]; exact e2) hr2 kp2

/-! ### read_deed -/
theorem td_delete (p : Nat) (m : Toks) : takeDeed (⟨p, .name (word "delete")⟩ :: m) = .ok (Deed.delete, m) := by kernel_rfl
theorem td_keep (p : Nat) (m : Toks) : takeDeed (⟨p, .name (word "keep")⟩ :: m) = .ok (Deed.keep, m) := by kernel_rfl
theorem td_bring (p : Nat) (m : Toks) : takeDeed (⟨p, .name (word "bring")⟩ :: m) = .ok (Deed.bring, m) := by kernel_rfl
theorem td_trade (p : Nat) (m : Toks) : takeDeed (⟨p, .name (word "trade")⟩ :: m) = .ok (Deed.trade, m) := by kernel_rfl
theorem td_stop (p : Nat) (m : Toks) : takeDeed (⟨p, .name (word "stop")⟩ :: m) = .ok (Deed.halt_, m) := by kernel_rfl
theorem td_before (p : Nat) (m : Toks) : takeDeed (⟨p, .name (word "before")⟩ :: m) = (takeLetters m).map fun x => (Deed.before x.1, x.2) := by kernel_rfl
theorem td_after (p : Nat) (m : Toks) : takeDeed (⟨p, .name (word "after")⟩ :: m) = (takeLetters m).map fun x => (Deed.after x.1, x.2) := by kernel_rfl
theorem td_change (p : Nat) (m : Toks) : takeDeed (⟨p, .name (word "change")⟩ :: m) = (takeLetters m).map fun x => (Deed.change x.1, x.2) := by kernel_rfl
theorem td_swap (p : Nat) (m : Toks) : takeDeed (⟨p, .name (word "swap")⟩ :: m) = Vaseda.takeTwo Deed.swap m := by kernel_rfl
theorem td_first (p : Nat) (m : Toks) : takeDeed (⟨p, .name (word "first")⟩ :: m) = Vaseda.takeTwo Deed.first m := by kernel_rfl
theorem td_skip (p : Nat) (m : Toks) : takeDeed (⟨p, .name (word "skip")⟩ :: m) = (takeNum 1 9 m).map fun x => (Deed.skip x.1, x.2) := by kernel_rfl
theorem td_else {p : Nat} {y : Bt} {m : Toks} (h_delete : ¬ y = word "delete") (h_keep : ¬ y = word "keep") (h_bring : ¬ y = word "bring") (h_trade : ¬ y = word "trade") (h_stop : ¬ y = word "stop") (h_before : ¬ y = word "before") (h_after : ¬ y = word "after") (h_change : ¬ y = word "change") (h_swap : ¬ y = word "swap") (h_first : ¬ y = word "first") (h_skip : ¬ y = word "skip") : takeDeed (⟨p, .name y⟩ :: m) = .error ⟨3, p⟩ := by
  unfold takeDeed
  have e : ∀ s : String, ¬ y = word s → ¬ VasedBase.nextWord s (⟨p, .name y⟩ :: m) = true := fun s h z => h (by
    have z : VasedBase.tokEq (.name y) (.name (word s)) = true := z
    have := tok_yes z
    cases this
    rfl)
  simp only []
  rw [if_neg (e "delete" h_delete), if_neg (e "before" h_before), if_neg (e "after" h_after), if_neg (e "change" h_change), if_neg (e "swap" h_swap), if_neg (e "first" h_first), if_neg (e "keep" h_keep), if_neg (e "bring" h_bring), if_neg (e "trade" h_trade), if_neg (e "skip" h_skip), if_neg (e "stop" h_stop)]
  rfl
theorem in_no {y : Bt} {vs : List V} {ws : List Bt} (e : vs = ws.map vB) (h : ∀ w ∈ ws, ¬ y = w) : inV (vB y) vs = false := by
  rw [e, in_txts, List.contains_eq_any_beq, List.any_eq_false]
  intro w hw z
  exact h w hw (eq_of_beq z)
def sp_read_deed (A : Ad) (K : PySem.W.Frag) : Sp := fun vs H Q E => ∃ (r : PySem.Addr) (m : Toks), vs = [.ref r] ∧ RdrAt A H r m ∧ TkOk m ∧
  (∀ q H' d m', takeDeed m = .ok (d, m') → DeedAt A H' q d → RdrAt A H' r m' → KpR A H H' → Q (.ref q) H') ∧ (∀ f, takeDeed m = .error f → ErrK A H E f)
theorem ok_read_deed (T : Txt K mg A) (Z : Apart A) : ∃ f fd, FnOk P w K mg base (L2.CX P w) 6 f fd ["reader"] (sp_read_deed A K) ∧ mg "read_deed" = some (.ref f) ∧ PySem.W.keepIn K (.ref f) = true ∧ Binds K fd ["reader"] [] := by
  obtain ⟨f, fd, F, hm, hb⟩ := T.d_read_deed.ex
  obtain ⟨f_Deed_init, fd_Deed_init, G_Deed_init, M_Deed, m_Deed, b_Deed_init⟩ := ok_Deed_init (P := P) (w := w) (base := base) T Z
  obtain ⟨f_Reader_take_kind, fd_Reader_take_kind, G_Reader_take_kind, M_Reader_take_kind, b_Reader_take_kind⟩ := ok_Reader_take_kind (P := P) (w := w) (base := base) T Z
  obtain ⟨f_Reader_take_letters, fd_Reader_take_letters, G_Reader_take_letters, M_Reader_take_letters, b_Reader_take_letters⟩ := ok_Reader_take_letters (P := P) (w := w) (base := base) T Z
  obtain ⟨f_Reader_take_number, fd_Reader_take_number, G_Reader_take_number, M_Reader_take_number, b_Reader_take_number⟩ := ok_Reader_take_number (P := P) (w := w) (base := base) T Z
  obtain ⟨f_read_other, fd_read_other, G_read_other, m_read_other, k_read_other, b_read_other⟩ := ok_read_other (P := P) (w := w) (base := base) T Z
  obtain ⟨fF, fdF, GF, iF, tF, bF⟩ := ok_Fault_init (P := P) (w := w) (base := base) T Z
  refine ⟨f, fd, ?_, hm, F.kp, hb⟩
  refine F.okX sc_read_deed (fun vs H Q E h => by obtain ⟨r, m, rfl, hr', hk, k1, k2⟩ := h; rfl) (fun cdv A' outer s H vs Q E hr h => ?_)
  obtain ⟨r, m, rfl, hr', hk, k1, k2⟩ := h
  refine ⟨_, (pss_cons (ps_set (i := 1) sc_read_deed.nd rfl (by first | exact Or.inl rfl | exact Or.inr rfl) (pe_meth (pv 0) T.c_Reader.cl M_Reader_take_kind G_Reader_take_kind (hr.mono (by decide)) b_Reader_take_kind .nil (passes_call (takes_of rfl rfl rfl rfl) (fun _ _ _ _ h => h)) (pa_cons pe_str pa_nil)))
  (pss_cons (ps_set (i := 2) sc_read_deed.nd rfl (by first | exact Or.inl rfl | exact Or.inr rfl) (pe_fldK (K := K) (pv 1) rfl))
  (pss_cons (ps_if (pt_cmpR (op_in_seqK (K := K)) (pv 2) (pe_gt T.g_DEEDS_ALONE) (by rfl)) (pss_one (ps_ret (pe_make M_Deed G_Deed_init (hr.mono (by decide)) rfl m_Deed b_Deed_init .nil pass0 (pa_cons (pv 2) (pa_cons pe_str (pa_cons pe_str (pa_cons pe_int pa_nil))))))) pss_nil)
  (pss_cons (ps_if (pt_cmpR (op_in_seqK (K := K)) (pv 2) (pe_gt T.g_DEEDS_OF_LETTERS) (by rfl)) (pss_one (ps_ret (pe_make M_Deed G_Deed_init (hr.mono (by decide)) rfl m_Deed b_Deed_init .nil pass0 (pa_cons (pv 2) (pa_cons (pe_meth0 (pv 0) T.c_Reader.cl M_Reader_take_letters G_Reader_take_letters (hr.mono (by decide)) b_Reader_take_letters .nil (passes_call (takes_of rfl rfl rfl rfl) (fun _ _ _ _ h => h))) (pa_cons pe_str (pa_cons pe_int pa_nil))))))) pss_nil)
  (pss_cons (ps_if (pt_cmpR (op_in_seqK (K := K)) (pv 2) (pe_gt T.g_DEEDS_OF_TWO) (by rfl)) (pss_cons (ps_set (i := 3) sc_read_deed.nd rfl (by first | exact Or.inl rfl | exact Or.inr rfl) (pe_meth0 (pv 0) T.c_Reader.cl M_Reader_take_letters G_Reader_take_letters (hr.mono (by decide)) b_Reader_take_letters .nil (passes_call (takes_of rfl rfl rfl rfl) (fun _ _ _ _ h => h))))
  (pss_one (ps_ret (pe_make M_Deed G_Deed_init (hr.mono (by decide)) rfl m_Deed b_Deed_init .nil pass0 (pa_cons (pv 2) (pa_cons (pv 3) (pa_cons (pe_call G_read_other (hr.mono (by decide)) rfl m_read_other k_read_other b_read_other .nil (passes_call (takes_of rfl rfl rfl rfl) (fun _ _ _ _ h => h)) (pa_cons (pv 0) pa_nil)) (pa_cons pe_int pa_nil)))))))) pss_nil)
  (pss_cons (ps_if (pt_cmpR op_eq (pv 2) pe_str (nomark _)) (pss_one (ps_ret (pe_make M_Deed G_Deed_init (hr.mono (by decide)) rfl m_Deed b_Deed_init .nil pass0 (pa_cons (pv 2) (pa_cons pe_str (pa_cons pe_str (pa_cons (pe_meth (pv 0) T.c_Reader.cl M_Reader_take_number G_Reader_take_number (hr.mono (by decide)) b_Reader_take_number .nil (passes_call (takes_of rfl rfl rfl rfl) (fun _ _ _ _ h => h)) (pa_cons pe_int (pa_cons (pe_gi T.g_GREATEST_SKIP) pa_nil))) pa_nil))))))) pss_nil)
  (pss_one (ps_raise rfl (takes_of rfl rfl rfl rfl) (pmk_fl T.flt.fl iF tF GF (hr.mono (by decide)) bF T.flt.g (pa_cons pe_int (pa_cons (pe_fldK (K := K) (pv 1) rfl) pa_nil))))))))))), ?_⟩
  obtain ⟨t, m1, rfl, hpl, hcase⟩ := hk.cons
  obtain ⟨dx, tl, l, i, hrr, ht, hd, hl⟩ := id hr'
  refine ⟨_, rfl, r, dx, _, rfl, hrr, lm_Reader_take_kind, r, "word", t, m1, rfl, hr', hpl, fun q bh H1 ek tq hr1 kp => ?_, fun nk => k2 _ ?_⟩
  rotate_left
  · obtain ⟨p, tk⟩ := t
    cases tk with
    | name b => exact absurd rfl nk
    | num _ => rfl
    | sign _ => rfl
    | last => rfl
  obtain ⟨y, ey⟩ := kind_word ek
  obtain ⟨dt, et⟩ := id tq
  obtain ⟨p, tk⟩ := t
  cases ey
  have tk1 : TkOk m1 := by
    rcases hcase with ⟨z, _⟩ | ⟨_, z⟩
    · cases z
    · exact z
  obtain ⟨t2, m2, em, hpl2, _⟩ := tk1.cons
  obtain ⟨dx1, tl1, l1, i1, hrr1, _⟩ := id hr1
  refine ⟨_, rfl, ?_⟩
  refine ⟨_, _, _, _, _, rfl, (et), T.c_Token.cl, T.c_Token.no _ (by simp), lk_Token_value, ?_⟩

  by_cases h_delete : y = word "delete"
  · subst h_delete
    refine ⟨_, rfl, ?_⟩
    intro a ha
    refine ⟨a, _, rfl, .inr ha, rfl, rfl, _, rfl, ?_⟩
    rw [if_neg Bool.false_ne_true]
    refine ifT (by show inV (vB (word "delete")) _ = _; decide +kernel) ?_
    refine ⟨_, rfl, ?_⟩
    refine mk_Deed fun x dx2 H2 e2 s2 _ => ?_
    exact k1 x H2 .delete m1 (td_delete p m1) ⟨dx2, e2⟩ (hr1.same Z s2) (kp.trans (same_kr s2))

  by_cases h_keep : y = word "keep"
  · subst h_keep
    refine ⟨_, rfl, ?_⟩
    intro a ha
    refine ⟨a, _, rfl, .inr ha, rfl, rfl, _, rfl, ?_⟩
    rw [if_neg Bool.false_ne_true]
    refine ifT (by show inV (vB (word "keep")) _ = _; decide +kernel) ?_
    refine ⟨_, rfl, ?_⟩
    refine mk_Deed fun x dx2 H2 e2 s2 _ => ?_
    exact k1 x H2 .keep m1 (td_keep p m1) ⟨dx2, e2⟩ (hr1.same Z s2) (kp.trans (same_kr s2))

  by_cases h_bring : y = word "bring"
  · subst h_bring
    refine ⟨_, rfl, ?_⟩
    intro a ha
    refine ⟨a, _, rfl, .inr ha, rfl, rfl, _, rfl, ?_⟩
    rw [if_neg Bool.false_ne_true]
    refine ifT (by show inV (vB (word "bring")) _ = _; decide +kernel) ?_
    refine ⟨_, rfl, ?_⟩
    refine mk_Deed fun x dx2 H2 e2 s2 _ => ?_
    exact k1 x H2 .bring m1 (td_bring p m1) ⟨dx2, e2⟩ (hr1.same Z s2) (kp.trans (same_kr s2))

  by_cases h_trade : y = word "trade"
  · subst h_trade
    refine ⟨_, rfl, ?_⟩
    intro a ha
    refine ⟨a, _, rfl, .inr ha, rfl, rfl, _, rfl, ?_⟩
    rw [if_neg Bool.false_ne_true]
    refine ifT (by show inV (vB (word "trade")) _ = _; decide +kernel) ?_
    refine ⟨_, rfl, ?_⟩
    refine mk_Deed fun x dx2 H2 e2 s2 _ => ?_
    exact k1 x H2 .trade m1 (td_trade p m1) ⟨dx2, e2⟩ (hr1.same Z s2) (kp.trans (same_kr s2))

  by_cases h_stop : y = word "stop"
  · subst h_stop
    refine ⟨_, rfl, ?_⟩
    intro a ha
    refine ⟨a, _, rfl, .inr ha, rfl, rfl, _, rfl, ?_⟩
    rw [if_neg Bool.false_ne_true]
    refine ifT (by show inV (vB (word "stop")) _ = _; decide +kernel) ?_
    refine ⟨_, rfl, ?_⟩
    refine mk_Deed fun x dx2 H2 e2 s2 _ => ?_
    exact k1 x H2 .halt_ m1 (td_stop p m1) ⟨dx2, e2⟩ (hr1.same Z s2) (kp.trans (same_kr s2))

  by_cases h_before : y = word "before"
  · subst h_before
    refine ⟨_, rfl, ?_⟩
    intro a ha
    refine ⟨a, _, rfl, .inr ha, rfl, rfl, _, rfl, ?_⟩
    rw [if_neg Bool.false_ne_true]
    refine ifF (by show inV (vB (word "before")) _ = _; decide +kernel) ?_
    refine ⟨_, rfl, ?_⟩
    intro a ha
    refine ⟨a, _, rfl, .inr ha, rfl, rfl, _, rfl, ?_⟩
    rw [if_neg Bool.false_ne_true]
    refine ifT (by show inV (vB (word "before")) _ = _; decide +kernel) ?_
    refine ⟨_, rfl, ?_⟩
    have e : takeDeed (⟨p, .name (word "before")⟩ :: m1) = _ := td_before p m1
    rw [em] at hr1 e
    refine ⟨_, rfl, r, dx1, _, rfl, hrr1, lm_Reader_take_letters, r, t2, m2, rfl, hr1, hpl2, fun x H2 _ ex hr2 kp2 => ?_, fun f ef => (k2 f (by rw [em, e, ef]; rfl)).same kp⟩
    refine mk_Deed fun z dx2 H3 e3 s3 _ => ?_
    exact k1 z H3 (.before x) m2 (by rw [em, e, ex]; rfl) ⟨dx2, e3⟩ (hr2.same Z s3) ((kp.trans kp2).trans (same_kr s3))

  by_cases h_after : y = word "after"
  · subst h_after
    refine ⟨_, rfl, ?_⟩
    intro a ha
    refine ⟨a, _, rfl, .inr ha, rfl, rfl, _, rfl, ?_⟩
    rw [if_neg Bool.false_ne_true]
    refine ifF (by show inV (vB (word "after")) _ = _; decide +kernel) ?_
    refine ⟨_, rfl, ?_⟩
    intro a ha
    refine ⟨a, _, rfl, .inr ha, rfl, rfl, _, rfl, ?_⟩
    rw [if_neg Bool.false_ne_true]
    refine ifT (by show inV (vB (word "after")) _ = _; decide +kernel) ?_
    refine ⟨_, rfl, ?_⟩
    have e : takeDeed (⟨p, .name (word "after")⟩ :: m1) = _ := td_after p m1
    rw [em] at hr1 e
    refine ⟨_, rfl, r, dx1, _, rfl, hrr1, lm_Reader_take_letters, r, t2, m2, rfl, hr1, hpl2, fun x H2 _ ex hr2 kp2 => ?_, fun f ef => (k2 f (by rw [em, e, ef]; rfl)).same kp⟩
    refine mk_Deed fun z dx2 H3 e3 s3 _ => ?_
    exact k1 z H3 (.after x) m2 (by rw [em, e, ex]; rfl) ⟨dx2, e3⟩ (hr2.same Z s3) ((kp.trans kp2).trans (same_kr s3))

  by_cases h_change : y = word "change"
  · subst h_change
    refine ⟨_, rfl, ?_⟩
    intro a ha
    refine ⟨a, _, rfl, .inr ha, rfl, rfl, _, rfl, ?_⟩
    rw [if_neg Bool.false_ne_true]
    refine ifF (by show inV (vB (word "change")) _ = _; decide +kernel) ?_
    refine ⟨_, rfl, ?_⟩
    intro a ha
    refine ⟨a, _, rfl, .inr ha, rfl, rfl, _, rfl, ?_⟩
    rw [if_neg Bool.false_ne_true]
    refine ifT (by show inV (vB (word "change")) _ = _; decide +kernel) ?_
    refine ⟨_, rfl, ?_⟩
    have e : takeDeed (⟨p, .name (word "change")⟩ :: m1) = _ := td_change p m1
    rw [em] at hr1 e
    refine ⟨_, rfl, r, dx1, _, rfl, hrr1, lm_Reader_take_letters, r, t2, m2, rfl, hr1, hpl2, fun x H2 _ ex hr2 kp2 => ?_, fun f ef => (k2 f (by rw [em, e, ef]; rfl)).same kp⟩
    refine mk_Deed fun z dx2 H3 e3 s3 _ => ?_
    exact k1 z H3 (.change x) m2 (by rw [em, e, ex]; rfl) ⟨dx2, e3⟩ (hr2.same Z s3) ((kp.trans kp2).trans (same_kr s3))

  by_cases h_swap : y = word "swap"
  · subst h_swap
    refine ⟨_, rfl, ?_⟩
    intro a ha
    refine ⟨a, _, rfl, .inr ha, rfl, rfl, _, rfl, ?_⟩
    rw [if_neg Bool.false_ne_true]
    refine ifF (by show inV (vB (word "swap")) _ = _; decide +kernel) ?_
    refine ⟨_, rfl, ?_⟩
    intro a ha
    refine ⟨a, _, rfl, .inr ha, rfl, rfl, _, rfl, ?_⟩
    rw [if_neg Bool.false_ne_true]
    refine ifF (by show inV (vB (word "swap")) _ = _; decide +kernel) ?_
    refine ⟨_, rfl, ?_⟩
    intro a ha
    refine ⟨a, _, rfl, .inr ha, rfl, rfl, _, rfl, ?_⟩
    rw [if_neg Bool.false_ne_true]
    refine ifT (by show inV (vB (word "swap")) _ = _; decide +kernel) ?_
    have e : takeDeed (⟨p, .name (word "swap")⟩ :: m1) = _ := td_swap p m1
    unfold Vaseda.takeTwo at e
    rw [em] at hr1 e
    refine ⟨_, rfl, r, dx1, _, rfl, hrr1, lm_Reader_take_letters, r, t2, m2, rfl, hr1, hpl2, fun x H2 _ ex hr2 kp2 => ?_, fun f ef => (k2 f (by rw [em, e, ef]; rfl)).same kp⟩
    have tk2 : TkOk m2 := (MP.letters_ok ex (em ▸ tk1)).2
    refine ⟨_, rfl, _, rfl, _, rfl, r, m2, rfl, hr2, tk2, fun z m3 H3 ez hr3 kp3 => ?_, fun f ef => (k2 f (by rw [em, e, ex]; show Except.map _ (takeInstead m2) = _; rw [ef]; rfl)).same (kp.trans kp2)⟩
    refine mk_Deed fun v dx2 H4 e4 s4 _ => ?_
    exact k1 v H4 (.swap x z) m3 (by rw [em, e, ex]; show Except.map _ (takeInstead m2) = _; rw [ez]; rfl) ⟨dx2, e4⟩ (hr3.same Z s4) (((kp.trans kp2).trans kp3).trans (same_kr s4))

  by_cases h_first : y = word "first"
  · subst h_first
    refine ⟨_, rfl, ?_⟩
    intro a ha
    refine ⟨a, _, rfl, .inr ha, rfl, rfl, _, rfl, ?_⟩
    rw [if_neg Bool.false_ne_true]
    refine ifF (by show inV (vB (word "first")) _ = _; decide +kernel) ?_
    refine ⟨_, rfl, ?_⟩
    intro a ha
    refine ⟨a, _, rfl, .inr ha, rfl, rfl, _, rfl, ?_⟩
    rw [if_neg Bool.false_ne_true]
    refine ifF (by show inV (vB (word "first")) _ = _; decide +kernel) ?_
    refine ⟨_, rfl, ?_⟩
    intro a ha
    refine ⟨a, _, rfl, .inr ha, rfl, rfl, _, rfl, ?_⟩
    rw [if_neg Bool.false_ne_true]
    refine ifT (by show inV (vB (word "first")) _ = _; decide +kernel) ?_
    have e : takeDeed (⟨p, .name (word "first")⟩ :: m1) = _ := td_first p m1
    unfold Vaseda.takeTwo at e
    rw [em] at hr1 e
    refine ⟨_, rfl, r, dx1, _, rfl, hrr1, lm_Reader_take_letters, r, t2, m2, rfl, hr1, hpl2, fun x H2 _ ex hr2 kp2 => ?_, fun f ef => (k2 f (by rw [em, e, ef]; rfl)).same kp⟩
    have tk2 : TkOk m2 := (MP.letters_ok ex (em ▸ tk1)).2
    refine ⟨_, rfl, _, rfl, _, rfl, r, m2, rfl, hr2, tk2, fun z m3 H3 ez hr3 kp3 => ?_, fun f ef => (k2 f (by rw [em, e, ex]; show Except.map _ (takeInstead m2) = _; rw [ef]; rfl)).same (kp.trans kp2)⟩
    refine mk_Deed fun v dx2 H4 e4 s4 _ => ?_
    exact k1 v H4 (.first x z) m3 (by rw [em, e, ex]; show Except.map _ (takeInstead m2) = _; rw [ez]; rfl) ⟨dx2, e4⟩ (hr3.same Z s4) (((kp.trans kp2).trans kp3).trans (same_kr s4))

  by_cases h_skip : y = word "skip"
  · subst h_skip
    refine ⟨_, rfl, ?_⟩
    intro a ha
    refine ⟨a, _, rfl, .inr ha, rfl, rfl, _, rfl, ?_⟩
    rw [if_neg Bool.false_ne_true]
    refine ifF (by show inV (vB (word "skip")) _ = _; decide +kernel) ?_
    refine ⟨_, rfl, ?_⟩
    intro a ha
    refine ⟨a, _, rfl, .inr ha, rfl, rfl, _, rfl, ?_⟩
    rw [if_neg Bool.false_ne_true]
    refine ifF (by show inV (vB (word "skip")) _ = _; decide +kernel) ?_
    refine ⟨_, rfl, ?_⟩
    intro a ha
    refine ⟨a, _, rfl, .inr ha, rfl, rfl, _, rfl, ?_⟩
    rw [if_neg Bool.false_ne_true]
    refine ifF (by show inV (vB (word "skip")) _ = _; decide +kernel) ?_
    refine ⟨_, rfl, rfl, _, rfl, ?_⟩
    refine ifT (by show decide (vB (word "skip") = V.str "skip") = true; decide +kernel) ?_
    refine ⟨_, rfl, ?_⟩
    have e : takeDeed (⟨p, .name (word "skip")⟩ :: m1) = _ := td_skip p m1
    rw [em] at hr1 e
    refine ⟨_, rfl, r, dx1, _, rfl, hrr1, lm_Reader_take_number, r, 1, 9, t2, m2, rfl, hr1, hpl2, fun x H2 ex hr2 kp2 => ?_, fun f ef => (k2 f (by rw [em, e, ef]; rfl)).same kp⟩
    refine mk_Deed fun z dx2 H3 e3 s3 _ => ?_
    exact k1 z H3 (.skip x) m2 (by rw [em, e, ex]; rfl) ⟨dx2, e3⟩ (hr2.same Z s3) ((kp.trans kp2).trans (same_kr s3))

  refine ⟨_, rfl, ?_⟩
  intro a ha
  refine ⟨a, _, rfl, .inr ha, rfl, rfl, _, rfl, ?_⟩
  rw [if_neg Bool.false_ne_true]
  refine ifF (in_no (ws := [word "delete", word "keep", word "bring", word "trade", word "stop"]) (by kernel_rfl) (by simp [h_delete, h_keep, h_bring, h_trade, h_stop])) ?_
  refine ⟨_, rfl, ?_⟩
  intro a ha
  refine ⟨a, _, rfl, .inr ha, rfl, rfl, _, rfl, ?_⟩
  rw [if_neg Bool.false_ne_true]
  refine ifF (in_no (ws := [word "before", word "after", word "change"]) (by kernel_rfl) (by simp [h_before, h_after, h_change])) ?_
  refine ⟨_, rfl, ?_⟩
  intro a ha
  refine ⟨a, _, rfl, .inr ha, rfl, rfl, _, rfl, ?_⟩
  rw [if_neg Bool.false_ne_true]
  refine ifF (in_no (ws := [word "swap", word "first"]) (by kernel_rfl) (by simp [h_swap, h_first])) ?_
  refine ⟨_, rfl, rfl, _, rfl, ?_⟩
  refine ifF (decide_eq_false fun z => h_skip (sB_inj ((V.str.inj z).trans (V.str.inj w_skip)))) ?_
  refine ⟨_, rfl, ?_⟩
  refine ⟨_, _, _, _, _, rfl, (et), T.c_Token.cl, T.c_Token.no _ (by simp), lk_Token_place, ?_⟩
  exact flt_mk (by decide) (by omega) ((k2 ⟨3, p⟩ (td_else h_delete h_keep h_bring h_trade h_stop h_before h_after h_change h_swap h_first h_skip)).same kp).err

end
end
end SK
set_option Elab.async false
set_option linter.all false
set_option maxRecDepth 100000
set_option maxHeartbeats 2000000
namespace SK
open PySem PySem.Spec PyProof.Rows L2
section
variable {P : Program} {w : World} {K : PySem.W.Frag} {mg : Str → Option Value} {base : Heap} {A : Ad}
section
open VasedBase (PTok Toks Fault word)
open MP (TkOk tokOk notN takeBase)
open Vaseda (Deed Cmd takeLetters takeNum takeDeed takeInstead takeAddr takeCmd takeCmds)
theorem map_ok {α β : Type} {x : Except Fault α} {f : α → β} {y : β} (h : x.map f = .ok y) : ∃ a, x = .ok a ∧ f a = y := by
  cases x with
  | error e => cases h
  | ok a => exact ⟨a, rfl, by cases h; rfl⟩
theorem bind_ok {α β : Type} {x : Except Fault α} {f : α → Except Fault β} {y : β} (h : x.bind f = .ok y) : ∃ a, x = .ok a ∧ f a = .ok y := by
  cases x with
  | error e => cases h
  | ok a => exact ⟨a, rfl, h⟩
/-! ### what is read is in order -/
structure AdrOk (a : Vaseda.Addr) (n : Nat) : Prop where
  n : nots a ≤ n
  f : aFirst a ≤ 99
  l : aFinal a ≤ 99
  w : (aLetters a).length ≤ 8
  has : ∀ w ∈ Vasedb.wordsOf a, MK.wordOk w
  just : ∀ w ∈ Vasedb.justOf a, MK.wordOk w
theorem AdrOk.not {a : Vaseda.Addr} {n : Nat} (h : AdrOk a n) : AdrOk (.not a) (n + 1) := ⟨Nat.succ_le_succ h.n, h.f, h.l, h.w, h.has, h.just⟩
theorem drop_len {l : Toks} (h : l.length = (l.drop 1).length + 1) {m : Toks} (e : m = (l.drop 1).drop 1) : m.length < l.length := by
  rw [e, List.length_drop]
  omega
theorem base_ok' {l m : Toks} {a : Vaseda.Addr} (h : takeBase l = .ok (a, m)) (k : TkOk l) : AdrOk a 0 ∧ TkOk m ∧ m.length < l.length := by
  unfold takeBase at h
  have no : ∀ w, w ∈ ([] : List Bt) → MK.wordOk w := fun _ z => (by cases z)
  by_cases h1 : VasedBase.nextWord "all" l = true
  · rw [if_pos h1] at h
    cases h
    obtain ⟨a, b⟩ := MP.next_ok h1 k
    exact ⟨⟨Nat.le_refl _, Nat.zero_le _, Nat.zero_le _, Nat.zero_le _, no, no⟩, a, by omega⟩
  rw [if_neg h1] at h
  by_cases h2 : VasedBase.nextWord "line" l = true
  · rw [if_pos h2] at h
    obtain ⟨k2, b⟩ := MP.next_ok h2 k
    obtain ⟨⟨n, m2⟩, e1, e2⟩ := map_ok h
    cases e2
    obtain ⟨_, h99, k3⟩ := MP.num_ok e1 k2
    exact ⟨⟨Nat.le_refl _, h99, h99, Nat.zero_le _, no, no⟩, k3, drop_len b (MP.num_len e1)⟩
  rw [if_neg h2] at h
  by_cases h3 : VasedBase.nextWord "from" l = true
  · rw [if_pos h3] at h
    obtain ⟨k2, b⟩ := MP.next_ok h3 k
    obtain ⟨⟨n, m2⟩, e1, h⟩ := bind_ok h
    obtain ⟨m3, e2, h⟩ := bind_ok h
    obtain ⟨⟨n2, m4⟩, e3, e4⟩ := map_ok h
    cases e4
    obtain ⟨_, h99, k3⟩ := MP.num_ok e1 k2
    obtain ⟨k4, d4, l4⟩ := MP.word_ok e2 k3
    obtain ⟨_, g99, k5⟩ := MP.num_ok e3 k4
    have d1 := congrArg List.length (MP.num_len e1)
    have d3 := congrArg List.length (MP.num_len e3)
    rw [List.length_drop] at d1 d3
    exact ⟨⟨Nat.le_refl _, h99, g99, Nat.zero_le _, no, no⟩, k5, by simp only [] at *; omega⟩
  rw [if_neg h3] at h
  by_cases h4 : VasedBase.nextWord "last" l = true
  · rw [if_pos h4] at h
    cases h
    obtain ⟨a, b⟩ := MP.next_ok h4 k
    exact ⟨⟨Nat.le_refl _, Nat.zero_le _, Nat.zero_le _, Nat.zero_le _, no, no⟩, a, by omega⟩
  rw [if_neg h4] at h
  by_cases h5 : VasedBase.nextWord "has" l = true
  · rw [if_pos h5] at h
    obtain ⟨k2, b⟩ := MP.next_ok h5 k
    obtain ⟨⟨w, m2⟩, e1, e2⟩ := map_ok h
    cases e2
    obtain ⟨wo, k3⟩ := MP.letters_ok e1 k2
    exact ⟨⟨Nat.le_refl _, Nat.zero_le _, Nat.zero_le _, wo.2.2, fun v z => by rw [List.mem_singleton.mp z]; exact wo, no⟩, k3, drop_len b (MP.letters_len e1)⟩
  rw [if_neg h5] at h
  by_cases h6 : VasedBase.nextWord "is" l = true
  · rw [if_pos h6] at h
    obtain ⟨k2, b⟩ := MP.next_ok h6 k
    obtain ⟨⟨w, m2⟩, e1, e2⟩ := map_ok h
    cases e2
    obtain ⟨wo, k3⟩ := MP.letters_ok e1 k2
    exact ⟨⟨Nat.le_refl _, Nat.zero_le _, Nat.zero_le _, wo.2.2, no, fun v z => by rw [List.mem_singleton.mp z]; exact wo⟩, k3, drop_len b (MP.letters_len e1)⟩
  rw [if_neg h6] at h
  cases h
theorem addr_ok : ∀ (f n : Nat) (l : Toks) (a : Vaseda.Addr) (m : Toks), takeAddr f n l = .ok (a, m) → n ≤ 3 → TkOk l → AdrOk a (3 - n) ∧ TkOk m ∧ m.length < l.length
  | 0, _, _, _, _, h, _, _ => by cases h
  | f + 1, n, l, a, m, h, hn, k => by
    rw [MP.addr_step] at h
    by_cases h1 : VasedBase.nextWord "not" l = true
    · rw [if_pos h1] at h
      by_cases h2 : 3 ≤ n
      · rw [if_pos h2] at h
        cases h
      · rw [if_neg h2] at h
        obtain ⟨⟨a2, m2⟩, e1, e2⟩ := map_ok h
        cases e2
        obtain ⟨k2, b⟩ := MP.next_ok h1 k
        obtain ⟨o, k3, lt⟩ := addr_ok f (n + 1) _ a2 _ e1 (by omega) k2
        refine ⟨?_, k3, Nat.lt_trans lt (by omega)⟩
        have := o.not
        rw [show 3 - (n + 1) + 1 = 3 - n by omega] at this
        exact this
    · rw [if_neg h1] at h
      obtain ⟨o, k3, lt⟩ := base_ok' h k
      exact ⟨⟨Nat.le_trans o.n (Nat.zero_le _), o.f, o.l, o.w, o.has, o.just⟩, k3, lt⟩
structure DeedOk (d : Deed) : Prop where
  few : DeedFew d
  put : ∀ w ∈ Vasedb.putOf d, MK.wordOk w
theorem instead_ok {l m : Toks} {w : Bt} (h : takeInstead l = .ok (w, m)) (k : TkOk l) : w.length ≤ 8 ∧ TkOk m ∧ m = l.drop 1 := by
  unfold takeInstead at h
  by_cases h1 : VasedBase.nextWord "none" l = true
  · rw [if_pos h1] at h
    cases h
    exact ⟨Nat.zero_le _, (MP.next_ok h1 k).1, rfl⟩
  · rw [if_neg h1] at h
    obtain ⟨a, b⟩ := MP.letters_ok h k
    exact ⟨a.2.2, b, MP.letters_len h⟩
theorem two_ok {f : Bt → Bt → Deed} {l m : Toks} {d : Deed} (h : Vaseda.takeTwo f l = .ok (d, m)) (k : TkOk l) : ∃ a b, d = f a b ∧ a.length ≤ 8 ∧ b.length ≤ 8 ∧ TkOk m ∧ m.length ≤ l.length := by
  unfold Vaseda.takeTwo at h
  obtain ⟨⟨a, m1⟩, e1, h⟩ := bind_ok h
  obtain ⟨⟨b, m2⟩, e2, e3⟩ := map_ok h
  cases e3
  obtain ⟨wa, k1⟩ := MP.letters_ok e1 k
  obtain ⟨wb, k2, d2⟩ := instead_ok e2 k1
  have d1 := congrArg List.length (MP.letters_len e1)
  have d2 := congrArg List.length d2
  rw [List.length_drop] at d1 d2
  exact ⟨a, b, rfl, wa.2.2, wb, k2, by simp only [] at *; omega⟩
theorem deed_ok {l m : Toks} {d : Deed} (h : takeDeed l = .ok (d, m)) (k : TkOk l) : DeedOk d ∧ TkOk m ∧ m.length < l.length := by
  unfold takeDeed at h
  have no : ∀ w, w ∈ ([] : List Bt) → MK.wordOk w := fun _ z => (by cases z)
  have z9 := Nat.zero_le 9
  have z8 := Nat.zero_le 8
  simp only [] at h

  by_cases h_delete : VasedBase.nextWord "delete" l = true
  · rw [if_pos h_delete] at h
    obtain ⟨k2, b⟩ := MP.next_ok h_delete k
    cases h
    exact ⟨⟨⟨z9, z8, z8⟩, no⟩, k2, by omega⟩
  rw [if_neg h_delete] at h
  by_cases h_before : VasedBase.nextWord "before" l = true
  · rw [if_pos h_before] at h
    obtain ⟨k2, b⟩ := MP.next_ok h_before k
    obtain ⟨⟨w, m2⟩, e1, e2⟩ := map_ok h
    cases e2
    obtain ⟨wo, k3⟩ := MP.letters_ok e1 k2
    exact ⟨⟨⟨z9, wo.2.2, z8⟩, fun v z => by rw [List.mem_singleton.mp z]; exact wo⟩, k3, drop_len b (MP.letters_len e1)⟩
  rw [if_neg h_before] at h
  by_cases h_after : VasedBase.nextWord "after" l = true
  · rw [if_pos h_after] at h
    obtain ⟨k2, b⟩ := MP.next_ok h_after k
    obtain ⟨⟨w, m2⟩, e1, e2⟩ := map_ok h
    cases e2
    obtain ⟨wo, k3⟩ := MP.letters_ok e1 k2
    exact ⟨⟨⟨z9, wo.2.2, z8⟩, fun v z => by rw [List.mem_singleton.mp z]; exact wo⟩, k3, drop_len b (MP.letters_len e1)⟩
  rw [if_neg h_after] at h
  by_cases h_change : VasedBase.nextWord "change" l = true
  · rw [if_pos h_change] at h
    obtain ⟨k2, b⟩ := MP.next_ok h_change k
    obtain ⟨⟨w, m2⟩, e1, e2⟩ := map_ok h
    cases e2
    obtain ⟨wo, k3⟩ := MP.letters_ok e1 k2
    exact ⟨⟨⟨z9, wo.2.2, z8⟩, fun v z => by rw [List.mem_singleton.mp z]; exact wo⟩, k3, drop_len b (MP.letters_len e1)⟩
  rw [if_neg h_change] at h
  by_cases h_swap : VasedBase.nextWord "swap" l = true
  · rw [if_pos h_swap] at h
    obtain ⟨k2, b⟩ := MP.next_ok h_swap k
    obtain ⟨x, y, e, la, lb, k3, lt⟩ := two_ok h k2
    rw [e]
    exact ⟨⟨⟨z9, la, lb⟩, no⟩, k3, by omega⟩
  rw [if_neg h_swap] at h
  by_cases h_first : VasedBase.nextWord "first" l = true
  · rw [if_pos h_first] at h
    obtain ⟨k2, b⟩ := MP.next_ok h_first k
    obtain ⟨x, y, e, la, lb, k3, lt⟩ := two_ok h k2
    rw [e]
    exact ⟨⟨⟨z9, la, lb⟩, no⟩, k3, by omega⟩
  rw [if_neg h_first] at h
  by_cases h_keep : VasedBase.nextWord "keep" l = true
  · rw [if_pos h_keep] at h
    obtain ⟨k2, b⟩ := MP.next_ok h_keep k
    cases h
    exact ⟨⟨⟨z9, z8, z8⟩, no⟩, k2, by omega⟩
  rw [if_neg h_keep] at h
  by_cases h_bring : VasedBase.nextWord "bring" l = true
  · rw [if_pos h_bring] at h
    obtain ⟨k2, b⟩ := MP.next_ok h_bring k
    cases h
    exact ⟨⟨⟨z9, z8, z8⟩, no⟩, k2, by omega⟩
  rw [if_neg h_bring] at h
  by_cases h_trade : VasedBase.nextWord "trade" l = true
  · rw [if_pos h_trade] at h
    obtain ⟨k2, b⟩ := MP.next_ok h_trade k
    cases h
    exact ⟨⟨⟨z9, z8, z8⟩, no⟩, k2, by omega⟩
  rw [if_neg h_trade] at h
  by_cases h_skip : VasedBase.nextWord "skip" l = true
  · rw [if_pos h_skip] at h
    obtain ⟨k2, b⟩ := MP.next_ok h_skip k
    obtain ⟨⟨n, m2⟩, e1, e2⟩ := map_ok h
    cases e2
    obtain ⟨_, h99, k3⟩ := MP.num_ok e1 k2
    exact ⟨⟨⟨h99, z8, z8⟩, no⟩, k3, drop_len b (MP.num_len e1)⟩
  rw [if_neg h_skip] at h
  by_cases h_stop : VasedBase.nextWord "stop" l = true
  · rw [if_pos h_stop] at h
    obtain ⟨k2, b⟩ := MP.next_ok h_stop k
    cases h
    exact ⟨⟨⟨z9, z8, z8⟩, no⟩, k2, by omega⟩
  rw [if_neg h_stop] at h
  cases h
theorem cmd_ok {l m : Toks} {c : Cmd} (h : takeCmd l = .ok (c, m)) (k : TkOk l) : MK.CmdOk c ∧ CmdFew c ∧ TkOk m ∧ m.length < l.length := by
  unfold takeCmd at h
  obtain ⟨⟨a, m1⟩, e1, h⟩ := bind_ok h
  obtain ⟨⟨d, m2⟩, e2, h⟩ := bind_ok h
  obtain ⟨m3, e3, e4⟩ := map_ok h
  cases e4
  have ha : AdrOk a 3 ∧ TkOk m1 ∧ m1.length ≤ l.length := by
    by_cases h1 : VasedBase.nextWord "if" l = true
    · rw [if_pos h1] at e1
      obtain ⟨k2, b⟩ := MP.next_ok h1 k
      obtain ⟨o, k3, lt⟩ := addr_ok _ _ _ _ _ e1 (by decide) k2
      exact ⟨o, k3, by omega⟩
    · rw [if_neg h1] at e1
      cases e1
      exact ⟨⟨Nat.zero_le _, Nat.zero_le _, Nat.zero_le _, Nat.zero_le _, fun _ z => (by cases z), fun _ z => (by cases z)⟩, k, Nat.le_refl _⟩
  obtain ⟨oa, k1, l1⟩ := ha
  obtain ⟨od, k2, l2⟩ := deed_ok e2 k1
  obtain ⟨k3, e3⟩ := MP.sign_ok e3 k2
  have l3 := congrArg List.length e3
  rw [List.length_drop] at l3
  exact ⟨⟨oa.has, oa.just, od.put⟩, ⟨⟨oa.n, oa.f, oa.l, oa.w⟩, od.few⟩, k3, by simp only [] at *; omega⟩
/-! ### read_address -/
theorem nots_notN (n : Nat) (a : Vaseda.Addr) : nots (notN n a) = n + nots a := by
  induction n with
  | zero => rw [Nat.zero_add]; rfl
  | succ n ih => show nots (notN n a) + 1 = _; rw [ih]; omega
theorem adr_notN (n : Nat) (a : Vaseda.Addr) : aName (notN n a) = aName a ∧ aFirst (notN n a) = aFirst a ∧ aFinal (notN n a) = aFinal a ∧ aLetters (notN n a) = aLetters a := by
  induction n with
  | zero => exact ⟨rfl, rfl, rfl, rfl⟩
  | succ n ih => exact ih
theorem adr_made {A : Ad} {H : Hp} {x dx : PySem.Addr} {n : Nat} {a : Vaseda.Addr} {v0 v1 v2 v3 v4 : V} (h : H x = some (.ins A.Address dx (fs_Address v0 v1 v2 v3 v4))) (z : nots a = 0) (e0 : v0 = vN n) (e1 : v1 = .str (aName a)) (e2 : v2 = vN (aFirst a)) (e3 : v3 = vN (aFinal a)) (e4 : v4 = vB (aLetters a)) : AdrAt A H x (notN n a) := by
  obtain ⟨a1, a2, a3, a4⟩ := adr_notN n a
  refine ⟨dx, ?_⟩
  rw [nots_notN, z, a1, a2, a3, a4, h, e0, e1, e2, e3, e4]
  rfl
theorem tb_all (p : Nat) (m : Toks) : takeBase (⟨p, .name (word "all")⟩ :: m) = .ok (Vaseda.Addr.all, m) := by kernel_rfl
theorem tb_last (p : Nat) (m : Toks) : takeBase (⟨p, .name (word "last")⟩ :: m) = .ok (Vaseda.Addr.last, m) := by kernel_rfl
theorem tb_has (p : Nat) (m : Toks) : takeBase (⟨p, .name (word "has")⟩ :: m) = (takeLetters m).map fun x => (Vaseda.Addr.has x.1, x.2) := by kernel_rfl
theorem tb_is (p : Nat) (m : Toks) : takeBase (⟨p, .name (word "is")⟩ :: m) = (takeLetters m).map fun x => (Vaseda.Addr.is_ x.1, x.2) := by kernel_rfl
theorem tb_line (p : Nat) (m : Toks) : takeBase (⟨p, .name (word "line")⟩ :: m) = (takeNum 1 99 m).map fun x => (Vaseda.Addr.line x.1, x.2) := by kernel_rfl
theorem tb_from (p : Nat) (m : Toks) : takeBase (⟨p, .name (word "from")⟩ :: m) = (takeNum 1 99 m).bind fun x => (VasedBase.takeWord "to" x.2).bind fun l => (takeNum x.1 99 l).map fun y => (Vaseda.Addr.span x.1 y.1, y.2) := by kernel_rfl
theorem tb_else {p : Nat} {y : Bt} {m : Toks} (h_all : ¬ y = word "all") (h_line : ¬ y = word "line") (h_from : ¬ y = word "from") (h_last : ¬ y = word "last") (h_has : ¬ y = word "has") (h_is : ¬ y = word "is") : takeBase (⟨p, .name y⟩ :: m) = .error ⟨3, p⟩ := by
  unfold takeBase
  have e : ∀ s : String, ¬ y = word s → ¬ VasedBase.nextWord s (⟨p, .name y⟩ :: m) = true := fun s h z => h (by
    have z : VasedBase.tokEq (.name y) (.name (word s)) = true := z
    have := tok_yes z
    cases this
    rfl)
  rw [if_neg (e "all" h_all), if_neg (e "line" h_line), if_neg (e "from" h_from), if_neg (e "last" h_last), if_neg (e "has" h_has), if_neg (e "is" h_is)]
  rfl
def sp_read_address (A : Ad) (K : PySem.W.Frag) : Sp := fun vs H Q E => ∃ (r : PySem.Addr) (m : Toks), vs = [.ref r] ∧ RdrAt A H r m ∧ TkOk m ∧
  (∀ q H' a m', takeAddr (m.length + 2) 0 m = .ok (a, m') → AdrAt A H' q a → RdrAt A H' r m' → KpR A H H' → Q (.ref q) H') ∧ (∀ f, takeAddr (m.length + 2) 0 m = .error f → ErrK A H E f)
theorem ok_read_address (T : Txt K mg A) (Z : Apart A) : ∃ f fd, FnOk P w K mg base (L2.CX P w) 6 f fd ["reader"] (sp_read_address A K) ∧ mg "read_address" = some (.ref f) ∧ PySem.W.keepIn K (.ref f) = true ∧ Binds K fd ["reader"] [] := by
  obtain ⟨f, fd, F, hm, hb⟩ := T.d_read_address.ex
  obtain ⟨f_Address_init, fd_Address_init, G_Address_init, M_Address, m_Address, b_Address_init⟩ := ok_Address_init (P := P) (w := w) (base := base) T Z
  obtain ⟨f_Reader_take_kind, fd_Reader_take_kind, G_Reader_take_kind, M_Reader_take_kind, b_Reader_take_kind⟩ := ok_Reader_take_kind (P := P) (w := w) (base := base) T Z
  obtain ⟨f_Reader_take_letters, fd_Reader_take_letters, G_Reader_take_letters, M_Reader_take_letters, b_Reader_take_letters⟩ := ok_Reader_take_letters (P := P) (w := w) (base := base) T Z
  obtain ⟨f_Reader_take_number, fd_Reader_take_number, G_Reader_take_number, M_Reader_take_number, b_Reader_take_number⟩ := ok_Reader_take_number (P := P) (w := w) (base := base) T Z
  obtain ⟨f_Reader_take_word, fd_Reader_take_word, G_Reader_take_word, M_Reader_take_word, b_Reader_take_word⟩ := ok_Reader_take_word (P := P) (w := w) (base := base) T Z
  obtain ⟨f_read_nots, fd_read_nots, G_read_nots, m_read_nots, k_read_nots, b_read_nots⟩ := ok_read_nots (P := P) (w := w) (base := base) T Z
  obtain ⟨fF, fdF, GF, iF, tF, bF⟩ := ok_Fault_init (P := P) (w := w) (base := base) T Z
  refine ⟨f, fd, ?_, hm, F.kp, hb⟩
  refine F.okX sc_read_address (fun vs H Q E h => by obtain ⟨r, m, rfl, hr', hk, k1, k2⟩ := h; rfl) (fun cdv A' outer s H vs Q E hr h => ?_)
  obtain ⟨r, m, rfl, hr', hk, k1, k2⟩ := h
  refine ⟨_, (pss_cons (ps_set (i := 1) sc_read_address.nd rfl (by first | exact Or.inl rfl | exact Or.inr rfl) (pe_call G_read_nots (hr.mono (by decide)) rfl m_read_nots k_read_nots b_read_nots .nil (passes_call (takes_of rfl rfl rfl rfl) (fun _ _ _ _ h => h)) (pa_cons (pv 0) pa_nil)))
  (pss_cons (ps_set (i := 2) sc_read_address.nd rfl (by first | exact Or.inl rfl | exact Or.inr rfl) (pe_meth (pv 0) T.c_Reader.cl M_Reader_take_kind G_Reader_take_kind (hr.mono (by decide)) b_Reader_take_kind .nil (passes_call (takes_of rfl rfl rfl rfl) (fun _ _ _ _ h => h)) (pa_cons pe_str pa_nil)))
  (pss_cons (ps_set (i := 3) sc_read_address.nd rfl (by first | exact Or.inl rfl | exact Or.inr rfl) (pe_fldK (K := K) (pv 2) rfl))
  (pss_cons (ps_if (PW.pt (pw_or (pt_cmpR op_eq (pv 3) pe_str (nomark _)) (pw_or1 (pt_cmpR op_eq (pv 3) pe_str (nomark _))))) (pss_one (ps_ret (pe_make M_Address G_Address_init (hr.mono (by decide)) rfl m_Address b_Address_init .nil pass0 (pa_cons (pv 1) (pa_cons (pv 3) (pa_cons pe_int (pa_cons pe_int (pa_cons pe_str pa_nil)))))))) pss_nil)
  (pss_cons (ps_if (PW.pt (pw_or (pt_cmpR op_eq (pv 3) pe_str (nomark _)) (pw_or1 (pt_cmpR op_eq (pv 3) pe_str (nomark _))))) (pss_one (ps_ret (pe_make M_Address G_Address_init (hr.mono (by decide)) rfl m_Address b_Address_init .nil pass0 (pa_cons (pv 1) (pa_cons (pv 3) (pa_cons pe_int (pa_cons pe_int (pa_cons (pe_meth0 (pv 0) T.c_Reader.cl M_Reader_take_letters G_Reader_take_letters (hr.mono (by decide)) b_Reader_take_letters .nil (passes_call (takes_of rfl rfl rfl rfl) (fun _ _ _ _ h => h))) pa_nil)))))))) pss_nil)
  (pss_cons (ps_if (pt_cmpR op_eq (pv 3) pe_str (nomark _)) (pss_cons (ps_set (i := 4) sc_read_address.nd rfl (by first | exact Or.inl rfl | exact Or.inr rfl) (pe_meth (pv 0) T.c_Reader.cl M_Reader_take_number G_Reader_take_number (hr.mono (by decide)) b_Reader_take_number .nil (passes_call (takes_of rfl rfl rfl rfl) (fun _ _ _ _ h => h)) (pa_cons pe_int (pa_cons (pe_gi T.g_GREATEST_LINE) pa_nil))))
  (pss_one (ps_ret (pe_make M_Address G_Address_init (hr.mono (by decide)) rfl m_Address b_Address_init .nil pass0 (pa_cons (pv 1) (pa_cons (pv 3) (pa_cons (pv 4) (pa_cons (pv 4) (pa_cons pe_str pa_nil))))))))) pss_nil)
  (pss_cons (ps_if (pt_cmpR op_eq (pv 3) pe_str (nomark _)) (pss_cons (ps_set (i := 5) sc_read_address.nd rfl (by first | exact Or.inl rfl | exact Or.inr rfl) (pe_meth (pv 0) T.c_Reader.cl M_Reader_take_number G_Reader_take_number (hr.mono (by decide)) b_Reader_take_number .nil (passes_call (takes_of rfl rfl rfl rfl) (fun _ _ _ _ h => h)) (pa_cons pe_int (pa_cons (pe_gi T.g_GREATEST_LINE) pa_nil))))
  (pss_cons (ps_expr (pe_meth (pv 0) T.c_Reader.cl M_Reader_take_word G_Reader_take_word (hr.mono (by decide)) b_Reader_take_word .nil (passes_call (takes_of rfl rfl rfl rfl) (fun _ _ _ _ h => h)) (pa_cons pe_str pa_nil)))
  (pss_one (ps_ret (pe_make M_Address G_Address_init (hr.mono (by decide)) rfl m_Address b_Address_init .nil pass0 (pa_cons (pv 1) (pa_cons (pv 3) (pa_cons (pv 5) (pa_cons (pe_meth (pv 0) T.c_Reader.cl M_Reader_take_number G_Reader_take_number (hr.mono (by decide)) b_Reader_take_number .nil (passes_call (takes_of rfl rfl rfl rfl) (fun _ _ _ _ h => h)) (pa_cons (pv 5) (pa_cons (pe_gi T.g_GREATEST_LINE) pa_nil))) (pa_cons pe_str pa_nil)))))))))) pss_nil)
  (pss_one (ps_raise rfl (takes_of rfl rfl rfl rfl) (pmk_fl T.flt.fl iF tF GF (hr.mono (by decide)) bF T.flt.g (pa_cons pe_int (pa_cons (pe_fldK (K := K) (pv 2) rfl) pa_nil)))))))))))), ?_⟩
  refine ⟨_, rfl, r, m, rfl, hr', hk, fun n H0 hn hall hno hk0 hr0 kp0 => ?_, fun hall => ?_⟩
  rotate_left
  · have l4 : 3 < m.length := by
      have h3 := hall 3 (by decide)
      apply Classical.byContradiction
      intro z
      rw [List.drop_eq_nil_of_le (by omega)] at h3
      cases h3
    refine k2 _ ?_
    rw [show m.length + 2 = (m.length - 2) + 4 by omega]
    exact MP.addr_many _ m hall
  obtain ⟨t, m1, ed, hpl, hcase⟩ := hk0.cons
  have ln : n < m.length := by
    have := congrArg List.length ed
    rw [List.length_drop, List.length_cons] at this
    omega
  have ea := MP.addr_base n (m.length + 1 - n) m hall hn hno
  rw [show m.length + 1 - n + 1 + n = m.length + 2 by omega, ed] at ea
  rw [ed] at hr0 hno
  rw [ea] at k1 k2
  obtain ⟨dx, tl, l, i, hrr, ht, hd, hl⟩ := id hr0
  refine ⟨_, rfl, r, dx, _, rfl, hrr, lm_Reader_take_kind, r, "word", t, m1, rfl, hr0, hpl, fun q bh H1 ek tq hr1 kp1 => ?_, fun nk => ?_⟩
  rotate_left
  · refine (k2 ⟨3, t.place⟩ ?_).same kp0
    obtain ⟨p, tk⟩ := t
    cases tk with
    | name b => exact absurd rfl nk
    | num _ => rfl
    | sign _ => rfl
    | last => rfl
  obtain ⟨y, ey⟩ := kind_word ek
  obtain ⟨dt, et⟩ := id tq
  obtain ⟨p, tk⟩ := t
  cases ey
  have kp := kp0.trans kp1
  have tk1 : TkOk m1 := by
    rcases hcase with ⟨z, _⟩ | ⟨_, z⟩
    · cases z
    · exact z
  obtain ⟨t2, m2, em, hpl2, _⟩ := tk1.cons
  obtain ⟨dx1, tl1, l1, i1, hrr1, _⟩ := id hr1
  refine ⟨_, rfl, ?_⟩
  refine ⟨_, _, _, _, _, rfl, (et), T.c_Token.cl, T.c_Token.no _ (by simp), lk_Token_value, ?_⟩

  by_cases h_all : y = word "all"
  · subst h_all
    refine ⟨_, rfl, rfl, _, rfl, ?_⟩
    refine ifT (by show decide (vB (word "all") = V.str "all") = true; decide +kernel) ?_
    refine ifT rfl ?_
    refine ⟨_, rfl, ?_⟩
    refine ⟨_, rfl, ?_⟩
    refine mk_Address fun x dx2 H2 e2 s2 _ => ?_
    exact k1 x H2 (notN n .all) m1 (by rw [tb_all]; rfl) (adr_made (a := .all) e2 rfl rfl (by kernel_rfl) rfl rfl (by kernel_rfl)) (hr1.same Z s2) (kp.trans (same_kr s2))

  by_cases h_last : y = word "last"
  · subst h_last
    refine ⟨_, rfl, rfl, _, rfl, ?_⟩
    refine ifF (by show decide (vB (word "last") = V.str "all") = false; decide +kernel) ?_
    refine ⟨_, rfl, rfl, _, rfl, ?_⟩
    refine ifT (by show decide (vB (word "last") = V.str "last") = true; decide +kernel) ?_
    refine ⟨_, rfl, ?_⟩
    refine ⟨_, rfl, ?_⟩
    refine mk_Address fun x dx2 H2 e2 s2 _ => ?_
    exact k1 x H2 (notN n .last) m1 (by rw [tb_last]; rfl) (adr_made (a := .last) e2 rfl rfl (by kernel_rfl) rfl rfl (by kernel_rfl)) (hr1.same Z s2) (kp.trans (same_kr s2))

  by_cases h_has : y = word "has"
  · subst h_has
    refine ⟨_, rfl, rfl, _, rfl, ?_⟩
    refine ifF (by show decide (vB (word "has") = V.str "all") = false; decide +kernel) ?_
    refine ⟨_, rfl, rfl, _, rfl, ?_⟩
    refine ifF (by show decide (vB (word "has") = V.str "last") = false; decide +kernel) ?_
    refine ⟨_, rfl, rfl, _, rfl, ?_⟩
    refine ifT (by show decide (vB (word "has") = V.str "has") = true; decide +kernel) ?_
    refine ifT rfl ?_
    refine ⟨_, rfl, ?_⟩
    refine ⟨_, rfl, ?_⟩
    have e : takeBase (⟨p, .name (word "has")⟩ :: m1) = _ := tb_has p m1
    rw [e, em] at k1 k2
    rw [em] at hr1
    refine ⟨_, rfl, r, dx1, _, rfl, hrr1, lm_Reader_take_letters, r, t2, m2, rfl, hr1, hpl2, fun x H2 _ ex hr2 kp2 => ?_, fun f ef => (k2 f (by rw [ef]; rfl)).same kp⟩
    refine mk_Address fun z dx2 H3 e3 s3 _ => ?_
    exact k1 z H3 (notN n (.has x)) m2 (by rw [ex]; rfl) (adr_made (a := .has x) e3 rfl rfl (by show vB (word "has") = V.str "has"; kernel_rfl) rfl rfl rfl) (hr2.same Z s3) ((kp.trans kp2).trans (same_kr s3))

  by_cases h_is : y = word "is"
  · subst h_is
    refine ⟨_, rfl, rfl, _, rfl, ?_⟩
    refine ifF (by show decide (vB (word "is") = V.str "all") = false; decide +kernel) ?_
    refine ⟨_, rfl, rfl, _, rfl, ?_⟩
    refine ifF (by show decide (vB (word "is") = V.str "last") = false; decide +kernel) ?_
    refine ⟨_, rfl, rfl, _, rfl, ?_⟩
    refine ifF (by show decide (vB (word "is") = V.str "has") = false; decide +kernel) ?_
    refine ⟨_, rfl, rfl, _, rfl, ?_⟩
    refine ifT (by show decide (vB (word "is") = V.str "is") = true; decide +kernel) ?_
    refine ⟨_, rfl, ?_⟩
    refine ⟨_, rfl, ?_⟩
    have e : takeBase (⟨p, .name (word "is")⟩ :: m1) = _ := tb_is p m1
    rw [e, em] at k1 k2
    rw [em] at hr1
    refine ⟨_, rfl, r, dx1, _, rfl, hrr1, lm_Reader_take_letters, r, t2, m2, rfl, hr1, hpl2, fun x H2 _ ex hr2 kp2 => ?_, fun f ef => (k2 f (by rw [ef]; rfl)).same kp⟩
    refine mk_Address fun z dx2 H3 e3 s3 _ => ?_
    exact k1 z H3 (notN n (.is_ x)) m2 (by rw [ex]; rfl) (adr_made (a := .is_ x) e3 rfl rfl (by show vB (word "is") = V.str "is"; kernel_rfl) rfl rfl rfl) (hr2.same Z s3) ((kp.trans kp2).trans (same_kr s3))

  by_cases h_line : y = word "line"
  · subst h_line
    refine ⟨_, rfl, rfl, _, rfl, ?_⟩
    refine ifF (by show decide (vB (word "line") = V.str "all") = false; decide +kernel) ?_
    refine ⟨_, rfl, rfl, _, rfl, ?_⟩
    refine ifF (by show decide (vB (word "line") = V.str "last") = false; decide +kernel) ?_
    refine ⟨_, rfl, rfl, _, rfl, ?_⟩
    refine ifF (by show decide (vB (word "line") = V.str "has") = false; decide +kernel) ?_
    refine ⟨_, rfl, rfl, _, rfl, ?_⟩
    refine ifF (by show decide (vB (word "line") = V.str "is") = false; decide +kernel) ?_
    refine ⟨_, rfl, rfl, _, rfl, ?_⟩
    refine ifT (by show decide (vB (word "line") = V.str "line") = true; decide +kernel) ?_
    have e : takeBase (⟨p, .name (word "line")⟩ :: m1) = _ := tb_line p m1
    rw [e, em] at k1 k2
    rw [em] at hr1
    refine ⟨_, rfl, r, dx1, _, rfl, hrr1, lm_Reader_take_number, r, 1, 99, t2, m2, rfl, hr1, hpl2, fun x H2 ex hr2 kp2 => ?_, fun f ef => (k2 f (by rw [ef]; rfl)).same kp⟩
    refine ⟨_, rfl, _, rfl, _, rfl, _, rfl, ?_⟩
    refine mk_Address fun z dx2 H3 e3 s3 _ => ?_
    exact k1 z H3 (notN n (.line x)) m2 (by rw [ex]; rfl) (adr_made (a := .line x) e3 rfl rfl (by show vB (word "line") = V.str "line"; kernel_rfl) rfl rfl (by show V.str "" = vB []; kernel_rfl)) (hr2.same Z s3) ((kp.trans kp2).trans (same_kr s3))

  by_cases h_from : y = word "from"
  · subst h_from
    refine ⟨_, rfl, rfl, _, rfl, ?_⟩
    refine ifF (by show decide (vB (word "from") = V.str "all") = false; decide +kernel) ?_
    refine ⟨_, rfl, rfl, _, rfl, ?_⟩
    refine ifF (by show decide (vB (word "from") = V.str "last") = false; decide +kernel) ?_
    refine ⟨_, rfl, rfl, _, rfl, ?_⟩
    refine ifF (by show decide (vB (word "from") = V.str "has") = false; decide +kernel) ?_
    refine ⟨_, rfl, rfl, _, rfl, ?_⟩
    refine ifF (by show decide (vB (word "from") = V.str "is") = false; decide +kernel) ?_
    refine ⟨_, rfl, rfl, _, rfl, ?_⟩
    refine ifF (by show decide (vB (word "from") = V.str "line") = false; decide +kernel) ?_
    refine ⟨_, rfl, rfl, _, rfl, ?_⟩
    refine ifT (by show decide (vB (word "from") = V.str "from") = true; decide +kernel) ?_
    have e : takeBase (⟨p, .name (word "from")⟩ :: m1) = _ := tb_from p m1
    rw [e, em] at k1 k2
    rw [em] at hr1
    refine ⟨_, rfl, r, dx1, _, rfl, hrr1, lm_Reader_take_number, r, 1, 99, t2, m2, rfl, hr1, hpl2, fun x H2 ex hr2 kp2 => ?_, fun f ef => (k2 f (by rw [ef]; rfl)).same kp⟩
    rw [ex] at k1 k2
    have tk2 : TkOk m2 := (MP.num_ok ex (em ▸ tk1)).2.2
    obtain ⟨t3, m3, em3, hpl3, hc3⟩ := tk2.cons
    rw [em3] at hr2
    obtain ⟨dx2, tl2, l2, i2, hrr2, _⟩ := id hr2
    have kp12 := kp.trans kp2
    refine ⟨_, rfl, r, dx2, _, rfl, hrr2, lm_Reader_take_word, r, word "to", t3, m3, by rw [w_to]; rfl, hr2, hpl3, fun H3 et3 hr3 kp3 => ?_, fun nt => (k2 ⟨3, t3.place⟩ ?_).same kp12⟩
    rotate_left
    · rw [em3]
      show Except.map _ (Except.bind (if VasedBase.tokEq t3.tok (.name (word "to")) = true then _ else _) _) = _
      rw [if_neg (fun z => nt (tok_yes z))]
      rfl
    have et : VasedBase.takeWord "to" (t3 :: m3) = .ok m3 := by
      show (if VasedBase.tokEq t3.tok (.name (word "to")) = true then _ else _) = _
      rw [if_pos (MP.tokEq_name.mpr et3)]
      rfl
    have tk3 : TkOk m3 := by
      rcases hc3 with ⟨z, _⟩ | ⟨_, z⟩
      · rw [et3] at z
        cases z
      · exact z
    obtain ⟨t4, m4, em4, hpl4, _⟩ := tk3.cons
    rw [em3] at k1 k2
    simp only [Except.bind, et] at k1 k2
    rw [em4] at hr3 k1 k2
    obtain ⟨dx3, tl3, l3, i3, hrr3, _⟩ := id hr3
    have kp13 := kp12.trans kp3
    refine ⟨_, rfl, _, rfl, _, rfl, ?_⟩
    refine ⟨_, rfl, r, dx3, _, rfl, hrr3, lm_Reader_take_number, _, rfl, r, x, 99, t4, m4, rfl, hr3, hpl4, fun x2 H4 ex4 hr4 kp4 => ?_, fun f ef => (k2 f (by rw [ef]; rfl)).same kp13⟩
    refine mk_Address fun z dx5 H5 e5 s5 _ => ?_
    exact k1 z H5 (notN n (.span x x2)) m4 (by rw [ex4]; rfl) (adr_made (a := .span x x2) e5 rfl rfl (by show vB (word "from") = V.str "from"; kernel_rfl) rfl rfl (by show V.str "" = vB []; kernel_rfl)) (hr4.same Z s5) ((kp13.trans kp4).trans (same_kr s5))

  refine ⟨_, rfl, rfl, _, rfl, ?_⟩
  refine ifF (decide_eq_false fun z => h_all (sB_inj ((V.str.inj z).trans (V.str.inj w_all)))) ?_
  refine ⟨_, rfl, rfl, _, rfl, ?_⟩
  refine ifF (decide_eq_false fun z => h_last (sB_inj ((V.str.inj z).trans (V.str.inj w_last)))) ?_
  refine ⟨_, rfl, rfl, _, rfl, ?_⟩
  refine ifF (decide_eq_false fun z => h_has (sB_inj ((V.str.inj z).trans (V.str.inj w_has)))) ?_
  refine ⟨_, rfl, rfl, _, rfl, ?_⟩
  refine ifF (decide_eq_false fun z => h_is (sB_inj ((V.str.inj z).trans (V.str.inj w_is)))) ?_
  refine ⟨_, rfl, rfl, _, rfl, ?_⟩
  refine ifF (decide_eq_false fun z => h_line (sB_inj ((V.str.inj z).trans (V.str.inj w_line)))) ?_
  refine ⟨_, rfl, rfl, _, rfl, ?_⟩
  refine ifF (decide_eq_false fun z => h_from (sB_inj ((V.str.inj z).trans (V.str.inj w_from)))) ?_
  refine ⟨_, rfl, ?_⟩
  refine ⟨_, _, _, _, _, rfl, (et), T.c_Token.cl, T.c_Token.no _ (by simp), lk_Token_place, ?_⟩
  exact flt_mk (by decide) (by omega) ((k2 ⟨3, p⟩ (by rw [tb_else h_all h_line h_from h_last h_has h_is]; rfl)).same kp).err

end
end
end SK
set_option Elab.async false
set_option linter.all false
set_option maxRecDepth 100000
set_option maxHeartbeats 2000000
namespace SK
open PySem PySem.Spec PyProof.Rows L2
section
variable {P : Program} {w : World} {K : PySem.W.Frag} {mg : Str → Option Value} {base : Heap} {A : Ad}
section
open VasedBase (PTok Toks Fault word)
open MP (TkOk tokOk notN takeBase)
open Vaseda (Deed Cmd Script takeLetters takeNum takeDeed takeInstead takeAddr takeCmd takeCmds)
def sp_read_command (A : Ad) (K : PySem.W.Frag) : Sp := fun vs H Q E => ∃ (r : PySem.Addr) (m : Toks), vs = [.ref r] ∧ RdrAt A H r m ∧ TkOk m ∧
  (∀ q H' c m', takeCmd m = .ok (c, m') → CmdAt A H' q c → RdrAt A H' r m' → KpR A H H' → Q (.ref q) H') ∧ (∀ f, takeCmd m = .error f → ErrK A H E f)
theorem ok_read_command (T : Txt K mg A) (Z : Apart A) : ∃ f fd, FnOk P w K mg base (L2.CX P w) 7 f fd ["reader"] (sp_read_command A K) ∧ mg "read_command" = some (.ref f) ∧ PySem.W.keepIn K (.ref f) = true ∧ Binds K fd ["reader"] [] := by
  obtain ⟨f, fd, F, hm, hb⟩ := T.d_read_command.ex
  obtain ⟨f_Command_init, fd_Command_init, G_Command_init, M_Command, m_Command, b_Command_init⟩ := ok_Command_init (P := P) (w := w) (base := base) T Z
  obtain ⟨f_Reader_stands, fd_Reader_stands, G_Reader_stands, M_Reader_stands, b_Reader_stands⟩ := ok_Reader_stands (P := P) (w := w) (base := base) T Z
  obtain ⟨f_Reader_take_kind, fd_Reader_take_kind, G_Reader_take_kind, M_Reader_take_kind, b_Reader_take_kind⟩ := ok_Reader_take_kind (P := P) (w := w) (base := base) T Z
  obtain ⟨f_Reader_take_word, fd_Reader_take_word, G_Reader_take_word, M_Reader_take_word, b_Reader_take_word⟩ := ok_Reader_take_word (P := P) (w := w) (base := base) T Z
  obtain ⟨f_everywhere, fd_everywhere, G_everywhere, m_everywhere, k_everywhere, b_everywhere⟩ := ok_everywhere (P := P) (w := w) (base := base) T Z
  obtain ⟨f_read_address, fd_read_address, G_read_address, m_read_address, k_read_address, b_read_address⟩ := ok_read_address (P := P) (w := w) (base := base) T Z
  obtain ⟨f_read_deed, fd_read_deed, G_read_deed, m_read_deed, k_read_deed, b_read_deed⟩ := ok_read_deed (P := P) (w := w) (base := base) T Z
  refine ⟨f, fd, ?_, hm, F.kp, hb⟩
  refine F.okX sc_read_command (fun vs H Q E h => by obtain ⟨r, m, rfl, hr', hk, k1, k2⟩ := h; rfl) (fun cdv A' outer s H vs Q E hr h => ?_)
  obtain ⟨r, m, rfl, hr', hk, k1, k2⟩ := h
  refine ⟨_, (pss_cons (ps_set (i := 1) sc_read_command.nd rfl (by first | exact Or.inl rfl | exact Or.inr rfl) (pe_call0 G_everywhere (hr.mono (by decide)) rfl m_everywhere k_everywhere b_everywhere .nil pass0))
  (pss_cons (ps_if (pt_val (pe_meth (pv 0) T.c_Reader.cl M_Reader_stands G_Reader_stands (hr.mono (by decide)) b_Reader_stands .nil pass0 (pa_cons pe_str pa_nil))) (pss_cons (ps_expr (pe_meth (pv 0) T.c_Reader.cl M_Reader_take_word G_Reader_take_word (hr.mono (by decide)) b_Reader_take_word .nil (passes_call (takes_of rfl rfl rfl rfl) (fun _ _ _ _ h => h)) (pa_cons pe_str pa_nil)))
  (pss_one (ps_set (i := 1) sc_read_command.nd rfl (by first | exact Or.inl rfl | exact Or.inr rfl) (pe_call G_read_address (hr.mono (by decide)) rfl m_read_address k_read_address b_read_address .nil (passes_call (takes_of rfl rfl rfl rfl) (fun _ _ _ _ h => h)) (pa_cons (pv 0) pa_nil))))) pss_nil)
  (pss_cons (ps_set (i := 2) sc_read_command.nd rfl (by first | exact Or.inl rfl | exact Or.inr rfl) (pe_call G_read_deed (hr.mono (by decide)) rfl m_read_deed k_read_deed b_read_deed .nil (passes_call (takes_of rfl rfl rfl rfl) (fun _ _ _ _ h => h)) (pa_cons (pv 0) pa_nil)))
  (pss_cons (ps_expr (pe_meth (pv 0) T.c_Reader.cl M_Reader_take_kind G_Reader_take_kind (hr.mono (by decide)) b_Reader_take_kind .nil (passes_call (takes_of rfl rfl rfl rfl) (fun _ _ _ _ h => h)) (pa_cons pe_str pa_nil)))
  (pss_one (ps_ret (pe_make M_Command G_Command_init (hr.mono (by decide)) rfl m_Command b_Command_init .nil pass0 (pa_cons (pv 1) (pa_cons (pv 2) pa_nil))))))))), ?_⟩
  refine ⟨rfl, fun x0 H0 hx0 s0 => ?_⟩
  have hr0 := hr'.same Z s0
  obtain ⟨t, m1, rfl, hpl, hcase⟩ := hk.cons
  obtain ⟨dx, tl, l, i, hrr, ht, hd, hl⟩ := id hr0
  have key : ∀ (a : Vaseda.Addr) (m2 : Toks), TkOk m2 → ((∀ c m', (takeDeed m2).bind (fun d => (VasedBase.takeSign 59 d.2).map fun m => ((⟨a, d.1⟩ : Cmd), m)) = .ok (c, m') → takeCmd (t :: m1) = .ok (c, m')) ∧ (∀ f, (takeDeed m2).bind (fun d => (VasedBase.takeSign 59 d.2).map fun m => ((⟨a, d.1⟩ : Cmd), m)) = .error f → takeCmd (t :: m1) = .error f)) →
      ∀ H1 x1, RdrAt A H1 r m2 → AdrAt A H1 x1 a → KpR A H H1 →
      (tSeq (tAsg (tCall (sp_read_deed A K) [] E (tCons (tVar 0) tNil)) (gName 2)) (tSeq (tDrop (tMeth A.Reader "take_kind" (sp_Reader_take_kind A K) [] E (tVar 0) (tCons (tC (.str "sign")) tNil))) (tRet (tMake A.Command (sp_Command_init A K) [] E0 (tCons (tVar 1) (tCons (tVar 2) tNil))))))
        { nx := fun _ H' => Q .non H', rt := Q } [some (.ref r), some (.ref x1), none] H1 := by
    intro a m2 tk2 hcmd H1 x1 hr1 ha1 kp1
    refine ⟨_, rfl, r, m2, rfl, hr1, tk2, fun q H2 d m3 ed hd2 hr2 kp2 => ?_, fun f ef => (k2 f (hcmd.2 f (by rw [ef]; rfl))).same kp1⟩
    obtain ⟨t3, m4, em, hpl3, hc3⟩ := (deed_ok ed tk2).2.1.cons
    rw [em] at hr2
    have kp12 := kp1.trans kp2
    obtain ⟨dx2, tl2, l2, i2, hrr2, _⟩ := id hr2
    rw [ed, em] at hcmd
    simp only [Except.bind] at hcmd
    refine ⟨_, rfl, r, dx2, _, rfl, hrr2, lm_Reader_take_kind, r, "sign", t3, m4, rfl, hr2, hpl3, fun q3 bh H3 ek tq hr3 kp3 => ?_, fun nk => (k2 ⟨3, t3.place⟩ (hcmd.2 _ ?_)).same kp12⟩
    · obtain ⟨c, ec⟩ := kind_sign ek
      have e59 : c = 59 := by
        rcases hc3 with ⟨z, _⟩ | ⟨z, _⟩
        · rw [ec] at z
          cases z
        · rw [ec] at z
          exact z
      have es : VasedBase.takeSign 59 (t3 :: m4) = .ok m4 := by
        show (if VasedBase.tokEq t3.tok (.sign 59) = true then _ else _) = _
        rw [ec, e59, if_pos (by rfl)]
        rfl
      rw [es] at hcmd
      refine ⟨_, rfl, _, rfl, ?_⟩
      refine mk_Command fun z dz H4 e4 s4 _ => ?_
      have kp34 := kp3.trans (same_kr s4)
      exact k1 z H4 ⟨a, d⟩ m4 (hcmd.1 _ _ rfl) ⟨dz, x1, q, e4, ha1.kp Z (kp2.trans kp34), hd2.kp Z kp34⟩ (hr3.same Z s4) (kp12.trans kp34)
    · obtain ⟨p, tk⟩ := t3
      cases tk with
      | sign b => exact absurd rfl nk
      | num _ => rfl
      | name _ => rfl
      | last => rfl
  refine ⟨_, rfl, r, dx, _, rfl, hrr, lm_Reader_stands, r, word "if", t, m1, by rw [w_if]; rfl, hr0, _, rfl, ?_⟩
  by_cases h : VasedBase.tokEq t.tok (.name (word "if")) = true
  · refine ifT h ?_
    have et := tok_yes h
    have en : VasedBase.nextWord "if" (t :: m1) = true := h
    have tk1 := (MP.next_ok en hk).1
    have ec : takeCmd (t :: m1) = (takeAddr (m1.length + 2) 0 m1).bind fun a => (takeDeed a.2).bind fun d => (VasedBase.takeSign 59 d.2).map fun m => ((⟨a.1, d.1⟩ : Cmd), m) := by
      unfold takeCmd
      rw [if_pos en]
      rfl
    refine ⟨_, rfl, r, dx, _, rfl, hrr, lm_Reader_take_word, r, word "if", t, m1, by rw [w_if]; rfl, hr0, hpl, fun H1 _ hr1 kp1 => ?_, fun z => absurd et z⟩
    have kp01 := (same_kr s0).trans kp1
    refine ⟨_, rfl, r, m1, rfl, hr1, tk1, fun x1 H2 a m2 ea ha2 hr2 kp2 => ?_, fun f ef => (k2 f (by rw [ec, ef]; rfl)).same kp01⟩
    refine key a m2 (addr_ok _ _ _ _ _ ea (by decide) tk1).2.1 ⟨fun c m' e => ?_, fun f e => ?_⟩ H2 x1 hr2 ha2 (kp01.trans kp2)
    · rw [ec, ea]
      exact e
    · rw [ec, ea]
      exact e
  · refine ifF (by simpa using h) ?_
    have en : ¬ VasedBase.nextWord "if" (t :: m1) = true := h
    have ec : takeCmd (t :: m1) = (takeDeed (t :: m1)).bind fun d => (VasedBase.takeSign 59 d.2).map fun m => ((⟨.all, d.1⟩ : Cmd), m) := by
      unfold takeCmd
      rw [if_neg en]
      rfl
    exact key .all (t :: m1) hk ⟨fun c m' e => by rw [ec]; exact e, fun f e => by rw [ec]; exact e⟩ H0 x0 hr0 hx0 (same_kr s0)
/-! ### commands_of -/
theorem here_cons (t : PTok) (m : Toks) : VasedBase.here (t :: m) = t.place := rfl
theorem cmds_end {n : Nat} {cs : Script} {t : PTok} {m : Toks} (h : t.tok = .last) : takeCmds (n + 1) cs (t :: m) = .ok cs := by
  unfold takeCmds
  rw [if_pos]
  show VasedBase.tokEq t.tok .last = true
  rw [h]
  rfl
theorem cmds_more {n : Nat} {cs : Script} {t : PTok} {m : Toks} (h : t.tok ≠ .last) : takeCmds (n + 1) cs (t :: m) = if 16 ≤ cs.length then .error ⟨4, t.place⟩ else (takeCmd (t :: m)).bind fun x => takeCmds n (cs ++ [x.1]) x.2 := by
  conv => lhs; unfold takeCmds
  rw [if_neg]
  · rfl
  · intro z
    apply h
    obtain ⟨p, tk⟩ := t
    cases tk with
    | last => rfl
    | name _ => cases z
    | num _ => cases z
    | sign _ => cases z
theorem while_gh {c : TT} {tb : TS} {D : Ends} {σ : L2.St} {H : Hp} (Pv : Nat → L2.St → Hp → Prop) (m0 : Nat) (h0 : Pv m0 σ H)
    (hs : ∀ m σ H, Pv m σ H → ∀ G : Bool → Hp → Prop, (∀ H1, tb { D with nx := fun σ' H' => ∃ m', m' < m ∧ Pv m' σ' H', ct := fun σ' H' => ∃ m', m' < m ∧ Pv m' σ' H', bk := D.nx } σ H1 → G true H1) → (∀ H1, D.nx σ H1 → G false H1) → c σ H G) : tWhile c tb D σ H := by
  refine ⟨Pv, ⟨m0, h0⟩, fun m σ H p => ?_⟩
  exact hs m σ H p _ (fun H1 q => ⟨_, fun σ' H' z => z, q⟩) (fun H1 q => q)
theorem kp_at {A : Ad} {H H1 H2 : Hp} {p : PySem.Addr} (s : KpR A H H1) (n : H p = none) (b : But [p] H1 H2) : KpR A H H2 := fun c o e m => b c o (s c o e m) (by
  intro z
  rw [List.mem_singleton.mp z, n] at e
  cases e)
theorem RdrAt.but {A : Ad} {H H' : Hp} {r c : PySem.Addr} {t : PTok} {m : Toks} {vs : List V} {cs : Script} (b : But [c] H H') (hc : H c = some (.lst vs)) (hs : Cmds A H vs cs) (h : RdrAt A H r (t :: m)) : RdrAt A H' r (t :: m) := by
  obtain ⟨dx, tl, l, i, e, ⟨us, f1, f2⟩, g, k⟩ := h
  have n1 : r ∉ [c] := fun z => by
    rw [List.mem_singleton.mp z, hc] at e
    cases e
  have n2 : tl ∉ [c] := fun z => by
    rw [List.mem_singleton.mp z, hc] at f1
    cases f1
    have l0 : l[0]? ≠ none := fun z => by
      rw [List.getElem?_eq_none_iff] at z
      rw [List.drop_eq_nil_of_le (by omega)] at g
      cases g
    cases e0 : l[0]? with
    | none => exact l0 e0
    | some t0 =>
      obtain ⟨v, e1, q, bh, ev, dt, et⟩ := f2.of e0
      obtain ⟨c0, e2, q2, ev2, dc, pa, pd, ec, _⟩ := hs.at e1
      rw [ev] at ev2
      cases ev2
      rw [et] at ec
      have ec := congrArg (fun o => match o with | some (HO.ins _ _ fs) => fs.length | _ => 0) ec
      simp only [fs_Token, fs_Command, List.length_cons, List.length_nil] at ec
      omega
  exact ⟨dx, tl, l, i, b _ _ e n1, ⟨us, b _ _ f1 n2, ToksX.but b hc f2⟩, g, k⟩
theorem CmdAt.but {A : Ad} {H H' : Hp} {p q : PySem.Addr} {c : Cmd} {xs : List V} (b : But [p] H H') (hp : H p = some (.lst xs)) (h : CmdAt A H q c) : CmdAt A H' q c := by
  have k : ∀ {a C dx fs}, H a = some (.ins C dx fs) → H' a = some (.ins C dx fs) := fun e => b _ _ e (fun z => by
    rw [List.mem_singleton.mp z, hp] at e
    cases e)
  obtain ⟨dx, pa, pd, e, ⟨da, f⟩, ⟨dd, g⟩⟩ := h
  exact ⟨dx, pa, pd, k e, ⟨da, k f⟩, ⟨dd, k g⟩⟩
theorem Cmds.but {A : Ad} {H H' : Hp} {p : PySem.Addr} {vs xs : List V} {s : Script} (b : But [p] H H') (hp : H p = some (.lst xs)) (h : Cmds A H vs s) : Cmds A H' vs s := Two.mono h fun v c _ ⟨q, e, f⟩ => ⟨q, e, CmdAt.but b hp f⟩
def sp_commands_of (A : Ad) (K : PySem.W.Frag) : Sp := fun vs H Q E => ∃ (p : PySem.Addr) (b : Bt), vs = [.ref p] ∧ BytesAt H p b ∧
  (∀ q H' s, Vaseda.read b = .ok s → MK.ScriptOk s → ScrFew s → ScrAt A H' q s → KpR A H H' → Q (.ref q) H') ∧ (∀ f, Vaseda.read b = .error f → ErrK A H E f)
theorem ok_commands_of (T : Txt K mg A) (Z : Apart A) : ∃ f fd, FnOk P w K mg base (L2.CX P w) 8 f fd ["script"] (sp_commands_of A K) ∧ mg "commands_of" = some (.ref f) ∧ PySem.W.keepIn K (.ref f) = true ∧ Binds K fd ["script"] [] := by
  obtain ⟨f, fd, F, hm, hb⟩ := T.d_commands_of.ex
  obtain ⟨f_Reader_here, fd_Reader_here, G_Reader_here, M_Reader_here, b_Reader_here⟩ := ok_Reader_here (P := P) (w := w) (base := base) T Z
  obtain ⟨f_Reader_init, fd_Reader_init, G_Reader_init, M_Reader, m_Reader, b_Reader_init⟩ := ok_Reader_init (P := P) (w := w) (base := base) T Z
  obtain ⟨f_read_command, fd_read_command, G_read_command, m_read_command, k_read_command, b_read_command⟩ := ok_read_command (P := P) (w := w) (base := base) T Z
  obtain ⟨f_tokens_of, fd_tokens_of, G_tokens_of, m_tokens_of, k_tokens_of, b_tokens_of⟩ := ok_tokens_of (P := P) (w := w) (base := base) T Z
  obtain ⟨fF, fdF, GF, iF, tF, bF⟩ := ok_Fault_init (P := P) (w := w) (base := base) T Z
  refine ⟨f, fd, ?_, hm, F.kp, hb⟩
  refine F.okX sc_commands_of (fun vs H Q E h => by obtain ⟨p, b, rfl, hp, k1, k2⟩ := h; rfl) (fun cdv A' outer s H vs Q E hr h => ?_)
  obtain ⟨p, b, rfl, hp, k1, k2⟩ := h
  refine ⟨_, (pss_cons (ps_if (pt_cmpR op_gt (pe_callB call_len_seq (by rfl) T.z_len PySem.boot_len (pa_cons (pv 0) pa_nil)) (pe_gi T.g_MOST_BYTES) (nomark _)) (pss_one (ps_raise rfl (takes_of rfl rfl rfl rfl) (pmk_fl T.flt.fl iF tF GF (hr.mono (by decide)) bF T.flt.g (pa_cons pe_int (pa_cons (pe_gi T.g_MOST_BYTES) pa_nil))))) pss_nil)
  (pss_cons (ps_set (i := 1) sc_commands_of.nd rfl (by first | exact Or.inl rfl | exact Or.inr rfl) (pe_make M_Reader G_Reader_init (hr.mono (by decide)) rfl m_Reader b_Reader_init .nil pass0 (pa_cons (pe_call G_tokens_of (hr.mono (by decide)) rfl m_tokens_of k_tokens_of b_tokens_of .nil (passes_call (takes_of rfl rfl rfl rfl) (fun _ _ _ _ h => h)) (pa_cons (pv 0) pa_nil)) pa_nil)))
  (pss_cons (ps_set (i := 2) sc_commands_of.nd rfl (by first | exact Or.inl rfl | exact Or.inr rfl) (pe_lstA pa_nil))
  (pss_cons (ps_while (passes_of rfl) (pt_cmpR op_ne (pe_fldK (K := K) (pe_meth0 (pv 1) T.c_Reader.cl M_Reader_here G_Reader_here (hr.mono (by decide)) b_Reader_here .nil pass0) rfl) pe_str (nomark _)) (pss_cons (ps_if (pt_cmpR op_eq (pe_callB call_len_seq (by rfl) T.z_len PySem.boot_len (pa_cons (pv 2) pa_nil)) (pe_gi T.g_MOST_COMMANDS) (nomark _)) (pss_one (ps_raise rfl (takes_of rfl rfl rfl rfl) (pmk_fl T.flt.fl iF tF GF (hr.mono (by decide)) bF T.flt.g (pa_cons pe_int (pa_cons (pe_fldK (K := K) (pe_meth0 (pv 1) T.c_Reader.cl M_Reader_here G_Reader_here (hr.mono (by decide)) b_Reader_here .nil pass0) rfl) pa_nil))))) pss_nil)
  (pss_one (ps_expr (pe_bm PySem.F.plainAttrs_list PySem.F.slot_list_append PySem.F.type_list_append mt_appendA (pv 2) (pa_cons (pe_call G_read_command (hr.mono (by decide)) rfl m_read_command k_read_command b_read_command .nil (passes_call (takes_of rfl rfl rfl rfl) (fun _ _ _ _ h => h)) (pa_cons (pv 1) pa_nil)) pa_nil))))))
  (pss_one (ps_ret (pv 2))))))), ?_⟩
  refine ⟨_, rfl, p, _, rfl, .inl (SqL.of hp), _, _, rfl, rfl, _, rfl, ?_⟩
  rw [List.length_map]
  have d1 : decide ((b.length : Int) > 4096) = decide (4096 < b.length) := decide_eq_decide.mpr (by omega)
  show (if decide ((b.length : Int) > 4096) = true then _ else _)
  rw [d1]
  have eT : VasedBase.TEXT = 4096 := rfl
  by_cases hb : 4096 < b.length
  · refine ifT (decide_eq_true hb) ?_
    refine flt_mk (by decide) (by decide) (k2 ⟨1, 4096⟩ ?_).err
    unfold Vaseda.read VasedBase.tokens
    rw [eT, if_pos hb]
    rfl
  · refine ifF (decide_eq_false hb) ?_
    have er : Vaseda.read b = (MP.lx b 0).bind fun l => takeCmds (l.length + 1) [] l := by
      unfold Vaseda.read VasedBase.tokens
      rw [eT, if_neg hb]
      rfl
    rw [er] at k1 k2
    refine ⟨_, rfl, p, b, rfl, hp, by omega, fun q H1 l el hl1 s1 => ?_, fun f ef => (k2 f (by rw [ef]; rfl)).err⟩
    rw [el] at k1 k2
    have tk := MP.lx_ok (by omega) _ 0 l (Nat.le_refl _) (Nat.zero_le _) el
    refine mk_Reader fun r dr H2 er s2 nr => ?_
    have s12 := s1.trans s2
    have hr2 : RdrAt A H2 r l := ⟨dr, q, l, 0, er, hl1.kp Z (same_kp s2), rfl, ?_⟩
    rotate_left
    · have := MP.lx_len _ 0 l (Nat.le_refl _) (Nat.zero_le _) el
      omega
    refine ⟨size0, fun c H3 nc hc s3 => ?_⟩
    have s13 := s12.trans s3
    have ncH : H c = none := same_none s12 nc
    refine while_gh (fun n σ H' => ∃ (m : Toks) (cs : Script) (vs : List V), σ = [some (.ref p), some (.ref r), some (.ref c)] ∧ RdrAt A H' r m ∧ TkOk m ∧ m.length < n ∧ H' c = some (.lst vs) ∧ Cmds A H' vs cs ∧ MK.ScriptOk cs ∧ ScrFew cs ∧ KpR A H H' ∧ takeCmds (l.length + 1) [] l = takeCmds n cs m)
      (l.length + 1) ⟨l, [], [], rfl, hr2.same Z s3, tk, Nat.lt_succ_self _, hc, Two.nil, fun _ z => (by cases z), ⟨Nat.zero_le _, fun _ z => (by cases z)⟩, same_kr s13, rfl⟩ ?_
    rintro n σ H4 ⟨m, cs, vs, rfl, hr4, hk4, hn, hc4, hcs, so, sf, kp, eq⟩ G g1 g2
    obtain ⟨t, m1, rfl, hpl, hcase⟩ := hk4.cons
    obtain ⟨dx, tl, l2, i, hrr, _⟩ := id hr4
    have hlen := hcs.1
    refine ⟨_, rfl, r, dx, _, rfl, hrr, lm_Reader_here, r, t, m1, rfl, hr4, fun qt bh tq => ?_⟩
    obtain ⟨dt, et⟩ := id tq
    refine ⟨_, _, _, _, _, rfl, (et), T.c_Token.cl, T.c_Token.no _ (by simp), lk_Token_kind, ?_⟩
    refine ⟨rfl, _, rfl, ?_⟩
    obtain ⟨n, rfl⟩ : ∃ k, n = k + 1 := ⟨n - 1, by omega⟩
    by_cases h : t.tok = .last
    · rw [show (!decide (V.str (tkKind t.tok) = V.str "end")) = false by rw [h]; simp [tkKind]]
      refine g2 H4 ⟨_, rfl, ?_⟩
      rw [cmds_end h] at eq
      exact k1 c H4 cs eq so sf ⟨vs, hc4, hcs⟩ kp
    · rw [show (!decide (V.str (tkKind t.tok) = V.str "end")) = true by
        rw [decide_eq_false]
        · rfl
        · intro z
          exact h (kind_end (V.str.inj z))]
      refine g1 H4 ?_
      rw [cmds_more h] at eq
      refine ⟨_, rfl, c, _, rfl, .inl (SqL.of hc4), rfl, _, rfl, ?_⟩
      have d16 : decide (V.int (vs.length : Int) = V.int 16) = decide (16 ≤ cs.length) := decide_eq_decide.mpr (by
        have := sf.1
        constructor
        · intro z
          have := V.int.inj z
          omega
        · intro z
          rw [show vs.length = 16 by omega]
          rfl)
      rw [d16]
      by_cases h16 : 16 ≤ cs.length
      · rw [if_pos h16] at eq
        refine ifT (decide_eq_true h16) ?_
        refine ⟨_, rfl, r, dx, _, rfl, hrr, lm_Reader_here, r, t, m1, rfl, hr4, fun qt bh tq => ?_⟩
        obtain ⟨dt, et⟩ := id tq
        refine ⟨_, _, _, _, _, rfl, (et), T.c_Token.cl, T.c_Token.no _ (by simp), lk_Token_place, ?_⟩
        exact flt_mk (by decide) (by omega) ((k2 ⟨4, t.place⟩ (by show takeCmds (l.length + 1) [] l = _; rw [eq])).same kp).err
      · rw [if_neg h16] at eq
        refine ifF (decide_eq_false h16) ?_
        refine ⟨_, rfl, .inl ⟨rfl, _, SqL.of hc4⟩, ?_⟩
        refine ⟨_, rfl, r, t :: m1, rfl, hr4, hk4, fun qc H5 c5 m5 e5 hc5 hr5 kp5 => ?_, fun f ef => (k2 f (by show takeCmds (l.length + 1) [] l = _; rw [eq, ef]; rfl)).same kp⟩
        obtain ⟨co, cf, hk5, lt5⟩ := cmd_ok e5 hk4
        rw [e5] at eq
        have hc45 := kp5.of _ _ hc4 noM_lst
        have hcs5 := Cmds.kp Z kp5.of hcs
        refine ⟨c, _, _, rfl, rfl, hc45, fewer (m := 100) (by omega) (by decide), fun H6 h6 b6 => ?_⟩
        obtain ⟨t6, m6, rfl, _⟩ := hk5.cons
        have kp6 := kp_at (kp.trans kp5) ncH b6
        refine ⟨n, Nat.lt_succ_self _, t6 :: m6, cs ++ [c5], _, rfl, RdrAt.but b6 hc45 hcs5 hr5, hk5, by omega, h6, ?_, ?_, ?_, kp6, eq⟩
        · exact (Cmds.but b6 hc45 hcs5).snoc ⟨qc, rfl, CmdAt.but b6 hc45 hc5⟩
        · intro x hx
          rcases List.mem_append.mp hx with hx | hx
          · exact so x hx
          · rw [List.mem_singleton.mp hx]
            exact co
        · refine ⟨by rw [List.length_append]; show _ + 1 ≤ 16; omega, fun x hx => ?_⟩
          rcases List.mem_append.mp hx with hx | hx
          · exact sf.2 x hx
          · rw [List.mem_singleton.mp hx]
            exact cf
end
end
end SK
set_option Elab.async false
set_option linter.all false
set_option maxRecDepth 100000
set_option maxHeartbeats 2000000
namespace SK
open PySem PySem.Spec PyProof.Rows L2
section
variable {P : Program} {w : World} {K : PySem.W.Frag} {mg : Str → Option Value} {base : Heap} {A : Ad}
section
open Vaseda (Script Deed Cmd Work Out)
open Vasedb (Spot At)
def IntsAt (H : Hp) (p : PySem.Addr) (l : List Int) : Prop := H p = some (.lst (l.map V.int))
/-- a script that is held is in order -/
structure Good (s : Script) : Prop where
  ok : MK.ScriptOk s
  few : ScrFew s
  pl : Vasedb.plain s = true
structure HoldX (A : Ad) (H : Hp) (h dx c ks os : PySem.Addr) (s : Script) : Prop where
  ob : H h = some (.ins A.Holder dx (fs_Holder (.ref c) (.ref ks) (.ref os)))
  sc : ScrAt A H c s
  kn : TxtsAt H ks (Vasedb.kinds s)
  ou : OutsAt A H s os (Vasedb.ats (Vasedb.kinds s))
def HoldAt (A : Ad) (H : Hp) (h : PySem.Addr) (o : Vasedb.Obj) : Prop := match o with
  | none => ∃ dx a b, H h = some (.ins A.Holder dx (fs_Holder .non (.ref a) (.ref b)))
  | some s => Good s ∧ ∃ dx c ks os, HoldX A H h dx c ks os s
theorem HoldX.same {A : Ad} {H H' : Hp} {h dx c ks os s} (z : Apart A) (k : Same H H') (x : HoldX A H h dx c ks os s) : HoldX A H' h dx c ks os s := ⟨k _ _ x.ob, x.sc.kp z (same_kp k), x.kn.kp (A := A) (same_kp k), x.ou.kp z (same_kp k)⟩
theorem HoldAt.same {A : Ad} {H H' : Hp} {h o} (z : Apart A) (k : Same H H') (x : HoldAt A H h o) : HoldAt A H' h o := by
  cases o with
  | none =>
    obtain ⟨dx, a, b, e⟩ := x
    exact ⟨dx, a, b, k _ _ e⟩
  | some s =>
    obtain ⟨g, dx, c, ks, os, e⟩ := x
    exact ⟨g, dx, c, ks, os, e.same z k⟩
theorem text_row (x : Bt) : (VasedBase.textRow x).map V.int = .int x.length :: x.map vC := by
  unfold VasedBase.textRow
  rw [List.map_cons, List.map_map]
  rfl
def sp_told_text (A : Ad) (K : PySem.W.Frag) : Sp := fun vs H Q _ => ∃ (x : Bt), vs = [vB x] ∧ x.length ≤ 10000 ∧ ∀ q H', IntsAt H' q (VasedBase.textRow x) → Same H H' → Q (.ref q) H'
theorem ok_told_text (T : Txt K mg A) (Z : Apart A) : ∃ f fd, FnOk P w K mg base CX0 1 f fd ["text"] (sp_told_text A K) ∧ mg "told_text" = some (.ref f) ∧ PySem.W.keepIn K (.ref f) = true ∧ Binds K fd ["text"] [] := by
  obtain ⟨f, fd, F, hm, hb⟩ := T.d_told_text.ex
  refine ⟨f, fd, ?_, hm, F.kp, hb⟩
  refine F.ok sc_told_text (fun vs H Q E h => by obtain ⟨x, rfl, few1, k⟩ := h; rfl) (fun cdv A' outer s H vs Q E hr h => ?_)
  obtain ⟨x, rfl, few1, k⟩ := h
  refine ⟨_, (pss_one (ps_ret (pe_op op_catA (pe_lstA (pa_cons (pe_callB call_len_str (by rfl) T.z_len PySem.boot_len (pa_cons (pv 0) pa_nil)) pa_nil)) (pe_lc (own := [("sign", 1)]) (g := gName 1) rfl sc_told_text.nd (pi_str (pv 0)) (blkOk_by (N := N_told_text) (sc := defScope s_told_text) (by decide +kernel))
   (fun _ _ _ _ _ => pg_name (i := 1) sc_told_text.nd rfl (Or.inl rfl)) (fun _ _ _ _ _ => by exact pts_nil) (fun _ _ _ _ _ => by exact (pe_callB call_ord (by rfl) T.z_ord (by decide +kernel) (pa_cons (pv 1) pa_nil))))))), ?_⟩
  refine ⟨_, rfl, _, rfl, few (m := 10000) (by rw [sB_len]; exact few1) (by decide), few (n := 1) (Nat.le_refl 1) (by decide), fun p H1 np hp s1 => ?_⟩
  refine ⟨_, rfl, _, rfl, fun D hD => ?_⟩
  refine lc_itA (walk_str (z := sB x)) (fun i => (x.take i).map vC) hD (fun H' s2 => trivial) rfl (fun i _ => fewer (m := 10000) (by rw [List.length_map, List.length_take]; omega) (by decide)) ?_ ?_
  · rintro i v Hx H2 hi s2 ⟨rfl, c, hc, rfl⟩ N M hN hM
    obtain ⟨b, e1, e2⟩ := sB_at hc
    rw [e2]
    refine ⟨rfl, ?_⟩
    refine ifT (Y := M H2) rfl ?_
    refine ⟨_, rfl, sB [b], rfl, rfl, ?_⟩
    refine hN _ _ (Same.refl _) ?_
    rw [take_more e1, List.map_append]
    rfl
  · intro H2 s2 hd
    rw [sB_size, List.take_length] at hd
    refine ⟨p, D, _, _, rfl, rfl, s2 _ _ hp, hd, few (m := 20000) (by rw [List.length_map]; show 1 + _ ≤ 20000; omega) (by decide), fun q H3 nq hq s3 => k q H3 ?_ ((s1.trans s2).trans s3)⟩
    show H3 q = _
    rw [hq, text_row, sB_len]
    rfl
def sp_told_place_and_kind (A : Ad) (K : PySem.W.Frag) : Sp := fun vs H Q _ => ∃ (q : PySem.Addr) (s : Script) (a : At), vs = [.ref q] ∧ OutAt A H s q a ∧ a.x.length ≤ 10000 ∧ ∀ p H', IntsAt H' p (Vasedb.atRow a) → Same H H' → Q (.ref p) H'
theorem ok_told_place_and_kind (T : Txt K mg A) (Z : Apart A) : ∃ f fd, FnOk P w K mg base CX0 2 f fd ["outcome"] (sp_told_place_and_kind A K) ∧ mg "told_place_and_kind" = some (.ref f) ∧ PySem.W.keepIn K (.ref f) = true ∧ Binds K fd ["outcome"] [] := by
  obtain ⟨f, fd, F, hm, hb⟩ := T.d_told_place_and_kind.ex
  obtain ⟨f_told_text, fd_told_text, G_told_text, m_told_text, k_told_text, b_told_text⟩ := ok_told_text (P := P) (w := w) (base := base) T Z
  refine ⟨f, fd, ?_, hm, F.kp, hb⟩
  refine F.ok sc_told_place_and_kind (fun vs H Q E h => by obtain ⟨q, s, a, rfl, ⟨dx, pp, pr, g1, g2, g3⟩, few1, k⟩ := h; rfl) (fun cdv A' outer s H vs Q E hr h => ?_)
  obtain ⟨q, s, a, rfl, ⟨dx, pp, pr, g1, g2, g3⟩, few1, k⟩ := h
  refine ⟨_, (pss_one (ps_ret (pe_op op_catA (pe_lstA (pa_cons (pe_ix (ix_tupK (K := K)) (pe_fldK (K := K) (pv 0) rfl) pe_int (fun _ _ => rfl)) (pa_cons (pe_ix (ix_tupK (K := K)) (pe_fldK (K := K) (pv 0) rfl) pe_int (fun _ _ => rfl)) pa_nil))) (pe_call G_told_text (hr.mono (by decide)) rfl m_told_text k_told_text b_told_text .nil pass0 (pa_cons (pe_fldK (K := K) (pv 0) rfl) pa_nil))))), ?_⟩
  refine ⟨_, rfl, ?_⟩
  refine ⟨_, _, _, _, _, rfl, (g1), T.c_Outcome.cl, T.c_Outcome.no _ (by simp), lk_Outcome_place, ?_⟩
  refine ⟨pp, _, _, _, rfl, rfl, SqT.of g2, atI_nat (j := 0) rfl, ?_⟩
  refine ⟨_, rfl, ?_⟩
  refine ⟨_, _, _, _, _, rfl, (g1), T.c_Outcome.cl, T.c_Outcome.no _ (by simp), lk_Outcome_place, ?_⟩
  refine ⟨pp, _, _, _, rfl, rfl, SqT.of g2, atI_nat (j := 1) rfl, ?_⟩
  refine ⟨few (n := 2) (Nat.le_refl 2) (by decide), fun p H1 np hp s1 => ?_⟩
  refine ⟨_, rfl, ?_⟩
  refine ⟨_, _, _, _, _, rfl, (s1 _ _ g1), T.c_Outcome.cl, T.c_Outcome.no _ (by simp), lk_Outcome_kind, ?_⟩
  refine ⟨a.x, rfl, few1, fun t H2 ht s2 => ?_⟩
  refine ⟨p, t, _, _, rfl, rfl, s2 _ _ hp, ht, few (m := 20000) (by rw [text_row]; simp only [List.length_cons, List.length_map, List.length_nil]; omega) (by decide), fun r H3 nr hr3 s3 => k r H3 ?_ ((s1.trans s2).trans s3)⟩
  show H3 r = _
  rw [hr3]
  unfold Vasedb.atRow
  rw [List.map_append]
  rfl
/-! ### few kinds -/
theorem leasts_nd (hs : List Bt) : ∀ (all : List (Vasedb.Key × Bt)) (l : List Bt), (∀ z ∈ all, z.1 = Vasedb.keyOf hs z.2) → (l.map (Vasedb.mask hs)).Nodup → ((all.foldl (MK.leastStep hs) l).map (Vasedb.mask hs)).Nodup
  | [], _, _, h => h
  | z :: all, l, hk, h => by
    rw [List.foldl_cons]
    refine leasts_nd hs all _ (fun y hy => hk y (List.mem_cons_of_mem _ hy)) ?_
    unfold MK.leastStep
    by_cases q : l.any (fun x => Vasedb.mask hs x == z.1.mask) = true
    · rw [if_pos q]
      exact h
    · rw [if_neg q, List.map_append, List.map_cons, List.map_nil]
      refine MK.nodup_snoc h fun m => q ?_
      obtain ⟨y, hy, e⟩ := List.mem_map.mp m
      refine List.any_eq_true.mpr ⟨y, hy, ?_⟩
      rw [hk z List.mem_cons_self, e]
      exact beq_self_eq_true _
theorem leasts_few {s : Script} (g : Good s) : (Vasedb.leasts (Vasedb.hasWords s)).length ≤ 16 := by
  obtain ⟨w4, w16⟩ := MK.plain_few g.pl
  have W := MK.words_ok g.ok g.pl
  rw [MK.leasts_is, ← MK.foundA_is W.ne w16]
  have nd := leasts_nd (Vasedb.hasWords s) (MK.foundA (Vasedb.hasWords s) 16).all [] (MK.foundA_ok _ 16).key List.nodup_nil
  have sub : ∀ b ∈ ((MK.foundA (Vasedb.hasWords s) 16).all.foldl (MK.leastStep (Vasedb.hasWords s)) []).map (Vasedb.mask (Vasedb.hasWords s)), b ∈ MK.bits (Vasedb.hasWords s).length := fun b hb => by
    obtain ⟨y, _, e⟩ := List.mem_map.mp hb
    have q := MK.bits_mem b
    have e2 : b.length = (Vasedb.hasWords s).length := by
      rw [← e]
      unfold Vasedb.mask
      rw [List.length_map]
    rw [e2] at q
    exact q
  have h := MK.len_le_of_nodup_sub nd sub
  rw [List.length_map, MK.bits_len] at h
  have p : 2 ^ (Vasedb.hasWords s).length ≤ 2 ^ 4 := Nat.pow_le_pow_right (by omega) w4
  exact Nat.le_trans h p
theorem kinds_few {s : Script} (g : Good s) : (Vasedb.kinds s).length ≤ 49 := by
  have h1 := leasts_few g
  have h2 := Nat.le_trans (erase_len _) (own_len s)
  have h3 := g.few.1
  have h4 : (Vasedb.ownWords s).length ≤ 32 := Nat.le_trans h2 (by omega)
  unfold Vasedb.kinds Vasedb.kindsFor
  rw [List.length_append, List.length_append, List.length_map]
  have : (if (Vasedb.ownWords s).contains [] = true then ([] : List Bt) else [[]]).length ≤ 1 := by split <;> simp
  have e1 : ∀ a b c : Nat, a ≤ 32 → b ≤ 1 → c ≤ 16 → a + b + c ≤ 49 := fun a b c _ _ _ => by omega
  exact e1 _ _ _ h4 this h1
theorem kinds_short {s : Script} (g : Good s) : ∀ x ∈ Vasedb.kinds s, x.length ≤ 16 := fun x hx => ((MK.kinds_covers (MK.words_ok g.ok g.pl)).lines x hx).2
theorem ats_mem {ks : List Bt} {a : At} (h : a ∈ Vasedb.ats ks) : a.x ∈ ks ∧ a.p ∈ Vasedb.spots := by
  unfold Vasedb.ats at h
  obtain ⟨p, hp, h⟩ := List.mem_flatMap.mp h
  obtain ⟨x, hx, e⟩ := List.mem_map.mp h
  rw [← e]
  exact ⟨hx, hp⟩
theorem ats_len (ks : List Bt) : (Vasedb.ats ks).length = 47 * ks.length := by
  unfold Vasedb.ats
  rw [List.length_flatMap]
  have : (Vasedb.spots.map fun p => (ks.map fun x => (⟨p, x⟩ : At)).length) = Vasedb.spots.map fun _ => ks.length := List.map_congr_left fun p _ => List.length_map ..
  rw [this, List.map_const', List.sum_replicate_nat]
  congr 1
/-! ### hold -/
theorem kp_hold {A : Ad} {H H' : Hp} {r dx : PySem.Addr} {fs : List (Str × V)} (b : But [r] H H') (h : H r = some (.ins A.Holder dx fs)) : Kp A H H' := fun c o e n => b c o e (fun z => by
  rw [List.mem_singleton.mp z, h] at e
  cases e
  exact noM_hold n)
def sp_Holder_hold (A : Ad) (K : PySem.W.Frag) : Sp := fun vs H Q _ => ∃ (h c dx : PySem.Addr) (v0 v1 v2 : V) (s : Script), vs = [.ref h, .ref c] ∧ H h = some (.ins A.Holder dx (fs_Holder v0 v1 v2)) ∧ ScrAt A H c s ∧ Good s ∧ ∀ H', (∃ ks os, HoldX A H' h dx c ks os s) → Kp A H H' → Q .non H'
theorem ok_Holder_hold (T : Txt K mg A) (Z : Apart A) : ∃ f fd, FnOk P w K mg base CX0 5 f fd ["self", "commands"] (sp_Holder_hold A K) ∧ Meth K A.Holder "hold" f ∧ Binds K fd ["self", "commands"] [] := by
  obtain ⟨f, fd, F, hm, hb⟩ := T.d_Holder_hold.ex
  obtain ⟨f_all_outcomes, fd_all_outcomes, G_all_outcomes, m_all_outcomes, k_all_outcomes, b_all_outcomes⟩ := ok_all_outcomes (P := P) (w := w) (base := base) T Z
  obtain ⟨f_kinds_of, fd_kinds_of, G_kinds_of, m_kinds_of, k_kinds_of, b_kinds_of⟩ := ok_kinds_of (P := P) (w := w) (base := base) T Z
  refine ⟨f, fd, ?_, hm, hb⟩
  refine F.ok sc_Holder_hold (fun vs H Q E h => by obtain ⟨h, c, dx, v0, v1, v2, s, rfl, hh, hc, g, k⟩ := h; rfl) (fun cdv A' outer s H vs Q E hr h => ?_)
  obtain ⟨h, c, dx, v0, v1, v2, s, rfl, hh, hc, g, k⟩ := h
  refine ⟨_, (pss_cons (ps_fldA (pv 0) (pv 1) rfl)
  (pss_cons (ps_fldA (pv 0) (pe_call G_kinds_of (hr.mono (by decide)) rfl m_kinds_of k_kinds_of b_kinds_of .nil pass0 (pa_cons (pv 1) pa_nil)) rfl)
  (pss_one (ps_fldA (pv 0) (pe_call G_all_outcomes (hr.mono (by decide)) rfl m_all_outcomes k_all_outcomes b_all_outcomes .nil pass0 (pa_cons (pv 1) (pa_cons (pe_fldK (K := K) (pv 0) rfl) pa_nil))) rfl)))), ?_⟩
  refine ⟨_, rfl, _, rfl, ?_⟩
  refine ⟨_, _, _, _, rfl, (hh), T.c_Holder.cl, T.c_Holder.no _ (by simp), (by show 3 < 1000; decide), ?_⟩; rw [pf_Holder_commands]; intro H1 h1 b1
  have kp1 := kp_hold b1 hh
  refine ⟨_, rfl, c, s, rfl, hc.kp Z kp1, g.few, g.ok, g.pl, fun ks H2 hk2 s2 => ?_⟩
  have h2 := s2 _ _ h1
  refine ⟨_, rfl, ?_⟩
  refine ⟨_, _, _, _, rfl, (h2), T.c_Holder.cl, T.c_Holder.no _ (by simp), (by show 3 < 1000; decide), ?_⟩; rw [pf_Holder_kinds_held]; intro H3 h3 b3
  have kp3 := kp_hold b3 h2
  have kp13 := (kp1.trans (same_kp s2)).trans kp3
  have hk3 : TxtsAt H3 ks (Vasedb.kinds s) := hk2.kp (A := A) kp3
  refine ⟨_, rfl, _, rfl, ?_⟩
  refine ⟨_, _, _, _, _, rfl, (h3), T.c_Holder.cl, T.c_Holder.no _ (by simp), lk_Holder_kinds_held, ?_⟩
  refine ⟨c, ks, s, _, rfl, hc.kp Z kp13, hk3, g.few.1, Nat.le_trans (kinds_few g) (by decide), MK.plain_deed g.pl, fun os H4 ho4 s4 => ?_⟩
  have h4 := s4 _ _ h3
  refine ⟨_, rfl, ?_⟩
  refine ⟨_, _, _, _, rfl, (h4), T.c_Holder.cl, T.c_Holder.no _ (by simp), (by show 3 < 1000; decide), ?_⟩; rw [pf_Holder_outcomes]; intro H5 h5 b5
  have kp5 := kp_hold b5 h4
  exact k H5 ⟨ks, os, h5, hc.kp Z ((kp13.trans (same_kp s4)).trans kp5), hk3.kp ((same_kp s4).trans kp5), ho4.kp Z kp5⟩ ((kp13.trans (same_kp s4)).trans kp5)
/-! ### questions: nothing changes -/
theorem HoldX.ats {A : Ad} {H : Hp} {h dx c ks os s} (x : HoldX A H h dx c ks os s) (g : Good s) : (Vasedb.ats (Vasedb.kinds s)).length ≤ 2303 := by
  rw [ats_len]
  have := kinds_few g
  omega
def sp_Holder_has_command (A : Ad) (K : PySem.W.Frag) : Sp := fun vs H Q _ => ∃ (h dx c ks os : PySem.Addr) (s : Script) (n : Int), vs = [.ref h, .int n] ∧ HoldX A H h dx c ks os s ∧ Q (.bl (decide (0 ≤ n ∧ n < s.length))) H
theorem ok_Holder_has_command (T : Txt K mg A) (Z : Apart A) : ∃ f fd, FnOk P w K mg base CX0 1 f fd ["self", "number"] (sp_Holder_has_command A K) ∧ Meth K A.Holder "has_command" f ∧ Binds K fd ["self", "number"] [] := by
  obtain ⟨f, fd, F, hm, hb⟩ := T.d_Holder_has_command.ex
  refine ⟨f, fd, ?_, hm, hb⟩
  refine F.ok sc_Holder_has_command (fun vs H Q E h => by obtain ⟨h, dx, c, ks, os, s, n, rfl, X, k⟩ := h; rfl) (fun cdv A' outer s H vs Q E hr h => ?_)
  obtain ⟨h, dx, c, ks, os, s, n, rfl, X, k⟩ := h
  refine ⟨_, (pss_one (ps_ret (pe_and (pe_cmpR op_ge (pv 1) pe_int (nomark _)) (pe_one (pe_cmpR op_lt (pv 1) (pe_callB call_len_seq (by rfl) T.z_len PySem.boot_len (pa_cons (pe_fldK (K := K) (pv 0) rfl) pa_nil)) (nomark _)))))), ?_⟩
  obtain ⟨vs, hc, hs⟩ := X.sc
  have hl := hs.1
  refine ⟨_, rfl, _, _, rfl, rfl, _, rfl, ?_⟩
  show (if decide (n ≥ 0) = true then _ else _)
  by_cases h0 : 0 ≤ n
  · refine ifT (decide_eq_true h0) ?_
    refine ⟨_, rfl, ?_⟩
    refine ⟨_, rfl, ?_⟩
    refine ⟨_, _, _, _, _, rfl, (X.ob), T.c_Holder.cl, T.c_Holder.no _ (by simp), lk_Holder_commands, ?_⟩
    refine ⟨c, vs, rfl, .inl (SqL.of hc), _, _, rfl, rfl, ?_⟩
    have e : decide (n < (vs.length : Int)) = decide (0 ≤ n ∧ n < s.length) := decide_eq_decide.mpr (by omega)
    show Q (.bl (decide (n < (vs.length : Int)))) H
    rw [e]
    exact k
  · refine ifF (decide_eq_false h0) ?_
    have e : false = decide (0 ≤ n ∧ n < s.length) := (decide_eq_false (by omega)).symm
    rw [← e] at k
    exact k
def sp_Holder_first_mattering (A : Ad) (K : PySem.W.Frag) : Sp := fun vs H Q _ => ∃ (h dx c ks os : PySem.Addr) (s : Script) (n : Nat), vs = [.ref h, vN n] ∧ HoldX A H h dx c ks os s ∧ Good s ∧ n < s.length ∧
  (∀ q H' a, MK.mattering s n = some a → OutAt A H' s q a → Same H H' → Q (.ref q) H') ∧ (∀ H', MK.mattering s n = none → Same H H' → Q .non H')
theorem ok_Holder_first_mattering (T : Txt K mg A) (Z : Apart A) : ∃ f fd, FnOk P w K mg base CX0 5 f fd ["self", "number"] (sp_Holder_first_mattering A K) ∧ Meth K A.Holder "first_mattering" f ∧ Binds K fd ["self", "number"] [] := by
  obtain ⟨f, fd, F, hm, hb⟩ := T.d_Holder_first_mattering.ex
  obtain ⟨f_first_unlike, fd_first_unlike, G_first_unlike, m_first_unlike, k_first_unlike, b_first_unlike⟩ := ok_first_unlike (P := P) (w := w) (base := base) T Z
  obtain ⟨f_where_done, fd_where_done, G_where_done, m_where_done, k_where_done, b_where_done⟩ := ok_where_done (P := P) (w := w) (base := base) T Z
  obtain ⟨f_without, fd_without, G_without, m_without, k_without, b_without⟩ := ok_without (P := P) (w := w) (base := base) T Z
  refine ⟨f, fd, ?_, hm, hb⟩
  refine F.ok sc_Holder_first_mattering (fun vs H Q E h => by obtain ⟨h, dx, c, ks, os, s, n, rfl, X, g, hn, k1, k2⟩ := h; rfl) (fun cdv A' outer s H vs Q E hr h => ?_)
  obtain ⟨h, dx, c, ks, os, s, n, rfl, X, g, hn, k1, k2⟩ := h
  refine ⟨_, (pss_one (ps_ret (pe_call G_first_unlike (hr.mono (by decide)) rfl m_first_unlike k_first_unlike b_first_unlike .nil pass0 (pa_cons (pe_call G_where_done (hr.mono (by decide)) rfl m_where_done k_where_done b_where_done .nil pass0 (pa_cons (pe_fldK (K := K) (pv 0) rfl) (pa_cons (pv 1) pa_nil))) (pa_cons (pe_call G_without (hr.mono (by decide)) rfl m_without k_without b_without .nil pass0 (pa_cons (pe_fldK (K := K) (pv 0) rfl) (pa_cons (pv 1) pa_nil))) pa_nil))))), ?_⟩
  refine ⟨_, rfl, ?_⟩
  refine ⟨_, _, _, _, _, rfl, (X.ob), T.c_Holder.cl, T.c_Holder.no _ (by simp), lk_Holder_outcomes, ?_⟩
  refine ⟨_, rfl, os, s, _, n, rfl, X.ou, Nat.le_trans (X.ats g) (by decide), fun q H1 hq s1 => ?_⟩
  refine ⟨_, rfl, ?_⟩
  refine ⟨_, _, _, _, _, rfl, (s1 _ _ X.ob), T.c_Holder.cl, T.c_Holder.no _ (by simp), lk_Holder_commands, ?_⟩
  refine ⟨_, rfl, c, s, n, rfl, X.sc.kp Z (same_kp s1), g.few.1, hn, fun u H2 hu s2 => ?_⟩
  have wl : (Vasedb.without s n).length = s.length := by
    unfold Vasedb.without
    rw [List.length_map, List.length_zipIdx]
  refine ⟨q, u, s, Vasedb.without s n, _, rfl, hq.kp Z (same_kp s2), hu, by rw [wl]; exact g.few.1, g.few.1, fun d hd => ?_, MK.plain_deed g.pl, fun v H3 a e h3 s3 => k1 v H3 a e h3 ((s1.trans s2).trans s3), fun H3 e s3 => k2 H3 e ((s1.trans s2).trans s3)⟩
  rcases MK.mem_without hn hd with e | e
  · rw [e]
    rfl
  · exact MK.plain_deed g.pl d e
def sp_Holder_first_idle (A : Ad) (K : PySem.W.Frag) : Sp := fun vs H Q _ => ∃ (h dx c ks os : PySem.Addr) (s : Script), vs = [.ref h] ∧ HoldX A H h dx c ks os s ∧ Good s ∧
  (∀ n H', MK.firstIdle s = some n → Same H H' → Q (vN n) H') ∧ (∀ H', MK.firstIdle s = none → Same H H' → Q .non H')
theorem ok_Holder_first_idle (T : Txt K mg A) (Z : Apart A) : ∃ f fd, FnOk P w K mg base CX0 6 f fd ["self"] (sp_Holder_first_idle A K) ∧ Meth K A.Holder "first_idle" f ∧ Binds K fd ["self"] [] := by
  obtain ⟨f, fd, F, hm, hb⟩ := T.d_Holder_first_idle.ex
  obtain ⟨f_Holder_first_mattering, fd_Holder_first_mattering, G_Holder_first_mattering, M_Holder_first_mattering, b_Holder_first_mattering⟩ := ok_Holder_first_mattering (P := P) (w := w) (base := base) T Z
  refine ⟨f, fd, ?_, hm, hb⟩
  refine F.ok sc_Holder_first_idle (fun vs H Q E h => by obtain ⟨h, dx, c, ks, os, s, rfl, X, g, k1, k2⟩ := h; rfl) (fun cdv A' outer s H vs Q E hr h => ?_)
  obtain ⟨h, dx, c, ks, os, s, rfl, X, g, k1, k2⟩ := h
  refine ⟨_, (pss_cons (ps_for PassesOwn.never rfl (pi_range1 (by rfl) T.z_range (pa_cons (pe_callB call_len_seq (by rfl) T.z_len PySem.boot_len (pa_cons (pe_fldK (K := K) (pv 0) rfl) pa_nil)) pa_nil)) (pg_name (i := 1) sc_Holder_first_idle.nd rfl (by first | exact Or.inl rfl | exact Or.inr rfl))
  (pss_one (ps_if (pt_cmpR op_isN (pe_meth (pv 0) T.c_Holder.cl M_Holder_first_mattering G_Holder_first_mattering (hr.mono (by decide)) b_Holder_first_mattering .nil pass0 (pa_cons (pv 1) pa_nil)) pe_non (nomark _)) (pss_one (ps_ret (pv 1))) pss_nil)))
  (pss_one (ps_ret pe_non))), ?_⟩
  obtain ⟨vs, hc, hs⟩ := id X.sc
  have hl := hs.1
  have f16 := g.few.1
  refine ⟨_, rfl, ?_⟩
  refine ⟨_, _, _, _, _, rfl, (X.ob), T.c_Holder.cl, T.c_Holder.no _ (by simp), lk_Holder_commands, ?_⟩
  refine ⟨c, vs, rfl, .inl (SqL.of hc), _, rfl, by omega, by omega, ?_⟩
  rw [Int.toNat_natCast, hl]
  refine for_it (walk_range (lo := 0) (n := s.length)) (fun i σ H' => ∃ o, σ = [some (.ref h), o] ∧ Same H H' ∧ (List.range i).find? (fun n => (MK.mattering s n).isNone) = none)
    ⟨none, rfl, Same.refl _, rfl⟩ (fun _ _ _ _ _ => trivial) ?_ ?_
  · rintro i v σ Hx H2 hi ⟨o, rfl, s2, hd⟩ ⟨rfl, rfl⟩
    have hi : i < s.length := hi
    have X2 := X.same Z s2
    have ei : V.int (0 + (i : Int)) = vN i := by rw [Int.zero_add]
    have nx : (List.range (i + 1)).find? (fun n => (MK.mattering s n).isNone) = if (MK.mattering s i).isNone = true then some i else none := by
      rw [List.range_succ, List.find?_append, hd, Option.none_or]
      by_cases q : (MK.mattering s i).isNone = true
      · rw [if_pos q]
        exact find_one_pos q
      · rw [if_neg q]
        exact find_one_neg q
    refine ⟨_, rfl, h, dx, _, rfl, X2.ob, lm_Holder_first_mattering, _, rfl, h, dx, c, ks, os, s, i, by show [V.ref h, V.int (0 + (i : Int))] = _; rw [ei], X2, g, hi, fun q H3 a e ho s3 => ?_, fun H3 e s3 => ?_⟩
    · refine ⟨rfl, _, rfl, ?_⟩
      refine ifF (by simp) ?_
      rw [e, if_neg (by simp)] at nx
      exact ⟨_, rfl, s2.trans s3, nx⟩
    · refine ⟨rfl, _, rfl, ?_⟩
      refine ifT (by simp) ?_
      have nx : (List.range (i + 1)).find? (fun n => (MK.mattering s n).isNone) = some i := by
        rw [nx, e]
        rfl
      refine ⟨_, rfl, ?_⟩
      show Q (V.int (0 + (i : Int))) H3
      rw [ei]
      refine k1 i H3 ?_ (s2.trans s3)
      unfold MK.firstIdle
      rw [show s.length = (i + 1) + (s.length - (i + 1)) by omega, List.range_add, List.find?_append, nx]
      rfl
  · rintro σ H2 ⟨o, rfl, s2, hd⟩
    exact k2 H2 hd s2
def sp_Holder_shown (A : Ad) (K : PySem.W.Frag) : Sp := fun vs H Q _ => ∃ (h dx c ks os : PySem.Addr) (s : Script), vs = [.ref h] ∧ HoldX A H h dx c ks os s ∧ Good s ∧ ∀ q H', IntsAt H' q (VasedBase.textRow (Vaseda.shown s)) → Same H H' → Q (.ref q) H'
theorem shown_few {s : Script} (g : Good s) : (Vaseda.shown s).length ≤ 3200 := by
  have : ∀ l : Script, (∀ c ∈ l, CmdFew c) → (Vaseda.shown l).length ≤ 200 * l.length := by
    intro l
    induction l with
    | nil => intro _; exact Nat.le_refl _
    | cons c l ih =>
      intro hc
      have h1 := show_few (hc c List.mem_cons_self)
      have h2 := ih fun d hd => hc d (List.mem_cons_of_mem _ hd)
      unfold Vaseda.shown at h2 ⊢
      rw [List.flatMap_cons, List.length_append, List.length_cons]
      omega
  have h := this s g.few.2
  have := g.few.1
  omega
theorem ok_Holder_shown (T : Txt K mg A) (Z : Apart A) : ∃ f fd, FnOk P w K mg base CX0 4 f fd ["self"] (sp_Holder_shown A K) ∧ Meth K A.Holder "shown" f ∧ Binds K fd ["self"] [] := by
  obtain ⟨f, fd, F, hm, hb⟩ := T.d_Holder_shown.ex
  obtain ⟨f_form_of, fd_form_of, G_form_of, m_form_of, k_form_of, b_form_of⟩ := ok_form_of (P := P) (w := w) (base := base) T Z
  obtain ⟨f_told_text, fd_told_text, G_told_text, m_told_text, k_told_text, b_told_text⟩ := ok_told_text (P := P) (w := w) (base := base) T Z
  refine ⟨f, fd, ?_, hm, hb⟩
  refine F.ok sc_Holder_shown (fun vs H Q E h => by obtain ⟨h, dx, c, ks, os, s, rfl, X, g, k⟩ := h; rfl) (fun cdv A' outer s H vs Q E hr h => ?_)
  obtain ⟨h, dx, c, ks, os, s, rfl, X, g, k⟩ := h
  refine ⟨_, (pss_one (ps_ret (pe_call G_told_text (hr.mono (by decide)) rfl m_told_text k_told_text b_told_text .nil pass0 (pa_cons (pe_call G_form_of (hr.mono (by decide)) rfl m_form_of k_form_of b_form_of .nil pass0 (pa_cons (pe_fldK (K := K) (pv 0) rfl) pa_nil)) pa_nil)))), ?_⟩
  refine ⟨_, rfl, ?_⟩
  refine ⟨_, _, _, _, _, rfl, (X.ob), T.c_Holder.cl, T.c_Holder.no _ (by simp), lk_Holder_commands, ?_⟩
  refine ⟨c, s, rfl, X.sc, g.few, fun H1 s1 => ?_⟩
  exact ⟨_, rfl, Nat.le_trans (shown_few g) (by decide), fun q H2 hq s2 => k q H2 hq (s1.trans s2)⟩
def kindsRow (s : Script) : List Int := ((Vasedb.kinds s).length : Int) :: (Vasedb.kinds s).flatMap VasedBase.textRow
theorem rows_len' : ∀ (l : List Bt), (∀ x ∈ l, x.length ≤ 16) → (l.flatMap VasedBase.textRow).length ≤ 17 * l.length
  | [], _ => Nat.le_refl _
  | x :: l, h => by
    have h1 := rows_len' l fun y hy => h y (List.mem_cons_of_mem _ hy)
    have h2 := h x List.mem_cons_self
    rw [List.flatMap_cons, List.length_append, List.length_cons]
    have : (VasedBase.textRow x).length = x.length + 1 := by
      unfold VasedBase.textRow
      rw [List.length_cons, List.length_map]
    omega
def sp_Holder_kinds (A : Ad) (K : PySem.W.Frag) : Sp := fun vs H Q _ => ∃ (h dx c ks os : PySem.Addr) (s : Script), vs = [.ref h] ∧ HoldX A H h dx c ks os s ∧ Good s ∧ ∀ q H', IntsAt H' q (kindsRow s) → Same H H' → Q (.ref q) H'
theorem ok_Holder_kinds (T : Txt K mg A) (Z : Apart A) : ∃ f fd, FnOk P w K mg base CX0 2 f fd ["self"] (sp_Holder_kinds A K) ∧ Meth K A.Holder "kinds" f ∧ Binds K fd ["self"] [] := by
  obtain ⟨f, fd, F, hm, hb⟩ := T.d_Holder_kinds.ex
  obtain ⟨f_told_text, fd_told_text, G_told_text, m_told_text, k_told_text, b_told_text⟩ := ok_told_text (P := P) (w := w) (base := base) T Z
  refine ⟨f, fd, ?_, hm, hb⟩
  refine F.ok sc_Holder_kinds (fun vs H Q E h => by obtain ⟨h, dx, c, ks, os, s, rfl, X, g, k⟩ := h; rfl) (fun cdv A' outer s H vs Q E hr h => ?_)
  obtain ⟨h, dx, c, ks, os, s, rfl, X, g, k⟩ := h
  refine ⟨_, (pss_cons (ps_set (i := 1) sc_Holder_kinds.nd rfl (by first | exact Or.inl rfl | exact Or.inr rfl) (pe_lstA (pa_cons (pe_callB call_len_seq (by rfl) T.z_len PySem.boot_len (pa_cons (pe_fldK (K := K) (pv 0) rfl) pa_nil)) pa_nil)))
  (pss_cons (ps_for PassesOwn.never rfl (pi_list (pe_fldK (K := K) (pv 0) rfl)) (pg_name (i := 2) sc_Holder_kinds.nd rfl (by first | exact Or.inl rfl | exact Or.inr rfl))
  (pss_one (ps_expr (pe_bm PySem.F.plainAttrs_list PySem.F.slot_list_extend PySem.F.type_list_extend mt_extendA (pv 1) (pa_cons (pe_call G_told_text (hr.mono (by decide)) rfl m_told_text k_told_text b_told_text .nil pass0 (pa_cons (pv 2) pa_nil)) pa_nil)))))
  (pss_one (ps_ret (pv 1))))), ?_⟩
  have k49 := kinds_few g
  have k16 := kinds_short g
  have hk : SqL K H ks ((Vasedb.kinds s).map vB) := SqL.of X.kn
  refine ⟨_, rfl, ?_⟩
  refine ⟨_, _, _, _, _, rfl, (X.ob), T.c_Holder.cl, T.c_Holder.no _ (by simp), lk_Holder_kinds_held, ?_⟩
  refine ⟨ks, _, rfl, .inl hk, few (n := 1) (Nat.le_refl 1) (by decide), fun t H1 nt ht s1 => ?_⟩
  refine ⟨_, rfl, ?_⟩
  refine ⟨_, _, _, _, _, rfl, (s1 _ _ X.ob), T.c_Holder.cl, T.c_Holder.no _ (by simp), lk_Holder_kinds_held, ?_⟩
  refine ⟨ks, rfl, ⟨_, SqL.of (s1 _ _ X.kn)⟩, ?_⟩
  refine for_it (walk_list (K := K) (a := ks) (xs := (Vasedb.kinds s).map vB)) (fun i σ H' => ∃ o, σ = [some (.ref h), some (.ref t), o] ∧ Same H H' ∧ IntsAt H' t (((Vasedb.kinds s).length : Int) :: ((Vasedb.kinds s).take i).flatMap VasedBase.textRow))
    ⟨none, rfl, s1, by unfold IntsAt; rw [ht, List.length_map]; rfl⟩ (fun i σ H' _ ⟨_, _, s3, _⟩ => SqL.of (s3 _ _ X.kn)) ?_ ?_
  · rintro i v σ Hx H2 hi ⟨o, rfl, s2, hd⟩ ⟨rfl, hv⟩
    obtain ⟨x, e1, rfl⟩ := map_at hv
    have hx := k16 x (List.mem_of_getElem? e1)
    refine ⟨_, rfl, .inl ⟨rfl, _, SqL.of hd⟩, ?_⟩
    refine ⟨_, rfl, x, rfl, by omega, fun q H3 hq s3 => ?_⟩
    have hd3 := s3 _ _ hd
    have rl := rows_len' ((Vasedb.kinds s).take i) fun y hy => k16 y (List.mem_of_mem_take hy)
    have tl : (VasedBase.textRow x).length = x.length + 1 := by
      unfold VasedBase.textRow
      rw [List.length_cons, List.length_map]
    rw [List.length_take] at rl
    refine ⟨t, q, _, _, rfl, rfl, hd3, hq, few (m := 20000) (by rw [List.length_map, List.length_map, List.length_cons]; omega) (by decide), fun H4 h4 b4 => ?_⟩
    refine ⟨_, rfl, same_at (s2.trans s3) nt b4, ?_⟩
    unfold IntsAt
    rw [h4, take_more e1, List.flatMap_append, ← List.map_append]
    simp
  · rintro σ H2 ⟨o, rfl, s2, hd⟩
    rw [List.length_map, List.take_length] at hd
    exact ⟨_, rfl, k t H2 hd s2⟩
def canRow (o : Option At) : List Int := match o with
  | none => [0]
  | some a => 1 :: Vasedb.atRow a
def turnRow (o : Option At) : List Int := match o with
  | none => [1]
  | some a => 0 :: Vasedb.atRow a
theorem row_len {a : At} (h : a.x.length ≤ 16) : (Vasedb.atRow a).length ≤ 20 := by
  unfold Vasedb.atRow VasedBase.textRow
  simp only [List.length_append, List.length_cons, List.length_map]
  show 1 + 1 + _ ≤ _
  omega
theorem done_mem {s : Script} {n : Nat} {a : At} (h : a ∈ MK.doneIn s n) : a ∈ Vasedb.ats (Vasedb.kinds s) := by
  unfold MK.doneIn at h
  exact (List.mem_filter.mp h).1
def sp_Holder_can (A : Ad) (K : PySem.W.Frag) : Sp := fun vs H Q _ => ∃ (h dx c ks os : PySem.Addr) (s : Script) (n : Nat), vs = [.ref h, vN n] ∧ HoldX A H h dx c ks os s ∧ Good s ∧ ∀ q H', IntsAt H' q (canRow (MK.doneIn s n).head?) → Same H H' → Q (.ref q) H'
theorem ok_Holder_can (T : Txt K mg A) (Z : Apart A) : ∃ f fd, FnOk P w K mg base CX0 3 f fd ["self", "number"] (sp_Holder_can A K) ∧ Meth K A.Holder "can" f ∧ Binds K fd ["self", "number"] [] := by
  obtain ⟨f, fd, F, hm, hb⟩ := T.d_Holder_can.ex
  obtain ⟨f_told_place_and_kind, fd_told_place_and_kind, G_told_place_and_kind, m_told_place_and_kind, k_told_place_and_kind, b_told_place_and_kind⟩ := ok_told_place_and_kind (P := P) (w := w) (base := base) T Z
  obtain ⟨f_where_done, fd_where_done, G_where_done, m_where_done, k_where_done, b_where_done⟩ := ok_where_done (P := P) (w := w) (base := base) T Z
  refine ⟨f, fd, ?_, hm, hb⟩
  refine F.ok sc_Holder_can (fun vs H Q E h => by obtain ⟨h, dx, c, ks, os, s, n, rfl, X, g, k⟩ := h; rfl) (fun cdv A' outer s H vs Q E hr h => ?_)
  obtain ⟨h, dx, c, ks, os, s, n, rfl, X, g, k⟩ := h
  refine ⟨_, (pss_cons (ps_set (i := 2) sc_Holder_can.nd rfl (by first | exact Or.inl rfl | exact Or.inr rfl) (pe_call G_where_done (hr.mono (by decide)) rfl m_where_done k_where_done b_where_done .nil pass0 (pa_cons (pe_fldK (K := K) (pv 0) rfl) (pa_cons (pv 1) pa_nil))))
  (pss_one (ps_ret (pe_ifExp (pt_truth (pv 2) (by intro _; rfl)) (pe_op op_catA (pe_lstA (pa_cons pe_int pa_nil)) (pe_call G_told_place_and_kind (hr.mono (by decide)) rfl m_told_place_and_kind k_told_place_and_kind b_told_place_and_kind .nil pass0 (pa_cons (pe_ix ix_list (pv 2) pe_int (fun _ _ => rfl)) pa_nil))) (pe_lstA (pa_cons pe_int pa_nil)))))), ?_⟩
  refine ⟨_, rfl, ?_⟩
  refine ⟨_, _, _, _, _, rfl, (X.ob), T.c_Holder.cl, T.c_Holder.no _ (by simp), lk_Holder_outcomes, ?_⟩
  refine ⟨_, rfl, os, s, _, n, rfl, X.ou, Nat.le_trans (X.ats g) (by decide), fun q H1 hq s1 => ?_⟩
  change OutsAt A H1 s q (MK.doneIn s n) at hq
  obtain ⟨vs, hv, ho⟩ := hq
  refine ⟨_, rfl, !vs.isEmpty, .inl ⟨vs, SqL.of hv, rfl⟩, ?_⟩
  cases ed : MK.doneIn s n with
  | nil =>
    rw [ed] at ho k
    have e0 : vs = [] := List.length_eq_zero_iff.mp ho.1
    rw [e0]
    refine ifF rfl ?_
    exact ⟨few (n := 1) (Nat.le_refl 1) (by decide), fun t H2 nt ht s2 => k t H2 ht (s1.trans s2)⟩
  | cons a r =>
    have ha : a ∈ MK.doneIn s n := by rw [ed]; exact List.mem_cons_self
    have ax := kinds_short g a.x (ats_mem (done_mem ha)).1
    rw [ed] at ho k
    obtain ⟨v, ev, q1, rfl, g1⟩ := ho.of (i := 0) (x := a) rfl
    have e0 : vs.isEmpty = false := by
      cases vs with
      | nil => cases ev
      | cons _ _ => rfl
    rw [e0]
    refine ifT rfl ?_
    refine ⟨few (n := 1) (Nat.le_refl 1) (by decide), fun t H2 nt ht s2 => ?_⟩
    refine ⟨_, rfl, q, vs, _, _, rfl, rfl, SqL.of (s2 _ _ hv), atI_nat (j := 0) ev, ?_⟩
    refine ⟨q1, s, a, rfl, g1.kp Z (same_kp s2), by omega, fun u H3 hu s3 => ?_⟩
    have rl := row_len ax
    refine ⟨t, u, _, _, rfl, rfl, s3 _ _ ht, hu, few (m := 30) (by rw [List.length_map]; show 1 + _ ≤ 30; omega) (by decide), fun z H4 nz hz s4 => k z H4 hz (((s1.trans s2).trans s3).trans s4)⟩
end
end
end SK
set_option Elab.async false
set_option linter.all false
set_option maxRecDepth 100000
set_option maxHeartbeats 2000000
namespace SK
open PySem PySem.Spec PyProof.Rows L2
section
variable {P : Program} {w : World} {K : PySem.W.Frag} {mg : Str → Option Value} {base : Heap} {A : Ad}
section
open Vaseda (Script Deed Cmd Work Out)
open Vasedb (Spot At)
theorem unlike_mem {l : List At} {s u : Script} {a : At} (h : MK.unlikeIn l s u = some a) : a ∈ l := List.mem_of_find?_eq_some h
def sp_Holder_matters (A : Ad) (K : PySem.W.Frag) : Sp := fun vs H Q _ => ∃ (h dx c ks os : PySem.Addr) (s : Script) (n : Nat), vs = [.ref h, vN n] ∧ HoldX A H h dx c ks os s ∧ Good s ∧ n < s.length ∧ ∀ q H', IntsAt H' q (canRow (MK.mattering s n)) → Same H H' → Q (.ref q) H'
theorem ok_Holder_matters (T : Txt K mg A) (Z : Apart A) : ∃ f fd, FnOk P w K mg base CX0 6 f fd ["self", "number"] (sp_Holder_matters A K) ∧ Meth K A.Holder "matters" f ∧ Binds K fd ["self", "number"] [] := by
  obtain ⟨f, fd, F, hm, hb⟩ := T.d_Holder_matters.ex
  obtain ⟨f_Holder_first_mattering, fd_Holder_first_mattering, G_Holder_first_mattering, M_Holder_first_mattering, b_Holder_first_mattering⟩ := ok_Holder_first_mattering (P := P) (w := w) (base := base) T Z
  obtain ⟨f_told_place_and_kind, fd_told_place_and_kind, G_told_place_and_kind, m_told_place_and_kind, k_told_place_and_kind, b_told_place_and_kind⟩ := ok_told_place_and_kind (P := P) (w := w) (base := base) T Z
  refine ⟨f, fd, ?_, hm, hb⟩
  refine F.ok sc_Holder_matters (fun vs H Q E h => by obtain ⟨h, dx, c, ks, os, s, n, rfl, X, g, hn, k⟩ := h; rfl) (fun cdv A' outer s H vs Q E hr h => ?_)
  obtain ⟨h, dx, c, ks, os, s, n, rfl, X, g, hn, k⟩ := h
  refine ⟨_, (pss_cons (ps_set (i := 2) sc_Holder_matters.nd rfl (by first | exact Or.inl rfl | exact Or.inr rfl) (pe_meth (pv 0) T.c_Holder.cl M_Holder_first_mattering G_Holder_first_mattering (hr.mono (by decide)) b_Holder_first_mattering .nil pass0 (pa_cons (pv 1) pa_nil)))
  (pss_one (ps_ret (pe_ifExp (pt_cmpR op_isN (pv 2) pe_non (nomark _)) (pe_lstA (pa_cons pe_int pa_nil)) (pe_op op_catA (pe_lstA (pa_cons pe_int pa_nil)) (pe_call G_told_place_and_kind (hr.mono (by decide)) rfl m_told_place_and_kind k_told_place_and_kind b_told_place_and_kind .nil pass0 (pa_cons (pv 2) pa_nil))))))), ?_⟩
  refine ⟨_, rfl, h, dx, _, rfl, X.ob, lm_Holder_first_mattering, _, rfl, h, dx, c, ks, os, s, n, rfl, X, g, hn, fun q1 H1 a e g1 s1 => ?_, fun H1 e s1 => ?_⟩
  · rw [e] at k
    have ax := kinds_short g a.x (ats_mem (done_mem (unlike_mem e))).1
    refine ⟨_, rfl, rfl, _, rfl, ?_⟩
    refine ifF (by simp) ?_
    refine ⟨few (n := 1) (Nat.le_refl 1) (by decide), fun t H2 nt ht s2 => ?_⟩
    refine ⟨_, rfl, q1, s, a, rfl, g1.kp Z (same_kp s2), by omega, fun u H3 hu s3 => ?_⟩
    have rl := row_len ax
    refine ⟨t, u, _, _, rfl, rfl, s3 _ _ ht, hu, few (m := 30) (by rw [List.length_map]; show 1 + _ ≤ 30; omega) (by decide), fun z H4 nz hz s4 => k z H4 hz (((s1.trans s2).trans s3).trans s4)⟩
  · rw [e] at k
    refine ⟨_, rfl, rfl, _, rfl, ?_⟩
    refine ifT (by simp) ?_
    exact ⟨few (n := 1) (Nat.le_refl 1) (by decide), fun t H2 nt ht s2 => k t H2 ht (s1.trans s2)⟩
def idleRow (s : Script) : List Int := (((List.range s.length).filter fun n => (MK.mattering s n).isNone).length : Int) :: (((List.range s.length).filter fun n => (MK.mattering s n).isNone).map fun (n : Nat) => (n : Int))
def sp_Holder_idle (A : Ad) (K : PySem.W.Frag) : Sp := fun vs H Q _ => ∃ (h dx c ks os : PySem.Addr) (s : Script), vs = [.ref h] ∧ HoldX A H h dx c ks os s ∧ Good s ∧ ∀ q H', IntsAt H' q (idleRow s) → Same H H' → Q (.ref q) H'
theorem ok_Holder_idle (T : Txt K mg A) (Z : Apart A) : ∃ f fd, FnOk P w K mg base CX0 6 f fd ["self"] (sp_Holder_idle A K) ∧ Meth K A.Holder "idle" f ∧ Binds K fd ["self"] [] := by
  obtain ⟨f, fd, F, hm, hb⟩ := T.d_Holder_idle.ex
  obtain ⟨f_Holder_first_mattering, fd_Holder_first_mattering, G_Holder_first_mattering, M_Holder_first_mattering, b_Holder_first_mattering⟩ := ok_Holder_first_mattering (P := P) (w := w) (base := base) T Z
  refine ⟨f, fd, ?_, hm, hb⟩
  refine F.ok sc_Holder_idle (fun vs H Q E h => by obtain ⟨h, dx, c, ks, os, s, rfl, X, g, k⟩ := h; rfl) (fun cdv A' outer s H vs Q E hr h => ?_)
  obtain ⟨h, dx, c, ks, os, s, rfl, X, g, k⟩ := h
  refine ⟨_, (pss_cons (ps_setLc (i := 1) (own := [("number", 2)]) (g := gName 2) rfl sc_Holder_idle.nd rfl rfl (sw_true rfl rfl rfl (by decide +kernel)) (pi_range1 (by rfl) T.z_range (pa_cons (pe_callB call_len_seq (by rfl) T.z_len PySem.boot_len (pa_cons (pe_fldK (K := K) (pv 0) rfl) pa_nil)) pa_nil)) (blkOk_by (N := N_Holder_idle) (sc := defScope s_Holder_idle) (by decide +kernel))
   (fun _ _ _ _ _ => pg_name (i := 2) sc_Holder_idle.nd rfl (Or.inl rfl)) (fun _ _ _ _ _ => by exact (pts_one (pt_cmpR op_isN (pe_meth (pv 0) T.c_Holder.cl M_Holder_first_mattering G_Holder_first_mattering (hr.mono (by decide)) b_Holder_first_mattering .nil pass0 (pa_cons (pv 2) pa_nil)) pe_non (nomark _)))) (fun _ _ _ _ _ => by exact (pv 2)))
  (pss_one (ps_ret (pe_op op_catA (pe_lstA (pa_cons (pe_callB call_len_seq (by rfl) T.z_len PySem.boot_len (pa_cons (pv 1) pa_nil)) pa_nil)) (pv 1))))), ?_⟩
  obtain ⟨vs, hc, hs⟩ := id X.sc
  have hl := hs.1
  have f16 := g.few.1
  refine ⟨_, rfl, ?_⟩
  refine ⟨_, _, _, _, _, rfl, (X.ob), T.c_Holder.cl, T.c_Holder.no _ (by simp), lk_Holder_commands, ?_⟩
  refine ⟨c, vs, rfl, .inl (SqL.of hc), _, rfl, by omega, by omega, ?_⟩
  rw [Int.toNat_natCast, hl]
  intro D hD
  refine lc_itA (walk_range (lo := 0) (n := s.length)) (fun i => ((List.range i).filter fun n => (MK.mattering s n).isNone).map vN) hD (fun H' s4 => trivial) rfl (fun i hi => ?_) ?_ ?_
  · have := List.length_filter_le (fun n => (MK.mattering s n).isNone) (List.range i)
    rw [List.length_range] at this
    rw [List.length_map]
    exact fewer (m := 16) (by omega) (by decide)
  · rintro i v Hx H2 hi s2 ⟨rfl, rfl⟩ N M hN hM
    have X2 := X.same Z s2
    have ei : V.int (0 + (i : Int)) = vN i := by rw [Int.zero_add]
    have nx : (List.range (i + 1)).filter (fun n => (MK.mattering s n).isNone) = (List.range i).filter (fun n => (MK.mattering s n).isNone) ++ if (MK.mattering s i).isNone = true then [i] else [] := by
      rw [List.range_succ, List.filter_append, List.filter_cons, List.filter_nil]
    refine ⟨rfl, ?_⟩
    refine ⟨_, rfl, h, dx, _, rfl, X2.ob, lm_Holder_first_mattering, _, rfl, h, dx, c, ks, os, s, i, by show [V.ref h, V.int (0 + (i : Int))] = _; rw [ei], X2, g, hi, fun q H3 a e ho s3 => ?_, fun H3 e s3 => ?_⟩
    · refine ⟨rfl, _, rfl, ?_⟩
      refine ifF (by simp) ?_
      refine hM _ s3 ?_
      rw [nx, e]
      simp
    · refine ⟨rfl, _, rfl, ?_⟩
      refine ifT (by simp) ?_
      refine ⟨_, rfl, hN _ _ s3 ?_⟩
      show _ = _ ++ [V.int (0 + (i : Int))]
      rw [nx, e, ei]
      simp
  · intro H2 s2 hd
    have lf := List.length_filter_le (fun n => (MK.mattering s n).isNone) (List.range s.length)
    rw [List.length_range] at lf
    refine ⟨_, rfl, D, _, rfl, .inl (SqL.of hd), ?_⟩
    refine ⟨few (n := 1) (Nat.le_refl 1) (by decide), fun t H3 nt ht s3 => ?_⟩
    refine ⟨_, rfl, t, D, _, _, rfl, rfl, ht, s3 _ _ hd, few (m := 30) (by rw [List.length_map]; show 1 + _ ≤ 30; omega) (by decide), fun z H4 nz hz s4 => k z H4 ?_ ((s2.trans s3).trans s4)⟩
    unfold IntsAt idleRow
    rw [hz, List.map_cons, List.map_map, List.length_map]
    rfl
def sp_Holder_turn (A : Ad) (K : PySem.W.Frag) : Sp := fun vs H Q _ => ∃ (h dx c ks os : PySem.Addr) (s : Script) (n : Nat), vs = [.ref h, vN n] ∧ HoldX A H h dx c ks os s ∧ Good s ∧ n < s.length ∧
  (∀ q H', s.length ≤ n + 1 → IntsAt H' q [-2] → Same H H' → Q (.ref q) H') ∧ (∀ q H', n + 1 < s.length → IntsAt H' q (turnRow (MK.unlikeIn (Vasedb.ats (Vasedb.kinds s)) s (Vasedb.turned s n))) → Same H H' → Q (.ref q) H')
theorem ok_Holder_turn (T : Txt K mg A) (Z : Apart A) : ∃ f fd, FnOk P w K mg base CX0 5 f fd ["self", "number"] (sp_Holder_turn A K) ∧ Meth K A.Holder "turn" f ∧ Binds K fd ["self", "number"] [] := by
  obtain ⟨f, fd, F, hm, hb⟩ := T.d_Holder_turn.ex
  obtain ⟨f_Holder_has_command, fd_Holder_has_command, G_Holder_has_command, M_Holder_has_command, b_Holder_has_command⟩ := ok_Holder_has_command (P := P) (w := w) (base := base) T Z
  obtain ⟨f_first_unlike, fd_first_unlike, G_first_unlike, m_first_unlike, k_first_unlike, b_first_unlike⟩ := ok_first_unlike (P := P) (w := w) (base := base) T Z
  obtain ⟨f_told_place_and_kind, fd_told_place_and_kind, G_told_place_and_kind, m_told_place_and_kind, k_told_place_and_kind, b_told_place_and_kind⟩ := ok_told_place_and_kind (P := P) (w := w) (base := base) T Z
  obtain ⟨f_turned, fd_turned, G_turned, m_turned, k_turned, b_turned⟩ := ok_turned (P := P) (w := w) (base := base) T Z
  refine ⟨f, fd, ?_, hm, hb⟩
  refine F.ok sc_Holder_turn (fun vs H Q E h => by obtain ⟨h, dx, c, ks, os, s, n, rfl, X, g, hn, k1, k2⟩ := h; rfl) (fun cdv A' outer s H vs Q E hr h => ?_)
  obtain ⟨h, dx, c, ks, os, s, n, rfl, X, g, hn, k1, k2⟩ := h
  refine ⟨_, (pss_cons (ps_if (pt_not (pt_val (pe_meth (pv 0) T.c_Holder.cl M_Holder_has_command G_Holder_has_command (hr.mono (by decide)) b_Holder_has_command .nil pass0 (pa_cons (pe_op op_add (pv 1) pe_int) pa_nil)))) (pss_one (ps_ret (pe_lstA (pa_cons (pe_gi T.g_NO_SUCH_COMMAND) pa_nil)))) pss_nil)
  (pss_cons (ps_set (i := 2) sc_Holder_turn.nd rfl (by first | exact Or.inl rfl | exact Or.inr rfl) (pe_call G_first_unlike (hr.mono (by decide)) rfl m_first_unlike k_first_unlike b_first_unlike .nil pass0 (pa_cons (pe_fldK (K := K) (pv 0) rfl) (pa_cons (pe_call G_turned (hr.mono (by decide)) rfl m_turned k_turned b_turned .nil pass0 (pa_cons (pe_fldK (K := K) (pv 0) rfl) (pa_cons (pv 1) pa_nil))) pa_nil))))
  (pss_one (ps_ret (pe_ifExp (pt_cmpR op_isN (pv 2) pe_non (nomark _)) (pe_lstA (pa_cons pe_int pa_nil)) (pe_op op_catA (pe_lstA (pa_cons pe_int pa_nil)) (pe_call G_told_place_and_kind (hr.mono (by decide)) rfl m_told_place_and_kind k_told_place_and_kind b_told_place_and_kind .nil pass0 (pa_cons (pv 2) pa_nil)))))))), ?_⟩
  refine ⟨_, rfl, h, dx, _, rfl, X.ob, lm_Holder_has_command, ?_⟩
  refine ⟨_, rfl, _, _, rfl, rfl, h, dx, c, ks, os, s, (n : Int) + 1, rfl, X, _, rfl, ?_⟩
  by_cases h1 : n + 1 < s.length
  · rw [decide_eq_true (show (0 : Int) ≤ (n : Int) + 1 ∧ (n : Int) + 1 < s.length by omega)]
    refine ifF rfl ?_
    refine ⟨_, rfl, ?_⟩
    refine ⟨_, _, _, _, _, rfl, (X.ob), T.c_Holder.cl, T.c_Holder.no _ (by simp), lk_Holder_outcomes, ?_⟩
    refine ⟨_, rfl, ?_⟩
    refine ⟨_, _, _, _, _, rfl, (X.ob), T.c_Holder.cl, T.c_Holder.no _ (by simp), lk_Holder_commands, ?_⟩
    refine ⟨_, rfl, c, s, n, rfl, X.sc, g.few.1, h1, fun u H1 hu s1 => ?_⟩
    have tl : (Vasedb.turned s n).length = s.length := by
      rw [MK.turned_is s n (List.getElem?_eq_getElem (show n < s.length by omega)) (List.getElem?_eq_getElem h1)]
      rw [List.length_append, List.length_cons, List.length_cons, List.length_take, List.length_drop]
      omega
    refine ⟨os, u, s, Vasedb.turned s n, _, rfl, X.ou.kp Z (same_kp s1), hu, by rw [tl]; exact g.few.1, g.few.1, fun d hd => MK.plain_deed g.pl d (MK.mem_turned h1 hd), MK.plain_deed g.pl, fun q1 H2 a e g1 s2 => ?_, fun H2 e s2 => ?_⟩
    · have k2 := fun q H' => k2 q H' h1
      rw [e] at k2
      have ax := kinds_short g a.x (ats_mem (unlike_mem e)).1
      refine ⟨_, rfl, rfl, _, rfl, ?_⟩
      refine ifF (by simp) ?_
      refine ⟨few (n := 1) (Nat.le_refl 1) (by decide), fun t H3 nt ht s3 => ?_⟩
      refine ⟨_, rfl, q1, s, a, rfl, g1.kp Z (same_kp s3), by omega, fun v H4 hv s4 => ?_⟩
      have rl := row_len ax
      refine ⟨t, v, _, _, rfl, rfl, s4 _ _ ht, hv, few (m := 30) (by rw [List.length_map]; show 1 + _ ≤ 30; omega) (by decide), fun z H5 nz hz s5 => k2 z H5 hz ((((s1.trans s2).trans s3).trans s4).trans s5)⟩
    · have k2 := fun q H' => k2 q H' h1
      rw [e] at k2
      refine ⟨_, rfl, rfl, _, rfl, ?_⟩
      refine ifT (by simp) ?_
      exact ⟨few (n := 1) (Nat.le_refl 1) (by decide), fun t H3 nt ht s3 => k2 t H3 ht ((s1.trans s2).trans s3)⟩
  · rw [decide_eq_false (show ¬ ((0 : Int) ≤ (n : Int) + 1 ∧ (n : Int) + 1 < s.length) by omega)]
    refine ifT rfl ?_
    exact ⟨few (n := 1) (Nat.le_refl 1) (by decide), fun t H2 nt ht s2 => k1 t H2 (by omega) ht s2⟩
/-! ### lines -/
theorem sorted_eq : ∀ {l m : List Nat}, l.Pairwise (· < ·) → m.Pairwise (· < ·) → (∀ k, k ∈ l ↔ k ∈ m) → l = m
  | [], [], _, _, _ => rfl
  | [], y :: m, _, _, h => absurd ((h y).mpr List.mem_cons_self) (by simp)
  | x :: l, [], _, _, h => absurd ((h x).mp List.mem_cons_self) (by simp)
  | x :: l, y :: m, hl, hm, h => by
    rw [List.pairwise_cons] at hl hm
    have e : x = y := by
      rcases List.mem_cons.mp ((h x).mp List.mem_cons_self) with e | e
      · exact e
      · rcases List.mem_cons.mp ((h y).mpr List.mem_cons_self) with e2 | e2
        · exact e2.symm
        · have h1 := hm.1 x e
          have h2 := hl.1 y e2
          omega
    subst e
    rw [sorted_eq hl.2 hm.2 fun k => ?_]
    constructor
    · intro hk
      rcases List.mem_cons.mp ((h k).mp (List.mem_cons_of_mem _ hk)) with e | e
      · have := hl.1 k hk
        omega
      · exact e
    · intro hk
      rcases List.mem_cons.mp ((h k).mpr (List.mem_cons_of_mem _ hk)) with e | e
      · have := hm.1 k hk
        omega
      · exact e
theorem erase_sorted : ∀ (n : Nat) (l : List Nat), l.length = n → l.Pairwise (· ≤ ·) → l.eraseDups.Pairwise (· < ·)
  | 0, l, hn, _ => by
    rw [List.length_eq_zero_iff.mp hn]
    exact List.Pairwise.nil
  | n + 1, l, hn, h => by
    have hne : l ≠ [] := fun z => by rw [z] at hn; cases hn
    obtain ⟨d, a, e⟩ : ∃ d a, l = d ++ [a] := ⟨l.dropLast, l.getLast hne, (List.dropLast_concat_getLast hne).symm⟩
    subst e
    rw [List.length_append] at hn
    rw [List.pairwise_append] at h
    have ih := erase_sorted n d (by simpa using hn) h.1
    rw [MK.eraseDups_snoc]
    by_cases q : a ∈ d
    · rw [if_pos q]
      exact ih
    · rw [if_neg q, List.pairwise_append]
      refine ⟨ih, List.pairwise_singleton _ _, fun x hx y hy => ?_⟩
      rw [List.mem_singleton.mp hy]
      have hx := List.mem_eraseDups.mp hx
      have := h.2.2 x hx a (List.mem_singleton.mpr rfl)
      have : x ≠ a := fun z => q (z ▸ hx)
      omega
theorem spots_sorted : (Vasedb.spots.map fun p => p.k).Pairwise (· ≤ ·) := by decide +kernel
theorem spots_k : ∀ p ∈ Vasedb.spots, p.k ≤ 24 := by decide +kernel
theorem lines_eq {s : Script} {n : Nat} {ns : List Nat} (h1 : ns.Pairwise (· < ·)) (h2 : ∀ k, k ∈ ns ↔ ∃ a ∈ MK.doneIn s n, a.p.k = k) : ns = (Vasedb.linesOf s n).eraseDups := by
  refine sorted_eq h1 (erase_sorted _ _ rfl ?_) fun k => ?_
  · unfold Vasedb.linesOf
    exact List.Pairwise.sublist (List.Sublist.map _ List.filter_sublist) spots_sorted
  · rw [h2, List.mem_eraseDups]
    unfold Vasedb.linesOf
    simp only [List.mem_map, List.mem_filter, List.any_eq_true]
    constructor
    · rintro ⟨a, ha, rfl⟩
      unfold MK.doneIn at ha
      obtain ⟨h3, h4⟩ := List.mem_filter.mp ha
      obtain ⟨h5, h6⟩ := ats_mem h3
      exact ⟨a.p, ⟨h6, a.x, h5, h4⟩, rfl⟩
    · rintro ⟨p, ⟨hp, x, hx, hd⟩, rfl⟩
      refine ⟨⟨p, x⟩, ?_, rfl⟩
      unfold MK.doneIn
      refine List.mem_filter.mpr ⟨?_, hd⟩
      unfold Vasedb.ats
      exact List.mem_flatMap.mpr ⟨p, hp, List.mem_map.mpr ⟨x, hx, rfl⟩⟩
theorem erase_len' (l : List Nat) : l.eraseDups.length ≤ l.length := MK.len_le_of_nodup_sub (MK.nodup_eraseDups l) fun x h => List.mem_eraseDups.mp h
def linesRow (s : Script) (n : Nat) : List Int := (((Vasedb.linesOf s n).eraseDups).length : Int) :: (((Vasedb.linesOf s n).eraseDups).map fun (n : Nat) => (n : Int))
def sp_Holder_lines (A : Ad) (K : PySem.W.Frag) : Sp := fun vs H Q _ => ∃ (h dx c ks os : PySem.Addr) (s : Script) (n : Nat), vs = [.ref h, vN n] ∧ HoldX A H h dx c ks os s ∧ Good s ∧ ∀ q H', IntsAt H' q (linesRow s n) → Same H H' → Q (.ref q) H'
theorem ok_Holder_lines (T : Txt K mg A) (Z : Apart A) : ∃ f fd, FnOk P w K mg base CX0 2 f fd ["self", "number"] (sp_Holder_lines A K) ∧ Meth K A.Holder "lines" f ∧ Binds K fd ["self", "number"] [] := by
  obtain ⟨f, fd, F, hm, hb⟩ := T.d_Holder_lines.ex
  obtain ⟨f_numbers_of, fd_numbers_of, G_numbers_of, m_numbers_of, k_numbers_of, b_numbers_of⟩ := ok_numbers_of (P := P) (w := w) (base := base) T Z
  obtain ⟨f_where_done, fd_where_done, G_where_done, m_where_done, k_where_done, b_where_done⟩ := ok_where_done (P := P) (w := w) (base := base) T Z
  refine ⟨f, fd, ?_, hm, hb⟩
  refine F.ok sc_Holder_lines (fun vs H Q E h => by obtain ⟨h, dx, c, ks, os, s, n, rfl, X, g, k⟩ := h; rfl) (fun cdv A' outer s H vs Q E hr h => ?_)
  obtain ⟨h, dx, c, ks, os, s, n, rfl, X, g, k⟩ := h
  refine ⟨_, (pss_cons (ps_set (i := 2) sc_Holder_lines.nd rfl (by first | exact Or.inl rfl | exact Or.inr rfl) (pe_call G_numbers_of (hr.mono (by decide)) rfl m_numbers_of k_numbers_of b_numbers_of .nil pass0 (pa_cons (pe_call G_where_done (hr.mono (by decide)) rfl m_where_done k_where_done b_where_done .nil pass0 (pa_cons (pe_fldK (K := K) (pv 0) rfl) (pa_cons (pv 1) pa_nil))) pa_nil)))
  (pss_one (ps_ret (pe_op op_catA (pe_lstA (pa_cons (pe_callB call_len_seq (by rfl) T.z_len PySem.boot_len (pa_cons (pv 2) pa_nil)) pa_nil)) (pv 2))))), ?_⟩
  refine ⟨_, rfl, ?_⟩
  refine ⟨_, _, _, _, _, rfl, (X.ob), T.c_Holder.cl, T.c_Holder.no _ (by simp), lk_Holder_outcomes, ?_⟩
  refine ⟨_, rfl, os, s, _, n, rfl, X.ou, Nat.le_trans (X.ats g) (by decide), fun q H1 hq s1 => ?_⟩
  have dl : (MK.doneIn s n).length ≤ 2303 := Nat.le_trans (List.length_filter_le _ _) (X.ats g)
  refine ⟨q, s, MK.doneIn s n, rfl, hq, by omega, fun a ha => spots_k a.p (ats_mem (done_mem ha)).2, fun t H2 ns p1 p2 ht s2 => ?_⟩
  have e := lines_eq p1 p2
  have nl : ns.length ≤ 47 := by
    rw [e]
    refine Nat.le_trans (erase_len' _) ?_
    unfold Vasedb.linesOf
    rw [List.length_map]
    exact Nat.le_trans (List.length_filter_le _ _) (by decide +kernel)
  refine ⟨_, rfl, t, _, rfl, .inl (SqL.of ht), few (n := 1) (Nat.le_refl 1) (by decide), fun u H3 nu hu s3 => ?_⟩
  refine ⟨_, rfl, u, t, _, _, rfl, rfl, hu, s3 _ _ ht, few (m := 50) (by rw [List.length_map]; show 1 + _ ≤ 50; omega) (by decide), fun z H4 nz hz s4 => k z H4 ?_ (((s1.trans s2).trans s3).trans s4)⟩
  unfold IntsAt linesRow
  rw [hz, ← e, List.map_cons, List.map_map, List.length_map]
  rfl
end
end
end SK
set_option Elab.async false
set_option linter.all false
set_option maxRecDepth 100000
set_option maxHeartbeats 2000000
namespace SK
open PySem PySem.Spec PyProof.Rows L2
section
variable {P : Program} {w : World} {K : PySem.W.Frag} {mg : Str → Option Value} {base : Heap} {A : Ad}
section
open Vaseda (Script Deed Cmd Work Out)
open Vasedb (Spot At)
def safeRow (s : Script) (b : Bt) : List Int := match Vasedb.readLine b with
  | none => [-4]
  | some x => match Vasedb.unsafe_ s x with
    | none => [1]
    | some p => [0, (p.k : Int), (Vasedb.bit p.last : Int)]
def sp_Holder_safe (A : Ad) (K : PySem.W.Frag) : Sp := fun vs H Q _ => ∃ (h dx c ks os p : PySem.Addr) (s : Script) (b : Bt), vs = [.ref h, .ref p] ∧ HoldX A H h dx c ks os s ∧ Good s ∧ BytesAt H p b ∧ ∀ q H', IntsAt H' q (safeRow s b) → Same H H' → Q (.ref q) H'
theorem ok_Holder_safe (T : Txt K mg A) (Z : Apart A) : ∃ f fd, FnOk P w K mg base CX0 5 f fd ["self", "line"] (sp_Holder_safe A K) ∧ Meth K A.Holder "safe" f ∧ Binds K fd ["self", "line"] [] := by
  obtain ⟨f, fd, F, hm, hb⟩ := T.d_Holder_safe.ex
  obtain ⟨f_first_unsafe, fd_first_unsafe, G_first_unsafe, m_first_unsafe, k_first_unsafe, b_first_unsafe⟩ := ok_first_unsafe (P := P) (w := w) (base := base) T Z
  obtain ⟨f_is_letter, fd_is_letter, G_is_letter, m_is_letter, k_is_letter, b_is_letter⟩ := ok_is_letter (P := P) (w := w) (base := base) T Z
  obtain ⟨f_text_of, fd_text_of, G_text_of, m_text_of, k_text_of, b_text_of⟩ := ok_text_of (P := P) (w := w) (base := base) T Z
  refine ⟨f, fd, ?_, hm, hb⟩
  refine F.ok sc_Holder_safe (fun vs H Q E h => by obtain ⟨h, dx, c, ks, os, p, s, b, rfl, X, g, hp, k⟩ := h; rfl) (fun cdv A' outer s H vs Q E hr h => ?_)
  obtain ⟨h, dx, c, ks, os, p, s, b, rfl, X, g, hp, k⟩ := h
  refine ⟨_, (pss_cons (ps_if (PW.pt (pw_or (pt_cmpR op_gt (pe_callB call_len_seq (by rfl) T.z_len PySem.boot_len (pa_cons (pv 1) pa_nil)) (pe_gi T.g_LONGEST_LINE) (nomark _)) (pw_or1 (pt_not (pt_val (pe_callB (cr_all rfl) (by rfl) T.z_all (by decide +kernel) (pa_cons (pe_lc (own := [("byte", 3)]) (g := gName 3) rfl sc_Holder_safe.nd (pi_list (pv 1)) (blkOk_by (N := N_Holder_safe) (sc := defScope s_Holder_safe) (by decide +kernel))
   (fun _ _ _ _ _ => pg_name (i := 3) sc_Holder_safe.nd rfl (Or.inl rfl)) (fun _ _ _ _ _ => by exact pts_nil) (fun _ _ _ _ _ => by exact (pe_call G_is_letter (hr.mono (by decide)) rfl m_is_letter k_is_letter b_is_letter .nil pass0 (pa_cons (pv 3) pa_nil)))) pa_nil))))))) (pss_one (ps_ret (pe_lstA (pa_cons (pe_gi T.g_NOT_A_LINE) pa_nil)))) pss_nil)
  (pss_cons (ps_set (i := 2) sc_Holder_safe.nd rfl (by first | exact Or.inl rfl | exact Or.inr rfl) (pe_call G_first_unsafe (hr.mono (by decide)) rfl m_first_unsafe k_first_unsafe b_first_unsafe .nil pass0 (pa_cons (pe_fldK (K := K) (pv 0) rfl) (pa_cons (pe_call G_text_of (hr.mono (by decide)) rfl m_text_of k_text_of b_text_of .nil pass0 (pa_cons (pv 1) pa_nil)) pa_nil))))
  (pss_one (ps_ret (pe_ifExp (pt_cmpR op_isN (pv 2) pe_non (nomark _)) (pe_lstA (pa_cons pe_int pa_nil)) (pe_lstA (pa_cons pe_int (pa_cons (pe_ix (ix_tupK (K := K)) (pv 2) pe_int (fun _ _ => rfl)) (pa_cons (pe_ix (ix_tupK (K := K)) (pv 2) pe_int (fun _ _ => rfl)) pa_nil))))))))), ?_⟩
  refine ⟨_, rfl, p, _, rfl, .inl (SqL.of hp), _, _, rfl, rfl, _, rfl, ?_⟩
  rw [List.length_map]
  have d1 : decide ((b.length : Int) > 16) = decide (16 < b.length) := decide_eq_decide.mpr (by omega)
  show (if decide ((b.length : Int) > 16) = true then _ else _)
  rw [d1]
  have bad : (16 < b.length ∨ b.all VasedBase.isLetter = false) → ∀ H1, Same H H1 → ∀ t H2, IntsAt H2 t [-4] → Same H1 H2 → Q (.ref t) H2 := fun z H1 s1 t H2 ht s2 => by
    have e : Vasedb.readLine b = none := by
      unfold Vasedb.readLine
      exact if_pos z
    have k := k t H2
    unfold safeRow at k
    rw [e] at k
    exact k ht (s1.trans s2)
  by_cases h16 : 16 < b.length
  · refine ifT (decide_eq_true h16) ?_
    refine ifT rfl ?_
    exact ⟨few (n := 1) (Nat.le_refl 1) (by decide), fun t H2 nt ht s2 => bad (.inl h16) H (Same.refl _) t H2 ht s2⟩
  · refine ifF (decide_eq_false h16) ?_
    refine ⟨_, rfl, p, rfl, ⟨_, SqL.of hp⟩, fun D hD => ?_⟩
    refine lc_itA (walk_list (K := K) (a := p) (xs := b.map vC)) (fun i => (b.take i).map fun c => V.bl (VasedBase.isLetter c)) hD (fun H' s1 => SqL.of (s1 _ _ hp)) rfl (fun i _ => fewer (m := 16) (by rw [List.length_map, List.length_take]; omega) (by decide)) ?_ ?_
    · rintro i v Hx H2 hi s1 ⟨rfl, hv⟩ N M hN hM
      obtain ⟨c0, e1, rfl⟩ := map_at hv
      refine ⟨rfl, ?_⟩
      refine ifT (Y := M H2) rfl ?_
      refine ⟨_, rfl, c0, rfl, hN _ _ (Same.refl _) ?_⟩
      rw [take_more e1, List.map_append]
      rfl
    · intro H2 s1 hd
      rw [List.length_map, List.take_length] at hd
      have e1 : (b.map fun c => V.bl (VasedBase.isLetter c)) = (b.map VasedBase.isLetter).map V.bl := by rw [List.map_map]; rfl
      rw [e1] at hd
      refine ⟨D, _, rfl, SqL.of hd, _, rfl, ?_⟩
      have e2 : (b.map VasedBase.isLetter).all id = b.all VasedBase.isLetter := by rw [List.all_map]; rfl
      rw [e2]
      by_cases hall : b.all VasedBase.isLetter = true
      · rw [hall]
        refine ifF rfl ?_
        refine ⟨_, rfl, ?_⟩
        refine ⟨_, _, _, _, _, rfl, (s1 _ _ X.ob), T.c_Holder.cl, T.c_Holder.no _ (by simp), lk_Holder_commands, ?_⟩
        refine ⟨_, rfl, p, b, rfl, s1 _ _ hp, fun c hc => List.all_eq_true.mp hall c hc, by omega, fun H3 s3 => ?_⟩
        have s13 := s1.trans s3
        have e : Vasedb.readLine b = some b := by
          unfold Vasedb.readLine
          rw [if_neg]
          rintro (z | z)
          · exact h16 z
          · rw [hall] at z
            cases z
        unfold safeRow at k
        rw [e] at k
        refine ⟨c, s, b, rfl, X.sc.kp Z (same_kp s13), g.few.1, MK.plain_deed g.pl, fun q H4 pl e4 h4 s4 => ?_, fun H4 e4 s4 => ?_⟩
        · simp only [e4] at k
          refine ⟨_, rfl, rfl, _, rfl, ?_⟩
          refine ifF (by simp) ?_
          refine ⟨_, rfl, q, _, _, _, rfl, rfl, SqT.of h4, atI_nat (j := 0) rfl, ?_⟩
          refine ⟨_, rfl, q, _, _, _, rfl, rfl, SqT.of h4, atI_nat (j := 1) rfl, ?_⟩
          exact ⟨few (n := 3) (Nat.le_refl 3) (by decide), fun t H5 nt ht s5 => k t H5 ht ((s13.trans s4).trans s5)⟩
        · simp only [e4] at k
          refine ⟨_, rfl, rfl, _, rfl, ?_⟩
          refine ifT (by simp) ?_
          exact ⟨few (n := 1) (Nat.le_refl 1) (by decide), fun t H5 nt ht s5 => k t H5 ht ((s13.trans s4).trans s5)⟩
      · have hf : b.all VasedBase.isLetter = false := by simpa using hall
        rw [hf]
        refine ifT rfl ?_
        exact ⟨few (n := 1) (Nat.le_refl 1) (by decide), fun t H3 nt ht s3 => bad (.inr hf) H2 s1 t H3 ht s3⟩
/-! ### prune -/
def oV : Option Nat → V
  | none => .non
  | some n => vN n
def pruneRow (s : Script) : List Int := if Vasedb.hasSkip s = true then [-3] else [((Vasedb.pruned s).length : Int)]
def sp_Holder_prune (A : Ad) (K : PySem.W.Frag) : Sp := fun vs H Q _ => ∃ (h dx c ks os : PySem.Addr) (s : Script), vs = [.ref h] ∧ HoldX A H h dx c ks os s ∧ Good s ∧ ∀ q H', IntsAt H' q (pruneRow s) → HoldAt A H' h (some (if Vasedb.hasSkip s = true then s else Vasedb.pruned s)) → Kp A H H' → Q (.ref q) H'
theorem good_sub {s u : Script} (g : Good s) (h : ∀ c ∈ u, c ∈ s) (l : u.length ≤ s.length) : Good u := ⟨MK.ok_sub g.ok h, ⟨Nat.le_trans l g.few.1, fun c hc => g.few.2 c (h c hc)⟩, MK.plain_sub g.pl h⟩
theorem ok_Holder_prune (T : Txt K mg A) (Z : Apart A) : ∃ f fd, FnOk P w K mg base CX0 7 f fd ["self"] (sp_Holder_prune A K) ∧ Meth K A.Holder "prune" f ∧ Binds K fd ["self"] [] := by
  obtain ⟨f, fd, F, hm, hb⟩ := T.d_Holder_prune.ex
  obtain ⟨f_Holder_first_idle, fd_Holder_first_idle, G_Holder_first_idle, M_Holder_first_idle, b_Holder_first_idle⟩ := ok_Holder_first_idle (P := P) (w := w) (base := base) T Z
  obtain ⟨f_Holder_hold, fd_Holder_hold, G_Holder_hold, M_Holder_hold, b_Holder_hold⟩ := ok_Holder_hold (P := P) (w := w) (base := base) T Z
  obtain ⟨f_has_skip, fd_has_skip, G_has_skip, m_has_skip, k_has_skip, b_has_skip⟩ := ok_has_skip (P := P) (w := w) (base := base) T Z
  obtain ⟨f_taken_out, fd_taken_out, G_taken_out, m_taken_out, k_taken_out, b_taken_out⟩ := ok_taken_out (P := P) (w := w) (base := base) T Z
  refine ⟨f, fd, ?_, hm, hb⟩
  refine F.ok sc_Holder_prune (fun vs H Q E h => by obtain ⟨h, dx, c, ks, os, s, rfl, X, g, k⟩ := h; rfl) (fun cdv A' outer s H vs Q E hr h => ?_)
  obtain ⟨h, dx, c, ks, os, s, rfl, X, g, k⟩ := h
  refine ⟨_, (pss_cons (ps_if (pt_val (pe_call G_has_skip (hr.mono (by decide)) rfl m_has_skip k_has_skip b_has_skip .nil pass0 (pa_cons (pe_fldK (K := K) (pv 0) rfl) pa_nil))) (pss_one (ps_ret (pe_lstA (pa_cons (pe_gi T.g_HAS_SKIP) pa_nil)))) pss_nil)
  (pss_cons (ps_set (i := 1) sc_Holder_prune.nd rfl (by first | exact Or.inl rfl | exact Or.inr rfl) (pe_meth0 (pv 0) T.c_Holder.cl M_Holder_first_idle G_Holder_first_idle (hr.mono (by decide)) b_Holder_first_idle .nil pass0))
  (pss_cons (ps_while PassesOwn.never (pt_cmpR op_notN (pv 1) pe_non (nomark _)) (pss_cons (ps_expr (pe_meth (pv 0) T.c_Holder.cl M_Holder_hold G_Holder_hold (hr.mono (by decide)) b_Holder_hold .nil pass0 (pa_cons (pe_call G_taken_out (hr.mono (by decide)) rfl m_taken_out k_taken_out b_taken_out .nil pass0 (pa_cons (pe_fldK (K := K) (pv 0) rfl) (pa_cons (pv 1) pa_nil))) pa_nil)))
  (pss_one (ps_set (i := 1) sc_Holder_prune.nd rfl (by first | exact Or.inl rfl | exact Or.inr rfl) (pe_meth0 (pv 0) T.c_Holder.cl M_Holder_first_idle G_Holder_first_idle (hr.mono (by decide)) b_Holder_first_idle .nil pass0)))))
  (pss_one (ps_ret (pe_lstA (pa_cons (pe_callB call_len_seq (by rfl) T.z_len PySem.boot_len (pa_cons (pe_fldK (K := K) (pv 0) rfl) pa_nil)) pa_nil))))))), ?_⟩
  refine ⟨_, rfl, ?_⟩
  refine ⟨_, _, _, _, _, rfl, (X.ob), T.c_Holder.cl, T.c_Holder.no _ (by simp), lk_Holder_commands, ?_⟩
  refine ⟨c, s, rfl, X.sc, g.few.1, fun H1 s1 => ?_⟩
  refine ⟨_, rfl, ?_⟩
  have X1 := X.same Z s1
  by_cases hk : Vasedb.hasSkip s = true
  · refine ifT hk ?_
    unfold pruneRow at k
    rw [if_pos hk, if_pos hk] at k
    exact ⟨few (n := 1) (Nat.le_refl 1) (by decide), fun t H2 nt ht s2 => k t H2 ht ⟨g, dx, c, ks, os, X1.same Z s2⟩ (same_kp (s1.trans s2))⟩
  · refine ifF (by simpa using hk) ?_
    unfold pruneRow at k
    rw [if_neg hk, if_neg hk] at k
    refine ⟨_, rfl, h, dx, _, rfl, X1.ob, lm_Holder_first_idle, h, dx, c, ks, os, s, rfl, X1, g, fun n H2 e s2 => ?_, fun H2 e s2 => ?_⟩
    all_goals
      refine while_gh (fun m σ H' => ∃ u dx c ks os, σ = [some (.ref h), some (oV (MK.firstIdle u))] ∧ m = u.length ∧ HoldX A H' h dx c ks os u ∧ Good u ∧ MK.Pruning s u ∧ Kp A H H') s.length ⟨s, dx, c, ks, os, by rw [e]; rfl, rfl, X1.same Z s2, g, MK.Pruning.start s, same_kp (s1.trans s2)⟩ ?_
      rintro m σ H3 ⟨u, dx, c, ks, os, rfl, rfl, X3, gu, R, kp⟩ G g1 g2
      refine ⟨_, rfl, rfl, _, rfl, ?_⟩
      cases eu : MK.firstIdle u with
      | none =>
        refine g2 H3 ?_
        obtain ⟨vs, hc, hs⟩ := id X3.sc
        refine ⟨_, rfl, ?_⟩
        refine ⟨_, _, _, _, _, rfl, (X3.ob), T.c_Holder.cl, T.c_Holder.no _ (by simp), lk_Holder_commands, ?_⟩
        refine ⟨c, vs, rfl, .inl (SqL.of hc), few (n := 1) (Nat.le_refl 1) (by decide), fun t H4 nt ht s4 => ?_⟩
        have ep := R.done g.ok g.pl eu
        refine k t H4 ?_ ⟨by rw [← ep]; exact gu, dx, c, ks, os, by rw [← ep]; exact X3.same Z s4⟩ (kp.trans (same_kp s4))
        show H4 t = _
        rw [ht, ← ep, hs.1]
        rfl
      | some n =>
        have hn := MK.firstIdle_lt eu
        refine g1 H3 ?_
        refine ⟨_, rfl, h, dx, _, rfl, X3.ob, lm_Holder_hold, ?_⟩
        refine ⟨_, rfl, ?_⟩
        refine ⟨_, _, _, _, _, rfl, (X3.ob), T.c_Holder.cl, T.c_Holder.no _ (by simp), lk_Holder_commands, ?_⟩
        refine ⟨_, rfl, c, u, n, by rw [eu]; rfl, X3.sc, gu.few.1, hn, fun w H4 hw s4 => ?_⟩
        have el : (u.eraseIdx n).length = u.length - 1 := List.length_eraseIdx_of_lt hn
        have R2 := R.more g.ok g.pl eu
        have gw : Good (u.eraseIdx n) := good_sub gu (fun c hc => List.eraseIdx_subset hc) (by omega)
        refine ⟨h, w, dx, _, _, _, u.eraseIdx n, rfl, s4 _ _ X3.ob, hw, gw, fun H5 ⟨ks5, os5, X5⟩ kp5 => ?_⟩
        have kp35 := (kp.trans (same_kp s4)).trans kp5
        refine ⟨_, rfl, h, dx, _, rfl, X5.ob, lm_Holder_first_idle, h, dx, w, ks5, os5, u.eraseIdx n, rfl, X5, gw, fun n6 H6 e6 s6 => ?_, fun H6 e6 s6 => ?_⟩
        · exact ⟨_, by omega, u.eraseIdx n, dx, w, ks5, os5, by rw [e6]; rfl, rfl, X5.same Z s6, gw, R2, kp35.trans (same_kp s6)⟩
        · exact ⟨_, by omega, u.eraseIdx n, dx, w, ks5, os5, by rw [e6]; rfl, rfl, X5.same Z s6, gw, R2, kp35.trans (same_kp s6)⟩
/-! ### load -/
def loadRow (b : Bt) : List Int := match Vaseda.read b with
  | .error f => [0, (f.code : Int), (f.place : Int)]
  | .ok s => if Vasedb.plain s = true then [1, (s.length : Int), ((Vasedb.kinds s).length : Int)] else [-6]
def loadObj (o : Vasedb.Obj) (b : Bt) : Vasedb.Obj := match Vaseda.read b with
  | .error f => o
  | .ok s => if Vasedb.plain s = true then some s else o
theorem HoldAt.kr {A : Ad} {H H' : Hp} {h o} (z : Apart A) (k : KpR A H H') (x : HoldAt A H h o) : HoldAt A H' h o := by
  have kk : ∀ {dx fs}, H h = some (.ins A.Holder dx fs) → H' h = some (.ins A.Holder dx fs) := fun e => k _ _ e (fun _ _ q => by
    injection q with q
    exact z.hr q)
  cases o with
  | none =>
    obtain ⟨dx, a, b, e⟩ := x
    exact ⟨dx, a, b, kk e⟩
  | some s =>
    obtain ⟨g, dx, c, ks, os, X⟩ := x
    exact ⟨g, dx, c, ks, os, kk X.ob, X.sc.kp z k.of, X.kn.kp (A := A) k.of, X.ou.kp z k.of⟩
theorem HoldAt.ob {A : Ad} {H : Hp} {h o} (x : HoldAt A H h o) : ∃ dx v0 v1 v2, H h = some (.ins A.Holder dx (fs_Holder v0 v1 v2)) := by
  cases o with
  | none =>
    obtain ⟨dx, a, b, e⟩ := x
    exact ⟨dx, _, _, _, e⟩
  | some s =>
    obtain ⟨g, dx, c, ks, os, X⟩ := x
    exact ⟨dx, _, _, _, X.ob⟩
def sp_Holder_load (A : Ad) (K : PySem.W.Frag) : Sp := fun vs H Q _ => ∃ (h p : PySem.Addr) (o : Vasedb.Obj) (b : Bt), vs = [.ref h, .ref p] ∧ HoldAt A H h o ∧ BytesAt H p b ∧ ∀ q H', IntsAt H' q (loadRow b) → HoldAt A H' h (loadObj o b) → Kp A H H' → Q (.ref q) H'
theorem ok_Holder_load (T : Txt K mg A) (Z : Apart A) : ∃ f fd, FnOk P w K mg base CX0 9 f fd ["self", "script"] (sp_Holder_load A K) ∧ Meth K A.Holder "load" f ∧ Binds K fd ["self", "script"] [] := by
  obtain ⟨f, fd, F, hm, hb⟩ := T.d_Holder_load.ex
  obtain ⟨f_Holder_hold, fd_Holder_hold, G_Holder_hold, M_Holder_hold, b_Holder_hold⟩ := ok_Holder_hold (P := P) (w := w) (base := base) T Z
  obtain ⟨f_commands_of, fd_commands_of, G_commands_of, m_commands_of, k_commands_of, b_commands_of⟩ := ok_commands_of (P := P) (w := w) (base := base) T Z
  obtain ⟨f_is_plain, fd_is_plain, G_is_plain, m_is_plain, k_is_plain, b_is_plain⟩ := ok_is_plain (P := P) (w := w) (base := base) T Z
  refine ⟨f, fd, ?_, hm, hb⟩
  refine F.ok sc_Holder_load (fun vs H Q E h => by obtain ⟨h, p, o, b, rfl, X, hp, k⟩ := h; rfl) (fun cdv A' outer s H vs Q E hr h => ?_)
  obtain ⟨h, p, o, b, rfl, X, hp, k⟩ := h
  refine ⟨_, (pss_cons (ps_try_as (i := 3) (tb := fun W => tAsg (tCallS (sp_commands_of A K) (WE W) (tCons (tVar 1) tNil)) (gName 2)) (ts := fun a cls d => tRet (tLstA (tCons (tC (.int 0)) (tCons (tXf a cls d A.Fault "code" (tVar 3)) (tCons (tXf a cls d A.Fault "place" (tVar 3)) tNil))))) (Wout := fun _ _ _ _ => False)
   rfl rfl sc_Holder_load.nd rfl rfl ⟨rfl, by decide, Or.inl T.flt.g⟩ takes0 (fun W pn xe tk _ => pss_one (ps_set (i := 2) sc_Holder_load.nd rfl (Or.inl rfl) (by exact (pe_callS G_commands_of (hr.mono (by decide)) rfl m_commands_of k_commands_of b_commands_of (fun σ => passAt tk σ) (by exact (pa_cons (pv 1) pa_nil))))))
   (fun a oe cls d pn hz hf => pss_one (ps_ret (by exact (pe_lstA (pa_cons pe_int (pa_cons (pe_xf T.flt.xf T.flt.no1 hz hf (pv 3)) (pa_cons (pe_xf T.flt.xf T.flt.no2 hz hf (pv 3)) pa_nil))))))))
  (pss_cons (ps_if (pt_not (pt_val (pe_call G_is_plain (hr.mono (by decide)) rfl m_is_plain k_is_plain b_is_plain .nil pass0 (pa_cons (pv 2) pa_nil)))) (pss_one (ps_ret (pe_lstA (pa_cons (pe_gi T.g_NOT_PLAIN) pa_nil)))) pss_nil)
  (pss_cons (ps_expr (pe_meth (pv 0) T.c_Holder.cl M_Holder_hold G_Holder_hold (hr.mono (by decide)) b_Holder_hold .nil pass0 (pa_cons (pv 2) pa_nil)))
  (pss_one (ps_ret (pe_lstA (pa_cons pe_int (pa_cons (pe_callB call_len_seq (by rfl) T.z_len PySem.boot_len (pa_cons (pe_fldK (K := K) (pv 0) rfl) pa_nil)) (pa_cons (pe_callB call_len_seq (by rfl) T.z_len PySem.boot_len (pa_cons (pe_fldK (K := K) (pv 0) rfl) pa_nil)) pa_nil))))))))), ?_⟩
  refine ⟨_, rfl, p, b, rfl, hp, fun q H1 s es so sf hs kp => ?_, fun f ef => ?_⟩
  · unfold loadRow loadObj at k
    simp only [es] at k
    refine ⟨_, rfl, q, s, rfl, hs, sf, fun H2 s2 => ?_⟩
    refine ⟨_, rfl, ?_⟩
    have kr2 := kp.trans (same_kr s2)
    have XH := X.kr Z kr2
    by_cases hpl : Vasedb.plain s = true
    · rw [if_pos hpl, if_pos hpl] at k
      have g : Good s := ⟨so, sf, hpl⟩
      rw [hpl]
      refine ifF rfl ?_
      obtain ⟨dx, v0, v1, v2, e⟩ := XH.ob
      refine ⟨_, rfl, h, dx, _, rfl, e, lm_Holder_hold, _, rfl, h, q, dx, v0, v1, v2, s, rfl, e, hs.kp Z (same_kp s2), g, fun H3 ⟨ks, os, X3⟩ kp3 => ?_⟩
      obtain ⟨vs, hc, hss⟩ := id X3.sc
      refine ⟨_, rfl, ?_⟩
      refine ⟨_, _, _, _, _, rfl, (X3.ob), T.c_Holder.cl, T.c_Holder.no _ (by simp), lk_Holder_commands, ?_⟩
      refine ⟨q, vs, rfl, .inl (SqL.of hc), ?_⟩
      refine ⟨_, rfl, ?_⟩
      refine ⟨_, _, _, _, _, rfl, (X3.ob), T.c_Holder.cl, T.c_Holder.no _ (by simp), lk_Holder_kinds_held, ?_⟩
      refine ⟨ks, _, rfl, .inl (SqL.of X3.kn), ?_⟩
      refine ⟨few (n := 3) (Nat.le_refl 3) (by decide), fun t H4 nt ht s4 => ?_⟩
      refine k t H4 ?_ ⟨g, dx, q, ks, os, X3.same Z s4⟩ ((kr2.of.trans kp3).trans (same_kp s4))
      show H4 t = _
      rw [ht, hss.1, List.length_map]
      rfl
    · rw [if_neg hpl, if_neg hpl] at k
      rw [show Vasedb.plain s = false by simpa using hpl]
      refine ifT rfl ?_
      exact ⟨few (n := 1) (Nat.le_refl 1) (by decide), fun t H3 nt ht s3 => k t H3 ht (XH.same Z s3) (kr2.of.trans (same_kp s3))⟩
  · intro d H1 hd kp
    unfold loadRow loadObj at k
    simp only [ef] at k
    refine ⟨true, T.flt.te, fun _ a na => ?_, fun z => by cases z⟩
    refine ⟨_, rfl, rfl, rfl, d, _, _, rfl, hd, rfl, ?_⟩
    refine ⟨_, rfl, rfl, rfl, d, _, _, rfl, hd, rfl, ?_⟩
    refine ⟨few (n := 3) (Nat.le_refl 3) (by decide), fun t H2 nt ht s2 => ?_⟩
    exact k t H2 ht ((X.kr Z kp).same Z s2) (kp.of.trans (same_kp s2))
end
end
end SK
set_option Elab.async false
set_option linter.all false
set_option maxRecDepth 100000
set_option maxHeartbeats 2000000
namespace SK
open PySem PySem.Spec PyProof.Rows L2
section
variable {P : Program} {w : World} {K : PySem.W.Frag} {mg : Str → Option Value} {base : Heap} {A : Ad}
section
open Vaseda (Script Deed Cmd Work Out)
open Vasedb (Spot At)
/-! ### a call as a list of numbers -/
abbrev vI (l : List Int) : List V := l.map V.int
def bInts (b : Bt) : List Int := b.map fun c => (c.toNat : Int)
theorem bInts_vC (b : Bt) : (bInts b).map V.int = b.map vC := by
  unfold bInts
  rw [List.map_map]
  rfl
theorem bytes_bInts (b : Bt) : NeutralIO.bytes (bInts b) = true := by
  unfold NeutralIO.bytes bInts
  rw [List.all_map, List.all_eq_true]
  intro c _
  have := c.toNat_lt
  show (decide ((0 : Int) ≤ (c.toNat : Int)) && decide ((c.toNat : Int) ≤ 255)) = true
  rw [Bool.and_eq_true, decide_eq_true_iff, decide_eq_true_iff]
  omega
theorem bytesOf_bInts (b : Bt) : VasedbNeutral.bytesOf (bInts b) = b := by
  unfold VasedbNeutral.bytesOf bInts
  rw [List.map_map]
  have : ((fun b : Int => UInt8.ofNat b.toNat) ∘ fun c : UInt8 => (c.toNat : Int)) = id := by
    funext c
    show UInt8.ofNat ((c.toNat : Int)).toNat = c
    rw [Int.toNat_natCast]
    simp
  rw [this, List.map_id]
inductive CallIs : List (List Int) → List Int → Prop
  | load (b : Bt) : CallIs [[0], bInts b] (0 :: (b.length : Int) :: bInts b)
  | shown : CallIs [[1]] [1]
  | kinds : CallIs [[2]] [2]
  | can (x : Int) : CallIs [[3, x]] [3, x]
  | matters (x : Int) : CallIs [[4, x]] [4, x]
  | idle : CallIs [[5]] [5]
  | turn (x : Int) : CallIs [[6, x]] [6, x]
  | lines (x : Int) : CallIs [[7, x]] [7, x]
  | safe (b : Bt) : CallIs [[8], bInts b] (8 :: (b.length : Int) :: bInts b)
  | prune : CallIs [[9]] [9]
def stepOf (o : Vasedb.Obj) (c : Vasedb.Call) : Vasedb.Obj × List Int := ((Vasedb.step o c).1, VasedbNeutral.encode (Vasedb.step o c).2)
theorem step_load (o : Vasedb.Obj) (b : Bt) : VasedbNeutral.step o [[0], bInts b] = (loadObj o b, loadRow b) := by
  have e : VasedbNeutral.callOf [[0], bInts b] = some (.load b) := by
    show (if NeutralIO.bytes (bInts b) = true then some (Vasedb.Call.load (VasedbNeutral.bytesOf (bInts b))) else none) = _
    rw [if_pos (bytes_bInts b), bytesOf_bInts]
  unfold VasedbNeutral.step
  rw [e]
  unfold loadObj loadRow Vasedb.step
  simp only []
  cases Vaseda.read b with
  | error f => rfl
  | ok s =>
    simp only []
    by_cases h : Vasedb.plain s = true
    · rw [if_pos h, if_pos h, if_pos h]
      rfl
    · rw [if_neg h, if_neg h, if_neg h]
      rfl
def cmdRow (s : Script) (p n : Int) : List Int :=
  if 0 ≤ n ∧ n < s.length then
    if p = 3 then canRow (MK.doneIn s n.toNat).head?
    else if p = 4 then canRow (MK.mattering s n.toNat)
    else if p = 6 then (if s.length ≤ n.toNat + 1 then [-2] else turnRow (MK.unlikeIn (Vasedb.ats (Vasedb.kinds s)) s (Vasedb.turned s n.toNat)))
    else linesRow s n.toNat
  else [-2]
theorem step_can (s : Script) (n : Int) : VasedbNeutral.step (some s) [[3, n]] = (some s, cmdRow s 3 n) := by
  show (some s, VasedbNeutral.encode (Vasedb.withCmd s n _)) = _
  unfold Vasedb.withCmd VasedBase.index cmdRow
  by_cases h : 0 ≤ n ∧ n < s.length
  · rw [if_pos h, if_pos h, if_pos rfl, ← MK.can_is]
    simp only []
    cases Vasedb.canDo s n.toNat <;> rfl
  · rw [if_neg h, if_neg h]
    rfl
theorem step_matters (s : Script) (n : Int) : VasedbNeutral.step (some s) [[4, n]] = (some s, cmdRow s 4 n) := by
  show (some s, VasedbNeutral.encode (Vasedb.withCmd s n _)) = _
  unfold Vasedb.withCmd VasedBase.index cmdRow
  by_cases h : 0 ≤ n ∧ n < s.length
  · rw [if_pos h, if_pos h, if_neg (by decide), if_pos rfl]
    simp only []
    rw [MK.mattering_is (show n.toNat < s.length by omega)]
    cases MK.mattering s n.toNat <;> rfl
  · rw [if_neg h, if_neg h]
    rfl
theorem step_turn (s : Script) (n : Int) : VasedbNeutral.step (some s) [[6, n]] = (some s, cmdRow s 6 n) := by
  show (some s, VasedbNeutral.encode (Vasedb.withCmd s n _)) = _
  unfold Vasedb.withCmd VasedBase.index cmdRow
  by_cases h : 0 ≤ n ∧ n < s.length
  · rw [if_pos h, if_pos h, if_neg (by decide), if_neg (by decide), if_pos rfl]
    simp only []
    by_cases h2 : s.length ≤ n.toNat + 1
    · rw [if_pos h2, if_pos h2]
      rfl
    · rw [if_neg h2, if_neg h2, MK.turn_is (show n.toNat + 1 < s.length by omega)]
      cases MK.unlikeIn (Vasedb.ats (Vasedb.kinds s)) s (Vasedb.turned s n.toNat) <;> rfl
  · rw [if_neg h, if_neg h]
    rfl
theorem step_lines (s : Script) (n : Int) : VasedbNeutral.step (some s) [[7, n]] = (some s, cmdRow s 7 n) := by
  show (some s, VasedbNeutral.encode (Vasedb.withCmd s n _)) = _
  unfold Vasedb.withCmd VasedBase.index cmdRow
  by_cases h : 0 ≤ n ∧ n < s.length
  · rw [if_pos h, if_pos h, if_neg (by decide), if_neg (by decide), if_neg (by decide)]
    rfl
  · rw [if_neg h, if_neg h]
    rfl
theorem step_shown (s : Script) : VasedbNeutral.step (some s) [[1]] = (some s, VasedBase.textRow (Vaseda.shown s)) := rfl
theorem step_kinds (s : Script) : VasedbNeutral.step (some s) [[2]] = (some s, kindsRow s) := rfl
theorem step_idle (s : Script) : VasedbNeutral.step (some s) [[5]] = (some s, idleRow s) := by
  show (some s, VasedbNeutral.encode (let ks := Vasedb.kinds s; let l := (List.range s.length).filter (Vasedb.idleIn ks s); (⟨(l.length : Int), Vasedb.nats l⟩ : VasedBase.Answer))) = _
  have e : (List.range s.length).filter (Vasedb.idleIn (Vasedb.kinds s) s) = (List.range s.length).filter fun n => (MK.mattering s n).isNone := List.filter_congr fun n _ => MK.idle_is s n
  simp only [e]
  rfl
theorem step_safe (s : Script) (b : Bt) : VasedbNeutral.step (some s) [[8], bInts b] = (some s, safeRow s b) := by
  have e : VasedbNeutral.callOf [[8], bInts b] = some (.safe b) := by
    show (if NeutralIO.bytes (bInts b) = true then some (Vasedb.Call.safe (VasedbNeutral.bytesOf (bInts b))) else none) = _
    rw [if_pos (bytes_bInts b), bytesOf_bInts]
  unfold VasedbNeutral.step
  rw [e]
  show (some s, VasedbNeutral.encode (match Vasedb.readLine b with
    | none => VasedBase.one (-4)
    | some x => match Vasedb.unsafe_ s x with
      | none => VasedBase.one 1
      | some p => ⟨0, Vasedb.nats [p.k, Vasedb.bit p.last]⟩)) = _
  unfold safeRow
  cases Vasedb.readLine b with
  | none => rfl
  | some x =>
    simp only []
    cases Vasedb.unsafe_ s x <;> rfl
theorem step_prune (s : Script) : VasedbNeutral.step (some s) [[9]] = (some (if Vasedb.hasSkip s = true then s else Vasedb.pruned s), pruneRow s) := by
  show ((Vasedb.step (some s) .prune).1, VasedbNeutral.encode (Vasedb.step (some s) .prune).2) = _
  unfold Vasedb.step pruneRow
  simp only []
  by_cases h : Vasedb.hasSkip s = true
  · rw [if_pos h, if_pos h, if_pos h]
    rfl
  · rw [if_neg h, if_neg h, if_neg h]
    rfl
end
end
end SK
set_option Elab.async false
set_option linter.all false
set_option maxRecDepth 100000
set_option maxHeartbeats 2000000
namespace SK
open PySem PySem.Spec PyProof.Rows L2
section
variable {P : Program} {w : World} {K : PySem.W.Frag} {mg : Str → Option Value} {base : Heap} {A : Ad}
section
open Vaseda (Script Deed Cmd Work Out)
open Vasedb (Spot At)
theorem lst_at {fl : List Int} {i : Nat} {x : Int} (h : fl[i]? = some x) : (vI fl)[i]? = some (V.int x) := by
  rw [List.getElem?_map, h]
  rfl
def sp_answer_of_command (A : Ad) (K : PySem.W.Frag) : Sp := fun vs H Q _ => ∃ (h dx c ks os : PySem.Addr) (s : Script) (p n : Int), vs = [.ref h, .int p, .int n] ∧ HoldX A H h dx c ks os s ∧ Good s ∧ (p = 3 ∨ p = 4 ∨ p = 6 ∨ p = 7) ∧ ∀ q H', IntsAt H' q (cmdRow s p n) → Same H H' → Q (.ref q) H'
theorem ok_answer_of_command (T : Txt K mg A) (Z : Apart A) : ∃ f fd, FnOk P w K mg base CX0 7 f fd ["holder", "call", "number"] (sp_answer_of_command A K) ∧ mg "answer_of_command" = some (.ref f) ∧ PySem.W.keepIn K (.ref f) = true ∧ Binds K fd ["holder", "call", "number"] [] := by
  obtain ⟨f, fd, F, hm, hb⟩ := T.d_answer_of_command.ex
  obtain ⟨f_Holder_can, fd_Holder_can, G_Holder_can, M_Holder_can, b_Holder_can⟩ := ok_Holder_can (P := P) (w := w) (base := base) T Z
  obtain ⟨f_Holder_has_command, fd_Holder_has_command, G_Holder_has_command, M_Holder_has_command, b_Holder_has_command⟩ := ok_Holder_has_command (P := P) (w := w) (base := base) T Z
  obtain ⟨f_Holder_lines, fd_Holder_lines, G_Holder_lines, M_Holder_lines, b_Holder_lines⟩ := ok_Holder_lines (P := P) (w := w) (base := base) T Z
  obtain ⟨f_Holder_matters, fd_Holder_matters, G_Holder_matters, M_Holder_matters, b_Holder_matters⟩ := ok_Holder_matters (P := P) (w := w) (base := base) T Z
  obtain ⟨f_Holder_turn, fd_Holder_turn, G_Holder_turn, M_Holder_turn, b_Holder_turn⟩ := ok_Holder_turn (P := P) (w := w) (base := base) T Z
  refine ⟨f, fd, ?_, hm, F.kp, hb⟩
  refine F.ok sc_answer_of_command (fun vs H Q E h => by obtain ⟨h, dx, c, ks, os, s, p, n, rfl, X, g, hp, k⟩ := h; rfl) (fun cdv A' outer s H vs Q E hr h => ?_)
  obtain ⟨h, dx, c, ks, os, s, p, n, rfl, X, g, hp, k⟩ := h
  refine ⟨_, (pss_cons (ps_if (pt_not (pt_val (pe_meth (pv 0) T.c_Holder.cl M_Holder_has_command G_Holder_has_command (hr.mono (by decide)) b_Holder_has_command .nil pass0 (pa_cons (pv 2) pa_nil)))) (pss_one (ps_ret (pe_lstA (pa_cons (pe_gi T.g_NO_SUCH_COMMAND) pa_nil)))) pss_nil)
  (pss_cons (ps_if (pt_cmpR op_eq (pv 1) (pe_gi T.g_CAN) (nomark _)) (pss_one (ps_ret (pe_meth (pv 0) T.c_Holder.cl M_Holder_can G_Holder_can (hr.mono (by decide)) b_Holder_can .nil pass0 (pa_cons (pv 2) pa_nil)))) pss_nil)
  (pss_cons (ps_if (pt_cmpR op_eq (pv 1) (pe_gi T.g_MATTERS) (nomark _)) (pss_one (ps_ret (pe_meth (pv 0) T.c_Holder.cl M_Holder_matters G_Holder_matters (hr.mono (by decide)) b_Holder_matters .nil pass0 (pa_cons (pv 2) pa_nil)))) pss_nil)
  (pss_cons (ps_if (pt_cmpR op_eq (pv 1) (pe_gi T.g_TURN) (nomark _)) (pss_one (ps_ret (pe_meth (pv 0) T.c_Holder.cl M_Holder_turn G_Holder_turn (hr.mono (by decide)) b_Holder_turn .nil pass0 (pa_cons (pv 2) pa_nil)))) pss_nil)
  (pss_one (ps_ret (pe_meth (pv 0) T.c_Holder.cl M_Holder_lines G_Holder_lines (hr.mono (by decide)) b_Holder_lines .nil pass0 (pa_cons (pv 2) pa_nil)))))))), ?_⟩
  refine ⟨_, rfl, h, dx, _, rfl, X.ob, lm_Holder_has_command, _, rfl, h, dx, c, ks, os, s, n, rfl, X, _, rfl, ?_⟩
  unfold cmdRow at k
  by_cases hn : 0 ≤ n ∧ n < s.length
  · rw [decide_eq_true hn]
    rw [if_pos hn] at k
    refine ifF rfl ?_
    obtain ⟨m, rfl⟩ : ∃ m : Nat, n = (m : Int) := ⟨n.toNat, by omega⟩
    rw [Int.toNat_natCast] at k
    have hm : m < s.length := by omega
    rcases hp with rfl | rfl | rfl | rfl
    · rw [if_pos rfl] at k
      refine ⟨_, rfl, rfl, _, rfl, ?_⟩
      refine ifT (by decide +kernel) ?_
      exact ⟨_, rfl, h, dx, _, rfl, X.ob, lm_Holder_can, _, rfl, h, dx, c, ks, os, s, m, rfl, X, g, k⟩
    · rw [if_neg (by decide), if_pos rfl] at k
      refine ⟨_, rfl, rfl, _, rfl, ?_⟩
      refine ifF (by decide +kernel) ?_
      refine ⟨_, rfl, rfl, _, rfl, ?_⟩
      refine ifT (by decide +kernel) ?_
      exact ⟨_, rfl, h, dx, _, rfl, X.ob, lm_Holder_matters, _, rfl, h, dx, c, ks, os, s, m, rfl, X, g, hm, k⟩
    · rw [if_neg (by decide), if_neg (by decide), if_pos rfl] at k
      refine ⟨_, rfl, rfl, _, rfl, ?_⟩
      refine ifF (by decide +kernel) ?_
      refine ⟨_, rfl, rfl, _, rfl, ?_⟩
      refine ifF (by decide +kernel) ?_
      refine ⟨_, rfl, rfl, _, rfl, ?_⟩
      refine ifT (by decide +kernel) ?_
      refine ⟨_, rfl, h, dx, _, rfl, X.ob, lm_Holder_turn, _, rfl, h, dx, c, ks, os, s, m, rfl, X, g, hm, fun q H' l e s1 => ?_, fun q H' l e s1 => ?_⟩
      · rw [if_pos l] at k
        exact k q H' e s1
      · rw [if_neg (by omega)] at k
        exact k q H' e s1
    · rw [if_neg (by decide), if_neg (by decide), if_neg (by decide)] at k
      refine ⟨_, rfl, rfl, _, rfl, ?_⟩
      refine ifF (by decide +kernel) ?_
      refine ⟨_, rfl, rfl, _, rfl, ?_⟩
      refine ifF (by decide +kernel) ?_
      refine ⟨_, rfl, rfl, _, rfl, ?_⟩
      refine ifF (by decide +kernel) ?_
      exact ⟨_, rfl, h, dx, _, rfl, X.ob, lm_Holder_lines, _, rfl, h, dx, c, ks, os, s, m, rfl, X, g, k⟩
  · rw [decide_eq_false hn]
    rw [if_neg hn] at k
    refine ifT rfl ?_
    exact ⟨few (n := 1) (Nat.le_refl 1) (by decide), fun t H2 nt ht s2 => k t H2 ht s2⟩
theorem cut2 (x y : Int) (b : Bt) : cutV (vI (x :: y :: bInts b)) (some 2) none = b.map vC := by
  rw [show (some (2 : Int)) = some ((2 : Nat) : Int) from rfl, cut_from _ 2 (by simp)]
  show (bInts b).map V.int = _
  exact bInts_vC b
theorem none_safe (b : Bt) : VasedbNeutral.step none [[8], bInts b] = (none, [-1]) := by
  have e : VasedbNeutral.callOf [[8], bInts b] = some (.safe b) := by
    show (if NeutralIO.bytes (bInts b) = true then some (Vasedb.Call.safe (VasedbNeutral.bytesOf (bInts b))) else none) = _
    rw [if_pos (bytes_bInts b), bytesOf_bInts]
  unfold VasedbNeutral.step
  rw [e]
  rfl
def sp_answer_of (A : Ad) (K : PySem.W.Frag) : Sp := fun vs H Q _ => ∃ (h q : PySem.Addr) (o : Vasedb.Obj) (c : List (List Int)) (fl : List Int), vs = [.ref h, .ref q] ∧ CallIs c fl ∧ HoldAt A H h o ∧ H q = some (.lst (vI fl)) ∧
  ∀ r H', IntsAt H' r (VasedbNeutral.step o c).2 → HoldAt A H' h (VasedbNeutral.step o c).1 → Kp A H H' → Q (.ref r) H'
theorem ok_answer_of (T : Txt K mg A) (Z : Apart A) : ∃ f fd, FnOk P w K mg base CX0 10 f fd ["holder", "call"] (sp_answer_of A K) ∧ mg "answer_of" = some (.ref f) ∧ PySem.W.keepIn K (.ref f) = true ∧ Binds K fd ["holder", "call"] [] := by
  obtain ⟨f, fd, F, hm, hb⟩ := T.d_answer_of.ex
  obtain ⟨f_Holder_idle, fd_Holder_idle, G_Holder_idle, M_Holder_idle, b_Holder_idle⟩ := ok_Holder_idle (P := P) (w := w) (base := base) T Z
  obtain ⟨f_Holder_kinds, fd_Holder_kinds, G_Holder_kinds, M_Holder_kinds, b_Holder_kinds⟩ := ok_Holder_kinds (P := P) (w := w) (base := base) T Z
  obtain ⟨f_Holder_load, fd_Holder_load, G_Holder_load, M_Holder_load, b_Holder_load⟩ := ok_Holder_load (P := P) (w := w) (base := base) T Z
  obtain ⟨f_Holder_prune, fd_Holder_prune, G_Holder_prune, M_Holder_prune, b_Holder_prune⟩ := ok_Holder_prune (P := P) (w := w) (base := base) T Z
  obtain ⟨f_Holder_safe, fd_Holder_safe, G_Holder_safe, M_Holder_safe, b_Holder_safe⟩ := ok_Holder_safe (P := P) (w := w) (base := base) T Z
  obtain ⟨f_Holder_shown, fd_Holder_shown, G_Holder_shown, M_Holder_shown, b_Holder_shown⟩ := ok_Holder_shown (P := P) (w := w) (base := base) T Z
  obtain ⟨f_answer_of_command, fd_answer_of_command, G_answer_of_command, m_answer_of_command, k_answer_of_command, b_answer_of_command⟩ := ok_answer_of_command (P := P) (w := w) (base := base) T Z
  refine ⟨f, fd, ?_, hm, F.kp, hb⟩
  refine F.ok sc_answer_of (fun vs H Q E h => by obtain ⟨h, q, o, c, fl, rfl, hc, X, hq, k⟩ := h; rfl) (fun cdv A' outer s H vs Q E hr h => ?_)
  obtain ⟨h, q, o, c, fl, rfl, hc, X, hq, k⟩ := h
  refine ⟨_, (pss_cons (ps_if (pt_cmpR op_eq (pe_ix ix_list (pv 1) pe_int (fun _ _ => rfl)) (pe_gi T.g_LOAD) (nomark _)) (pss_one (ps_ret (pe_meth (pv 0) T.c_Holder.cl M_Holder_load G_Holder_load (hr.mono (by decide)) b_Holder_load .nil pass0 (pa_cons (pe_slice sl_listA (pv 1) (po_some pe_int) po_none) pa_nil)))) pss_nil)
  (pss_cons (ps_if (pt_cmpR op_isN (pe_fldK (K := K) (pv 0) rfl) pe_non (nomark _)) (pss_one (ps_ret (pe_lstA (pa_cons (pe_gi T.g_NO_SCRIPT) pa_nil)))) pss_nil)
  (pss_cons (ps_if (pt_cmpR (op_in_seqK (K := K)) (pe_ix ix_list (pv 1) pe_int (fun _ _ => rfl)) (pe_gt T.g_CALLS_WITH_A_NUMBER) (by rfl)) (pss_one (ps_ret (pe_call G_answer_of_command (hr.mono (by decide)) rfl m_answer_of_command k_answer_of_command b_answer_of_command .nil pass0 (pa_cons (pv 0) (pa_cons (pe_ix ix_list (pv 1) pe_int (fun _ _ => rfl)) (pa_cons (pe_ix ix_list (pv 1) pe_int (fun _ _ => rfl)) pa_nil)))))) pss_nil)
  (pss_cons (ps_if (pt_cmpR op_eq (pe_ix ix_list (pv 1) pe_int (fun _ _ => rfl)) (pe_gi T.g_SHOWN) (nomark _)) (pss_one (ps_ret (pe_meth0 (pv 0) T.c_Holder.cl M_Holder_shown G_Holder_shown (hr.mono (by decide)) b_Holder_shown .nil pass0))) pss_nil)
  (pss_cons (ps_if (pt_cmpR op_eq (pe_ix ix_list (pv 1) pe_int (fun _ _ => rfl)) (pe_gi T.g_KINDS) (nomark _)) (pss_one (ps_ret (pe_meth0 (pv 0) T.c_Holder.cl M_Holder_kinds G_Holder_kinds (hr.mono (by decide)) b_Holder_kinds .nil pass0))) pss_nil)
  (pss_cons (ps_if (pt_cmpR op_eq (pe_ix ix_list (pv 1) pe_int (fun _ _ => rfl)) (pe_gi T.g_IDLE) (nomark _)) (pss_one (ps_ret (pe_meth0 (pv 0) T.c_Holder.cl M_Holder_idle G_Holder_idle (hr.mono (by decide)) b_Holder_idle .nil pass0))) pss_nil)
  (pss_cons (ps_if (pt_cmpR op_eq (pe_ix ix_list (pv 1) pe_int (fun _ _ => rfl)) (pe_gi T.g_SAFE) (nomark _)) (pss_one (ps_ret (pe_meth (pv 0) T.c_Holder.cl M_Holder_safe G_Holder_safe (hr.mono (by decide)) b_Holder_safe .nil pass0 (pa_cons (pe_slice sl_listA (pv 1) (po_some pe_int) po_none) pa_nil)))) pss_nil)
  (pss_one (ps_ret (pe_meth0 (pv 0) T.c_Holder.cl M_Holder_prune G_Holder_prune (hr.mono (by decide)) b_Holder_prune .nil pass0)))))))))), ?_⟩
  cases hc with
  | load b =>
    rw [step_load] at k
    refine ⟨_, rfl, q, _, _, _, rfl, rfl, SqL.of hq, atI_nat (j := 0) rfl, rfl, _, rfl, ?_⟩
    refine ifT (by decide +kernel) ?_
    obtain ⟨dx, v0, v1, v2, e⟩ := X.ob
    refine ⟨_, rfl, h, dx, _, rfl, e, lm_Holder_load, _, rfl, 2, rfl, q, _, rfl, SqL.of hq, fun q2 H2 nq2 hq2 s2 => ?_⟩
    rw [cut2] at hq2
    exact ⟨h, q2, o, b, rfl, X.same Z s2, hq2, fun r H' hr' hx kp => k r H' hr' hx ((same_kp s2).trans kp)⟩

  | shown =>
    refine ⟨_, rfl, q, _, _, _, rfl, rfl, SqL.of hq, atI_nat (j := 0) rfl, rfl, _, rfl, ?_⟩
    refine ifF (by decide +kernel) ?_
    cases o with
    | none =>
      obtain ⟨dx, v1, v2, e⟩ := X
      refine ⟨_, rfl, ?_⟩
      refine ⟨_, _, _, _, _, rfl, (e), T.c_Holder.cl, T.c_Holder.no _ (by simp), lk_Holder_commands, ?_⟩
      refine ⟨rfl, _, rfl, ?_⟩
      refine ifT (by simp) ?_
      refine ⟨few (n := 1) (Nat.le_refl 1) (by decide), fun t H2 nt ht s2 => ?_⟩
      exact k t H2 (by rw [show VasedbNeutral.step none _ = (none, [-1]) from rfl]; exact ht) (by rw [show VasedbNeutral.step none _ = (none, [-1]) from rfl]; exact ⟨dx, v1, v2, s2 _ _ e⟩) (same_kp s2)
    | some s =>
      obtain ⟨g, dx, cc, ks, os, X⟩ := X
      rw [step_shown s] at k
      refine ⟨_, rfl, ?_⟩
      refine ⟨_, _, _, _, _, rfl, (X.ob), T.c_Holder.cl, T.c_Holder.no _ (by simp), lk_Holder_commands, ?_⟩
      refine ⟨rfl, _, rfl, ?_⟩
      refine ifF (by simp) ?_
      refine ⟨_, rfl, q, _, _, _, rfl, rfl, SqL.of hq, atI_nat (j := 0) rfl, ?_⟩
      intro a ha
      refine ⟨a, _, rfl, .inr ha, rfl, rfl, _, rfl, ?_⟩
      rw [if_neg Bool.false_ne_true]
      refine ifF (by decide +kernel) ?_
      refine ⟨_, rfl, q, _, _, _, rfl, rfl, SqL.of hq, atI_nat (j := 0) rfl, rfl, _, rfl, ?_⟩
      refine ifT (by decide +kernel) ?_
      exact ⟨_, rfl, h, dx, _, rfl, X.ob, lm_Holder_shown, h, dx, cc, ks, os, s, rfl, X, g, fun r H1 hr1 s1 => k r H1 hr1 ⟨g, dx, cc, ks, os, X.same Z s1⟩ (same_kp s1)⟩

  | kinds =>
    refine ⟨_, rfl, q, _, _, _, rfl, rfl, SqL.of hq, atI_nat (j := 0) rfl, rfl, _, rfl, ?_⟩
    refine ifF (by decide +kernel) ?_
    cases o with
    | none =>
      obtain ⟨dx, v1, v2, e⟩ := X
      refine ⟨_, rfl, ?_⟩
      refine ⟨_, _, _, _, _, rfl, (e), T.c_Holder.cl, T.c_Holder.no _ (by simp), lk_Holder_commands, ?_⟩
      refine ⟨rfl, _, rfl, ?_⟩
      refine ifT (by simp) ?_
      refine ⟨few (n := 1) (Nat.le_refl 1) (by decide), fun t H2 nt ht s2 => ?_⟩
      exact k t H2 (by rw [show VasedbNeutral.step none _ = (none, [-1]) from rfl]; exact ht) (by rw [show VasedbNeutral.step none _ = (none, [-1]) from rfl]; exact ⟨dx, v1, v2, s2 _ _ e⟩) (same_kp s2)
    | some s =>
      obtain ⟨g, dx, cc, ks, os, X⟩ := X
      rw [step_kinds s] at k
      refine ⟨_, rfl, ?_⟩
      refine ⟨_, _, _, _, _, rfl, (X.ob), T.c_Holder.cl, T.c_Holder.no _ (by simp), lk_Holder_commands, ?_⟩
      refine ⟨rfl, _, rfl, ?_⟩
      refine ifF (by simp) ?_
      refine ⟨_, rfl, q, _, _, _, rfl, rfl, SqL.of hq, atI_nat (j := 0) rfl, ?_⟩
      intro a ha
      refine ⟨a, _, rfl, .inr ha, rfl, rfl, _, rfl, ?_⟩
      rw [if_neg Bool.false_ne_true]
      refine ifF (by decide +kernel) ?_
      refine ⟨_, rfl, q, _, _, _, rfl, rfl, SqL.of hq, atI_nat (j := 0) rfl, rfl, _, rfl, ?_⟩
      refine ifF (by decide +kernel) ?_
      refine ⟨_, rfl, q, _, _, _, rfl, rfl, SqL.of hq, atI_nat (j := 0) rfl, rfl, _, rfl, ?_⟩
      refine ifT (by decide +kernel) ?_
      exact ⟨_, rfl, h, dx, _, rfl, X.ob, lm_Holder_kinds, h, dx, cc, ks, os, s, rfl, X, g, fun r H1 hr1 s1 => k r H1 hr1 ⟨g, dx, cc, ks, os, X.same Z s1⟩ (same_kp s1)⟩

  | can x =>
    refine ⟨_, rfl, q, _, _, _, rfl, rfl, SqL.of hq, atI_nat (j := 0) rfl, rfl, _, rfl, ?_⟩
    refine ifF (by decide +kernel) ?_
    cases o with
    | none =>
      obtain ⟨dx, v1, v2, e⟩ := X
      refine ⟨_, rfl, ?_⟩
      refine ⟨_, _, _, _, _, rfl, (e), T.c_Holder.cl, T.c_Holder.no _ (by simp), lk_Holder_commands, ?_⟩
      refine ⟨rfl, _, rfl, ?_⟩
      refine ifT (by simp) ?_
      refine ⟨few (n := 1) (Nat.le_refl 1) (by decide), fun t H2 nt ht s2 => ?_⟩
      exact k t H2 (by rw [show VasedbNeutral.step none _ = (none, [-1]) from rfl]; exact ht) (by rw [show VasedbNeutral.step none _ = (none, [-1]) from rfl]; exact ⟨dx, v1, v2, s2 _ _ e⟩) (same_kp s2)
    | some s =>
      obtain ⟨g, dx, cc, ks, os, X⟩ := X
      rw [step_can s x] at k
      refine ⟨_, rfl, ?_⟩
      refine ⟨_, _, _, _, _, rfl, (X.ob), T.c_Holder.cl, T.c_Holder.no _ (by simp), lk_Holder_commands, ?_⟩
      refine ⟨rfl, _, rfl, ?_⟩
      refine ifF (by simp) ?_
      refine ⟨_, rfl, q, _, _, _, rfl, rfl, SqL.of hq, atI_nat (j := 0) rfl, ?_⟩
      intro a ha
      refine ⟨a, _, rfl, .inr ha, rfl, rfl, _, rfl, ?_⟩
      rw [if_neg Bool.false_ne_true]
      refine ifT (by decide +kernel) ?_
      refine ⟨_, rfl, ?_⟩
      refine ⟨_, rfl, q, _, _, _, rfl, rfl, SqL.of hq, atI_nat (j := 0) rfl, ?_⟩
      refine ⟨_, rfl, q, _, _, _, rfl, rfl, SqL.of hq, atI_nat (j := 1) rfl, ?_⟩
      exact ⟨h, dx, cc, ks, os, s, 3, x, rfl, X, g, .inl rfl, fun r H1 hr1 s1 => k r H1 hr1 ⟨g, dx, cc, ks, os, X.same Z s1⟩ (same_kp s1)⟩

  | matters x =>
    refine ⟨_, rfl, q, _, _, _, rfl, rfl, SqL.of hq, atI_nat (j := 0) rfl, rfl, _, rfl, ?_⟩
    refine ifF (by decide +kernel) ?_
    cases o with
    | none =>
      obtain ⟨dx, v1, v2, e⟩ := X
      refine ⟨_, rfl, ?_⟩
      refine ⟨_, _, _, _, _, rfl, (e), T.c_Holder.cl, T.c_Holder.no _ (by simp), lk_Holder_commands, ?_⟩
      refine ⟨rfl, _, rfl, ?_⟩
      refine ifT (by simp) ?_
      refine ⟨few (n := 1) (Nat.le_refl 1) (by decide), fun t H2 nt ht s2 => ?_⟩
      exact k t H2 (by rw [show VasedbNeutral.step none _ = (none, [-1]) from rfl]; exact ht) (by rw [show VasedbNeutral.step none _ = (none, [-1]) from rfl]; exact ⟨dx, v1, v2, s2 _ _ e⟩) (same_kp s2)
    | some s =>
      obtain ⟨g, dx, cc, ks, os, X⟩ := X
      rw [step_matters s x] at k
      refine ⟨_, rfl, ?_⟩
      refine ⟨_, _, _, _, _, rfl, (X.ob), T.c_Holder.cl, T.c_Holder.no _ (by simp), lk_Holder_commands, ?_⟩
      refine ⟨rfl, _, rfl, ?_⟩
      refine ifF (by simp) ?_
      refine ⟨_, rfl, q, _, _, _, rfl, rfl, SqL.of hq, atI_nat (j := 0) rfl, ?_⟩
      intro a ha
      refine ⟨a, _, rfl, .inr ha, rfl, rfl, _, rfl, ?_⟩
      rw [if_neg Bool.false_ne_true]
      refine ifT (by decide +kernel) ?_
      refine ⟨_, rfl, ?_⟩
      refine ⟨_, rfl, q, _, _, _, rfl, rfl, SqL.of hq, atI_nat (j := 0) rfl, ?_⟩
      refine ⟨_, rfl, q, _, _, _, rfl, rfl, SqL.of hq, atI_nat (j := 1) rfl, ?_⟩
      exact ⟨h, dx, cc, ks, os, s, 4, x, rfl, X, g, .inr (.inl rfl), fun r H1 hr1 s1 => k r H1 hr1 ⟨g, dx, cc, ks, os, X.same Z s1⟩ (same_kp s1)⟩

  | idle =>
    refine ⟨_, rfl, q, _, _, _, rfl, rfl, SqL.of hq, atI_nat (j := 0) rfl, rfl, _, rfl, ?_⟩
    refine ifF (by decide +kernel) ?_
    cases o with
    | none =>
      obtain ⟨dx, v1, v2, e⟩ := X
      refine ⟨_, rfl, ?_⟩
      refine ⟨_, _, _, _, _, rfl, (e), T.c_Holder.cl, T.c_Holder.no _ (by simp), lk_Holder_commands, ?_⟩
      refine ⟨rfl, _, rfl, ?_⟩
      refine ifT (by simp) ?_
      refine ⟨few (n := 1) (Nat.le_refl 1) (by decide), fun t H2 nt ht s2 => ?_⟩
      exact k t H2 (by rw [show VasedbNeutral.step none _ = (none, [-1]) from rfl]; exact ht) (by rw [show VasedbNeutral.step none _ = (none, [-1]) from rfl]; exact ⟨dx, v1, v2, s2 _ _ e⟩) (same_kp s2)
    | some s =>
      obtain ⟨g, dx, cc, ks, os, X⟩ := X
      rw [step_idle s] at k
      refine ⟨_, rfl, ?_⟩
      refine ⟨_, _, _, _, _, rfl, (X.ob), T.c_Holder.cl, T.c_Holder.no _ (by simp), lk_Holder_commands, ?_⟩
      refine ⟨rfl, _, rfl, ?_⟩
      refine ifF (by simp) ?_
      refine ⟨_, rfl, q, _, _, _, rfl, rfl, SqL.of hq, atI_nat (j := 0) rfl, ?_⟩
      intro a ha
      refine ⟨a, _, rfl, .inr ha, rfl, rfl, _, rfl, ?_⟩
      rw [if_neg Bool.false_ne_true]
      refine ifF (by decide +kernel) ?_
      refine ⟨_, rfl, q, _, _, _, rfl, rfl, SqL.of hq, atI_nat (j := 0) rfl, rfl, _, rfl, ?_⟩
      refine ifF (by decide +kernel) ?_
      refine ⟨_, rfl, q, _, _, _, rfl, rfl, SqL.of hq, atI_nat (j := 0) rfl, rfl, _, rfl, ?_⟩
      refine ifF (by decide +kernel) ?_
      refine ⟨_, rfl, q, _, _, _, rfl, rfl, SqL.of hq, atI_nat (j := 0) rfl, rfl, _, rfl, ?_⟩
      refine ifT (by decide +kernel) ?_
      exact ⟨_, rfl, h, dx, _, rfl, X.ob, lm_Holder_idle, h, dx, cc, ks, os, s, rfl, X, g, fun r H1 hr1 s1 => k r H1 hr1 ⟨g, dx, cc, ks, os, X.same Z s1⟩ (same_kp s1)⟩

  | turn x =>
    refine ⟨_, rfl, q, _, _, _, rfl, rfl, SqL.of hq, atI_nat (j := 0) rfl, rfl, _, rfl, ?_⟩
    refine ifF (by decide +kernel) ?_
    cases o with
    | none =>
      obtain ⟨dx, v1, v2, e⟩ := X
      refine ⟨_, rfl, ?_⟩
      refine ⟨_, _, _, _, _, rfl, (e), T.c_Holder.cl, T.c_Holder.no _ (by simp), lk_Holder_commands, ?_⟩
      refine ⟨rfl, _, rfl, ?_⟩
      refine ifT (by simp) ?_
      refine ⟨few (n := 1) (Nat.le_refl 1) (by decide), fun t H2 nt ht s2 => ?_⟩
      exact k t H2 (by rw [show VasedbNeutral.step none _ = (none, [-1]) from rfl]; exact ht) (by rw [show VasedbNeutral.step none _ = (none, [-1]) from rfl]; exact ⟨dx, v1, v2, s2 _ _ e⟩) (same_kp s2)
    | some s =>
      obtain ⟨g, dx, cc, ks, os, X⟩ := X
      rw [step_turn s x] at k
      refine ⟨_, rfl, ?_⟩
      refine ⟨_, _, _, _, _, rfl, (X.ob), T.c_Holder.cl, T.c_Holder.no _ (by simp), lk_Holder_commands, ?_⟩
      refine ⟨rfl, _, rfl, ?_⟩
      refine ifF (by simp) ?_
      refine ⟨_, rfl, q, _, _, _, rfl, rfl, SqL.of hq, atI_nat (j := 0) rfl, ?_⟩
      intro a ha
      refine ⟨a, _, rfl, .inr ha, rfl, rfl, _, rfl, ?_⟩
      rw [if_neg Bool.false_ne_true]
      refine ifT (by decide +kernel) ?_
      refine ⟨_, rfl, ?_⟩
      refine ⟨_, rfl, q, _, _, _, rfl, rfl, SqL.of hq, atI_nat (j := 0) rfl, ?_⟩
      refine ⟨_, rfl, q, _, _, _, rfl, rfl, SqL.of hq, atI_nat (j := 1) rfl, ?_⟩
      exact ⟨h, dx, cc, ks, os, s, 6, x, rfl, X, g, .inr (.inr (.inl rfl)), fun r H1 hr1 s1 => k r H1 hr1 ⟨g, dx, cc, ks, os, X.same Z s1⟩ (same_kp s1)⟩

  | lines x =>
    refine ⟨_, rfl, q, _, _, _, rfl, rfl, SqL.of hq, atI_nat (j := 0) rfl, rfl, _, rfl, ?_⟩
    refine ifF (by decide +kernel) ?_
    cases o with
    | none =>
      obtain ⟨dx, v1, v2, e⟩ := X
      refine ⟨_, rfl, ?_⟩
      refine ⟨_, _, _, _, _, rfl, (e), T.c_Holder.cl, T.c_Holder.no _ (by simp), lk_Holder_commands, ?_⟩
      refine ⟨rfl, _, rfl, ?_⟩
      refine ifT (by simp) ?_
      refine ⟨few (n := 1) (Nat.le_refl 1) (by decide), fun t H2 nt ht s2 => ?_⟩
      exact k t H2 (by rw [show VasedbNeutral.step none _ = (none, [-1]) from rfl]; exact ht) (by rw [show VasedbNeutral.step none _ = (none, [-1]) from rfl]; exact ⟨dx, v1, v2, s2 _ _ e⟩) (same_kp s2)
    | some s =>
      obtain ⟨g, dx, cc, ks, os, X⟩ := X
      rw [step_lines s x] at k
      refine ⟨_, rfl, ?_⟩
      refine ⟨_, _, _, _, _, rfl, (X.ob), T.c_Holder.cl, T.c_Holder.no _ (by simp), lk_Holder_commands, ?_⟩
      refine ⟨rfl, _, rfl, ?_⟩
      refine ifF (by simp) ?_
      refine ⟨_, rfl, q, _, _, _, rfl, rfl, SqL.of hq, atI_nat (j := 0) rfl, ?_⟩
      intro a ha
      refine ⟨a, _, rfl, .inr ha, rfl, rfl, _, rfl, ?_⟩
      rw [if_neg Bool.false_ne_true]
      refine ifT (by decide +kernel) ?_
      refine ⟨_, rfl, ?_⟩
      refine ⟨_, rfl, q, _, _, _, rfl, rfl, SqL.of hq, atI_nat (j := 0) rfl, ?_⟩
      refine ⟨_, rfl, q, _, _, _, rfl, rfl, SqL.of hq, atI_nat (j := 1) rfl, ?_⟩
      exact ⟨h, dx, cc, ks, os, s, 7, x, rfl, X, g, .inr (.inr (.inr rfl)), fun r H1 hr1 s1 => k r H1 hr1 ⟨g, dx, cc, ks, os, X.same Z s1⟩ (same_kp s1)⟩

  | safe b =>
    refine ⟨_, rfl, q, _, _, _, rfl, rfl, SqL.of hq, atI_nat (j := 0) rfl, rfl, _, rfl, ?_⟩
    refine ifF (by decide +kernel) ?_
    cases o with
    | none =>
      obtain ⟨dx, v1, v2, e⟩ := X
      refine ⟨_, rfl, ?_⟩
      refine ⟨_, _, _, _, _, rfl, (e), T.c_Holder.cl, T.c_Holder.no _ (by simp), lk_Holder_commands, ?_⟩
      refine ⟨rfl, _, rfl, ?_⟩
      refine ifT (by simp) ?_
      refine ⟨few (n := 1) (Nat.le_refl 1) (by decide), fun t H2 nt ht s2 => ?_⟩
      exact k t H2 (by rw [show VasedbNeutral.step none _ = (none, [-1]) from none_safe b]; exact ht) (by rw [show VasedbNeutral.step none _ = (none, [-1]) from none_safe b]; exact ⟨dx, v1, v2, s2 _ _ e⟩) (same_kp s2)
    | some s =>
      obtain ⟨g, dx, cc, ks, os, X⟩ := X
      rw [step_safe s b] at k
      refine ⟨_, rfl, ?_⟩
      refine ⟨_, _, _, _, _, rfl, (X.ob), T.c_Holder.cl, T.c_Holder.no _ (by simp), lk_Holder_commands, ?_⟩
      refine ⟨rfl, _, rfl, ?_⟩
      refine ifF (by simp) ?_
      refine ⟨_, rfl, q, _, _, _, rfl, rfl, SqL.of hq, atI_nat (j := 0) rfl, ?_⟩
      intro a ha
      refine ⟨a, _, rfl, .inr ha, rfl, rfl, _, rfl, ?_⟩
      rw [if_neg Bool.false_ne_true]
      refine ifF (by decide +kernel) ?_
      refine ⟨_, rfl, q, _, _, _, rfl, rfl, SqL.of hq, atI_nat (j := 0) rfl, rfl, _, rfl, ?_⟩
      refine ifF (by decide +kernel) ?_
      refine ⟨_, rfl, q, _, _, _, rfl, rfl, SqL.of hq, atI_nat (j := 0) rfl, rfl, _, rfl, ?_⟩
      refine ifF (by decide +kernel) ?_
      refine ⟨_, rfl, q, _, _, _, rfl, rfl, SqL.of hq, atI_nat (j := 0) rfl, rfl, _, rfl, ?_⟩
      refine ifF (by decide +kernel) ?_
      refine ⟨_, rfl, q, _, _, _, rfl, rfl, SqL.of hq, atI_nat (j := 0) rfl, rfl, _, rfl, ?_⟩
      refine ifT (by decide +kernel) ?_
      refine ⟨_, rfl, h, dx, _, rfl, X.ob, lm_Holder_safe, _, rfl, 2, rfl, q, _, rfl, SqL.of hq, fun q2 H2 nq2 hq2 s2 => ?_⟩
      rw [cut2] at hq2
      have X2 := X.same Z s2
      exact ⟨h, dx, cc, ks, os, q2, s, b, rfl, X2, g, hq2, fun r H1 hr1 s1 => k r H1 hr1 ⟨g, dx, cc, ks, os, X2.same Z s1⟩ (same_kp (s2.trans s1))⟩

  | prune =>
    refine ⟨_, rfl, q, _, _, _, rfl, rfl, SqL.of hq, atI_nat (j := 0) rfl, rfl, _, rfl, ?_⟩
    refine ifF (by decide +kernel) ?_
    cases o with
    | none =>
      obtain ⟨dx, v1, v2, e⟩ := X
      refine ⟨_, rfl, ?_⟩
      refine ⟨_, _, _, _, _, rfl, (e), T.c_Holder.cl, T.c_Holder.no _ (by simp), lk_Holder_commands, ?_⟩
      refine ⟨rfl, _, rfl, ?_⟩
      refine ifT (by simp) ?_
      refine ⟨few (n := 1) (Nat.le_refl 1) (by decide), fun t H2 nt ht s2 => ?_⟩
      exact k t H2 (by rw [show VasedbNeutral.step none _ = (none, [-1]) from rfl]; exact ht) (by rw [show VasedbNeutral.step none _ = (none, [-1]) from rfl]; exact ⟨dx, v1, v2, s2 _ _ e⟩) (same_kp s2)
    | some s =>
      obtain ⟨g, dx, cc, ks, os, X⟩ := X
      rw [step_prune s] at k
      refine ⟨_, rfl, ?_⟩
      refine ⟨_, _, _, _, _, rfl, (X.ob), T.c_Holder.cl, T.c_Holder.no _ (by simp), lk_Holder_commands, ?_⟩
      refine ⟨rfl, _, rfl, ?_⟩
      refine ifF (by simp) ?_
      refine ⟨_, rfl, q, _, _, _, rfl, rfl, SqL.of hq, atI_nat (j := 0) rfl, ?_⟩
      intro a ha
      refine ⟨a, _, rfl, .inr ha, rfl, rfl, _, rfl, ?_⟩
      rw [if_neg Bool.false_ne_true]
      refine ifF (by decide +kernel) ?_
      refine ⟨_, rfl, q, _, _, _, rfl, rfl, SqL.of hq, atI_nat (j := 0) rfl, rfl, _, rfl, ?_⟩
      refine ifF (by decide +kernel) ?_
      refine ⟨_, rfl, q, _, _, _, rfl, rfl, SqL.of hq, atI_nat (j := 0) rfl, rfl, _, rfl, ?_⟩
      refine ifF (by decide +kernel) ?_
      refine ⟨_, rfl, q, _, _, _, rfl, rfl, SqL.of hq, atI_nat (j := 0) rfl, rfl, _, rfl, ?_⟩
      refine ifF (by decide +kernel) ?_
      refine ⟨_, rfl, q, _, _, _, rfl, rfl, SqL.of hq, atI_nat (j := 0) rfl, rfl, _, rfl, ?_⟩
      refine ifF (by decide +kernel) ?_
      exact ⟨_, rfl, h, dx, _, rfl, X.ob, lm_Holder_prune, h, dx, cc, ks, os, s, rfl, X, g, fun r H1 hr1 hx kp => k r H1 hr1 hx kp⟩

end
end
end SK
set_option Elab.async false
set_option linter.all false
set_option maxRecDepth 100000
set_option maxHeartbeats 2000000
namespace SK
open PySem PySem.Spec PyProof.Rows L2
section
variable {P : Program} {w : World} {K : PySem.W.Frag} {mg : Str → Option Value} {base : Heap} {A : Ad}
section
open Vaseda (Script Deed Cmd Work Out)
open Vasedb (Spot At)
/-! ### the calls of a list -/
theorem ints_bytes : ∀ {l : List Int}, l.all (fun z => VasedbNeutral.natural z 8) = true → ∃ b : Bt, l = bInts b
  | [], _ => ⟨[], rfl⟩
  | z :: l, h => by
    rw [List.all_cons, Bool.and_eq_true] at h
    obtain ⟨b, e⟩ := ints_bytes h.2
    have h1 := h.1
    unfold VasedbNeutral.natural at h1
    rw [Bool.and_eq_true, decide_eq_true_iff, decide_eq_true_iff] at h1
    refine ⟨UInt8.ofNat z.toNat :: b, ?_⟩
    rw [e]
    unfold bInts
    rw [List.map_cons]
    congr 1
    have : z.toNat < 256 := by omega
    simp
    omega
theorem call_row {p : Int} {r : List Int} {c : List (List Int)} {t : List Int} (hs : PyVasedb.shape p = some (0, 1)) (h : PyFlat.call PyVasedb.shape (p :: r) = some (c, t)) : ∃ n x, c = [[p], x] ∧ p :: r = p :: n :: (x ++ t) ∧ n = (x.length : Int) := by
  unfold PyFlat.call at h
  simp only [hs] at h
  simp only [Nat.not_lt_zero, if_false, List.drop_zero] at h
  cases r with
  | nil => simp [PyFlat.rows, PyFlat.row] at h
  | cons n r =>
    simp only [PyFlat.rows, PyFlat.row] at h
    by_cases q : 0 ≤ n ∧ n.toNat ≤ r.length
    · rw [if_pos q] at h
      simp only [Option.some.injEq, Prod.mk.injEq] at h
      refine ⟨n, r.take n.toNat, h.1.symm, ?_, ?_⟩
      · rw [← h.2, List.take_append_drop]
      · rw [List.length_take]
        omega
    · rw [if_neg q] at h
      simp at h
theorem call_num {p : Int} {r : List Int} {c : List (List Int)} {t : List Int} (hs : PyVasedb.shape p = some (1, 0)) (h : PyFlat.call PyVasedb.shape (p :: r) = some (c, t)) : ∃ x, c = [[p, x]] ∧ p :: r = p :: x :: t := by
  unfold PyFlat.call at h
  simp only [hs] at h
  cases r with
  | nil => simp at h
  | cons n r =>
    simp [PyFlat.rows] at h
    exact ⟨n, h.1.symm, by rw [h.2]⟩
theorem call_one {p : Int} {r : List Int} {c : List (List Int)} {t : List Int} (hs : PyVasedb.shape p = some (0, 0)) (h : PyFlat.call PyVasedb.shape (p :: r) = some (c, t)) : c = [[p]] ∧ p :: r = p :: t := by
  unfold PyFlat.call at h
  simp only [hs] at h
  simp [PyFlat.rows] at h
  exact ⟨h.1.symm, by rw [h.2]⟩
theorem call_is {p : Int} {r : List Int} {c : List (List Int)} {t : List Int} (h : PyFlat.call PyVasedb.shape (p :: r) = some (c, t)) (ha : VasedbNeutral.asked1 (PyVasedb.whole c) = true) : ∃ fl, CallIs (PyVasedb.whole c) fl ∧ p :: r = fl ++ t := by
  by_cases h0 : p = 0
  · subst h0
    obtain ⟨n, x, rfl, e, en⟩ := call_row rfl h
    have ha : (x.all (fun z => VasedbNeutral.natural z 8) && decide (x.length ≤ 8192)) = true := ha
    rw [Bool.and_eq_true] at ha
    obtain ⟨b, rfl⟩ := ints_bytes ha.1
    refine ⟨0 :: (b.length : Int) :: bInts b, .load b, ?_⟩
    rw [e, en]
    unfold bInts
    rw [List.length_map]
    rfl
  by_cases h1 : p = 1
  · subst h1
    obtain ⟨rfl, e⟩ := call_one rfl h
    exact ⟨_, .shown, e⟩
  by_cases h2 : p = 2
  · subst h2
    obtain ⟨rfl, e⟩ := call_one rfl h
    exact ⟨_, .kinds, e⟩
  by_cases h3 : p = 3
  · subst h3
    obtain ⟨x, rfl, e⟩ := call_num rfl h
    exact ⟨_, .can x, e⟩
  by_cases h4 : p = 4
  · subst h4
    obtain ⟨x, rfl, e⟩ := call_num rfl h
    exact ⟨_, .matters x, e⟩
  by_cases h5 : p = 5
  · subst h5
    obtain ⟨rfl, e⟩ := call_one rfl h
    exact ⟨_, .idle, e⟩
  by_cases h6 : p = 6
  · subst h6
    obtain ⟨x, rfl, e⟩ := call_num rfl h
    exact ⟨_, .turn x, e⟩
  by_cases h7 : p = 7
  · subst h7
    obtain ⟨x, rfl, e⟩ := call_num rfl h
    exact ⟨_, .lines x, e⟩
  by_cases h8 : p = 8
  · subst h8
    obtain ⟨n, x, rfl, e, en⟩ := call_row rfl h
    have ha : (x.all (fun z => VasedbNeutral.natural z 8) && decide (x.length ≤ 8192)) = true := ha
    rw [Bool.and_eq_true] at ha
    obtain ⟨b, rfl⟩ := ints_bytes ha.1
    refine ⟨8 :: (b.length : Int) :: bInts b, .safe b, ?_⟩
    rw [e, en]
    unfold bInts
    rw [List.length_map]
    rfl
  by_cases h9 : p = 9
  · subst h9
    obtain ⟨rfl, e⟩ := call_one rfl h
    exact ⟨_, .prune, e⟩
  have : PyVasedb.shape p = none := by
    unfold PyVasedb.shape
    rw [if_neg h0, if_neg h1, if_neg h2, if_neg h3, if_neg h4, if_neg h5, if_neg h6, if_neg h7, if_neg h8, if_neg h9]
  unfold PyFlat.call at h
  simp only [this] at h
  cases h
def sp_behind_call (A : Ad) (K : PySem.W.Frag) : Sp := fun vs H Q _ => ∃ (p : PySem.Addr) (l fl t : List Int) (c : List (List Int)) (i : Nat), vs = [.ref p, vN i] ∧ SqL K H p (vI l) ∧ CallIs c fl ∧ l.drop i = fl ++ t ∧ Q (vN (i + fl.length)) H
theorem ok_behind_call (T : Txt K mg A) (Z : Apart A) : ∃ f fd, FnOk P w K mg base CX0 1 f fd ["calls", "at"] (sp_behind_call A K) ∧ mg "behind_call" = some (.ref f) ∧ PySem.W.keepIn K (.ref f) = true ∧ Binds K fd ["calls", "at"] [] := by
  obtain ⟨f, fd, F, hm, hb⟩ := T.d_behind_call.ex
  refine ⟨f, fd, ?_, hm, F.kp, hb⟩
  refine F.ok sc_behind_call (fun vs H Q E h => by obtain ⟨p, l, fl, t, c, i, rfl, hp, hc, hd, k⟩ := h; rfl) (fun cdv A' outer s H vs Q E hr h => ?_)
  obtain ⟨p, l, fl, t, c, i, rfl, hp, hc, hd, k⟩ := h
  refine ⟨_, (pss_cons (ps_if (pt_cmpR (op_in_seqK (K := K)) (pe_ix ix_list (pv 0) (pv 1) (fun _ _ => rfl)) (pe_gt T.g_CALLS_WITH_A_NUMBER) (by rfl)) (pss_one (ps_ret (pe_op op_add (pv 1) pe_int))) pss_nil)
  (pss_cons (ps_if (pt_cmpR (op_in_seqK (K := K)) (pe_ix ix_list (pv 0) (pv 1) (fun _ _ => rfl)) (pe_gt T.g_CALLS_WITH_A_LIST) (by rfl)) (pss_one (ps_ret (pe_op op_add (pe_op op_add (pv 1) pe_int) (pe_ix ix_list (pv 0) (pe_op op_add (pv 1) pe_int) (fun _ _ => rfl))))) pss_nil)
  (pss_one (ps_ret (pe_op op_add (pv 1) pe_int))))), ?_⟩
  have at_ : ∀ j x, fl[j]? = some x → (vI l)[i + j]? = some (V.int x) := fun j x e => by
    refine lst_at ?_
    rw [← List.getElem?_drop, hd]
    exact (List.getElem?_append_left (List.getElem?_eq_some_iff.mp e).1).trans e
  cases hc with
  | load b =>
    refine ⟨_, rfl, _, rfl, p, _, i, _, rfl, rfl, hp, atI_nat (at_ 0 _ rfl), ?_⟩
    intro a ha
    refine ⟨a, _, rfl, .inr ha, rfl, rfl, _, rfl, ?_⟩
    rw [if_neg Bool.false_ne_true]
    refine ifF (by decide +kernel) ?_
    refine ⟨_, rfl, _, rfl, p, _, i, _, rfl, rfl, hp, atI_nat (at_ 0 _ rfl), ?_⟩
    intro a ha
    refine ⟨a, _, rfl, .inr ha, rfl, rfl, _, rfl, ?_⟩
    rw [if_neg Bool.false_ne_true]
    refine ifT (by decide +kernel) ?_
    refine ⟨_, rfl, _, _, rfl, rfl, ?_⟩
    refine ⟨_, rfl, ?_⟩
    refine ⟨_, rfl, _, _, rfl, rfl, ?_⟩
    refine ⟨p, _, _, _, rfl, rfl, hp, atI_nat (j := i + 1) (at_ 1 _ rfl), ?_⟩
    refine ⟨_, _, rfl, rfl, ?_⟩
    have e : ((i : Int) + 2 + (b.length : Int)) = ((i + ((0 : Int) :: (b.length : Int) :: bInts b).length : Nat) : Int) := by
      simp only [List.length_cons, bInts, List.length_map]
      omega
    rw [vN, ← e] at k
    exact k
  | shown =>
    refine ⟨_, rfl, _, rfl, p, _, i, _, rfl, rfl, hp, atI_nat (at_ 0 _ rfl), ?_⟩
    intro a ha
    refine ⟨a, _, rfl, .inr ha, rfl, rfl, _, rfl, ?_⟩
    rw [if_neg Bool.false_ne_true]
    refine ifF (by decide +kernel) ?_
    refine ⟨_, rfl, _, rfl, p, _, i, _, rfl, rfl, hp, atI_nat (at_ 0 _ rfl), ?_⟩
    intro a ha
    refine ⟨a, _, rfl, .inr ha, rfl, rfl, _, rfl, ?_⟩
    rw [if_neg Bool.false_ne_true]
    refine ifF (by decide +kernel) ?_
    exact ⟨_, rfl, _, _, rfl, rfl, k⟩
  | kinds =>
    refine ⟨_, rfl, _, rfl, p, _, i, _, rfl, rfl, hp, atI_nat (at_ 0 _ rfl), ?_⟩
    intro a ha
    refine ⟨a, _, rfl, .inr ha, rfl, rfl, _, rfl, ?_⟩
    rw [if_neg Bool.false_ne_true]
    refine ifF (by decide +kernel) ?_
    refine ⟨_, rfl, _, rfl, p, _, i, _, rfl, rfl, hp, atI_nat (at_ 0 _ rfl), ?_⟩
    intro a ha
    refine ⟨a, _, rfl, .inr ha, rfl, rfl, _, rfl, ?_⟩
    rw [if_neg Bool.false_ne_true]
    refine ifF (by decide +kernel) ?_
    exact ⟨_, rfl, _, _, rfl, rfl, k⟩
  | can x =>
    refine ⟨_, rfl, _, rfl, p, _, i, _, rfl, rfl, hp, atI_nat (at_ 0 _ rfl), ?_⟩
    intro a ha
    refine ⟨a, _, rfl, .inr ha, rfl, rfl, _, rfl, ?_⟩
    rw [if_neg Bool.false_ne_true]
    refine ifT (by decide +kernel) ?_
    exact ⟨_, rfl, _, _, rfl, rfl, k⟩
  | matters x =>
    refine ⟨_, rfl, _, rfl, p, _, i, _, rfl, rfl, hp, atI_nat (at_ 0 _ rfl), ?_⟩
    intro a ha
    refine ⟨a, _, rfl, .inr ha, rfl, rfl, _, rfl, ?_⟩
    rw [if_neg Bool.false_ne_true]
    refine ifT (by decide +kernel) ?_
    exact ⟨_, rfl, _, _, rfl, rfl, k⟩
  | idle =>
    refine ⟨_, rfl, _, rfl, p, _, i, _, rfl, rfl, hp, atI_nat (at_ 0 _ rfl), ?_⟩
    intro a ha
    refine ⟨a, _, rfl, .inr ha, rfl, rfl, _, rfl, ?_⟩
    rw [if_neg Bool.false_ne_true]
    refine ifF (by decide +kernel) ?_
    refine ⟨_, rfl, _, rfl, p, _, i, _, rfl, rfl, hp, atI_nat (at_ 0 _ rfl), ?_⟩
    intro a ha
    refine ⟨a, _, rfl, .inr ha, rfl, rfl, _, rfl, ?_⟩
    rw [if_neg Bool.false_ne_true]
    refine ifF (by decide +kernel) ?_
    exact ⟨_, rfl, _, _, rfl, rfl, k⟩
  | turn x =>
    refine ⟨_, rfl, _, rfl, p, _, i, _, rfl, rfl, hp, atI_nat (at_ 0 _ rfl), ?_⟩
    intro a ha
    refine ⟨a, _, rfl, .inr ha, rfl, rfl, _, rfl, ?_⟩
    rw [if_neg Bool.false_ne_true]
    refine ifT (by decide +kernel) ?_
    exact ⟨_, rfl, _, _, rfl, rfl, k⟩
  | lines x =>
    refine ⟨_, rfl, _, rfl, p, _, i, _, rfl, rfl, hp, atI_nat (at_ 0 _ rfl), ?_⟩
    intro a ha
    refine ⟨a, _, rfl, .inr ha, rfl, rfl, _, rfl, ?_⟩
    rw [if_neg Bool.false_ne_true]
    refine ifT (by decide +kernel) ?_
    exact ⟨_, rfl, _, _, rfl, rfl, k⟩
  | safe b =>
    refine ⟨_, rfl, _, rfl, p, _, i, _, rfl, rfl, hp, atI_nat (at_ 0 _ rfl), ?_⟩
    intro a ha
    refine ⟨a, _, rfl, .inr ha, rfl, rfl, _, rfl, ?_⟩
    rw [if_neg Bool.false_ne_true]
    refine ifF (by decide +kernel) ?_
    refine ⟨_, rfl, _, rfl, p, _, i, _, rfl, rfl, hp, atI_nat (at_ 0 _ rfl), ?_⟩
    intro a ha
    refine ⟨a, _, rfl, .inr ha, rfl, rfl, _, rfl, ?_⟩
    rw [if_neg Bool.false_ne_true]
    refine ifT (by decide +kernel) ?_
    refine ⟨_, rfl, _, _, rfl, rfl, ?_⟩
    refine ⟨_, rfl, ?_⟩
    refine ⟨_, rfl, _, _, rfl, rfl, ?_⟩
    refine ⟨p, _, _, _, rfl, rfl, hp, atI_nat (j := i + 1) (at_ 1 _ rfl), ?_⟩
    refine ⟨_, _, rfl, rfl, ?_⟩
    have e : ((i : Int) + 2 + (b.length : Int)) = ((i + ((8 : Int) :: (b.length : Int) :: bInts b).length : Nat) : Int) := by
      simp only [List.length_cons, bInts, List.length_map]
      omega
    rw [vN, ← e] at k
    exact k
  | prune =>
    refine ⟨_, rfl, _, rfl, p, _, i, _, rfl, rfl, hp, atI_nat (at_ 0 _ rfl), ?_⟩
    intro a ha
    refine ⟨a, _, rfl, .inr ha, rfl, rfl, _, rfl, ?_⟩
    rw [if_neg Bool.false_ne_true]
    refine ifF (by decide +kernel) ?_
    refine ⟨_, rfl, _, rfl, p, _, i, _, rfl, rfl, hp, atI_nat (at_ 0 _ rfl), ?_⟩
    intro a ha
    refine ⟨a, _, rfl, .inr ha, rfl, rfl, _, rfl, ?_⟩
    rw [if_neg Bool.false_ne_true]
    refine ifF (by decide +kernel) ?_
    exact ⟨_, rfl, _, _, rfl, rfl, k⟩
end
end
end SK
set_option Elab.async false
set_option linter.all false
set_option maxRecDepth 100000
set_option maxHeartbeats 2000000
namespace SK
open PySem PySem.Spec PyProof.Rows L2
section
variable {P : Program} {w : World} {K : PySem.W.Frag} {mg : Str → Option Value} {base : Heap} {A : Ad}
section
open Vaseda (Script Deed Cmd Work Out)
open Vasedb (Spot At)
theorem mk_Holder {A : Ad} {K : PySem.W.Frag} {H1 : Hp} {R : PySem.Addr → Hp → Prop} {E : XK} (q : ∀ x H2, HoldAt A H2 x none → Same H1 H2 → H1 x = none → R x H2) :
    ∀ x dx, H1 x = none → H1 dx = none → dx ≠ x → sp_Holder_init A K (.ref x :: []) (upd (upd H1 dx (.own x)) x (.ins A.Holder dx [])) (fun v H2 => v = .non ∧ R x H2) E :=
  fun x dx nx nd ne => ⟨x, dx, rfl, upd_same, fun H' a b e bt => ⟨rfl, q x H' ⟨dx, a, b, e⟩ (bt.same ((same_new nd).trans (same_new (by rw [upd_ne (Ne.symm ne)]; exact nx))) (by simpa using nx)) nx⟩⟩
/-- what is handed in, beside the list told at t -/
def Inp (K : PySem.W.Frag) (p t : PySem.Addr) (l : List Int) (H : Hp) : Prop := (p ≠ t ∧ Rd H p (.lst (vI l))) ∨ ∃ (o : Obj) (its : Array Value) (n : Nat), K.lookup p = some o ∧ o.cls = .type "list" ∧ o.dict = none ∧ o.data = .seq its n ∧ its.size ≤ sizeLine ∧ Vals (vI l) its.toList
theorem Inp.start {K : PySem.W.Frag} {p t : PySem.Addr} {l : List Int} {H : Hp} (h : SqL K H p (vI l)) (n : H t = none) : Inp K p t l H := by
  rcases h with h | h
  · refine .inl ⟨fun z => ?_, h⟩
    rw [z] at h
    rcases h with h | ⟨o, h⟩
    · rw [n] at h
      cases h
    · rw [n] at h
      cases h
  · exact .inr h
theorem Inp.sql {K : PySem.W.Frag} {p t : PySem.Addr} {l : List Int} {H : Hp} (h : Inp K p t l H) : SqL K H p (vI l) := h.imp (fun h => h.2) id
theorem noM_frz {A : Ad} {o : Obj} {u : HO} : NoM A (.frz o u) := ⟨fun _ _ z => (by cases z), fun _ _ z => (by cases z)⟩
theorem Inp.step {A : Ad} {K : PySem.W.Frag} {p t : PySem.Addr} {l : List Int} {H H' : Hp} (h : Inp K p t l H) (k : ∀ b o, b ≠ t → H b = some o → NoM A o → H' b = some o) : Inp K p t l H' := by
  rcases h with ⟨n, h⟩ | h
  · refine .inl ⟨n, ?_⟩
    rcases h with h | ⟨o, h⟩
    · exact .inl (k _ _ n h noM_lst)
    · exact .inr ⟨o, k _ _ n h noM_frz⟩
  · exact .inr h
theorem Inp.del {K : PySem.W.Frag} {p t : PySem.Addr} {l : List Int} {H : Hp} (h : Inp K p t l H) : Inp K p t l (L2.del H t) := by
  rcases h with ⟨n, h⟩ | h
  · refine .inl ⟨n, ?_⟩
    rcases h with h | ⟨o, h⟩
    · exact .inl (by rw [del_ne n]; exact h)
    · exact .inr ⟨o, by rw [del_ne n]; exact h⟩
  · exact .inr h
def askedCalls (cs : List (List (List Int))) : Prop := ∀ c ∈ cs, VasedbNeutral.asked1 (PyVasedb.whole c) = true
theorem told_more (o : Vasedb.Obj) (c : List (List Int)) (cs : List (List (List Int))) : PyFlat.told (PyFlat.played VasedbNeutral.step o (c :: cs)) = ((VasedbNeutral.step o c).2.length : Int) :: (VasedbNeutral.step o c).2 ++ PyFlat.told (PyFlat.played VasedbNeutral.step (VasedbNeutral.step o c).1 cs) := rfl
theorem call_pos {c : List (List Int)} {fl : List Int} (h : CallIs c fl) : 0 < fl.length := by
  cases h <;> simp
def sp_answers (A : Ad) (K : PySem.W.Frag) : Sp := fun vs H Q _ => ∃ (p : PySem.Addr) (l : List Int), vs = [.ref p] ∧ SqL K H p (vI l) ∧ PyVasedb.answers_asked l = true ∧ ∀ q H', IntsAt H' q (PyVasedb.answers l) → Q (.ref q) H'
theorem okF_answers (T : Txt K mg A) (Z : Apart A) {f : Addr} {fd : FuncData} (F : Fun K "answers" "answers" s_answers f fd) : FnOk P w K mg base CX0 11 f fd ["calls"] (sp_answers A K) := by
  obtain ⟨f_Holder_init, fd_Holder_init, G_Holder_init, M_Holder, m_Holder, b_Holder_init⟩ := ok_Holder_init (P := P) (w := w) (base := base) T Z
  obtain ⟨f_answer_of, fd_answer_of, G_answer_of, m_answer_of, k_answer_of, b_answer_of⟩ := ok_answer_of (P := P) (w := w) (base := base) T Z
  obtain ⟨f_behind_call, fd_behind_call, G_behind_call, m_behind_call, k_behind_call, b_behind_call⟩ := ok_behind_call (P := P) (w := w) (base := base) T Z
  refine F.ok sc_answers (fun vs H Q E h => by obtain ⟨p, l, rfl, hp, asked, k⟩ := h; rfl) (fun cdv A' outer s H vs Q E hr h => ?_)
  obtain ⟨p, l, rfl, hp, asked, k⟩ := h
  refine ⟨_, (pss_cons (ps_set (i := 1) sc_answers.nd rfl (by first | exact Or.inl rfl | exact Or.inr rfl) (pe_make0 M_Holder G_Holder_init (hr.mono (by decide)) rfl m_Holder b_Holder_init .nil pass0))
  (pss_cons (ps_set (i := 2) sc_answers.nd rfl (by first | exact Or.inl rfl | exact Or.inr rfl) (pe_lstA pa_nil))
  (pss_cons (ps_set (i := 3) sc_answers.nd rfl (by first | exact Or.inl rfl | exact Or.inr rfl) pe_int)
  (pss_cons (ps_while PassesOwn.never (pt_cmpR op_lt (pv 3) (pe_callB call_len_seq (by rfl) T.z_len PySem.boot_len (pa_cons (pv 0) pa_nil)) (nomark _)) (pss_cons (ps_set (i := 4) sc_answers.nd rfl (by first | exact Or.inl rfl | exact Or.inr rfl) (pe_call G_behind_call (hr.mono (by decide)) rfl m_behind_call k_behind_call b_behind_call .nil pass0 (pa_cons (pv 0) (pa_cons (pv 3) pa_nil))))
  (pss_cons (ps_set (i := 5) sc_answers.nd rfl (by first | exact Or.inl rfl | exact Or.inr rfl) (pe_hide (pe_call G_answer_of (hr.mono (by decide)) rfl m_answer_of k_answer_of b_answer_of .nil pass0 (pa_cons (pv 1) (pa_cons (pe_slice sl_listA (pv 0) (po_some (pv 3)) (po_some (pv 4))) pa_nil)))))
  (pss_cons (ps_expr (pe_bm PySem.F.plainAttrs_list PySem.F.slot_list_append PySem.F.type_list_append mt_appendA (pv 2) (pa_cons (pe_callB call_len_seq (by rfl) T.z_len PySem.boot_len (pa_cons (pv 5) pa_nil)) pa_nil)))
  (pss_cons (ps_expr (pe_bm PySem.F.plainAttrs_list PySem.F.slot_list_extend PySem.F.type_list_extend mt_extendA (pv 2) (pa_cons (pv 5) pa_nil)))
  (pss_one (ps_set (i := 3) sc_answers.nd rfl (by first | exact Or.inl rfl | exact Or.inr rfl) (pv 4))))))))
  (pss_one (ps_ret (pv 2))))))), ?_⟩
  unfold PyVasedb.answers_asked at asked
  cases ec : PyFlat.calls PyVasedb.shape l.length l with
  | none =>
    rw [ec] at asked
    cases asked
  | some raw =>
    rw [ec] at asked
    simp only [Bool.and_eq_true] at asked
    obtain ⟨⟨⟨⟨a1, a2⟩, a3⟩, a4⟩, a5⟩ := asked
    unfold VasedbNeutral.asked at a4
    rw [Bool.and_eq_true, List.all_eq_true] at a4
    have ask : askedCalls raw := fun c hc => a4.1 _ (List.mem_map.mpr ⟨c, hc, rfl⟩)
    have ans : PyVasedb.answers l = PyFlat.told (PyFlat.played VasedbNeutral.step none (raw.map PyVasedb.whole)) := by
      unfold PyVasedb.answers PyVasedb.calls
      rw [ec]
      rfl
    have short : (PyVasedb.answers l).length ≤ 10000000 := of_decide_eq_true a5
    refine mk_Holder fun h H1 hx s1 nh => ?_
    refine ⟨size0, fun t H2 nt ht s2 => ?_⟩
    have s12 := s1.trans s2
    have inp : Inp K p t l H2 := (Inp.start hp (same_none s1 nt)).step (A := A) fun b o _ e _ => s12 b o e
    have hx2 : HoldAt A (del H2 t) h none := hx.same Z fun b o e => by
      rw [del_ne (ne_of_none e nt)]
      exact s2 b o e
    refine while_gh (fun m σ H' => ∃ (i f : Nat) (o : Vasedb.Obj) (T : List Int) (rest : List (List (List Int))) (o4 o5 : Option V), σ = [some (.ref p), some (.ref h), some (.ref t), some (vN i), o4, o5] ∧ m = l.length - i ∧ i ≤ l.length ∧ Inp K p t l H' ∧ H' t = some (.lst (vI T)) ∧ HoldAt A (del H' t) h o ∧
      PyFlat.calls PyVasedb.shape f (l.drop i) = some rest ∧ askedCalls rest ∧ PyVasedb.answers l = T ++ PyFlat.told (PyFlat.played VasedbNeutral.step o (rest.map PyVasedb.whole))) l.length
      ⟨0, l.length, none, [], raw, none, none, rfl, rfl, Nat.zero_le _, inp, ht, hx2, ec, ask, ans⟩ ?_
    rintro m σ H3 ⟨i, f, o, T, rest, o4, o5, rfl, rfl, hi, hp3, ht3, hx3, ec3, ask3, ans3⟩ G g1 g2
    refine ⟨_, rfl, _, rfl, p, _, rfl, .inl hp3.sql, _, _, rfl, rfl, _, rfl, ?_⟩
    rw [List.length_map]
    cases ed : l.drop i with
    | nil =>
      have hil : l.length ≤ i := by
        have := congrArg List.length ed
        rw [List.length_drop, List.length_nil] at this
        omega
      rw [show decide ((i : Int) < (l.length : Int)) = false from decide_eq_false (by omega)]
      refine g2 H3 ⟨_, rfl, ?_⟩
      rw [ed] at ec3
      have er : rest = [] := by
        cases f <;> (simp [PyFlat.calls] at ec3; exact ec3)
      rw [er] at ans3
      have e : PyVasedb.answers l = T := by
        rw [ans3]
        show T ++ [] = T
        rw [List.append_nil]
      rw [← e] at ht3
      exact k t H3 ht3
    | cons pp r =>
      have hil : i < l.length := by
        have := congrArg List.length ed
        rw [List.length_drop, List.length_cons] at this
        omega
      rw [show decide ((i : Int) < (l.length : Int)) = true from decide_eq_true (by omega)]
      rw [ed] at ec3
      have step : ∃ f2 c tl rest2, PyFlat.call PyVasedb.shape (pp :: r) = some (c, tl) ∧ PyFlat.calls PyVasedb.shape f2 tl = some rest2 ∧ rest = c :: rest2 := by
        cases f with
        | zero => simp [PyFlat.calls] at ec3
        | succ f2 =>
          unfold PyFlat.calls at ec3
          cases e1 : PyFlat.call PyVasedb.shape (pp :: r) with
          | none =>
            simp [e1] at ec3
          | some ct =>
            obtain ⟨c, tl⟩ := ct
            simp only [e1] at ec3
            cases e2 : PyFlat.calls PyVasedb.shape f2 tl with
            | none => simp [e2] at ec3
            | some rest2 =>
              simp only [e2, Option.some.injEq] at ec3
              exact ⟨f2, c, tl, rest2, rfl, e2, ec3.symm⟩
      obtain ⟨f2, c, tl, rest2, e1, e2, rfl⟩ := step
      obtain ⟨fl, hc, efl⟩ := call_is e1 (ask3 c List.mem_cons_self)
      rw [efl] at ed
      have lfl : i + fl.length ≤ l.length := by
        have := congrArg List.length ed
        rw [List.length_drop, List.length_append] at this
        omega
      have fl1 : 0 < fl.length := call_pos hc
      refine g1 H3 ?_
      refine ⟨_, rfl, _, rfl, p, l, fl, tl, PyVasedb.whole c, i, rfl, hp3.sql, hc, ed, ?_⟩
      refine ⟨t, vI T, ht3, ?_⟩
      refine ⟨_, rfl, _, rfl, _, rfl, i, rfl, _, rfl, i + fl.length, rfl, p, _, rfl, hp3.del.sql, fun q H4 nq hq s4 => ?_⟩
      have cut : cutV (vI l) (some (i : Int)) (some ((i + fl.length : Nat) : Int)) = vI fl := by
        rw [cut_mid _ i (i + fl.length) (by rw [List.length_map]; omega) (by rw [List.length_map]; exact lfl), ← List.map_drop, ed, Nat.add_sub_cancel_left, ← List.map_take, List.take_left]
      rw [show ((i : Int) + (fl.length : Int)) = ((i + fl.length : Nat) : Int) by omega, cut] at hq
      refine ⟨h, q, o, PyVasedb.whole c, fl, rfl, hc, hx3.same Z s4, hq, fun ra H5 hr5 hx5 kp5 => fun n5 => ?_⟩
      have hp5 : Inp K p t l H5 := hp3.del.step (A := A) fun b o _ e n => kp5 _ _ (s4 _ _ e) n
      rw [List.map_cons, told_more] at ans3
      generalize hrow : (VasedbNeutral.step o (PyVasedb.whole c)).2 = row at ans3 hr5
      generalize hobj : (VasedbNeutral.step o (PyVasedb.whole c)).1 = o2 at ans3 hx5
      have lrow : T.length + row.length + 1 ≤ 10000000 := by
        rw [ans3, List.length_append, List.length_append, List.length_cons] at short
        omega
      have hra : ra ≠ t := ne_of_none hr5 n5
      have ht6 : upd H5 t (.lst (vI T)) t = some (.lst (vI T)) := upd_same
      have hr6 : upd H5 t (.lst (vI T)) ra = some (.lst (vI row)) := by rw [upd_ne hra]; exact hr5
      refine ⟨_, rfl, .inl ⟨rfl, _, SqL.of ht6⟩, ?_⟩
      refine ⟨_, rfl, ra, _, rfl, .inl (SqL.of hr6), ?_⟩
      refine ⟨t, vI T, _, rfl, rfl, ht6, fewer (m := 10000000) (by rw [List.length_map]; omega) (by decide), fun H7 h7 b7 => ?_⟩
      have hr7 : H7 ra = some (.lst (vI row)) := b7 _ _ hr6 (fun z => hra (List.mem_singleton.mp z))
      refine ⟨_, rfl, .inl ⟨rfl, _, SqL.of h7⟩, ?_⟩
      refine ⟨_, rfl, t, ra, _, vI row, rfl, rfl, h7, hr7, few (m := 10000000) (by rw [List.length_append, List.length_map, List.length_map]; show _ + 1 + _ ≤ _; omega) (by decide), fun H8 h8 b8 => ?_⟩
      have keep : Same H5 (del H8 t) := fun b o e => by
        have nb : b ≠ t := ne_of_none e n5
        rw [del_ne nb]
        refine b8 _ _ (b7 _ _ ?_ fun z => nb (List.mem_singleton.mp z)) fun z => nb (List.mem_singleton.mp z)
        rw [upd_ne nb]
        exact e
      refine ⟨_, rfl, l.length - (i + fl.length), by omega, i + fl.length, f2, o2, T ++ (row.length : Int) :: row, rest2, _, _, rfl, rfl, lfl, ?_, ?_, hx5.same Z keep, ?_, fun d hd => ask3 d (List.mem_cons_of_mem _ hd), ?_⟩
      · refine hp5.step (A := A) fun b o nb e _ => ?_
        have := keep _ _ e
        rw [del_ne nb] at this
        exact this
      · rw [h8, List.length_map]
        show some (HO.lst ((vI T ++ [V.int row.length]) ++ vI row)) = some (HO.lst (vI (T ++ (row.length : Int) :: row)))
        unfold vI
        rw [List.map_append, List.map_cons, List.append_assoc]
        rfl
      · rw [← List.drop_drop, ed, List.drop_left]
        exact e2
      · rw [ans3]
        simp
end
end
end SK
set_option Elab.async false
set_option linter.all false
set_option maxRecDepth 100000
set_option maxHeartbeats 2000000
/-! the end: what the top has left, out of what the link knows -/
namespace SK
open PySem PySem.Spec PyProof.Rows L2
section
variable {K : PySem.W.Frag} {h : Heap} {mg : Str → Option Value}
theorem e_def {x : Str} {st : Stmt} {ps : List Str} {f : Addr} {oc : Value} {od an : Option Addr} {osl : Array (Option Value)} {kV doc pm cdv ct : Value} (X : K.In h) (G : h.Ns mainGlobals mg)
    (a : PySem.W.nsIn K mainGlobals x = some (some (.ref f))) (l : K.lookup f = some ⟨oc, od, .func (PySem.W.fnOf x x (defArgs st) (defBody st) (defScope st) .none kV doc pm an cdv ct), osl⟩) (c : PySem.W.codeIn K cdv x = true) (k : PySem.W.keepIn K (.ref f) = true)
    (b : ∀ {fd : FuncData}, Fun K x x st f fd → Binds K fd ps []) : DefAt K mg x st ps := ⟨f, _, fun_mk l c k, PySem.W.mg_of X G a, b (fun_mk l c k)⟩
theorem e_met {C : Addr} {m q : Str} {st : Stmt} {ps : List Str} {f : Addr} {oc : Value} {od an : Option Addr} {osl : Array (Option Value)} {kV doc pm cdv ct : Value}
    (a : PySem.W.findIn K (.ref C) m = some (some (.ref f))) (i : PySem.W.isFn K (.ref f) = true) (l : K.lookup f = some ⟨oc, od, .func (PySem.W.fnOf m q (defArgs st) (defBody st) (defScope st) .none kV doc pm an cdv ct), osl⟩) (c : PySem.W.codeIn K cdv q = true) (k : PySem.W.keepIn K (.ref f) = true)
    (b : ∀ {fd : FuncData}, Fun K m q st f fd → Binds K fd ps []) : MetAt K C m q st ps := ⟨f, _, fun_mk l c k, ⟨a, i, k⟩, b (fun_mk l c k)⟩
theorem e_ini {x q : Str} {C : Addr} {st : Stmt} {ps : List Str} {f : Addr} {oc : Value} {od an : Option Addr} {osl : Array (Option Value)} {kV doc pm cdv ct : Value} (X : K.In h) (G : h.Ns mainGlobals mg) (g : PySem.W.nsIn K mainGlobals x = some (some (.ref C)))
    (a : PySem.W.findIn K (.ref C) "__init__" = some (some (.ref f))) (i : PySem.W.isFn K (.ref f) = true) (l : K.lookup f = some ⟨oc, od, .func (PySem.W.fnOf "__init__" q (defArgs st) (defBody st) (defScope st) .none kV doc pm an cdv ct), osl⟩) (c : PySem.W.codeIn K cdv q = true) (k : PySem.W.keepIn K (.ref f) = true)
    (m : PySem.W.makesIn K C = true) (kc : PySem.W.keepIn K (.ref C) = true) (b : ∀ {fd : FuncData}, Fun K "__init__" q st f fd → Binds K fd ps []) : IniAt K mg x q C st ps := ⟨f, _, fun_mk l c k, ⟨m, a, i, kc⟩, PySem.W.mg_of X G g, b (fun_mk l c k)⟩
theorem e_cls {C : Addr} (pg : PySem.W.plainGet K C Str.empty = true) (hd : PySem.W.hasDictIn K C = true) (po : PySem.W.plainOver K C = true) (sa : PySem.W.findIn K (.ref C) "__setattr__" = some (some (.builtin "object.__setattr__"))) : Cls K C := ⟨pg, hd, po, sa⟩
theorem e_no {C : Addr} {fs : List Str} (h : ∀ f ∈ fs, PySem.W.findIn K (.ref C) f = some none) : ∀ f ∈ fs, NoAttr K C f := h
theorem no_nil {C : Addr} : ∀ f ∈ ([] : List Str), PySem.W.findIn K (.ref C) f = some none := fun _ z => (by cases z)
theorem no_cons {C : Addr} {f : Str} {fs : List Str} (a : PySem.W.findIn K (.ref C) f = some none) (r : ∀ f ∈ fs, PySem.W.findIn K (.ref C) f = some none) : ∀ g ∈ f :: fs, PySem.W.findIn K (.ref C) g = some none := fun g hg => by
  rcases List.mem_cons.mp hg with e | e
  · rw [e]
    exact a
  · exact r g e
theorem e_int {x : Str} {n : Int} {t : Tok} (X : K.In h) (G : h.Ns mainGlobals mg) (a : PySem.W.nsIn K mainGlobals x = some (some (.int n t))) : IntAt mg x n := ⟨t, PySem.W.mg_of X G a⟩
theorem e_str {x z : Str} {t : Tok} (X : K.In h) (G : h.Ns mainGlobals mg) (a : PySem.W.nsIn K mainGlobals x = some (some (.str z t))) : StrAt mg x z := ⟨t, PySem.W.mg_of X G a⟩
theorem e_tup {x : Str} {xs : List V} {a : Addr} {od : Option Addr} {its : Array Value} {n : Nat} {sl : Array (Option Value)} (X : K.In h) (G : h.Ns mainGlobals mg) (e : PySem.W.nsIn K mainGlobals x = some (some (.ref a))) (l : K.lookup a = some ⟨.type "tuple", od, .seq its n, sl⟩)
    (z : its.size ≤ sizeLine) (v : Vals xs its.toList) : TupAt K mg x xs := ⟨a, PySem.W.mg_of X G e, fun H => .inr ⟨_, its, n, l, rfl, rfl, z, v⟩⟩
theorem e_none {x : Str} (X : K.In h) (G : h.Ns mainGlobals mg) (e : PySem.W.nsIn K mainGlobals x = some none) : mg x = none := PySem.W.mg_none_of X G e
theorem e_same {S : Addr} (h1 : PySem.W.subIn K (.ref S) (.type "BaseException") = some true) (h2 : PySem.W.isClsIn K S = true) (h3 : PySem.W.typeIn K (.ref S) = some (.type "type")) (h4 : PySem.W.subIn K (.ref S) (.ref S) = some true) : PySem.W.exmOne K (.ref S) (.ref S) = some true := by
  have e1 : (PySem.W.subIn K (.ref S) (.type "BaseException") == some true) = true := by rw [h1] <;> rfl
  have e2 : ((PySem.W.clsIn K S).isSome && PySem.W.typeIn K (.ref S) == some (.type "type")) = true := by
    rw [show (PySem.W.clsIn K S).isSome = true from h2, h3] <;> rfl
  show (if (PySem.W.subIn K (.ref S) (.type "BaseException") == some true) = true then (if ((PySem.W.clsIn K S).isSome && PySem.W.typeIn K (.ref S) == some (.type "type")) = true then PySem.W.subIn K (.ref S) (.ref S) else none) else none) = some true
  rw [if_pos e1, if_pos e2, h4]
theorem e_flt {C f : Addr} {st : Stmt} {nm q : Str} {N : Addr} {bs : List Value} {sn : List Str} {sub : List Value} {ab : Bool} {col : Option Bool} {dd : Option Addr} {k0 k1 k2 k3 k5 : Option Value}
    {oc : Value} {od an : Option Addr} {osl : Array (Option Value)} {kV doc pm cdv ct : Value} (X : K.In h) (G : h.Ns mainGlobals mg) (g : PySem.W.nsIn K mainGlobals "Fault" = some (some (.ref C)))
    (x : K.lookup C = some (excClassObj nm q C N bs xTail true sn sub ab col dd k0 k1 k2 k3 k5 "Exception.__new__")) (sa : PySem.W.findIn K (.ref C) "__setattr__" = some (some (.builtin "object.__setattr__")))
    (up : PySem.W.subIn K (.ref C) (.type "BaseException") = some true) (ty : PySem.W.typeIn K (.ref C) = some (.type "type")) (kp : PySem.W.keepIn K (.ref C) = true)
    (ga : PySem.W.findIn K (.ref C) "__getattribute__" = some (some (.builtin "BaseException.__getattribute__"))) (gg : PySem.W.findIn K (.ref C) "__getattr__" = some none) (hd : PySem.W.hasDictIn K C = true)
    (n1 : PySem.W.findIn K (.ref C) "code" = some none) (n2 : PySem.W.findIn K (.ref C) "place" = some none)
    (a : PySem.W.findIn K (.ref C) "__init__" = some (some (.ref f))) (t : PySem.W.typeIn K (.ref f) = some (.type "function")) (l : K.lookup f = some ⟨oc, od, .func (PySem.W.fnOf "__init__" "Fault.__init__" (defArgs st) (defBody st) (defScope st) .none kV doc pm an cdv ct), osl⟩) (c : PySem.W.codeIn K cdv "Fault.__init__" = true) (k : PySem.W.keepIn K (.ref f) = true)
    (ic : PySem.W.isClsIn K C = true) (ss : PySem.W.subIn K (.ref C) (.ref C) = some true) (b : ∀ {fd : FuncData}, Fun K "__init__" "Fault.__init__" st f fd → Binds K fd ["self", "code", "place"] []) : FltAt K mg C st :=
  ⟨⟨⟨nm, q, N, bs, sn, sub, ab, col, dd, k0, k1, k2, k3, k5, x⟩, sa, up, ty, kp⟩, ⟨ga, gg, up, hd⟩, PySem.W.mg_of X G g, n1, n2, ⟨f, _, fun_mk l c k, a, t, b (fun_mk l c k)⟩, e_same up ic ty ss⟩
end
end SK
set_option Elab.async false
set_option linter.all false
set_option maxRecDepth 100000
set_option maxHeartbeats 20000000
namespace SK
open PySem PySem.Spec PyProof.Rows L2
/-- the call's promise, whatever the classes' places -/
def sp_ans (K : PySem.W.Frag) : Sp := sp_answers ⟨0, 0, 0, 0, 0, 0, 0, 0, 0⟩ K
theorem fin {P : Program} {w : World} {K : PySem.W.Frag} {h : Heap} {mg : Str → Option Value} {fa : Addr} (X : K.In h) (G : h.Ns mainGlobals mg) (hfa : mg "answers" = some (.ref fa))
    {CAddress : Addr}
    {CDeed : Addr}
    {CCommand : Addr}
    {CToken : Addr}
    {CLineRun : Addr}
    {COutcome : Addr}
    {CReader : Addr}
    {CHolder : Addr}
    {CFault : Addr}
    {f_Address_init : Addr} {od_Address_init an_Address_init : Option Addr} {sl_Address_init : Array (Option Value)} {oc_Address_init kV_Address_init dc_Address_init pm_Address_init cd_Address_init ct_Address_init : Value}
    {f_Deed_init : Addr} {od_Deed_init an_Deed_init : Option Addr} {sl_Deed_init : Array (Option Value)} {oc_Deed_init kV_Deed_init dc_Deed_init pm_Deed_init cd_Deed_init ct_Deed_init : Value}
    {f_Command_init : Addr} {od_Command_init an_Command_init : Option Addr} {sl_Command_init : Array (Option Value)} {oc_Command_init kV_Command_init dc_Command_init pm_Command_init cd_Command_init ct_Command_init : Value}
    {f_everywhere : Addr} {od_everywhere an_everywhere : Option Addr} {sl_everywhere : Array (Option Value)} {oc_everywhere kV_everywhere dc_everywhere pm_everywhere cd_everywhere ct_everywhere : Value}
    {f_never_done : Addr} {od_never_done an_never_done : Option Addr} {sl_never_done : Array (Option Value)} {oc_never_done kV_never_done dc_never_done pm_never_done cd_never_done ct_never_done : Value}
    {f_without : Addr} {od_without an_without : Option Addr} {sl_without : Array (Option Value)} {oc_without kV_without dc_without pm_without cd_without ct_without : Value}
    {f_taken_out : Addr} {od_taken_out an_taken_out : Option Addr} {sl_taken_out : Array (Option Value)} {oc_taken_out kV_taken_out dc_taken_out pm_taken_out cd_taken_out ct_taken_out : Value}
    {f_turned : Addr} {od_turned an_turned : Option Addr} {sl_turned : Array (Option Value)} {oc_turned kV_turned dc_turned pm_turned cd_turned ct_turned : Value}
    {f_has_skip : Addr} {od_has_skip an_has_skip : Option Addr} {sl_has_skip : Array (Option Value)} {oc_has_skip kV_has_skip dc_has_skip pm_has_skip cd_has_skip ct_has_skip : Value}
    {f_form_of : Addr} {od_form_of an_form_of : Option Addr} {sl_form_of : Array (Option Value)} {oc_form_of kV_form_of dc_form_of pm_form_of cd_form_of ct_form_of : Value}
    {f_command_form : Addr} {od_command_form an_command_form : Option Addr} {sl_command_form : Array (Option Value)} {oc_command_form kV_command_form dc_command_form pm_command_form cd_command_form ct_command_form : Value}
    {f_address_words : Addr} {od_address_words an_address_words : Option Addr} {sl_address_words : Array (Option Value)} {oc_address_words kV_address_words dc_address_words pm_address_words cd_address_words ct_address_words : Value}
    {f_deed_words : Addr} {od_deed_words an_deed_words : Option Addr} {sl_deed_words : Array (Option Value)} {oc_deed_words kV_deed_words dc_deed_words pm_deed_words cd_deed_words ct_deed_words : Value}
    {f_Token_init : Addr} {od_Token_init an_Token_init : Option Addr} {sl_Token_init : Array (Option Value)} {oc_Token_init kV_Token_init dc_Token_init pm_Token_init cd_Token_init ct_Token_init : Value}
    {f_tokens_of : Addr} {od_tokens_of an_tokens_of : Option Addr} {sl_tokens_of : Array (Option Value)} {oc_tokens_of kV_tokens_of dc_tokens_of pm_tokens_of cd_tokens_of ct_tokens_of : Value}
    {f_behind_blanks : Addr} {od_behind_blanks an_behind_blanks : Option Addr} {sl_behind_blanks : Array (Option Value)} {oc_behind_blanks kV_behind_blanks dc_behind_blanks pm_behind_blanks cd_behind_blanks ct_behind_blanks : Value}
    {f_behind_remark : Addr} {od_behind_remark an_behind_remark : Option Addr} {sl_behind_remark : Array (Option Value)} {oc_behind_remark kV_behind_remark dc_behind_remark pm_behind_remark cd_behind_remark ct_behind_remark : Value}
    {f_token_at : Addr} {od_token_at an_token_at : Option Addr} {sl_token_at : Array (Option Value)} {oc_token_at kV_token_at dc_token_at pm_token_at cd_token_at ct_token_at : Value}
    {f_is_letter : Addr} {od_is_letter an_is_letter : Option Addr} {sl_is_letter : Array (Option Value)} {oc_is_letter kV_is_letter dc_is_letter pm_is_letter cd_is_letter ct_is_letter : Value}
    {f_is_digit : Addr} {od_is_digit an_is_digit : Option Addr} {sl_is_digit : Array (Option Value)} {oc_is_digit kV_is_digit dc_is_digit pm_is_digit cd_is_digit ct_is_digit : Value}
    {f_word_at : Addr} {od_word_at an_word_at : Option Addr} {sl_word_at : Array (Option Value)} {oc_word_at kV_word_at dc_word_at pm_word_at cd_word_at ct_word_at : Value}
    {f_text_of : Addr} {od_text_of an_text_of : Option Addr} {sl_text_of : Array (Option Value)} {oc_text_of kV_text_of dc_text_of pm_text_of cd_text_of ct_text_of : Value}
    {f_number_at : Addr} {od_number_at an_number_at : Option Addr} {sl_number_at : Array (Option Value)} {oc_number_at kV_number_at dc_number_at pm_number_at cd_number_at ct_number_at : Value}
    {f_value_of : Addr} {od_value_of an_value_of : Option Addr} {sl_value_of : Array (Option Value)} {oc_value_of kV_value_of dc_value_of pm_value_of cd_value_of ct_value_of : Value}
    {f_is_plain : Addr} {od_is_plain an_is_plain : Option Addr} {sl_is_plain : Array (Option Value)} {oc_is_plain kV_is_plain dc_is_plain pm_is_plain cd_is_plain ct_is_plain : Value}
    {f_looked_for : Addr} {od_looked_for an_looked_for : Option Addr} {sl_looked_for : Array (Option Value)} {oc_looked_for kV_looked_for dc_looked_for pm_looked_for cd_looked_for ct_looked_for : Value}
    {f_own_words : Addr} {od_own_words an_own_words : Option Addr} {sl_own_words : Array (Option Value)} {oc_own_words kV_own_words dc_own_words pm_own_words cd_own_words ct_own_words : Value}
    {f_kinds_of : Addr} {od_kinds_of an_kinds_of : Option Addr} {sl_kinds_of : Array (Option Value)} {oc_kinds_of kV_kinds_of dc_kinds_of pm_kinds_of cd_kinds_of ct_kinds_of : Value}
    {f_free_letter : Addr} {od_free_letter an_free_letter : Option Addr} {sl_free_letter : Array (Option Value)} {oc_free_letter kV_free_letter dc_free_letter pm_free_letter cd_free_letter ct_free_letter : Value}
    {f_first_lines : Addr} {od_first_lines an_first_lines : Option Addr} {sl_first_lines : Array (Option Value)} {oc_first_lines kV_first_lines dc_first_lines pm_first_lines cd_first_lines ct_first_lines : Value}
    {f_beginnings_of : Addr} {od_beginnings_of an_beginnings_of : Option Addr} {sl_beginnings_of : Array (Option Value)} {oc_beginnings_of kV_beginnings_of dc_beginnings_of pm_beginnings_of cd_beginnings_of ct_beginnings_of : Value}
    {f_words_had : Addr} {od_words_had an_words_had : Option Addr} {sl_words_had : Array (Option Value)} {oc_words_had kV_words_had dc_words_had pm_words_had cd_words_had ct_words_had : Value}
    {f_longest_beginning : Addr} {od_longest_beginning an_longest_beginning : Option Addr} {sl_longest_beginning : Array (Option Value)} {oc_longest_beginning kV_longest_beginning dc_longest_beginning pm_longest_beginning cd_longest_beginning ct_longest_beginning : Value}
    {f_LineRun_init : Addr} {od_LineRun_init an_LineRun_init : Option Addr} {sl_LineRun_init : Array (Option Value)} {oc_LineRun_init kV_LineRun_init dc_LineRun_init pm_LineRun_init cd_LineRun_init ct_LineRun_init : Value}
    {f_LineRun_coming : Addr} {od_LineRun_coming an_LineRun_coming : Option Addr} {sl_LineRun_coming : Array (Option Value)} {oc_LineRun_coming kV_LineRun_coming dc_LineRun_coming pm_LineRun_coming cd_LineRun_coming ct_LineRun_coming : Value}
    {f_line_run : Addr} {od_line_run an_line_run : Option Addr} {sl_line_run : Array (Option Value)} {oc_line_run kV_line_run dc_line_run pm_line_run cd_line_run ct_line_run : Value}
    {f_holds : Addr} {od_holds an_holds : Option Addr} {sl_holds : Array (Option Value)} {oc_holds kV_holds dc_holds pm_holds cd_holds ct_holds : Value}
    {f_holds_without_nots : Addr} {od_holds_without_nots an_holds_without_nots : Option Addr} {sl_holds_without_nots : Array (Option Value)} {oc_holds_without_nots kV_holds_without_nots dc_holds_without_nots pm_holds_without_nots cd_holds_without_nots ct_holds_without_nots : Value}
    {f_do_deed : Addr} {od_do_deed an_do_deed : Option Addr} {sl_do_deed : Array (Option Value)} {oc_do_deed kV_do_deed dc_do_deed pm_do_deed cd_do_deed ct_do_deed : Value}
    {f_Outcome_init : Addr} {od_Outcome_init an_Outcome_init : Option Addr} {sl_Outcome_init : Array (Option Value)} {oc_Outcome_init kV_Outcome_init dc_Outcome_init pm_Outcome_init cd_Outcome_init ct_Outcome_init : Value}
    {f_all_places : Addr} {od_all_places an_all_places : Option Addr} {sl_all_places : Array (Option Value)} {oc_all_places kV_all_places dc_all_places pm_all_places cd_all_places ct_all_places : Value}
    {f_all_outcomes : Addr} {od_all_outcomes an_all_outcomes : Option Addr} {sl_all_outcomes : Array (Option Value)} {oc_all_outcomes kV_all_outcomes dc_all_outcomes pm_all_outcomes cd_all_outcomes ct_all_outcomes : Value}
    {f_where_done : Addr} {od_where_done an_where_done : Option Addr} {sl_where_done : Array (Option Value)} {oc_where_done kV_where_done dc_where_done pm_where_done cd_where_done ct_where_done : Value}
    {f_first_unlike : Addr} {od_first_unlike an_first_unlike : Option Addr} {sl_first_unlike : Array (Option Value)} {oc_first_unlike kV_first_unlike dc_first_unlike pm_first_unlike cd_first_unlike ct_first_unlike : Value}
    {f_numbers_of : Addr} {od_numbers_of an_numbers_of : Option Addr} {sl_numbers_of : Array (Option Value)} {oc_numbers_of kV_numbers_of dc_numbers_of pm_numbers_of cd_numbers_of ct_numbers_of : Value}
    {f_first_unsafe : Addr} {od_first_unsafe an_first_unsafe : Option Addr} {sl_first_unsafe : Array (Option Value)} {oc_first_unsafe kV_first_unsafe dc_first_unsafe pm_first_unsafe cd_first_unsafe ct_first_unsafe : Value}
    {f_Reader_init : Addr} {od_Reader_init an_Reader_init : Option Addr} {sl_Reader_init : Array (Option Value)} {oc_Reader_init kV_Reader_init dc_Reader_init pm_Reader_init cd_Reader_init ct_Reader_init : Value}
    {f_Reader_here : Addr} {od_Reader_here an_Reader_here : Option Addr} {sl_Reader_here : Array (Option Value)} {oc_Reader_here kV_Reader_here dc_Reader_here pm_Reader_here cd_Reader_here ct_Reader_here : Value}
    {f_Reader_stands : Addr} {od_Reader_stands an_Reader_stands : Option Addr} {sl_Reader_stands : Array (Option Value)} {oc_Reader_stands kV_Reader_stands dc_Reader_stands pm_Reader_stands cd_Reader_stands ct_Reader_stands : Value}
    {f_Reader_take_kind : Addr} {od_Reader_take_kind an_Reader_take_kind : Option Addr} {sl_Reader_take_kind : Array (Option Value)} {oc_Reader_take_kind kV_Reader_take_kind dc_Reader_take_kind pm_Reader_take_kind cd_Reader_take_kind ct_Reader_take_kind : Value}
    {f_Reader_take_word : Addr} {od_Reader_take_word an_Reader_take_word : Option Addr} {sl_Reader_take_word : Array (Option Value)} {oc_Reader_take_word kV_Reader_take_word dc_Reader_take_word pm_Reader_take_word cd_Reader_take_word ct_Reader_take_word : Value}
    {f_Reader_take_letters : Addr} {od_Reader_take_letters an_Reader_take_letters : Option Addr} {sl_Reader_take_letters : Array (Option Value)} {oc_Reader_take_letters kV_Reader_take_letters dc_Reader_take_letters pm_Reader_take_letters cd_Reader_take_letters ct_Reader_take_letters : Value}
    {f_Reader_take_number : Addr} {od_Reader_take_number an_Reader_take_number : Option Addr} {sl_Reader_take_number : Array (Option Value)} {oc_Reader_take_number kV_Reader_take_number dc_Reader_take_number pm_Reader_take_number cd_Reader_take_number ct_Reader_take_number : Value}
    {f_commands_of : Addr} {od_commands_of an_commands_of : Option Addr} {sl_commands_of : Array (Option Value)} {oc_commands_of kV_commands_of dc_commands_of pm_commands_of cd_commands_of ct_commands_of : Value}
    {f_read_command : Addr} {od_read_command an_read_command : Option Addr} {sl_read_command : Array (Option Value)} {oc_read_command kV_read_command dc_read_command pm_read_command cd_read_command ct_read_command : Value}
    {f_read_address : Addr} {od_read_address an_read_address : Option Addr} {sl_read_address : Array (Option Value)} {oc_read_address kV_read_address dc_read_address pm_read_address cd_read_address ct_read_address : Value}
    {f_read_nots : Addr} {od_read_nots an_read_nots : Option Addr} {sl_read_nots : Array (Option Value)} {oc_read_nots kV_read_nots dc_read_nots pm_read_nots cd_read_nots ct_read_nots : Value}
    {f_read_deed : Addr} {od_read_deed an_read_deed : Option Addr} {sl_read_deed : Array (Option Value)} {oc_read_deed kV_read_deed dc_read_deed pm_read_deed cd_read_deed ct_read_deed : Value}
    {f_read_other : Addr} {od_read_other an_read_other : Option Addr} {sl_read_other : Array (Option Value)} {oc_read_other kV_read_other dc_read_other pm_read_other cd_read_other ct_read_other : Value}
    {f_Holder_init : Addr} {od_Holder_init an_Holder_init : Option Addr} {sl_Holder_init : Array (Option Value)} {oc_Holder_init kV_Holder_init dc_Holder_init pm_Holder_init cd_Holder_init ct_Holder_init : Value}
    {f_Holder_hold : Addr} {od_Holder_hold an_Holder_hold : Option Addr} {sl_Holder_hold : Array (Option Value)} {oc_Holder_hold kV_Holder_hold dc_Holder_hold pm_Holder_hold cd_Holder_hold ct_Holder_hold : Value}
    {f_Holder_load : Addr} {od_Holder_load an_Holder_load : Option Addr} {sl_Holder_load : Array (Option Value)} {oc_Holder_load kV_Holder_load dc_Holder_load pm_Holder_load cd_Holder_load ct_Holder_load : Value}
    {f_Holder_shown : Addr} {od_Holder_shown an_Holder_shown : Option Addr} {sl_Holder_shown : Array (Option Value)} {oc_Holder_shown kV_Holder_shown dc_Holder_shown pm_Holder_shown cd_Holder_shown ct_Holder_shown : Value}
    {f_Holder_kinds : Addr} {od_Holder_kinds an_Holder_kinds : Option Addr} {sl_Holder_kinds : Array (Option Value)} {oc_Holder_kinds kV_Holder_kinds dc_Holder_kinds pm_Holder_kinds cd_Holder_kinds ct_Holder_kinds : Value}
    {f_Holder_can : Addr} {od_Holder_can an_Holder_can : Option Addr} {sl_Holder_can : Array (Option Value)} {oc_Holder_can kV_Holder_can dc_Holder_can pm_Holder_can cd_Holder_can ct_Holder_can : Value}
    {f_Holder_matters : Addr} {od_Holder_matters an_Holder_matters : Option Addr} {sl_Holder_matters : Array (Option Value)} {oc_Holder_matters kV_Holder_matters dc_Holder_matters pm_Holder_matters cd_Holder_matters ct_Holder_matters : Value}
    {f_Holder_idle : Addr} {od_Holder_idle an_Holder_idle : Option Addr} {sl_Holder_idle : Array (Option Value)} {oc_Holder_idle kV_Holder_idle dc_Holder_idle pm_Holder_idle cd_Holder_idle ct_Holder_idle : Value}
    {f_Holder_turn : Addr} {od_Holder_turn an_Holder_turn : Option Addr} {sl_Holder_turn : Array (Option Value)} {oc_Holder_turn kV_Holder_turn dc_Holder_turn pm_Holder_turn cd_Holder_turn ct_Holder_turn : Value}
    {f_Holder_lines : Addr} {od_Holder_lines an_Holder_lines : Option Addr} {sl_Holder_lines : Array (Option Value)} {oc_Holder_lines kV_Holder_lines dc_Holder_lines pm_Holder_lines cd_Holder_lines ct_Holder_lines : Value}
    {f_Holder_safe : Addr} {od_Holder_safe an_Holder_safe : Option Addr} {sl_Holder_safe : Array (Option Value)} {oc_Holder_safe kV_Holder_safe dc_Holder_safe pm_Holder_safe cd_Holder_safe ct_Holder_safe : Value}
    {f_Holder_prune : Addr} {od_Holder_prune an_Holder_prune : Option Addr} {sl_Holder_prune : Array (Option Value)} {oc_Holder_prune kV_Holder_prune dc_Holder_prune pm_Holder_prune cd_Holder_prune ct_Holder_prune : Value}
    {f_Holder_has_command : Addr} {od_Holder_has_command an_Holder_has_command : Option Addr} {sl_Holder_has_command : Array (Option Value)} {oc_Holder_has_command kV_Holder_has_command dc_Holder_has_command pm_Holder_has_command cd_Holder_has_command ct_Holder_has_command : Value}
    {f_Holder_first_mattering : Addr} {od_Holder_first_mattering an_Holder_first_mattering : Option Addr} {sl_Holder_first_mattering : Array (Option Value)} {oc_Holder_first_mattering kV_Holder_first_mattering dc_Holder_first_mattering pm_Holder_first_mattering cd_Holder_first_mattering ct_Holder_first_mattering : Value}
    {f_Holder_first_idle : Addr} {od_Holder_first_idle an_Holder_first_idle : Option Addr} {sl_Holder_first_idle : Array (Option Value)} {oc_Holder_first_idle kV_Holder_first_idle dc_Holder_first_idle pm_Holder_first_idle cd_Holder_first_idle ct_Holder_first_idle : Value}
    {f_answers : Addr} {od_answers an_answers : Option Addr} {sl_answers : Array (Option Value)} {oc_answers kV_answers dc_answers pm_answers cd_answers ct_answers : Value}
    {f_behind_call : Addr} {od_behind_call an_behind_call : Option Addr} {sl_behind_call : Array (Option Value)} {oc_behind_call kV_behind_call dc_behind_call pm_behind_call cd_behind_call ct_behind_call : Value}
    {f_answer_of : Addr} {od_answer_of an_answer_of : Option Addr} {sl_answer_of : Array (Option Value)} {oc_answer_of kV_answer_of dc_answer_of pm_answer_of cd_answer_of ct_answer_of : Value}
    {f_answer_of_command : Addr} {od_answer_of_command an_answer_of_command : Option Addr} {sl_answer_of_command : Array (Option Value)} {oc_answer_of_command kV_answer_of_command dc_answer_of_command pm_answer_of_command cd_answer_of_command ct_answer_of_command : Value}
    {f_told_text : Addr} {od_told_text an_told_text : Option Addr} {sl_told_text : Array (Option Value)} {oc_told_text kV_told_text dc_told_text pm_told_text cd_told_text ct_told_text : Value}
    {f_told_place_and_kind : Addr} {od_told_place_and_kind an_told_place_and_kind : Option Addr} {sl_told_place_and_kind : Array (Option Value)} {oc_told_place_and_kind kV_told_place_and_kind dc_told_place_and_kind pm_told_place_and_kind cd_told_place_and_kind ct_told_place_and_kind : Value}
    {nmF qF : Str} {NF : Addr} {bsF : List Value} {snF : List Str} {subF : List Value} {abF : Bool} {colF : Option Bool} {ddF : Option Addr} {k0F k1F k2F k3F k5F : Option Value}
    {f_Fault_init : Addr} {od_Fault_init an_Fault_init : Option Addr} {sl_Fault_init : Array (Option Value)} {oc_Fault_init kV_Fault_init dc_Fault_init pm_Fault_init cd_Fault_init ct_Fault_init : Value}
    {t_LETTERS : Tok}
    {p_BLANKS : Addr} {od_BLANKS : Option Addr} {its_BLANKS : Array Value} {n_BLANKS : Nat} {sl_BLANKS : Array (Option Value)}
    {t_LINE_END : Tok}
    {t_REMARK : Tok}
    {t_SIGN : Tok}
    {t_FIRST_LETTER : Tok}
    {t_FINAL_LETTER : Tok}
    {t_FIRST_DIGIT : Tok}
    {t_FINAL_DIGIT : Tok}
    {t_LONGEST_WORD : Tok}
    {t_GREATEST_NUMBER : Tok}
    {t_LONGEST_NUMBER : Tok}
    {p_DEEDS_NOT_PLAIN : Addr} {od_DEEDS_NOT_PLAIN : Option Addr} {its_DEEDS_NOT_PLAIN : Array Value} {n_DEEDS_NOT_PLAIN : Nat} {sl_DEEDS_NOT_PLAIN : Array (Option Value)}
    {t_MOST_LOOKED_FOR : Tok}
    {t_MOST_LETTERS : Tok}
    {t_LONGEST_LINE : Tok}
    {t_LEAST_FILLED : Tok}
    {t_FINAL_LINE : Tok}
    {t_MOST_BYTES : Tok}
    {t_MOST_COMMANDS : Tok}
    {t_MOST_NOTS : Tok}
    {t_GREATEST_LINE : Tok}
    {t_GREATEST_SKIP : Tok}
    {p_OWN_WORDS : Addr} {od_OWN_WORDS : Option Addr} {its_OWN_WORDS : Array Value} {n_OWN_WORDS : Nat} {sl_OWN_WORDS : Array (Option Value)}
    {p_DEEDS_ALONE : Addr} {od_DEEDS_ALONE : Option Addr} {its_DEEDS_ALONE : Array Value} {n_DEEDS_ALONE : Nat} {sl_DEEDS_ALONE : Array (Option Value)}
    {p_DEEDS_OF_LETTERS : Addr} {od_DEEDS_OF_LETTERS : Option Addr} {its_DEEDS_OF_LETTERS : Array Value} {n_DEEDS_OF_LETTERS : Nat} {sl_DEEDS_OF_LETTERS : Array (Option Value)}
    {p_DEEDS_OF_TWO : Addr} {od_DEEDS_OF_TWO : Option Addr} {its_DEEDS_OF_TWO : Array Value} {n_DEEDS_OF_TWO : Nat} {sl_DEEDS_OF_TWO : Array (Option Value)}
    {t_LOAD : Tok}
    {t_SHOWN : Tok}
    {t_KINDS : Tok}
    {t_CAN : Tok}
    {t_MATTERS : Tok}
    {t_IDLE : Tok}
    {t_TURN : Tok}
    {t_SAFE : Tok}
    {p_CALLS_WITH_A_NUMBER : Addr} {od_CALLS_WITH_A_NUMBER : Option Addr} {its_CALLS_WITH_A_NUMBER : Array Value} {n_CALLS_WITH_A_NUMBER : Nat} {sl_CALLS_WITH_A_NUMBER : Array (Option Value)}
    {p_CALLS_WITH_A_LIST : Addr} {od_CALLS_WITH_A_LIST : Option Addr} {its_CALLS_WITH_A_LIST : Array Value} {n_CALLS_WITH_A_LIST : Nat} {sl_CALLS_WITH_A_LIST : Array (Option Value)}
    {t_NO_SCRIPT : Tok}
    {t_NO_SUCH_COMMAND : Tok}
    {t_HAS_SKIP : Tok}
    {t_NOT_A_LINE : Tok}
    {t_NOT_PLAIN : Tok}
    (gAddress : PySem.W.nsIn K mainGlobals "Address" = some (some (.ref CAddress)))
    (gDeed : PySem.W.nsIn K mainGlobals "Deed" = some (some (.ref CDeed)))
    (gCommand : PySem.W.nsIn K mainGlobals "Command" = some (some (.ref CCommand)))
    (gToken : PySem.W.nsIn K mainGlobals "Token" = some (some (.ref CToken)))
    (gLineRun : PySem.W.nsIn K mainGlobals "LineRun" = some (some (.ref CLineRun)))
    (gOutcome : PySem.W.nsIn K mainGlobals "Outcome" = some (some (.ref COutcome)))
    (gReader : PySem.W.nsIn K mainGlobals "Reader" = some (some (.ref CReader)))
    (gHolder : PySem.W.nsIn K mainGlobals "Holder" = some (some (.ref CHolder)))
    (gFault : PySem.W.nsIn K mainGlobals "Fault" = some (some (.ref CFault)))
    (pgAddress : PySem.W.plainGet K CAddress Str.empty = true)
    (hdAddress : PySem.W.hasDictIn K CAddress = true)
    (poAddress : PySem.W.plainOver K CAddress = true)
    (saAddress : PySem.W.findIn K (.ref CAddress) "__setattr__" = some (some (.builtin "object.__setattr__")))
    (mkAddress : PySem.W.makesIn K CAddress = true)
    (kcAddress : PySem.W.keepIn K (.ref CAddress) = true)
    (n_Address_nots : PySem.W.findIn K (.ref CAddress) "nots" = some none)
    (n_Address_name : PySem.W.findIn K (.ref CAddress) "name" = some none)
    (n_Address_first : PySem.W.findIn K (.ref CAddress) "first" = some none)
    (n_Address_final : PySem.W.findIn K (.ref CAddress) "final" = some none)
    (n_Address_letters : PySem.W.findIn K (.ref CAddress) "letters" = some none)
    (pgDeed : PySem.W.plainGet K CDeed Str.empty = true)
    (hdDeed : PySem.W.hasDictIn K CDeed = true)
    (poDeed : PySem.W.plainOver K CDeed = true)
    (saDeed : PySem.W.findIn K (.ref CDeed) "__setattr__" = some (some (.builtin "object.__setattr__")))
    (mkDeed : PySem.W.makesIn K CDeed = true)
    (kcDeed : PySem.W.keepIn K (.ref CDeed) = true)
    (n_Deed_name : PySem.W.findIn K (.ref CDeed) "name" = some none)
    (n_Deed_letters : PySem.W.findIn K (.ref CDeed) "letters" = some none)
    (n_Deed_other : PySem.W.findIn K (.ref CDeed) "other" = some none)
    (n_Deed_number : PySem.W.findIn K (.ref CDeed) "number" = some none)
    (pgCommand : PySem.W.plainGet K CCommand Str.empty = true)
    (hdCommand : PySem.W.hasDictIn K CCommand = true)
    (poCommand : PySem.W.plainOver K CCommand = true)
    (saCommand : PySem.W.findIn K (.ref CCommand) "__setattr__" = some (some (.builtin "object.__setattr__")))
    (mkCommand : PySem.W.makesIn K CCommand = true)
    (kcCommand : PySem.W.keepIn K (.ref CCommand) = true)
    (n_Command_address : PySem.W.findIn K (.ref CCommand) "address" = some none)
    (n_Command_deed : PySem.W.findIn K (.ref CCommand) "deed" = some none)
    (pgToken : PySem.W.plainGet K CToken Str.empty = true)
    (hdToken : PySem.W.hasDictIn K CToken = true)
    (poToken : PySem.W.plainOver K CToken = true)
    (saToken : PySem.W.findIn K (.ref CToken) "__setattr__" = some (some (.builtin "object.__setattr__")))
    (mkToken : PySem.W.makesIn K CToken = true)
    (kcToken : PySem.W.keepIn K (.ref CToken) = true)
    (n_Token_kind : PySem.W.findIn K (.ref CToken) "kind" = some none)
    (n_Token_value : PySem.W.findIn K (.ref CToken) "value" = some none)
    (n_Token_place : PySem.W.findIn K (.ref CToken) "place" = some none)
    (n_Token_behind : PySem.W.findIn K (.ref CToken) "behind" = some none)
    (pgLineRun : PySem.W.plainGet K CLineRun Str.empty = true)
    (hdLineRun : PySem.W.hasDictIn K CLineRun = true)
    (poLineRun : PySem.W.plainOver K CLineRun = true)
    (saLineRun : PySem.W.findIn K (.ref CLineRun) "__setattr__" = some (some (.builtin "object.__setattr__")))
    (mkLineRun : PySem.W.makesIn K CLineRun = true)
    (kcLineRun : PySem.W.keepIn K (.ref CLineRun) = true)
    (n_LineRun_line : PySem.W.findIn K (.ref CLineRun) "line" = some none)
    (n_LineRun_done : PySem.W.findIn K (.ref CLineRun) "done" = some none)
    (n_LineRun_ahead : PySem.W.findIn K (.ref CLineRun) "ahead" = some none)
    (n_LineRun_behind : PySem.W.findIn K (.ref CLineRun) "behind" = some none)
    (n_LineRun_left_out : PySem.W.findIn K (.ref CLineRun) "left_out" = some none)
    (n_LineRun_deleted : PySem.W.findIn K (.ref CLineRun) "deleted" = some none)
    (n_LineRun_over : PySem.W.findIn K (.ref CLineRun) "over" = some none)
    (pgOutcome : PySem.W.plainGet K COutcome Str.empty = true)
    (hdOutcome : PySem.W.hasDictIn K COutcome = true)
    (poOutcome : PySem.W.plainOver K COutcome = true)
    (saOutcome : PySem.W.findIn K (.ref COutcome) "__setattr__" = some (some (.builtin "object.__setattr__")))
    (mkOutcome : PySem.W.makesIn K COutcome = true)
    (kcOutcome : PySem.W.keepIn K (.ref COutcome) = true)
    (n_Outcome_place : PySem.W.findIn K (.ref COutcome) "place" = some none)
    (n_Outcome_kind : PySem.W.findIn K (.ref COutcome) "kind" = some none)
    (n_Outcome_run : PySem.W.findIn K (.ref COutcome) "run" = some none)
    (pgReader : PySem.W.plainGet K CReader Str.empty = true)
    (hdReader : PySem.W.hasDictIn K CReader = true)
    (poReader : PySem.W.plainOver K CReader = true)
    (saReader : PySem.W.findIn K (.ref CReader) "__setattr__" = some (some (.builtin "object.__setattr__")))
    (mkReader : PySem.W.makesIn K CReader = true)
    (kcReader : PySem.W.keepIn K (.ref CReader) = true)
    (n_Reader_tokens : PySem.W.findIn K (.ref CReader) "tokens" = some none)
    (n_Reader_at : PySem.W.findIn K (.ref CReader) "at" = some none)
    (pgHolder : PySem.W.plainGet K CHolder Str.empty = true)
    (hdHolder : PySem.W.hasDictIn K CHolder = true)
    (poHolder : PySem.W.plainOver K CHolder = true)
    (saHolder : PySem.W.findIn K (.ref CHolder) "__setattr__" = some (some (.builtin "object.__setattr__")))
    (mkHolder : PySem.W.makesIn K CHolder = true)
    (kcHolder : PySem.W.keepIn K (.ref CHolder) = true)
    (n_Holder_commands : PySem.W.findIn K (.ref CHolder) "commands" = some none)
    (n_Holder_kinds_held : PySem.W.findIn K (.ref CHolder) "kinds_held" = some none)
    (n_Holder_outcomes : PySem.W.findIn K (.ref CHolder) "outcomes" = some none)
    (a_Address_init : PySem.W.findIn K (.ref CAddress) "__init__" = some (some (.ref f_Address_init)))
    (i_Address_init : PySem.W.isFn K (.ref f_Address_init) = true)
    (l_Address_init : K.lookup f_Address_init = some ⟨oc_Address_init, od_Address_init, .func (PySem.W.fnOf "__init__" "Address.__init__" (defArgs s_Address_init) (defBody s_Address_init) (defScope s_Address_init) .none kV_Address_init dc_Address_init pm_Address_init an_Address_init cd_Address_init ct_Address_init), sl_Address_init⟩)
    (c_Address_init : PySem.W.codeIn K cd_Address_init "Address.__init__" = true)
    (k_Address_init : PySem.W.keepIn K (.ref f_Address_init) = true)
    (a_Deed_init : PySem.W.findIn K (.ref CDeed) "__init__" = some (some (.ref f_Deed_init)))
    (i_Deed_init : PySem.W.isFn K (.ref f_Deed_init) = true)
    (l_Deed_init : K.lookup f_Deed_init = some ⟨oc_Deed_init, od_Deed_init, .func (PySem.W.fnOf "__init__" "Deed.__init__" (defArgs s_Deed_init) (defBody s_Deed_init) (defScope s_Deed_init) .none kV_Deed_init dc_Deed_init pm_Deed_init an_Deed_init cd_Deed_init ct_Deed_init), sl_Deed_init⟩)
    (c_Deed_init : PySem.W.codeIn K cd_Deed_init "Deed.__init__" = true)
    (k_Deed_init : PySem.W.keepIn K (.ref f_Deed_init) = true)
    (a_Command_init : PySem.W.findIn K (.ref CCommand) "__init__" = some (some (.ref f_Command_init)))
    (i_Command_init : PySem.W.isFn K (.ref f_Command_init) = true)
    (l_Command_init : K.lookup f_Command_init = some ⟨oc_Command_init, od_Command_init, .func (PySem.W.fnOf "__init__" "Command.__init__" (defArgs s_Command_init) (defBody s_Command_init) (defScope s_Command_init) .none kV_Command_init dc_Command_init pm_Command_init an_Command_init cd_Command_init ct_Command_init), sl_Command_init⟩)
    (c_Command_init : PySem.W.codeIn K cd_Command_init "Command.__init__" = true)
    (k_Command_init : PySem.W.keepIn K (.ref f_Command_init) = true)
    (a_everywhere : PySem.W.nsIn K mainGlobals "everywhere" = some (some (.ref f_everywhere)))
    (l_everywhere : K.lookup f_everywhere = some ⟨oc_everywhere, od_everywhere, .func (PySem.W.fnOf "everywhere" "everywhere" (defArgs s_everywhere) (defBody s_everywhere) (defScope s_everywhere) .none kV_everywhere dc_everywhere pm_everywhere an_everywhere cd_everywhere ct_everywhere), sl_everywhere⟩)
    (c_everywhere : PySem.W.codeIn K cd_everywhere "everywhere" = true)
    (k_everywhere : PySem.W.keepIn K (.ref f_everywhere) = true)
    (a_never_done : PySem.W.nsIn K mainGlobals "never_done" = some (some (.ref f_never_done)))
    (l_never_done : K.lookup f_never_done = some ⟨oc_never_done, od_never_done, .func (PySem.W.fnOf "never_done" "never_done" (defArgs s_never_done) (defBody s_never_done) (defScope s_never_done) .none kV_never_done dc_never_done pm_never_done an_never_done cd_never_done ct_never_done), sl_never_done⟩)
    (c_never_done : PySem.W.codeIn K cd_never_done "never_done" = true)
    (k_never_done : PySem.W.keepIn K (.ref f_never_done) = true)
    (a_without : PySem.W.nsIn K mainGlobals "without" = some (some (.ref f_without)))
    (l_without : K.lookup f_without = some ⟨oc_without, od_without, .func (PySem.W.fnOf "without" "without" (defArgs s_without) (defBody s_without) (defScope s_without) .none kV_without dc_without pm_without an_without cd_without ct_without), sl_without⟩)
    (c_without : PySem.W.codeIn K cd_without "without" = true)
    (k_without : PySem.W.keepIn K (.ref f_without) = true)
    (a_taken_out : PySem.W.nsIn K mainGlobals "taken_out" = some (some (.ref f_taken_out)))
    (l_taken_out : K.lookup f_taken_out = some ⟨oc_taken_out, od_taken_out, .func (PySem.W.fnOf "taken_out" "taken_out" (defArgs s_taken_out) (defBody s_taken_out) (defScope s_taken_out) .none kV_taken_out dc_taken_out pm_taken_out an_taken_out cd_taken_out ct_taken_out), sl_taken_out⟩)
    (c_taken_out : PySem.W.codeIn K cd_taken_out "taken_out" = true)
    (k_taken_out : PySem.W.keepIn K (.ref f_taken_out) = true)
    (a_turned : PySem.W.nsIn K mainGlobals "turned" = some (some (.ref f_turned)))
    (l_turned : K.lookup f_turned = some ⟨oc_turned, od_turned, .func (PySem.W.fnOf "turned" "turned" (defArgs s_turned) (defBody s_turned) (defScope s_turned) .none kV_turned dc_turned pm_turned an_turned cd_turned ct_turned), sl_turned⟩)
    (c_turned : PySem.W.codeIn K cd_turned "turned" = true)
    (k_turned : PySem.W.keepIn K (.ref f_turned) = true)
    (a_has_skip : PySem.W.nsIn K mainGlobals "has_skip" = some (some (.ref f_has_skip)))
    (l_has_skip : K.lookup f_has_skip = some ⟨oc_has_skip, od_has_skip, .func (PySem.W.fnOf "has_skip" "has_skip" (defArgs s_has_skip) (defBody s_has_skip) (defScope s_has_skip) .none kV_has_skip dc_has_skip pm_has_skip an_has_skip cd_has_skip ct_has_skip), sl_has_skip⟩)
    (c_has_skip : PySem.W.codeIn K cd_has_skip "has_skip" = true)
    (k_has_skip : PySem.W.keepIn K (.ref f_has_skip) = true)
    (a_form_of : PySem.W.nsIn K mainGlobals "form_of" = some (some (.ref f_form_of)))
    (l_form_of : K.lookup f_form_of = some ⟨oc_form_of, od_form_of, .func (PySem.W.fnOf "form_of" "form_of" (defArgs s_form_of) (defBody s_form_of) (defScope s_form_of) .none kV_form_of dc_form_of pm_form_of an_form_of cd_form_of ct_form_of), sl_form_of⟩)
    (c_form_of : PySem.W.codeIn K cd_form_of "form_of" = true)
    (k_form_of : PySem.W.keepIn K (.ref f_form_of) = true)
    (a_command_form : PySem.W.nsIn K mainGlobals "command_form" = some (some (.ref f_command_form)))
    (l_command_form : K.lookup f_command_form = some ⟨oc_command_form, od_command_form, .func (PySem.W.fnOf "command_form" "command_form" (defArgs s_command_form) (defBody s_command_form) (defScope s_command_form) .none kV_command_form dc_command_form pm_command_form an_command_form cd_command_form ct_command_form), sl_command_form⟩)
    (c_command_form : PySem.W.codeIn K cd_command_form "command_form" = true)
    (k_command_form : PySem.W.keepIn K (.ref f_command_form) = true)
    (a_address_words : PySem.W.nsIn K mainGlobals "address_words" = some (some (.ref f_address_words)))
    (l_address_words : K.lookup f_address_words = some ⟨oc_address_words, od_address_words, .func (PySem.W.fnOf "address_words" "address_words" (defArgs s_address_words) (defBody s_address_words) (defScope s_address_words) .none kV_address_words dc_address_words pm_address_words an_address_words cd_address_words ct_address_words), sl_address_words⟩)
    (c_address_words : PySem.W.codeIn K cd_address_words "address_words" = true)
    (k_address_words : PySem.W.keepIn K (.ref f_address_words) = true)
    (a_deed_words : PySem.W.nsIn K mainGlobals "deed_words" = some (some (.ref f_deed_words)))
    (l_deed_words : K.lookup f_deed_words = some ⟨oc_deed_words, od_deed_words, .func (PySem.W.fnOf "deed_words" "deed_words" (defArgs s_deed_words) (defBody s_deed_words) (defScope s_deed_words) .none kV_deed_words dc_deed_words pm_deed_words an_deed_words cd_deed_words ct_deed_words), sl_deed_words⟩)
    (c_deed_words : PySem.W.codeIn K cd_deed_words "deed_words" = true)
    (k_deed_words : PySem.W.keepIn K (.ref f_deed_words) = true)
    (a_Token_init : PySem.W.findIn K (.ref CToken) "__init__" = some (some (.ref f_Token_init)))
    (i_Token_init : PySem.W.isFn K (.ref f_Token_init) = true)
    (l_Token_init : K.lookup f_Token_init = some ⟨oc_Token_init, od_Token_init, .func (PySem.W.fnOf "__init__" "Token.__init__" (defArgs s_Token_init) (defBody s_Token_init) (defScope s_Token_init) .none kV_Token_init dc_Token_init pm_Token_init an_Token_init cd_Token_init ct_Token_init), sl_Token_init⟩)
    (c_Token_init : PySem.W.codeIn K cd_Token_init "Token.__init__" = true)
    (k_Token_init : PySem.W.keepIn K (.ref f_Token_init) = true)
    (a_tokens_of : PySem.W.nsIn K mainGlobals "tokens_of" = some (some (.ref f_tokens_of)))
    (l_tokens_of : K.lookup f_tokens_of = some ⟨oc_tokens_of, od_tokens_of, .func (PySem.W.fnOf "tokens_of" "tokens_of" (defArgs s_tokens_of) (defBody s_tokens_of) (defScope s_tokens_of) .none kV_tokens_of dc_tokens_of pm_tokens_of an_tokens_of cd_tokens_of ct_tokens_of), sl_tokens_of⟩)
    (c_tokens_of : PySem.W.codeIn K cd_tokens_of "tokens_of" = true)
    (k_tokens_of : PySem.W.keepIn K (.ref f_tokens_of) = true)
    (a_behind_blanks : PySem.W.nsIn K mainGlobals "behind_blanks" = some (some (.ref f_behind_blanks)))
    (l_behind_blanks : K.lookup f_behind_blanks = some ⟨oc_behind_blanks, od_behind_blanks, .func (PySem.W.fnOf "behind_blanks" "behind_blanks" (defArgs s_behind_blanks) (defBody s_behind_blanks) (defScope s_behind_blanks) .none kV_behind_blanks dc_behind_blanks pm_behind_blanks an_behind_blanks cd_behind_blanks ct_behind_blanks), sl_behind_blanks⟩)
    (c_behind_blanks : PySem.W.codeIn K cd_behind_blanks "behind_blanks" = true)
    (k_behind_blanks : PySem.W.keepIn K (.ref f_behind_blanks) = true)
    (a_behind_remark : PySem.W.nsIn K mainGlobals "behind_remark" = some (some (.ref f_behind_remark)))
    (l_behind_remark : K.lookup f_behind_remark = some ⟨oc_behind_remark, od_behind_remark, .func (PySem.W.fnOf "behind_remark" "behind_remark" (defArgs s_behind_remark) (defBody s_behind_remark) (defScope s_behind_remark) .none kV_behind_remark dc_behind_remark pm_behind_remark an_behind_remark cd_behind_remark ct_behind_remark), sl_behind_remark⟩)
    (c_behind_remark : PySem.W.codeIn K cd_behind_remark "behind_remark" = true)
    (k_behind_remark : PySem.W.keepIn K (.ref f_behind_remark) = true)
    (a_token_at : PySem.W.nsIn K mainGlobals "token_at" = some (some (.ref f_token_at)))
    (l_token_at : K.lookup f_token_at = some ⟨oc_token_at, od_token_at, .func (PySem.W.fnOf "token_at" "token_at" (defArgs s_token_at) (defBody s_token_at) (defScope s_token_at) .none kV_token_at dc_token_at pm_token_at an_token_at cd_token_at ct_token_at), sl_token_at⟩)
    (c_token_at : PySem.W.codeIn K cd_token_at "token_at" = true)
    (k_token_at : PySem.W.keepIn K (.ref f_token_at) = true)
    (a_is_letter : PySem.W.nsIn K mainGlobals "is_letter" = some (some (.ref f_is_letter)))
    (l_is_letter : K.lookup f_is_letter = some ⟨oc_is_letter, od_is_letter, .func (PySem.W.fnOf "is_letter" "is_letter" (defArgs s_is_letter) (defBody s_is_letter) (defScope s_is_letter) .none kV_is_letter dc_is_letter pm_is_letter an_is_letter cd_is_letter ct_is_letter), sl_is_letter⟩)
    (c_is_letter : PySem.W.codeIn K cd_is_letter "is_letter" = true)
    (k_is_letter : PySem.W.keepIn K (.ref f_is_letter) = true)
    (a_is_digit : PySem.W.nsIn K mainGlobals "is_digit" = some (some (.ref f_is_digit)))
    (l_is_digit : K.lookup f_is_digit = some ⟨oc_is_digit, od_is_digit, .func (PySem.W.fnOf "is_digit" "is_digit" (defArgs s_is_digit) (defBody s_is_digit) (defScope s_is_digit) .none kV_is_digit dc_is_digit pm_is_digit an_is_digit cd_is_digit ct_is_digit), sl_is_digit⟩)
    (c_is_digit : PySem.W.codeIn K cd_is_digit "is_digit" = true)
    (k_is_digit : PySem.W.keepIn K (.ref f_is_digit) = true)
    (a_word_at : PySem.W.nsIn K mainGlobals "word_at" = some (some (.ref f_word_at)))
    (l_word_at : K.lookup f_word_at = some ⟨oc_word_at, od_word_at, .func (PySem.W.fnOf "word_at" "word_at" (defArgs s_word_at) (defBody s_word_at) (defScope s_word_at) .none kV_word_at dc_word_at pm_word_at an_word_at cd_word_at ct_word_at), sl_word_at⟩)
    (c_word_at : PySem.W.codeIn K cd_word_at "word_at" = true)
    (k_word_at : PySem.W.keepIn K (.ref f_word_at) = true)
    (a_text_of : PySem.W.nsIn K mainGlobals "text_of" = some (some (.ref f_text_of)))
    (l_text_of : K.lookup f_text_of = some ⟨oc_text_of, od_text_of, .func (PySem.W.fnOf "text_of" "text_of" (defArgs s_text_of) (defBody s_text_of) (defScope s_text_of) .none kV_text_of dc_text_of pm_text_of an_text_of cd_text_of ct_text_of), sl_text_of⟩)
    (c_text_of : PySem.W.codeIn K cd_text_of "text_of" = true)
    (k_text_of : PySem.W.keepIn K (.ref f_text_of) = true)
    (a_number_at : PySem.W.nsIn K mainGlobals "number_at" = some (some (.ref f_number_at)))
    (l_number_at : K.lookup f_number_at = some ⟨oc_number_at, od_number_at, .func (PySem.W.fnOf "number_at" "number_at" (defArgs s_number_at) (defBody s_number_at) (defScope s_number_at) .none kV_number_at dc_number_at pm_number_at an_number_at cd_number_at ct_number_at), sl_number_at⟩)
    (c_number_at : PySem.W.codeIn K cd_number_at "number_at" = true)
    (k_number_at : PySem.W.keepIn K (.ref f_number_at) = true)
    (a_value_of : PySem.W.nsIn K mainGlobals "value_of" = some (some (.ref f_value_of)))
    (l_value_of : K.lookup f_value_of = some ⟨oc_value_of, od_value_of, .func (PySem.W.fnOf "value_of" "value_of" (defArgs s_value_of) (defBody s_value_of) (defScope s_value_of) .none kV_value_of dc_value_of pm_value_of an_value_of cd_value_of ct_value_of), sl_value_of⟩)
    (c_value_of : PySem.W.codeIn K cd_value_of "value_of" = true)
    (k_value_of : PySem.W.keepIn K (.ref f_value_of) = true)
    (a_is_plain : PySem.W.nsIn K mainGlobals "is_plain" = some (some (.ref f_is_plain)))
    (l_is_plain : K.lookup f_is_plain = some ⟨oc_is_plain, od_is_plain, .func (PySem.W.fnOf "is_plain" "is_plain" (defArgs s_is_plain) (defBody s_is_plain) (defScope s_is_plain) .none kV_is_plain dc_is_plain pm_is_plain an_is_plain cd_is_plain ct_is_plain), sl_is_plain⟩)
    (c_is_plain : PySem.W.codeIn K cd_is_plain "is_plain" = true)
    (k_is_plain : PySem.W.keepIn K (.ref f_is_plain) = true)
    (a_looked_for : PySem.W.nsIn K mainGlobals "looked_for" = some (some (.ref f_looked_for)))
    (l_looked_for : K.lookup f_looked_for = some ⟨oc_looked_for, od_looked_for, .func (PySem.W.fnOf "looked_for" "looked_for" (defArgs s_looked_for) (defBody s_looked_for) (defScope s_looked_for) .none kV_looked_for dc_looked_for pm_looked_for an_looked_for cd_looked_for ct_looked_for), sl_looked_for⟩)
    (c_looked_for : PySem.W.codeIn K cd_looked_for "looked_for" = true)
    (k_looked_for : PySem.W.keepIn K (.ref f_looked_for) = true)
    (a_own_words : PySem.W.nsIn K mainGlobals "own_words" = some (some (.ref f_own_words)))
    (l_own_words : K.lookup f_own_words = some ⟨oc_own_words, od_own_words, .func (PySem.W.fnOf "own_words" "own_words" (defArgs s_own_words) (defBody s_own_words) (defScope s_own_words) .none kV_own_words dc_own_words pm_own_words an_own_words cd_own_words ct_own_words), sl_own_words⟩)
    (c_own_words : PySem.W.codeIn K cd_own_words "own_words" = true)
    (k_own_words : PySem.W.keepIn K (.ref f_own_words) = true)
    (a_kinds_of : PySem.W.nsIn K mainGlobals "kinds_of" = some (some (.ref f_kinds_of)))
    (l_kinds_of : K.lookup f_kinds_of = some ⟨oc_kinds_of, od_kinds_of, .func (PySem.W.fnOf "kinds_of" "kinds_of" (defArgs s_kinds_of) (defBody s_kinds_of) (defScope s_kinds_of) .none kV_kinds_of dc_kinds_of pm_kinds_of an_kinds_of cd_kinds_of ct_kinds_of), sl_kinds_of⟩)
    (c_kinds_of : PySem.W.codeIn K cd_kinds_of "kinds_of" = true)
    (k_kinds_of : PySem.W.keepIn K (.ref f_kinds_of) = true)
    (a_free_letter : PySem.W.nsIn K mainGlobals "free_letter" = some (some (.ref f_free_letter)))
    (l_free_letter : K.lookup f_free_letter = some ⟨oc_free_letter, od_free_letter, .func (PySem.W.fnOf "free_letter" "free_letter" (defArgs s_free_letter) (defBody s_free_letter) (defScope s_free_letter) .none kV_free_letter dc_free_letter pm_free_letter an_free_letter cd_free_letter ct_free_letter), sl_free_letter⟩)
    (c_free_letter : PySem.W.codeIn K cd_free_letter "free_letter" = true)
    (k_free_letter : PySem.W.keepIn K (.ref f_free_letter) = true)
    (a_first_lines : PySem.W.nsIn K mainGlobals "first_lines" = some (some (.ref f_first_lines)))
    (l_first_lines : K.lookup f_first_lines = some ⟨oc_first_lines, od_first_lines, .func (PySem.W.fnOf "first_lines" "first_lines" (defArgs s_first_lines) (defBody s_first_lines) (defScope s_first_lines) .none kV_first_lines dc_first_lines pm_first_lines an_first_lines cd_first_lines ct_first_lines), sl_first_lines⟩)
    (c_first_lines : PySem.W.codeIn K cd_first_lines "first_lines" = true)
    (k_first_lines : PySem.W.keepIn K (.ref f_first_lines) = true)
    (a_beginnings_of : PySem.W.nsIn K mainGlobals "beginnings_of" = some (some (.ref f_beginnings_of)))
    (l_beginnings_of : K.lookup f_beginnings_of = some ⟨oc_beginnings_of, od_beginnings_of, .func (PySem.W.fnOf "beginnings_of" "beginnings_of" (defArgs s_beginnings_of) (defBody s_beginnings_of) (defScope s_beginnings_of) .none kV_beginnings_of dc_beginnings_of pm_beginnings_of an_beginnings_of cd_beginnings_of ct_beginnings_of), sl_beginnings_of⟩)
    (c_beginnings_of : PySem.W.codeIn K cd_beginnings_of "beginnings_of" = true)
    (k_beginnings_of : PySem.W.keepIn K (.ref f_beginnings_of) = true)
    (a_words_had : PySem.W.nsIn K mainGlobals "words_had" = some (some (.ref f_words_had)))
    (l_words_had : K.lookup f_words_had = some ⟨oc_words_had, od_words_had, .func (PySem.W.fnOf "words_had" "words_had" (defArgs s_words_had) (defBody s_words_had) (defScope s_words_had) .none kV_words_had dc_words_had pm_words_had an_words_had cd_words_had ct_words_had), sl_words_had⟩)
    (c_words_had : PySem.W.codeIn K cd_words_had "words_had" = true)
    (k_words_had : PySem.W.keepIn K (.ref f_words_had) = true)
    (a_longest_beginning : PySem.W.nsIn K mainGlobals "longest_beginning" = some (some (.ref f_longest_beginning)))
    (l_longest_beginning : K.lookup f_longest_beginning = some ⟨oc_longest_beginning, od_longest_beginning, .func (PySem.W.fnOf "longest_beginning" "longest_beginning" (defArgs s_longest_beginning) (defBody s_longest_beginning) (defScope s_longest_beginning) .none kV_longest_beginning dc_longest_beginning pm_longest_beginning an_longest_beginning cd_longest_beginning ct_longest_beginning), sl_longest_beginning⟩)
    (c_longest_beginning : PySem.W.codeIn K cd_longest_beginning "longest_beginning" = true)
    (k_longest_beginning : PySem.W.keepIn K (.ref f_longest_beginning) = true)
    (a_LineRun_init : PySem.W.findIn K (.ref CLineRun) "__init__" = some (some (.ref f_LineRun_init)))
    (i_LineRun_init : PySem.W.isFn K (.ref f_LineRun_init) = true)
    (l_LineRun_init : K.lookup f_LineRun_init = some ⟨oc_LineRun_init, od_LineRun_init, .func (PySem.W.fnOf "__init__" "LineRun.__init__" (defArgs s_LineRun_init) (defBody s_LineRun_init) (defScope s_LineRun_init) .none kV_LineRun_init dc_LineRun_init pm_LineRun_init an_LineRun_init cd_LineRun_init ct_LineRun_init), sl_LineRun_init⟩)
    (c_LineRun_init : PySem.W.codeIn K cd_LineRun_init "LineRun.__init__" = true)
    (k_LineRun_init : PySem.W.keepIn K (.ref f_LineRun_init) = true)
    (a_LineRun_coming : PySem.W.findIn K (.ref CLineRun) "coming" = some (some (.ref f_LineRun_coming)))
    (i_LineRun_coming : PySem.W.isFn K (.ref f_LineRun_coming) = true)
    (l_LineRun_coming : K.lookup f_LineRun_coming = some ⟨oc_LineRun_coming, od_LineRun_coming, .func (PySem.W.fnOf "coming" "LineRun.coming" (defArgs s_LineRun_coming) (defBody s_LineRun_coming) (defScope s_LineRun_coming) .none kV_LineRun_coming dc_LineRun_coming pm_LineRun_coming an_LineRun_coming cd_LineRun_coming ct_LineRun_coming), sl_LineRun_coming⟩)
    (c_LineRun_coming : PySem.W.codeIn K cd_LineRun_coming "LineRun.coming" = true)
    (k_LineRun_coming : PySem.W.keepIn K (.ref f_LineRun_coming) = true)
    (a_line_run : PySem.W.nsIn K mainGlobals "line_run" = some (some (.ref f_line_run)))
    (l_line_run : K.lookup f_line_run = some ⟨oc_line_run, od_line_run, .func (PySem.W.fnOf "line_run" "line_run" (defArgs s_line_run) (defBody s_line_run) (defScope s_line_run) .none kV_line_run dc_line_run pm_line_run an_line_run cd_line_run ct_line_run), sl_line_run⟩)
    (c_line_run : PySem.W.codeIn K cd_line_run "line_run" = true)
    (k_line_run : PySem.W.keepIn K (.ref f_line_run) = true)
    (a_holds : PySem.W.nsIn K mainGlobals "holds" = some (some (.ref f_holds)))
    (l_holds : K.lookup f_holds = some ⟨oc_holds, od_holds, .func (PySem.W.fnOf "holds" "holds" (defArgs s_holds) (defBody s_holds) (defScope s_holds) .none kV_holds dc_holds pm_holds an_holds cd_holds ct_holds), sl_holds⟩)
    (c_holds : PySem.W.codeIn K cd_holds "holds" = true)
    (k_holds : PySem.W.keepIn K (.ref f_holds) = true)
    (a_holds_without_nots : PySem.W.nsIn K mainGlobals "holds_without_nots" = some (some (.ref f_holds_without_nots)))
    (l_holds_without_nots : K.lookup f_holds_without_nots = some ⟨oc_holds_without_nots, od_holds_without_nots, .func (PySem.W.fnOf "holds_without_nots" "holds_without_nots" (defArgs s_holds_without_nots) (defBody s_holds_without_nots) (defScope s_holds_without_nots) .none kV_holds_without_nots dc_holds_without_nots pm_holds_without_nots an_holds_without_nots cd_holds_without_nots ct_holds_without_nots), sl_holds_without_nots⟩)
    (c_holds_without_nots : PySem.W.codeIn K cd_holds_without_nots "holds_without_nots" = true)
    (k_holds_without_nots : PySem.W.keepIn K (.ref f_holds_without_nots) = true)
    (a_do_deed : PySem.W.nsIn K mainGlobals "do_deed" = some (some (.ref f_do_deed)))
    (l_do_deed : K.lookup f_do_deed = some ⟨oc_do_deed, od_do_deed, .func (PySem.W.fnOf "do_deed" "do_deed" (defArgs s_do_deed) (defBody s_do_deed) (defScope s_do_deed) .none kV_do_deed dc_do_deed pm_do_deed an_do_deed cd_do_deed ct_do_deed), sl_do_deed⟩)
    (c_do_deed : PySem.W.codeIn K cd_do_deed "do_deed" = true)
    (k_do_deed : PySem.W.keepIn K (.ref f_do_deed) = true)
    (a_Outcome_init : PySem.W.findIn K (.ref COutcome) "__init__" = some (some (.ref f_Outcome_init)))
    (i_Outcome_init : PySem.W.isFn K (.ref f_Outcome_init) = true)
    (l_Outcome_init : K.lookup f_Outcome_init = some ⟨oc_Outcome_init, od_Outcome_init, .func (PySem.W.fnOf "__init__" "Outcome.__init__" (defArgs s_Outcome_init) (defBody s_Outcome_init) (defScope s_Outcome_init) .none kV_Outcome_init dc_Outcome_init pm_Outcome_init an_Outcome_init cd_Outcome_init ct_Outcome_init), sl_Outcome_init⟩)
    (c_Outcome_init : PySem.W.codeIn K cd_Outcome_init "Outcome.__init__" = true)
    (k_Outcome_init : PySem.W.keepIn K (.ref f_Outcome_init) = true)
    (a_all_places : PySem.W.nsIn K mainGlobals "all_places" = some (some (.ref f_all_places)))
    (l_all_places : K.lookup f_all_places = some ⟨oc_all_places, od_all_places, .func (PySem.W.fnOf "all_places" "all_places" (defArgs s_all_places) (defBody s_all_places) (defScope s_all_places) .none kV_all_places dc_all_places pm_all_places an_all_places cd_all_places ct_all_places), sl_all_places⟩)
    (c_all_places : PySem.W.codeIn K cd_all_places "all_places" = true)
    (k_all_places : PySem.W.keepIn K (.ref f_all_places) = true)
    (a_all_outcomes : PySem.W.nsIn K mainGlobals "all_outcomes" = some (some (.ref f_all_outcomes)))
    (l_all_outcomes : K.lookup f_all_outcomes = some ⟨oc_all_outcomes, od_all_outcomes, .func (PySem.W.fnOf "all_outcomes" "all_outcomes" (defArgs s_all_outcomes) (defBody s_all_outcomes) (defScope s_all_outcomes) .none kV_all_outcomes dc_all_outcomes pm_all_outcomes an_all_outcomes cd_all_outcomes ct_all_outcomes), sl_all_outcomes⟩)
    (c_all_outcomes : PySem.W.codeIn K cd_all_outcomes "all_outcomes" = true)
    (k_all_outcomes : PySem.W.keepIn K (.ref f_all_outcomes) = true)
    (a_where_done : PySem.W.nsIn K mainGlobals "where_done" = some (some (.ref f_where_done)))
    (l_where_done : K.lookup f_where_done = some ⟨oc_where_done, od_where_done, .func (PySem.W.fnOf "where_done" "where_done" (defArgs s_where_done) (defBody s_where_done) (defScope s_where_done) .none kV_where_done dc_where_done pm_where_done an_where_done cd_where_done ct_where_done), sl_where_done⟩)
    (c_where_done : PySem.W.codeIn K cd_where_done "where_done" = true)
    (k_where_done : PySem.W.keepIn K (.ref f_where_done) = true)
    (a_first_unlike : PySem.W.nsIn K mainGlobals "first_unlike" = some (some (.ref f_first_unlike)))
    (l_first_unlike : K.lookup f_first_unlike = some ⟨oc_first_unlike, od_first_unlike, .func (PySem.W.fnOf "first_unlike" "first_unlike" (defArgs s_first_unlike) (defBody s_first_unlike) (defScope s_first_unlike) .none kV_first_unlike dc_first_unlike pm_first_unlike an_first_unlike cd_first_unlike ct_first_unlike), sl_first_unlike⟩)
    (c_first_unlike : PySem.W.codeIn K cd_first_unlike "first_unlike" = true)
    (k_first_unlike : PySem.W.keepIn K (.ref f_first_unlike) = true)
    (a_numbers_of : PySem.W.nsIn K mainGlobals "numbers_of" = some (some (.ref f_numbers_of)))
    (l_numbers_of : K.lookup f_numbers_of = some ⟨oc_numbers_of, od_numbers_of, .func (PySem.W.fnOf "numbers_of" "numbers_of" (defArgs s_numbers_of) (defBody s_numbers_of) (defScope s_numbers_of) .none kV_numbers_of dc_numbers_of pm_numbers_of an_numbers_of cd_numbers_of ct_numbers_of), sl_numbers_of⟩)
    (c_numbers_of : PySem.W.codeIn K cd_numbers_of "numbers_of" = true)
    (k_numbers_of : PySem.W.keepIn K (.ref f_numbers_of) = true)
    (a_first_unsafe : PySem.W.nsIn K mainGlobals "first_unsafe" = some (some (.ref f_first_unsafe)))
    (l_first_unsafe : K.lookup f_first_unsafe = some ⟨oc_first_unsafe, od_first_unsafe, .func (PySem.W.fnOf "first_unsafe" "first_unsafe" (defArgs s_first_unsafe) (defBody s_first_unsafe) (defScope s_first_unsafe) .none kV_first_unsafe dc_first_unsafe pm_first_unsafe an_first_unsafe cd_first_unsafe ct_first_unsafe), sl_first_unsafe⟩)
    (c_first_unsafe : PySem.W.codeIn K cd_first_unsafe "first_unsafe" = true)
    (k_first_unsafe : PySem.W.keepIn K (.ref f_first_unsafe) = true)
    (a_Reader_init : PySem.W.findIn K (.ref CReader) "__init__" = some (some (.ref f_Reader_init)))
    (i_Reader_init : PySem.W.isFn K (.ref f_Reader_init) = true)
    (l_Reader_init : K.lookup f_Reader_init = some ⟨oc_Reader_init, od_Reader_init, .func (PySem.W.fnOf "__init__" "Reader.__init__" (defArgs s_Reader_init) (defBody s_Reader_init) (defScope s_Reader_init) .none kV_Reader_init dc_Reader_init pm_Reader_init an_Reader_init cd_Reader_init ct_Reader_init), sl_Reader_init⟩)
    (c_Reader_init : PySem.W.codeIn K cd_Reader_init "Reader.__init__" = true)
    (k_Reader_init : PySem.W.keepIn K (.ref f_Reader_init) = true)
    (a_Reader_here : PySem.W.findIn K (.ref CReader) "here" = some (some (.ref f_Reader_here)))
    (i_Reader_here : PySem.W.isFn K (.ref f_Reader_here) = true)
    (l_Reader_here : K.lookup f_Reader_here = some ⟨oc_Reader_here, od_Reader_here, .func (PySem.W.fnOf "here" "Reader.here" (defArgs s_Reader_here) (defBody s_Reader_here) (defScope s_Reader_here) .none kV_Reader_here dc_Reader_here pm_Reader_here an_Reader_here cd_Reader_here ct_Reader_here), sl_Reader_here⟩)
    (c_Reader_here : PySem.W.codeIn K cd_Reader_here "Reader.here" = true)
    (k_Reader_here : PySem.W.keepIn K (.ref f_Reader_here) = true)
    (a_Reader_stands : PySem.W.findIn K (.ref CReader) "stands" = some (some (.ref f_Reader_stands)))
    (i_Reader_stands : PySem.W.isFn K (.ref f_Reader_stands) = true)
    (l_Reader_stands : K.lookup f_Reader_stands = some ⟨oc_Reader_stands, od_Reader_stands, .func (PySem.W.fnOf "stands" "Reader.stands" (defArgs s_Reader_stands) (defBody s_Reader_stands) (defScope s_Reader_stands) .none kV_Reader_stands dc_Reader_stands pm_Reader_stands an_Reader_stands cd_Reader_stands ct_Reader_stands), sl_Reader_stands⟩)
    (c_Reader_stands : PySem.W.codeIn K cd_Reader_stands "Reader.stands" = true)
    (k_Reader_stands : PySem.W.keepIn K (.ref f_Reader_stands) = true)
    (a_Reader_take_kind : PySem.W.findIn K (.ref CReader) "take_kind" = some (some (.ref f_Reader_take_kind)))
    (i_Reader_take_kind : PySem.W.isFn K (.ref f_Reader_take_kind) = true)
    (l_Reader_take_kind : K.lookup f_Reader_take_kind = some ⟨oc_Reader_take_kind, od_Reader_take_kind, .func (PySem.W.fnOf "take_kind" "Reader.take_kind" (defArgs s_Reader_take_kind) (defBody s_Reader_take_kind) (defScope s_Reader_take_kind) .none kV_Reader_take_kind dc_Reader_take_kind pm_Reader_take_kind an_Reader_take_kind cd_Reader_take_kind ct_Reader_take_kind), sl_Reader_take_kind⟩)
    (c_Reader_take_kind : PySem.W.codeIn K cd_Reader_take_kind "Reader.take_kind" = true)
    (k_Reader_take_kind : PySem.W.keepIn K (.ref f_Reader_take_kind) = true)
    (a_Reader_take_word : PySem.W.findIn K (.ref CReader) "take_word" = some (some (.ref f_Reader_take_word)))
    (i_Reader_take_word : PySem.W.isFn K (.ref f_Reader_take_word) = true)
    (l_Reader_take_word : K.lookup f_Reader_take_word = some ⟨oc_Reader_take_word, od_Reader_take_word, .func (PySem.W.fnOf "take_word" "Reader.take_word" (defArgs s_Reader_take_word) (defBody s_Reader_take_word) (defScope s_Reader_take_word) .none kV_Reader_take_word dc_Reader_take_word pm_Reader_take_word an_Reader_take_word cd_Reader_take_word ct_Reader_take_word), sl_Reader_take_word⟩)
    (c_Reader_take_word : PySem.W.codeIn K cd_Reader_take_word "Reader.take_word" = true)
    (k_Reader_take_word : PySem.W.keepIn K (.ref f_Reader_take_word) = true)
    (a_Reader_take_letters : PySem.W.findIn K (.ref CReader) "take_letters" = some (some (.ref f_Reader_take_letters)))
    (i_Reader_take_letters : PySem.W.isFn K (.ref f_Reader_take_letters) = true)
    (l_Reader_take_letters : K.lookup f_Reader_take_letters = some ⟨oc_Reader_take_letters, od_Reader_take_letters, .func (PySem.W.fnOf "take_letters" "Reader.take_letters" (defArgs s_Reader_take_letters) (defBody s_Reader_take_letters) (defScope s_Reader_take_letters) .none kV_Reader_take_letters dc_Reader_take_letters pm_Reader_take_letters an_Reader_take_letters cd_Reader_take_letters ct_Reader_take_letters), sl_Reader_take_letters⟩)
    (c_Reader_take_letters : PySem.W.codeIn K cd_Reader_take_letters "Reader.take_letters" = true)
    (k_Reader_take_letters : PySem.W.keepIn K (.ref f_Reader_take_letters) = true)
    (a_Reader_take_number : PySem.W.findIn K (.ref CReader) "take_number" = some (some (.ref f_Reader_take_number)))
    (i_Reader_take_number : PySem.W.isFn K (.ref f_Reader_take_number) = true)
    (l_Reader_take_number : K.lookup f_Reader_take_number = some ⟨oc_Reader_take_number, od_Reader_take_number, .func (PySem.W.fnOf "take_number" "Reader.take_number" (defArgs s_Reader_take_number) (defBody s_Reader_take_number) (defScope s_Reader_take_number) .none kV_Reader_take_number dc_Reader_take_number pm_Reader_take_number an_Reader_take_number cd_Reader_take_number ct_Reader_take_number), sl_Reader_take_number⟩)
    (c_Reader_take_number : PySem.W.codeIn K cd_Reader_take_number "Reader.take_number" = true)
    (k_Reader_take_number : PySem.W.keepIn K (.ref f_Reader_take_number) = true)
    (a_commands_of : PySem.W.nsIn K mainGlobals "commands_of" = some (some (.ref f_commands_of)))
    (l_commands_of : K.lookup f_commands_of = some ⟨oc_commands_of, od_commands_of, .func (PySem.W.fnOf "commands_of" "commands_of" (defArgs s_commands_of) (defBody s_commands_of) (defScope s_commands_of) .none kV_commands_of dc_commands_of pm_commands_of an_commands_of cd_commands_of ct_commands_of), sl_commands_of⟩)
    (c_commands_of : PySem.W.codeIn K cd_commands_of "commands_of" = true)
    (k_commands_of : PySem.W.keepIn K (.ref f_commands_of) = true)
    (a_read_command : PySem.W.nsIn K mainGlobals "read_command" = some (some (.ref f_read_command)))
    (l_read_command : K.lookup f_read_command = some ⟨oc_read_command, od_read_command, .func (PySem.W.fnOf "read_command" "read_command" (defArgs s_read_command) (defBody s_read_command) (defScope s_read_command) .none kV_read_command dc_read_command pm_read_command an_read_command cd_read_command ct_read_command), sl_read_command⟩)
    (c_read_command : PySem.W.codeIn K cd_read_command "read_command" = true)
    (k_read_command : PySem.W.keepIn K (.ref f_read_command) = true)
    (a_read_address : PySem.W.nsIn K mainGlobals "read_address" = some (some (.ref f_read_address)))
    (l_read_address : K.lookup f_read_address = some ⟨oc_read_address, od_read_address, .func (PySem.W.fnOf "read_address" "read_address" (defArgs s_read_address) (defBody s_read_address) (defScope s_read_address) .none kV_read_address dc_read_address pm_read_address an_read_address cd_read_address ct_read_address), sl_read_address⟩)
    (c_read_address : PySem.W.codeIn K cd_read_address "read_address" = true)
    (k_read_address : PySem.W.keepIn K (.ref f_read_address) = true)
    (a_read_nots : PySem.W.nsIn K mainGlobals "read_nots" = some (some (.ref f_read_nots)))
    (l_read_nots : K.lookup f_read_nots = some ⟨oc_read_nots, od_read_nots, .func (PySem.W.fnOf "read_nots" "read_nots" (defArgs s_read_nots) (defBody s_read_nots) (defScope s_read_nots) .none kV_read_nots dc_read_nots pm_read_nots an_read_nots cd_read_nots ct_read_nots), sl_read_nots⟩)
    (c_read_nots : PySem.W.codeIn K cd_read_nots "read_nots" = true)
    (k_read_nots : PySem.W.keepIn K (.ref f_read_nots) = true)
    (a_read_deed : PySem.W.nsIn K mainGlobals "read_deed" = some (some (.ref f_read_deed)))
    (l_read_deed : K.lookup f_read_deed = some ⟨oc_read_deed, od_read_deed, .func (PySem.W.fnOf "read_deed" "read_deed" (defArgs s_read_deed) (defBody s_read_deed) (defScope s_read_deed) .none kV_read_deed dc_read_deed pm_read_deed an_read_deed cd_read_deed ct_read_deed), sl_read_deed⟩)
    (c_read_deed : PySem.W.codeIn K cd_read_deed "read_deed" = true)
    (k_read_deed : PySem.W.keepIn K (.ref f_read_deed) = true)
    (a_read_other : PySem.W.nsIn K mainGlobals "read_other" = some (some (.ref f_read_other)))
    (l_read_other : K.lookup f_read_other = some ⟨oc_read_other, od_read_other, .func (PySem.W.fnOf "read_other" "read_other" (defArgs s_read_other) (defBody s_read_other) (defScope s_read_other) .none kV_read_other dc_read_other pm_read_other an_read_other cd_read_other ct_read_other), sl_read_other⟩)
    (c_read_other : PySem.W.codeIn K cd_read_other "read_other" = true)
    (k_read_other : PySem.W.keepIn K (.ref f_read_other) = true)
    (a_Holder_init : PySem.W.findIn K (.ref CHolder) "__init__" = some (some (.ref f_Holder_init)))
    (i_Holder_init : PySem.W.isFn K (.ref f_Holder_init) = true)
    (l_Holder_init : K.lookup f_Holder_init = some ⟨oc_Holder_init, od_Holder_init, .func (PySem.W.fnOf "__init__" "Holder.__init__" (defArgs s_Holder_init) (defBody s_Holder_init) (defScope s_Holder_init) .none kV_Holder_init dc_Holder_init pm_Holder_init an_Holder_init cd_Holder_init ct_Holder_init), sl_Holder_init⟩)
    (c_Holder_init : PySem.W.codeIn K cd_Holder_init "Holder.__init__" = true)
    (k_Holder_init : PySem.W.keepIn K (.ref f_Holder_init) = true)
    (a_Holder_hold : PySem.W.findIn K (.ref CHolder) "hold" = some (some (.ref f_Holder_hold)))
    (i_Holder_hold : PySem.W.isFn K (.ref f_Holder_hold) = true)
    (l_Holder_hold : K.lookup f_Holder_hold = some ⟨oc_Holder_hold, od_Holder_hold, .func (PySem.W.fnOf "hold" "Holder.hold" (defArgs s_Holder_hold) (defBody s_Holder_hold) (defScope s_Holder_hold) .none kV_Holder_hold dc_Holder_hold pm_Holder_hold an_Holder_hold cd_Holder_hold ct_Holder_hold), sl_Holder_hold⟩)
    (c_Holder_hold : PySem.W.codeIn K cd_Holder_hold "Holder.hold" = true)
    (k_Holder_hold : PySem.W.keepIn K (.ref f_Holder_hold) = true)
    (a_Holder_load : PySem.W.findIn K (.ref CHolder) "load" = some (some (.ref f_Holder_load)))
    (i_Holder_load : PySem.W.isFn K (.ref f_Holder_load) = true)
    (l_Holder_load : K.lookup f_Holder_load = some ⟨oc_Holder_load, od_Holder_load, .func (PySem.W.fnOf "load" "Holder.load" (defArgs s_Holder_load) (defBody s_Holder_load) (defScope s_Holder_load) .none kV_Holder_load dc_Holder_load pm_Holder_load an_Holder_load cd_Holder_load ct_Holder_load), sl_Holder_load⟩)
    (c_Holder_load : PySem.W.codeIn K cd_Holder_load "Holder.load" = true)
    (k_Holder_load : PySem.W.keepIn K (.ref f_Holder_load) = true)
    (a_Holder_shown : PySem.W.findIn K (.ref CHolder) "shown" = some (some (.ref f_Holder_shown)))
    (i_Holder_shown : PySem.W.isFn K (.ref f_Holder_shown) = true)
    (l_Holder_shown : K.lookup f_Holder_shown = some ⟨oc_Holder_shown, od_Holder_shown, .func (PySem.W.fnOf "shown" "Holder.shown" (defArgs s_Holder_shown) (defBody s_Holder_shown) (defScope s_Holder_shown) .none kV_Holder_shown dc_Holder_shown pm_Holder_shown an_Holder_shown cd_Holder_shown ct_Holder_shown), sl_Holder_shown⟩)
    (c_Holder_shown : PySem.W.codeIn K cd_Holder_shown "Holder.shown" = true)
    (k_Holder_shown : PySem.W.keepIn K (.ref f_Holder_shown) = true)
    (a_Holder_kinds : PySem.W.findIn K (.ref CHolder) "kinds" = some (some (.ref f_Holder_kinds)))
    (i_Holder_kinds : PySem.W.isFn K (.ref f_Holder_kinds) = true)
    (l_Holder_kinds : K.lookup f_Holder_kinds = some ⟨oc_Holder_kinds, od_Holder_kinds, .func (PySem.W.fnOf "kinds" "Holder.kinds" (defArgs s_Holder_kinds) (defBody s_Holder_kinds) (defScope s_Holder_kinds) .none kV_Holder_kinds dc_Holder_kinds pm_Holder_kinds an_Holder_kinds cd_Holder_kinds ct_Holder_kinds), sl_Holder_kinds⟩)
    (c_Holder_kinds : PySem.W.codeIn K cd_Holder_kinds "Holder.kinds" = true)
    (k_Holder_kinds : PySem.W.keepIn K (.ref f_Holder_kinds) = true)
    (a_Holder_can : PySem.W.findIn K (.ref CHolder) "can" = some (some (.ref f_Holder_can)))
    (i_Holder_can : PySem.W.isFn K (.ref f_Holder_can) = true)
    (l_Holder_can : K.lookup f_Holder_can = some ⟨oc_Holder_can, od_Holder_can, .func (PySem.W.fnOf "can" "Holder.can" (defArgs s_Holder_can) (defBody s_Holder_can) (defScope s_Holder_can) .none kV_Holder_can dc_Holder_can pm_Holder_can an_Holder_can cd_Holder_can ct_Holder_can), sl_Holder_can⟩)
    (c_Holder_can : PySem.W.codeIn K cd_Holder_can "Holder.can" = true)
    (k_Holder_can : PySem.W.keepIn K (.ref f_Holder_can) = true)
    (a_Holder_matters : PySem.W.findIn K (.ref CHolder) "matters" = some (some (.ref f_Holder_matters)))
    (i_Holder_matters : PySem.W.isFn K (.ref f_Holder_matters) = true)
    (l_Holder_matters : K.lookup f_Holder_matters = some ⟨oc_Holder_matters, od_Holder_matters, .func (PySem.W.fnOf "matters" "Holder.matters" (defArgs s_Holder_matters) (defBody s_Holder_matters) (defScope s_Holder_matters) .none kV_Holder_matters dc_Holder_matters pm_Holder_matters an_Holder_matters cd_Holder_matters ct_Holder_matters), sl_Holder_matters⟩)
    (c_Holder_matters : PySem.W.codeIn K cd_Holder_matters "Holder.matters" = true)
    (k_Holder_matters : PySem.W.keepIn K (.ref f_Holder_matters) = true)
    (a_Holder_idle : PySem.W.findIn K (.ref CHolder) "idle" = some (some (.ref f_Holder_idle)))
    (i_Holder_idle : PySem.W.isFn K (.ref f_Holder_idle) = true)
    (l_Holder_idle : K.lookup f_Holder_idle = some ⟨oc_Holder_idle, od_Holder_idle, .func (PySem.W.fnOf "idle" "Holder.idle" (defArgs s_Holder_idle) (defBody s_Holder_idle) (defScope s_Holder_idle) .none kV_Holder_idle dc_Holder_idle pm_Holder_idle an_Holder_idle cd_Holder_idle ct_Holder_idle), sl_Holder_idle⟩)
    (c_Holder_idle : PySem.W.codeIn K cd_Holder_idle "Holder.idle" = true)
    (k_Holder_idle : PySem.W.keepIn K (.ref f_Holder_idle) = true)
    (a_Holder_turn : PySem.W.findIn K (.ref CHolder) "turn" = some (some (.ref f_Holder_turn)))
    (i_Holder_turn : PySem.W.isFn K (.ref f_Holder_turn) = true)
    (l_Holder_turn : K.lookup f_Holder_turn = some ⟨oc_Holder_turn, od_Holder_turn, .func (PySem.W.fnOf "turn" "Holder.turn" (defArgs s_Holder_turn) (defBody s_Holder_turn) (defScope s_Holder_turn) .none kV_Holder_turn dc_Holder_turn pm_Holder_turn an_Holder_turn cd_Holder_turn ct_Holder_turn), sl_Holder_turn⟩)
    (c_Holder_turn : PySem.W.codeIn K cd_Holder_turn "Holder.turn" = true)
    (k_Holder_turn : PySem.W.keepIn K (.ref f_Holder_turn) = true)
    (a_Holder_lines : PySem.W.findIn K (.ref CHolder) "lines" = some (some (.ref f_Holder_lines)))
    (i_Holder_lines : PySem.W.isFn K (.ref f_Holder_lines) = true)
    (l_Holder_lines : K.lookup f_Holder_lines = some ⟨oc_Holder_lines, od_Holder_lines, .func (PySem.W.fnOf "lines" "Holder.lines" (defArgs s_Holder_lines) (defBody s_Holder_lines) (defScope s_Holder_lines) .none kV_Holder_lines dc_Holder_lines pm_Holder_lines an_Holder_lines cd_Holder_lines ct_Holder_lines), sl_Holder_lines⟩)
    (c_Holder_lines : PySem.W.codeIn K cd_Holder_lines "Holder.lines" = true)
    (k_Holder_lines : PySem.W.keepIn K (.ref f_Holder_lines) = true)
    (a_Holder_safe : PySem.W.findIn K (.ref CHolder) "safe" = some (some (.ref f_Holder_safe)))
    (i_Holder_safe : PySem.W.isFn K (.ref f_Holder_safe) = true)
    (l_Holder_safe : K.lookup f_Holder_safe = some ⟨oc_Holder_safe, od_Holder_safe, .func (PySem.W.fnOf "safe" "Holder.safe" (defArgs s_Holder_safe) (defBody s_Holder_safe) (defScope s_Holder_safe) .none kV_Holder_safe dc_Holder_safe pm_Holder_safe an_Holder_safe cd_Holder_safe ct_Holder_safe), sl_Holder_safe⟩)
    (c_Holder_safe : PySem.W.codeIn K cd_Holder_safe "Holder.safe" = true)
    (k_Holder_safe : PySem.W.keepIn K (.ref f_Holder_safe) = true)
    (a_Holder_prune : PySem.W.findIn K (.ref CHolder) "prune" = some (some (.ref f_Holder_prune)))
    (i_Holder_prune : PySem.W.isFn K (.ref f_Holder_prune) = true)
    (l_Holder_prune : K.lookup f_Holder_prune = some ⟨oc_Holder_prune, od_Holder_prune, .func (PySem.W.fnOf "prune" "Holder.prune" (defArgs s_Holder_prune) (defBody s_Holder_prune) (defScope s_Holder_prune) .none kV_Holder_prune dc_Holder_prune pm_Holder_prune an_Holder_prune cd_Holder_prune ct_Holder_prune), sl_Holder_prune⟩)
    (c_Holder_prune : PySem.W.codeIn K cd_Holder_prune "Holder.prune" = true)
    (k_Holder_prune : PySem.W.keepIn K (.ref f_Holder_prune) = true)
    (a_Holder_has_command : PySem.W.findIn K (.ref CHolder) "has_command" = some (some (.ref f_Holder_has_command)))
    (i_Holder_has_command : PySem.W.isFn K (.ref f_Holder_has_command) = true)
    (l_Holder_has_command : K.lookup f_Holder_has_command = some ⟨oc_Holder_has_command, od_Holder_has_command, .func (PySem.W.fnOf "has_command" "Holder.has_command" (defArgs s_Holder_has_command) (defBody s_Holder_has_command) (defScope s_Holder_has_command) .none kV_Holder_has_command dc_Holder_has_command pm_Holder_has_command an_Holder_has_command cd_Holder_has_command ct_Holder_has_command), sl_Holder_has_command⟩)
    (c_Holder_has_command : PySem.W.codeIn K cd_Holder_has_command "Holder.has_command" = true)
    (k_Holder_has_command : PySem.W.keepIn K (.ref f_Holder_has_command) = true)
    (a_Holder_first_mattering : PySem.W.findIn K (.ref CHolder) "first_mattering" = some (some (.ref f_Holder_first_mattering)))
    (i_Holder_first_mattering : PySem.W.isFn K (.ref f_Holder_first_mattering) = true)
    (l_Holder_first_mattering : K.lookup f_Holder_first_mattering = some ⟨oc_Holder_first_mattering, od_Holder_first_mattering, .func (PySem.W.fnOf "first_mattering" "Holder.first_mattering" (defArgs s_Holder_first_mattering) (defBody s_Holder_first_mattering) (defScope s_Holder_first_mattering) .none kV_Holder_first_mattering dc_Holder_first_mattering pm_Holder_first_mattering an_Holder_first_mattering cd_Holder_first_mattering ct_Holder_first_mattering), sl_Holder_first_mattering⟩)
    (c_Holder_first_mattering : PySem.W.codeIn K cd_Holder_first_mattering "Holder.first_mattering" = true)
    (k_Holder_first_mattering : PySem.W.keepIn K (.ref f_Holder_first_mattering) = true)
    (a_Holder_first_idle : PySem.W.findIn K (.ref CHolder) "first_idle" = some (some (.ref f_Holder_first_idle)))
    (i_Holder_first_idle : PySem.W.isFn K (.ref f_Holder_first_idle) = true)
    (l_Holder_first_idle : K.lookup f_Holder_first_idle = some ⟨oc_Holder_first_idle, od_Holder_first_idle, .func (PySem.W.fnOf "first_idle" "Holder.first_idle" (defArgs s_Holder_first_idle) (defBody s_Holder_first_idle) (defScope s_Holder_first_idle) .none kV_Holder_first_idle dc_Holder_first_idle pm_Holder_first_idle an_Holder_first_idle cd_Holder_first_idle ct_Holder_first_idle), sl_Holder_first_idle⟩)
    (c_Holder_first_idle : PySem.W.codeIn K cd_Holder_first_idle "Holder.first_idle" = true)
    (k_Holder_first_idle : PySem.W.keepIn K (.ref f_Holder_first_idle) = true)
    (a_answers : PySem.W.nsIn K mainGlobals "answers" = some (some (.ref f_answers)))
    (l_answers : K.lookup f_answers = some ⟨oc_answers, od_answers, .func (PySem.W.fnOf "answers" "answers" (defArgs s_answers) (defBody s_answers) (defScope s_answers) .none kV_answers dc_answers pm_answers an_answers cd_answers ct_answers), sl_answers⟩)
    (c_answers : PySem.W.codeIn K cd_answers "answers" = true)
    (k_answers : PySem.W.keepIn K (.ref f_answers) = true)
    (a_behind_call : PySem.W.nsIn K mainGlobals "behind_call" = some (some (.ref f_behind_call)))
    (l_behind_call : K.lookup f_behind_call = some ⟨oc_behind_call, od_behind_call, .func (PySem.W.fnOf "behind_call" "behind_call" (defArgs s_behind_call) (defBody s_behind_call) (defScope s_behind_call) .none kV_behind_call dc_behind_call pm_behind_call an_behind_call cd_behind_call ct_behind_call), sl_behind_call⟩)
    (c_behind_call : PySem.W.codeIn K cd_behind_call "behind_call" = true)
    (k_behind_call : PySem.W.keepIn K (.ref f_behind_call) = true)
    (a_answer_of : PySem.W.nsIn K mainGlobals "answer_of" = some (some (.ref f_answer_of)))
    (l_answer_of : K.lookup f_answer_of = some ⟨oc_answer_of, od_answer_of, .func (PySem.W.fnOf "answer_of" "answer_of" (defArgs s_answer_of) (defBody s_answer_of) (defScope s_answer_of) .none kV_answer_of dc_answer_of pm_answer_of an_answer_of cd_answer_of ct_answer_of), sl_answer_of⟩)
    (c_answer_of : PySem.W.codeIn K cd_answer_of "answer_of" = true)
    (k_answer_of : PySem.W.keepIn K (.ref f_answer_of) = true)
    (a_answer_of_command : PySem.W.nsIn K mainGlobals "answer_of_command" = some (some (.ref f_answer_of_command)))
    (l_answer_of_command : K.lookup f_answer_of_command = some ⟨oc_answer_of_command, od_answer_of_command, .func (PySem.W.fnOf "answer_of_command" "answer_of_command" (defArgs s_answer_of_command) (defBody s_answer_of_command) (defScope s_answer_of_command) .none kV_answer_of_command dc_answer_of_command pm_answer_of_command an_answer_of_command cd_answer_of_command ct_answer_of_command), sl_answer_of_command⟩)
    (c_answer_of_command : PySem.W.codeIn K cd_answer_of_command "answer_of_command" = true)
    (k_answer_of_command : PySem.W.keepIn K (.ref f_answer_of_command) = true)
    (a_told_text : PySem.W.nsIn K mainGlobals "told_text" = some (some (.ref f_told_text)))
    (l_told_text : K.lookup f_told_text = some ⟨oc_told_text, od_told_text, .func (PySem.W.fnOf "told_text" "told_text" (defArgs s_told_text) (defBody s_told_text) (defScope s_told_text) .none kV_told_text dc_told_text pm_told_text an_told_text cd_told_text ct_told_text), sl_told_text⟩)
    (c_told_text : PySem.W.codeIn K cd_told_text "told_text" = true)
    (k_told_text : PySem.W.keepIn K (.ref f_told_text) = true)
    (a_told_place_and_kind : PySem.W.nsIn K mainGlobals "told_place_and_kind" = some (some (.ref f_told_place_and_kind)))
    (l_told_place_and_kind : K.lookup f_told_place_and_kind = some ⟨oc_told_place_and_kind, od_told_place_and_kind, .func (PySem.W.fnOf "told_place_and_kind" "told_place_and_kind" (defArgs s_told_place_and_kind) (defBody s_told_place_and_kind) (defScope s_told_place_and_kind) .none kV_told_place_and_kind dc_told_place_and_kind pm_told_place_and_kind an_told_place_and_kind cd_told_place_and_kind ct_told_place_and_kind), sl_told_place_and_kind⟩)
    (c_told_place_and_kind : PySem.W.codeIn K cd_told_place_and_kind "told_place_and_kind" = true)
    (k_told_place_and_kind : PySem.W.keepIn K (.ref f_told_place_and_kind) = true)
    (xF : K.lookup CFault = some (excClassObj nmF qF CFault NF bsF xTail true snF subF abF colF ddF k0F k1F k2F k3F k5F "Exception.__new__"))
    (saF : PySem.W.findIn K (.ref CFault) "__setattr__" = some (some (.builtin "object.__setattr__")))
    (upF : PySem.W.subIn K (.ref CFault) (.type "BaseException") = some true)
    (tyF : PySem.W.typeIn K (.ref CFault) = some (.type "type"))
    (kpF : PySem.W.keepIn K (.ref CFault) = true)
    (gaF : PySem.W.findIn K (.ref CFault) "__getattribute__" = some (some (.builtin "BaseException.__getattribute__")))
    (ggF : PySem.W.findIn K (.ref CFault) "__getattr__" = some none)
    (hdF : PySem.W.hasDictIn K CFault = true)
    (n1F : PySem.W.findIn K (.ref CFault) "code" = some none)
    (n2F : PySem.W.findIn K (.ref CFault) "place" = some none)
    (a_Fault_init : PySem.W.findIn K (.ref CFault) "__init__" = some (some (.ref f_Fault_init)))
    (t_Fault_init : PySem.W.typeIn K (.ref f_Fault_init) = some (.type "function"))
    (l_Fault_init : K.lookup f_Fault_init = some ⟨oc_Fault_init, od_Fault_init, .func (PySem.W.fnOf "__init__" "Fault.__init__" (defArgs s_Fault_init) (defBody s_Fault_init) (defScope s_Fault_init) .none kV_Fault_init dc_Fault_init pm_Fault_init an_Fault_init cd_Fault_init ct_Fault_init), sl_Fault_init⟩)
    (c_Fault_init : PySem.W.codeIn K cd_Fault_init "Fault.__init__" = true)
    (k_Fault_init : PySem.W.keepIn K (.ref f_Fault_init) = true)
    (icF : PySem.W.isClsIn K CFault = true)
    (ssF : PySem.W.subIn K (.ref CFault) (.ref CFault) = some true)
    (h_LETTERS : PySem.W.nsIn K mainGlobals "LETTERS" = some (some (.str "abcdefghijklmnopqrstuvwxyz" t_LETTERS)))
    (h_BLANKS : PySem.W.nsIn K mainGlobals "BLANKS" = some (some (.ref p_BLANKS)))
    (l_BLANKS : K.lookup p_BLANKS = some ⟨.type "tuple", od_BLANKS, .seq its_BLANKS n_BLANKS, sl_BLANKS⟩)
    (z_BLANKS : its_BLANKS.size ≤ sizeLine)
    (v_BLANKS : Vals [.int 32, .int 9, .int 10] its_BLANKS.toList)
    (h_LINE_END : PySem.W.nsIn K mainGlobals "LINE_END" = some (some (.int (10) t_LINE_END)))
    (h_REMARK : PySem.W.nsIn K mainGlobals "REMARK" = some (some (.int (35) t_REMARK)))
    (h_SIGN : PySem.W.nsIn K mainGlobals "SIGN" = some (some (.int (59) t_SIGN)))
    (h_FIRST_LETTER : PySem.W.nsIn K mainGlobals "FIRST_LETTER" = some (some (.int (97) t_FIRST_LETTER)))
    (h_FINAL_LETTER : PySem.W.nsIn K mainGlobals "FINAL_LETTER" = some (some (.int (122) t_FINAL_LETTER)))
    (h_FIRST_DIGIT : PySem.W.nsIn K mainGlobals "FIRST_DIGIT" = some (some (.int (48) t_FIRST_DIGIT)))
    (h_FINAL_DIGIT : PySem.W.nsIn K mainGlobals "FINAL_DIGIT" = some (some (.int (57) t_FINAL_DIGIT)))
    (h_LONGEST_WORD : PySem.W.nsIn K mainGlobals "LONGEST_WORD" = some (some (.int (8) t_LONGEST_WORD)))
    (h_GREATEST_NUMBER : PySem.W.nsIn K mainGlobals "GREATEST_NUMBER" = some (some (.int (1000000000) t_GREATEST_NUMBER)))
    (h_LONGEST_NUMBER : PySem.W.nsIn K mainGlobals "LONGEST_NUMBER" = some (some (.int (10) t_LONGEST_NUMBER)))
    (h_DEEDS_NOT_PLAIN : PySem.W.nsIn K mainGlobals "DEEDS_NOT_PLAIN" = some (some (.ref p_DEEDS_NOT_PLAIN)))
    (l_DEEDS_NOT_PLAIN : K.lookup p_DEEDS_NOT_PLAIN = some ⟨.type "tuple", od_DEEDS_NOT_PLAIN, .seq its_DEEDS_NOT_PLAIN n_DEEDS_NOT_PLAIN, sl_DEEDS_NOT_PLAIN⟩)
    (z_DEEDS_NOT_PLAIN : its_DEEDS_NOT_PLAIN.size ≤ sizeLine)
    (v_DEEDS_NOT_PLAIN : Vals [.str "swap", .str "first", .str "keep", .str "bring", .str "trade"] its_DEEDS_NOT_PLAIN.toList)
    (h_MOST_LOOKED_FOR : PySem.W.nsIn K mainGlobals "MOST_LOOKED_FOR" = some (some (.int (4) t_MOST_LOOKED_FOR)))
    (h_MOST_LETTERS : PySem.W.nsIn K mainGlobals "MOST_LETTERS" = some (some (.int (16) t_MOST_LETTERS)))
    (h_LONGEST_LINE : PySem.W.nsIn K mainGlobals "LONGEST_LINE" = some (some (.int (16) t_LONGEST_LINE)))
    (h_LEAST_FILLED : PySem.W.nsIn K mainGlobals "LEAST_FILLED" = some (some (.int (9) t_LEAST_FILLED)))
    (h_FINAL_LINE : PySem.W.nsIn K mainGlobals "FINAL_LINE" = some (some (.int (24) t_FINAL_LINE)))
    (h_MOST_BYTES : PySem.W.nsIn K mainGlobals "MOST_BYTES" = some (some (.int (4096) t_MOST_BYTES)))
    (h_MOST_COMMANDS : PySem.W.nsIn K mainGlobals "MOST_COMMANDS" = some (some (.int (16) t_MOST_COMMANDS)))
    (h_MOST_NOTS : PySem.W.nsIn K mainGlobals "MOST_NOTS" = some (some (.int (3) t_MOST_NOTS)))
    (h_GREATEST_LINE : PySem.W.nsIn K mainGlobals "GREATEST_LINE" = some (some (.int (99) t_GREATEST_LINE)))
    (h_GREATEST_SKIP : PySem.W.nsIn K mainGlobals "GREATEST_SKIP" = some (some (.int (9) t_GREATEST_SKIP)))
    (h_OWN_WORDS : PySem.W.nsIn K mainGlobals "OWN_WORDS" = some (some (.ref p_OWN_WORDS)))
    (l_OWN_WORDS : K.lookup p_OWN_WORDS = some ⟨.type "tuple", od_OWN_WORDS, .seq its_OWN_WORDS n_OWN_WORDS, sl_OWN_WORDS⟩)
    (z_OWN_WORDS : its_OWN_WORDS.size ≤ sizeLine)
    (v_OWN_WORDS : Vals [.str "if", .str "all", .str "line", .str "from", .str "to", .str "last", .str "has", .str "is", .str "not", .str "delete", .str "before", .str "after", .str "change", .str "swap", .str "first", .str "keep", .str "bring", .str "trade", .str "skip", .str "stop", .str "none"] its_OWN_WORDS.toList)
    (h_DEEDS_ALONE : PySem.W.nsIn K mainGlobals "DEEDS_ALONE" = some (some (.ref p_DEEDS_ALONE)))
    (l_DEEDS_ALONE : K.lookup p_DEEDS_ALONE = some ⟨.type "tuple", od_DEEDS_ALONE, .seq its_DEEDS_ALONE n_DEEDS_ALONE, sl_DEEDS_ALONE⟩)
    (z_DEEDS_ALONE : its_DEEDS_ALONE.size ≤ sizeLine)
    (v_DEEDS_ALONE : Vals [.str "delete", .str "keep", .str "bring", .str "trade", .str "stop"] its_DEEDS_ALONE.toList)
    (h_DEEDS_OF_LETTERS : PySem.W.nsIn K mainGlobals "DEEDS_OF_LETTERS" = some (some (.ref p_DEEDS_OF_LETTERS)))
    (l_DEEDS_OF_LETTERS : K.lookup p_DEEDS_OF_LETTERS = some ⟨.type "tuple", od_DEEDS_OF_LETTERS, .seq its_DEEDS_OF_LETTERS n_DEEDS_OF_LETTERS, sl_DEEDS_OF_LETTERS⟩)
    (z_DEEDS_OF_LETTERS : its_DEEDS_OF_LETTERS.size ≤ sizeLine)
    (v_DEEDS_OF_LETTERS : Vals [.str "before", .str "after", .str "change"] its_DEEDS_OF_LETTERS.toList)
    (h_DEEDS_OF_TWO : PySem.W.nsIn K mainGlobals "DEEDS_OF_TWO" = some (some (.ref p_DEEDS_OF_TWO)))
    (l_DEEDS_OF_TWO : K.lookup p_DEEDS_OF_TWO = some ⟨.type "tuple", od_DEEDS_OF_TWO, .seq its_DEEDS_OF_TWO n_DEEDS_OF_TWO, sl_DEEDS_OF_TWO⟩)
    (z_DEEDS_OF_TWO : its_DEEDS_OF_TWO.size ≤ sizeLine)
    (v_DEEDS_OF_TWO : Vals [.str "swap", .str "first"] its_DEEDS_OF_TWO.toList)
    (h_LOAD : PySem.W.nsIn K mainGlobals "LOAD" = some (some (.int (0) t_LOAD)))
    (h_SHOWN : PySem.W.nsIn K mainGlobals "SHOWN" = some (some (.int (1) t_SHOWN)))
    (h_KINDS : PySem.W.nsIn K mainGlobals "KINDS" = some (some (.int (2) t_KINDS)))
    (h_CAN : PySem.W.nsIn K mainGlobals "CAN" = some (some (.int (3) t_CAN)))
    (h_MATTERS : PySem.W.nsIn K mainGlobals "MATTERS" = some (some (.int (4) t_MATTERS)))
    (h_IDLE : PySem.W.nsIn K mainGlobals "IDLE" = some (some (.int (5) t_IDLE)))
    (h_TURN : PySem.W.nsIn K mainGlobals "TURN" = some (some (.int (6) t_TURN)))
    (h_SAFE : PySem.W.nsIn K mainGlobals "SAFE" = some (some (.int (8) t_SAFE)))
    (h_CALLS_WITH_A_NUMBER : PySem.W.nsIn K mainGlobals "CALLS_WITH_A_NUMBER" = some (some (.ref p_CALLS_WITH_A_NUMBER)))
    (l_CALLS_WITH_A_NUMBER : K.lookup p_CALLS_WITH_A_NUMBER = some ⟨.type "tuple", od_CALLS_WITH_A_NUMBER, .seq its_CALLS_WITH_A_NUMBER n_CALLS_WITH_A_NUMBER, sl_CALLS_WITH_A_NUMBER⟩)
    (z_CALLS_WITH_A_NUMBER : its_CALLS_WITH_A_NUMBER.size ≤ sizeLine)
    (v_CALLS_WITH_A_NUMBER : Vals [.int 3, .int 4, .int 6, .int 7] its_CALLS_WITH_A_NUMBER.toList)
    (h_CALLS_WITH_A_LIST : PySem.W.nsIn K mainGlobals "CALLS_WITH_A_LIST" = some (some (.ref p_CALLS_WITH_A_LIST)))
    (l_CALLS_WITH_A_LIST : K.lookup p_CALLS_WITH_A_LIST = some ⟨.type "tuple", od_CALLS_WITH_A_LIST, .seq its_CALLS_WITH_A_LIST n_CALLS_WITH_A_LIST, sl_CALLS_WITH_A_LIST⟩)
    (z_CALLS_WITH_A_LIST : its_CALLS_WITH_A_LIST.size ≤ sizeLine)
    (v_CALLS_WITH_A_LIST : Vals [.int 0, .int 8] its_CALLS_WITH_A_LIST.toList)
    (h_NO_SCRIPT : PySem.W.nsIn K mainGlobals "NO_SCRIPT" = some (some (.int (-1) t_NO_SCRIPT)))
    (h_NO_SUCH_COMMAND : PySem.W.nsIn K mainGlobals "NO_SUCH_COMMAND" = some (some (.int (-2) t_NO_SUCH_COMMAND)))
    (h_HAS_SKIP : PySem.W.nsIn K mainGlobals "HAS_SKIP" = some (some (.int (-3) t_HAS_SKIP)))
    (h_NOT_A_LINE : PySem.W.nsIn K mainGlobals "NOT_A_LINE" = some (some (.int (-4) t_NOT_A_LINE)))
    (h_NOT_PLAIN : PySem.W.nsIn K mainGlobals "NOT_PLAIN" = some (some (.int (-6) t_NOT_PLAIN)))
    (h_z_all : PySem.W.nsIn K mainGlobals "all" = some none)
    (h_z_any : PySem.W.nsIn K mainGlobals "any" = some none)
    (h_z_enumerate : PySem.W.nsIn K mainGlobals "enumerate" = some none)
    (h_z_len : PySem.W.nsIn K mainGlobals "len" = some none)
    (h_z_list : PySem.W.nsIn K mainGlobals "list" = some none)
    (h_z_ord : PySem.W.nsIn K mainGlobals "ord" = some none)
    (h_z_range : PySem.W.nsIn K mainGlobals "range" = some none)
    (h_z_set : PySem.W.nsIn K mainGlobals "set" = some none)
    (h_z_sorted : PySem.W.nsIn K mainGlobals "sorted" = some none)
    (h_z_str : PySem.W.nsIn K mainGlobals "str" = some none)
    (h_z_tuple : PySem.W.nsIn K mainGlobals "tuple" = some none)
    (h_z_Exception : PySem.W.nsIn K mainGlobals "Exception" = some none)
    (ap_h1 : CAddress ≠ CHolder)
    (ap_h2 : CDeed ≠ CHolder)
    (ap_h3 : CCommand ≠ CHolder)
    (ap_h4 : CToken ≠ CHolder)
    (ap_h5 : CLineRun ≠ CHolder)
    (ap_h6 : COutcome ≠ CHolder)
    (ap_r1 : CAddress ≠ CReader)
    (ap_r2 : CDeed ≠ CReader)
    (ap_r3 : CCommand ≠ CReader)
    (ap_r4 : CToken ≠ CReader)
    (ap_r5 : CLineRun ≠ CReader)
    (ap_r6 : COutcome ≠ CReader)
    (ap_hr : CHolder ≠ CReader) :
    ∃ fd : FuncData, (∀ (s : Shared) (us : List Value), us.length = (["calls"] : List Str).length → BindsTo s fd ⟨us, []⟩ ((["calls"] : List Str).zip us)) ∧ ∀ base : Heap, K.In base → base.Ns mainGlobals mg → FnOk P w K mg base CX0 11 fa fd ["calls"] (sp_ans K) := by
  have e := hfa.symm.trans (PySem.W.mg_of X G a_answers)
  cases e
  have T : Txt K mg ⟨CAddress, CDeed, CCommand, CFault, CToken, CLineRun, COutcome, CReader, CHolder⟩ := {
    c_Address := ⟨e_cls pgAddress hdAddress poAddress saAddress, (no_cons n_Address_nots (no_cons n_Address_name (no_cons n_Address_first (no_cons n_Address_final (no_cons n_Address_letters no_nil)))))⟩,
    c_Deed := ⟨e_cls pgDeed hdDeed poDeed saDeed, (no_cons n_Deed_name (no_cons n_Deed_letters (no_cons n_Deed_other (no_cons n_Deed_number no_nil))))⟩,
    c_Command := ⟨e_cls pgCommand hdCommand poCommand saCommand, (no_cons n_Command_address (no_cons n_Command_deed no_nil))⟩,
    c_Token := ⟨e_cls pgToken hdToken poToken saToken, (no_cons n_Token_kind (no_cons n_Token_value (no_cons n_Token_place (no_cons n_Token_behind no_nil))))⟩,
    c_LineRun := ⟨e_cls pgLineRun hdLineRun poLineRun saLineRun, (no_cons n_LineRun_line (no_cons n_LineRun_done (no_cons n_LineRun_ahead (no_cons n_LineRun_behind (no_cons n_LineRun_left_out (no_cons n_LineRun_deleted (no_cons n_LineRun_over no_nil)))))))⟩,
    c_Outcome := ⟨e_cls pgOutcome hdOutcome poOutcome saOutcome, (no_cons n_Outcome_place (no_cons n_Outcome_kind (no_cons n_Outcome_run no_nil)))⟩,
    c_Reader := ⟨e_cls pgReader hdReader poReader saReader, (no_cons n_Reader_tokens (no_cons n_Reader_at no_nil))⟩,
    c_Holder := ⟨e_cls pgHolder hdHolder poHolder saHolder, (no_cons n_Holder_commands (no_cons n_Holder_kinds_held (no_cons n_Holder_outcomes no_nil)))⟩,
    d_Address_init := e_ini X G gAddress a_Address_init i_Address_init l_Address_init c_Address_init k_Address_init mkAddress kcAddress (fun F => F.binds fun _ _ _ _ _ _ us hl => match us, hl with | [_, _, _, _, _, _], _ => rfl),
    d_Deed_init := e_ini X G gDeed a_Deed_init i_Deed_init l_Deed_init c_Deed_init k_Deed_init mkDeed kcDeed (fun F => F.binds fun _ _ _ _ _ _ us hl => match us, hl with | [_, _, _, _, _], _ => rfl),
    d_Command_init := e_ini X G gCommand a_Command_init i_Command_init l_Command_init c_Command_init k_Command_init mkCommand kcCommand (fun F => F.binds fun _ _ _ _ _ _ us hl => match us, hl with | [_, _, _], _ => rfl),
    d_everywhere := e_def X G a_everywhere l_everywhere c_everywhere k_everywhere (fun F => F.binds fun _ _ _ _ _ _ us hl => match us, hl with | [], _ => rfl),
    d_never_done := e_def X G a_never_done l_never_done c_never_done k_never_done (fun F => F.binds fun _ _ _ _ _ _ us hl => match us, hl with | [], _ => rfl),
    d_without := e_def X G a_without l_without c_without k_without (fun F => F.binds fun _ _ _ _ _ _ us hl => match us, hl with | [_, _], _ => rfl),
    d_taken_out := e_def X G a_taken_out l_taken_out c_taken_out k_taken_out (fun F => F.binds fun _ _ _ _ _ _ us hl => match us, hl with | [_, _], _ => rfl),
    d_turned := e_def X G a_turned l_turned c_turned k_turned (fun F => F.binds fun _ _ _ _ _ _ us hl => match us, hl with | [_, _], _ => rfl),
    d_has_skip := e_def X G a_has_skip l_has_skip c_has_skip k_has_skip (fun F => F.binds fun _ _ _ _ _ _ us hl => match us, hl with | [_], _ => rfl),
    d_form_of := e_def X G a_form_of l_form_of c_form_of k_form_of (fun F => F.binds fun _ _ _ _ _ _ us hl => match us, hl with | [_], _ => rfl),
    d_command_form := e_def X G a_command_form l_command_form c_command_form k_command_form (fun F => F.binds fun _ _ _ _ _ _ us hl => match us, hl with | [_], _ => rfl),
    d_address_words := e_def X G a_address_words l_address_words c_address_words k_address_words (fun F => F.binds fun _ _ _ _ _ _ us hl => match us, hl with | [_], _ => rfl),
    d_deed_words := e_def X G a_deed_words l_deed_words c_deed_words k_deed_words (fun F => F.binds fun _ _ _ _ _ _ us hl => match us, hl with | [_], _ => rfl),
    d_Token_init := e_ini X G gToken a_Token_init i_Token_init l_Token_init c_Token_init k_Token_init mkToken kcToken (fun F => F.binds fun _ _ _ _ _ _ us hl => match us, hl with | [_, _, _, _, _], _ => rfl),
    d_tokens_of := e_def X G a_tokens_of l_tokens_of c_tokens_of k_tokens_of (fun F => F.binds fun _ _ _ _ _ _ us hl => match us, hl with | [_], _ => rfl),
    d_behind_blanks := e_def X G a_behind_blanks l_behind_blanks c_behind_blanks k_behind_blanks (fun F => F.binds fun _ _ _ _ _ _ us hl => match us, hl with | [_, _], _ => rfl),
    d_behind_remark := e_def X G a_behind_remark l_behind_remark c_behind_remark k_behind_remark (fun F => F.binds fun _ _ _ _ _ _ us hl => match us, hl with | [_, _], _ => rfl),
    d_token_at := e_def X G a_token_at l_token_at c_token_at k_token_at (fun F => F.binds fun _ _ _ _ _ _ us hl => match us, hl with | [_, _], _ => rfl),
    d_is_letter := e_def X G a_is_letter l_is_letter c_is_letter k_is_letter (fun F => F.binds fun _ _ _ _ _ _ us hl => match us, hl with | [_], _ => rfl),
    d_is_digit := e_def X G a_is_digit l_is_digit c_is_digit k_is_digit (fun F => F.binds fun _ _ _ _ _ _ us hl => match us, hl with | [_], _ => rfl),
    d_word_at := e_def X G a_word_at l_word_at c_word_at k_word_at (fun F => F.binds fun _ _ _ _ _ _ us hl => match us, hl with | [_, _], _ => rfl),
    d_text_of := e_def X G a_text_of l_text_of c_text_of k_text_of (fun F => F.binds fun _ _ _ _ _ _ us hl => match us, hl with | [_], _ => rfl),
    d_number_at := e_def X G a_number_at l_number_at c_number_at k_number_at (fun F => F.binds fun _ _ _ _ _ _ us hl => match us, hl with | [_, _], _ => rfl),
    d_value_of := e_def X G a_value_of l_value_of c_value_of k_value_of (fun F => F.binds fun _ _ _ _ _ _ us hl => match us, hl with | [_], _ => rfl),
    d_is_plain := e_def X G a_is_plain l_is_plain c_is_plain k_is_plain (fun F => F.binds fun _ _ _ _ _ _ us hl => match us, hl with | [_], _ => rfl),
    d_looked_for := e_def X G a_looked_for l_looked_for c_looked_for k_looked_for (fun F => F.binds fun _ _ _ _ _ _ us hl => match us, hl with | [_], _ => rfl),
    d_own_words := e_def X G a_own_words l_own_words c_own_words k_own_words (fun F => F.binds fun _ _ _ _ _ _ us hl => match us, hl with | [_], _ => rfl),
    d_kinds_of := e_def X G a_kinds_of l_kinds_of c_kinds_of k_kinds_of (fun F => F.binds fun _ _ _ _ _ _ us hl => match us, hl with | [_], _ => rfl),
    d_free_letter := e_def X G a_free_letter l_free_letter c_free_letter k_free_letter (fun F => F.binds fun _ _ _ _ _ _ us hl => match us, hl with | [_], _ => rfl),
    d_first_lines := e_def X G a_first_lines l_first_lines c_first_lines k_first_lines (fun F => F.binds fun _ _ _ _ _ _ us hl => match us, hl with | [_], _ => rfl),
    d_beginnings_of := e_def X G a_beginnings_of l_beginnings_of c_beginnings_of k_beginnings_of (fun F => F.binds fun _ _ _ _ _ _ us hl => match us, hl with | [_], _ => rfl),
    d_words_had := e_def X G a_words_had l_words_had c_words_had k_words_had (fun F => F.binds fun _ _ _ _ _ _ us hl => match us, hl with | [_, _, _], _ => rfl),
    d_longest_beginning := e_def X G a_longest_beginning l_longest_beginning c_longest_beginning k_longest_beginning (fun F => F.binds fun _ _ _ _ _ _ us hl => match us, hl with | [_, _], _ => rfl),
    d_LineRun_init := e_ini X G gLineRun a_LineRun_init i_LineRun_init l_LineRun_init c_LineRun_init k_LineRun_init mkLineRun kcLineRun (fun F => F.binds fun _ _ _ _ _ _ us hl => match us, hl with | [_, _], _ => rfl),
    d_LineRun_coming := e_met a_LineRun_coming i_LineRun_coming l_LineRun_coming c_LineRun_coming k_LineRun_coming (fun F => F.binds fun _ _ _ _ _ _ us hl => match us, hl with | [_], _ => rfl),
    d_line_run := e_def X G a_line_run l_line_run c_line_run k_line_run (fun F => F.binds fun _ _ _ _ _ _ us hl => match us, hl with | [_, _, _], _ => rfl),
    d_holds := e_def X G a_holds l_holds c_holds k_holds (fun F => F.binds fun _ _ _ _ _ _ us hl => match us, hl with | [_, _, _], _ => rfl),
    d_holds_without_nots := e_def X G a_holds_without_nots l_holds_without_nots c_holds_without_nots k_holds_without_nots (fun F => F.binds fun _ _ _ _ _ _ us hl => match us, hl with | [_, _, _], _ => rfl),
    d_do_deed := e_def X G a_do_deed l_do_deed c_do_deed k_do_deed (fun F => F.binds fun _ _ _ _ _ _ us hl => match us, hl with | [_, _], _ => rfl),
    d_Outcome_init := e_ini X G gOutcome a_Outcome_init i_Outcome_init l_Outcome_init c_Outcome_init k_Outcome_init mkOutcome kcOutcome (fun F => F.binds fun _ _ _ _ _ _ us hl => match us, hl with | [_, _, _, _], _ => rfl),
    d_all_places := e_def X G a_all_places l_all_places c_all_places k_all_places (fun F => F.binds fun _ _ _ _ _ _ us hl => match us, hl with | [], _ => rfl),
    d_all_outcomes := e_def X G a_all_outcomes l_all_outcomes c_all_outcomes k_all_outcomes (fun F => F.binds fun _ _ _ _ _ _ us hl => match us, hl with | [_, _], _ => rfl),
    d_where_done := e_def X G a_where_done l_where_done c_where_done k_where_done (fun F => F.binds fun _ _ _ _ _ _ us hl => match us, hl with | [_, _], _ => rfl),
    d_first_unlike := e_def X G a_first_unlike l_first_unlike c_first_unlike k_first_unlike (fun F => F.binds fun _ _ _ _ _ _ us hl => match us, hl with | [_, _], _ => rfl),
    d_numbers_of := e_def X G a_numbers_of l_numbers_of c_numbers_of k_numbers_of (fun F => F.binds fun _ _ _ _ _ _ us hl => match us, hl with | [_], _ => rfl),
    d_first_unsafe := e_def X G a_first_unsafe l_first_unsafe c_first_unsafe k_first_unsafe (fun F => F.binds fun _ _ _ _ _ _ us hl => match us, hl with | [_, _], _ => rfl),
    d_Reader_init := e_ini X G gReader a_Reader_init i_Reader_init l_Reader_init c_Reader_init k_Reader_init mkReader kcReader (fun F => F.binds fun _ _ _ _ _ _ us hl => match us, hl with | [_, _], _ => rfl),
    d_Reader_here := e_met a_Reader_here i_Reader_here l_Reader_here c_Reader_here k_Reader_here (fun F => F.binds fun _ _ _ _ _ _ us hl => match us, hl with | [_], _ => rfl),
    d_Reader_stands := e_met a_Reader_stands i_Reader_stands l_Reader_stands c_Reader_stands k_Reader_stands (fun F => F.binds fun _ _ _ _ _ _ us hl => match us, hl with | [_, _], _ => rfl),
    d_Reader_take_kind := e_met a_Reader_take_kind i_Reader_take_kind l_Reader_take_kind c_Reader_take_kind k_Reader_take_kind (fun F => F.binds fun _ _ _ _ _ _ us hl => match us, hl with | [_, _], _ => rfl),
    d_Reader_take_word := e_met a_Reader_take_word i_Reader_take_word l_Reader_take_word c_Reader_take_word k_Reader_take_word (fun F => F.binds fun _ _ _ _ _ _ us hl => match us, hl with | [_, _], _ => rfl),
    d_Reader_take_letters := e_met a_Reader_take_letters i_Reader_take_letters l_Reader_take_letters c_Reader_take_letters k_Reader_take_letters (fun F => F.binds fun _ _ _ _ _ _ us hl => match us, hl with | [_], _ => rfl),
    d_Reader_take_number := e_met a_Reader_take_number i_Reader_take_number l_Reader_take_number c_Reader_take_number k_Reader_take_number (fun F => F.binds fun _ _ _ _ _ _ us hl => match us, hl with | [_, _, _], _ => rfl),
    d_commands_of := e_def X G a_commands_of l_commands_of c_commands_of k_commands_of (fun F => F.binds fun _ _ _ _ _ _ us hl => match us, hl with | [_], _ => rfl),
    d_read_command := e_def X G a_read_command l_read_command c_read_command k_read_command (fun F => F.binds fun _ _ _ _ _ _ us hl => match us, hl with | [_], _ => rfl),
    d_read_address := e_def X G a_read_address l_read_address c_read_address k_read_address (fun F => F.binds fun _ _ _ _ _ _ us hl => match us, hl with | [_], _ => rfl),
    d_read_nots := e_def X G a_read_nots l_read_nots c_read_nots k_read_nots (fun F => F.binds fun _ _ _ _ _ _ us hl => match us, hl with | [_], _ => rfl),
    d_read_deed := e_def X G a_read_deed l_read_deed c_read_deed k_read_deed (fun F => F.binds fun _ _ _ _ _ _ us hl => match us, hl with | [_], _ => rfl),
    d_read_other := e_def X G a_read_other l_read_other c_read_other k_read_other (fun F => F.binds fun _ _ _ _ _ _ us hl => match us, hl with | [_], _ => rfl),
    d_Holder_init := e_ini X G gHolder a_Holder_init i_Holder_init l_Holder_init c_Holder_init k_Holder_init mkHolder kcHolder (fun F => F.binds fun _ _ _ _ _ _ us hl => match us, hl with | [_], _ => rfl),
    d_Holder_hold := e_met a_Holder_hold i_Holder_hold l_Holder_hold c_Holder_hold k_Holder_hold (fun F => F.binds fun _ _ _ _ _ _ us hl => match us, hl with | [_, _], _ => rfl),
    d_Holder_load := e_met a_Holder_load i_Holder_load l_Holder_load c_Holder_load k_Holder_load (fun F => F.binds fun _ _ _ _ _ _ us hl => match us, hl with | [_, _], _ => rfl),
    d_Holder_shown := e_met a_Holder_shown i_Holder_shown l_Holder_shown c_Holder_shown k_Holder_shown (fun F => F.binds fun _ _ _ _ _ _ us hl => match us, hl with | [_], _ => rfl),
    d_Holder_kinds := e_met a_Holder_kinds i_Holder_kinds l_Holder_kinds c_Holder_kinds k_Holder_kinds (fun F => F.binds fun _ _ _ _ _ _ us hl => match us, hl with | [_], _ => rfl),
    d_Holder_can := e_met a_Holder_can i_Holder_can l_Holder_can c_Holder_can k_Holder_can (fun F => F.binds fun _ _ _ _ _ _ us hl => match us, hl with | [_, _], _ => rfl),
    d_Holder_matters := e_met a_Holder_matters i_Holder_matters l_Holder_matters c_Holder_matters k_Holder_matters (fun F => F.binds fun _ _ _ _ _ _ us hl => match us, hl with | [_, _], _ => rfl),
    d_Holder_idle := e_met a_Holder_idle i_Holder_idle l_Holder_idle c_Holder_idle k_Holder_idle (fun F => F.binds fun _ _ _ _ _ _ us hl => match us, hl with | [_], _ => rfl),
    d_Holder_turn := e_met a_Holder_turn i_Holder_turn l_Holder_turn c_Holder_turn k_Holder_turn (fun F => F.binds fun _ _ _ _ _ _ us hl => match us, hl with | [_, _], _ => rfl),
    d_Holder_lines := e_met a_Holder_lines i_Holder_lines l_Holder_lines c_Holder_lines k_Holder_lines (fun F => F.binds fun _ _ _ _ _ _ us hl => match us, hl with | [_, _], _ => rfl),
    d_Holder_safe := e_met a_Holder_safe i_Holder_safe l_Holder_safe c_Holder_safe k_Holder_safe (fun F => F.binds fun _ _ _ _ _ _ us hl => match us, hl with | [_, _], _ => rfl),
    d_Holder_prune := e_met a_Holder_prune i_Holder_prune l_Holder_prune c_Holder_prune k_Holder_prune (fun F => F.binds fun _ _ _ _ _ _ us hl => match us, hl with | [_], _ => rfl),
    d_Holder_has_command := e_met a_Holder_has_command i_Holder_has_command l_Holder_has_command c_Holder_has_command k_Holder_has_command (fun F => F.binds fun _ _ _ _ _ _ us hl => match us, hl with | [_, _], _ => rfl),
    d_Holder_first_mattering := e_met a_Holder_first_mattering i_Holder_first_mattering l_Holder_first_mattering c_Holder_first_mattering k_Holder_first_mattering (fun F => F.binds fun _ _ _ _ _ _ us hl => match us, hl with | [_, _], _ => rfl),
    d_Holder_first_idle := e_met a_Holder_first_idle i_Holder_first_idle l_Holder_first_idle c_Holder_first_idle k_Holder_first_idle (fun F => F.binds fun _ _ _ _ _ _ us hl => match us, hl with | [_], _ => rfl),
    d_answers := e_def X G a_answers l_answers c_answers k_answers (fun F => F.binds fun _ _ _ _ _ _ us hl => match us, hl with | [_], _ => rfl),
    d_behind_call := e_def X G a_behind_call l_behind_call c_behind_call k_behind_call (fun F => F.binds fun _ _ _ _ _ _ us hl => match us, hl with | [_, _], _ => rfl),
    d_answer_of := e_def X G a_answer_of l_answer_of c_answer_of k_answer_of (fun F => F.binds fun _ _ _ _ _ _ us hl => match us, hl with | [_, _], _ => rfl),
    d_answer_of_command := e_def X G a_answer_of_command l_answer_of_command c_answer_of_command k_answer_of_command (fun F => F.binds fun _ _ _ _ _ _ us hl => match us, hl with | [_, _, _], _ => rfl),
    d_told_text := e_def X G a_told_text l_told_text c_told_text k_told_text (fun F => F.binds fun _ _ _ _ _ _ us hl => match us, hl with | [_], _ => rfl),
    d_told_place_and_kind := e_def X G a_told_place_and_kind l_told_place_and_kind c_told_place_and_kind k_told_place_and_kind (fun F => F.binds fun _ _ _ _ _ _ us hl => match us, hl with | [_], _ => rfl),
    flt := e_flt X G gFault xF saF upF tyF kpF gaF ggF hdF n1F n2F a_Fault_init t_Fault_init l_Fault_init c_Fault_init k_Fault_init icF ssF (fun F => F.binds fun _ _ _ _ _ _ us hl => match us, hl with | [_, _, _], _ => rfl),
    g_LETTERS := e_str X G h_LETTERS,
    g_BLANKS := e_tup X G h_BLANKS l_BLANKS z_BLANKS v_BLANKS,
    g_LINE_END := e_int X G h_LINE_END,
    g_REMARK := e_int X G h_REMARK,
    g_SIGN := e_int X G h_SIGN,
    g_FIRST_LETTER := e_int X G h_FIRST_LETTER,
    g_FINAL_LETTER := e_int X G h_FINAL_LETTER,
    g_FIRST_DIGIT := e_int X G h_FIRST_DIGIT,
    g_FINAL_DIGIT := e_int X G h_FINAL_DIGIT,
    g_LONGEST_WORD := e_int X G h_LONGEST_WORD,
    g_GREATEST_NUMBER := e_int X G h_GREATEST_NUMBER,
    g_LONGEST_NUMBER := e_int X G h_LONGEST_NUMBER,
    g_DEEDS_NOT_PLAIN := e_tup X G h_DEEDS_NOT_PLAIN l_DEEDS_NOT_PLAIN z_DEEDS_NOT_PLAIN v_DEEDS_NOT_PLAIN,
    g_MOST_LOOKED_FOR := e_int X G h_MOST_LOOKED_FOR,
    g_MOST_LETTERS := e_int X G h_MOST_LETTERS,
    g_LONGEST_LINE := e_int X G h_LONGEST_LINE,
    g_LEAST_FILLED := e_int X G h_LEAST_FILLED,
    g_FINAL_LINE := e_int X G h_FINAL_LINE,
    g_MOST_BYTES := e_int X G h_MOST_BYTES,
    g_MOST_COMMANDS := e_int X G h_MOST_COMMANDS,
    g_MOST_NOTS := e_int X G h_MOST_NOTS,
    g_GREATEST_LINE := e_int X G h_GREATEST_LINE,
    g_GREATEST_SKIP := e_int X G h_GREATEST_SKIP,
    g_OWN_WORDS := e_tup X G h_OWN_WORDS l_OWN_WORDS z_OWN_WORDS v_OWN_WORDS,
    g_DEEDS_ALONE := e_tup X G h_DEEDS_ALONE l_DEEDS_ALONE z_DEEDS_ALONE v_DEEDS_ALONE,
    g_DEEDS_OF_LETTERS := e_tup X G h_DEEDS_OF_LETTERS l_DEEDS_OF_LETTERS z_DEEDS_OF_LETTERS v_DEEDS_OF_LETTERS,
    g_DEEDS_OF_TWO := e_tup X G h_DEEDS_OF_TWO l_DEEDS_OF_TWO z_DEEDS_OF_TWO v_DEEDS_OF_TWO,
    g_LOAD := e_int X G h_LOAD,
    g_SHOWN := e_int X G h_SHOWN,
    g_KINDS := e_int X G h_KINDS,
    g_CAN := e_int X G h_CAN,
    g_MATTERS := e_int X G h_MATTERS,
    g_IDLE := e_int X G h_IDLE,
    g_TURN := e_int X G h_TURN,
    g_SAFE := e_int X G h_SAFE,
    g_CALLS_WITH_A_NUMBER := e_tup X G h_CALLS_WITH_A_NUMBER l_CALLS_WITH_A_NUMBER z_CALLS_WITH_A_NUMBER v_CALLS_WITH_A_NUMBER,
    g_CALLS_WITH_A_LIST := e_tup X G h_CALLS_WITH_A_LIST l_CALLS_WITH_A_LIST z_CALLS_WITH_A_LIST v_CALLS_WITH_A_LIST,
    g_NO_SCRIPT := e_int X G h_NO_SCRIPT,
    g_NO_SUCH_COMMAND := e_int X G h_NO_SUCH_COMMAND,
    g_HAS_SKIP := e_int X G h_HAS_SKIP,
    g_NOT_A_LINE := e_int X G h_NOT_A_LINE,
    g_NOT_PLAIN := e_int X G h_NOT_PLAIN,
    z_all := e_none X G h_z_all,
    z_any := e_none X G h_z_any,
    z_enumerate := e_none X G h_z_enumerate,
    z_len := e_none X G h_z_len,
    z_list := e_none X G h_z_list,
    z_ord := e_none X G h_z_ord,
    z_range := e_none X G h_z_range,
    z_set := e_none X G h_z_set,
    z_sorted := e_none X G h_z_sorted,
    z_str := e_none X G h_z_str,
    z_tuple := e_none X G h_z_tuple,
    z_Exception := e_none X G h_z_Exception }
  have Z : Apart ⟨CAddress, CDeed, CCommand, CFault, CToken, CLineRun, COutcome, CReader, CHolder⟩ := ⟨ap_h1, ap_h2, ap_h3, ap_h4, ap_h5, ap_h6, ap_r1, ap_r2, ap_r3, ap_r4, ap_r5, ap_r6, ap_hr⟩
  have F := fun_mk (st := s_answers) l_answers c_answers k_answers
  exact ⟨_, fun s us hu => match us, hu with | [_], _ => .of_eq rfl, fun base _ _ => okF_answers T Z F⟩
end SK
set_option Elab.async false
open PySem PySem.W PyProof.Rows
set_option maxRecDepth 100000 in
set_option maxHeartbeats 80000000 in
theorem PySem.Challenge.cw_scriptsknown_s01_answers_holds : PySem.Challenge.rw_scriptsknown_s01_answers.Holds := by
  w_on; k_headS; (case hw => exact ⟨[.list [.int 1]], by decide +kernel, by decide +kernel⟩)
  k_fillS
  refine L2.walk_specK (r := PySem.Challenge.rw_scriptsknown_s01_answers) (k := 11) (CX := L2.CX0) (ps := ["calls"]) (sp := SK.sp_ans) (by decide +kernel) rfl rfl ⟨rfl, by decide, by decide⟩ (fun w h Y => PySem.W.kIn_of Y) ?F ?S (fun _ _ _ _ z => z)
  case F =>
    intro w mg fa h Y KX G hmg
    refine' SK.fin KX G hmg ?gAddress ?gDeed ?gCommand ?gToken ?gLineRun ?gOutcome ?gReader ?gHolder ?gFault ?pgAddress ?hdAddress ?poAddress ?saAddress ?mkAddress ?kcAddress ?n_Address_nots ?n_Address_name ?n_Address_first ?n_Address_final ?n_Address_letters ?pgDeed ?hdDeed ?poDeed ?saDeed ?mkDeed ?kcDeed ?n_Deed_name ?n_Deed_letters ?n_Deed_other ?n_Deed_number ?pgCommand ?hdCommand ?poCommand ?saCommand ?mkCommand ?kcCommand ?n_Command_address ?n_Command_deed ?pgToken ?hdToken ?poToken ?saToken ?mkToken ?kcToken ?n_Token_kind ?n_Token_value ?n_Token_place ?n_Token_behind ?pgLineRun ?hdLineRun ?poLineRun ?saLineRun ?mkLineRun ?kcLineRun ?n_LineRun_line ?n_LineRun_done ?n_LineRun_ahead ?n_LineRun_behind ?n_LineRun_left_out ?n_LineRun_deleted ?n_LineRun_over ?pgOutcome ?hdOutcome ?poOutcome ?saOutcome ?mkOutcome ?kcOutcome ?n_Outcome_place ?n_Outcome_kind ?n_Outcome_run ?pgReader ?hdReader ?poReader ?saReader ?mkReader ?kcReader ?n_Reader_tokens ?n_Reader_at ?pgHolder ?hdHolder ?poHolder ?saHolder ?mkHolder ?kcHolder ?n_Holder_commands ?n_Holder_kinds_held ?n_Holder_outcomes ?a_Address_init ?i_Address_init ?l_Address_init ?c_Address_init ?k_Address_init ?a_Deed_init ?i_Deed_init ?l_Deed_init ?c_Deed_init ?k_Deed_init ?a_Command_init ?i_Command_init ?l_Command_init ?c_Command_init ?k_Command_init ?a_everywhere ?l_everywhere ?c_everywhere ?k_everywhere ?a_never_done ?l_never_done ?c_never_done ?k_never_done ?a_without ?l_without ?c_without ?k_without ?a_taken_out ?l_taken_out ?c_taken_out ?k_taken_out ?a_turned ?l_turned ?c_turned ?k_turned ?a_has_skip ?l_has_skip ?c_has_skip ?k_has_skip ?a_form_of ?l_form_of ?c_form_of ?k_form_of ?a_command_form ?l_command_form ?c_command_form ?k_command_form ?a_address_words ?l_address_words ?c_address_words ?k_address_words ?a_deed_words ?l_deed_words ?c_deed_words ?k_deed_words ?a_Token_init ?i_Token_init ?l_Token_init ?c_Token_init ?k_Token_init ?a_tokens_of ?l_tokens_of ?c_tokens_of ?k_tokens_of ?a_behind_blanks ?l_behind_blanks ?c_behind_blanks ?k_behind_blanks ?a_behind_remark ?l_behind_remark ?c_behind_remark ?k_behind_remark ?a_token_at ?l_token_at ?c_token_at ?k_token_at ?a_is_letter ?l_is_letter ?c_is_letter ?k_is_letter ?a_is_digit ?l_is_digit ?c_is_digit ?k_is_digit ?a_word_at ?l_word_at ?c_word_at ?k_word_at ?a_text_of ?l_text_of ?c_text_of ?k_text_of ?a_number_at ?l_number_at ?c_number_at ?k_number_at ?a_value_of ?l_value_of ?c_value_of ?k_value_of ?a_is_plain ?l_is_plain ?c_is_plain ?k_is_plain ?a_looked_for ?l_looked_for ?c_looked_for ?k_looked_for ?a_own_words ?l_own_words ?c_own_words ?k_own_words ?a_kinds_of ?l_kinds_of ?c_kinds_of ?k_kinds_of ?a_free_letter ?l_free_letter ?c_free_letter ?k_free_letter ?a_first_lines ?l_first_lines ?c_first_lines ?k_first_lines ?a_beginnings_of ?l_beginnings_of ?c_beginnings_of ?k_beginnings_of ?a_words_had ?l_words_had ?c_words_had ?k_words_had ?a_longest_beginning ?l_longest_beginning ?c_longest_beginning ?k_longest_beginning ?a_LineRun_init ?i_LineRun_init ?l_LineRun_init ?c_LineRun_init ?k_LineRun_init ?a_LineRun_coming ?i_LineRun_coming ?l_LineRun_coming ?c_LineRun_coming ?k_LineRun_coming ?a_line_run ?l_line_run ?c_line_run ?k_line_run ?a_holds ?l_holds ?c_holds ?k_holds ?a_holds_without_nots ?l_holds_without_nots ?c_holds_without_nots ?k_holds_without_nots ?a_do_deed ?l_do_deed ?c_do_deed ?k_do_deed ?a_Outcome_init ?i_Outcome_init ?l_Outcome_init ?c_Outcome_init ?k_Outcome_init ?a_all_places ?l_all_places ?c_all_places ?k_all_places ?a_all_outcomes ?l_all_outcomes ?c_all_outcomes ?k_all_outcomes ?a_where_done ?l_where_done ?c_where_done ?k_where_done ?a_first_unlike ?l_first_unlike ?c_first_unlike ?k_first_unlike ?a_numbers_of ?l_numbers_of ?c_numbers_of ?k_numbers_of ?a_first_unsafe ?l_first_unsafe ?c_first_unsafe ?k_first_unsafe ?a_Reader_init ?i_Reader_init ?l_Reader_init ?c_Reader_init ?k_Reader_init ?a_Reader_here ?i_Reader_here ?l_Reader_here ?c_Reader_here ?k_Reader_here ?a_Reader_stands ?i_Reader_stands ?l_Reader_stands ?c_Reader_stands ?k_Reader_stands ?a_Reader_take_kind ?i_Reader_take_kind ?l_Reader_take_kind ?c_Reader_take_kind ?k_Reader_take_kind ?a_Reader_take_word ?i_Reader_take_word ?l_Reader_take_word ?c_Reader_take_word ?k_Reader_take_word ?a_Reader_take_letters ?i_Reader_take_letters ?l_Reader_take_letters ?c_Reader_take_letters ?k_Reader_take_letters ?a_Reader_take_number ?i_Reader_take_number ?l_Reader_take_number ?c_Reader_take_number ?k_Reader_take_number ?a_commands_of ?l_commands_of ?c_commands_of ?k_commands_of ?a_read_command ?l_read_command ?c_read_command ?k_read_command ?a_read_address ?l_read_address ?c_read_address ?k_read_address ?a_read_nots ?l_read_nots ?c_read_nots ?k_read_nots ?a_read_deed ?l_read_deed ?c_read_deed ?k_read_deed ?a_read_other ?l_read_other ?c_read_other ?k_read_other ?a_Holder_init ?i_Holder_init ?l_Holder_init ?c_Holder_init ?k_Holder_init ?a_Holder_hold ?i_Holder_hold ?l_Holder_hold ?c_Holder_hold ?k_Holder_hold ?a_Holder_load ?i_Holder_load ?l_Holder_load ?c_Holder_load ?k_Holder_load ?a_Holder_shown ?i_Holder_shown ?l_Holder_shown ?c_Holder_shown ?k_Holder_shown ?a_Holder_kinds ?i_Holder_kinds ?l_Holder_kinds ?c_Holder_kinds ?k_Holder_kinds ?a_Holder_can ?i_Holder_can ?l_Holder_can ?c_Holder_can ?k_Holder_can ?a_Holder_matters ?i_Holder_matters ?l_Holder_matters ?c_Holder_matters ?k_Holder_matters ?a_Holder_idle ?i_Holder_idle ?l_Holder_idle ?c_Holder_idle ?k_Holder_idle ?a_Holder_turn ?i_Holder_turn ?l_Holder_turn ?c_Holder_turn ?k_Holder_turn ?a_Holder_lines ?i_Holder_lines ?l_Holder_lines ?c_Holder_lines ?k_Holder_lines ?a_Holder_safe ?i_Holder_safe ?l_Holder_safe ?c_Holder_safe ?k_Holder_safe ?a_Holder_prune ?i_Holder_prune ?l_Holder_prune ?c_Holder_prune ?k_Holder_prune ?a_Holder_has_command ?i_Holder_has_command ?l_Holder_has_command ?c_Holder_has_command ?k_Holder_has_command ?a_Holder_first_mattering ?i_Holder_first_mattering ?l_Holder_first_mattering ?c_Holder_first_mattering ?k_Holder_first_mattering ?a_Holder_first_idle ?i_Holder_first_idle ?l_Holder_first_idle ?c_Holder_first_idle ?k_Holder_first_idle ?a_answers ?l_answers ?c_answers ?k_answers ?a_behind_call ?l_behind_call ?c_behind_call ?k_behind_call ?a_answer_of ?l_answer_of ?c_answer_of ?k_answer_of ?a_answer_of_command ?l_answer_of_command ?c_answer_of_command ?k_answer_of_command ?a_told_text ?l_told_text ?c_told_text ?k_told_text ?a_told_place_and_kind ?l_told_place_and_kind ?c_told_place_and_kind ?k_told_place_and_kind ?xF ?saF ?upF ?tyF ?kpF ?gaF ?ggF ?hdF ?n1F ?n2F ?a_Fault_init ?t_Fault_init ?l_Fault_init ?c_Fault_init ?k_Fault_init ?icF ?ssF ?h_LETTERS ?h_BLANKS ?l_BLANKS ?z_BLANKS ?v_BLANKS ?h_LINE_END ?h_REMARK ?h_SIGN ?h_FIRST_LETTER ?h_FINAL_LETTER ?h_FIRST_DIGIT ?h_FINAL_DIGIT ?h_LONGEST_WORD ?h_GREATEST_NUMBER ?h_LONGEST_NUMBER ?h_DEEDS_NOT_PLAIN ?l_DEEDS_NOT_PLAIN ?z_DEEDS_NOT_PLAIN ?v_DEEDS_NOT_PLAIN ?h_MOST_LOOKED_FOR ?h_MOST_LETTERS ?h_LONGEST_LINE ?h_LEAST_FILLED ?h_FINAL_LINE ?h_MOST_BYTES ?h_MOST_COMMANDS ?h_MOST_NOTS ?h_GREATEST_LINE ?h_GREATEST_SKIP ?h_OWN_WORDS ?l_OWN_WORDS ?z_OWN_WORDS ?v_OWN_WORDS ?h_DEEDS_ALONE ?l_DEEDS_ALONE ?z_DEEDS_ALONE ?v_DEEDS_ALONE ?h_DEEDS_OF_LETTERS ?l_DEEDS_OF_LETTERS ?z_DEEDS_OF_LETTERS ?v_DEEDS_OF_LETTERS ?h_DEEDS_OF_TWO ?l_DEEDS_OF_TWO ?z_DEEDS_OF_TWO ?v_DEEDS_OF_TWO ?h_LOAD ?h_SHOWN ?h_KINDS ?h_CAN ?h_MATTERS ?h_IDLE ?h_TURN ?h_SAFE ?h_CALLS_WITH_A_NUMBER ?l_CALLS_WITH_A_NUMBER ?z_CALLS_WITH_A_NUMBER ?v_CALLS_WITH_A_NUMBER ?h_CALLS_WITH_A_LIST ?l_CALLS_WITH_A_LIST ?z_CALLS_WITH_A_LIST ?v_CALLS_WITH_A_LIST ?h_NO_SCRIPT ?h_NO_SUCH_COMMAND ?h_HAS_SKIP ?h_NOT_A_LINE ?h_NOT_PLAIN ?h_z_all ?h_z_any ?h_z_enumerate ?h_z_len ?h_z_list ?h_z_ord ?h_z_range ?h_z_set ?h_z_sorted ?h_z_str ?h_z_tuple ?h_z_Exception ?ap_h1 ?ap_h2 ?ap_h3 ?ap_h4 ?ap_h5 ?ap_h6 ?ap_r1 ?ap_r2 ?ap_r3 ?ap_r4 ?ap_r5 ?ap_r6 ?ap_hr
    (case gAddress => k_is)
    (case gDeed => k_is)
    (case gCommand => k_is)
    (case gToken => k_is)
    (case gLineRun => k_is)
    (case gOutcome => k_is)
    (case gReader => k_is)
    (case gHolder => k_is)
    (case gFault => k_is)
    (case pgAddress => k_is)
    (case hdAddress => k_is)
    (case poAddress => k_is)
    (case saAddress => k_is)
    (case mkAddress => k_is)
    (case kcAddress => k_is)
    (case n_Address_nots => k_is)
    (case n_Address_name => k_is)
    (case n_Address_first => k_is)
    (case n_Address_final => k_is)
    (case n_Address_letters => k_is)
    (case pgDeed => k_is)
    (case hdDeed => k_is)
    (case poDeed => k_is)
    (case saDeed => k_is)
    (case mkDeed => k_is)
    (case kcDeed => k_is)
    (case n_Deed_name => k_is)
    (case n_Deed_letters => k_is)
    (case n_Deed_other => k_is)
    (case n_Deed_number => k_is)
    (case pgCommand => k_is)
    (case hdCommand => k_is)
    (case poCommand => k_is)
    (case saCommand => k_is)
    (case mkCommand => k_is)
    (case kcCommand => k_is)
    (case n_Command_address => k_is)
    (case n_Command_deed => k_is)
    (case pgToken => k_is)
    (case hdToken => k_is)
    (case poToken => k_is)
    (case saToken => k_is)
    (case mkToken => k_is)
    (case kcToken => k_is)
    (case n_Token_kind => k_is)
    (case n_Token_value => k_is)
    (case n_Token_place => k_is)
    (case n_Token_behind => k_is)
    (case pgLineRun => k_is)
    (case hdLineRun => k_is)
    (case poLineRun => k_is)
    (case saLineRun => k_is)
    (case mkLineRun => k_is)
    (case kcLineRun => k_is)
    (case n_LineRun_line => k_is)
    (case n_LineRun_done => k_is)
    (case n_LineRun_ahead => k_is)
    (case n_LineRun_behind => k_is)
    (case n_LineRun_left_out => k_is)
    (case n_LineRun_deleted => k_is)
    (case n_LineRun_over => k_is)
    (case pgOutcome => k_is)
    (case hdOutcome => k_is)
    (case poOutcome => k_is)
    (case saOutcome => k_is)
    (case mkOutcome => k_is)
    (case kcOutcome => k_is)
    (case n_Outcome_place => k_is)
    (case n_Outcome_kind => k_is)
    (case n_Outcome_run => k_is)
    (case pgReader => k_is)
    (case hdReader => k_is)
    (case poReader => k_is)
    (case saReader => k_is)
    (case mkReader => k_is)
    (case kcReader => k_is)
    (case n_Reader_tokens => k_is)
    (case n_Reader_at => k_is)
    (case pgHolder => k_is)
    (case hdHolder => k_is)
    (case poHolder => k_is)
    (case saHolder => k_is)
    (case mkHolder => k_is)
    (case kcHolder => k_is)
    (case n_Holder_commands => k_is)
    (case n_Holder_kinds_held => k_is)
    (case n_Holder_outcomes => k_is)
    (case a_Address_init => k_is)
    (case i_Address_init => k_is)
    (case l_Address_init => k_is)
    (case c_Address_init => k_is)
    (case k_Address_init => k_is)
    (case a_Deed_init => k_is)
    (case i_Deed_init => k_is)
    (case l_Deed_init => k_is)
    (case c_Deed_init => k_is)
    (case k_Deed_init => k_is)
    (case a_Command_init => k_is)
    (case i_Command_init => k_is)
    (case l_Command_init => k_is)
    (case c_Command_init => k_is)
    (case k_Command_init => k_is)
    (case a_everywhere => k_is)
    (case l_everywhere => k_is)
    (case c_everywhere => k_is)
    (case k_everywhere => k_is)
    (case a_never_done => k_is)
    (case l_never_done => k_is)
    (case c_never_done => k_is)
    (case k_never_done => k_is)
    (case a_without => k_is)
    (case l_without => k_is)
    (case c_without => k_is)
    (case k_without => k_is)
    (case a_taken_out => k_is)
    (case l_taken_out => k_is)
    (case c_taken_out => k_is)
    (case k_taken_out => k_is)
    (case a_turned => k_is)
    (case l_turned => k_is)
    (case c_turned => k_is)
    (case k_turned => k_is)
    (case a_has_skip => k_is)
    (case l_has_skip => k_is)
    (case c_has_skip => k_is)
    (case k_has_skip => k_is)
    (case a_form_of => k_is)
    (case l_form_of => k_is)
    (case c_form_of => k_is)
    (case k_form_of => k_is)
    (case a_command_form => k_is)
    (case l_command_form => k_is)
    (case c_command_form => k_is)
    (case k_command_form => k_is)
    (case a_address_words => k_is)
    (case l_address_words => k_is)
    (case c_address_words => k_is)
    (case k_address_words => k_is)
    (case a_deed_words => k_is)
    (case l_deed_words => k_is)
    (case c_deed_words => k_is)
    (case k_deed_words => k_is)
    (case a_Token_init => k_is)
    (case i_Token_init => k_is)
    (case l_Token_init => k_is)
    (case c_Token_init => k_is)
    (case k_Token_init => k_is)
    (case a_tokens_of => k_is)
    (case l_tokens_of => k_is)
    (case c_tokens_of => k_is)
    (case k_tokens_of => k_is)
    (case a_behind_blanks => k_is)
    (case l_behind_blanks => k_is)
    (case c_behind_blanks => k_is)
    (case k_behind_blanks => k_is)
    (case a_behind_remark => k_is)
    (case l_behind_remark => k_is)
    (case c_behind_remark => k_is)
    (case k_behind_remark => k_is)
    (case a_token_at => k_is)
    (case l_token_at => k_is)
    (case c_token_at => k_is)
    (case k_token_at => k_is)
    (case a_is_letter => k_is)
    (case l_is_letter => k_is)
    (case c_is_letter => k_is)
    (case k_is_letter => k_is)
    (case a_is_digit => k_is)
    (case l_is_digit => k_is)
    (case c_is_digit => k_is)
    (case k_is_digit => k_is)
    (case a_word_at => k_is)
    (case l_word_at => k_is)
    (case c_word_at => k_is)
    (case k_word_at => k_is)
    (case a_text_of => k_is)
    (case l_text_of => k_is)
    (case c_text_of => k_is)
    (case k_text_of => k_is)
    (case a_number_at => k_is)
    (case l_number_at => k_is)
    (case c_number_at => k_is)
    (case k_number_at => k_is)
    (case a_value_of => k_is)
    (case l_value_of => k_is)
    (case c_value_of => k_is)
    (case k_value_of => k_is)
    (case a_is_plain => k_is)
    (case l_is_plain => k_is)
    (case c_is_plain => k_is)
    (case k_is_plain => k_is)
    (case a_looked_for => k_is)
    (case l_looked_for => k_is)
    (case c_looked_for => k_is)
    (case k_looked_for => k_is)
    (case a_own_words => k_is)
    (case l_own_words => k_is)
    (case c_own_words => k_is)
    (case k_own_words => k_is)
    (case a_kinds_of => k_is)
    (case l_kinds_of => k_is)
    (case c_kinds_of => k_is)
    (case k_kinds_of => k_is)
    (case a_free_letter => k_is)
    (case l_free_letter => k_is)
    (case c_free_letter => k_is)
    (case k_free_letter => k_is)
    (case a_first_lines => k_is)
    (case l_first_lines => k_is)
    (case c_first_lines => k_is)
    (case k_first_lines => k_is)
    (case a_beginnings_of => k_is)
    (case l_beginnings_of => k_is)
    (case c_beginnings_of => k_is)
    (case k_beginnings_of => k_is)
    (case a_words_had => k_is)
    (case l_words_had => k_is)
    (case c_words_had => k_is)
    (case k_words_had => k_is)
    (case a_longest_beginning => k_is)
    (case l_longest_beginning => k_is)
    (case c_longest_beginning => k_is)
    (case k_longest_beginning => k_is)
    (case a_LineRun_init => k_is)
    (case i_LineRun_init => k_is)
    (case l_LineRun_init => k_is)
    (case c_LineRun_init => k_is)
    (case k_LineRun_init => k_is)
    (case a_LineRun_coming => k_is)
    (case i_LineRun_coming => k_is)
    (case l_LineRun_coming => k_is)
    (case c_LineRun_coming => k_is)
    (case k_LineRun_coming => k_is)
    (case a_line_run => k_is)
    (case l_line_run => k_is)
    (case c_line_run => k_is)
    (case k_line_run => k_is)
    (case a_holds => k_is)
    (case l_holds => k_is)
    (case c_holds => k_is)
    (case k_holds => k_is)
    (case a_holds_without_nots => k_is)
    (case l_holds_without_nots => k_is)
    (case c_holds_without_nots => k_is)
    (case k_holds_without_nots => k_is)
    (case a_do_deed => k_is)
    (case l_do_deed => k_is)
    (case c_do_deed => k_is)
    (case k_do_deed => k_is)
    (case a_Outcome_init => k_is)
    (case i_Outcome_init => k_is)
    (case l_Outcome_init => k_is)
    (case c_Outcome_init => k_is)
    (case k_Outcome_init => k_is)
    (case a_all_places => k_is)
    (case l_all_places => k_is)
    (case c_all_places => k_is)
    (case k_all_places => k_is)
    (case a_all_outcomes => k_is)
    (case l_all_outcomes => k_is)
    (case c_all_outcomes => k_is)
    (case k_all_outcomes => k_is)
    (case a_where_done => k_is)
    (case l_where_done => k_is)
    (case c_where_done => k_is)
    (case k_where_done => k_is)
    (case a_first_unlike => k_is)
    (case l_first_unlike => k_is)
    (case c_first_unlike => k_is)
    (case k_first_unlike => k_is)
    (case a_numbers_of => k_is)
    (case l_numbers_of => k_is)
    (case c_numbers_of => k_is)
    (case k_numbers_of => k_is)
    (case a_first_unsafe => k_is)
    (case l_first_unsafe => k_is)
    (case c_first_unsafe => k_is)
    (case k_first_unsafe => k_is)
    (case a_Reader_init => k_is)
    (case i_Reader_init => k_is)
    (case l_Reader_init => k_is)
    (case c_Reader_init => k_is)
    (case k_Reader_init => k_is)
    (case a_Reader_here => k_is)
    (case i_Reader_here => k_is)
    (case l_Reader_here => k_is)
    (case c_Reader_here => k_is)
    (case k_Reader_here => k_is)
    (case a_Reader_stands => k_is)
    (case i_Reader_stands => k_is)
    (case l_Reader_stands => k_is)
    (case c_Reader_stands => k_is)
    (case k_Reader_stands => k_is)
    (case a_Reader_take_kind => k_is)
    (case i_Reader_take_kind => k_is)
    (case l_Reader_take_kind => k_is)
    (case c_Reader_take_kind => k_is)
    (case k_Reader_take_kind => k_is)
    (case a_Reader_take_word => k_is)
    (case i_Reader_take_word => k_is)
    (case l_Reader_take_word => k_is)
    (case c_Reader_take_word => k_is)
    (case k_Reader_take_word => k_is)
    (case a_Reader_take_letters => k_is)
    (case i_Reader_take_letters => k_is)
    (case l_Reader_take_letters => k_is)
    (case c_Reader_take_letters => k_is)
    (case k_Reader_take_letters => k_is)
    (case a_Reader_take_number => k_is)
    (case i_Reader_take_number => k_is)
    (case l_Reader_take_number => k_is)
    (case c_Reader_take_number => k_is)
    (case k_Reader_take_number => k_is)
    (case a_commands_of => k_is)
    (case l_commands_of => k_is)
    (case c_commands_of => k_is)
    (case k_commands_of => k_is)
    (case a_read_command => k_is)
    (case l_read_command => k_is)
    (case c_read_command => k_is)
    (case k_read_command => k_is)
    (case a_read_address => k_is)
    (case l_read_address => k_is)
    (case c_read_address => k_is)
    (case k_read_address => k_is)
    (case a_read_nots => k_is)
    (case l_read_nots => k_is)
    (case c_read_nots => k_is)
    (case k_read_nots => k_is)
    (case a_read_deed => k_is)
    (case l_read_deed => k_is)
    (case c_read_deed => k_is)
    (case k_read_deed => k_is)
    (case a_read_other => k_is)
    (case l_read_other => k_is)
    (case c_read_other => k_is)
    (case k_read_other => k_is)
    (case a_Holder_init => k_is)
    (case i_Holder_init => k_is)
    (case l_Holder_init => k_is)
    (case c_Holder_init => k_is)
    (case k_Holder_init => k_is)
    (case a_Holder_hold => k_is)
    (case i_Holder_hold => k_is)
    (case l_Holder_hold => k_is)
    (case c_Holder_hold => k_is)
    (case k_Holder_hold => k_is)
    (case a_Holder_load => k_is)
    (case i_Holder_load => k_is)
    (case l_Holder_load => k_is)
    (case c_Holder_load => k_is)
    (case k_Holder_load => k_is)
    (case a_Holder_shown => k_is)
    (case i_Holder_shown => k_is)
    (case l_Holder_shown => k_is)
    (case c_Holder_shown => k_is)
    (case k_Holder_shown => k_is)
    (case a_Holder_kinds => k_is)
    (case i_Holder_kinds => k_is)
    (case l_Holder_kinds => k_is)
    (case c_Holder_kinds => k_is)
    (case k_Holder_kinds => k_is)
    (case a_Holder_can => k_is)
    (case i_Holder_can => k_is)
    (case l_Holder_can => k_is)
    (case c_Holder_can => k_is)
    (case k_Holder_can => k_is)
    (case a_Holder_matters => k_is)
    (case i_Holder_matters => k_is)
    (case l_Holder_matters => k_is)
    (case c_Holder_matters => k_is)
    (case k_Holder_matters => k_is)
    (case a_Holder_idle => k_is)
    (case i_Holder_idle => k_is)
    (case l_Holder_idle => k_is)
    (case c_Holder_idle => k_is)
    (case k_Holder_idle => k_is)
    (case a_Holder_turn => k_is)
    (case i_Holder_turn => k_is)
    (case l_Holder_turn => k_is)
    (case c_Holder_turn => k_is)
    (case k_Holder_turn => k_is)
    (case a_Holder_lines => k_is)
    (case i_Holder_lines => k_is)
    (case l_Holder_lines => k_is)
    (case c_Holder_lines => k_is)
    (case k_Holder_lines => k_is)
    (case a_Holder_safe => k_is)
    (case i_Holder_safe => k_is)
    (case l_Holder_safe => k_is)
    (case c_Holder_safe => k_is)
    (case k_Holder_safe => k_is)
    (case a_Holder_prune => k_is)
    (case i_Holder_prune => k_is)
    (case l_Holder_prune => k_is)
    (case c_Holder_prune => k_is)
    (case k_Holder_prune => k_is)
    (case a_Holder_has_command => k_is)
    (case i_Holder_has_command => k_is)
    (case l_Holder_has_command => k_is)
    (case c_Holder_has_command => k_is)
    (case k_Holder_has_command => k_is)
    (case a_Holder_first_mattering => k_is)
    (case i_Holder_first_mattering => k_is)
    (case l_Holder_first_mattering => k_is)
    (case c_Holder_first_mattering => k_is)
    (case k_Holder_first_mattering => k_is)
    (case a_Holder_first_idle => k_is)
    (case i_Holder_first_idle => k_is)
    (case l_Holder_first_idle => k_is)
    (case c_Holder_first_idle => k_is)
    (case k_Holder_first_idle => k_is)
    (case a_answers => k_is)
    (case l_answers => k_is)
    (case c_answers => k_is)
    (case k_answers => k_is)
    (case a_behind_call => k_is)
    (case l_behind_call => k_is)
    (case c_behind_call => k_is)
    (case k_behind_call => k_is)
    (case a_answer_of => k_is)
    (case l_answer_of => k_is)
    (case c_answer_of => k_is)
    (case k_answer_of => k_is)
    (case a_answer_of_command => k_is)
    (case l_answer_of_command => k_is)
    (case c_answer_of_command => k_is)
    (case k_answer_of_command => k_is)
    (case a_told_text => k_is)
    (case l_told_text => k_is)
    (case c_told_text => k_is)
    (case k_told_text => k_is)
    (case a_told_place_and_kind => k_is)
    (case l_told_place_and_kind => k_is)
    (case c_told_place_and_kind => k_is)
    (case k_told_place_and_kind => k_is)
    (case xF => k_is)
    (case saF => k_is)
    (case upF => k_is)
    (case tyF => k_is)
    (case kpF => k_is)
    (case gaF => k_is)
    (case ggF => k_is)
    (case hdF => k_is)
    (case n1F => k_is)
    (case n2F => k_is)
    (case a_Fault_init => k_is)
    (case t_Fault_init => k_is)
    (case l_Fault_init => k_is)
    (case c_Fault_init => k_is)
    (case k_Fault_init => k_is)
    (case icF => k_is)
    (case ssF => first | rfl | k_is)
    (case h_LETTERS => k_is)
    (case h_BLANKS => k_is)
    (case l_BLANKS => k_is)
    (case z_BLANKS => exact SK.few (m := 100) (by decide) (by decide))
    (case v_BLANKS => exact .cons ⟨_, rfl⟩ (.cons ⟨_, rfl⟩ (.cons ⟨_, rfl⟩ .nil)))
    (case h_LINE_END => k_is)
    (case h_REMARK => k_is)
    (case h_SIGN => k_is)
    (case h_FIRST_LETTER => k_is)
    (case h_FINAL_LETTER => k_is)
    (case h_FIRST_DIGIT => k_is)
    (case h_FINAL_DIGIT => k_is)
    (case h_LONGEST_WORD => k_is)
    (case h_GREATEST_NUMBER => k_is)
    (case h_LONGEST_NUMBER => k_is)
    (case h_DEEDS_NOT_PLAIN => k_is)
    (case l_DEEDS_NOT_PLAIN => k_is)
    (case z_DEEDS_NOT_PLAIN => exact SK.few (m := 100) (by decide) (by decide))
    (case v_DEEDS_NOT_PLAIN => exact .cons ⟨_, rfl⟩ (.cons ⟨_, rfl⟩ (.cons ⟨_, rfl⟩ (.cons ⟨_, rfl⟩ (.cons ⟨_, rfl⟩ .nil)))))
    (case h_MOST_LOOKED_FOR => k_is)
    (case h_MOST_LETTERS => k_is)
    (case h_LONGEST_LINE => k_is)
    (case h_LEAST_FILLED => k_is)
    (case h_FINAL_LINE => k_is)
    (case h_MOST_BYTES => k_is)
    (case h_MOST_COMMANDS => k_is)
    (case h_MOST_NOTS => k_is)
    (case h_GREATEST_LINE => k_is)
    (case h_GREATEST_SKIP => k_is)
    (case h_OWN_WORDS => k_is)
    (case l_OWN_WORDS => k_is)
    (case z_OWN_WORDS => exact SK.few (m := 100) (by decide) (by decide))
    (case v_OWN_WORDS => exact .cons ⟨_, rfl⟩ (.cons ⟨_, rfl⟩ (.cons ⟨_, rfl⟩ (.cons ⟨_, rfl⟩ (.cons ⟨_, rfl⟩ (.cons ⟨_, rfl⟩ (.cons ⟨_, rfl⟩ (.cons ⟨_, rfl⟩ (.cons ⟨_, rfl⟩ (.cons ⟨_, rfl⟩ (.cons ⟨_, rfl⟩ (.cons ⟨_, rfl⟩ (.cons ⟨_, rfl⟩ (.cons ⟨_, rfl⟩ (.cons ⟨_, rfl⟩ (.cons ⟨_, rfl⟩ (.cons ⟨_, rfl⟩ (.cons ⟨_, rfl⟩ (.cons ⟨_, rfl⟩ (.cons ⟨_, rfl⟩ (.cons ⟨_, rfl⟩ .nil)))))))))))))))))))))
    (case h_DEEDS_ALONE => k_is)
    (case l_DEEDS_ALONE => k_is)
    (case z_DEEDS_ALONE => exact SK.few (m := 100) (by decide) (by decide))
    (case v_DEEDS_ALONE => exact .cons ⟨_, rfl⟩ (.cons ⟨_, rfl⟩ (.cons ⟨_, rfl⟩ (.cons ⟨_, rfl⟩ (.cons ⟨_, rfl⟩ .nil)))))
    (case h_DEEDS_OF_LETTERS => k_is)
    (case l_DEEDS_OF_LETTERS => k_is)
    (case z_DEEDS_OF_LETTERS => exact SK.few (m := 100) (by decide) (by decide))
    (case v_DEEDS_OF_LETTERS => exact .cons ⟨_, rfl⟩ (.cons ⟨_, rfl⟩ (.cons ⟨_, rfl⟩ .nil)))
    (case h_DEEDS_OF_TWO => k_is)
    (case l_DEEDS_OF_TWO => k_is)
    (case z_DEEDS_OF_TWO => exact SK.few (m := 100) (by decide) (by decide))
    (case v_DEEDS_OF_TWO => exact .cons ⟨_, rfl⟩ (.cons ⟨_, rfl⟩ .nil))
    (case h_LOAD => k_is)
    (case h_SHOWN => k_is)
    (case h_KINDS => k_is)
    (case h_CAN => k_is)
    (case h_MATTERS => k_is)
    (case h_IDLE => k_is)
    (case h_TURN => k_is)
    (case h_SAFE => k_is)
    (case h_CALLS_WITH_A_NUMBER => k_is)
    (case l_CALLS_WITH_A_NUMBER => k_is)
    (case z_CALLS_WITH_A_NUMBER => exact SK.few (m := 100) (by decide) (by decide))
    (case v_CALLS_WITH_A_NUMBER => exact .cons ⟨_, rfl⟩ (.cons ⟨_, rfl⟩ (.cons ⟨_, rfl⟩ (.cons ⟨_, rfl⟩ .nil))))
    (case h_CALLS_WITH_A_LIST => k_is)
    (case l_CALLS_WITH_A_LIST => k_is)
    (case z_CALLS_WITH_A_LIST => exact SK.few (m := 100) (by decide) (by decide))
    (case v_CALLS_WITH_A_LIST => exact .cons ⟨_, rfl⟩ (.cons ⟨_, rfl⟩ .nil))
    (case h_NO_SCRIPT => k_is)
    (case h_NO_SUCH_COMMAND => k_is)
    (case h_HAS_SKIP => k_is)
    (case h_NOT_A_LINE => k_is)
    (case h_NOT_PLAIN => k_is)
    (case h_z_all => k_is)
    (case h_z_any => k_is)
    (case h_z_enumerate => k_is)
    (case h_z_len => k_is)
    (case h_z_list => k_is)
    (case h_z_ord => k_is)
    (case h_z_range => k_is)
    (case h_z_set => k_is)
    (case h_z_sorted => k_is)
    (case h_z_str => k_is)
    (case h_z_tuple => k_is)
    (case h_z_Exception => k_is)
    (case ap_h1 => decide)
    (case ap_h2 => decide)
    (case ap_h3 => decide)
    (case ap_h4 => decide)
    (case ap_h5 => decide)
    (case ap_h6 => decide)
    (case ap_r1 => decide)
    (case ap_r2 => decide)
    (case ap_r3 => decide)
    (case ap_r4 => decide)
    (case ap_r5 => decide)
    (case ap_r6 => decide)
    (case ap_hr => decide)
  case S =>
    intro K H xs a hO hwi hask hx
    cases hx with
    | cons h1 h2 =>
      cases h2
      cases h1 with
      | lst hs ha =>
        have e := L2.ints_dw a.1 _ ha
        subst e
        exact ⟨_, a.1, rfl, hs, hask, fun q H1 h => .lst (L2.SqL.of h) (L2.dw_ints _)⟩
#print axioms PySem.Challenge.cw_scriptsknown_s01_answers_holds
