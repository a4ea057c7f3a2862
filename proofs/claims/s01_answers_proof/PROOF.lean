import PyProof.Rows.All
import Wide.All
import OpenK.AllK
import Wide.FinOn
import Open.SpecLaws
import KE.OsGo
import HandS.ForSpec
import HandS.TryMany
import HandS.Comp
import PyWqasai
import PyFlatLaws
import PySem.Challenge.RW_wheremaps_s01_answers
set_option maxRecDepth 100000
/-! # Numbers and their digits: what the program's loops compute, and that it is the specification's -/
namespace Wq
open Wm
def bytesI (b : Bytes) : List Int := b.map fun c => (c.toNat : Int)
theorem bytesI_len (b : Bytes) : (bytesI b).length = b.length := List.length_map ..
theorem bytesI_app (a b : Bytes) : bytesI (a ++ b) = bytesI a ++ bytesI b := List.map_append ..
/-- byte_of -/
def byteOf (d : Int) : Int := if d < 26 then d + 65 else if d < 52 then d + 71 else if d < 62 then d - 4 else if d = 62 then 43 else 47
theorem byteOf_digit : ∀ d : Nat, d < 64 → byteOf d = ((digit d).toNat : Int) := by decide +kernel
/-- digit_of -/
def digitOf (b : Int) : Int := if 65 ≤ b ∧ b ≤ 90 then b - 65 else if 97 ≤ b ∧ b ≤ 122 then b - 71 else if 48 ≤ b ∧ b ≤ 57 then b + 4 else if b = 43 then 62 else if b = 47 then 63 else -1
def valI (o : Option Nat) : Int := match o with
  | some d => (d : Int)
  | none => -1
theorem digitOf_value0 : ∀ b : Nat, b < 256 → digitOf b = valI (value (UInt8.ofNat b)) := by decide +kernel
theorem digitOf_value (c : UInt8) : digitOf (c.toNat : Int) = valI (value c) := by
  have h := digitOf_value0 c.toNat c.toNat_lt
  rw [h]
  congr 2
  exact UInt8.ofNat_toNat
theorem value_lt {c : UInt8} {d : Nat} (h : value c = some d) : d < 64 := by
  unfold value at h
  have := List.mem_of_find?_eq_some h
  exact List.mem_range.mp this
theorem value_44 : value 44 = none := by decide +kernel
theorem value_59 : value 59 = none := by decide +kernel
/-- the number whose digits are written -/
def coded (x : Int) : Nat := if 0 ≤ x then 2 * x.toNat else 2 * (-x).toNat + 1
theorem coded_int (x : Int) : (coded x : Int) = if 0 ≤ x then 2 * x else 1 - 2 * x := by
  unfold coded
  split <;> omega
theorem digits_coded (x : Int) : digits x = groups 8 (coded x) := rfl
theorem groups_more (f n : Nat) (h : 32 ≤ n) : groups (f + 1) n = digit (32 + n % 32) :: groups f (n / 32) := by
  show (if n < 32 then [digit n] else _) = _
  rw [if_neg (by omega)]
theorem groups_last (f n : Nat) (h : n < 32) : groups (f + 1) n = [digit n] := by
  show (if n < 32 then [digit n] else _) = _
  rw [if_pos h]
theorem groups_len : ∀ f n, (groups f n).length ≤ f
  | 0, _ => Nat.le_refl 0
  | f + 1, n => by
    by_cases h : n < 32
    · rw [groups_last f n h]
      simp
    · rw [groups_more f n (by omega)]
      have := groups_len f (n / 32)
      simp
      omega
theorem digits_len (x : Int) : (digits x).length ≤ 8 := groups_len 8 _
theorem groups_pos (f n : Nat) : groups (f + 1) n ≠ [] := by
  by_cases h : n < 32
  · rw [groups_last f n h]
    simp
  · rw [groups_more f n (by omega)]
    simp
theorem digits_ne (x : Int) : digits x ≠ [] := groups_pos 7 _
/-- the loop of written_number: what is written so far and the rest's groups are all -/
structure Wr (x : Int) (n : Nat) (done : Bytes) : Prop where
  ex : ∃ f, n < 32 ^ (f + 1) ∧ f ≤ 7 ∧ done ++ groups (f + 1) n = digits x
theorem Wr.start {x : Int} (h : coded x < 32 ^ 8) : Wr x (coded x) [] := ⟨7, h, Nat.le_refl _, rfl⟩
theorem Wr.turn {x : Int} {n : Nat} {done : Bytes} (w : Wr x n done) (h : 32 ≤ n) : Wr x (n / 32) (done ++ [digit (32 + n % 32)]) := by
  obtain ⟨f, h1, h2, h3⟩ := w.ex
  cases f with
  | zero => simp at h1; omega
  | succ f =>
    refine ⟨f, ?_, by omega, ?_⟩
    · have : 32 ^ (f + 1 + 1) = 32 ^ (f + 1) * 32 := Nat.pow_succ ..
      rw [this] at h1
      exact (Nat.div_lt_iff_lt_mul (by decide)).mpr h1
    · rw [groups_more _ n h] at h3
      rw [List.append_assoc]
      exact h3
theorem Wr.done {x : Int} {n : Nat} {done : Bytes} (w : Wr x n done) (h : n < 32) : digits x = done ++ [digit n] := by
  obtain ⟨f, h1, h2, h3⟩ := w.ex
  rw [groups_last f n h] at h3
  exact h3.symm
theorem Wr.len {x : Int} {n : Nat} {done : Bytes} (w : Wr x n done) : done.length ≤ 8 := by
  obtain ⟨f, _, _, h3⟩ := w.ex
  have := digits_len x
  rw [← h3, List.length_append] at this
  omega
/-- signed -/
def signed (n : Nat) : Int := if n % 2 = 1 then -((n / 2 : Nat) : Int) else ((n / 2 : Nat) : Int)
/-- read_numbers, from a value and a weight in hand -/
def goN : Nat → Nat → Bytes → Option (List Int)
  | _, w, [] => if 1 < w then none else some []
  | v, w, c :: r => match value c with
    | none => none
    | some d => if 32 ≤ d then goN (v + d % 32 * w) (w * 32) r else if (d = 0 ∧ 1 < w) ∨ v + d % 32 * w = 1 then none else (goN 0 1 r).map fun l => signed (v + d % 32 * w) :: l
theorem goN_nil (v w : Nat) : goN v w [] = if 1 < w then none else some [] := rfl
theorem goN_cons (v w : Nat) (c : UInt8) (r : Bytes) : goN v w (c :: r) = match value c with
    | none => none
    | some d => if 32 ≤ d then goN (v + d % 32 * w) (w * 32) r else if (d = 0 ∧ 1 < w) ∨ v + d % 32 * w = 1 then none else (goN 0 1 r).map fun l => signed (v + d % 32 * w) :: l := rfl
/-- groupsIn without a lid -/
def grp : Bool → Bytes → Option (Nat × Bytes)
  | _, [] => none
  | first, c :: r => match value c with
    | none => none
    | some d => if d < 32 then (if d = 0 ∧ first = false then none else some (d, r)) else (grp false r).map fun (x : Nat × Bytes) => (d - 32 + 32 * x.1, x.2)
theorem grp_cons (first : Bool) (c : UInt8) (r : Bytes) : grp first (c :: r) = match value c with
    | none => none
    | some d => if d < 32 then (if d = 0 ∧ first = false then none else some (d, r)) else (grp false r).map fun (x : Nat × Bytes) => (d - 32 + 32 * x.1, x.2) := rfl
theorem numbersIn_succ (f : Nat) (b : Bytes) : numbersIn (f + 1) b = match numberIn b with
    | none => none
    | some x => if x.2.isEmpty = true ∨ x.2.head? = some 44 ∨ x.2.head? = some 59 then some ([x.1], x.2) else (numbersIn f x.2).map fun (y : List Int × Bytes) => (x.1 :: y.1, y.2) := rfl
/-- what follows a piece: nothing, or a separator -/
def Stop (u : Bytes) : Prop := u = [] ∨ u.head? = some 44 ∨ u.head? = some 59
theorem Stop.cases {u : Bytes} (h : Stop u) : u = [] ∨ (∃ v, u = 44 :: v) ∨ ∃ v, u = 59 :: v := by
  cases u with
  | nil => exact .inl rfl
  | cons c v =>
    rcases h with h | h | h
    · cases h
    · simp at h
      subst h
      exact .inr (.inl ⟨v, rfl⟩)
    · simp at h
      subst h
      exact .inr (.inr ⟨v, rfl⟩)
theorem groupsIn_stop {u : Bytes} (h : Stop u) (f : Nat) (first : Bool) : groupsIn f first u = none := by
  cases f with
  | zero => rfl
  | succ f =>
    rcases h.cases with rfl | ⟨v, rfl⟩ | ⟨v, rfl⟩
    · rfl
    · unfold groupsIn
      rw [value_44]
    · unfold groupsIn
      rw [value_59]
theorem grp_spec {u : Bytes} (hu : Stop u) : ∀ (b : Bytes) (f : Nat) (first : Bool), (first = true → 1 ≤ f) →
    match grp first b with
    | none => groupsIn f first (b ++ u) = none
    | some (n, r) => groupsIn f first (b ++ u) = some (n, r ++ u) ∨ (32 ^ f ≤ n ∧ groupsIn f first (b ++ u) = none)
  | [], f, first, _ => groupsIn_stop hu f first
  | c :: b, f, first, hf => by
    unfold grp
    cases hv : value c with
    | none =>
      cases f with
      | zero => rfl
      | succ f =>
        show (match value c with | none => none | some d => _) = none
        rw [hv]
    | some d =>
      dsimp only
      by_cases hd : d < 32
      · rw [if_pos hd]
        by_cases h0 : d = 0 ∧ first = false
        · rw [if_pos h0]
          cases f with
          | zero => rfl
          | succ f =>
            show (match value c with | none => none | some d => if d < 32 then (if d = 0 ∧ first = false then none else some (d, b ++ u)) else _) = none
            rw [hv]
            dsimp only
            rw [if_pos hd, if_pos h0]
        · rw [if_neg h0]
          cases f with
          | zero =>
            refine .inr ⟨?_, rfl⟩
            have : first = false := by
              cases first with
              | true => exact absurd (hf rfl) (by decide)
              | false => rfl
            show 1 ≤ d
            have : d ≠ 0 := fun e => h0 ⟨e, this⟩
            omega
          | succ f =>
            left
            show (match value c with | none => none | some d => if d < 32 then (if d = 0 ∧ first = false then none else some (d, b ++ u)) else _) = _
            rw [hv]
            dsimp only
            rw [if_pos hd, if_neg h0]
      · rw [if_neg hd]
        have ih0 := grp_spec hu b (f - 1) false (by intro h; cases h)
        have e : f ≠ 0 → groupsIn f first (c :: b ++ u) = (groupsIn (f - 1) false (b ++ u)).map fun (x : Nat × Bytes) => (d - 32 + 32 * x.1, x.2) := by
          intro h
          cases f with
          | zero => exact absurd rfl h
          | succ f =>
            show (match value c with | none => none | some d => if d < 32 then _ else (groupsIn f false (b ++ u)).map fun (x : Nat × Bytes) => (d - 32 + 32 * x.1, x.2)) = _
            rw [hv]
            dsimp only
            rw [if_neg hd]
            rfl
        cases hg : grp false b with
        | none =>
          rw [hg] at ih0
          dsimp only at ih0
          show groupsIn f first (c :: b ++ u) = none
          by_cases h : f = 0
          · subst h
            rfl
          · rw [e h, ih0]
            rfl
        | some x =>
          obtain ⟨n, r⟩ := x
          rw [hg] at ih0
          dsimp only at ih0
          show groupsIn f first (c :: b ++ u) = some (d - 32 + 32 * n, r ++ u) ∨ (32 ^ f ≤ d - 32 + 32 * n ∧ groupsIn f first (c :: b ++ u) = none)
          by_cases h : f = 0
          · subst h
            right
            refine ⟨?_, rfl⟩
            have h1 := grp_spec hu b 0 false (by intro h; cases h)
            rw [hg] at h1
            rcases h1 with h1 | h1
            · cases h1
            · have := h1.1
              simp at this
              simp
              omega
          · rw [e h]
            rcases ih0 with h1 | h1
            · left
              rw [h1]
              rfl
            · right
              rw [h1.2]
              refine ⟨?_, rfl⟩
              have h2 := h1.1
              obtain ⟨g, rfl⟩ : ∃ g, f = g + 1 := ⟨f - 1, by omega⟩
              have : 32 ^ (g + 1) = 32 ^ g * 32 := Nat.pow_succ ..
              rw [this]
              simp at h2
              omega
theorem goN_grp : ∀ (b : Bytes) (v w : Nat), 1 ≤ w → goN v w b = match grp (decide (w = 1)) b with
    | none => if w = 1 ∧ b = [] then some [] else none
    | some (n, r) => if v + n * w = 1 then none else (goN 0 1 r).map fun l => signed (v + n * w) :: l
  | [], v, w, hw => by
    rw [goN_nil]
    show _ = (if w = 1 ∧ ([] : Bytes) = [] then some [] else none)
    by_cases h : w = 1
    · subst h
      simp
    · simp [h]
      omega
  | c :: b, v, w, hw => by
    rw [goN_cons, grp_cons]
    cases hv : value c with
    | none => simp
    | some d =>
      dsimp only
      have hd64 := value_lt hv
      by_cases hd : d < 32
      · rw [if_neg (by omega), if_pos hd]
        have e : d % 32 = d := Nat.mod_eq_of_lt hd
        rw [e]
        by_cases h0 : d = 0 ∧ 1 < w
        · rw [if_pos (Or.inl h0), if_pos ⟨h0.1, by simp; omega⟩]
          simp
        · rw [if_neg (c := d = 0 ∧ decide (w = 1) = false) (by
            intro h
            apply h0
            refine ⟨h.1, ?_⟩
            have := h.2
            simp at this
            omega)]
          dsimp only
          by_cases h1 : v + d * w = 1
          · rw [if_pos (Or.inr h1), if_pos h1]
          · rw [if_neg (by rintro (h | h); exact h0 h; exact h1 h), if_neg h1]
      · rw [if_pos (by omega), if_neg hd]
        have e : d % 32 = d - 32 := by omega
        rw [e, goN_grp b (v + (d - 32) * w) (w * 32) (by omega)]
        have e2 : decide (w * 32 = 1) = false := by
          simp
          omega
        rw [e2]
        cases hg : grp false b with
        | none =>
          dsimp only
          rw [if_neg (by omega)]
          simp
        | some x =>
          obtain ⟨n, r⟩ := x
          dsimp only [Option.map]
          have e3 : v + (d - 32) * w + n * (w * 32) = v + (d - 32 + 32 * n) * w := by
            rw [Nat.add_mul, Nat.mul_assoc 32 n w, Nat.mul_comm 32, Nat.mul_assoc n w 32, Nat.add_assoc]
          rw [e3]
theorem grp_suffix : ∀ (b : Bytes) (first : Bool) (n : Nat) (r : Bytes), grp first b = some (n, r) → ∃ a, b = a ++ r ∧ a ≠ []
  | [], _, _, _, h => by cases h
  | c :: b, first, n, r, h => by
    rw [grp_cons] at h
    cases hv : value c with
    | none => rw [hv] at h; cases h
    | some d =>
      rw [hv] at h
      dsimp only at h
      split at h
      · split at h
        · cases h
        · injection h with h
          injection h with h1 h2
          subst h2
          exact ⟨[c], rfl, by simp⟩
      · cases hg : grp false b with
        | none => rw [hg] at h; cases h
        | some x =>
          obtain ⟨m, s⟩ := x
          rw [hg] at h
          injection h with h
          injection h with h1 h2
          dsimp only at h2
          subst h2
          obtain ⟨a, rfl, _⟩ := grp_suffix b false m s hg
          exact ⟨c :: a, rfl, by simp⟩
def NoSep (b : Bytes) : Prop := ∀ c ∈ b, c ≠ 44 ∧ c ≠ 59
theorem stop_iff {r u : Bytes} (hr : NoSep r) (hu : Stop u) : ((r ++ u).isEmpty = true ∨ (r ++ u).head? = some 44 ∨ (r ++ u).head? = some 59) ↔ r = [] := by
  cases r with
  | nil =>
    simp only [List.nil_append, iff_true]
    rcases hu.cases with rfl | ⟨v, rfl⟩ | ⟨v, rfl⟩ <;> simp
  | cons c r =>
    have := hr c (List.mem_cons_self ..)
    simp
    exact this
def Big (x : Int) : Prop := 2 ^ 38 ≤ x ∨ x ≤ -2 ^ 38
theorem signed_big {n : Nat} (h : 32 ^ 8 ≤ n) : Big (signed n) := by
  unfold Big signed
  split <;> omega
/-- the numbers of a piece: the specification's, or it finds none and the piece has none, too many, or a great one -/
theorem numbersIn_spec {u : Bytes} (hu : Stop u) : ∀ (f : Nat) (b : Bytes), NoSep b →
    match goN 0 1 b with
    | none => numbersIn f (b ++ u) = none
    | some ns => (numbersIn f (b ++ u) = some (ns, u) ∧ 1 ≤ ns.length ∧ ns.length ≤ f) ∨ (numbersIn f (b ++ u) = none ∧ (ns.length = 0 ∨ f < ns.length ∨ ∃ x ∈ ns, Big x)) := by
  intro f
  induction f with
  | zero =>
    intro b hb
    cases h : goN 0 1 b with
    | none => rfl
    | some ns =>
      right
      refine ⟨rfl, ?_⟩
      omega
  | succ f ih =>
    intro b hb
    have hg := goN_grp b 0 1 (Nat.le_refl 1)
    have hs := grp_spec hu b 8 true (by intro; decide)
    rw [hg]
    have e1 : decide ((1 : Nat) = 1) = true := rfl
    rw [e1]
    cases hq : grp true b with
    | none =>
      rw [hq] at hs
      dsimp only at hs ⊢
      have hn : numbersIn (f + 1) (b ++ u) = none := by
        rw [numbersIn_succ]
        unfold numberIn
        rw [hs]
      split
      · rename_i h
        split at h
        · cases h
        · exact hn
      · rename_i ns h
        split at h
        · injection h with h
          subst h
          exact .inr ⟨hn, .inl rfl⟩
        · cases h
    | some x =>
      obtain ⟨n, r⟩ := x
      rw [hq] at hs
      dsimp only at hs ⊢
      obtain ⟨a, rfl, _⟩ := grp_suffix b true n r hq
      have hr : NoSep r := fun c hc => hb c (List.mem_append_right _ hc)
      have e2 : 0 + n * 1 = n := by omega
      rw [e2]
      by_cases h1 : n = 1
      · rw [if_pos h1]
        dsimp only
        rw [numbersIn_succ]
        unfold numberIn
        rcases hs with h | h
        · rw [h]
          dsimp only
          rw [if_pos h1]
        · rw [h.2]
      · rw [if_neg h1]
        have hst := stop_iff hr hu
        rcases hs with h | h
        · have hN : numberIn (a ++ r ++ u) = some (signed n, r ++ u) := by
            unfold numberIn
            rw [h]
            dsimp only
            rw [if_neg h1]
            rfl
          have hM : numbersIn (f + 1) (a ++ r ++ u) = if r = [] then some ([signed n], u) else (numbersIn f (r ++ u)).map fun (y : List Int × Bytes) => (signed n :: y.1, y.2) := by
            rw [numbersIn_succ, hN]
            dsimp only
            by_cases h0 : r = []
            · rw [if_pos (hst.mpr h0), if_pos h0]
              subst h0
              rfl
            · rw [if_neg (fun h => h0 (hst.mp h)), if_neg h0]
          have := ih r hr
          by_cases h0 : r = []
          · subst h0
            have e : goN 0 1 [] = some [] := rfl
            rw [e]
            dsimp only [Option.map]
            left
            rw [hM, if_pos rfl]
            simp
          · cases hr2 : goN 0 1 r with
            | none =>
              rw [hr2] at this
              dsimp only [Option.map] at this ⊢
              rw [hM, if_neg h0, this]
              rfl
            | some ns =>
              rw [hr2] at this
              dsimp only [Option.map] at this ⊢
              rw [hM, if_neg h0]
              rcases this with h3 | h3
              · left
                rw [h3.1]
                refine ⟨rfl, ?_, ?_⟩ <;> simp <;> omega
              · right
                rw [h3.1]
                refine ⟨rfl, ?_⟩
                rcases h3.2 with h4 | h4 | ⟨x, hx, hb⟩
                · -- no number in a piece that is not empty
                  exfalso
                  have hz := goN_grp r 0 1 (Nat.le_refl 1)
                  rw [hr2, e1] at hz
                  cases hq2 : grp true r with
                  | none =>
                    rw [hq2] at hz
                    dsimp only at hz
                    rw [if_neg (fun h => h0 h.2)] at hz
                    cases hz
                  | some y =>
                    rw [hq2] at hz
                    dsimp only at hz
                    split at hz
                    · cases hz
                    · cases hk : goN 0 1 y.2 with
                      | none => rw [hk] at hz; cases hz
                      | some l =>
                        rw [hk] at hz
                        injection hz with hz
                        subst hz
                        simp at h4
                · right; left
                  simp
                  omega
                · right; right
                  exact ⟨x, List.mem_cons_of_mem _ hx, hb⟩
        · have hN : numbersIn (f + 1) (a ++ r ++ u) = none := by
            rw [numbersIn_succ]
            unfold numberIn
            rw [h.2]
          cases hr2 : goN 0 1 r with
          | none => exact hN
          | some ns =>
            dsimp only [Option.map]
            right
            exact ⟨hN, .inr (.inr ⟨_, List.mem_cons_self .., signed_big h.1⟩)⟩
end Wq

set_option maxRecDepth 100000
/-! # Segments as rows of numbers; a text read -/
namespace Wq
open Wm
def natsI (l : List Nat) : List Int := l.map fun (n : Nat) => (n : Int)
def sn (s : Seg) : List Int := natsI (segNums s)
theorem sn_two (a b : Nat) : sn ⟨a, b, none⟩ = [(a : Int), b] := rfl
theorem sn_five (a b c d e : Nat) : sn ⟨a, b, some ⟨c, d, e, none⟩⟩ = [(a : Int), b, c, d, e] := rfl
theorem sn_six (a b c d e f : Nat) : sn ⟨a, b, some ⟨c, d, e, some f⟩⟩ = [(a : Int), b, c, d, e, f] := rfl
theorem sn_cases (s : Seg) : (∃ a b, s = ⟨a, b, none⟩) ∨ (∃ a b c d e, s = ⟨a, b, some ⟨c, d, e, none⟩⟩) ∨ ∃ a b c d e f, s = ⟨a, b, some ⟨c, d, e, some f⟩⟩ := by
  obtain ⟨a, b, o⟩ := s
  cases o with
  | none => exact .inl ⟨a, b, rfl⟩
  | some o =>
    obtain ⟨c, d, e, n⟩ := o
    cases n with
    | none => exact .inr (.inl ⟨a, b, c, d, e, rfl⟩)
    | some f => exact .inr (.inr ⟨a, b, c, d, e, f, rfl⟩)
theorem sn_head (s : Seg) : ∃ r, sn s = (s.line : Int) :: (s.col : Int) :: r := ⟨_, rfl⟩
theorem sn_0 (s : Seg) : (sn s)[0]? = some (s.line : Int) := rfl
theorem sn_1 (s : Seg) : (sn s)[1]? = some (s.col : Int) := rfl
theorem sn_len (s : Seg) : 2 ≤ (sn s).length ∧ (sn s).length ≤ 6 := by
  rcases sn_cases s with ⟨a, b, rfl⟩ | ⟨a, b, c, d, e, rfl⟩ | ⟨a, b, c, d, e, f, rfl⟩
  · rw [sn_two]; simp
  · rw [sn_five]; simp
  · rw [sn_six]; simp
/-- is_segment -/
def inB (x : Int) : Bool := decide (0 ≤ x) && decide (x ≤ 2147483647)
def isSeg (z : List Int) : Bool := (z.length == 2 || z.length == 5 || z.length == 6) && (decide (z.headD 0 ≤ 4095) && z.all inB)
theorem ok_isSeg (s : Seg) : isSeg (sn s) = s.ok := by
  rcases sn_cases s with ⟨a, b, rfl⟩ | ⟨a, b, c, d, e, rfl⟩ | ⟨a, b, c, d, e, f, rfl⟩
  · rw [sn_two, Bool.eq_iff_iff]
    simp [isSeg, inB, Seg.ok]
    unfold LINES MOST
    omega
  · rw [sn_five, Bool.eq_iff_iff]
    simp [isSeg, inB, Seg.ok, Origin.ok, smallName]
    unfold LINES MOST
    omega
  · rw [sn_six, Bool.eq_iff_iff]
    simp [isSeg, inB, Seg.ok, Origin.ok, smallName]
    unfold LINES MOST
    omega
/-- a row of numbers that is a segment's -/
theorem isSeg_seg {z : List Int} (h : isSeg z = true) : ∃ s : Seg, s.ok = true ∧ sn s = z := by
  have h0 : z.all inB = true := by
    unfold isSeg at h
    simp only [Bool.and_eq_true] at h
    exact h.2.2
  have hp : ∀ x ∈ z, 0 ≤ x := by
    intro x hx
    have := List.all_eq_true.mp h0 x hx
    simp [inB] at this
    exact this.1
  have hl : z.length = 2 ∨ z.length = 5 ∨ z.length = 6 := by
    unfold isSeg at h
    simp at h
    omega
  have key : ∃ s : Seg, sn s = z := by
    rcases hl with hl | hl | hl
    · match z, hl with
      | [a, b], _ =>
        refine ⟨⟨a.toNat, b.toNat, none⟩, ?_⟩
        have h1 := hp a (by simp)
        have h2 := hp b (by simp)
        rw [sn_two]
        simp
        omega
    · match z, hl with
      | [a, b, c, d, e], _ =>
        refine ⟨⟨a.toNat, b.toNat, some ⟨c.toNat, d.toNat, e.toNat, none⟩⟩, ?_⟩
        have h1 := hp a (by simp)
        have h2 := hp b (by simp)
        have h3 := hp c (by simp)
        have h4 := hp d (by simp)
        have h5 := hp e (by simp)
        rw [sn_five]
        simp
        omega
    · match z, hl with
      | [a, b, c, d, e, f], _ =>
        refine ⟨⟨a.toNat, b.toNat, some ⟨c.toNat, d.toNat, e.toNat, some f.toNat⟩⟩, ?_⟩
        have h1 := hp a (by simp)
        have h2 := hp b (by simp)
        have h3 := hp c (by simp)
        have h4 := hp d (by simp)
        have h5 := hp e (by simp)
        have h6 := hp f (by simp)
        rw [sn_six]
        simp
        omega
  obtain ⟨s, rfl⟩ := key
  exact ⟨s, by rw [← ok_isSeg]; exact h, rfl⟩
theorem segOf_natsI (l : List Nat) : isSeg (natsI l) = (segOf l).isSome := by
  match l with
  | [] => rfl
  | [a] => rfl
  | [a, b] =>
    show isSeg (sn ⟨a, b, none⟩) = (if (⟨a, b, none⟩ : Seg).ok = true then some (⟨a, b, none⟩ : Seg) else none).isSome
    rw [ok_isSeg]
    cases (⟨a, b, none⟩ : Seg).ok <;> rfl
  | [a, b, c] => rfl
  | [a, b, c, d] => rfl
  | [a, b, c, d, e] =>
    show isSeg (sn ⟨a, b, some ⟨c, d, e, none⟩⟩) = (if (⟨a, b, some ⟨c, d, e, none⟩⟩ : Seg).ok = true then some (⟨a, b, some ⟨c, d, e, none⟩⟩ : Seg) else none).isSome
    rw [ok_isSeg]
    cases (⟨a, b, some ⟨c, d, e, none⟩⟩ : Seg).ok <;> rfl
  | [a, b, c, d, e, f] =>
    show isSeg (sn ⟨a, b, some ⟨c, d, e, some f⟩⟩) = (if (⟨a, b, some ⟨c, d, e, some f⟩⟩ : Seg).ok = true then some (⟨a, b, some ⟨c, d, e, some f⟩⟩ : Seg) else none).isSome
    rw [ok_isSeg]
    cases (⟨a, b, some ⟨c, d, e, some f⟩⟩ : Seg).ok <;> rfl
  | a :: b :: c :: d :: e :: f :: g :: r =>
    show isSeg (natsI (a :: b :: c :: d :: e :: f :: g :: r)) = false
    unfold isSeg
    have : (natsI (a :: b :: c :: d :: e :: f :: g :: r)).length = r.length + 7 := by simp [natsI]
    rw [this]
    have e : (r.length + 7 == 2 || r.length + 7 == 5 || r.length + 7 == 6) = false := by
      simp
    rw [e]
    rfl
theorem segOf_sn {l : List Nat} {x : Seg} (h : segOf l = some x) : sn x = natsI l ∧ x.ok = true := by
  have fin : ∀ s : Seg, natsI l = sn s → (if s.ok = true then some s else none) = some x → sn x = natsI l ∧ x.ok = true := by
    intro s e h
    split at h
    · injection h with h
      subst h
      exact ⟨e.symm, by assumption⟩
    · cases h
  match l, h, fin with
  | [a, b], h, fin => exact fin ⟨a, b, none⟩ rfl h
  | [a, b, c, d, e], h, fin => exact fin ⟨a, b, some ⟨c, d, e, none⟩⟩ rfl h
  | [a, b, c, d, e, f], h, fin => exact fin ⟨a, b, some ⟨c, d, e, some f⟩⟩ rfl h
theorem natsI_inj {a b : List Nat} (h : natsI a = natsI b) : a = b := by
  induction a generalizing b with
  | nil =>
    cases b with
    | nil => rfl
    | cons x r => cases h
  | cons x r ih =>
    cases b with
    | nil => cases h
    | cons y u =>
      injection h with h1 h2
      rw [ih h2, Int.ofNat.inj h1]
theorem sn_inj {s t : Seg} (h : sn s = sn t) : s = t := by
  have h := natsI_inj h
  rcases sn_cases s with ⟨a, b, rfl⟩ | ⟨a, b, c, d, e, rfl⟩ | ⟨a, b, c, d, e, f, rfl⟩ <;>
  rcases sn_cases t with ⟨a', b', rfl⟩ | ⟨a', b', c', d', e', rfl⟩ | ⟨a', b', c', d', e', f', rfl⟩ <;>
  simp [segNums] at h <;> simp [h]
/-- is_behind: of two rows of numbers -/
def behindI (t s : List Int) : Bool := if s.headD 0 = t.headD 0 then decide (t.getD 1 0 < s.getD 1 0) else decide (t.headD 0 < s.headD 0)
theorem behindI_sn (t s : Seg) : behindI (sn t) (sn s) = behind t s := by
  obtain ⟨u, e⟩ := sn_head t
  obtain ⟨v, g⟩ := sn_head s
  rw [e, g]
  unfold behindI behind
  rw [Bool.eq_iff_iff]
  simp
  split
  · omega
  · simp
    omega
/-- what the next segment is told from: the line that has been come to, the col on it, the last origin, the last name -/
def lastI (q : Pen) (line : Nat) : List Int := [(line : Int), ((if line = q.line then q.col else 0 : Nat) : Int), q.src, q.sline, q.scol, q.name]
theorem lastI_len (q : Pen) (line : Nat) : (lastI q line).length = 6 := rfl
/-- the numbers that steps tell: the line, then each step from what stands there -/
def toldBy (L ns : List Int) : List Int := L.headD 0 :: List.zipWith (· + ·) (L.drop 1) ns
/-- read_segment from its numbers -/
def rdSeg (L ns : List Int) : Option (List Int) := if 6 ≤ ns.length then none else if isSeg (toldBy L ns) = true then some (toldBy L ns) else none
structure PenIn (q : Pen) : Prop where
  col : q.col ≤ MOST
  src : q.src ≤ MOST
  sline : q.sline ≤ MOST
  scol : q.scol ≤ MOST
  name : q.name ≤ MOST
theorem isSeg_neg {z : List Int} {x : Int} (hx : x ∈ z) (h : x < 0 ∨ 2147483647 < x) : isSeg z = false := by
  cases e : isSeg z with
  | false => rfl
  | true =>
    exfalso
    unfold isSeg at e
    simp only [Bool.and_eq_true] at e
    have := List.all_eq_true.mp e.2.2 x hx
    simp [inB] at this
    omega
theorem isSeg_len {z : List Int} (h : isSeg z = true) : z.length = 2 ∨ z.length = 5 ∨ z.length = 6 := by
  unfold isSeg at h
  simp at h
  omega
def colFrom (q : Pen) (line : Nat) : Nat := if line = q.line then q.col else 0
theorem from_cases (n : Nat) (d : Int) : (∃ c : Nat, from_ n d = some c ∧ (c : Int) = (n : Int) + d) ∨ (from_ n d = none ∧ (n : Int) + d < 0) := by
  unfold from_
  by_cases h : 0 ≤ (n : Int) + d
  · rw [if_pos h]
    exact .inl ⟨_, rfl, Int.toNat_of_nonneg h⟩
  · rw [if_neg h]
    exact .inr ⟨rfl, by omega⟩
theorem segIn_none {q : Pen} {line : Nat} {ns : List Int} (h : segIn q line ns = none) : isSeg (toldBy (lastI q line) ns) = false ∨ 6 ≤ ns.length := by
  have nl : ∀ z : List Int, z.length ≠ 2 → z.length ≠ 5 → z.length ≠ 6 → isSeg z = false := by
    intro z h1 h2 h3
    cases e : isSeg z with
    | false => rfl
    | true =>
      rcases isSeg_len e with h | h | h
      · exact absurd h h1
      · exact absurd h h2
      · exact absurd h h3
  match ns, h with
  | [], _ => exact .inl (nl _ (by simp [toldBy]) (by simp [toldBy]) (by simp [toldBy]))
  | [d], h =>
    left
    have h' : (from_ (colFrom q line) d).map (fun (c : Nat) => (⟨line, c, none⟩ : Seg)) = none := h
    rcases from_cases (colFrom q line) d with ⟨c, e, _⟩ | ⟨_, e⟩
    · rw [e] at h'; cases h'
    · exact isSeg_neg (x := (colFrom q line : Int) + d) (by simp [toldBy, lastI, colFrom]) (.inl e)
  | [d, a], _ => exact .inl (nl _ (by simp [toldBy, lastI]) (by simp [toldBy, lastI]) (by simp [toldBy, lastI]))
  | [d, a, b], _ => exact .inl (nl _ (by simp [toldBy, lastI]) (by simp [toldBy, lastI]) (by simp [toldBy, lastI]))
  | [d, a, b, c], h =>
    left
    have h' : ((from_ (colFrom q line) d).bind fun (k : Nat) => (originIn q [a, b, c]).map fun (o : Origin) => (⟨line, k, some o⟩ : Seg)) = none := h
    rcases from_cases (colFrom q line) d with ⟨k, e, _⟩ | ⟨_, e⟩
    · rw [e] at h'
      simp only [originIn, Option.bind, Option.map] at h'
      rcases from_cases q.src a with ⟨k1, e1, _⟩ | ⟨_, e1⟩
      · rw [e1] at h'
        rcases from_cases q.sline b with ⟨k2, e2, _⟩ | ⟨_, e2⟩
        · simp only [] at h'
          rw [e2] at h'
          rcases from_cases q.scol c with ⟨k3, e3, _⟩ | ⟨_, e3⟩
          · simp only [] at h'
            rw [e3] at h'
            cases h'
          · exact isSeg_neg (x := (q.scol : Int) + c) (by simp [toldBy, lastI]) (.inl e3)
        · exact isSeg_neg (x := (q.sline : Int) + b) (by simp [toldBy, lastI]) (.inl e2)
      · exact isSeg_neg (x := (q.src : Int) + a) (by simp [toldBy, lastI]) (.inl e1)
    · exact isSeg_neg (x := (colFrom q line : Int) + d) (by simp [toldBy, lastI, colFrom]) (.inl e)
  | [d, a, b, c, n], h =>
    left
    have h' : ((from_ (colFrom q line) d).bind fun (k : Nat) => (originIn q [a, b, c, n]).map fun (o : Origin) => (⟨line, k, some o⟩ : Seg)) = none := h
    rcases from_cases (colFrom q line) d with ⟨k, e, _⟩ | ⟨_, e⟩
    · rw [e] at h'
      simp only [originIn, Option.bind, Option.map] at h'
      rcases from_cases q.src a with ⟨k1, e1, _⟩ | ⟨_, e1⟩
      · rw [e1] at h'
        rcases from_cases q.sline b with ⟨k2, e2, _⟩ | ⟨_, e2⟩
        · simp only [] at h'
          rw [e2] at h'
          rcases from_cases q.scol c with ⟨k3, e3, _⟩ | ⟨_, e3⟩
          · simp only [] at h'
            rw [e3] at h'
            rcases from_cases q.name n with ⟨k4, e4, _⟩ | ⟨_, e4⟩
            · simp only [] at h'
              rw [e4] at h'
              cases h'
            · exact isSeg_neg (x := (q.name : Int) + n) (by simp [toldBy, lastI]) (.inl e4)
          · exact isSeg_neg (x := (q.scol : Int) + c) (by simp [toldBy, lastI]) (.inl e3)
        · exact isSeg_neg (x := (q.sline : Int) + b) (by simp [toldBy, lastI]) (.inl e2)
      · exact isSeg_neg (x := (q.src : Int) + a) (by simp [toldBy, lastI]) (.inl e1)
    · exact isSeg_neg (x := (colFrom q line : Int) + d) (by simp [toldBy, lastI, colFrom]) (.inl e)
  | d :: a :: b :: c :: n :: m :: r, _ => exact .inr (by simp)
theorem segIn_some {q : Pen} {line : Nat} {ns : List Int} {s : Seg} (h : segIn q line ns = some s) : sn s = toldBy (lastI q line) ns ∧ s.line = line ∧ ns.length ≤ 5 := by
  match ns, h with
  | [d], h =>
    have h' : (from_ (colFrom q line) d).map (fun (c : Nat) => (⟨line, c, none⟩ : Seg)) = some s := h
    rcases from_cases (colFrom q line) d with ⟨c, e, g⟩ | ⟨e, _⟩
    · rw [e] at h'
      injection h' with h'
      subst h'
      refine ⟨?_, rfl, by simp⟩
      rw [sn_two, g]
      simp [toldBy, lastI, colFrom]
    · rw [e] at h'; cases h'
  | [d, a], h =>
    have h' : ((from_ (colFrom q line) d).bind fun (k : Nat) => (none : Option Origin).map fun (o : Origin) => (⟨line, k, some o⟩ : Seg)) = some s := h
    rcases from_cases (colFrom q line) d with ⟨c, e, g⟩ | ⟨e, _⟩ <;> rw [e] at h' <;> cases h'
  | [d, a, b], h =>
    have h' : ((from_ (colFrom q line) d).bind fun (k : Nat) => (none : Option Origin).map fun (o : Origin) => (⟨line, k, some o⟩ : Seg)) = some s := h
    rcases from_cases (colFrom q line) d with ⟨c, e, g⟩ | ⟨e, _⟩ <;> rw [e] at h' <;> cases h'
  | [d, a, b, c], h =>
    have h' : ((from_ (colFrom q line) d).bind fun (k : Nat) => (originIn q [a, b, c]).map fun (o : Origin) => (⟨line, k, some o⟩ : Seg)) = some s := h
    rcases from_cases (colFrom q line) d with ⟨k, e, g⟩ | ⟨e, _⟩
    · rw [e] at h'
      simp only [originIn, Option.bind, Option.map] at h'
      rcases from_cases q.src a with ⟨k1, e1, g1⟩ | ⟨e1, _⟩
      · rw [e1] at h'
        rcases from_cases q.sline b with ⟨k2, e2, g2⟩ | ⟨e2, _⟩
        · simp only [] at h'
          rw [e2] at h'
          rcases from_cases q.scol c with ⟨k3, e3, g3⟩ | ⟨e3, _⟩
          · simp only [] at h'
            rw [e3] at h'
            injection h' with h'
            subst h'
            refine ⟨?_, rfl, by simp⟩
            rw [sn_five, g, g1, g2, g3]
            simp [toldBy, lastI, colFrom]
          · simp only [] at h'
            rw [e3] at h'; cases h'
        · simp only [] at h'
          rw [e2] at h'; cases h'
      · rw [e1] at h'; cases h'
    · rw [e] at h'; cases h'
  | [d, a, b, c, n], h =>
    have h' : ((from_ (colFrom q line) d).bind fun (k : Nat) => (originIn q [a, b, c, n]).map fun (o : Origin) => (⟨line, k, some o⟩ : Seg)) = some s := h
    rcases from_cases (colFrom q line) d with ⟨k, e, g⟩ | ⟨e, _⟩
    · rw [e] at h'
      simp only [originIn, Option.bind, Option.map] at h'
      rcases from_cases q.src a with ⟨k1, e1, g1⟩ | ⟨e1, _⟩
      · rw [e1] at h'
        rcases from_cases q.sline b with ⟨k2, e2, g2⟩ | ⟨e2, _⟩
        · simp only [] at h'
          rw [e2] at h'
          rcases from_cases q.scol c with ⟨k3, e3, g3⟩ | ⟨e3, _⟩
          · simp only [] at h'
            rw [e3] at h'
            rcases from_cases q.name n with ⟨k4, e4, g4⟩ | ⟨e4, _⟩
            · simp only [] at h'
              rw [e4] at h'
              injection h' with h'
              subst h'
              refine ⟨?_, rfl, by simp⟩
              rw [sn_six, g, g1, g2, g3, g4]
              simp [toldBy, lastI, colFrom]
            · simp only [] at h'
              rw [e4] at h'; cases h'
          · simp only [] at h'
            rw [e3] at h'; cases h'
        · simp only [] at h'
          rw [e2] at h'; cases h'
      · rw [e1] at h'; cases h'
    · rw [e] at h'; cases h'
  | d :: a :: b :: c :: n :: m :: r, h =>
    exfalso
    have h' : ((from_ (colFrom q line) d).bind fun (k : Nat) => (none : Option Origin).map fun (o : Origin) => (⟨line, k, some o⟩ : Seg)) = some s := h
    rcases from_cases (colFrom q line) d with ⟨c, e, g⟩ | ⟨e, _⟩ <;> rw [e] at h' <;> cases h'
theorem lastI_in {q : Pen} (P : PenIn q) (line : Nat) : ∀ x ∈ (lastI q line).drop 1, 0 ≤ x ∧ x ≤ 2147483647 := by
  have := P.col; have := P.src; have := P.sline; have := P.scol; have := P.name
  unfold MOST at *
  intro x hx
  simp [lastI] at hx
  rcases hx with rfl | rfl | rfl | rfl | rfl
  · split <;> omega
  all_goals omega
theorem zip_big : ∀ (L ns : List Int), ns.length ≤ L.length → (∀ x ∈ L, 0 ≤ x ∧ x ≤ 2147483647) → (∃ x ∈ ns, Big x) → ∃ y ∈ List.zipWith (· + ·) L ns, y < 0 ∨ 2147483647 < y
  | _, [], _, _, h => by
    obtain ⟨x, hx, _⟩ := h
    cases hx
  | [], _ :: _, h, _, _ => by simp at h
  | a :: L, n :: ns, hl, hL, h => by
    obtain ⟨x, hx, hb⟩ := h
    cases hx with
    | head =>
      refine ⟨a + n, by simp, ?_⟩
      have := hL a (by simp)
      unfold Big at hb
      omega
    | tail _ hx =>
      obtain ⟨y, hy, h2⟩ := zip_big L ns (by simpa using hl) (fun x hx => hL x (by simp [hx])) ⟨x, hx, hb⟩
      exact ⟨y, by simp [hy], h2⟩
/-- **a piece's segment**, by the program and by the specification -/
theorem rd_spec {q : Pen} {line : Nat} {b u : Bytes} (P : PenIn q) (hb : NoSep b) (hu : Stop u) :
    match (goN 0 1 b).bind (rdSeg (lastI q line)) with
    | none => numbersIn 5 (b ++ u) = none ∨ ∃ ns, numbersIn 5 (b ++ u) = some (ns, u) ∧ (segIn q line ns = none ∨ ∃ s, segIn q line ns = some s ∧ s.ok = false)
    | some z => ∃ ns s, numbersIn 5 (b ++ u) = some (ns, u) ∧ segIn q line ns = some s ∧ s.ok = true ∧ sn s = z ∧ s.line = line := by
  have h := numbersIn_spec hu 5 b hb
  cases hg : goN 0 1 b with
  | none =>
    rw [hg] at h
    exact .inl h
  | some ns =>
    rw [hg] at h
    dsimp only [Option.bind] at h ⊢
    unfold rdSeg
    rcases h with ⟨h1, h2, h3⟩ | ⟨h1, h2⟩
    · rw [if_neg (by omega)]
      cases hs : segIn q line ns with
      | none =>
        rcases segIn_none hs with e | e
        · rw [if_neg (by rw [e]; decide)]
          exact .inr ⟨ns, h1, .inl hs⟩
        · omega
      | some s =>
        have e := segIn_some hs
        rw [← e.1, ok_isSeg]
        cases hk : s.ok with
        | true =>
          rw [if_pos rfl]
          exact ⟨ns, s, h1, hs, hk, rfl, e.2.1⟩
        | false =>
          rw [if_neg (by decide)]
          exact .inr ⟨ns, h1, .inr ⟨s, hs, hk⟩⟩
    · by_cases h6 : 6 ≤ ns.length
      · rw [if_pos h6]
        exact .inl h1
      · rw [if_neg h6]
        have : isSeg (toldBy (lastI q line) ns) = false := by
          rcases h2 with h0 | h5 | hbig
          · have : ns = [] := List.eq_nil_of_length_eq_zero h0
            subst this
            cases e : isSeg (toldBy (lastI q line) []) with
            | false => rfl
            | true =>
              have := isSeg_len e
              simp [toldBy] at this
          · omega
          · obtain ⟨y, hy, h7⟩ := zip_big _ ns (by rw [List.length_drop, lastI_len]; omega) (lastI_in P line) hbig
            exact isSeg_neg (List.mem_cons_of_mem _ hy) h7
        rw [this, if_neg (by decide)]
        exact .inl h1
end Wq

set_option maxRecDepth 100000
/-! # Pieces of a text; a text read, piece by piece -/
namespace Wq
open Wm
def notSep (c : UInt8) : Bool := !(c == 44) && !(c == 59)
theorem notSep_iff {c : UInt8} : notSep c = true ↔ c ≠ 44 ∧ c ≠ 59 := by
  unfold notSep
  simp
/-- the piece that begins at i -/
def pc (t : Bytes) (i : Nat) : Bytes := (t.drop i).takeWhile notSep
def pcEnd (t : Bytes) (i : Nat) : Nat := i + (pc t i).length
theorem pc_sep (t : Bytes) (i : Nat) : NoSep (pc t i) := by
  intro c hc
  have : (pc t i).all notSep = true := List.all_takeWhile
  exact notSep_iff.mp (List.all_eq_true.mp this c hc)
theorem take_drop {α : Type} (p : α → Bool) : ∀ l : List α, l.takeWhile p ++ l.drop (l.takeWhile p).length = l
  | [] => rfl
  | a :: l => by
    rw [List.takeWhile_cons]
    split
    · show a :: (l.takeWhile p ++ l.drop (l.takeWhile p).length) = a :: l
      rw [take_drop p l]
    · rfl
theorem pc_rest (t : Bytes) (i : Nat) : t.drop i = pc t i ++ t.drop (pcEnd t i) := by
  have h := take_drop notSep (t.drop i)
  unfold pcEnd
  rw [← List.drop_drop]
  exact h.symm
theorem pcEnd_le {t : Bytes} {i : Nat} (h : i ≤ t.length) : i ≤ pcEnd t i ∧ pcEnd t i ≤ t.length := by
  have := congrArg List.length (pc_rest t i)
  rw [List.length_append, List.length_drop, List.length_drop] at this
  unfold pcEnd at this ⊢
  omega
theorem pcEnd_step {t : Bytes} {i : Nat} {c : UInt8} (h : t[i]? = some c) (hc : notSep c = true) : pcEnd t i = pcEnd t (i + 1) := by
  have hi : i < t.length := by
    rcases Nat.lt_or_ge i t.length with g | g
    · exact g
    · rw [List.getElem?_eq_none g] at h
      cases h
  have e : t.drop i = c :: t.drop (i + 1) := by
    rw [List.drop_eq_getElem_cons hi]
    rw [List.getElem?_eq_getElem hi] at h
    rw [Option.some.inj h]
  unfold pcEnd pc
  rw [e, List.takeWhile_cons, if_pos hc, List.length_cons]
  omega
theorem pcEnd_stop {t : Bytes} {i : Nat} (h : ∀ c, t[i]? = some c → notSep c = false) : pcEnd t i = i := by
  unfold pcEnd pc
  cases e : t.drop i with
  | nil => rfl
  | cons c r =>
    have : t[i]? = some c := by
      have := congrArg List.head? e
      rw [List.head?_drop] at this
      exact this
    rw [List.takeWhile_cons, h c this]
    rfl
theorem drop_stop (t : Bytes) (i : Nat) : Stop (t.drop (pcEnd t i)) := by
  have h := take_drop notSep (t.drop i)
  have e : t.drop (pcEnd t i) = (t.drop i).dropWhile notSep := by
    have h2 : (t.drop i).takeWhile notSep ++ (t.drop i).dropWhile notSep = t.drop i := List.takeWhile_append_dropWhile
    have h3 := pc_rest t i
    unfold pc at h3
    rw [← h2] at h3
    have h4 : (t.drop i).takeWhile notSep ++ (t.drop i).dropWhile notSep = (t.drop i).takeWhile notSep ++ t.drop (pcEnd t i) := by
      rw [h2] at h3
      rw [h2]
      exact h3
    exact (List.append_cancel_left h4).symm
  rw [e]
  cases hd : (t.drop i).dropWhile notSep with
  | nil => exact .inl rfl
  | cons c r =>
    have := List.head?_dropWhile_not notSep (t.drop i)
    rw [hd] at this
    have hc : notSep c = false := by simpa using this
    unfold notSep at hc
    simp at hc
    by_cases h44 : c = 44
    · exact .inr (.inl (by rw [h44]; rfl))
    · exact .inr (.inr (by rw [hc h44]; rfl))
end Wq

set_option maxRecDepth 100000
/-! # A text read, piece by piece, is the specification's reading -/
namespace Wq
open Wm
def Good (m : Map) : Prop := (∀ s ∈ m, s.ok = true) ∧ m.Pairwise fun a b => behind a b = true
theorem Good.nil : Good [] := ⟨(fun s h => nomatch h), List.Pairwise.nil⟩
theorem behind_trans {a b c : Seg} (h : behind a b = true) (h2 : behind b c = true) : behind a c = true := by
  unfold behind at *
  simp at *
  omega
theorem last_all {m : Map} {s : Seg} (G : Good m) (h : last m s = true) : ∀ a ∈ m, behind a s = true := by
  intro a ha
  unfold last at h
  cases hl : m.getLast? with
  | none =>
    rw [List.getLast?_eq_none_iff] at hl
    subst hl
    cases ha
  | some t =>
    rw [hl] at h
    dsimp only at h
    obtain ⟨ys, rfl⟩ : ∃ ys, m = ys ++ [t] := List.getLast?_eq_some_iff.mp hl
    rcases List.mem_append.mp ha with h1 | h1
    · have := (List.pairwise_append.mp G.2).2.2 a h1 t (by simp)
      exact behind_trans this h
    · simp at h1
      rw [h1]
      exact h
theorem Good.snoc {m : Map} {s : Seg} (G : Good m) (ho : s.ok = true) (h : last m s = true) : Good (m ++ [s]) := by
  refine ⟨fun x hx => ?_, List.pairwise_append.mpr ⟨G.2, List.pairwise_singleton .., fun a ha b hb => ?_⟩⟩
  · rcases List.mem_append.mp hx with h1 | h1
    · exact G.1 x h1
    · simp at h1
      rw [h1]
      exact ho
  · simp at hb
    rw [hb]
    exact last_all G h a ha
structure PenOf (q : Pen) (acc : Map) : Prop where
  begun : q.begun = !acc.isEmpty
  last : ∀ s, acc.getLast? = some s → q.line = s.line ∧ q.col = s.col
  inn : PenIn q
theorem ok_in {s : Seg} (h : s.ok = true) : s.line ≤ LINES ∧ s.col ≤ MOST ∧ ∀ o, s.orig = some o → o.src ≤ MOST ∧ o.line ≤ MOST ∧ o.col ≤ MOST ∧ ∀ n, o.name = some n → n ≤ MOST := by
  unfold Seg.ok at h
  simp only [Bool.and_eq_true, decide_eq_true_eq] at h
  refine ⟨h.1, h.2.1, fun o ho => ?_⟩
  rw [ho] at h
  have h2 := h.2.2
  simp only [Origin.ok, Bool.and_eq_true, decide_eq_true_eq] at h2
  refine ⟨h2.1, h2.2.1, h2.2.2.1, fun n hn => ?_⟩
  have h3 := h2.2.2.2
  rw [hn] at h3
  simpa [smallName] using h3
theorem PenOf.moved {q : Pen} {acc : Map} (P : PenOf q acc) {s : Seg} (h : s.ok = true) : PenOf (moved q s) (acc ++ [s]) := by
  have hk := ok_in h
  have hI := P.inn
  refine ⟨?_, fun x hx => ?_, ?_⟩
  · have : (acc ++ [s]).isEmpty = false := by cases acc <;> rfl
    rw [this]
    unfold Wm.moved
    cases s.orig <;> rfl
  · simp at hx
    subst hx
    unfold Wm.moved
    cases s.orig <;> exact ⟨rfl, rfl⟩
  · unfold Wm.moved
    cases ho : s.orig with
    | none => exact ⟨hk.2.1, hI.src, hI.sline, hI.scol, hI.name⟩
    | some o =>
      have h4 := hk.2.2 o ho
      refine ⟨hk.2.1, h4.1, h4.2.1, h4.2.2.1, ?_⟩
      show o.name.getD q.name ≤ MOST
      cases hn : o.name with
      | none => exact hI.name
      | some n => exact h4.2.2.2 n hn
theorem moved_line (q : Pen) (s : Seg) : (moved q s).line = s.line := by
  unfold moved
  cases s.orig <;> rfl
theorem moved_last {q : Pen} {s : Seg} {line : Nat} (h : s.line = line) : lastI (moved q s) line = sn s ++ (lastI q line).drop (sn s).length := by
  subst h
  rcases sn_cases s with ⟨a, b, rfl⟩ | ⟨a, b, c, d, e, rfl⟩ | ⟨a, b, c, d, e, f, rfl⟩
  · rw [sn_two]
    simp [lastI, moved]
  · rw [sn_five]
    simp [lastI, moved]
  · rw [sn_six]
    simp [lastI, moved]
/-- begin_line -/
def begun (L : List Int) (l : Int) : List Int := l :: 0 :: L.drop 2
theorem begun_last {q : Pen} {line line' : Nat} (h : q.line ≤ line) : begun (lastI q line') ((line : Int) + 1) = lastI q (line + 1) := by
  unfold begun lastI
  rw [if_neg (by omega : ¬ line + 1 = q.line)]
  simp
theorem stands_last {q : Pen} {acc : Map} (P : PenOf q acc) {s : Seg} : stands q s = (s.ok && last acc s) := by
  unfold stands last
  rw [P.begun]
  cases hl : acc.getLast? with
  | none =>
    rw [List.getLast?_eq_none_iff] at hl
    subst hl
    rfl
  | some t =>
    have h1 := P.last t hl
    have : acc.isEmpty = false := by
      cases acc with
      | nil => cases hl
      | cons _ _ => rfl
    rw [this]
    unfold behind
    rw [h1.1, h1.2]
    rfl
/-- between two turns of read_map -/
structure Rd (t : Bytes) (start : Nat) (comma : Bool) (acc : Map) (L : List Int) : Prop where
  good : Good acc
  six : L.length = 6
  few : acc.length ≤ start
  st : (start = t.length + 1 ∧ comma = false ∧ read t = .ok acc) ∨ (start ≤ t.length ∧ ∃ q line f, read t = (readOn f q line start comma (t.drop start)).map (fun m => acc ++ m) ∧ (t.drop start).length + 1 ≤ f ∧ L = lastI q line ∧ PenOf q acc ∧ q.line ≤ line)
theorem map_id {x : Except Nat Map} : x.map (fun m => [] ++ m) = x := by
  cases x <;> rfl
theorem Rd.start (t : Bytes) : Rd t 0 false [] [0, 0, 0, 0, 0, 0] := by
  refine ⟨Good.nil, rfl, Nat.le_refl _, .inr ⟨Nat.zero_le _, pen, 0, t.length + 2, ?_, ?_, rfl, ⟨rfl, (fun s h => nomatch h), ⟨by decide, by decide, by decide, by decide, by decide⟩⟩, Nat.le_refl _⟩⟩
  · rw [map_id]
    rfl
  · show t.length + 1 ≤ t.length + 2
    omega
theorem Rd.done {t : Bytes} {start : Nat} {comma : Bool} {acc : Map} {L : List Int} (R : Rd t start comma acc L) (h : ¬ start ≤ t.length) : read t = .ok acc := by
  rcases R.st with h1 | h1
  · exact h1.2.2
  · exact absurd h1.1 h
theorem readOn_nil (f : Nat) (q : Pen) (line p : Nat) (comma : Bool) : readOn (f + 1) q line p comma [] = if comma = true then .error p else .ok [] := rfl
theorem readOn_cons (f : Nat) (q : Pen) (line p : Nat) (comma : Bool) (c : UInt8) (r : Bytes) : readOn (f + 1) q line p comma (c :: r) = if c = 59 ∧ comma = false then readOn f q (line + 1) (p + 1) false r else match numbersIn 5 (c :: r) with
      | none => .error p
      | some x => match segIn q line x.1 with
        | none => .error p
        | some s => if stands q s = false then .error p else match x.2 with
          | [] => .ok [s]
          | 44 :: u => (readOn f (moved q s) line (p + ((c :: r).length - u.length)) true u).map fun (m : Map) => s :: m
          | u => (readOn f (moved q s) line (p + ((c :: r).length - u.length)) false u).map fun (m : Map) => s :: m := rfl
theorem numbersIn_sep {u : Bytes} (h : Stop u) (f : Nat) : numbersIn f u = none := by
  cases f with
  | zero => rfl
  | succ f =>
    rw [numbersIn_succ]
    unfold numberIn
    rw [groupsIn_stop h]
theorem err_map {p : Nat} {g : Map → Map} : (Except.error p : Except Nat Map).map g = .error p := rfl
section
variable {t : Bytes} {start : Nat} {comma : Bool} {acc : Map} {L : List Int}
theorem Rd.open_ (R : Rd t start comma acc L) (h : start ≤ t.length) : ∃ q line f, read t = (readOn (f + 1) q line start comma (t.drop start)).map (fun m => acc ++ m) ∧ (t.drop start).length ≤ f ∧ L = lastI q line ∧ PenOf q acc ∧ q.line ≤ line := by
  rcases R.st with h1 | h1
  · omega
  · obtain ⟨_, q, line, f, e, hf, hL, hP, hq⟩ := h1
    cases f with
    | zero => omega
    | succ f => exact ⟨q, line, f, e, by omega, hL, hP, hq⟩
/-- no segment where one has to be -/
theorem Rd.empty (R : Rd t start comma acc L) (h : start ≤ t.length) (hp : pcEnd t start = start) (hc : comma = true ∨ (t.drop start).head? = some 44) : read t = .error start := by
  obtain ⟨q, line, f, e, hf, hL, hP, hq⟩ := R.open_ h
  have hs : Stop (t.drop start) := by
    have := drop_stop t start
    rw [hp] at this
    exact this
  rw [e]
  rcases hs.cases with e0 | ⟨v, e0⟩ | ⟨v, e0⟩
  · rw [e0] at hc ⊢
    rw [readOn_nil]
    rcases hc with hc | hc
    · rw [if_pos hc]
      rfl
    · cases hc
  · have hn := numbersIn_sep hs 5
    rw [e0] at hn ⊢
    rw [readOn_cons, if_neg (by intro z; exact absurd z.1 (by decide)), hn]
    rfl
  · have hn := numbersIn_sep hs 5
    rw [e0] at hn hc ⊢
    have : comma = true := by
      rcases hc with hc | hc
      · exact hc
      · simp at hc
    rw [readOn_cons, if_neg (by intro z; rw [this] at z; exact absurd z.2 (by decide)), hn]
    rfl
theorem drop_succ {l : Bytes} {i : Nat} {c : UInt8} {v : Bytes} (h : l.drop i = c :: v) : l.drop (i + 1) = v ∧ i < l.length := by
  refine ⟨?_, ?_⟩
  · have := congrArg (List.drop 1) h
    rw [List.drop_drop] at this
    exact this
  · rcases Nat.lt_or_ge i l.length with g | g
    · exact g
    · rw [List.drop_eq_nil_of_le g] at h
      cases h
/-- the end, or a ; -/
theorem Rd.line_ (R : Rd t start false acc L) (h : start ≤ t.length) (hp : pcEnd t start = start) (hc : (t.drop start).head? ≠ some 44) : Rd t (start + 1) false acc (begun L (L.headD 0 + 1)) := by
  obtain ⟨q, line, f, e, hf, hL, hP, hq⟩ := R.open_ h
  have hs : Stop (t.drop start) := by
    have := drop_stop t start
    rw [hp] at this
    exact this
  have h6 : (begun L (L.headD 0 + 1)).length = 6 := by
    have := R.six
    unfold begun
    rw [List.length_cons, List.length_cons, List.length_drop]
    omega
  refine ⟨R.good, h6, Nat.le_succ_of_le R.few, ?_⟩
  rcases hs.cases with e0 | ⟨v, e0⟩ | ⟨v, e0⟩
  · left
    have : start = t.length := by
      have := congrArg List.length e0
      rw [List.length_drop] at this
      simp at this
      omega
    refine ⟨by omega, rfl, ?_⟩
    rw [e, e0, readOn_nil]
    show Except.ok (acc ++ []) = _
    rw [List.append_nil]
  · rw [e0] at hc
    exact absurd rfl hc
  · right
    obtain ⟨e1, hlt⟩ := drop_succ e0
    refine ⟨hlt, q, line + 1, f, ?_, ?_, ?_, hP, by omega⟩
    · rw [e, e0, readOn_cons, if_pos ⟨rfl, rfl⟩, e1]
    · rw [e0] at hf
      rw [e1]
      exact hf
    · rw [hL]
      exact begun_last hq
theorem piece_cons (hp : pcEnd t start ≠ start) : ∃ c r, pc t start = c :: r ∧ c ≠ 59 := by
  cases e : pc t start with
  | nil =>
    exfalso
    apply hp
    unfold pcEnd
    rw [e]
    rfl
  | cons c r =>
    refine ⟨c, r, rfl, ?_⟩
    have := pc_sep t start c (by rw [e]; simp)
    exact this.2
theorem Rd.bad (R : Rd t start comma acc L) (h : start ≤ t.length) (hp : pcEnd t start ≠ start) (hs : (goN 0 1 (pc t start)).bind (rdSeg L) = none) : read t = .error start := by
  obtain ⟨q, line, f, e, hf, hL, hP, hq⟩ := R.open_ h
  obtain ⟨c, r, ep, hc⟩ := piece_cons hp
  have hsp := rd_spec (q := q) (line := line) hP.inn (pc_sep t start) (drop_stop t start)
  rw [← hL, hs, ← pc_rest] at hsp
  dsimp only at hsp
  have eb : t.drop start = c :: (r ++ t.drop (pcEnd t start)) := by
    rw [pc_rest t start, ep]
    rfl
  rw [e]
  rw [eb] at hsp ⊢
  rw [readOn_cons, if_neg (fun z => hc z.1)]
  rcases hsp with h1 | ⟨ns, h1, h2⟩
  · rw [h1]
    rfl
  · rw [h1]
    dsimp only
    rcases h2 with h2 | ⟨s, h2, h3⟩
    · rw [h2]
      rfl
    · rw [h2]
      dsimp only
      rw [if_pos (by unfold stands; rw [h3]; rfl)]
      rfl
theorem Rd.found (R : Rd t start comma acc L) (h : start ≤ t.length) (hp : pcEnd t start ≠ start) {z : List Int} (hs : (goN 0 1 (pc t start)).bind (rdSeg L) = some z) :
    ∃ s, sn s = z ∧ s.ok = true ∧ (last acc s = false → read t = .error start) ∧ (last acc s = true →
      ((t.drop (pcEnd t start)).head? = some 44 → Rd t (pcEnd t start + 1) true (acc ++ [s]) (z ++ L.drop z.length)) ∧
      ((t.drop (pcEnd t start)).head? ≠ some 44 → Rd t (pcEnd t start + 1) false (acc ++ [s]) (begun (z ++ L.drop z.length) ((z ++ L.drop z.length).headD 0 + 1)))) := by
  obtain ⟨q, line, f, e, hf, hL, hP, hq⟩ := R.open_ h
  obtain ⟨c, r, ep, hc⟩ := piece_cons hp
  have hsp := rd_spec (q := q) (line := line) hP.inn (pc_sep t start) (drop_stop t start)
  rw [← hL, hs, ← pc_rest] at hsp
  obtain ⟨ns, s, h1, h2, h3, h4, h5⟩ := hsp
  have eb : t.drop start = c :: (r ++ t.drop (pcEnd t start)) := by
    rw [pc_rest t start, ep]
    rfl
  have hst := stands_last hP (s := s)
  rw [h3, Bool.true_and] at hst
  have eR : readOn (f + 1) q line start comma (t.drop start) = if last acc s = false then .error start else match t.drop (pcEnd t start) with
          | [] => .ok [s]
          | 44 :: u => (readOn f (moved q s) line (start + ((t.drop start).length - u.length)) true u).map fun (m : Map) => s :: m
          | u => (readOn f (moved q s) line (start + ((t.drop start).length - u.length)) false u).map fun (m : Map) => s :: m := by
    rw [eb] at h1 ⊢
    rw [readOn_cons, if_neg (fun z => hc z.1), h1]
    dsimp only
    rw [h2]
    dsimp only
    rw [hst]
    rfl
  have hle := pcEnd_le (t := t) h
  have hlen : (t.drop start).length = t.length - start := List.length_drop ..
  have hne : start < pcEnd t start := by omega
  have eM : lastI (moved q s) line = z ++ L.drop z.length := by
    rw [moved_last h5, h4, hL]
  have h6 : (z ++ L.drop z.length).length = 6 := by
    rw [← eM]
    rfl
  have h6b : (begun (z ++ L.drop z.length) ((z ++ L.drop z.length).headD 0 + 1)).length = 6 := by
    unfold begun
    rw [List.length_cons, List.length_cons, List.length_drop]
    omega
  have few : (acc ++ [s]).length ≤ pcEnd t start + 1 := by
    have := R.few
    rw [List.length_append]
    simp
    omega
  have app : ∀ x : Except Nat Map, (x.map fun m => s :: m).map (fun m => acc ++ m) = x.map fun m => (acc ++ [s]) ++ m := by
    intro x
    cases x with
    | error _ => rfl
    | ok m =>
      show Except.ok (acc ++ s :: m) = Except.ok (acc ++ [s] ++ m)
      rw [List.append_assoc]
      rfl
  refine ⟨s, h4, h3, fun hl => ?_, fun hl => ⟨fun h44 => ?_, fun h44 => ?_⟩⟩
  · rw [e, eR, if_pos hl]
    rfl
  · rw [if_neg (by rw [hl]; decide)] at eR
    refine ⟨R.good.snoc h3 hl, h6, few, .inr ?_⟩
    obtain ⟨v, ev⟩ : ∃ v, t.drop (pcEnd t start) = 44 :: v := by
      cases hd : t.drop (pcEnd t start) with
      | nil => rw [hd] at h44; cases h44
      | cons d v =>
        rw [hd] at h44
        have : d = 44 := Option.some.inj h44
        exact ⟨v, by rw [this]⟩
    obtain ⟨e1, hlt⟩ := drop_succ ev
    have hv : v.length = t.length - (pcEnd t start + 1) := by
      rw [← e1, List.length_drop]
    refine ⟨hlt, moved q s, line, f, ?_, ?_, eM.symm, hP.moved h3, ?_⟩
    · rw [e, eR, ev]
      show ((readOn f (moved q s) line (start + ((t.drop start).length - v.length)) true v).map fun (m : Map) => s :: m).map (fun m => acc ++ m) = _
      rw [app, e1]
      have : start + ((t.drop start).length - v.length) = pcEnd t start + 1 := by omega
      rw [this]
    · rw [e1]
      omega
    · rw [moved_line, h5]
      exact Nat.le_refl _
  · rw [if_neg (by rw [hl]; decide)] at eR
    have eB : begun (z ++ L.drop z.length) ((z ++ L.drop z.length).headD 0 + 1) = lastI (moved q s) (line + 1) := by
      rw [← eM]
      exact begun_last (by rw [moved_line, h5]; exact Nat.le_refl _)
    refine ⟨R.good.snoc h3 hl, h6b, few, ?_⟩
    rcases (drop_stop t start).cases with e0 | ⟨v, e0⟩ | ⟨v, e0⟩
    · left
      have : pcEnd t start = t.length := by
        have := congrArg List.length e0
        rw [List.length_drop] at this
        simp at this
        omega
      refine ⟨by omega, rfl, ?_⟩
      rw [e, eR, e0]
      rfl
    · rw [e0] at h44
      exact absurd rfl h44
    · right
      obtain ⟨e1, hlt⟩ := drop_succ e0
      have hv : v.length = t.length - (pcEnd t start + 1) := by
        rw [← e1, List.length_drop]
      cases f with
      | zero => omega
      | succ f =>
        refine ⟨hlt, moved q s, line + 1, f, ?_, ?_, eB, hP.moved h3, ?_⟩
        · rw [e, eR, e0]
          show ((readOn (f + 1) (moved q s) line (start + ((t.drop start).length - (59 :: v).length)) false (59 :: v)).map fun (m : Map) => s :: m).map (fun m => acc ++ m) = _
          rw [app, readOn_cons, if_pos ⟨rfl, rfl⟩, e1]
          have : start + ((t.drop start).length - (59 :: v).length) = pcEnd t start := by
            rw [List.length_cons]
            omega
          rw [this]
        · rw [e1]
          omega
        · rw [moved_line, h5]
          exact Nat.le_succ _
end
end Wq

set_option maxRecDepth 100000
/-! # A map's text, segment by segment -/
namespace Wq
open Wm
/-- a segment's numbers, each less what stands there -/
def steps (s : Seg) (L : List Int) : List Int := List.zipWith (fun a b => a - b) ((sn s).drop 1) (L.drop 1)
theorem numbers_steps (p : Pen) (s : Seg) : numbers p s = steps s (lastI p s.line) := by
  rcases sn_cases s with ⟨a, b, rfl⟩ | ⟨a, b, c, d, e, rfl⟩ | ⟨a, b, c, d, e, f, rfl⟩
  · unfold steps
    rw [sn_two]
    rfl
  · unfold steps
    rw [sn_five]
    rfl
  · unfold steps
    rw [sn_six]
    rfl
theorem steps_len (s : Seg) {L : List Int} (h : L.length = 6) : (steps s L).length = (sn s).length - 1 := by
  unfold steps
  have := (sn_len s).2
  rw [List.length_zipWith, List.length_drop, List.length_drop]
  omega
theorem steps_at {s : Seg} {L : List Int} {j : Nat} {x y : Int} (h1 : (sn s)[1 + j]? = some x) (h2 : L[1 + j]? = some y) : (steps s L)[j]? = some (x - y) := by
  unfold steps
  rw [List.getElem?_zipWith, List.getElem?_drop, List.getElem?_drop, h1, h2]
theorem coded_small {x y : Int} (hx : 0 ≤ x ∧ x ≤ 2147483647) (hy : 0 ≤ y ∧ y ≤ 2147483647) : coded (x - y) < 32 ^ 8 := by
  unfold coded
  split <;> omega
theorem sn_in {s : Seg} (h : s.ok = true) : ∀ x ∈ sn s, 0 ≤ x ∧ x ≤ 2147483647 := by
  rw [← ok_isSeg] at h
  unfold isSeg at h
  simp only [Bool.and_eq_true] at h
  intro x hx
  have := List.all_eq_true.mp h.2.2 x hx
  simp [inB] at this
  exact this
/-- between two turns of written_map -/
structure Wt (m : Map) (i : Nat) (txt : Bytes) (p : Pen) : Prop where
  eq : Wm.text m = txt ++ written p (m.drop i)
  beg : p.begun = decide (0 < i)
  ne : 0 < i → txt ≠ []
  fst : i = 0 → txt = [] ∧ p.line = 0
  lst : ∀ s, 0 < i → m[i - 1]? = some s → p.line = s.line
  inn : PenIn p
theorem Wt.start (m : Map) : Wt m 0 [] pen := ⟨rfl, rfl, fun h => absurd h (by decide), fun _ => ⟨rfl, rfl⟩, fun _ h => absurd h (by decide), ⟨by decide, by decide, by decide, by decide, by decide⟩⟩
section
variable {m : Map} {i : Nat} {txt : Bytes} {p : Pen} {s : Seg}
theorem drop_get {α : Type} {l : List α} {i : Nat} {c : α} (h : l[i]? = some c) : l.drop i = c :: l.drop (i + 1) ∧ i < l.length := by
  have hi : i < l.length := by
    rcases Nat.lt_or_ge i l.length with g | g
    · exact g
    · rw [List.getElem?_eq_none g] at h
      cases h
  refine ⟨?_, hi⟩
  rw [List.drop_eq_getElem_cons hi]
  rw [List.getElem?_eq_getElem hi] at h
  rw [Option.some.inj h]
theorem Wt.order (W : Wt m i txt p) (G : Good m) (h : m[i]? = some s) : p.line ≤ s.line := by
  have ⟨_, hi⟩ := drop_get h
  rcases Nat.eq_zero_or_pos i with h0 | h0
  · rw [(W.fst h0).2]
    exact Nat.zero_le _
  · have h1 : i - 1 < m.length := by omega
    have e := W.lst m[i - 1] h0 (List.getElem?_eq_getElem h1)
    have hb := List.pairwise_iff_getElem.mp G.2 (i - 1) i h1 hi (by omega)
    rw [List.getElem?_eq_getElem hi] at h
    rw [Option.some.inj h] at hb
    unfold behind at hb
    simp at hb
    omega
theorem Wt.rest (W : Wt m i txt p) (h : m[i]? = some s) : Wm.text m = txt ++ (separator p s ++ ((numbers p s).flatMap digits ++ written (moved p s) (m.drop (i + 1)))) := by
  rw [W.eq, (drop_get h).1]
  rfl
theorem take_flat {α β : Type} (f : α → List β) : ∀ (l : List α) (j : Nat), ∃ r, l.flatMap f = (l.take j).flatMap f ++ r := by
  intro l j
  refine ⟨(l.drop j).flatMap f, ?_⟩
  rw [← List.flatMap_append, List.take_append_drop]
theorem Wt.len (W : Wt m i txt p) (h : m[i]? = some s) (j : Nat) : (txt ++ separator p s ++ ((numbers p s).take j).flatMap digits).length ≤ (Wm.text m).length := by
  rw [W.rest h]
  obtain ⟨r, e⟩ := take_flat digits (numbers p s) j
  rw [e]
  simp only [List.length_append]
  omega
theorem Wt.len0 (W : Wt m i txt p) : txt.length ≤ (Wm.text m).length := by
  rw [W.eq, List.length_append]
  omega
theorem flat_snoc {α β : Type} (f : α → List β) {l : List α} {j : Nat} {x : α} (h : l[j]? = some x) : (l.take (j + 1)).flatMap f = (l.take j).flatMap f ++ f x := by
  rw [List.take_add_one, h, List.flatMap_append]
  simp
theorem Wt.sep_more (W : Wt m i txt p) (h : (p.line : Int) < (s.line : Int)) : separator p s = List.replicate (s.line - p.line) 59 ∧ begun (lastI p p.line) (s.line : Int) = lastI p s.line := by
  refine ⟨?_, ?_⟩
  · unfold separator
    rw [if_neg (by intro z; have := z.2; omega)]
  · unfold begun lastI
    rw [if_neg (by omega : ¬ s.line = p.line)]
    simp
theorem Wt.sep_same (W : Wt m i txt p) (G : Good m) (h : m[i]? = some s) (hn : ¬ (p.line : Int) < (s.line : Int)) : lastI p p.line = lastI p s.line ∧ (0 < txt.length → separator p s = [44]) ∧ (¬ 0 < txt.length → separator p s = []) := by
  have ho := W.order G h
  have e : s.line = p.line := by omega
  refine ⟨by rw [e], fun ht => ?_, fun ht => ?_⟩
  · unfold separator
    have : 0 < i := by
      rcases Nat.eq_zero_or_pos i with h0 | h0
      · rw [(W.fst h0).1] at ht
        simp at ht
      · exact h0
    rw [if_pos ⟨by rw [W.beg]; exact decide_eq_true this, e⟩]
  · unfold separator
    have : ¬ 0 < i := by
      intro h0
      have := W.ne h0
      cases txt with
      | nil => exact this rfl
      | cons _ _ => simp at ht
    rw [if_neg (by intro z; rw [W.beg, decide_eq_false this] at z; exact absurd z.1 (by decide)), e, Nat.sub_self]
    rfl
theorem moved_begun (q : Pen) (s : Seg) : (moved q s).begun = true := by
  unfold moved
  cases s.orig <;> rfl
theorem Wt.turn (W : Wt m i txt p) (G : Good m) (h : m[i]? = some s) : Wt m (i + 1) (txt ++ separator p s ++ (numbers p s).flatMap digits) (moved p s) ∧ lastI (moved p s) (moved p s).line = sn s ++ (lastI p s.line).drop (sn s).length := by
  have hok : s.ok = true := G.1 s (List.mem_of_getElem? h)
  refine ⟨⟨?_, ?_, ?_, ?_, ?_, ?_⟩, ?_⟩
  · rw [W.rest h]
    simp only [List.append_assoc]
  · rw [moved_begun]
    exact (decide_eq_true (Nat.succ_pos i)).symm
  · intro _ e
    have := congrArg List.length e
    simp only [List.length_append, List.length_nil] at this
    obtain ⟨x, l, e2⟩ : ∃ x l, numbers p s = x :: l := ⟨_, _, rfl⟩
    rw [e2, List.flatMap_cons, List.length_append] at this
    have hd := digits_ne x
    cases hx : digits x with
    | nil => exact hd hx
    | cons _ _ =>
      rw [hx] at this
      simp at this
  · intro h0
    omega
  · intro t _ ht
    have : m[i]? = some t := ht
    rw [h] at this
    rw [moved_line, Option.some.inj this]
  · have hk := ok_in hok
    have hI := W.inn
    unfold moved
    cases ho : s.orig with
    | none => exact ⟨hk.2.1, hI.src, hI.sline, hI.scol, hI.name⟩
    | some o =>
      have h4 := hk.2.2 o ho
      refine ⟨hk.2.1, h4.1, h4.2.1, h4.2.2.1, ?_⟩
      show o.name.getD p.name ≤ MOST
      cases hn : o.name with
      | none => exact hI.name
      | some n => exact h4.2.2.2 n hn
  · rw [moved_line]
    exact moved_last rfl
theorem Wt.done (W : Wt m m.length txt p) : txt = Wm.text m := by
  rw [W.eq, List.drop_length]
  exact (List.append_nil _).symm
end
end Wq

set_option maxRecDepth 100000
/-! # What a call does, said for the maps that can be held -/
namespace Wq
open Wm
/-- a map that can be held -/
def Fit (m : Map) : Prop := Good m ∧ m.length ≤ 200
theorem Fit.nil : Fit [] := ⟨Good.nil, Nat.zero_le _⟩
structure Fits (st : State) : Prop where
  len : st.length = 4
  all : ∀ m ∈ st, Fit m
theorem Fits.start : Fits start := ⟨rfl, fun m h => by
  have : m = [] := List.eq_of_mem_replicate h
  rw [this]
  exact Fit.nil⟩
theorem Fits.get {st : State} (F : Fits st) {k : Nat} (h : k < 4) : st[k]? = some (mapAt st k) ∧ Fit (mapAt st k) := by
  have hk : k < st.length := by rw [F.len]; exact h
  have e : st[k]? = some st[k] := List.getElem?_eq_getElem hk
  have e2 : mapAt st k = st[k] := by
    unfold mapAt
    rw [List.getD_eq_getElem?_getD, e]
    rfl
  rw [e2]
  exact ⟨e, F.all _ (List.getElem_mem hk)⟩
theorem Fits.set {st : State} (F : Fits st) {k : Nat} {m : Map} (h : Fit m) : Fits (st.set k m) := by
  refine ⟨by rw [List.length_set]; exact F.len, fun x hx => ?_⟩
  rcases List.mem_or_eq_of_mem_set hx with h1 | h1
  · exact F.all x h1
  · rw [h1]
    exact h
/-- what is answered, as numbers -/
def ans (st : State) (c : Wm.Call) : List Int := WmNeutral.shown (step st c).2
theorem of_lt {st : State} {k : Nat} {f : Map → State × Answer} (h : k < 4) : Wm.of st k f = f (mapAt st k) := by
  unfold Wm.of
  rw [if_neg (by unfold MAPS; omega)]
theorem of_ge {st : State} {k : Nat} {f : Map → State × Answer} (h : ¬ k < 4) : Wm.of st k f = (st, no 1) := by
  unfold Wm.of
  rw [if_pos (by unfold MAPS; omega)]
/-! ### what is read is a map -/
theorem map_ok {x : Except Nat Map} {g : Map → Map} {m : Map} (h : x.map g = .ok m) : ∃ y, x = .ok y ∧ g y = m := by
  cases x with
  | error n => cases h
  | ok y => exact ⟨y, rfl, Except.ok.inj h⟩
theorem readOn_good : ∀ (f : Nat) (q : Pen) (line p : Nat) (comma : Bool) (b : Bytes) (acc m : Map), PenOf q acc → Good acc → readOn f q line p comma b = .ok m → Good (acc ++ m)
  | 0, _, _, _, _, _, _, _, _, _, h => by cases h
  | f + 1, q, line, p, comma, b, acc, m, P, G, h => by
    cases b with
    | nil =>
      rw [readOn_nil] at h
      split at h
      · cases h
      · rw [← Except.ok.inj h, List.append_nil]
        exact G
    | cons c r =>
      rw [readOn_cons] at h
      split at h
      · exact readOn_good f q (line + 1) (p + 1) false r acc m P G h
      · split at h
        · cases h
        · split at h
          · cases h
          · rename_i x _ s _
            split at h
            · cases h
            · rename_i hst
              have hs : (s.ok && last acc s) = true := by
                rw [← stands_last P]
                simpa using hst
              rw [Bool.and_eq_true] at hs
              have P2 := P.moved hs.1
              have G2 := G.snoc hs.1 hs.2
              have fin : ∀ (x : Except Nat Map), (∀ y, x = .ok y → Good ((acc ++ [s]) ++ y)) → (x.map fun (m : Map) => s :: m) = .ok m → Good (acc ++ m) := by
                intro x hx e
                obtain ⟨y, e1, e2⟩ := map_ok e
                have := hx y e1
                rw [← e2]
                rw [List.append_assoc] at this
                exact this
              split at h
              · rw [← Except.ok.inj h]
                exact G2
              · exact fin _ (fun y e => readOn_good f _ _ _ _ _ (acc ++ [s]) y P2 G2 e) h
              · exact fin _ (fun y e => readOn_good f _ _ _ _ _ (acc ++ [s]) y P2 G2 e) h
theorem read_good {t : Bytes} {m : Map} (h : Wm.read t = .ok m) : Good m := by
  have := readOn_good (t.length + 2) pen 0 0 false t [] m ⟨rfl, (fun s h => nomatch h), ⟨by decide, by decide, by decide, by decide, by decide⟩⟩ Good.nil h
  exact this
/-! ### -1 ahead of all -/
theorem step_high {st : State} {c : Wm.Call} (k : Nat) (h : ¬ k < 4) (hc : (∃ l, c = .add k l) ∨ (∃ t, c = .read k t) ∨ c = .write k ∨ c = .count k ∨ (∃ i, c = .get k i) ∨ (∃ l o, c = .at_ k l o) ∨ (∃ s l o, c = .back k s l o) ∨ (∃ j s b n, c = .join k j s b n) ∨ (∃ j l o b n, c = .append k j l o b n) ∨ c = .clear k) : step st c = (st, no 1) := by
  rcases hc with ⟨l, rfl⟩ | ⟨t, rfl⟩ | rfl | rfl | ⟨i, rfl⟩ | ⟨l, o, rfl⟩ | ⟨s, l, o, rfl⟩ | ⟨j, s, b, n, rfl⟩ | ⟨j, l, o, b, n, rfl⟩ | rfl <;> (unfold Wm.step; dsimp only; rw [of_ge h])
section
variable {st : State} {k : Nat}
/-! ### add -/
theorem step_add (h : k < 4) (l : List Nat) : step st (.add k l) = match segOf l with
    | none => (st, no 1)
    | some x => if last (mapAt st k) x = false then (st, no 2) else if SEGMENTS ≤ (mapAt st k).length then (st, no 4) else (st.set k (mapAt st k ++ [x]), one 0) := by
  unfold Wm.step
  dsimp only
  rw [of_lt h]
  rfl
theorem add_no1 (h : k < 4) {l : List Nat} (hs : isSeg (natsI l) = false) : step st (.add k l) = (st, no 1) := by
  rw [step_add h]
  rw [segOf_natsI] at hs
  cases e : segOf l with
  | none => rfl
  | some x => rw [e] at hs; cases hs
theorem add_seg {l : List Nat} (hs : isSeg (natsI l) = true) : ∃ x, segOf l = some x ∧ sn x = natsI l ∧ x.ok = true := by
  rw [segOf_natsI] at hs
  cases e : segOf l with
  | none => rw [e] at hs; cases hs
  | some x => exact ⟨x, rfl, segOf_sn e⟩
theorem add_no2 (h : k < 4) {l : List Nat} {x : Seg} (hs : segOf l = some x) (hl : last (mapAt st k) x = false) : step st (.add k l) = (st, no 2) := by
  rw [step_add h, hs]
  dsimp only
  rw [if_pos hl]
theorem add_no4 (h : k < 4) {l : List Nat} {x : Seg} (hs : segOf l = some x) (hl : last (mapAt st k) x = true) (hm : 200 ≤ (mapAt st k).length) : step st (.add k l) = (st, no 4) := by
  rw [step_add h, hs]
  dsimp only
  rw [if_neg (by rw [hl]; decide), if_pos (show SEGMENTS ≤ _ from hm)]
theorem add_yes (h : k < 4) {l : List Nat} {x : Seg} (hs : segOf l = some x) (hl : last (mapAt st k) x = true) (hm : ¬ 200 ≤ (mapAt st k).length) : step st (.add k l) = (st.set k (mapAt st k ++ [x]), one 0) := by
  rw [step_add h, hs]
  dsimp only
  rw [if_neg (by rw [hl]; decide), if_neg (show ¬ SEGMENTS ≤ _ from hm)]
theorem Fit.add {m : Map} (F : Fit m) {x : Seg} (ho : x.ok = true) (hl : last m x = true) (hm : ¬ 200 ≤ m.length) : Fit (m ++ [x]) := by
  refine ⟨F.1.snoc ho hl, ?_⟩
  rw [List.length_append]
  simp
  omega
/-! ### read -/
theorem step_read (h : k < 4) (t : Bytes) : step st (.read k t) = match Wm.read t with
    | .error p => (st, .refused 3 [p])
    | .ok m => if SEGMENTS < m.length then (st, no 4) else (st.set k m, one m.length) := by
  unfold Wm.step
  dsimp only
  rw [of_lt h]
  rfl
theorem read_err (h : k < 4) {t : Bytes} {n : Nat} (e : Wm.read t = .error n) : step st (.read k t) = (st, .refused 3 [n]) := by
  rw [step_read h, e]
theorem read_no4 (h : k < 4) {t : Bytes} {m : Map} (e : Wm.read t = .ok m) (hm : 200 < m.length) : step st (.read k t) = (st, no 4) := by
  rw [step_read h, e]
  dsimp only
  rw [if_pos (show SEGMENTS < _ from hm)]
theorem read_yes (h : k < 4) {t : Bytes} {m : Map} (e : Wm.read t = .ok m) (hm : ¬ 200 < m.length) : step st (.read k t) = (st.set k m, one m.length) := by
  rw [step_read h, e]
  dsimp only
  rw [if_neg (show ¬ SEGMENTS < _ from hm)]
/-! ### write, count, get -/
theorem step_write (h : k < 4) : step st (.write k) = (st, .bytes (text (mapAt st k))) := by
  unfold Wm.step
  dsimp only
  rw [of_lt h]
theorem step_count (h : k < 4) : step st (.count k) = (st, one (mapAt st k).length) := by
  unfold Wm.step
  dsimp only
  rw [of_lt h]
theorem step_get (h : k < 4) (i : Nat) : step st (.get k i) = (st, found (mapAt st k)[i]?) := by
  unfold Wm.step
  dsimp only
  rw [of_lt h]
theorem step_at (h : k < 4) (l c : Nat) : step st (.at_ k l c) = (st, found (lookAt (mapAt st k) l c)) := by
  unfold Wm.step
  dsimp only
  rw [of_lt h]
theorem step_back (h : k < 4) (s l c : Nat) : step st (.back k s l c) = (st, found (lookBack (mapAt st k) s l c)) := by
  unfold Wm.step
  dsimp only
  rw [of_lt h]
theorem step_clear (h : k < 4) : step st (.clear k) = (st.set k [], one 0) := by
  unfold Wm.step
  dsimp only
  rw [of_lt h]
theorem step_join (h : k < 4) (j s b n : Nat) : step st (.join k j s b n) = if j < 4 then (if (joined (mapAt st k) (mapAt st j) s b n).all Seg.ok = true then (st.set k (joined (mapAt st k) (mapAt st j) s b n), one 0) else (st, no 6)) else (st, no 1) := by
  unfold Wm.step
  dsimp only
  rw [of_lt h]
  by_cases hj : j < 4
  · rw [of_lt hj, if_pos hj]
  · rw [of_ge hj, if_neg hj]
theorem step_append (h : k < 4) (j l c b n : Nat) : step st (.append k j l c b n) = if j < 4 then (if ((mapAt st j).all fun (y : Seg) => last (mapAt st k) (shifted l c b n y)) = false then (st, no 2) else if SEGMENTS < (strung (mapAt st k) (mapAt st j) l c b n).length then (st, no 4) else if (strung (mapAt st k) (mapAt st j) l c b n).all Seg.ok = true then (st.set k (strung (mapAt st k) (mapAt st j) l c b n), one 0) else (st, no 6)) else (st, no 1) := by
  unfold Wm.step
  dsimp only
  rw [of_lt h]
  by_cases hj : j < 4
  · rw [of_lt hj, if_pos hj]
  · rw [of_ge hj, if_neg hj]
end
theorem shown_found_some (s : Seg) : WmNeutral.shown (found (some s)) = 1 :: sn s := rfl
theorem shown_found_none : WmNeutral.shown (found none) = [0] := rfl
theorem shown_one (n : Nat) : WmNeutral.shown (one n) = [(n : Int)] := rfl
theorem shown_no (z : Nat) : WmNeutral.shown (no z) = [-(z : Int)] := rfl
theorem shown_bytes (b : Bytes) : WmNeutral.shown (.bytes b) = (b.length : Int) :: bytesI b := rfl
theorem shown_ref (z n : Nat) : WmNeutral.shown (.refused z [n]) = [-(z : Int), (n : Int)] := rfl
/-! ### joins and strings of maps that can be held -/
theorem through_place (b : Map) (s base names : Nat) (x : Seg) : (through b s base names x).line = x.line ∧ (through b s base names x).col = x.col := by
  unfold through
  cases x.orig with
  | none => exact ⟨rfl, rfl⟩
  | some o =>
    dsimp only
    split <;> exact ⟨rfl, rfl⟩
theorem behind_place {a b c d : Seg} (h1 : a.line = c.line ∧ a.col = c.col) (h2 : b.line = d.line ∧ b.col = d.col) : behind a b = behind c d := by
  unfold behind
  rw [h1.1, h1.2, h2.1, h2.2]
theorem Fit.joined {m : Map} (F : Fit m) {b : Map} {s base names : Nat} (h : (joined m b s base names).all Seg.ok = true) : Fit (Wm.joined m b s base names) := by
  refine ⟨⟨fun x hx => List.all_eq_true.mp h x hx, ?_⟩, ?_⟩
  · unfold Wm.joined
    rw [List.pairwise_map]
    refine F.1.2.imp fun {x y} hxy => ?_
    rw [behind_place (through_place b s base names x) (through_place b s base names y)]
    exact hxy
  · unfold Wm.joined
    rw [List.length_map]
    exact F.2
theorem shifted_behind {l c b n : Nat} {x y : Seg} (h : behind x y = true) : behind (shifted l c b n x) (shifted l c b n y) = true := by
  unfold behind shifted at *
  simp at *
  split <;> split <;> omega
theorem Fit.strung {m b : Map} (F : Fit m) (F2 : Fit b) {l c base n : Nat} (h1 : (b.all fun (y : Seg) => last m (shifted l c base n y)) = true) (h2 : ¬ 200 < (strung m b l c base n).length) (h3 : (strung m b l c base n).all Seg.ok = true) : Fit (Wm.strung m b l c base n) := by
  refine ⟨⟨fun x hx => List.all_eq_true.mp h3 x hx, ?_⟩, by omega⟩
  unfold Wm.strung
  refine List.pairwise_append.mpr ⟨F.1.2, ?_, fun a ha x hx => ?_⟩
  · rw [List.pairwise_map]
    exact F2.1.2.imp fun {x y} hxy => shifted_behind hxy
  · obtain ⟨y, hy, rfl⟩ := List.mem_map.mp hx
    exact last_all F.1 (List.all_eq_true.mp h1 y hy) a ha
theorem step_fits {st : State} (F : Fits st) (c : Wm.Call) : Fits (step st c).1 := by
  cases c with
  | add k l =>
    by_cases h : k < 4
    · have hm := (F.get h).2
      cases hs : isSeg (natsI l) with
      | false => rw [add_no1 h hs]; exact F
      | true =>
        obtain ⟨x, e, _, ho⟩ := add_seg hs
        cases hl : last (mapAt st k) x with
        | false => rw [add_no2 h e hl]; exact F
        | true =>
          by_cases h2 : 200 ≤ (mapAt st k).length
          · rw [add_no4 h e hl h2]; exact F
          · rw [add_yes h e hl h2]; exact F.set (hm.add ho hl h2)
    · rw [step_high k h (.inl ⟨l, rfl⟩)]; exact F
  | read k t =>
    by_cases h : k < 4
    · cases e : Wm.read t with
      | error n => rw [read_err h e]; exact F
      | ok m =>
        by_cases h2 : 200 < m.length
        · rw [read_no4 h e h2]; exact F
        · rw [read_yes h e h2]; exact F.set ⟨read_good e, by omega⟩
    · rw [step_high k h (.inr (.inl ⟨t, rfl⟩))]; exact F
  | write k =>
    by_cases h : k < 4
    · rw [step_write h]; exact F
    · rw [step_high k h (by simp)]; exact F
  | count k =>
    by_cases h : k < 4
    · rw [step_count h]; exact F
    · rw [step_high k h (by simp)]; exact F
  | get k i =>
    by_cases h : k < 4
    · rw [step_get h]; exact F
    · rw [step_high k h (by simp)]; exact F
  | at_ k l c =>
    by_cases h : k < 4
    · rw [step_at h]; exact F
    · rw [step_high k h (by simp)]; exact F
  | back k s l c =>
    by_cases h : k < 4
    · rw [step_back h]; exact F
    · rw [step_high k h (by simp)]; exact F
  | join k j s b n =>
    by_cases h : k < 4
    · rw [step_join h]
      split
      · split
        · exact F.set ((F.get h).2.joined (by assumption))
        · exact F
      · exact F
    · rw [step_high k h (by simp)]; exact F
  | append k j l c b n =>
    by_cases h : k < 4
    · rw [step_append h]
      split
      · rename_i hj
        split
        · exact F
        · split
          · exact F
          · split
            · rename_i h1 h2 h3
              exact F.set ((F.get h).2.strung (F.get hj).2 (by simpa using h1) h2 h3)
            · exact F
      · exact F
    · rw [step_high k h (by simp)]; exact F
  | clear k =>
    by_cases h : k < 4
    · rw [step_clear h]; exact F.set Fit.nil
    · rw [step_high k h (by simp)]; exact F
end Wq

set_option maxRecDepth 100000
/-! # A list of calls: which calls it holds, and what is due -/
namespace Wq
open Wm
def flatC : Wm.Call → List Int
  | .add k l => 0 :: (k : Int) :: (l.length : Int) :: natsI l
  | .read k t => 1 :: (k : Int) :: (t.length : Int) :: bytesI t
  | .write k => [2, (k : Int)]
  | .count k => [3, (k : Int)]
  | .get k i => [4, (k : Int), (i : Int)]
  | .at_ k l c => [5, (k : Int), (l : Int), (c : Int)]
  | .back k s l c => [6, (k : Int), (s : Int), (l : Int), (c : Int)]
  | .join k j s b n => [7, (k : Int), (j : Int), (s : Int), (b : Int), (n : Int)]
  | .append k j l c b n => [8, (k : Int), (j : Int), (l : Int), (c : Int), (b : Int), (n : Int)]
  | .clear k => [9, (k : Int)]
/-- what is told of the length of a row -/
def CallIn : Wm.Call → Prop
  | .read _ t => t.length ≤ 6000
  | _ => True
theorem len1 {α : Type} : ∀ {l : List α}, l.length = 1 → ∃ a, l = [a]
  | [a], _ => ⟨a, rfl⟩
theorem len2 {α : Type} : ∀ {l : List α}, l.length = 2 → ∃ a b, l = [a, b]
  | [a, b], _ => ⟨a, b, rfl⟩
theorem len3 {α : Type} : ∀ {l : List α}, l.length = 3 → ∃ a b c, l = [a, b, c]
  | [a, b, c], _ => ⟨a, b, c, rfl⟩
theorem len4 {α : Type} : ∀ {l : List α}, l.length = 4 → ∃ a b c d, l = [a, b, c, d]
  | [a, b, c, d], _ => ⟨a, b, c, d, rfl⟩
theorem len5 {α : Type} : ∀ {l : List α}, l.length = 5 → ∃ a b c d e, l = [a, b, c, d, e]
  | [a, b, c, d, e], _ => ⟨a, b, c, d, e, rfl⟩
theorem len6 {α : Type} : ∀ {l : List α}, l.length = 6 → ∃ a b c d e f, l = [a, b, c, d, e, f]
  | [a, b, c, d, e, f], _ => ⟨a, b, c, d, e, f, rfl⟩
theorem len0 {α : Type} : ∀ {l : List α}, l.length = 0 → l = []
  | [], _ => rfl
theorem nats_back : ∀ {r : List Int}, r.all (fun (z : Int) => decide (0 ≤ z)) = true → natsI (r.map Int.toNat) = r
  | [], _ => rfl
  | z :: r, h => by
    simp only [List.all_cons, Bool.and_eq_true, decide_eq_true_eq] at h
    show (z.toNat : Int) :: natsI (r.map Int.toNat) = z :: r
    rw [nats_back h.2, Int.toNat_of_nonneg h.1]
theorem bytes_back : ∀ {r : List Int}, r.all (fun (z : Int) => decide (0 ≤ z) && decide (z ≤ 255)) = true → bytesI (WmNeutral.text r) = r
  | [], _ => rfl
  | z :: r, h => by
    simp only [List.all_cons, Bool.and_eq_true, decide_eq_true_eq] at h
    show ((UInt8.ofNat z.toNat).toNat : Int) :: bytesI (WmNeutral.text r) = z :: r
    rw [bytes_back h.2, UInt8.toNat_ofNat']
    have : z.toNat % 2 ^ 8 = z.toNat := Nat.mod_eq_of_lt (by omega)
    rw [this, Int.toNat_of_nonneg h.1.1]
theorem view {c : List (List Int)} (h : PyFlat.okCall PyWqasai.shape c) (h2 : PyInside.call PyWqasai.bound c = true) (h3 : WmNeutral.asked1 (PyWqasai.whole c) = true) :
    ∃ q, PyFlat.put1 c = flatC q ∧ WmNeutral.specCall (PyWqasai.whole c) = some q ∧ CallIn q := by
  obtain ⟨p, a, xs, rfl, hs⟩ := h
  have key : ∀ n m : Nat, some (n, m) = some (a.length, xs.length) → a.length = n ∧ xs.length = m := by
    intro n m e
    injection e with e
    injection e with e1 e2
    exact ⟨e1.symm, e2.symm⟩
  unfold PyWqasai.shape at hs
  split at hs
  · rename_i hp
    subst hp
    obtain ⟨e1, e2⟩ := key _ _ hs
    obtain ⟨x0, rfl⟩ := len1 e1
    obtain ⟨r, rfl⟩ := len1 e2
    have h3' : (decide (0 ≤ x0) && r.all (fun (z : Int) => decide (0 ≤ z))) = true := h3
    rw [Bool.and_eq_true, decide_eq_true_eq] at h3'
    refine ⟨.add x0.toNat (r.map Int.toNat), ?_, rfl, trivial⟩
    show [0, x0] ++ ((r.length : Int) :: r ++ []) = 0 :: (x0.toNat : Int) :: ((r.map Int.toNat).length : Int) :: natsI (r.map Int.toNat)
    rw [nats_back h3'.2, Int.toNat_of_nonneg h3'.1, List.length_map, List.append_nil]
    rfl
  split at hs
  · rename_i hp
    subst hp
    obtain ⟨e1, e2⟩ := key _ _ hs
    obtain ⟨x0, rfl⟩ := len1 e1
    obtain ⟨r, rfl⟩ := len1 e2
    have h3' : (decide (0 ≤ x0) && r.all (fun (z : Int) => decide (0 ≤ z) && decide (z ≤ 255))) = true := h3
    rw [Bool.and_eq_true, decide_eq_true_eq] at h3'
    have hb : (PyInside.each [(0, 18446744073709551615)] [x0] && PyInside.lists [(0, 255, 0, 6000)] [r]) = true := h2
    have hl : r.length ≤ 6000 := by
      rw [Bool.and_eq_true] at hb
      have := hb.2
      simp only [PyInside.lists, Bool.and_eq_true, decide_eq_true_eq] at this
      exact this.1.1.2
    have hlen : (WmNeutral.text r).length = r.length := List.length_map ..
    refine ⟨.read x0.toNat (WmNeutral.text r), ?_, rfl, ?_⟩
    · show [1, x0] ++ ((r.length : Int) :: r ++ []) = 1 :: (x0.toNat : Int) :: ((WmNeutral.text r).length : Int) :: bytesI (WmNeutral.text r)
      rw [bytes_back h3'.2, Int.toNat_of_nonneg h3'.1, hlen, List.append_nil]
      rfl
    · show (WmNeutral.text r).length ≤ 6000
      rw [hlen]
      exact hl
  split at hs
  · rename_i hp
    subst hp
    obtain ⟨e1, e2⟩ := key _ _ hs
    obtain ⟨x0, rfl⟩ := len1 e1
    obtain rfl := len0 e2
    have h3' : decide (0 ≤ x0) = true := h3
    rw [decide_eq_true_eq] at h3'
    refine ⟨.write x0.toNat, ?_, rfl, trivial⟩
    show [2, x0] = [2, (x0.toNat : Int)]
    rw [Int.toNat_of_nonneg h3']
  split at hs
  · rename_i hp
    subst hp
    obtain ⟨e1, e2⟩ := key _ _ hs
    obtain ⟨x0, rfl⟩ := len1 e1
    obtain rfl := len0 e2
    have h3' : decide (0 ≤ x0) = true := h3
    rw [decide_eq_true_eq] at h3'
    refine ⟨.count x0.toNat, ?_, rfl, trivial⟩
    show [3, x0] = [3, (x0.toNat : Int)]
    rw [Int.toNat_of_nonneg h3']
  split at hs
  · rename_i hp
    subst hp
    obtain ⟨e1, e2⟩ := key _ _ hs
    obtain ⟨x0, x1, rfl⟩ := len2 e1
    obtain rfl := len0 e2
    have h3' : (decide (0 ≤ x0) && decide (0 ≤ x1)) = true := h3
    simp only [Bool.and_eq_true, decide_eq_true_eq] at h3'
    refine ⟨.get x0.toNat x1.toNat, ?_, rfl, trivial⟩
    show [4, x0, x1] = [4, (x0.toNat : Int), (x1.toNat : Int)]
    rw [Int.toNat_of_nonneg h3'.1, Int.toNat_of_nonneg h3'.2]
  split at hs
  · rename_i hp
    subst hp
    obtain ⟨e1, e2⟩ := key _ _ hs
    obtain ⟨x0, x1, x2, rfl⟩ := len3 e1
    obtain rfl := len0 e2
    have h3' : (decide (0 ≤ x0) && decide (0 ≤ x1) && decide (0 ≤ x2)) = true := h3
    simp only [Bool.and_eq_true, decide_eq_true_eq] at h3'
    refine ⟨.at_ x0.toNat x1.toNat x2.toNat, ?_, rfl, trivial⟩
    show [5, x0, x1, x2] = [5, (x0.toNat : Int), (x1.toNat : Int), (x2.toNat : Int)]
    rw [Int.toNat_of_nonneg h3'.1.1, Int.toNat_of_nonneg h3'.1.2, Int.toNat_of_nonneg h3'.2]
  split at hs
  · rename_i hp
    subst hp
    obtain ⟨e1, e2⟩ := key _ _ hs
    obtain ⟨x0, x1, x2, x3, rfl⟩ := len4 e1
    obtain rfl := len0 e2
    have h3' : (decide (0 ≤ x0) && decide (0 ≤ x1) && decide (0 ≤ x2) && decide (0 ≤ x3)) = true := h3
    simp only [Bool.and_eq_true, decide_eq_true_eq] at h3'
    refine ⟨.back x0.toNat x1.toNat x2.toNat x3.toNat, ?_, rfl, trivial⟩
    show [6, x0, x1, x2, x3] = [6, (x0.toNat : Int), (x1.toNat : Int), (x2.toNat : Int), (x3.toNat : Int)]
    rw [Int.toNat_of_nonneg h3'.1.1.1, Int.toNat_of_nonneg h3'.1.1.2, Int.toNat_of_nonneg h3'.1.2, Int.toNat_of_nonneg h3'.2]
  split at hs
  · rename_i hp
    subst hp
    obtain ⟨e1, e2⟩ := key _ _ hs
    obtain ⟨x0, x1, x2, x3, x4, rfl⟩ := len5 e1
    obtain rfl := len0 e2
    have h3' : (decide (0 ≤ x0) && decide (0 ≤ x1) && decide (0 ≤ x2) && decide (0 ≤ x3) && decide (0 ≤ x4)) = true := h3
    simp only [Bool.and_eq_true, decide_eq_true_eq] at h3'
    refine ⟨.join x0.toNat x1.toNat x2.toNat x3.toNat x4.toNat, ?_, rfl, trivial⟩
    show [7, x0, x1, x2, x3, x4] = [7, (x0.toNat : Int), (x1.toNat : Int), (x2.toNat : Int), (x3.toNat : Int), (x4.toNat : Int)]
    rw [Int.toNat_of_nonneg h3'.1.1.1.1, Int.toNat_of_nonneg h3'.1.1.1.2, Int.toNat_of_nonneg h3'.1.1.2, Int.toNat_of_nonneg h3'.1.2, Int.toNat_of_nonneg h3'.2]
  split at hs
  · rename_i hp
    subst hp
    obtain ⟨e1, e2⟩ := key _ _ hs
    obtain ⟨x0, x1, x2, x3, x4, x5, rfl⟩ := len6 e1
    obtain rfl := len0 e2
    have h3' : (decide (0 ≤ x0) && decide (0 ≤ x1) && decide (0 ≤ x2) && decide (0 ≤ x3) && decide (0 ≤ x4) && decide (0 ≤ x5)) = true := h3
    simp only [Bool.and_eq_true, decide_eq_true_eq] at h3'
    refine ⟨.append x0.toNat x1.toNat x2.toNat x3.toNat x4.toNat x5.toNat, ?_, rfl, trivial⟩
    show [8, x0, x1, x2, x3, x4, x5] = [8, (x0.toNat : Int), (x1.toNat : Int), (x2.toNat : Int), (x3.toNat : Int), (x4.toNat : Int), (x5.toNat : Int)]
    rw [Int.toNat_of_nonneg h3'.1.1.1.1.1, Int.toNat_of_nonneg h3'.1.1.1.1.2, Int.toNat_of_nonneg h3'.1.1.1.2, Int.toNat_of_nonneg h3'.1.1.2, Int.toNat_of_nonneg h3'.1.2, Int.toNat_of_nonneg h3'.2]
  split at hs
  · rename_i hp
    subst hp
    obtain ⟨e1, e2⟩ := key _ _ hs
    obtain ⟨x0, rfl⟩ := len1 e1
    obtain rfl := len0 e2
    have h3' : decide (0 ≤ x0) = true := h3
    rw [decide_eq_true_eq] at h3'
    refine ⟨.clear x0.toNat, ?_, rfl, trivial⟩
    show [9, x0] = [9, (x0.toNat : Int)]
    rw [Int.toNat_of_nonneg h3']
  · cases hs
/-- the answers to calls from a state -/
def runC : State → List Wm.Call → List (List Int)
  | _, [] => []
  | st, q :: r => ans st q :: runC (step st q).1 r
theorem step_neutral {st : State} {c : List (List Int)} {q : Wm.Call} (h : WmNeutral.specCall c = some q) : WmNeutral.step st c = ((step st q).1, ans st q) := by
  unfold WmNeutral.step
  rw [h]
  rfl
theorem views : ∀ (raw : List (List (List Int))), (∀ c ∈ raw, PyFlat.okCall PyWqasai.shape c) → (∀ c ∈ raw, PyInside.call PyWqasai.bound c = true) → (∀ c ∈ raw, WmNeutral.asked1 (PyWqasai.whole c) = true) →
    ∃ qs : List Wm.Call, PyFlat.put raw = qs.flatMap flatC ∧ (∀ q ∈ qs, CallIn q) ∧ ∀ st, PyFlat.played WmNeutral.step st (raw.map PyWqasai.whole) = runC st qs
  | [], _, _, _ => ⟨[], rfl, (fun q h => nomatch h), fun _ => rfl⟩
  | c :: raw, h1, h2, h3 => by
    obtain ⟨qs, e1, e2, e3⟩ := views raw (fun x hx => h1 x (List.mem_cons_of_mem _ hx)) (fun x hx => h2 x (List.mem_cons_of_mem _ hx)) (fun x hx => h3 x (List.mem_cons_of_mem _ hx))
    obtain ⟨q, f1, f2, f3⟩ := view (h1 c (List.mem_cons_self ..)) (h2 c (List.mem_cons_self ..)) (h3 c (List.mem_cons_self ..))
    refine ⟨q :: qs, ?_, ?_, fun st => ?_⟩
    · show PyFlat.put1 c ++ PyFlat.put raw = flatC q ++ qs.flatMap flatC
      rw [f1, e1]
    · intro x hx
      cases hx with
      | head => exact f3
      | tail _ h => exact e2 x h
    · show (WmNeutral.step st (PyWqasai.whole c)).2 :: PyFlat.played WmNeutral.step (WmNeutral.step st (PyWqasai.whole c)).1 (raw.map PyWqasai.whole) = ans st q :: runC (step st q).1 qs
      rw [step_neutral f2, e3]
/-- **what is asked of a list, and what is due** -/
theorem asked_view {l : List Int} (h : PyWqasai.answers_asked l = true) : ∃ qs : List Wm.Call, l = qs.flatMap flatC ∧ (∀ q ∈ qs, CallIn q) ∧ PyWqasai.answers l = PyFlat.told (runC start qs) ∧ (PyWqasai.answers l).length ≤ 10000000 := by
  unfold PyWqasai.answers_asked at h
  cases e : PyFlat.calls PyWqasai.shape l.length l with
  | none => rw [e] at h; cases h
  | some raw =>
    rw [e] at h
    dsimp only at h
    simp only [Bool.and_eq_true] at h
    obtain ⟨⟨⟨⟨_, _⟩, h3⟩, h4⟩, h5⟩ := h
    have h4' : (raw.map PyWqasai.whole).all WmNeutral.asked1 = true := by
      unfold WmNeutral.asked at h4
      simp only [Bool.and_eq_true] at h4
      exact h4.1.1.1
    obtain ⟨el, hok⟩ := PyFlat.put_calls _ _ _ e
    obtain ⟨qs, e1, e2, e3⟩ := views raw hok (fun c hc => List.all_eq_true.mp h3 c hc) (fun c hc => List.all_eq_true.mp h4' _ (List.mem_map_of_mem hc))
    refine ⟨qs, el.trans e1, e2, ?_, ?_⟩
    · unfold PyWqasai.answers PyWqasai.calls
      rw [e]
      show PyFlat.told (PyFlat.played WmNeutral.step WmNeutral.start (raw.map PyWqasai.whole)) = _
      rw [e3]
      rfl
    · unfold PyFlat.short at h5
      exact of_decide_eq_true h5
theorem told_cons (x : List Int) (r : List (List Int)) : PyFlat.told (x :: r) = (x.length : Int) :: x ++ PyFlat.told r := rfl
theorem flatC_pos (q : Wm.Call) : 0 < (flatC q).length := by
  cases q <;> simp [flatC]
end Wq

set_option maxRecDepth 100000
set_option linter.unusedVariables false
/-! # Looks, joins, strings: as loops go through them -/
namespace Wq
open Wm
section
variable {m : Map} {i : Nat} {s : Seg}
theorem take_snoc {α : Type} {l : List α} {i : Nat} {x : α} (h : l[i]? = some x) : l.take (i + 1) = l.take i ++ [x] := by
  rw [List.take_add_one, h]
  rfl
/-! ### a look forward -/
def hitAt (line col : Nat) (s : Seg) : Bool := s.line == line && decide (s.col ≤ col)
theorem lookAt_nil (line col : Nat) : lookAt [] line col = none := rfl
theorem lookAt_snoc (m : Map) (s : Seg) (line col : Nat) : lookAt (m ++ [s]) line col = if hitAt line col s = true then some s else lookAt m line col := by
  unfold lookAt
  rw [List.filter_append, List.filter_cons]
  by_cases h : hitAt line col s = true
  · rw [if_pos h]
    unfold hitAt at h
    rw [if_pos h]
    simp
  · rw [if_neg h]
    unfold hitAt at h
    rw [if_neg h]
    simp
theorem lookAt_take (h : m[i]? = some s) (line col : Nat) : lookAt (m.take (i + 1)) line col = if hitAt line col s = true then some s else lookAt (m.take i) line col := by
  rw [take_snoc h, lookAt_snoc]
theorem lookAt_mem {line col : Nat} (h : lookAt m line col = some s) : s ∈ m ∧ s.line = line ∧ s.col ≤ col := by
  unfold lookAt at h
  have h2 := List.mem_of_getLast? h
  rw [List.mem_filter] at h2
  simp at h2
  exact ⟨h2.1, h2.2.1, h2.2.2⟩
/-! ### a look back -/
theorem lookBack_nil (src line col : Nat) : lookBack [] src line col = none := rfl
theorem find_all_none {l : Map} (h : l.find? (fun (s : Seg) => l.all fun (t : Seg) => decide (colOf t ≤ colOf s)) = none) : l = [] := by
  -- a list that is not empty has a greatest
  have big : ∀ l : Map, l ≠ [] → ∃ s ∈ l, ∀ t ∈ l, colOf t ≤ colOf s := by
    intro l
    induction l with
    | nil => intro h; exact absurd rfl h
    | cons a l ih =>
      intro _
      by_cases hl : l = []
      · subst hl
        exact ⟨a, by simp, by intro t ht; simp at ht; rw [ht]; exact Nat.le_refl _⟩
      · obtain ⟨s, hs, hm⟩ := ih hl
        by_cases hc : colOf a ≤ colOf s
        · exact ⟨s, List.mem_cons_of_mem _ hs, by
            intro t ht
            cases ht with
            | head => exact hc
            | tail _ ht => exact hm t ht⟩
        · exact ⟨a, List.mem_cons_self .., by
            intro t ht
            cases ht with
            | head => exact Nat.le_refl _
            | tail _ ht => have := hm t ht; omega⟩
  by_cases hl : l = []
  · exact hl
  · exfalso
    obtain ⟨s, hs, hm⟩ := big l hl
    have := List.find?_eq_none.mp h s hs
    apply this
    rw [List.all_eq_true]
    intro t ht
    exact decide_eq_true (hm t ht)
theorem best_snoc (l : Map) (s : Seg) : (l ++ [s]).find? (fun (x : Seg) => (l ++ [s]).all fun (t : Seg) => decide (colOf t ≤ colOf x)) =
    match l.find? (fun (x : Seg) => l.all fun (t : Seg) => decide (colOf t ≤ colOf x)) with
    | none => some s
    | some b => if colOf b < colOf s then some s else some b := by
  cases h : l.find? (fun (x : Seg) => l.all fun (t : Seg) => decide (colOf t ≤ colOf x)) with
  | none =>
    have := find_all_none h
    subst this
    simp
  | some b =>
    dsimp only
    have hb := List.find?_some h
    have hbm := List.mem_of_find?_eq_some h
    rw [List.all_eq_true] at hb
    have hb' : ∀ t ∈ l, colOf t ≤ colOf b := fun t ht => of_decide_eq_true (hb t ht)
    by_cases hc : colOf b < colOf s
    · rw [if_pos hc, List.find?_append]
      have : l.find? (fun (x : Seg) => (l ++ [s]).all fun (t : Seg) => decide (colOf t ≤ colOf x)) = none := by
        rw [List.find?_eq_none]
        intro x hx hall
        rw [List.all_eq_true] at hall
        have h1 := of_decide_eq_true (hall s (by simp))
        have h2 := hb' x hx
        omega
      rw [this]
      have : (l ++ [s]).all (fun (t : Seg) => decide (colOf t ≤ colOf s)) = true := by
        rw [List.all_eq_true]
        intro t ht
        rcases List.mem_append.mp ht with h1 | h1
        · have := hb' t h1
          exact decide_eq_true (by omega)
        · simp at h1
          rw [h1]
          exact decide_eq_true (Nat.le_refl _)
      show (match ((l ++ [s]).all fun (t : Seg) => decide (colOf t ≤ colOf s)) with
        | true => some s
        | false => List.find? _ []) = some s
      rw [this]
    · rw [if_neg hc, List.find?_append]
      have e : l.find? (fun (x : Seg) => (l ++ [s]).all fun (t : Seg) => decide (colOf t ≤ colOf x)) = some b := by
        rw [← h]
        -- the same ones pass both
        have same : ∀ x ∈ l, ((l ++ [s]).all fun (t : Seg) => decide (colOf t ≤ colOf x)) = (l.all fun (t : Seg) => decide (colOf t ≤ colOf x)) := by
          intro x hx
          rw [List.all_append]
          cases hx2 : (l.all fun (t : Seg) => decide (colOf t ≤ colOf x)) with
          | false => rfl
          | true =>
            rw [List.all_eq_true] at hx2
            have := of_decide_eq_true (hx2 b hbm)
            simp
            omega
        have gen : ∀ (k : Map) (p q : Seg → Bool), (∀ x ∈ k, p x = q x) → k.find? p = k.find? q := by
          intro k p q
          induction k with
          | nil => intro _; rfl
          | cons a k ih =>
            intro hpq
            rw [List.find?_cons, List.find?_cons, hpq a (by simp), ih (fun x hx => hpq x (by simp [hx]))]
        exact gen l _ _ same
      rw [e]
      rfl
theorem lookBack_snoc (m : Map) (s : Seg) (src line col : Nat) : lookBack (m ++ [s]) src line col = if comes src line col s = true then (match lookBack m src line col with
    | none => some s
    | some b => if colOf b < colOf s then some s else some b) else lookBack m src line col := by
  unfold lookBack
  rw [List.filter_append, List.filter_cons]
  by_cases h : comes src line col s = true
  · rw [if_pos h, if_pos h]
    exact best_snoc (m.filter (comes src line col)) s
  · rw [if_neg h, if_neg h]
    simp
theorem lookBack_take (h : m[i]? = some s) (src line col : Nat) : lookBack (m.take (i + 1)) src line col = if comes src line col s = true then (match lookBack (m.take i) src line col with
    | none => some s
    | some b => if colOf b < colOf s then some s else some b) else lookBack (m.take i) src line col := by
  rw [take_snoc h, lookBack_snoc]
theorem lookBack_comes {src line col : Nat} (h : lookBack m src line col = some s) : s ∈ m ∧ comes src line col s = true := by
  unfold lookBack at h
  have := List.mem_of_find?_eq_some h
  exact List.mem_filter.mp this
/-! ### -2 of append: the first tells for all -/
theorem behind_last {m : Map} {x y : Seg} (h : last m x = true) (h2 : behind x y = true) : last m y = true := by
  unfold last at *
  cases e : m.getLast? with
  | none => rfl
  | some t =>
    rw [e] at h
    exact behind_trans h h2
theorem all_first {m b : Map} {y : Seg} {r : Map} (G : Good b) (e : b = y :: r) (l c base n : Nat) : (b.all fun (y : Seg) => last m (shifted l c base n y)) = last m (shifted l c base n y) := by
  subst e
  rw [List.all_cons]
  cases h : last m (shifted l c base n y) with
  | false => rfl
  | true =>
    rw [Bool.true_and, List.all_eq_true]
    intro z hz
    have := (List.pairwise_cons.mp G.2).1 z hz
    exact behind_last h (shifted_behind this)
/-! ### through, shifted: as rows of numbers -/
theorem through_none (b : Map) (src base names : Nat) (a c : Nat) : through b src base names ⟨a, c, none⟩ = ⟨a, c, none⟩ := rfl
theorem through_other {b : Map} {src base names : Nat} {s : Seg} {o : Origin} (h : s.orig = some o) (hn : o.src ≠ src) : through b src base names s = s := by
  unfold through
  rw [h]
  dsimp only
  rw [if_neg hn]
theorem through_hit {b : Map} {src base names : Nat} {s : Seg} {o : Origin} (h : s.orig = some o) (hn : o.src = src) : through b src base names s = ⟨s.line, s.col, ((lookAt b o.line o.col).bind fun (t : Seg) => t.orig).map fun (q : Origin) => ⟨q.src + base, q.line, q.col, renamed names o.name q.name⟩⟩ := by
  unfold through
  rw [h]
  dsimp only
  rw [if_pos hn]
theorem joined_take (h : m[i]? = some s) (b : Map) (src base names : Nat) : joined (m.take (i + 1)) b src base names = joined (m.take i) b src base names ++ [through b src base names s] := by
  unfold joined
  rw [take_snoc h, List.map_append]
  rfl
theorem shifted_two (l c b n x y : Nat) : sn (shifted l c b n ⟨x, y, none⟩) = [((l + x : Nat) : Int), ((if x = 0 then c + y else y : Nat) : Int)] := rfl
theorem shifted_five (l c b n x y u v w : Nat) : sn (shifted l c b n ⟨x, y, some ⟨u, v, w, none⟩⟩) = [((l + x : Nat) : Int), ((if x = 0 then c + y else y : Nat) : Int), ((u + b : Nat) : Int), v, w] := rfl
theorem shifted_six (l c b n x y u v w z : Nat) : sn (shifted l c b n ⟨x, y, some ⟨u, v, w, some z⟩⟩) = [((l + x : Nat) : Int), ((if x = 0 then c + y else y : Nat) : Int), ((u + b : Nat) : Int), v, w, ((z + n : Nat) : Int)] := rfl
end
end Wq

set_option maxRecDepth 100000
set_option linter.unusedVariables false
/-! # What the defs of looks, joins and strings give, as numbers -/
namespace Wq
open Wm
section
variable {m : Map} {i : Nat} {s : Seg}
/-! ### a look forward -/
theorem look_yes {line col : Nat} (h : m[i]? = some s) (h1 : (s.line : Int) = (line : Int)) (h2 : (s.col : Int) ≤ (col : Int)) : lookAt (m.take (i + 1)) line col = some s := by
  rw [lookAt_take h, if_pos]
  unfold hitAt
  rw [Bool.and_eq_true]
  exact ⟨by rw [beq_iff_eq]; omega, decide_eq_true (by omega)⟩
theorem look_no {line col : Nat} (h : m[i]? = some s) (h1 : ¬ ((s.line : Int) = (line : Int) ∧ (s.col : Int) ≤ (col : Int))) : lookAt (m.take (i + 1)) line col = lookAt (m.take i) line col := by
  rw [lookAt_take h, if_neg]
  intro z
  unfold hitAt at z
  rw [Bool.and_eq_true, beq_iff_eq] at z
  have := of_decide_eq_true z.2
  exact h1 ⟨by omega, by omega⟩
theorem take_all {x : Option Seg} {line col n : Nat} (e : n = m.length) (h : x = lookAt (m.take n) line col) : x = lookAt m line col := by
  rw [e, List.take_length] at h
  exact h
/-! ### a look back -/
def fromLine (src line : Nat) (s : Seg) : Bool := match s.orig with
  | some o => o.src == src && o.line == line
  | none => false
theorem from_some {src line : Nat} (h : fromLine src line s = true) : ∃ o, s.orig = some o := by
  unfold fromLine at h
  cases e : s.orig with
  | none => rw [e] at h; cases h
  | some o => exact ⟨o, rfl⟩
theorem comes_from {src line col : Nat} {o : Origin} (ho : s.orig = some o) : comes src line col s = (fromLine src line s && decide (o.col ≤ col)) := by
  unfold comes fromLine
  rw [ho]
  dsimp only
  rw [Bool.and_assoc]
theorem comes_none {src line col : Nat} (h : fromLine src line s = false) : comes src line col s = false := by
  cases e : s.orig with
  | none => unfold comes; rw [e]
  | some o => rw [comes_from e, h]; rfl
theorem colOf_some {o : Origin} (ho : s.orig = some o) : colOf s = o.col := by
  unfold colOf
  rw [ho]
theorem back_far {src line col : Nat} (h : m[i]? = some s) (h1 : fromLine src line s = false) : lookBack (m.take (i + 1)) src line col = lookBack (m.take i) src line col := by
  rw [lookBack_take h, if_neg (by rw [comes_none h1]; decide)]
theorem back_above {src line col : Nat} {o : Origin} (h : m[i]? = some s) (ho : s.orig = some o) (h1 : ¬ (o.col : Int) ≤ (col : Int)) : lookBack (m.take (i + 1)) src line col = lookBack (m.take i) src line col := by
  rw [lookBack_take h, if_neg]
  rw [comes_from ho, decide_eq_false (by omega)]
  simp
theorem comes_yes {src line col : Nat} {o : Origin} (ho : s.orig = some o) (hf : fromLine src line s = true) (h1 : (o.col : Int) ≤ (col : Int)) : comes src line col s = true := by
  rw [comes_from ho, hf, decide_eq_true (by omega)]
  rfl
theorem back_first {src line col : Nat} {o : Origin} (h : m[i]? = some s) (ho : s.orig = some o) (hf : fromLine src line s = true) (h1 : (o.col : Int) ≤ (col : Int)) (hn : lookBack (m.take i) src line col = none) : lookBack (m.take (i + 1)) src line col = some s := by
  rw [lookBack_take h, if_pos (comes_yes ho hf h1), hn]
theorem back_more {src line col : Nat} {o p : Origin} {t : Seg} (h : m[i]? = some s) (ho : s.orig = some o) (hf : fromLine src line s = true) (h1 : (o.col : Int) ≤ (col : Int)) (hn : lookBack (m.take i) src line col = some t) (ht : t.orig = some p) (h2 : (p.col : Int) < (o.col : Int)) : lookBack (m.take (i + 1)) src line col = some s := by
  rw [lookBack_take h, if_pos (comes_yes ho hf h1), hn]
  dsimp only
  rw [if_pos]
  rw [colOf_some ho, colOf_some ht]
  omega
theorem back_same {src line col : Nat} {o p : Origin} {t : Seg} (h : m[i]? = some s) (ho : s.orig = some o) (hf : fromLine src line s = true) (h1 : (o.col : Int) ≤ (col : Int)) (hn : lookBack (m.take i) src line col = some t) (ht : t.orig = some p) (h2 : ¬ (p.col : Int) < (o.col : Int)) : lookBack (m.take (i + 1)) src line col = lookBack (m.take i) src line col := by
  rw [lookBack_take h, if_pos (comes_yes ho hf h1), hn]
  dsimp only
  rw [if_neg]
  rw [colOf_some ho, colOf_some ht]
  omega
theorem back_orig {src line col : Nat} {t : Seg} (h : lookBack m src line col = some t) : ∃ p, t.orig = some p := by
  have := (lookBack_comes h).2
  cases e : t.orig with
  | none => unfold comes at this; rw [e] at this; cases this
  | some p => exact ⟨p, rfl⟩
theorem back_all {x : Option Seg} {src line col n : Nat} (e : n = m.length) (h : x = lookBack (m.take n) src line col) : x = lookBack m src line col := by
  rw [e, List.take_length] at h
  exact h
/-! ### has_origin, has_name -/
def named (s : Seg) : Bool := match s.orig with
  | some o => o.name.isSome
  | none => false
theorem org_len (s : Seg) : decide ((5 : Int) ≤ ((sn s).length : Int)) = s.orig.isSome := by
  rcases sn_cases s with ⟨a, b, rfl⟩ | ⟨a, b, c, d, e, rfl⟩ | ⟨a, b, c, d, e, f, rfl⟩ <;> rfl
theorem nam_len (s : Seg) : decide (((sn s).length : Int) = 6) = named s := by
  rcases sn_cases s with ⟨a, b, rfl⟩ | ⟨a, b, c, d, e, rfl⟩ | ⟨a, b, c, d, e, f, rfl⟩ <;> rfl
/-! ### all -/
theorem all_stop {p : Seg → Bool} (h : m[i]? = some s) (hp : p s = false) : m.all p = false := by
  cases e : m.all p with
  | false => rfl
  | true =>
    rw [List.all_eq_true.mp e s (List.mem_of_getElem? h)] at hp
    cases hp
theorem all_next {p : Seg → Bool} (h : m[i]? = some s) (ht : (m.take i).all p = true) (hp : p s = true) : (m.take (i + 1)).all p = true := by
  rw [take_snoc h, List.all_append, ht]
  simp [hp]
theorem all_end {p : Seg → Bool} {n : Nat} (e : n = m.length) (ht : (m.take n).all p = true) : m.all p = true := by
  rw [e, List.take_length] at ht
  exact ht
/-! ### shifted -/
def shifts (m : Map) (l c b n : Nat) : Map := m.map (shifted l c b n)
theorem shifts_take (h : m[i]? = some s) (l c b n : Nat) : shifts (m.take (i + 1)) l c b n = shifts (m.take i) l c b n ++ [shifted l c b n s] := by
  unfold shifts
  rw [take_snoc h, List.map_append]
  rfl
theorem map_end {α : Type} {f : Map → α} {n : Nat} {x : α} (e : n = m.length) (h : x = f (m.take n)) : x = f m := by
  rw [e, List.take_length] at h
  exact h
theorem sh2z (l c b n x y : Nat) (h : (x : Int) = 0) : sn (shifted l c b n ⟨x, y, none⟩) = [(x : Int) + l, (y : Int) + c] := by
  rw [shifted_two, if_pos (by omega)]
  simp [Int.add_comm]
theorem sh2 (l c b n x y : Nat) (h : (x : Int) ≠ 0) : sn (shifted l c b n ⟨x, y, none⟩) = [(x : Int) + l, (y : Int)] := by
  rw [shifted_two, if_neg (by omega)]
  simp [Int.add_comm]
theorem sh5z (l c b n x y u v w : Nat) (h : (x : Int) = 0) : sn (shifted l c b n ⟨x, y, some ⟨u, v, w, none⟩⟩) = [(x : Int) + l, (y : Int) + c, (u : Int) + b, v, w] := by
  rw [shifted_five, if_pos (by omega)]
  simp [Int.add_comm]
theorem sh5 (l c b n x y u v w : Nat) (h : (x : Int) ≠ 0) : sn (shifted l c b n ⟨x, y, some ⟨u, v, w, none⟩⟩) = [(x : Int) + l, (y : Int), (u : Int) + b, v, w] := by
  rw [shifted_five, if_neg (by omega)]
  simp [Int.add_comm]
theorem sh6z (l c b n x y u v w z : Nat) (h : (x : Int) = 0) : sn (shifted l c b n ⟨x, y, some ⟨u, v, w, some z⟩⟩) = [(x : Int) + l, (y : Int) + c, (u : Int) + b, v, w, (z : Int) + n] := by
  rw [shifted_six, if_pos (by omega)]
  simp [Int.add_comm]
theorem sh6 (l c b n x y u v w z : Nat) (h : (x : Int) ≠ 0) : sn (shifted l c b n ⟨x, y, some ⟨u, v, w, some z⟩⟩) = [(x : Int) + l, (y : Int), (u : Int) + b, v, w, (z : Int) + n] := by
  rw [shifted_six, if_neg (by omega)]
  simp [Int.add_comm]
/-! ### through -/
theorem thr_lost {b : Map} {src base names x y : Nat} {o : Origin} (h : o.src = src) (hn : (lookAt b o.line o.col).bind (fun (t : Seg) => t.orig) = none) : sn (through b src base names ⟨x, y, some o⟩) = [(x : Int), y] := by
  rw [through_hit rfl h, hn]
  rfl
theorem thr_five {b : Map} {src base names x y : Nat} {o q : Origin} (h : o.src = src) (hn : (lookAt b o.line o.col).bind (fun (t : Seg) => t.orig) = some q) (h1 : o.name = none) (h2 : q.name = none) : sn (through b src base names ⟨x, y, some o⟩) = [(x : Int), y, (q.src : Int) + base, q.line, q.col] := by
  rw [through_hit rfl h, hn]
  unfold renamed
  dsimp only [Option.map_some]
  rw [h1, h2]
  rfl
theorem thr_own {b : Map} {src base names x y z : Nat} {o q : Origin} (h : o.src = src) (hn : (lookAt b o.line o.col).bind (fun (t : Seg) => t.orig) = some q) (h1 : o.name = some z) : sn (through b src base names ⟨x, y, some o⟩) = [(x : Int), y, (q.src : Int) + base, q.line, q.col, z] := by
  rw [through_hit rfl h, hn]
  unfold renamed
  dsimp only [Option.map_some]
  rw [h1]
  rfl
theorem thr_new {b : Map} {src base names x y z : Nat} {o q : Origin} (h : o.src = src) (hn : (lookAt b o.line o.col).bind (fun (t : Seg) => t.orig) = some q) (h1 : o.name = none) (h2 : q.name = some z) : sn (through b src base names ⟨x, y, some o⟩) = [(x : Int), y, (q.src : Int) + base, q.line, q.col, (z : Int) + names] := by
  rw [through_hit rfl h, hn]
  unfold renamed
  dsimp only [Option.map_some]
  rw [h1, h2]
  rfl
end
/-! ### calls -/
def numC : Wm.Call → Nat
  | .add _ _ => 0
  | .read _ _ => 1
  | .write _ => 2
  | .count _ => 3
  | .get _ _ => 4
  | .at_ _ _ _ => 5
  | .back _ _ _ _ => 6
  | .join _ _ _ _ _ => 7
  | .append _ _ _ _ _ _ => 8
  | .clear _ => 9
def sizC : Wm.Call → Nat
  | .add _ _ => 3
  | .read _ _ => 3
  | .write _ => 2
  | .count _ => 2
  | .get _ _ => 3
  | .at_ _ _ _ => 4
  | .back _ _ _ _ => 5
  | .join _ _ _ _ _ => 6
  | .append _ _ _ _ _ _ => 7
  | .clear _ => 2
def mapC : Wm.Call → Nat
  | .add k _ => k
  | .read k _ => k
  | .write k => k
  | .count k => k
  | .get k _ => k
  | .at_ k _ _ => k
  | .back k _ _ _ => k
  | .join k _ _ _ _ => k
  | .append k _ _ _ _ _ => k
  | .clear k => k
theorem flat_head (q : Wm.Call) : ∃ r, flatC q = (numC q : Int) :: (mapC q : Int) :: r := by cases q <;> exact ⟨_, rfl⟩
theorem numC_le (q : Wm.Call) : numC q < 10 := by cases q <;> simp [numC]
theorem flat_at {l x r : List Int} {i j : Nat} {v : Int} (h : l.drop i = x ++ r) (hx : x[j]? = some v) : l[i + j]? = some v := by
  have := congrArg (fun z => z[j]?) h
  rw [List.getElem?_drop] at this
  rw [this, List.getElem?_append_left, hx]
  rcases Nat.lt_or_ge j x.length with g | g
  · exact g
  · rw [List.getElem?_eq_none g] at hx
    cases hx
theorem call_num {l r : List Int} {i : Nat} {q : Wm.Call} (h : l.drop i = flatC q ++ r) : l[i]? = some (numC q : Int) := by
  obtain ⟨t, e⟩ := flat_head q
  exact flat_at (j := 0) h (by rw [e]; rfl)
theorem call_row {l r : List Int} {i : Nat} {q : Wm.Call} (h : l.drop i = flatC q ++ r) (hn : (numC q : Int) = 0 ∨ (numC q : Int) = 1) : ∃ n : Nat, l[i + 2]? = some (n : Int) ∧ sizC q = 3 ∧ i + (flatC q).length = i + 3 + n := by
  cases q with
  | add k s => exact ⟨s.length, flat_at (j := 2) h rfl, rfl, by show i + (natsI s).length.succ.succ.succ = _; unfold natsI; rw [List.length_map]; omega⟩
  | read k t => exact ⟨t.length, flat_at (j := 2) h rfl, rfl, by show i + (bytesI t).length.succ.succ.succ = _; rw [bytesI_len]; omega⟩
  | _ => exfalso; simp [numC] at hn
theorem call_len {q : Wm.Call} (hn : ¬ ((numC q : Int) = 0 ∨ (numC q : Int) = 1)) : (flatC q).length = sizC q := by
  cases q with
  | add k s => exact absurd (.inl rfl) hn
  | read k t => exact absurd (.inr rfl) hn
  | _ => rfl
theorem step_k {st : State} {q : Wm.Call} (h : ¬ mapC q < 4) : step st q = (st, no 1) := by
  refine step_high (mapC q) h ?_
  cases q <;> simp [mapC]
/-! ### strings -/
theorem strung_len (m b : Map) (l c base n : Nat) : (strung m b l c base n).length = m.length + (shifts b l c base n).length := by
  unfold strung shifts
  rw [List.length_append]
theorem strung_ok {m b : Map} {l c base n : Nat} (F : Fit m) : (strung m b l c base n).all Seg.ok = (shifts b l c base n).all Seg.ok := by
  have h : m.all Seg.ok = true := by
    rw [List.all_eq_true]
    exact F.1.1
  show (m ++ shifts b l c base n).all Seg.ok = _
  rw [List.all_append, h, Bool.true_and]
theorem all_shifts (m b : Map) (l c base n : Nat) : (b.all fun (y : Seg) => last m (shifted l c base n y)) = (shifts b l c base n).all (last m) := by
  unfold shifts
  rw [List.all_map]
  rfl
theorem step_appendS {st : State} (F : Fits st) {k j : Nat} (h : k < 4) (hj : j < 4) (l c b n : Nat) : step st (.append k j l c b n) = if (shifts (mapAt st j) l c b n).all (last (mapAt st k)) = false then (st, no 2) else if 200 < (mapAt st k).length + (shifts (mapAt st j) l c b n).length then (st, no 4) else if (shifts (mapAt st j) l c b n).all Seg.ok = true then (st.set k (mapAt st k ++ shifts (mapAt st j) l c b n), one 0) else (st, no 6) := by
  rw [step_append h, if_pos hj, all_shifts, strung_len, strung_ok (F.get h).2]
  rfl
theorem step_joinS {st : State} {k j : Nat} (h : k < 4) (hj : j < 4) (s b n : Nat) : step st (.join k j s b n) = if (joined (mapAt st k) (mapAt st j) s b n).all Seg.ok = true then (st.set k (joined (mapAt st k) (mapAt st j) s b n), one 0) else (st, no 6) := by
  rw [step_join h, if_pos hj]
theorem fit_shifts {st : State} (F : Fits st) {k j : Nat} (h : k < 4) (hj : j < 4) {l c b n : Nat} (h1 : (shifts (mapAt st j) l c b n).all (last (mapAt st k)) = true) (h2 : ¬ 200 < (mapAt st k).length + (shifts (mapAt st j) l c b n).length) (h3 : (shifts (mapAt st j) l c b n).all Seg.ok = true) : Fit (mapAt st k ++ shifts (mapAt st j) l c b n) :=
  (F.get h).2.strung (F.get hj).2 (by rw [all_shifts]; exact h1) (by rw [strung_len]; exact h2) (by rw [strung_ok (F.get h).2]; exact h3)
theorem shifts_length (m : Map) (l c b n : Nat) : (shifts m l c b n).length = m.length := by
  unfold shifts
  rw [List.length_map]
theorem joined_length (m b : Map) (s base n : Nat) : (joined m b s base n).length = m.length := by
  unfold joined
  rw [List.length_map]
end Wq

set_option Elab.async false
set_option maxRecDepth 100000
set_option maxHeartbeats 4000000
set_option linter.all false
/-! # The program's text, by the hand layer -/
namespace Wq
open PySem PySem.Spec PyProof.Rows L2
def top (i : Nat) : Stmt := PySem.Challenge.pw_wheremaps_s01_answers.main.body.getD i (.Pass ⟨0, 0, 0, 0⟩)
/-- what the top has written -/
structure Txt (K : PySem.W.Frag) (mg : Str → Option Value) (aS : Addr) : Prop where
  len : mg "len" = none
  range : mg "range" = none
  tuple : mg "tuple" = none
  list : mg "list" = none
  SIZES : mg "SIZES" = some (.ref aS)
  sizes : ∀ H : Hp, SqT K H aS [.int 2, .int 5, .int 6]
  GREATEST_LINE : ∃ t, mg "GREATEST_LINE" = some (.int 4095 t)
  GREATEST_NUMBER : ∃ t, mg "GREATEST_NUMBER" = some (.int 2147483647 t)
  COMMA : ∃ t, mg "COMMA" = some (.int 44 t)
  SEMICOLON : ∃ t, mg "SEMICOLON" = some (.int 59 t)
  MOST_SEGMENTS : ∃ t, mg "MOST_SEGMENTS" = some (.int 200 t)
  ADD : ∃ t, mg "ADD" = some (.int 0 t)
  READ : ∃ t, mg "READ" = some (.int 1 t)
  WRITE : ∃ t, mg "WRITE" = some (.int 2 t)
  COUNT : ∃ t, mg "COUNT" = some (.int 3 t)
  GET : ∃ t, mg "GET" = some (.int 4 t)
  AT : ∃ t, mg "AT" = some (.int 5 t)
  BACK : ∃ t, mg "BACK" = some (.int 6 t)
  JOIN : ∃ t, mg "JOIN" = some (.int 7 t)
  APPEND : ∃ t, mg "APPEND" = some (.int 8 t)
  calls : ∃ aC, mg "SIZES_OF_CALLS" = some (.ref aC) ∧ ∀ H : Hp, SqT K H aC [.int 3, .int 3, .int 2, .int 2, .int 3, .int 4, .int 5, .int 6, .int 7, .int 2]
theorem pe_gI {X : Cx} {x : Str} {n : Int} {pos : Pos} (hm : ∃ t, X.mg x = some (.int n t)) (hg : Gl X x) (hd : (x == ("__debug__" : Str)) = false := by decide) : PE X (.Name x pos) (tC (.int n)) := by
  obtain ⟨t, e⟩ := hm
  exact pe_glob hg e ⟨_, rfl⟩ hd
theorem pe_gR {X : Cx} {x : Str} {a : Addr} {pos : Pos} (hm : X.mg x = some (.ref a)) (hg : Gl X x) (hd : (x == ("__debug__" : Str)) = false := by decide) : PE X (.Name x pos) (tC (.ref a)) := pe_glob hg hm rfl hd
/-- a def that keeps its promise, as its callers use it -/
structure Df (P : Program) (w : World) (K : PySem.W.Frag) (mg : Str → Option Value) (base : Heap) (k : Nat) (nm : Str) (ps : List Str) (sp : Sp) (f : Addr) (fd : FuncData) : Prop where
  g : mg nm = some (.ref f)
  kp : PySem.W.keepIn K (.ref f) = true
  b : Binds K fd ps []
  ok : FnOk P w K mg base CX0 k f fd ps sp
section
variable {P : Program} {w : World} {K : PySem.W.Frag} {mg : Str → Option Value} {base : Heap} {aS : Addr}
/-! ### byte_of -/
abbrev s_byte_of : Stmt := top 15
theorem sc_byte_of : FnScope ["digit"] ["digit"] (defScope s_byte_of) := ⟨rfl, rfl, rfl, by decide +kernel, rfl, by decide +kernel, by decide +kernel⟩
def sp_byte_of : Sp := fun vs H Q _ => ∃ d : Int, vs = [.int d] ∧ Q (.int (byteOf d)) H
theorem ok_byte_of {f : Addr} {fd : FuncData} (F : Fun K "byte_of" "byte_of" s_byte_of f fd) : FnOk P w K mg base CX0 1 f fd ["digit"] sp_byte_of := by
  refine F.ok sc_byte_of (fun vs H Q E h => ?_) (fun cdv A outer s H vs Q E hr h => ?_)
  · obtain ⟨d, rfl, _⟩ := h
    rfl
  · obtain ⟨d, rfl, q⟩ := h
    refine ⟨_, (pss_cons (ps_if (pt_cmpR op_lt (pv 0) pe_int (nomark _)) (pss_one (ps_ret (pe_op op_add (pv 0) pe_int))) pss_nil)
      (pss_cons (ps_if (pt_cmpR op_lt (pv 0) pe_int (nomark _)) (pss_one (ps_ret (pe_op op_add (pv 0) pe_int))) pss_nil)
      (pss_cons (ps_if (pt_cmpR op_lt (pv 0) pe_int (nomark _)) (pss_one (ps_ret (pe_op op_sub (pv 0) pe_int))) pss_nil)
      (pss_cons (ps_if (pt_cmpR op_eq (pv 0) pe_int (nomark _)) (pss_one (ps_ret pe_int)) pss_nil)
      (pss_one (ps_ret pe_int)))))), ?_⟩
    unfold byteOf at q
    refine ⟨_, rfl, _, _, rfl, rfl, _, rfl, ite2 (fun c => ?_) (fun c => ?_)⟩
    · rw [if_pos (of_decide_eq_true c)] at q
      exact ⟨_, rfl, _, _, rfl, rfl, q⟩
    rw [if_neg (fun z => c (decide_eq_true z))] at q
    refine ⟨_, rfl, _, _, rfl, rfl, _, rfl, ite2 (fun c => ?_) (fun c => ?_)⟩
    · rw [if_pos (of_decide_eq_true c)] at q
      exact ⟨_, rfl, _, _, rfl, rfl, q⟩
    rw [if_neg (fun z => c (decide_eq_true z))] at q
    refine ⟨_, rfl, _, _, rfl, rfl, _, rfl, ite2 (fun c => ?_) (fun c => ?_)⟩
    · rw [if_pos (of_decide_eq_true c)] at q
      exact ⟨_, rfl, _, _, rfl, rfl, q⟩
    rw [if_neg (fun z => c (decide_eq_true z))] at q
    refine ⟨_, rfl, rfl, _, rfl, ite2 (fun c => ?_) (fun c => ?_)⟩
    · rw [if_pos (V.int.inj (of_decide_eq_true c))] at q
      exact q
    rw [if_neg (fun z => c (decide_eq_true (congrArg V.int z)))] at q
    exact q
/-! ### signed -/
abbrev s_signed : Stmt := top 18
theorem sc_signed : FnScope ["value"] ["value"] (defScope s_signed) := ⟨rfl, rfl, rfl, by decide +kernel, rfl, by decide +kernel, by decide +kernel⟩
def sp_signed : Sp := fun vs H Q _ => ∃ n : Nat, vs = [.int n] ∧ Q (.int (signed n)) H
theorem ok_signed {f : Addr} {fd : FuncData} (F : Fun K "signed" "signed" s_signed f fd) : FnOk P w K mg base CX0 1 f fd ["value"] sp_signed := by
  refine F.ok sc_signed (fun vs H Q E h => ?_) (fun cdv A outer s H vs Q E hr h => ?_)
  · obtain ⟨d, rfl, _⟩ := h
    rfl
  · obtain ⟨n, rfl, q⟩ := h
    refine ⟨_, (pss_cons (ps_if (pt_cmpR op_eq (pe_op op_mod (pv 0) pe_int) pe_int (nomark _)) (pss_one (ps_ret (pe_op op_fdiv (pv 0) pe_int))) pss_nil)
      (pss_one (ps_ret (pe_un un_neg (pe_op op_fdiv (pv 0) pe_int))))), ?_⟩
    refine ⟨_, rfl, _, _, rfl, rfl, (by show (0 : Int) < 2; decide), rfl, _, rfl, ite2 (fun c => ?_) (fun c => ?_)⟩
    · have e := V.int.inj (of_decide_eq_true c)
      refine ⟨_, rfl, _, _, rfl, rfl, ⟨by decide, by decide⟩, ?_⟩
      unfold signed at q
      rw [if_neg (by omega)] at q
      exact q
    · have e : ¬ ((n : Int) % 2 = 0) := fun z => c (decide_eq_true (congrArg V.int z))
      refine ⟨_, rfl, _, _, rfl, rfl, ⟨by decide, by decide⟩, _, rfl, ?_⟩
      unfold signed at q
      rw [if_pos (by omega)] at q
      exact q
end
end Wq

set_option Elab.async false
set_option maxRecDepth 100000
set_option maxHeartbeats 4000000
set_option linter.all false
namespace Wq
open PySem PySem.Spec PyProof.Rows L2
theorem ifD {p A B : Prop} {_ : Decidable p} (h1 : p → A) (h2 : ¬ p → B) : if decide p = true then A else B := ite2 (fun c => h1 (of_decide_eq_true c)) (fun c => h2 (fun z => c (decide_eq_true z)))
theorem ifI {x y : Int} {A B : Prop} {_ : Decidable (V.int x = V.int y)} (h1 : x = y → A) (h2 : x ≠ y → B) : if decide (V.int x = V.int y) = true then A else B := ifD (fun c => h1 (V.int.inj c)) (fun c => h2 (fun z => c (congrArg V.int z)))
theorem ifNI {x y : Int} {A B : Prop} {_ : Decidable (V.int x = V.int y)} (h1 : x ≠ y → A) (h2 : x = y → B) : if (!decide (V.int x = V.int y)) = true then A else B := by
  by_cases c : x = y
  · rw [decide_eq_true (congrArg V.int c), if_neg (by decide)]
    exact h2 c
  · rw [decide_eq_false (fun z => c (V.int.inj z)), if_pos (by decide)]
    exact h1 c
theorem ifAnd {p q X A B : Prop} {_ : Decidable p} {_ : Decidable q} (hx : (if decide q = true then A else B) → X) (h1 : p ∧ q → A) (h2 : ¬ (p ∧ q) → B) : if decide p = true then X else (if false = true then A else B) :=
  ifD (fun c => hx (ifD (fun d => h1 ⟨c, d⟩) (fun d => h2 (fun z => d z.2)))) (fun c => iteF (h2 (fun z => c z.1)))
theorem ifOr {p q X A B : Prop} {_ : Decidable p} {_ : Decidable q} (hx : (if decide q = true then A else B) → X) (h1 : p ∨ q → A) (h2 : ¬ (p ∨ q) → B) : if decide p = true then (if true = true then A else B) else X :=
  ifD (fun c => iteT (h1 (.inl c))) (fun c => hx (ifD (fun d => h1 (.inr d)) (fun d => h2 (fun z => z.elim c d))))
theorem two_le : ∀ {z : List Int}, 2 ≤ z.length → ∃ a b r, z = a :: b :: r
  | [], h => absurd h (by decide)
  | [_], h => absurd h (by simp)
  | a :: b :: r, _ => ⟨a, b, r, rfl⟩
theorem snoc_len {α : Type} {xs : List α} {y : α} : ((xs ++ [y]).length : Int) ≠ 0 := by
  rw [List.length_append]
  simp only [List.length_cons, List.length_nil]
  omega
theorem at_val {Kt : V → Hp → Prop} {v v' : V} {H : Hp} (e : v' = v) (h : Kt v H) : Kt v' H := by
  rw [e]
  exact h
theorem ifJoin {p X Y : Prop} {_ : Decidable p} {Kt : V → Hp → Prop} (v : V) {H : Hp} (hX : p → Kt v H → X) (hY : ¬ p → Kt v H → Y) (h : Kt v H) : if decide p = true then X else Y := ifD (fun c => hX c h) (fun c => hY c h)
theorem ifB {b : Bool} {A B : Prop} (h1 : b = true → A) (h2 : b = false → B) : if b = true then A else B := by
  cases b with
  | true => exact h1 rfl
  | false => exact h2 rfl
theorem atN {α : Type} {xs : List α} {i : Int} {j : Nat} {v : α} (e : i = j) (h : xs[j]? = some v) : atI xs i = some v := by
  subst e
  exact atI_nat h
theorem ixN_nat {n j : Nat} (h : j < n) : ixN n (j : Int) = some j := by
  unfold ixN
  rw [if_pos (by omega), if_pos (by omega)]
  rfl
theorem same_new {H : Hp} {p : Addr} {o : HO} (h : H p = none) : Same H (upd H p o) := fun b x e => by
  rw [upd_ne (ne_of_none e h)]
  exact e
theorem Same.tup {K : PySem.W.Frag} {H H' : Hp} {a : Addr} {xs : List V} (e : Same H H') (h : SqT K H a xs) : SqT K H' a xs := by
  rcases h with h | h
  · rcases h with h | ⟨o, h⟩
    · exact .inl (.inl (e _ _ h))
    · exact .inl (.inr ⟨o, e _ _ h⟩)
  · exact .inr h
/-- all but the object at a stands -/
def But (a : Addr) (H H' : Hp) : Prop := ∀ b o, H b = some o → b ≠ a → H' b = some o
end Wq

set_option Elab.async false
set_option maxRecDepth 100000
set_option maxHeartbeats 1000000
set_option linter.all false
/-! # Maps in the heap -/
namespace Wq
open PySem PySem.Spec PyProof.Rows L2
def segV (s : Wm.Seg) : List V := (sn s).map V.int
structure SegsAt (H : Hp) (rs : List Addr) (m : Wm.Map) : Prop where
  len : rs.length = m.length
  at_ : ∀ (i : Nat) (r : Addr) (s : Wm.Seg), rs[i]? = some r → m[i]? = some s → H r = some (.tup (segV s))
/-- the list at a holds the map m -/
def MapAt (H : Hp) (a : Addr) (m : Wm.Map) : Prop := ∃ rs : List Addr, H a = some (.lst (rs.map V.ref)) ∧ SegsAt H rs m
theorem SegsAt.nil (H : Hp) : SegsAt H [] [] := ⟨rfl, fun _ _ _ h => by simp at h⟩
/-- what a tuple was it is -/
def Tups (H H' : Hp) : Prop := ∀ b xs, H b = some (.tup xs) → H' b = some (.tup xs)
theorem Tups.of {H H' : Hp} (h : Same H H') : Tups H H' := fun b xs e => h b _ e
theorem Tups.trans {H H1 H2 : Hp} (a : Tups H H1) (b : Tups H1 H2) : Tups H H2 := fun c xs e => b c xs (a c xs e)
theorem Tups.upd {H : Hp} {a : Addr} {xs ys : List V} (h : H a = some (.lst xs)) : Tups H (upd H a (.lst ys)) := fun b zs e => by
  rw [upd_ne (ne_of e h (fun z => nomatch z))]
  exact e
theorem SegsAt.mono {H H' : Hp} {rs : List Addr} {m : Wm.Map} (S : SegsAt H rs m) (h : Tups H H') : SegsAt H' rs m := ⟨S.len, fun i r s h1 h2 => h _ _ (S.at_ i r s h1 h2)⟩
theorem get_snoc {α : Type} {l : List α} {x y : α} {i : Nat} (h : (l ++ [x])[i]? = some y) : (l[i]? = some y ∧ i < l.length) ∨ (i = l.length ∧ y = x) := by
  rcases Nat.lt_trichotomy i l.length with g | g | g
  · rw [List.getElem?_append_left g] at h
    exact .inl ⟨h, g⟩
  · subst g
    rw [List.getElem?_append_right (Nat.le_refl _), Nat.sub_self] at h
    exact .inr ⟨rfl, (Option.some.inj h).symm⟩
  · rw [List.getElem?_eq_none (by rw [List.length_append]; exact g)] at h
    cases h
theorem SegsAt.snoc {H : Hp} {rs : List Addr} {m : Wm.Map} {r : Addr} {s : Wm.Seg} (S : SegsAt H rs m) (h : H r = some (.tup (segV s))) : SegsAt H (rs ++ [r]) (m ++ [s]) := by
  refine ⟨by rw [List.length_append, List.length_append, S.len]; rfl, fun i r' s' h1 h2 => ?_⟩
  rcases get_snoc h1 with ⟨g1, l1⟩ | ⟨g1, rfl⟩
  · rcases get_snoc h2 with ⟨g2, _⟩ | ⟨g2, _⟩
    · exact S.at_ i r' s' g1 g2
    · rw [S.len] at l1
      omega
  · rcases get_snoc h2 with ⟨_, l2⟩ | ⟨_, rfl⟩
    · rw [← S.len] at l2
      omega
    · exact h
theorem refs_snoc (rs : List Addr) (r : Addr) : rs.map V.ref ++ [V.ref r] = (rs ++ [r]).map V.ref := by
  rw [List.map_append]
  rfl
theorem SegsAt.get {H : Hp} {rs : List Addr} {m : Wm.Map} {i : Nat} {s : Wm.Seg} (S : SegsAt H rs m) (h : m[i]? = some s) : ∃ r, (rs.map V.ref)[i]? = some (.ref r) ∧ H r = some (.tup (segV s)) := by
  have hi : i < rs.length := by
    rw [S.len]
    rcases Nat.lt_or_ge i m.length with g | g
    · exact g
    · rw [List.getElem?_eq_none g] at h
      cases h
  refine ⟨rs[i], ?_, S.at_ i _ s (List.getElem?_eq_getElem hi) h⟩
  rw [List.getElem?_map, List.getElem?_eq_getElem hi]
  rfl
theorem SegsAt.item {H : Hp} {rs : List Addr} {m : Wm.Map} {i : Nat} {y : V} (S : SegsAt H rs m) (h : (rs.map V.ref)[i]? = some y) : ∃ r s, y = .ref r ∧ m[i]? = some s ∧ H r = some (.tup (segV s)) := by
  rw [List.getElem?_map] at h
  cases e : rs[i]? with
  | none => rw [e] at h; cases h
  | some r =>
    rw [e] at h
    have hi : i < m.length := by
      rw [← S.len]
      rcases Nat.lt_or_ge i rs.length with g | g
      · exact g
      · rw [List.getElem?_eq_none g] at e
        cases e
    exact ⟨r, m[i], (Option.some.inj h).symm, List.getElem?_eq_getElem hi, S.at_ i r _ e (List.getElem?_eq_getElem hi)⟩
theorem SegsAt.refs_len {H : Hp} {rs : List Addr} {m : Wm.Map} (S : SegsAt H rs m) : (rs.map V.ref).length = m.length := by
  rw [List.length_map]
  exact S.len
theorem segV_len (s : Wm.Seg) : (segV s).length = (sn s).length := List.length_map ..
theorem sn_le6 {z L : List Int} {s : Wm.Seg} (h : sn s = z) (h6 : L.length = 6) : z.length ≤ L.length := by
  rw [← h, h6]
  exact (sn_len s).2
theorem six1000 {L : List Int} (h : L.length = 6) : L.length ≤ 1000 := by omega
theorem ifNB {b : Bool} {A B : Prop} (h1 : b = false → A) (h2 : b = true → B) : if (!b) = true then A else B := by
  cases b with
  | true => exact h2 rfl
  | false => exact h1 rfl
end Wq

set_option Elab.async false
set_option maxRecDepth 100000
set_option maxHeartbeats 1000000
set_option linter.all false
namespace Wq
open PySem PySem.Spec PyProof.Rows L2
section
variable {P : Program} {w : World} {K : PySem.W.Frag} {mg : Str → Option Value} {base : Heap} {aS : Addr}
/-! ### digit_of -/
abbrev s_digit_of : Stmt := top 16
theorem sc_digit_of : FnScope ["byte"] ["byte"] (defScope s_digit_of) := ⟨rfl, rfl, rfl, by decide +kernel, rfl, by decide +kernel, by decide +kernel⟩
def sp_digit_of : Sp := fun vs H Q _ => ∃ d : Int, vs = [.int d] ∧ Q (.int (digitOf d)) H
theorem ok_digit_of {f : Addr} {fd : FuncData} (F : Fun K "digit_of" "digit_of" s_digit_of f fd) : FnOk P w K mg base CX0 1 f fd ["byte"] sp_digit_of := by
  refine F.ok sc_digit_of (fun vs H Q E h => ?_) (fun cdv A outer s H vs Q E hr h => ?_)
  · obtain ⟨d, rfl, _⟩ := h
    rfl
  · obtain ⟨d, rfl, q⟩ := h
    refine ⟨_, (pss_cons (ps_if (PW.pt (pw_and (pt_cmpR op_ge (pv 0) pe_int (nomark _)) (pw_and1 (pt_cmpR op_le (pv 0) pe_int (nomark _))))) (pss_one (ps_ret (pe_op op_sub (pv 0) pe_int))) pss_nil)
      (pss_cons (ps_if (PW.pt (pw_and (pt_cmpR op_ge (pv 0) pe_int (nomark _)) (pw_and1 (pt_cmpR op_le (pv 0) pe_int (nomark _))))) (pss_one (ps_ret (pe_op op_sub (pv 0) pe_int))) pss_nil)
      (pss_cons (ps_if (PW.pt (pw_and (pt_cmpR op_ge (pv 0) pe_int (nomark _)) (pw_and1 (pt_cmpR op_le (pv 0) pe_int (nomark _))))) (pss_one (ps_ret (pe_op op_add (pv 0) pe_int))) pss_nil)
      (pss_cons (ps_if (pt_cmpR op_eq (pv 0) pe_int (nomark _)) (pss_one (ps_ret pe_int)) pss_nil)
      (pss_cons (ps_if (pt_cmpR op_eq (pv 0) pe_int (nomark _)) (pss_one (ps_ret pe_int)) pss_nil)
      (pss_one (ps_ret (pe_un un_neg pe_int)))))))), ?_⟩
    refine ⟨_, rfl, _, _, rfl, rfl, _, rfl, ifAnd (fun h => ⟨_, rfl, _, _, rfl, rfl, _, rfl, h⟩) (fun c => ?_) (fun e1 => ?_)⟩
    · refine ⟨_, rfl, _, _, rfl, rfl, ?_⟩
      unfold digitOf at q
      rw [if_pos c] at q
      exact q
    refine ⟨_, rfl, _, _, rfl, rfl, _, rfl, ifAnd (fun h => ⟨_, rfl, _, _, rfl, rfl, _, rfl, h⟩) (fun c => ?_) (fun e2 => ?_)⟩
    · refine ⟨_, rfl, _, _, rfl, rfl, ?_⟩
      unfold digitOf at q
      rw [if_neg e1, if_pos c] at q
      exact q
    refine ⟨_, rfl, _, _, rfl, rfl, _, rfl, ifAnd (fun h => ⟨_, rfl, _, _, rfl, rfl, _, rfl, h⟩) (fun c => ?_) (fun e3 => ?_)⟩
    · refine ⟨_, rfl, _, _, rfl, rfl, ?_⟩
      unfold digitOf at q
      rw [if_neg e1, if_neg e2, if_pos c] at q
      exact q
    unfold digitOf at q
    rw [if_neg e1, if_neg e2, if_neg e3] at q
    refine ⟨_, rfl, rfl, _, rfl, ifI (fun c => ?_) (fun c => ?_)⟩
    · rw [if_pos c] at q
      exact q
    rw [if_neg c] at q
    refine ⟨_, rfl, rfl, _, rfl, ifI (fun c => ?_) (fun c => ?_)⟩
    · rw [if_pos c] at q
      exact q
    rw [if_neg c] at q
    exact ⟨_, rfl, q⟩
end
end Wq

set_option Elab.async false
set_option maxRecDepth 100000
set_option maxHeartbeats 1000000
set_option linter.all false
namespace Wq
open PySem PySem.Spec PyProof.Rows L2
section
variable {P : Program} {w : World} {K : PySem.W.Frag} {mg : Str → Option Value} {base : Heap} {aS : Addr}
/-! ### is_segment -/
theorem inSizes (n : Nat) : inV (.int n) [.int 2, .int 5, .int 6] = (n == 2 || n == 5 || n == 6) := by
  show ((((2 : Int) == (n : Int)) || (((5 : Int) == (n : Int)) || (((6 : Int) == (n : Int)) || false)))) = _
  rw [Bool.eq_iff_iff]
  simp
  omega
abbrev s_is_segment : Stmt := top 4
theorem sc_is_segment : FnScope ["numbers", "number"] ["numbers"] (defScope s_is_segment) := ⟨rfl, rfl, rfl, by decide +kernel, rfl, by decide +kernel, by decide +kernel⟩
def sp_is_segment (K : PySem.W.Frag) : Sp := fun vs H Q _ => ∃ (a : Addr) (z : List Int), vs = [.ref a] ∧ (SqL K H a (z.map V.int) ∨ SqT K H a (z.map V.int)) ∧ Q (.bl (isSeg z)) H
theorem ok_is_segment {f : Addr} {fd : FuncData} (F : Fun K "is_segment" "is_segment" s_is_segment f fd) (T : Txt K mg aS) : FnOk P w K mg base CX0 1 f fd ["numbers"] (sp_is_segment K) := by
  refine F.ok sc_is_segment (fun vs H Q E h => ?_) (fun cdv A outer s H vs Q E hr h => ?_)
  · obtain ⟨a, z, rfl, _⟩ := h
    rfl
  · obtain ⟨a, z, rfl, hS, q⟩ := h
    rcases hS with hS | hS
    · refine ⟨_, (pss_cons (ps_if (pt_cmpR op_notIn_seq (pe_callB call_len_seq (by rfl) T.len PySem.boot_len (pa_cons (pv 0) pa_nil)) (pe_gR T.SIZES (by rfl)) (by rfl)) (pss_one (ps_ret pe_bl)) pss_nil)
      (pss_cons (ps_if (pt_cmpR op_gt (pe_ix ix_list (pv 0) pe_int (fun _ _ => rfl)) (pe_gI T.GREATEST_LINE (by rfl)) (nomark _)) (pss_one (ps_ret pe_bl)) pss_nil)
      (pss_cons (ps_for PassesOwn.never rfl (pi_list (pv 0)) (pg_name (i := 1) sc_is_segment.nd rfl (Or.inl rfl)) (pss_one (ps_if (PW.pt (pw_or (pt_cmpR op_lt (pv 1) pe_int (nomark _)) (pw_or1 (pt_cmpR op_gt (pv 1) (pe_gI T.GREATEST_NUMBER (by rfl)) (nomark _))))) (pss_one (ps_ret pe_bl)) pss_nil)))
      (pss_one (ps_ret pe_bl))))), ?_⟩
      refine ⟨_, rfl, a, _, rfl, .inl hS, aS, _, rfl, .inr (T.sizes _), rfl, rfl, _, rfl, ?_⟩
      rw [List.length_map]
      refine ifB (fun c => ?_) (fun c => ?_)
      · have c' : (!inV (.int z.length) [.int 2, .int 5, .int 6]) = true := c
        rw [inSizes] at c'
        have e : isSeg z = false := by
          unfold isSeg
          rw [Bool.not_eq_true'] at c'
          rw [c']
          rfl
        rw [e] at q
        exact q
      have c' : (!inV (.int z.length) [.int 2, .int 5, .int 6]) = false := c
      rw [inSizes, Bool.not_eq_false'] at c'
      obtain ⟨x, r, rfl⟩ : ∃ x r, z = x :: r := by
        cases z with
        | nil => cases c'
        | cons x r => exact ⟨x, r, rfl⟩
      refine ⟨_, rfl, a, _, _, _, rfl, rfl, hS, atN (j := 0) rfl rfl, _, _, rfl, rfl, _, rfl, ifD (fun c => ?_) (fun c => ?_)⟩
      · have e : isSeg (x :: r) = false := by
          unfold isSeg
          rw [show decide ((x :: r).headD 0 ≤ 4095) = false from decide_eq_false (by show ¬ x ≤ 4095; omega)]
          simp
        rw [e] at q
        exact q
      refine ⟨_, rfl, a, rfl, ⟨_, hS⟩, for_list (K := K) (a := a) (xs := (x :: r).map V.int) (fun i σ H' => ∃ v : Option V, σ = [some (.ref a), v] ∧ H' = H ∧ ((x :: r).take i).all inB = true) ⟨none, rfl, rfl, rfl⟩ (fun i σ H' _ ⟨_, _, e, _⟩ => by rw [e]; exact hS) ?_ ?_⟩
      · rintro i y σ H' hi ⟨v, rfl, rfl, ht⟩
        obtain ⟨u, hu, rfl⟩ : ∃ u, (x :: r)[i]? = some u ∧ y = V.int u := by
          rw [List.getElem?_map] at hi
          cases e : (x :: r)[i]? with
          | none => rw [e] at hi; cases hi
          | some u => rw [e] at hi; exact ⟨u, rfl, (Option.some.inj hi).symm⟩
        have mem : u ∈ x :: r := List.mem_of_getElem? hu
        have bad : inB u = false → Q (.bl false) H' := fun h => by
          have e : isSeg (x :: r) = false := by
            cases e : isSeg (x :: r) with
            | false => rfl
            | true =>
              exfalso
              unfold isSeg at e
              simp only [Bool.and_eq_true] at e
              rw [List.all_eq_true.mp e.2.2 u mem] at h
              cases h
          rw [e] at q
          exact q
        refine ⟨_, rfl, _, _, rfl, rfl, _, rfl, ifD (fun c1 => ?_) (fun c1 => ?_)⟩
        · exact bad (by unfold inB; rw [decide_eq_false (by omega)]; rfl)
        refine ⟨_, rfl, _, _, rfl, rfl, _, rfl, ifD (fun c2 => ?_) (fun c2 => ?_)⟩
        · exact bad (by unfold inB; rw [Bool.and_eq_false_iff]; right; exact decide_eq_false (by omega))
        · refine ⟨_, rfl, rfl, ?_⟩
          rw [List.take_add_one, hu, List.all_append, ht]
          show (inB u && true) = true
          unfold inB
          rw [decide_eq_true (by omega), decide_eq_true (by omega)]
          rfl
      · rintro σ H' ⟨v, rfl, rfl, ht⟩
        have e : isSeg (x :: r) = true := by
          rw [List.length_map, List.take_length] at ht
          unfold isSeg
          rw [c', ht, show decide ((x :: r).headD 0 ≤ 4095) = true from decide_eq_true (by show x ≤ 4095; omega)]
          rfl
        rw [e] at q
        exact q
    · refine ⟨_, (pss_cons (ps_if (pt_cmpR op_notIn_seq (pe_callB call_len_seq (by rfl) T.len PySem.boot_len (pa_cons (pv 0) pa_nil)) (pe_gR T.SIZES (by rfl)) (by rfl)) (pss_one (ps_ret pe_bl)) pss_nil)
      (pss_cons (ps_if (pt_cmpR op_gt (pe_ix ix_tup (pv 0) pe_int (fun _ _ => rfl)) (pe_gI T.GREATEST_LINE (by rfl)) (nomark _)) (pss_one (ps_ret pe_bl)) pss_nil)
      (pss_cons (ps_for PassesOwn.never rfl (pi_tup (pv 0)) (pg_name (i := 1) sc_is_segment.nd rfl (Or.inl rfl)) (pss_one (ps_if (PW.pt (pw_or (pt_cmpR op_lt (pv 1) pe_int (nomark _)) (pw_or1 (pt_cmpR op_gt (pv 1) (pe_gI T.GREATEST_NUMBER (by rfl)) (nomark _))))) (pss_one (ps_ret pe_bl)) pss_nil)))
      (pss_one (ps_ret pe_bl))))), ?_⟩
      refine ⟨_, rfl, a, _, rfl, .inr hS, aS, _, rfl, .inr (T.sizes _), rfl, rfl, _, rfl, ?_⟩
      rw [List.length_map]
      refine ifB (fun c => ?_) (fun c => ?_)
      · have c' : (!inV (.int z.length) [.int 2, .int 5, .int 6]) = true := c
        rw [inSizes] at c'
        have e : isSeg z = false := by
          unfold isSeg
          rw [Bool.not_eq_true'] at c'
          rw [c']
          rfl
        rw [e] at q
        exact q
      have c' : (!inV (.int z.length) [.int 2, .int 5, .int 6]) = false := c
      rw [inSizes, Bool.not_eq_false'] at c'
      obtain ⟨x, r, rfl⟩ : ∃ x r, z = x :: r := by
        cases z with
        | nil => cases c'
        | cons x r => exact ⟨x, r, rfl⟩
      refine ⟨_, rfl, a, _, _, _, rfl, rfl, hS, atN (j := 0) rfl rfl, _, _, rfl, rfl, _, rfl, ifD (fun c => ?_) (fun c => ?_)⟩
      · have e : isSeg (x :: r) = false := by
          unfold isSeg
          rw [show decide ((x :: r).headD 0 ≤ 4095) = false from decide_eq_false (by show ¬ x ≤ 4095; omega)]
          simp
        rw [e] at q
        exact q
      refine ⟨_, rfl, a, rfl, ⟨_, hS⟩, for_tup (K := K) (a := a) (xs := (x :: r).map V.int) (fun i σ H' => ∃ v : Option V, σ = [some (.ref a), v] ∧ H' = H ∧ ((x :: r).take i).all inB = true) ⟨none, rfl, rfl, rfl⟩ (fun i σ H' _ ⟨_, _, e, _⟩ => by rw [e]; exact hS) ?_ ?_⟩
      · rintro i y σ H' hi ⟨v, rfl, rfl, ht⟩
        obtain ⟨u, hu, rfl⟩ : ∃ u, (x :: r)[i]? = some u ∧ y = V.int u := by
          rw [List.getElem?_map] at hi
          cases e : (x :: r)[i]? with
          | none => rw [e] at hi; cases hi
          | some u => rw [e] at hi; exact ⟨u, rfl, (Option.some.inj hi).symm⟩
        have mem : u ∈ x :: r := List.mem_of_getElem? hu
        have bad : inB u = false → Q (.bl false) H' := fun h => by
          have e : isSeg (x :: r) = false := by
            cases e : isSeg (x :: r) with
            | false => rfl
            | true =>
              exfalso
              unfold isSeg at e
              simp only [Bool.and_eq_true] at e
              rw [List.all_eq_true.mp e.2.2 u mem] at h
              cases h
          rw [e] at q
          exact q
        refine ⟨_, rfl, _, _, rfl, rfl, _, rfl, ifD (fun c1 => ?_) (fun c1 => ?_)⟩
        · exact bad (by unfold inB; rw [decide_eq_false (by omega)]; rfl)
        refine ⟨_, rfl, _, _, rfl, rfl, _, rfl, ifD (fun c2 => ?_) (fun c2 => ?_)⟩
        · exact bad (by unfold inB; rw [Bool.and_eq_false_iff]; right; exact decide_eq_false (by omega))
        · refine ⟨_, rfl, rfl, ?_⟩
          rw [List.take_add_one, hu, List.all_append, ht]
          show (inB u && true) = true
          unfold inB
          rw [decide_eq_true (by omega), decide_eq_true (by omega)]
          rfl
      · rintro σ H' ⟨v, rfl, rfl, ht⟩
        have e : isSeg (x :: r) = true := by
          rw [List.length_map, List.take_length] at ht
          unfold isSeg
          rw [c', ht, show decide ((x :: r).headD 0 ≤ 4095) = true from decide_eq_true (by show x ≤ 4095; omega)]
          rfl
        rw [e] at q
        exact q
end
end Wq

set_option Elab.async false
set_option maxRecDepth 100000
set_option maxHeartbeats 1000000
set_option linter.all false
namespace Wq
open PySem PySem.Spec PyProof.Rows L2
section
variable {P : Program} {w : World} {K : PySem.W.Frag} {mg : Str → Option Value} {base : Heap} {aS : Addr}
/-! ### is_behind -/
abbrev s_is_behind : Stmt := top 8
theorem sc_is_behind : FnScope ["segment", "segments", "last"] ["segment", "segments"] (defScope s_is_behind) := ⟨rfl, rfl, rfl, by decide +kernel, rfl, by decide +kernel, by decide +kernel⟩
/-- segments is a list of tuples; the last of them is z -/
def sp_is_behind (K : PySem.W.Frag) : Sp := fun vs H Q _ => ∃ (a b : Addr) (z : List Int) (ys : List V) (v : Bool), vs = [.ref a, .ref b] ∧ (SqL K H a (z.map V.int) ∨ SqT K H a (z.map V.int)) ∧ 2 ≤ z.length ∧ SqL K H b ys ∧
  ((ys = [] ∧ v = true) ∨ ∃ (c : Addr) (t : List Int) (xs : List V), ys = xs ++ [.ref c] ∧ SqT K H c (t.map V.int) ∧ 2 ≤ t.length ∧ v = behindI t z) ∧ Q (.bl v) H
theorem ok_is_behind {f : Addr} {fd : FuncData} (F : Fun K "is_behind" "is_behind" s_is_behind f fd) (T : Txt K mg aS) : FnOk P w K mg base CX0 1 f fd ["segment", "segments"] (sp_is_behind K) := by
  refine F.ok sc_is_behind (fun vs H Q E h => ?_) (fun cdv A outer s H vs Q E hr h => ?_)
  · obtain ⟨a, b, z, ys, v, rfl, _⟩ := h
    rfl
  · obtain ⟨a, b, z, ys, v, rfl, hA, hz, hB, h, q⟩ := h
    refine ⟨_, (pss_cons (ps_if (pt_cmpR op_eq (pe_callB call_len_seq (by rfl) T.len PySem.boot_len (pa_cons (pv 1) pa_nil)) pe_int (nomark _)) (pss_one (ps_ret pe_bl)) pss_nil)
      (pss_cons (ps_set (i := 2) sc_is_behind.nd rfl (Or.inl rfl) (pe_ix ix_list (pv 1) (pe_un un_neg pe_int) (fun _ _ => rfl)))
      (pss_cons (ps_if (pt_cmpR op_eq (pe_ix ix_seq (pv 0) pe_int (fun _ _ => rfl)) (pe_ix ix_tup (pv 2) pe_int (fun _ _ => rfl)) (nomark _)) (pss_one (ps_ret (pe_cmpR op_gt (pe_ix ix_seq (pv 0) pe_int (fun _ _ => rfl)) (pe_ix ix_tup (pv 2) pe_int (fun _ _ => rfl)) (nomark _)))) pss_nil)
      (pss_one (ps_ret (pe_cmpR op_gt (pe_ix ix_seq (pv 0) pe_int (fun _ _ => rfl)) (pe_ix ix_tup (pv 2) pe_int (fun _ _ => rfl)) (nomark _))))))), ?_⟩
    refine ⟨_, rfl, b, _, rfl, .inl hB, rfl, _, rfl, ifI (fun c => ?_) (fun c => ?_)⟩
    · rcases h with ⟨rfl, rfl⟩ | ⟨d, t, xs, rfl, _⟩
      · exact q
      · exact absurd c snoc_len
    rcases h with ⟨rfl, _⟩ | ⟨d, t, xs, rfl, hT, ht, rfl⟩
    · exact absurd rfl c
    obtain ⟨z0, z1, zr, rfl⟩ := two_le hz
    obtain ⟨t0, t1, tr, rfl⟩ := two_le ht
    refine ⟨_, rfl, _, rfl, b, _, _, _, rfl, rfl, hB, atI_last xs _, ?_⟩
    rcases hA with hA | hA
    · refine ⟨_, rfl, .inl ⟨a, _, _, _, rfl, rfl, hA, atN (j := 0) rfl rfl, ?_⟩⟩
      refine ⟨_, rfl, d, _, _, _, rfl, rfl, hT, atN (j := 0) rfl rfl, rfl, _, rfl, ifI (fun c => ?_) (fun c => ?_)⟩
      · refine ⟨_, rfl, .inl ⟨a, _, _, _, rfl, rfl, hA, atN (j := 1) rfl rfl, ?_⟩⟩
        refine ⟨_, rfl, d, _, _, _, rfl, rfl, hT, atN (j := 1) rfl rfl, _, _, rfl, rfl, ?_⟩
        unfold behindI at q
        rw [if_pos (show (z0 :: z1 :: zr).headD 0 = (t0 :: t1 :: tr).headD 0 from c)] at q
        exact q
      · refine ⟨_, rfl, .inl ⟨a, _, _, _, rfl, rfl, hA, atN (j := 0) rfl rfl, ?_⟩⟩
        refine ⟨_, rfl, d, _, _, _, rfl, rfl, hT, atN (j := 0) rfl rfl, _, _, rfl, rfl, ?_⟩
        unfold behindI at q
        rw [if_neg (show ¬ (z0 :: z1 :: zr).headD 0 = (t0 :: t1 :: tr).headD 0 from c)] at q
        exact q
    · refine ⟨_, rfl, .inr (.inl ⟨a, _, _, _, rfl, rfl, hA, atN (j := 0) rfl rfl, ?_⟩)⟩
      refine ⟨_, rfl, d, _, _, _, rfl, rfl, hT, atN (j := 0) rfl rfl, rfl, _, rfl, ifI (fun c => ?_) (fun c => ?_)⟩
      · refine ⟨_, rfl, .inr (.inl ⟨a, _, _, _, rfl, rfl, hA, atN (j := 1) rfl rfl, ?_⟩)⟩
        refine ⟨_, rfl, d, _, _, _, rfl, rfl, hT, atN (j := 1) rfl rfl, _, _, rfl, rfl, ?_⟩
        unfold behindI at q
        rw [if_pos (show (z0 :: z1 :: zr).headD 0 = (t0 :: t1 :: tr).headD 0 from c)] at q
        exact q
      · refine ⟨_, rfl, .inr (.inl ⟨a, _, _, _, rfl, rfl, hA, atN (j := 0) rfl rfl, ?_⟩)⟩
        refine ⟨_, rfl, d, _, _, _, rfl, rfl, hT, atN (j := 0) rfl rfl, _, _, rfl, rfl, ?_⟩
        unfold behindI at q
        rw [if_neg (show ¬ (z0 :: z1 :: zr).headD 0 = (t0 :: t1 :: tr).headD 0 from c)] at q
        exact q
end
end Wq

set_option Elab.async false
set_option maxRecDepth 100000
set_option maxHeartbeats 1000000
set_option linter.all false
namespace Wq
open PySem PySem.Spec PyProof.Rows L2
section
variable {P : Program} {w : World} {K : PySem.W.Frag} {mg : Str → Option Value} {base : Heap} {aS : Addr}
/-! ### begin_line -/
abbrev s_begin_line : Stmt := top 23
theorem sc_begin_line : FnScope ["last", "line"] ["last", "line"] (defScope s_begin_line) := ⟨rfl, rfl, rfl, by decide +kernel, rfl, by decide +kernel, by decide +kernel⟩
def sp_begin_line : Sp := fun vs H Q _ => ∃ (a : Addr) (l x y : Int) (r : List Int), vs = [.ref a, .int l] ∧ H a = some (.lst ((x :: y :: r).map V.int)) ∧ Q .non (upd H a (.lst ((l :: 0 :: r).map V.int)))
theorem ok_begin_line {f : Addr} {fd : FuncData} (F : Fun K "begin_line" "begin_line" s_begin_line f fd) : FnOk P w K mg base CX0 1 f fd ["last", "line"] sp_begin_line := by
  refine F.ok sc_begin_line (fun vs H Q E h => ?_) (fun cdv A outer s H vs Q E hr h => ?_)
  · obtain ⟨a, l, x, y, r, rfl, _⟩ := h
    rfl
  · obtain ⟨a, l, x, y, r, rfl, hA, q⟩ := h
    refine ⟨_, (pss_cons (ps_asg (pv 1) (pg_sub (pv 0) pe_int set_list))
      (pss_one (ps_asg pe_int (pg_sub (pv 0) pe_int set_list)))), ?_⟩
    refine ⟨_, rfl, _, rfl, a, _, _, 0, rfl, rfl, hA, ixN_nat (j := 0) (by simp), ?_⟩
    refine ⟨_, rfl, a, _, _, 1, rfl, rfl, upd_same, ixN_nat (j := 1) (by simp), ?_⟩
    rw [upd_upd]
    exact q
end
end Wq

set_option Elab.async false
set_option maxRecDepth 100000
set_option maxHeartbeats 1000000
set_option linter.all false
namespace Wq
open PySem PySem.Spec PyProof.Rows L2
section
variable {P : Program} {w : World} {K : PySem.W.Frag} {mg : Str → Option Value} {base : Heap} {aS : Addr}
/-! ### remember -/
theorem set_next {z L : List Int} {i : Nat} (h : i < z.length) (hL : i < L.length) : ((z.take i ++ L.drop i).map V.int).set i (V.int (z[i]'h)) = (z.take (i + 1) ++ L.drop (i + 1)).map V.int := by
  have e1 : L.drop i = L[i]'hL :: L.drop (i + 1) := List.drop_eq_getElem_cons hL
  have e2 : (z.take i).length = i := by
    rw [List.length_take]
    omega
  rw [e1, List.take_add_one, List.getElem?_eq_getElem h, List.map_append, List.map_cons, List.set_append_right _ _ (by rw [List.length_map, e2]; exact Nat.le_refl _), List.length_map, e2, Nat.sub_self]
  show (z.take i).map V.int ++ V.int (z[i]'h) :: (L.drop (i + 1)).map V.int = ((z.take i ++ [z[i]'h]) ++ L.drop (i + 1)).map V.int
  rw [List.map_append, List.map_append, List.append_assoc]
  rfl
abbrev s_remember : Stmt := top 24
theorem sc_remember : FnScope ["last", "segment", "place"] ["last", "segment"] (defScope s_remember) := ⟨rfl, rfl, rfl, by decide +kernel, rfl, by decide +kernel, by decide +kernel⟩
def sp_remember (K : PySem.W.Frag) : Sp := fun vs H Q _ => ∃ (a b : Addr) (L z : List Int), vs = [.ref a, .ref b] ∧ H a = some (.lst (L.map V.int)) ∧ SqT K H b (z.map V.int) ∧ z.length ≤ L.length ∧ L.length ≤ 1000 ∧
  (∀ o, SqT K (upd H a (.lst o)) b (z.map V.int)) ∧ Q .non (upd H a (.lst ((z ++ L.drop z.length).map V.int)))
theorem ok_remember {f : Addr} {fd : FuncData} (F : Fun K "remember" "remember" s_remember f fd) (T : Txt K mg aS) : FnOk P w K mg base CX0 1 f fd ["last", "segment"] (sp_remember K) := by
  refine F.ok sc_remember (fun vs H Q E h => ?_) (fun cdv A outer s H vs Q E hr h => ?_)
  · obtain ⟨a, b, L, z, rfl, _⟩ := h
    rfl
  · obtain ⟨a, b, L, z, rfl, hA, hB, hl, hL, hK, q⟩ := h
    refine ⟨_, (pss_one (ps_for PassesOwn.never rfl (pi_range1 (by rfl) T.range (pa_cons (pe_callB call_len_seq (by rfl) T.len PySem.boot_len (pa_cons (pv 1) pa_nil)) pa_nil)) (pg_name (i := 2) sc_remember.nd rfl (Or.inl rfl)) (pss_one (ps_asg (pe_ix ix_tup (pv 1) (pv 2) (fun _ _ => rfl)) (pg_sub (pv 0) (pv 2) set_list))))), ?_⟩
    refine ⟨_, rfl, b, _, rfl, .inr hB, _, rfl, by rw [List.length_map]; omega, by rw [List.length_map]; omega, for_range (lo := 0) (n := ((z.map V.int).length : Int).toNat) (fun i σ H' => ∃ v : Option V, σ = [some (.ref a), some (.ref b), v] ∧ H' = upd H a (.lst ((z.take i ++ L.drop i).map V.int))) ⟨none, rfl, ?_⟩ ?_ ?_⟩
    · show H = upd H a (.lst (L.map V.int))
      funext c
      by_cases e : c = a
      · subst e
        rw [upd_same, hA]
      · rw [upd_ne e]
    · rintro i σ H' hi ⟨v, rfl, rfl⟩
      have hi' : i < z.length := by
        rw [List.length_map] at hi
        exact hi
      refine ⟨_, rfl, _, rfl, b, _, _, _, rfl, rfl, hK _, atN (j := i) (by omega) (by rw [List.getElem?_map, List.getElem?_eq_getElem hi']; rfl), ?_⟩
      refine ⟨_, rfl, _, rfl, a, _, _, i, rfl, rfl, upd_same, ?_, ?_⟩
      · rw [show (0 : Int) + (i : Int) = (i : Int) by omega]
        refine ixN_nat ?_
        rw [List.length_map, List.length_append, List.length_take, List.length_drop]
        omega
      · refine ⟨some _, rfl, ?_⟩
        rw [upd_upd, set_next hi' (by omega)]
    · rintro σ H' ⟨v, rfl, rfl⟩
      have e : ((z.map V.int).length : Int).toNat = z.length := by simp
      rw [e, List.take_length]
      exact q
end
end Wq

set_option Elab.async false
set_option maxRecDepth 100000
set_option maxHeartbeats 1000000
set_option linter.all false
namespace Wq
open PySem PySem.Spec PyProof.Rows L2
/-! ### piece_end -/
theorem byte_at {t : Wm.Bytes} {i : Nat} {c : UInt8} (h : t[i]? = some c) : ((bytesI t).map V.int)[i]? = some (.int (c.toNat : Int)) := by
  unfold bytesI
  rw [List.getElem?_map, List.getElem?_map, h]
  rfl
theorem bytes_len (t : Wm.Bytes) : ((bytesI t).map V.int).length = t.length := by
  rw [List.length_map, bytesI_len]
theorem c44 {c : UInt8} : (c.toNat : Int) = 44 ↔ c = 44 := ⟨fun h => UInt8.toNat_inj.mp (by show c.toNat = 44; omega), fun h => by subst h; rfl⟩
theorem c59 {c : UInt8} : (c.toNat : Int) = 59 ↔ c = 59 := ⟨fun h => UInt8.toNat_inj.mp (by show c.toNat = 59; omega), fun h => by subst h; rfl⟩
theorem sep44 {c : UInt8} (h : (c.toNat : Int) = 44) : notSep c = false := by
  rw [c44.mp h]
  rfl
theorem sep59 {c : UInt8} (h : (c.toNat : Int) = 59) : notSep c = false := by
  rw [c59.mp h]
  rfl
theorem nosep {c : UInt8} (h : (c.toNat : Int) ≠ 44) (h2 : (c.toNat : Int) ≠ 59) : notSep c = true := notSep_iff.mpr ⟨fun z => h (c44.mpr z), fun z => h2 (c59.mpr z)⟩
theorem at_some {t : Wm.Bytes} {e : Nat} (h : (e : Int) < (t.length : Int)) : ∃ c, t[e]? = some c ∧ e < t.length := by
  have h' : e < t.length := by omega
  exact ⟨_, List.getElem?_eq_getElem h', h'⟩
theorem at_none {t : Wm.Bytes} {e : Nat} (h : ¬ (e : Int) < (t.length : Int)) : t[e]? = none := List.getElem?_eq_none (by omega)
theorem stop_at {t : Wm.Bytes} {e : Nat} {c : UInt8} (h : t[e]? = some c) (hc : notSep c = false) : pcEnd t e = e := pcEnd_stop fun d hd => by
  rw [h] at hd
  rw [← Option.some.inj hd]
  exact hc
theorem stop_none {t : Wm.Bytes} {e : Nat} (h : t[e]? = none) : pcEnd t e = e := pcEnd_stop fun d hd => by
  rw [h] at hd
  cases hd
section
variable {P : Program} {w : World} {K : PySem.W.Frag} {mg : Str → Option Value} {base : Heap} {aS : Addr}
abbrev s_piece_end : Stmt := top 26
theorem sc_piece_end : FnScope ["text", "start", "end"] ["text", "start"] (defScope s_piece_end) := ⟨rfl, rfl, rfl, by decide +kernel, rfl, by decide +kernel, by decide +kernel⟩
def sp_piece_end (K : PySem.W.Frag) : Sp := fun vs H Q _ => ∃ (a : Addr) (t : Wm.Bytes) (i : Nat), vs = [.ref a, .int i] ∧ SqL K H a ((bytesI t).map V.int) ∧ Q (.int (pcEnd t i)) H
theorem ok_piece_end {f : Addr} {fd : FuncData} (F : Fun K "piece_end" "piece_end" s_piece_end f fd) (T : Txt K mg aS) : FnOk P w K mg base CX0 1 f fd ["text", "start"] (sp_piece_end K) := by
  refine F.ok sc_piece_end (fun vs H Q E h => ?_) (fun cdv A outer s H vs Q E hr h => ?_)
  · obtain ⟨a, t, i, rfl, _⟩ := h
    rfl
  · obtain ⟨a, t, i, rfl, hA, q⟩ := h
    refine ⟨_, (pss_cons (ps_set (i := 2) sc_piece_end.nd rfl (Or.inl rfl) (pv 1))
      (pss_cons (ps_while PassesOwn.never (PW.pt (pw_and (pt_cmpR op_lt (pv 2) (pe_callB call_len_seq (by rfl) T.len PySem.boot_len (pa_cons (pv 0) pa_nil)) (nomark _)) (pw_and (pt_cmpR op_ne (pe_ix ix_list (pv 0) (pv 2) (fun _ _ => rfl)) (pe_gI T.COMMA (by rfl)) (nomark _)) (pw_and1 (pt_cmpR op_ne (pe_ix ix_list (pv 0) (pv 2) (fun _ _ => rfl)) (pe_gI T.SEMICOLON (by rfl)) (nomark _)))))) (pss_one (ps_set (i := 2) sc_piece_end.nd rfl (Or.inl rfl) (pe_op op_add (pv 2) pe_int))))
      (pss_one (ps_ret (pv 2))))), ?_⟩
    refine ⟨_, rfl, fun m σ H' => ∃ e : Nat, σ = [some (.ref a), some (.int i), some (.int e)] ∧ H' = H ∧ m = t.length - e ∧ pcEnd t e = pcEnd t i, ⟨_, i, rfl, rfl, rfl, rfl⟩, ?_⟩
    rintro m σ H' ⟨e, rfl, rfl, rfl, he⟩
    refine ⟨_, rfl, _, rfl, a, _, rfl, .inl hA, _, _, rfl, rfl, _, rfl, ?_⟩
    rw [bytes_len]
    refine ifD (fun c1 => ?_) (fun c1 => iteF ?_)
    · obtain ⟨c, hc, hlt⟩ := at_some c1
      refine ⟨_, rfl, _, rfl, a, _, _, _, rfl, rfl, hA, atI_nat (byte_at hc), rfl, _, rfl, ifNI (fun c2 => ?_) (fun c2 => iteF ?_)⟩
      · refine ⟨_, rfl, _, rfl, a, _, _, _, rfl, rfl, hA, atI_nat (byte_at hc), rfl, _, rfl, ifNI (fun c3 => ?_) (fun c3 => ?_)⟩
        · refine ⟨fun σ' H'' => ∃ m', m' < t.length - e ∧ ∃ e : Nat, σ' = [some (.ref a), some (.int i), some (.int e)] ∧ H'' = H' ∧ m' = t.length - e ∧ pcEnd t e = pcEnd t i, fun _ _ h => h, ?_⟩
          refine ⟨_, rfl, _, _, rfl, rfl, ?_⟩
          exact ⟨t.length - (e + 1), Nat.sub_lt_sub_left hlt (Nat.lt_succ_self e), e + 1, rfl, rfl, rfl, (pcEnd_step hc (nosep c2 c3)).symm.trans he⟩
        · refine ⟨_, rfl, ?_⟩
          rw [← he, stop_at hc (sep59 c3)] at q
          exact q
      · refine ⟨_, rfl, ?_⟩
        rw [← he, stop_at hc (sep44 c2)] at q
        exact q
    · refine ⟨_, rfl, ?_⟩
      rw [← he, stop_none (at_none c1)] at q
      exact q
end
end Wq

set_option Elab.async false
set_option maxRecDepth 100000
set_option maxHeartbeats 1000000
set_option linter.all false
namespace Wq
open PySem PySem.Spec PyProof.Rows L2
/-! ### written_number -/
theorem byteOf_more (n : Nat) : byteOf ((n : Int) % 32 + 32) = ((Wm.digit (32 + n % 32)).toNat : Int) := by
  rw [← byteOf_digit (32 + n % 32) (by omega)]
  congr 1
  omega
theorem byteOf_last {n : Nat} (h : ¬ (32 : Int) ≤ (n : Int)) : byteOf (n : Int) = ((Wm.digit n).toNat : Int) := byteOf_digit n (by omega)
theorem bytes_snoc (b : Wm.Bytes) (c : UInt8) : (bytesI b).map V.int ++ [V.int (c.toNat : Int)] = (bytesI (b ++ [c])).map V.int := by
  rw [bytesI_app, List.map_append]
  rfl
theorem coded_pos {x : Int} (h : 0 ≤ x) : 2 * x = (coded x : Int) := by
  rw [coded_int, if_pos h]
theorem coded_neg {x : Int} (h : ¬ 0 ≤ x) : 1 - 2 * x = (coded x : Int) := by
  rw [coded_int, if_neg h]
theorem div_nat (n : Nat) : (n : Int) / 32 = ((n / 32 : Nat) : Int) := rfl
theorem ge_nat {n : Nat} (h : (32 : Int) ≤ (n : Int)) : 32 ≤ n ∧ n / 32 < n := by omega
theorem lt_nat {n : Nat} (h : ¬ (32 : Int) ≤ (n : Int)) : n < 32 := by omega
theorem Wr.room {x : Int} {n : Nat} {done : Wm.Bytes} (W : Wr x n done) : ((bytesI done).map V.int).length < sizeLine := by
  rw [List.length_map, bytesI_len]
  exact Nat.lt_of_le_of_lt W.len (by decide)
section
variable {P : Program} {w : World} {K : PySem.W.Frag} {mg : Str → Option Value} {base : Heap} {aS : Addr}
abbrev s_written_number : Stmt := top 17
theorem sc_written_number : FnScope ["number", "rest", "written"] ["number"] (defScope s_written_number) := ⟨rfl, rfl, rfl, by decide +kernel, rfl, by decide +kernel, by decide +kernel⟩
def sp_written_number : Sp := fun vs H Q _ => ∃ x : Int, vs = [.int x] ∧ coded x < 32 ^ 8 ∧ ∀ p, H p = none → Q (.ref p) (upd H p (.lst ((bytesI (Wm.digits x)).map V.int)))
theorem ok_written_number {f f1 : Addr} {fd fd1 : FuncData} (F : Fun K "written_number" "written_number" s_written_number f fd) (D_byte_of : Df P w K mg base 1 "byte_of" ["digit"] sp_byte_of f1 fd1) :
    FnOk P w K mg base CX0 2 f fd ["number"] sp_written_number := by
  refine F.ok sc_written_number (fun vs H Q E h => ?_) (fun cdv A outer s H vs Q E hr h => ?_)
  · obtain ⟨x, rfl, _⟩ := h
    rfl
  · obtain ⟨x, rfl, hx, q⟩ := h
    refine ⟨_, (pss_cons (ps_set (i := 1) sc_written_number.nd rfl (Or.inl rfl) (pe_ifExp (pt_cmpR op_ge (pv 0) pe_int (nomark _)) (pe_op op_mul pe_int (pv 0)) (pe_op op_sub pe_int (pe_op op_mul pe_int (pv 0)))))
      (pss_cons (ps_set (i := 2) sc_written_number.nd rfl (Or.inl rfl) (pe_lst pa_nil))
      (pss_cons (ps_while PassesOwn.never (pt_cmpR op_ge (pv 1) pe_int (nomark _)) (pss_cons (ps_expr (pe_bm PySem.F.plainAttrs_list PySem.F.slot_list_append PySem.F.type_list_append mt_append (pv 2) (pa_cons (pe_call D_byte_of.ok (hr.mono (by decide)) (by rfl) D_byte_of.g D_byte_of.kp D_byte_of.b .nil pass0 (pa_cons (pe_op op_add (pe_op op_mod (pv 1) pe_int) pe_int) pa_nil)) pa_nil)))
      (pss_one (ps_set (i := 1) sc_written_number.nd rfl (Or.inl rfl) (pe_op op_fdiv (pv 1) pe_int)))))
      (pss_cons (ps_expr (pe_bm PySem.F.plainAttrs_list PySem.F.slot_list_append PySem.F.type_list_append mt_append (pv 2) (pa_cons (pe_call D_byte_of.ok (hr.mono (by decide)) (by rfl) D_byte_of.g D_byte_of.kp D_byte_of.b .nil pass0 (pa_cons (pv 1) pa_nil)) pa_nil)))
      (pss_one (ps_ret (pv 2))))))), ?_⟩
    refine ⟨_, rfl, _, _, rfl, rfl, _, rfl, ifD (fun c => ⟨_, rfl, _, _, rfl, rfl, .inl ⟨by decide, by decide⟩, Nat.zero_le _, fun p hp => ?_⟩) (fun c => ⟨_, rfl, _, _, rfl, rfl, .inl ⟨by decide, by decide⟩, _, _, rfl, rfl, Nat.zero_le _, fun p hp => ?_⟩)⟩
    all_goals
      refine ⟨fun m σ H' => ∃ (r : Int) (n : Nat) (done : Wm.Bytes), σ = [some (.int x), some (.int r), some (.ref p)] ∧ H' = upd H p (.lst ((bytesI done).map V.int)) ∧ r = (n : Int) ∧ m = n ∧ Wr x n done, ⟨_, _, coded x, [], rfl, rfl, (by first | exact coded_pos c | exact coded_neg c), rfl, Wr.start hx⟩, ?_⟩
      rintro m σ H' ⟨r, n, done, rfl, rfl, rfl, rfl, W⟩
      refine ⟨_, rfl, _, _, rfl, rfl, _, rfl, ifD (fun c => ?_) (fun c => ?_)⟩
      · refine ⟨fun σ' H'' => ∃ m', m' < m ∧ ∃ (r : Int) (n : Nat) (done : Wm.Bytes), σ' = [some (.int x), some (.int r), some (.ref p)] ∧ H'' = upd H p (.lst ((bytesI done).map V.int)) ∧ r = (n : Int) ∧ m' = n ∧ Wr x n done, fun _ _ h => h, ?_⟩
        refine ⟨_, rfl, .inl ⟨rfl, _, SqL.of upd_same⟩, _, rfl, _, _, rfl, rfl, (by show (0 : Int) < 32; decide), _, _, rfl, rfl, _, rfl, p, _, _, rfl, rfl, upd_same, W.room, ?_⟩
        refine ⟨_, rfl, _, _, rfl, rfl, ⟨by decide, by decide⟩, ?_⟩
        refine ⟨m / 32, (ge_nat c).2, _, m / 32, _, rfl, ?_, rfl, rfl, W.turn (ge_nat c).1⟩
        rw [upd_upd, byteOf_more, bytes_snoc]
      · refine ⟨_, rfl, .inl ⟨rfl, _, SqL.of upd_same⟩, _, rfl, _, rfl, p, _, _, rfl, rfl, upd_same, W.room, _, rfl, ?_⟩
        rw [upd_upd, byteOf_last c, bytes_snoc, ← W.done (lt_nat c)]
        exact q p hp
end
end Wq

set_option Elab.async false
set_option maxRecDepth 100000
set_option maxHeartbeats 1000000
set_option linter.all false
namespace Wq
open PySem PySem.Spec PyProof.Rows L2
/-! ### read_numbers -/
/-- between two turns: what is read so far, and the rest from the value and weight in hand, are all -/
structure Rn (b : Wm.Bytes) (i : Nat) (ns : List Int) (v wt : Nat) : Prop where
  eq : goN 0 1 b = (goN v wt (b.drop i)).map fun l => ns ++ l
  len : ns.length ≤ i
  one : 1 ≤ wt
theorem Rn.start (b : Wm.Bytes) : Rn b 0 [] 0 1 := ⟨by
  show goN 0 1 b = (goN 0 1 b).map fun l => l
  cases goN 0 1 b <;> rfl, Nat.le_refl _, Nat.le_refl _⟩
theorem drop_at {b : Wm.Bytes} {i : Nat} {c : UInt8} (h : b[i]? = some c) : b.drop i = c :: b.drop (i + 1) := by
  have hi : i < b.length := by
    rcases Nat.lt_or_ge i b.length with g | g
    · exact g
    · rw [List.getElem?_eq_none g] at h
      cases h
  rw [List.drop_eq_getElem_cons hi]
  rw [List.getElem?_eq_getElem hi] at h
  rw [Option.some.inj h]
theorem dig_neg {c : UInt8} (h : digitOf (c.toNat : Int) < 0) : Wm.value c = none := by
  rw [digitOf_value] at h
  cases e : Wm.value c with
  | none => rfl
  | some d =>
    rw [e] at h
    have h' : (d : Int) < 0 := h
    omega
theorem dig_pos {c : UInt8} (h : ¬ digitOf (c.toNat : Int) < 0) : ∃ d : Nat, Wm.value c = some d ∧ digitOf (c.toNat : Int) = (d : Int) := by
  rw [digitOf_value] at h ⊢
  cases e : Wm.value c with
  | none =>
    rw [e] at h
    exact absurd (by decide : (-1 : Int) < 0) h
  | some d => exact ⟨d, rfl, rfl⟩
theorem Rn.bad {b : Wm.Bytes} {i : Nat} {ns : List Int} {v wt : Nat} {c : UInt8} (R : Rn b i ns v wt) (h : b[i]? = some c) (hv : Wm.value c = none) : goN 0 1 b = none := by
  rw [R.eq, drop_at h, goN_cons, hv]
  rfl
theorem Rn.more {b : Wm.Bytes} {i : Nat} {ns : List Int} {v wt d : Nat} {c : UInt8} (R : Rn b i ns v wt) (h : b[i]? = some c) (hv : Wm.value c = some d) (hd : (32 : Int) ≤ d) : Rn b (i + 1) ns (v + d % 32 * wt) (wt * 32) := by
  refine ⟨?_, Nat.le_succ_of_le R.len, Nat.le_trans R.one (Nat.le_mul_of_pos_right _ (by decide))⟩
  rw [R.eq, drop_at h, goN_cons, hv]
  dsimp only
  rw [if_pos (by omega)]
theorem Rn.none {b : Wm.Bytes} {i : Nat} {ns : List Int} {v wt d : Nat} {c : UInt8} (R : Rn b i ns v wt) (h : b[i]? = some c) (hv : Wm.value c = some d) (hd : ¬ (32 : Int) ≤ d) (hb : (d = 0 ∧ 1 < wt) ∨ v + d % 32 * wt = 1) : goN 0 1 b = Option.none := by
  rw [R.eq, drop_at h, goN_cons, hv]
  dsimp only
  rw [if_neg (by omega), if_pos hb]
  rfl
theorem Rn.next {b : Wm.Bytes} {i : Nat} {ns : List Int} {v wt d : Nat} {c : UInt8} (R : Rn b i ns v wt) (h : b[i]? = some c) (hv : Wm.value c = some d) (hd : ¬ (32 : Int) ≤ d) (hb : ¬ ((d = 0 ∧ 1 < wt) ∨ v + d % 32 * wt = 1)) : Rn b (i + 1) (ns ++ [signed (v + d % 32 * wt)]) 0 1 := by
  refine ⟨?_, ?_, Nat.le_refl _⟩
  · rw [R.eq, drop_at h, goN_cons, hv]
    dsimp only
    rw [if_neg (by omega), if_neg hb]
    cases goN 0 1 (b.drop (i + 1)) with
    | none => rfl
    | some l =>
      show some (ns ++ signed (v + d % 32 * wt) :: l) = some (ns ++ [signed (v + d % 32 * wt)] ++ l)
      rw [List.append_assoc]
      rfl
  · rw [List.length_append]
    exact Nat.succ_le_succ R.len
theorem Rn.end_none {b : Wm.Bytes} {ns : List Int} {v wt : Nat} (R : Rn b b.length ns v wt) (h : (1 : Int) < wt) : goN 0 1 b = Option.none := by
  rw [R.eq, List.drop_length, goN_nil, if_pos (by omega)]
  rfl
theorem Rn.end_some {b : Wm.Bytes} {ns : List Int} {v wt : Nat} (R : Rn b b.length ns v wt) (h : ¬ (1 : Int) < wt) : goN 0 1 b = some ns := by
  rw [R.eq, List.drop_length, goN_nil, if_neg (by omega)]
  show some (ns ++ []) = some ns
  rw [List.append_nil]
theorem cast_val (v d wt : Nat) {g : Int} (e : g = (d : Int)) : (v : Int) + g % 32 * (wt : Int) = ((v + d % 32 * wt : Nat) : Int) := by
  subst e
  rw [Int.natCast_add, Int.natCast_mul, Int.natCast_emod]
  rfl
theorem cast_wt (wt : Nat) : (wt : Int) * 32 = ((wt * 32 : Nat) : Int) := by
  rw [Int.natCast_mul]
  rfl
theorem mod_small (g : Int) : -(2 ^ 64) < g % 32 ∧ g % 32 < 2 ^ 64 := by omega
theorem item_byte {b : Wm.Bytes} {i : Nat} {y : V} (h : ((bytesI b).map V.int)[i]? = some y) : ∃ c : UInt8, b[i]? = some c ∧ y = .int (c.toNat : Int) := by
  unfold bytesI at h
  rw [List.getElem?_map, List.getElem?_map] at h
  cases e : b[i]? with
  | none =>
    rw [e] at h
    cases h
  | some c =>
    rw [e] at h
    exact ⟨c, rfl, (Option.some.inj h).symm⟩
theorem ints_snoc (ns : List Int) (x : Int) : ns.map V.int ++ [V.int x] = (ns ++ [x]).map V.int := by
  rw [List.map_append]
  rfl
theorem Rn.room {b : Wm.Bytes} {i : Nat} {ns : List Int} {v wt : Nat} {c : UInt8} (R : Rn b i ns v wt) (h : b[i]? = some c) (hb : b.length ≤ 6000) : (ns.map V.int).length < sizeLine := by
  have hi : i < b.length := by
    rcases Nat.lt_or_ge i b.length with g | g
    · exact g
    · rw [List.getElem?_eq_none g] at h
      cases h
  have := R.len
  rw [List.length_map]
  exact Nat.lt_of_lt_of_le (by omega : ns.length < 6000) (by decide)
theorem dig_32 {g : Int} {d : Nat} (e : g = (d : Int)) (h : (32 : Int) ≤ g) : (32 : Int) ≤ (d : Int) := e ▸ h
theorem dig_n32 {g : Int} {d : Nat} (e : g = (d : Int)) (h : ¬ (32 : Int) ≤ g) : ¬ (32 : Int) ≤ (d : Int) := e ▸ h
theorem or_bad {g : Int} {d v wt : Nat} (e : g = (d : Int)) (h : (g = 0 ∧ (1 : Int) < wt) ∨ (v : Int) + g % 32 * (wt : Int) = 1) : (d = 0 ∧ 1 < wt) ∨ v + d % 32 * wt = 1 := by
  rw [cast_val v d wt e] at h
  rcases h with h | h
  · left
    omega
  · right
    omega
theorem or_good {g : Int} {d v wt : Nat} (e : g = (d : Int)) (h : ¬ ((g = 0 ∧ (1 : Int) < wt) ∨ (v : Int) + g % 32 * (wt : Int) = 1)) : ¬ ((d = 0 ∧ 1 < wt) ∨ v + d % 32 * wt = 1) := by
  intro z
  apply h
  rw [cast_val v d wt e]
  rcases z with z | z
  · left
    omega
  · right
    omega
section
variable {P : Program} {w : World} {K : PySem.W.Frag} {mg : Str → Option Value} {base : Heap} {aS : Addr}
abbrev s_read_numbers : Stmt := top 19
theorem sc_read_numbers : FnScope ["written", "numbers", "value", "weight", "byte", "digit"] ["written"] (defScope s_read_numbers) := ⟨rfl, rfl, rfl, by decide +kernel, rfl, by decide +kernel, by decide +kernel⟩
def sp_read_numbers (K : PySem.W.Frag) : Sp := fun vs H Q _ => ∃ (a : Addr) (b : Wm.Bytes), vs = [.ref a] ∧ SqL K H a ((bytesI b).map V.int) ∧ b.length ≤ 6000 ∧
  (goN 0 1 b = none → ∀ H', Same H H' → Q .non H') ∧ (∀ ns, goN 0 1 b = some ns → ∀ H' p, Same H H' → H p = none → H' p = some (.lst (ns.map V.int)) → Q (.ref p) H')
theorem ok_read_numbers {f f1 f2 : Addr} {fd fd1 fd2 : FuncData} (F : Fun K "read_numbers" "read_numbers" s_read_numbers f fd) (D_digit_of : Df P w K mg base 1 "digit_of" ["byte"] sp_digit_of f1 fd1) (D_signed : Df P w K mg base 1 "signed" ["value"] sp_signed f2 fd2) :
    FnOk P w K mg base CX0 2 f fd ["written"] (sp_read_numbers K) := by
  refine F.ok sc_read_numbers (fun vs H Q E h => ?_) (fun cdv A outer s H vs Q E hr h => ?_)
  · obtain ⟨a, b, rfl, _⟩ := h
    rfl
  · obtain ⟨a, b, rfl, hA, hb, qN, qS⟩ := h
    refine ⟨_, (pss_cons (ps_set (i := 1) sc_read_numbers.nd rfl (Or.inl rfl) (pe_lst pa_nil))
      (pss_cons (ps_set (i := 2) sc_read_numbers.nd rfl (Or.inl rfl) pe_int)
      (pss_cons (ps_set (i := 3) sc_read_numbers.nd rfl (Or.inl rfl) pe_int)
      (pss_cons (ps_for PassesOwn.never rfl (pi_list (pv 0)) (pg_name (i := 4) sc_read_numbers.nd rfl (Or.inl rfl)) (pss_cons (ps_set (i := 5) sc_read_numbers.nd rfl (Or.inl rfl) (pe_call D_digit_of.ok (hr.mono (by decide)) (by rfl) D_digit_of.g D_digit_of.kp D_digit_of.b .nil pass0 (pa_cons (pv 4) pa_nil)))
      (pss_cons (ps_if (pt_cmpR op_lt (pv 5) pe_int (nomark _)) (pss_one (ps_ret pe_non)) pss_nil)
      (pss_cons (ps_set (i := 2) sc_read_numbers.nd rfl (Or.inl rfl) (pe_op op_add (pv 2) (pe_op op_mul (pe_op op_mod (pv 5) pe_int) (pv 3))))
      (pss_cons (ps_if (pt_cmpR op_ge (pv 5) pe_int (nomark _)) (pss_cons (ps_set (i := 3) sc_read_numbers.nd rfl (Or.inl rfl) (pe_op op_mul (pv 3) pe_int))
      (pss_one ps_continue)) pss_nil)
      (pss_cons (ps_if (PW.pt (pw_or (PW.pt (pw_and (pt_cmpR op_eq (pv 5) pe_int (nomark _)) (pw_and1 (pt_cmpR op_gt (pv 3) pe_int (nomark _))))) (pw_or1 (pt_cmpR op_eq (pv 2) pe_int (nomark _))))) (pss_one (ps_ret pe_non)) pss_nil)
      (pss_cons (ps_expr (pe_bm PySem.F.plainAttrs_list PySem.F.slot_list_append PySem.F.type_list_append mt_append (pv 1) (pa_cons (pe_call D_signed.ok (hr.mono (by decide)) (by rfl) D_signed.g D_signed.kp D_signed.b .nil pass0 (pa_cons (pv 2) pa_nil)) pa_nil)))
      (pss_cons (ps_set (i := 2) sc_read_numbers.nd rfl (Or.inl rfl) pe_int)
      (pss_one (ps_set (i := 3) sc_read_numbers.nd rfl (Or.inl rfl) pe_int))))))))))
      (pss_cons (ps_if (pt_cmpR op_gt (pv 3) pe_int (nomark _)) (pss_one (ps_ret pe_non)) pss_nil)
      (pss_one (ps_ret (pv 1)))))))), ?_⟩
    refine ⟨Nat.zero_le _, fun p hp => ?_⟩
    have s1 : ∀ l, Same H (upd H p (.lst l)) := fun l => same_new hp
    refine ⟨_, rfl, a, rfl, ⟨_, (s1 _).seq hA⟩, for_list (K := K) (a := a) (xs := (bytesI b).map V.int)
      (fun i σ H' => ∃ (ns : List Int) (v wt : Nat) (r2 r3 : Int) (x4 x5 : Option V), σ = [some (.ref a), some (.ref p), some (.int r2), some (.int r3), x4, x5] ∧ r2 = (v : Int) ∧ r3 = (wt : Int) ∧ H' = upd H p (.lst (ns.map V.int)) ∧ Rn b i ns v wt)
      ⟨[], 0, 1, 0, 1, none, none, rfl, rfl, rfl, rfl, Rn.start b⟩ (fun i σ H' _ ⟨_, _, _, _, _, _, _, _, _, _, e, _⟩ => by rw [e]; exact (s1 _).seq hA) ?_ ?_⟩
    · rintro i y σ H' hi ⟨ns, v, wt, r2, r3, x4, x5, rfl, rfl, rfl, rfl, R⟩
      obtain ⟨c, hc, rfl⟩ := item_byte hi
      refine ⟨_, rfl, _, rfl, ?_⟩
      refine ⟨_, rfl, _, _, rfl, rfl, _, rfl, ifD (fun c1 => ?_) (fun c1 => ?_)⟩
      · exact qN (R.bad hc (dig_neg c1)) _ (s1 _)
      obtain ⟨d, hv, ed⟩ := dig_pos c1
      refine ⟨_, rfl, _, rfl, _, _, rfl, rfl, (by show (0 : Int) < 32; decide), _, rfl, _, _, rfl, rfl, .inl (mod_small _), _, _, rfl, rfl, ?_⟩
      refine ⟨_, rfl, _, _, rfl, rfl, _, rfl, ifD (fun c2 => ?_) (fun c2 => ?_)⟩
      · refine ⟨_, rfl, _, _, rfl, rfl, .inr ⟨by decide, by decide⟩, ?_⟩
        exact ⟨ns, _, _, _, _, _, _, rfl, cast_val v d wt ed, cast_wt wt, rfl, R.more hc hv (dig_32 ed c2)⟩
      refine ⟨_, rfl, rfl, _, rfl, ifI (fun a1 => ?_) (fun a1 => iteF ?_)⟩
      · refine ⟨_, rfl, _, _, rfl, rfl, _, rfl, ifD (fun a2 => iteT ?_) (fun a2 => ?_)⟩
        · exact qN (R.none hc hv (dig_n32 ed c2) (or_bad ed (.inl ⟨a1, a2⟩))) _ (s1 _)
        · refine ⟨_, rfl, rfl, _, rfl, ifI (fun a3 => ?_) (fun a3 => ?_)⟩
          · exact qN (R.none hc hv (dig_n32 ed c2) (or_bad ed (.inr a3))) _ (s1 _)
          · refine ⟨_, rfl, .inl ⟨rfl, _, SqL.of upd_same⟩, _, rfl, v + d % 32 * wt, congrArg (fun z => [V.int z]) (cast_val v d wt ed), p, _, _, rfl, rfl, upd_same, R.room hc hb, ?_⟩
            refine ⟨_, 0, 1, 0, 1, _, _, rfl, rfl, rfl, ?_, R.next hc hv (dig_n32 ed c2) (or_good ed (fun z => z.elim (fun y => a2 y.2) a3))⟩
            rw [upd_upd, ints_snoc]
      · refine ⟨_, rfl, rfl, _, rfl, ifI (fun a3 => ?_) (fun a3 => ?_)⟩
        · exact qN (R.none hc hv (dig_n32 ed c2) (or_bad ed (.inr a3))) _ (s1 _)
        · refine ⟨_, rfl, .inl ⟨rfl, _, SqL.of upd_same⟩, _, rfl, v + d % 32 * wt, congrArg (fun z => [V.int z]) (cast_val v d wt ed), p, _, _, rfl, rfl, upd_same, R.room hc hb, ?_⟩
          refine ⟨_, 0, 1, 0, 1, _, _, rfl, rfl, rfl, ?_, R.next hc hv (dig_n32 ed c2) (or_good ed (fun z => z.elim (fun y => a1 y.1) a3))⟩
          rw [upd_upd, ints_snoc]
    · rintro σ H' ⟨ns, v, wt, r2, r3, x4, x5, rfl, rfl, rfl, rfl, R⟩
      rw [bytes_len] at R
      refine ⟨_, rfl, _, _, rfl, rfl, _, rfl, ifD (fun c1 => ?_) (fun c1 => ?_)⟩
      · exact qN (R.end_none c1) _ (s1 _)
      · exact ⟨_, rfl, qS ns (R.end_some c1) _ p (s1 _) hp upd_same⟩
end
end Wq

set_option Elab.async false
set_option maxRecDepth 100000
set_option maxHeartbeats 1000000
set_option linter.all false
namespace Wq
open PySem PySem.Spec PyProof.Rows L2
/-! ### read_segment -/
theorem told_len {L ns : List Int} {i : Nat} (hi : i ≤ ns.length) (hL : i < L.length) : (toldBy L (ns.take i)).length = i + 1 := by
  unfold toldBy
  rw [List.length_cons, List.length_zipWith, List.length_drop, List.length_take]
  omega
theorem zip_snoc : ∀ (A B : List Int) (i : Nat) (a b : Int), A[i]? = some a → B[i]? = some b → List.zipWith (· + ·) A (B.take i) ++ [a + b] = List.zipWith (· + ·) A (B.take (i + 1))
  | [], _, i, a, b, h, _ => by simp at h
  | _ :: _, [], i, a, b, _, h => by simp at h
  | x :: A, y :: B, 0, a, b, h, h2 => by
    have e1 : x = a := Option.some.inj h
    have e2 : y = b := Option.some.inj h2
    subst e1 e2
    simp
  | x :: A, y :: B, i + 1, a, b, h, h2 => by
    have ih := zip_snoc A B i a b h h2
    show (x + y) :: (List.zipWith (· + ·) A (B.take i) ++ [a + b]) = (x + y) :: List.zipWith (· + ·) A (B.take (i + 1))
    rw [ih]
theorem told_snoc {L ns : List Int} {i : Nat} {a b : Int} (hL : L[i + 1]? = some a) (hn : ns[i]? = some b) : toldBy L (ns.take i) ++ [a + b] = toldBy L (ns.take (i + 1)) := by
  have := zip_snoc (L.drop 1) ns i a b (by rw [List.getElem?_drop, Nat.add_comm 1 i]; exact hL) hn
  show L.headD 0 :: (List.zipWith (· + ·) (L.drop 1) (ns.take i) ++ [a + b]) = _
  rw [this]
  rfl
theorem item_int {ns : List Int} {i : Nat} {y : V} (h : (ns.map V.int)[i]? = some y) : ∃ x : Int, ns[i]? = some x ∧ y = .int x := by
  rw [List.getElem?_map] at h
  cases e : ns[i]? with
  | none =>
    rw [e] at h
    cases h
  | some c =>
    rw [e] at h
    exact ⟨c, rfl, (Option.some.inj h).symm⟩
theorem int_at {L : List Int} {i : Nat} {a : Int} (h : L[i]? = some a) : (L.map V.int)[i]? = some (.int a) := by
  rw [List.getElem?_map, h]
  rfl
theorem ints_len (L : List Int) : (L.map V.int).length = L.length := List.length_map ..
theorem lt_of_at {α : Type} {l : List α} {i : Nat} {x : α} (h : l[i]? = some x) : i < l.length := by
  rcases Nat.lt_or_ge i l.length with g | g
  · exact g
  · rw [List.getElem?_eq_none g] at h
    cases h
theorem six_at {L : List Int} (hL : L.length = 6) {i : Nat} (h : i < 6) : ∃ a, L[i]? = some a := ⟨_, List.getElem?_eq_getElem (by omega)⟩
theorem rd_long {L ns : List Int} (hL : L.length = 6) (h : ((L.map V.int).length : Int) ≤ ((ns.map V.int).length : Int)) : rdSeg L ns = none := by
  rw [ints_len, ints_len] at h
  unfold rdSeg
  rw [if_pos (by omega)]
theorem rd_short {L ns : List Int} (hL : L.length = 6) (h : ¬ ((L.map V.int).length : Int) ≤ ((ns.map V.int).length : Int)) : ns.length < 6 ∧ rdSeg L ns = if isSeg (toldBy L ns) = true then some (toldBy L ns) else none := by
  rw [ints_len, ints_len] at h
  refine ⟨by omega, ?_⟩
  unfold rdSeg
  rw [if_neg (by omega)]
theorem told_start {L ns : List Int} (hL : L.length = 6) {a : Int} (h : L[0]? = some a) : toldBy L (ns.take 0) = [a] := by
  cases L with
  | nil => cases h
  | cons x r =>
    have e : x = a := Option.some.inj h
    subst e
    unfold toldBy
    simp
theorem small6 {l : List V} (h : l.length ≤ 6) : l.length < sizeLine := Nat.lt_of_le_of_lt h (by decide)
section
variable {P : Program} {w : World} {K : PySem.W.Frag} {mg : Str → Option Value} {base : Heap} {aS : Addr}
abbrev s_read_segment : Stmt := top 27
theorem sc_read_segment : FnScope ["piece", "last", "steps", "numbers", "step"] ["piece", "last"] (defScope s_read_segment) := ⟨rfl, rfl, rfl, by decide +kernel, rfl, by decide +kernel, by decide +kernel⟩
def sp_read_segment (K : PySem.W.Frag) : Sp := fun vs H Q _ => ∃ (a l : Addr) (b : Wm.Bytes) (L : List Int), vs = [.ref a, .ref l] ∧ SqL K H a ((bytesI b).map V.int) ∧ b.length ≤ 6000 ∧ SqL K H l (L.map V.int) ∧ L.length = 6 ∧
  ((goN 0 1 b).bind (rdSeg L) = none → ∀ H', Same H H' → Q .non H') ∧ (∀ z, (goN 0 1 b).bind (rdSeg L) = some z → ∀ H' p, Same H H' → H p = none → H' p = some (.tup (z.map V.int)) → Q (.ref p) H')
theorem ok_read_segment {f f1 f2 : Addr} {fd fd1 fd2 : FuncData} (F : Fun K "read_segment" "read_segment" s_read_segment f fd) (T : Txt K mg aS) (D_read_numbers : Df P w K mg base 2 "read_numbers" ["written"] (sp_read_numbers K) f1 fd1) (D_is_segment : Df P w K mg base 1 "is_segment" ["numbers"] (sp_is_segment K) f2 fd2) :
    FnOk P w K mg base CX0 3 f fd ["piece", "last"] (sp_read_segment K) := by
  refine F.ok sc_read_segment (fun vs H Q E h => ?_) (fun cdv A outer s H vs Q E hr h => ?_)
  · obtain ⟨a, l, b, L, rfl, _⟩ := h
    rfl
  · obtain ⟨a, l, b, L, rfl, hA, hb, hL, h6, qN, qS⟩ := h
    refine ⟨_, (pss_cons (ps_set (i := 2) sc_read_segment.nd rfl (Or.inl rfl) (pe_call D_read_numbers.ok (hr.mono (by decide)) (by rfl) D_read_numbers.g D_read_numbers.kp D_read_numbers.b .nil pass0 (pa_cons (pv 0) pa_nil)))
      (pss_cons (ps_if (PW.pt (pw_or (pt_cmpR op_isN (pv 2) pe_non (nomark _)) (pw_or1 (pt_cmpR op_ge (pe_callB call_len_seq (by rfl) T.len PySem.boot_len (pa_cons (pv 2) pa_nil)) (pe_callB call_len_seq (by rfl) T.len PySem.boot_len (pa_cons (pv 1) pa_nil)) (nomark _))))) (pss_one (ps_ret pe_non)) pss_nil)
      (pss_cons (ps_set (i := 3) sc_read_segment.nd rfl (Or.inl rfl) (pe_lst (pa_cons (pe_ix ix_list (pv 1) pe_int (fun _ _ => rfl)) pa_nil)))
      (pss_cons (ps_for PassesOwn.never rfl (pi_list (pv 2)) (pg_name (i := 4) sc_read_segment.nd rfl (Or.inl rfl)) (pss_one (ps_expr (pe_bm PySem.F.plainAttrs_list PySem.F.slot_list_append PySem.F.type_list_append mt_append (pv 3) (pa_cons (pe_op op_add (pe_ix ix_list (pv 1) (pe_callB call_len_seq (by rfl) T.len PySem.boot_len (pa_cons (pv 3) pa_nil)) (fun _ _ => rfl)) (pv 4)) pa_nil)))))
      (pss_cons (ps_if (pt_not (pt_val (pe_call D_is_segment.ok (hr.mono (by decide)) (by rfl) D_is_segment.g D_is_segment.kp D_is_segment.b .nil pass0 (pa_cons (pv 3) pa_nil)))) (pss_one (ps_ret pe_non)) pss_nil)
      (pss_one (ps_ret (pe_callTy call_tuple_of (by rfl) T.tuple (by decide +kernel) (pa_cons (pv 3) pa_nil))))))))), ?_⟩
    refine ⟨_, rfl, a, b, rfl, hA, hb, fun e H1 s1 => ?_, fun ns e H1 p s1 np ep => ?_⟩
    · refine ⟨_, rfl, rfl, _, rfl, ifD (fun _ => iteT ?_) (fun c => absurd rfl c)⟩
      exact qN (by rw [e]; rfl) _ s1
    · refine ⟨_, rfl, rfl, _, rfl, ifD (fun c => nomatch c) (fun _ => ?_)⟩
      have hL1 : SqL K H1 l (L.map V.int) := s1.seq hL
      refine ⟨_, rfl, p, _, rfl, .inl (SqL.of ep), _, rfl, l, _, rfl, .inl hL1, _, _, rfl, rfl, _, rfl, ifD (fun c => ?_) (fun c => ?_)⟩
      · exact qN (by rw [e]; exact rd_long h6 c) _ s1
      obtain ⟨n6, er⟩ := rd_short h6 c
      obtain ⟨l0, hl0⟩ := six_at h6 (i := 0) (by decide)
      refine ⟨_, rfl, l, _, _, _, rfl, rfl, hL1, atI_nat (int_at hl0), (by show 1 ≤ sizeLine; decide), fun n nn => ?_⟩
      have s2 : ∀ x, Same H1 (upd H1 n (.lst x)) := fun x => same_new nn
      refine ⟨_, rfl, p, rfl, ⟨_, (s2 _).seq (SqL.of ep)⟩, for_list (K := K) (a := p) (xs := ns.map V.int)
        (fun i σ H' => ∃ x4, σ = [some (.ref a), some (.ref l), some (.ref p), some (.ref n), x4] ∧ H' = upd H1 n (.lst ((toldBy L (ns.take i)).map V.int)))
        ⟨none, rfl, by rw [told_start h6 hl0]; rfl⟩ (fun i σ H' _ ⟨_, _, e⟩ => by rw [e]; exact (s2 _).seq (SqL.of ep)) ?_ ?_⟩
      · rintro i y σ H' hi ⟨x4, rfl, rfl⟩
        obtain ⟨x, hx, rfl⟩ := item_int hi
        have hlt := lt_of_at hx
        obtain ⟨li, hli⟩ := six_at h6 (i := i + 1) (Nat.lt_of_le_of_lt hlt n6)
        have tl : ((toldBy L (ns.take i)).map V.int).length = i + 1 := (ints_len _).trans (told_len (Nat.le_of_lt hlt) (by rw [h6]; exact Nat.lt_trans hlt n6))
        refine ⟨_, rfl, .inl ⟨rfl, _, SqL.of upd_same⟩, _, rfl, _, rfl, n, _, rfl, .inl (SqL.of upd_same), l, _, _, V.int li, rfl, rfl, (s2 _).seq hL1, ?_, _, rfl, _, _, rfl, rfl, n, _, _, rfl, rfl, upd_same, small6 (by rw [tl]; exact Nat.le_of_lt (Nat.lt_of_le_of_lt hlt n6)), ?_⟩
        · rw [tl]
          exact atI_nat (int_at hli)
        · refine ⟨_, rfl, ?_⟩
          rw [upd_upd, ints_snoc, told_snoc hli hx]
      · rintro σ H' ⟨x4, rfl, rfl⟩
        rw [ints_len, List.take_length]
        refine ⟨_, rfl, n, _, rfl, .inl (SqL.of upd_same), _, rfl, ?_⟩
        cases hs : isSeg (toldBy L ns) with
        | false =>
          rw [hs] at er
          exact qN (by rw [e]; exact er) _ (s1.trans (s2 _))
        | true =>
          rw [hs] at er
          refine ⟨_, rfl, n, _, rfl, .inl ⟨SqL.of upd_same, fun t nt => ?_⟩⟩
          exact qS (toldBy L ns) (by rw [e]; exact er) _ t ((s1.trans (s2 _)).trans (same_new nt)) (s1.free ((s2 _).free nt)) upd_same
end
end Wq

set_option Elab.async false
set_option maxRecDepth 100000
set_option maxHeartbeats 2000000
set_option linter.all false
namespace Wq
open PySem PySem.Spec PyProof.Rows L2
/-! ### read_map -/
theorem cut_pc (t : Wm.Bytes) {i : Nat} (h : i ≤ t.length) : cutV ((bytesI t).map V.int) (some (i : Int)) (some (pcEnd t i : Int)) = (bytesI (pc t i)).map V.int := by
  unfold cutV
  have hl : ((bytesI t).map V.int).length = t.length := bytes_len t
  rw [show HT.sIx ((bytesI t).map V.int).length 0 (some (i : Int)) = min i ((bytesI t).map V.int).length from HT.sIx_nat _ 0 i,
    show HT.sIx ((bytesI t).map V.int).length ((bytesI t).map V.int).length (some (pcEnd t i : Int)) = min (pcEnd t i) ((bytesI t).map V.int).length from HT.sIx_nat _ _ _, hl]
  have h2 := pcEnd_le h
  rw [Nat.min_eq_left h, Nat.min_eq_left h2.2]
  have e : pcEnd t i - i = (pc t i).length := by
    unfold pcEnd
    omega
  rw [e]
  unfold bytesI
  rw [← List.map_drop, ← List.map_drop, ← List.map_take, ← List.map_take, pc_rest t i, List.take_left']
  rfl
theorem behind_how {K : PySem.W.Frag} {H : Hp} {rs : List Addr} {m : Wm.Map} (s : Wm.Seg) (S : SegsAt H rs m) :
    (rs.map V.ref = [] ∧ Wm.last m s = true) ∨ ∃ (c : Addr) (t : List Int) (xs : List V), rs.map V.ref = xs ++ [.ref c] ∧ SqT K H c (t.map V.int) ∧ 2 ≤ t.length ∧ Wm.last m s = behindI t (sn s) := by
  cases hm : m.getLast? with
  | none =>
    left
    rw [List.getLast?_eq_none_iff] at hm
    subst hm
    have : rs = [] := List.eq_nil_of_length_eq_zero S.len
    subst this
    exact ⟨rfl, rfl⟩
  | some u =>
    right
    obtain ⟨ys, rfl⟩ : ∃ ys, m = ys ++ [u] := List.getLast?_eq_some_iff.mp hm
    have hne : rs ≠ [] := by
      intro e
      subst e
      have := S.len
      rw [List.length_append] at this
      simp at this
    obtain ⟨xs, c, rfl⟩ : ∃ xs c, rs = xs ++ [c] := ⟨rs.dropLast, rs.getLast hne, (List.dropLast_concat_getLast hne).symm⟩
    have hlen : xs.length = ys.length := by
      have := S.len
      rw [List.length_append, List.length_append] at this
      simpa using this
    refine ⟨c, sn u, xs.map V.ref, (refs_snoc xs c).symm, SqT.of (S.at_ xs.length c u ?_ ?_), (sn_len u).1, ?_⟩
    · rw [List.getElem?_append_right (Nat.le_refl _), Nat.sub_self]
      rfl
    · rw [hlen, List.getElem?_append_right (Nat.le_refl _), Nat.sub_self]
      rfl
    · rw [behindI_sn]
      unfold Wm.last
      rw [hm]
/-- between two turns, in the heap -/
structure RmInv (H : Hp) (a p1 p2 : Addr) (t : Wm.Bytes) (m : Nat) (σ : L2.St) (H' : Hp) (st : Nat) (comma : Bool) (acc : Wm.Map) (L : List Int) (rs : List Addr) (x5 x6 x7 : Option V) : Prop where
  sg : σ = [some (.ref a), some (.ref p1), some (.ref p2), some (.int st), some (.bl comma), x5, x6, x7]
  me : m = t.length + 1 - st
  sm : Same H H'
  h1 : H' p1 = some (.lst (rs.map V.ref))
  S : SegsAt H' rs acc
  h2 : H' p2 = some (.lst (L.map V.int))
  R : Rd t st comma acc L
theorem int_le {a b : Nat} (h : (a : Int) ≤ (b : Int)) : a ≤ b := by omega
theorem int_nle {a b : Nat} (h : ¬ (a : Int) ≤ (b : Int)) : ¬ a ≤ b := by omega
theorem int_lt_ne {a b : Nat} (h : (a : Int) < (b : Int)) : b ≠ a := by omega
theorem int_nlt {a b : Nat} (h : ¬ (a : Int) < (b : Int)) (g : a ≤ b) : b = a := by omega
theorem falls {t st e : Nat} (h : st ≤ t) (g : st ≤ e) : t + 1 - (e + 1) < t + 1 - st := by omega
theorem head44 {t : Wm.Bytes} {e : Nat} {c : UInt8} (hc : t[e]? = some c) : (t.drop e).head? = some 44 ↔ c = 44 := by
  rw [List.head?_drop, hc]
  exact ⟨fun h => Option.some.inj h, fun h => congrArg some h⟩
theorem dec44 {c : UInt8} {t : Wm.Bytes} {e : Nat} (hc : t[e]? = some c) : decide (V.int (c.toNat : Int) = V.int 44) = true ↔ (t.drop e).head? = some 44 := by
  rw [head44 hc]
  exact ⟨fun h => c44.mp (V.int.inj (of_decide_eq_true h)), fun h => decide_eq_true (congrArg V.int (c44.mpr h))⟩
theorem none44 {t : Wm.Bytes} {e : Nat} (hc : t[e]? = none) : false = true ↔ (t.drop e).head? = some 44 := by
  rw [List.head?_drop, hc]
  exact ⟨(fun h => nomatch h), (fun h => nomatch h)⟩
theorem few_room {t : Wm.Bytes} {st : Nat} {comma : Bool} {acc : Wm.Map} {L : List Int} {H : Hp} {rs : List Addr} (R : Rd t st comma acc L) (S : SegsAt H rs acc) (h : st ≤ t.length) (ht : t.length ≤ 6000) : (rs.map V.ref).length < sizeLine := by
  rw [S.refs_len]
  exact Nat.lt_of_le_of_lt (Nat.le_trans R.few (Nat.le_trans h ht)) (by decide)
theorem pc_len {t : Wm.Bytes} {i : Nat} (h : i ≤ t.length) (ht : t.length ≤ 6000) : (pc t i).length ≤ 6000 := by
  have := pcEnd_le h
  unfold pcEnd at this
  omega
theorem two6 {L : List Int} (h : L.length = 6) : 2 ≤ L.length := by omega
theorem app6 {z L : List Int} {s : Wm.Seg} (h : sn s = z) (h6 : L.length = 6) : (z ++ L.drop z.length).length = 6 := by
  have := sn_le6 h h6
  rw [List.length_append, List.length_drop]
  omega
theorem line_at {t : Wm.Bytes} {st : Nat} {acc : Wm.Map} {L : List Int} (R : Rd t st false acc L) (h : st ≤ t.length) (heq : pcEnd t st = st) (z : (t.drop (pcEnd t st)).head? ≠ some 44) : Rd t (pcEnd t st + 1) false acc (begun L (L.headD 0 + 1)) := by
  have R4 := R.line_ h heq (by rw [heq] at z; exact z)
  rw [heq]
  exact R4
section
variable {P : Program} {w : World} {K : PySem.W.Frag} {mg : Str → Option Value} {base : Heap} {aS : Addr}
abbrev s_read_map : Stmt := top 28
theorem sc_read_map : FnScope ["text", "segments", "last", "start", "behind_comma", "end", "before_comma", "segment"] ["text"] (defScope s_read_map) := ⟨rfl, rfl, rfl, by decide +kernel, rfl, by decide +kernel, by decide +kernel⟩
def sp_read_map (K : PySem.W.Frag) : Sp := fun vs H Q _ => ∃ (a : Addr) (t : Wm.Bytes), vs = [.ref a] ∧ SqL K H a ((bytesI t).map V.int) ∧ t.length ≤ 6000 ∧
  (∀ n, Wm.read t = .error n → ∀ H' p, Same H H' → H' p = some (.tup [.non, .int n]) → Q (.ref p) H') ∧
  (∀ m, Wm.read t = .ok m → Good m → ∀ H' p l n, Same H H' → H l = none → MapAt H' l m → H' p = some (.tup [.ref l, n]) → Q (.ref p) H')
theorem ok_read_map {f f1 f2 f3 f4 f5 : Addr} {fd fd1 fd2 fd3 fd4 fd5 : FuncData} (F : Fun K "read_map" "read_map" s_read_map f fd) (T : Txt K mg aS) (D_piece_end : Df P w K mg base 1 "piece_end" ["text", "start"] (sp_piece_end K) f1 fd1)
    (D_read_segment : Df P w K mg base 3 "read_segment" ["piece", "last"] (sp_read_segment K) f2 fd2) (D_is_behind : Df P w K mg base 1 "is_behind" ["segment", "segments"] (sp_is_behind K) f3 fd3)
    (D_remember : Df P w K mg base 1 "remember" ["last", "segment"] (sp_remember K) f4 fd4) (D_begin_line : Df P w K mg base 1 "begin_line" ["last", "line"] sp_begin_line f5 fd5) :
    FnOk P w K mg base CX0 4 f fd ["text"] (sp_read_map K) := by
  refine F.ok sc_read_map (fun vs H Q E h => ?_) (fun cdv A outer s H vs Q E hr h => ?_)
  · obtain ⟨a, t, rfl, _⟩ := h
    rfl
  · obtain ⟨a, t, rfl, hA, ht, qE, qO⟩ := h
    refine ⟨_, (pss_cons (ps_set (i := 1) sc_read_map.nd rfl (Or.inl rfl) (pe_lst pa_nil))
      (pss_cons (ps_set (i := 2) sc_read_map.nd rfl (Or.inl rfl) (pe_lst (pa_cons pe_int (pa_cons pe_int (pa_cons pe_int (pa_cons pe_int (pa_cons pe_int (pa_cons pe_int pa_nil))))))))
      (pss_cons (ps_set (i := 3) sc_read_map.nd rfl (Or.inl rfl) pe_int)
      (pss_cons (ps_set (i := 4) sc_read_map.nd rfl (Or.inl rfl) pe_bl)
      (pss_cons (ps_while PassesOwn.never (pt_cmpR op_le (pv 3) (pe_callB call_len_seq (by rfl) T.len PySem.boot_len (pa_cons (pv 0) pa_nil)) (nomark _)) (pss_cons (ps_set (i := 5) sc_read_map.nd rfl (Or.inl rfl) (pe_call D_piece_end.ok (hr.mono (by decide)) (by rfl) D_piece_end.g D_piece_end.kp D_piece_end.b .nil pass0 (pa_cons (pv 0) (pa_cons (pv 3) pa_nil))))
      (pss_cons (ps_set (i := 6) sc_read_map.nd rfl (Or.inl rfl) (pe_and (pe_cmpR op_lt (pv 5) (pe_callB call_len_seq (by rfl) T.len PySem.boot_len (pa_cons (pv 0) pa_nil)) (nomark _)) (pe_one (pe_cmpR op_eq (pe_ix ix_list (pv 0) (pv 5) (fun _ _ => rfl)) (pe_gI T.COMMA (by rfl)) (nomark _)))))
      (pss_cons (ps_if (pt_cmpR op_gt (pv 5) (pv 3) (nomark _)) (pss_cons (ps_set (i := 7) sc_read_map.nd rfl (Or.inl rfl) (pe_call D_read_segment.ok (hr.mono (by decide)) (by rfl) D_read_segment.g D_read_segment.kp D_read_segment.b .nil pass0 (pa_cons (pe_slice sl_list (pv 0) (po_some (pv 3)) (po_some (pv 5))) (pa_cons (pv 2) pa_nil))))
      (pss_cons (ps_if (PW.pt (pw_or (pt_cmpR op_isN (pv 7) pe_non (nomark _)) (pw_or1 (pt_not (pt_val (pe_call D_is_behind.ok (hr.mono (by decide)) (by rfl) D_is_behind.g D_is_behind.kp D_is_behind.b .nil pass0 (pa_cons (pv 7) (pa_cons (pv 1) pa_nil)))))))) (pss_one (ps_ret (pe_tup (pa_cons pe_non (pa_cons (pv 3) pa_nil))))) pss_nil)
      (pss_cons (ps_expr (pe_bm PySem.F.plainAttrs_list PySem.F.slot_list_append PySem.F.type_list_append mt_append (pv 1) (pa_cons (pv 7) pa_nil)))
      (pss_one (ps_expr (pe_call D_remember.ok (hr.mono (by decide)) (by rfl) D_remember.g D_remember.kp D_remember.b .nil pass0 (pa_cons (pv 2) (pa_cons (pv 7) pa_nil)))))))) (pss_one (ps_if (PW.pt (pw_or (pt_val (pv 4)) (pw_or1 (pt_val (pv 6))))) (pss_one (ps_ret (pe_tup (pa_cons pe_non (pa_cons (pv 3) pa_nil))))) pss_nil)))
      (pss_cons (ps_if (pt_not (pt_val (pv 6))) (pss_one (ps_expr (pe_call D_begin_line.ok (hr.mono (by decide)) (by rfl) D_begin_line.g D_begin_line.kp D_begin_line.b .nil pass0 (pa_cons (pv 2) (pa_cons (pe_op op_add (pe_ix ix_list (pv 2) pe_int (fun _ _ => rfl)) pe_int) pa_nil))))) pss_nil)
      (pss_cons (ps_set (i := 4) sc_read_map.nd rfl (Or.inl rfl) (pv 6))
      (pss_one (ps_set (i := 3) sc_read_map.nd rfl (Or.inl rfl) (pe_op op_add (pv 5) pe_int)))))))))
      (pss_one (ps_ret (pe_tup (pa_cons (pv 1) (pa_cons (pe_callB call_len_seq (by rfl) T.len PySem.boot_len (pa_cons (pv 0) pa_nil)) pa_nil)))))))))), ?_⟩
    refine ⟨Nat.zero_le _, fun p1 n1 => ?_⟩
    refine ⟨(by show 6 ≤ sizeLine; decide), fun p2 n2 => ?_⟩
    have ne : p1 ≠ p2 := ne_of_none upd_same n2
    have nH2 : H p2 = none := (same_new n1).free n2
    refine ⟨fun m σ H' => ∃ st comma acc L rs x5 x6 x7, RmInv H a p1 p2 t m σ H' st comma acc L rs x5 x6 x7, ⟨_, 0, false, [], [0, 0, 0, 0, 0, 0], [], none, none, none, rfl, rfl, (same_new n1).trans (same_new n2), ?_, SegsAt.nil _, upd_same, Rd.start t⟩, ?_⟩
    · rw [upd_ne ne]
      exact upd_same
    rintro m σ H' ⟨st, comma, acc, L, rs, x5, x6, x7, rfl, rfl, sm, h1, S, h2, R⟩
    have hA' : SqL K H' a ((bytesI t).map V.int) := sm.seq hA
    refine ⟨_, rfl, _, rfl, a, _, rfl, .inl hA', _, _, rfl, rfl, _, rfl, ?_⟩
    rw [bytes_len]
    refine ifD (fun c0 => ?_) (fun c0 => ?_)
    rotate_left
    · -- the end
      have hread := R.done (int_nle c0)
      refine ⟨_, rfl, _, rfl, a, _, rfl, .inl hA', (by show 2 ≤ sizeLine; decide), fun p np => ?_⟩
      have sp := same_new (o := .tup [.ref p1, .int ((bytesI t).map V.int).length]) np
      exact qO acc hread R.good _ p p1 _ (sm.trans sp) n1 ⟨rs, sp _ _ h1, S.mono (Tups.of sp)⟩ upd_same
    have hst : st ≤ t.length := int_le c0
    have hpe := pcEnd_le hst
    refine ⟨fun σ' H'' => ∃ m', m' < t.length + 1 - st ∧ ∃ st comma acc L rs x5 x6 x7, RmInv H a p1 p2 t m' σ' H'' st comma acc L rs x5 x6 x7, fun _ _ h => h, ?_⟩
    refine ⟨_, rfl, _, rfl, a, t, st, rfl, hA', ?_⟩
    refine ⟨_, rfl, _, rfl, a, _, rfl, .inl hA', _, _, rfl, rfl, _, rfl, ?_⟩
    rw [bytes_len]
    refine ifD (fun c1 => ?_) (fun c1 => ?_)
    · obtain ⟨c, hc, hlt⟩ := at_some c1
      refine ⟨_, rfl, _, rfl, a, _, _, _, rfl, rfl, hA', atI_nat (byte_at hc), rfl, ?_⟩
      have hB := dec44 hc
      refine ⟨_, rfl, _, rfl, _, _, rfl, rfl, _, rfl, ifD (fun c2 => ?_) (fun c2 => ?_)⟩
      · have hne := int_lt_ne c2
        refine ⟨_, rfl, _, rfl, _, rfl, _, rfl, _, rfl, a, _, rfl, hA', fun pp npp => ?_⟩
        rw [cut_pc t hst]
        have spp := same_new (o := .lst ((bytesI (pc t st)).map V.int)) npp
        refine ⟨_, rfl, pp, p2, pc t st, L, rfl, SqL.of upd_same, pc_len hst ht, spp.seq (SqL.of h2), R.six, fun e H2 s2 => ?_, fun z e H2 r s2 nr er => ?_⟩
        · refine ⟨_, rfl, rfl, _, rfl, ifD (fun _ => iteT ?_) (fun c => absurd rfl c)⟩
          refine ⟨_, rfl, (by show 2 ≤ sizeLine; decide), fun p np => ?_⟩
          exact qE st (R.bad hst hne e) _ p (((sm.trans spp).trans s2).trans (same_new np)) upd_same
        refine ⟨_, rfl, rfl, _, rfl, ifD (fun c => nomatch c) (fun _ => ?_)⟩
        obtain ⟨sg, hz, hok, hbad, hgood⟩ := R.found hst hne e
        have s02 := spp.trans s2
        have S2 := S.mono (Tups.of s02)
        have h12 := s02 _ _ h1
        have h22 := s02 _ _ h2
        have er' : H2 r = some (.tup (segV sg)) := by
          unfold segV
          rw [hz]
          exact er
        refine ⟨_, rfl, _, rfl, r, p1, sn sg, _, Wm.last acc sg, rfl, .inr (SqT.of er'), (sn_len sg).1, SqL.of h12, behind_how sg S2, ?_⟩
        refine ⟨_, rfl, ifNB (fun hl => ?_) (fun hl => ?_)⟩
        · refine ⟨_, rfl, (by show 2 ≤ sizeLine; decide), fun p np => ?_⟩
          exact qE st (hbad hl) _ p ((sm.trans s02).trans (same_new np)) upd_same
        have hg := hgood hl
        refine ⟨_, rfl, .inl ⟨rfl, _, SqL.of h12⟩, _, rfl, p1, _, _, rfl, rfl, h12, few_room R S2 hst ht, ?_⟩
        rw [refs_snoc]
        have nr1 : r ≠ p1 := ne_of er' h12 (fun z => nomatch z)
        have h23 : (upd H2 p1 (.lst ((rs ++ [r]).map V.ref))) p2 = some (.lst (L.map V.int)) := by
          rw [upd_ne ne.symm]
          exact h22
        have er3 : ∀ o, (upd (upd H2 p1 (.lst ((rs ++ [r]).map V.ref))) p2 o) r = some (.tup (z.map V.int)) := fun o => by
          rw [upd_ne (ne_of er h22 (fun z => nomatch z)), upd_ne nr1]
          exact er
        refine ⟨_, rfl, _, rfl, p2, r, L, z, rfl, h23, SqT.of (by rw [upd_ne nr1]; exact er), sn_le6 hz R.six, six1000 R.six, fun o => SqT.of (er3 _), ?_⟩
        have h13 : (upd (upd H2 p1 (.lst ((rs ++ [r]).map V.ref))) p2 (.lst ((z ++ L.drop z.length).map V.int))) p1 = some (.lst ((rs ++ [r]).map V.ref)) := by
          rw [upd_ne ne]
          exact upd_same
        have S3 : SegsAt (upd (upd H2 p1 (.lst ((rs ++ [r]).map V.ref))) p2 (.lst ((z ++ L.drop z.length).map V.int))) (rs ++ [r]) (acc ++ [sg]) := (S2.snoc er').mono ((Tups.upd h12).trans (Tups.upd h23))
        have sm3 : Same H (upd (upd H2 p1 (.lst ((rs ++ [r]).map V.ref))) p2 (.lst ((z ++ L.drop z.length).map V.int))) := fun b o eb => by
          rw [upd_ne (ne_of_none eb nH2), upd_ne (ne_of_none eb n1)]
          exact s02 _ _ (sm b o eb)
        refine ⟨_, rfl, _, rfl, ?_⟩
        refine ifNB (fun hb => ?_) (fun hb => ?_)
        · have R3 := hg.2 (fun z => by have := hB.mpr z; rw [hb] at this; cases this)
          obtain ⟨y0, y1, yr, ey⟩ := two_le (two6 (app6 hz R.six))
          rw [ey] at R3
          have h2' := ((upd_same (H := upd H2 p1 (.lst ((rs ++ [r]).map V.ref))) (a := p2) (o := .lst ((z ++ L.drop z.length).map V.int)))).trans (congrArg (fun l => some (HO.lst (l.map V.int))) ey)
          refine ⟨_, rfl, _, rfl, p2, _, _, _, rfl, rfl, SqL.of h2', atN (j := 0) rfl rfl, _, _, rfl, rfl, p2, _, y0, y1, yr, rfl, h2', ?_⟩
          refine ⟨_, rfl, ?_⟩
          refine ⟨_, rfl, _, _, rfl, rfl, ?_⟩
          refine ⟨_, falls hst hpe.1, pcEnd t st + 1, _, _, _, _, _, _, _, rfl, rfl, ?_, ?_, (S3).mono (Tups.upd h2'), upd_same, ?_⟩
          · intro b o eb
            rw [upd_ne (ne_of_none eb nH2)]
            exact sm3 b o eb
          · rw [upd_ne ne]
            exact h13
          · rw [hb]
            exact R3
        · have R3 := hg.1 (hB.mp hb)
          refine ⟨_, rfl, ?_⟩
          refine ⟨_, rfl, _, _, rfl, rfl, ?_⟩
          refine ⟨_, falls hst hpe.1, pcEnd t st + 1, _, _, _, _, _, _, _, rfl, rfl, sm3, h13, S3, (upd_same (H := upd H2 p1 (.lst ((rs ++ [r]).map V.ref))) (a := p2) (o := .lst ((z ++ L.drop z.length).map V.int))), ?_⟩
          rw [hb]
          exact R3
      · have heq := int_nlt c2 hpe.1
        refine ⟨_, rfl, _, rfl, ifB (fun hcm => iteT ?_) (fun hcm => ⟨_, rfl, _, rfl, ifB (fun hbc => ?_) (fun hbc => ?_)⟩)⟩
        · refine ⟨_, rfl, (by show 2 ≤ sizeLine; decide), fun p np => ?_⟩
          exact qE st (R.empty hst heq (.inl hcm)) _ p ((sm).trans (same_new np)) upd_same
        · refine ⟨_, rfl, (by show 2 ≤ sizeLine; decide), fun p np => ?_⟩
          exact qE st (R.empty hst heq (.inr (by have := hB.mp hbc; rw [heq] at this; exact this))) _ p ((sm).trans (same_new np)) upd_same
        · subst hcm
          refine ⟨_, rfl, _, rfl, ?_⟩
          refine ifNB (fun hb => ?_) (fun hb => ?_)
          · have R3 := (fun (z : (t.drop (pcEnd t st)).head? ≠ some 44) => line_at R hst heq z) (fun z => by have := hB.mpr z; rw [hb] at this; cases this)
            obtain ⟨y0, y1, yr, ey⟩ := two_le (two6 R.six)
            rw [ey] at R3
            have h2' := (h2).trans (congrArg (fun l => some (HO.lst (l.map V.int))) ey)
            refine ⟨_, rfl, _, rfl, p2, _, _, _, rfl, rfl, SqL.of h2', atN (j := 0) rfl rfl, _, _, rfl, rfl, p2, _, y0, y1, yr, rfl, h2', ?_⟩
            refine ⟨_, rfl, ?_⟩
            refine ⟨_, rfl, _, _, rfl, rfl, ?_⟩
            refine ⟨_, falls hst hpe.1, pcEnd t st + 1, _, _, _, _, _, _, _, rfl, rfl, ?_, ?_, (S).mono (Tups.upd h2'), upd_same, ?_⟩
            · intro b o eb
              rw [upd_ne (ne_of_none eb nH2)]
              exact sm b o eb
            · rw [upd_ne ne]
              exact h1
            · rw [hb]
              exact R3
          · exact absurd (hb.symm.trans hbc) (by decide)
    · have hB := none44 (at_none c1)
      refine ⟨_, rfl, _, rfl, _, _, rfl, rfl, _, rfl, ifD (fun c2 => ?_) (fun c2 => ?_)⟩
      · have hne := int_lt_ne c2
        refine ⟨_, rfl, _, rfl, _, rfl, _, rfl, _, rfl, a, _, rfl, hA', fun pp npp => ?_⟩
        rw [cut_pc t hst]
        have spp := same_new (o := .lst ((bytesI (pc t st)).map V.int)) npp
        refine ⟨_, rfl, pp, p2, pc t st, L, rfl, SqL.of upd_same, pc_len hst ht, spp.seq (SqL.of h2), R.six, fun e H2 s2 => ?_, fun z e H2 r s2 nr er => ?_⟩
        · refine ⟨_, rfl, rfl, _, rfl, ifD (fun _ => iteT ?_) (fun c => absurd rfl c)⟩
          refine ⟨_, rfl, (by show 2 ≤ sizeLine; decide), fun p np => ?_⟩
          exact qE st (R.bad hst hne e) _ p (((sm.trans spp).trans s2).trans (same_new np)) upd_same
        refine ⟨_, rfl, rfl, _, rfl, ifD (fun c => nomatch c) (fun _ => ?_)⟩
        obtain ⟨sg, hz, hok, hbad, hgood⟩ := R.found hst hne e
        have s02 := spp.trans s2
        have S2 := S.mono (Tups.of s02)
        have h12 := s02 _ _ h1
        have h22 := s02 _ _ h2
        have er' : H2 r = some (.tup (segV sg)) := by
          unfold segV
          rw [hz]
          exact er
        refine ⟨_, rfl, _, rfl, r, p1, sn sg, _, Wm.last acc sg, rfl, .inr (SqT.of er'), (sn_len sg).1, SqL.of h12, behind_how sg S2, ?_⟩
        refine ⟨_, rfl, ifNB (fun hl => ?_) (fun hl => ?_)⟩
        · refine ⟨_, rfl, (by show 2 ≤ sizeLine; decide), fun p np => ?_⟩
          exact qE st (hbad hl) _ p ((sm.trans s02).trans (same_new np)) upd_same
        have hg := hgood hl
        refine ⟨_, rfl, .inl ⟨rfl, _, SqL.of h12⟩, _, rfl, p1, _, _, rfl, rfl, h12, few_room R S2 hst ht, ?_⟩
        rw [refs_snoc]
        have nr1 : r ≠ p1 := ne_of er' h12 (fun z => nomatch z)
        have h23 : (upd H2 p1 (.lst ((rs ++ [r]).map V.ref))) p2 = some (.lst (L.map V.int)) := by
          rw [upd_ne ne.symm]
          exact h22
        have er3 : ∀ o, (upd (upd H2 p1 (.lst ((rs ++ [r]).map V.ref))) p2 o) r = some (.tup (z.map V.int)) := fun o => by
          rw [upd_ne (ne_of er h22 (fun z => nomatch z)), upd_ne nr1]
          exact er
        refine ⟨_, rfl, _, rfl, p2, r, L, z, rfl, h23, SqT.of (by rw [upd_ne nr1]; exact er), sn_le6 hz R.six, six1000 R.six, fun o => SqT.of (er3 _), ?_⟩
        have h13 : (upd (upd H2 p1 (.lst ((rs ++ [r]).map V.ref))) p2 (.lst ((z ++ L.drop z.length).map V.int))) p1 = some (.lst ((rs ++ [r]).map V.ref)) := by
          rw [upd_ne ne]
          exact upd_same
        have S3 : SegsAt (upd (upd H2 p1 (.lst ((rs ++ [r]).map V.ref))) p2 (.lst ((z ++ L.drop z.length).map V.int))) (rs ++ [r]) (acc ++ [sg]) := (S2.snoc er').mono ((Tups.upd h12).trans (Tups.upd h23))
        have sm3 : Same H (upd (upd H2 p1 (.lst ((rs ++ [r]).map V.ref))) p2 (.lst ((z ++ L.drop z.length).map V.int))) := fun b o eb => by
          rw [upd_ne (ne_of_none eb nH2), upd_ne (ne_of_none eb n1)]
          exact s02 _ _ (sm b o eb)
        refine ⟨_, rfl, _, rfl, ?_⟩
        refine ifNB (fun hb => ?_) (fun hb => ?_)
        · have R3 := hg.2 (fun z => by have := hB.mpr z; rw [hb] at this; cases this)
          obtain ⟨y0, y1, yr, ey⟩ := two_le (two6 (app6 hz R.six))
          rw [ey] at R3
          have h2' := ((upd_same (H := upd H2 p1 (.lst ((rs ++ [r]).map V.ref))) (a := p2) (o := .lst ((z ++ L.drop z.length).map V.int)))).trans (congrArg (fun l => some (HO.lst (l.map V.int))) ey)
          refine ⟨_, rfl, _, rfl, p2, _, _, _, rfl, rfl, SqL.of h2', atN (j := 0) rfl rfl, _, _, rfl, rfl, p2, _, y0, y1, yr, rfl, h2', ?_⟩
          refine ⟨_, rfl, ?_⟩
          refine ⟨_, rfl, _, _, rfl, rfl, ?_⟩
          refine ⟨_, falls hst hpe.1, pcEnd t st + 1, _, _, _, _, _, _, _, rfl, rfl, ?_, ?_, (S3).mono (Tups.upd h2'), upd_same, ?_⟩
          · intro b o eb
            rw [upd_ne (ne_of_none eb nH2)]
            exact sm3 b o eb
          · rw [upd_ne ne]
            exact h13
          · rw [hb]
            exact R3
        · have R3 := hg.1 (hB.mp hb)
          refine ⟨_, rfl, ?_⟩
          refine ⟨_, rfl, _, _, rfl, rfl, ?_⟩
          refine ⟨_, falls hst hpe.1, pcEnd t st + 1, _, _, _, _, _, _, _, rfl, rfl, sm3, h13, S3, (upd_same (H := upd H2 p1 (.lst ((rs ++ [r]).map V.ref))) (a := p2) (o := .lst ((z ++ L.drop z.length).map V.int))), ?_⟩
          rw [hb]
          exact R3
      · have heq := int_nlt c2 hpe.1
        refine ⟨_, rfl, _, rfl, ifB (fun hcm => iteT ?_) (fun hcm => ⟨_, rfl, _, rfl, ifB (fun hbc => ?_) (fun hbc => ?_)⟩)⟩
        · refine ⟨_, rfl, (by show 2 ≤ sizeLine; decide), fun p np => ?_⟩
          exact qE st (R.empty hst heq (.inl hcm)) _ p ((sm).trans (same_new np)) upd_same
        · refine ⟨_, rfl, (by show 2 ≤ sizeLine; decide), fun p np => ?_⟩
          exact qE st (R.empty hst heq (.inr (by have := hB.mp hbc; rw [heq] at this; exact this))) _ p ((sm).trans (same_new np)) upd_same
        · subst hcm
          refine ⟨_, rfl, _, rfl, ?_⟩
          refine ifNB (fun hb => ?_) (fun hb => ?_)
          · have R3 := (fun (z : (t.drop (pcEnd t st)).head? ≠ some 44) => line_at R hst heq z) (fun z => by have := hB.mpr z; rw [hb] at this; cases this)
            obtain ⟨y0, y1, yr, ey⟩ := two_le (two6 R.six)
            rw [ey] at R3
            have h2' := (h2).trans (congrArg (fun l => some (HO.lst (l.map V.int))) ey)
            refine ⟨_, rfl, _, rfl, p2, _, _, _, rfl, rfl, SqL.of h2', atN (j := 0) rfl rfl, _, _, rfl, rfl, p2, _, y0, y1, yr, rfl, h2', ?_⟩
            refine ⟨_, rfl, ?_⟩
            refine ⟨_, rfl, _, _, rfl, rfl, ?_⟩
            refine ⟨_, falls hst hpe.1, pcEnd t st + 1, _, _, _, _, _, _, _, rfl, rfl, ?_, ?_, (S).mono (Tups.upd h2'), upd_same, ?_⟩
            · intro b o eb
              rw [upd_ne (ne_of_none eb nH2)]
              exact sm b o eb
            · rw [upd_ne ne]
              exact h1
            · rw [hb]
              exact R3
          · exact absurd (hb.symm.trans hbc) (by decide)
end
end Wq

set_option Elab.async false
set_option maxRecDepth 100000
set_option maxHeartbeats 2000000
set_option linter.all false
namespace Wq
open PySem PySem.Spec PyProof.Rows L2
/-! ### written_map -/
theorem lastI_all {p : Wm.Pen} (P : PenIn p) (line : Nat) (y : Int) {j : Nat} (h : (lastI p line)[1 + j]? = some y) : 0 ≤ y ∧ y ≤ 2147483647 := by
  refine lastI_in P line y (List.mem_of_getElem? (i := j) ?_)
  rw [List.getElem?_drop]
  exact h
theorem rep59 (n : Nat) : (List.replicate ((n : Int)).toNat [V.int 59]).flatten = (bytesI (List.replicate n 59)).map V.int := by
  rw [Int.toNat_natCast]
  induction n with
  | zero => rfl
  | succ n ih =>
    rw [List.replicate_succ, List.replicate_succ, List.flatten_cons, ih]
    rfl
theorem bytes_app (a b : Wm.Bytes) : (bytesI a).map V.int ++ (bytesI b).map V.int = (bytesI (a ++ b)).map V.int := by
  rw [bytesI_app, List.map_append]
structure WmInv (H : Hp) (a pT pL : Addr) (m : Wm.Map) (i : Nat) (σ : L2.St) (H' : Hp) (txt : Wm.Bytes) (p : Wm.Pen) (x3 x4 : Option V) : Prop where
  sg : σ = [some (.ref a), some (.ref pT), some (.ref pL), x3, x4]
  sm : Same H H'
  hT : H' pT = some (.lst ((bytesI txt).map V.int))
  hL : H' pL = some (.lst ((lastI p p.line).map V.int))
  W : Wt m i txt p
structure WnInv (H : Hp) (a pT pL r : Addr) (s : Wm.Seg) (t1 : Wm.Bytes) (L1 : List Int) (j : Nat) (σ : L2.St) (H' : Hp) (x4 : Option V) : Prop where
  sg : σ = [some (.ref a), some (.ref pT), some (.ref pL), some (.ref r), x4]
  sm : Same H H'
  hT : H' pT = some (.lst ((bytesI (t1 ++ ((steps s L1).take j).flatMap Wm.digits)).map V.int))
  hL : H' pL = some (.lst (L1.map V.int))
  hr : H' r = some (.tup (segV s))
theorem line_diff {a b : Nat} (h : (a : Int) < (b : Int)) : (b : Int) - (a : Int) = ((b - a : Nat) : Int) := by omega
theorem lines_le {s : Wm.Seg} (h : s.ok = true) : s.line ≤ 4095 := (ok_in h).1
theorem rep_lo (a b : Nat) : -(2 ^ 63) ≤ ((b - a : Nat) : Int) := by omega
theorem rep_hi {a b : Nat} (h : b ≤ 4095) : ((b - a : Nat) : Int) < 2 ^ 63 := by omega
theorem rep_size {a b : Nat} (h : b ≤ 4095) : [V.int 59].length * (((b - a : Nat) : Int)).toNat ≤ sizeLine := by
  rw [Int.toNat_natCast]
  show 1 * (b - a) ≤ sizeLine
  have : (5000 : Nat) ≤ sizeLine := by decide
  omega
theorem ext_room {x y n : Nat} (hx : x ≤ n) (hn : n ≤ 10000000) (hy : y ≤ 5000) : x + y ≤ sizeLine := by
  have : (10005000 : Nat) ≤ sizeLine := by decide
  omega
theorem lt_room {x n : Nat} (hx : x ≤ n) (hn : n ≤ 10000000) : x < sizeLine := by
  have : (10005000 : Nat) ≤ sizeLine := by decide
  omega
theorem rep_len {a b : Nat} (h : b ≤ 4095) : ((List.replicate (((b - a : Nat) : Int)).toNat [V.int 59]).flatten).length ≤ 5000 := by
  rw [rep59, bytes_len, List.length_replicate]
  omega
theorem seg_at {s : Wm.Seg} {j : Nat} {x : Int} (h : (sn s)[j]? = some x) : (segV s)[j]? = some (.int x) := by
  unfold segV
  rw [List.getElem?_map, h]
  rfl
theorem sn_get {s : Wm.Seg} {j : Nat} (h : j < (segV s).length - 1) : ∃ x, (sn s)[1 + j]? = some x := by
  rw [segV_len] at h
  exact ⟨_, List.getElem?_eq_getElem (by omega)⟩
theorem L_get {s : Wm.Seg} {L : List Int} (h6 : L.length = 6) {j : Nat} (h : j < (segV s).length - 1) : ∃ y, L[1 + j]? = some y := by
  rw [segV_len] at h
  have := (sn_len s).2
  exact ⟨_, List.getElem?_eq_getElem (by omega)⟩
theorem range_n (s : Wm.Seg) : (((segV s).length : Int) - 1).toNat = (segV s).length - 1 := by omega
theorem range_b (s : Wm.Seg) : -(2 ^ 62) ≤ (1 : Int) ∧ (1 : Int) < 2 ^ 62 ∧ -(2 ^ 62) ≤ ((segV s).length : Int) ∧ ((segV s).length : Int) < 2 ^ 62 := by
  have := (sn_len s).2
  rw [segV_len]
  omega
theorem one_nat (j : Nat) : (1 : Int) + (j : Int) = ((1 + j : Nat) : Int) := by omega
theorem sz0 {t : Wm.Bytes} : (0 : Int) < (((bytesI t).map V.int).length : Int) ↔ 0 < t.length := by
  rw [bytes_len]
  omega
theorem all_steps {p : Wm.Pen} {s : Wm.Seg} : (Wm.numbers p s).take ((segV s).length - 1) = Wm.numbers p s := by
  rw [numbers_steps]
  refine List.take_of_length_le ?_
  rw [steps_len s rfl, segV_len]
  exact Nat.le_refl _
section
variable {P : Program} {w : World} {K : PySem.W.Frag} {mg : Str → Option Value} {base : Heap} {aS : Addr}
abbrev s_written_map : Stmt := top 25
theorem sc_written_map : FnScope ["segments", "text", "last", "segment", "place"] ["segments"] (defScope s_written_map) := ⟨rfl, rfl, rfl, by decide +kernel, rfl, by decide +kernel, by decide +kernel⟩
def sp_written_map (K : PySem.W.Frag) : Sp := fun vs H Q _ => ∃ (a : Addr) (m : Wm.Map), vs = [.ref a] ∧ MapAt H a m ∧ Good m ∧ (Wm.text m).length ≤ 10000000 ∧
  ∀ H' p, Same H H' → H p = none → H' p = some (.lst ((bytesI (Wm.text m)).map V.int)) → Q (.ref p) H'
theorem ok_written_map {f f1 f2 f3 : Addr} {fd fd1 fd2 fd3 : FuncData} (F : Fun K "written_map" "written_map" s_written_map f fd) (T : Txt K mg aS) (D_begin_line : Df P w K mg base 1 "begin_line" ["last", "line"] sp_begin_line f1 fd1)
    (D_written_number : Df P w K mg base 2 "written_number" ["number"] sp_written_number f2 fd2) (D_remember : Df P w K mg base 1 "remember" ["last", "segment"] (sp_remember K) f3 fd3) :
    FnOk P w K mg base CX0 3 f fd ["segments"] (sp_written_map K) := by
  refine F.ok sc_written_map (fun vs H Q E h => ?_) (fun cdv A outer s H vs Q E hr h => ?_)
  · obtain ⟨a, m, rfl, _⟩ := h
    rfl
  · obtain ⟨a, m, rfl, ⟨rs, hA, S⟩, G, hlen, q⟩ := h
    refine ⟨_, (pss_cons (ps_set (i := 1) sc_written_map.nd rfl (Or.inl rfl) (pe_lst pa_nil))
      (pss_cons (ps_set (i := 2) sc_written_map.nd rfl (Or.inl rfl) (pe_lst (pa_cons pe_int (pa_cons pe_int (pa_cons pe_int (pa_cons pe_int (pa_cons pe_int (pa_cons pe_int pa_nil))))))))
      (pss_cons (ps_for PassesOwn.never rfl (pi_list (pv 0)) (pg_name (i := 3) sc_written_map.nd rfl (Or.inl rfl)) (pss_cons (ps_if (pt_cmpR op_gt (pe_ix ix_tup (pv 3) pe_int (fun _ _ => rfl)) (pe_ix ix_list (pv 2) pe_int (fun _ _ => rfl)) (nomark _)) (pss_cons (ps_expr (pe_bm PySem.F.plainAttrs_list PySem.F.slot_list_extend PySem.F.type_list_extend mt_extend (pv 1) (pa_cons (pe_op op_rep (pe_lst (pa_cons (pe_gI T.SEMICOLON (by rfl)) pa_nil)) (pe_op op_sub (pe_ix ix_tup (pv 3) pe_int (fun _ _ => rfl)) (pe_ix ix_list (pv 2) pe_int (fun _ _ => rfl)))) pa_nil)))
      (pss_one (ps_expr (pe_call D_begin_line.ok (hr.mono (by decide)) (by rfl) D_begin_line.g D_begin_line.kp D_begin_line.b .nil pass0 (pa_cons (pv 2) (pa_cons (pe_ix ix_tup (pv 3) pe_int (fun _ _ => rfl)) pa_nil)))))) (pss_one (ps_if (pt_cmpR op_gt (pe_callB call_len_seq (by rfl) T.len PySem.boot_len (pa_cons (pv 1) pa_nil)) pe_int (nomark _)) (pss_one (ps_expr (pe_bm PySem.F.plainAttrs_list PySem.F.slot_list_append PySem.F.type_list_append mt_append (pv 1) (pa_cons (pe_gI T.COMMA (by rfl)) pa_nil)))) pss_nil)))
      (pss_cons (ps_for PassesOwn.never rfl (pi_range2 (by rfl) T.range (pa_cons pe_int (pa_cons (pe_callB call_len_seq (by rfl) T.len PySem.boot_len (pa_cons (pv 3) pa_nil)) pa_nil))) (pg_name (i := 4) sc_written_map.nd rfl (Or.inl rfl)) (pss_one (ps_expr (pe_bm PySem.F.plainAttrs_list PySem.F.slot_list_extend PySem.F.type_list_extend mt_extend (pv 1) (pa_cons (pe_call D_written_number.ok (hr.mono (by decide)) (by rfl) D_written_number.g D_written_number.kp D_written_number.b .nil pass0 (pa_cons (pe_op op_sub (pe_ix ix_tup (pv 3) (pv 4) (fun _ _ => rfl)) (pe_ix ix_list (pv 2) (pv 4) (fun _ _ => rfl))) pa_nil)) pa_nil)))))
      (pss_one (ps_expr (pe_call D_remember.ok (hr.mono (by decide)) (by rfl) D_remember.g D_remember.kp D_remember.b .nil pass0 (pa_cons (pv 2) (pa_cons (pv 3) pa_nil))))))))
      (pss_one (ps_ret (pv 1)))))), ?_⟩
    refine ⟨Nat.zero_le _, fun pT nT => ?_⟩
    refine ⟨(by show 6 ≤ sizeLine; decide), fun pL nL' => ?_⟩
    have ne : pT ≠ pL := ne_of_none upd_same nL'
    have nL : H pL = none := (same_new nT).free nL'
    refine ⟨_, rfl, a, rfl, ⟨_, ((same_new nT).trans (same_new nL')).seq (SqL.of hA)⟩, for_list (K := K) (a := a) (xs := rs.map V.ref) (fun i σ H' => ∃ txt p x3 x4, WmInv H a pT pL m i σ H' txt p x3 x4)
      ⟨[], Wm.pen, none, none, rfl, (same_new nT).trans (same_new nL'), (by rw [upd_ne ne]; exact upd_same), upd_same, Wt.start m⟩ (fun i σ H' _ ⟨_, _, _, _, I⟩ => I.sm.seq (SqL.of hA)) ?_ ?_⟩
    rotate_left
    · rintro σ H' ⟨txt, p, x3, x4, rfl, sm, hT, hL, W⟩
      rw [S.refs_len] at W
      rw [W.done] at hT
      exact ⟨_, rfl, q _ pT sm nT hT⟩
    rintro i y σ H' hi ⟨txt, p, x3, x4, rfl, sm, hT, hL, W⟩
    obtain ⟨r, sg, rfl, hm, hrH⟩ := S.item hi
    have hok : sg.ok = true := G.1 sg (List.mem_of_getElem? hm)
    have hr0 : H' r = some (.tup (segV sg)) := sm _ _ hrH
    have nTr : r ≠ pT := ne_of_none hrH nT
    have nLr : r ≠ pL := ne_of_none hrH nL
    refine ⟨_, rfl, r, _, _, _, rfl, rfl, SqT.of hr0, atI_nat (seg_at (sn_0 sg)), _, rfl, pL, _, _, _, rfl, rfl, SqL.of hL, atN (j := 0) rfl rfl, _, _, rfl, rfl, _, rfl, ifD (fun c => ?_) (fun c => ?_)⟩
    · obtain ⟨es, eL⟩ := W.sep_more c
      -- text.extend([SEMICOLON] * ..)
      refine ⟨_, rfl, .inl ⟨rfl, _, SqL.of hT⟩, (by show 1 ≤ sizeLine; decide), fun q1 nq1 => ?_⟩
      have s1 : Same H' (upd H' q1 (.lst [.int 59])) := same_new nq1
      refine ⟨_, rfl, r, _, _, _, rfl, rfl, SqT.of (s1 _ _ hr0), atI_nat (seg_at (sn_0 sg)), _, rfl, pL, _, _, _, rfl, rfl, SqL.of (s1 _ _ hL), atN (j := 0) rfl rfl, _, _, rfl, rfl, q1, ((sg.line - p.line : Nat) : Int), _, rfl, (congrArg V.int (line_diff c)), upd_same, rep_lo _ _, rep_hi (lines_le hok), rep_size (lines_le hok), fun q2 nq2 => ?_⟩
      have s12 : Same H' (upd (upd H' q1 (.lst [.int 59])) q2 (.lst (List.replicate (((sg.line - p.line : Nat) : Int)).toNat [V.int 59]).flatten)) := s1.trans (same_new nq2)
      refine ⟨pT, q2, _, _, rfl, rfl, s12 _ _ hT, upd_same, ext_room (by rw [bytes_len]; exact W.len0) hlen (rep_len (lines_le hok)), ?_⟩
      rw [rep59] at s12
      rw [rep59, bytes_app, ← es]
      rw [← es] at s12
      generalize upd (upd H' q1 (.lst [.int 59])) q2 (.lst ((bytesI (Wm.separator p sg)).map V.int)) = H5 at s12 ⊢
      -- begin_line(last, segment[0])
      refine ⟨_, rfl, _, rfl, r, _, _, _, rfl, rfl, SqT.of ((upd_ne nTr).trans (s12 _ _ hr0)), atI_nat (seg_at (sn_0 sg)), pL, _, _, _, _, rfl, (upd_ne ne.symm).trans (s12 _ _ hL), ?_⟩
      have hT1 : (upd (upd H5 pT (.lst ((bytesI (txt ++ Wm.separator p sg)).map V.int))) pL (.lst ((lastI p sg.line).map V.int))) pT = some (.lst ((bytesI (txt ++ Wm.separator p sg)).map V.int)) := (upd_ne ne).trans upd_same
      have hr1 : (upd (upd H5 pT (.lst ((bytesI (txt ++ Wm.separator p sg)).map V.int))) pL (.lst ((lastI p sg.line).map V.int))) r = some (.tup (segV sg)) := ((upd_ne nLr).trans (upd_ne nTr)).trans (s12 _ _ hr0)
      have hL1 : (upd (upd H5 pT (.lst ((bytesI (txt ++ Wm.separator p sg)).map V.int))) pL (.lst ((lastI p sg.line).map V.int))) pL = some (.lst ((lastI p sg.line).map V.int)) := upd_same
      have sm1 : Same H (upd (upd H5 pT (.lst ((bytesI (txt ++ Wm.separator p sg)).map V.int))) pL (.lst ((lastI p sg.line).map V.int))) := fun b o eb => ((upd_ne (ne_of_none eb nL)).trans (upd_ne (ne_of_none eb nT))).trans (s12 _ _ (sm b o eb))
      rw [← eL] at hT1 hr1 hL1 sm1
      have hL1 := hL1.trans (congrArg (fun l => some (HO.lst (l.map V.int))) eL)
      change (upd (upd H5 pT (.lst ((bytesI (txt ++ Wm.separator p sg)).map V.int))) pL (.lst ((begun (lastI p p.line) (sg.line : Int)).map V.int))) pL = _ at hL1
      have Wl := W.len hm
      have WT := W.turn G hm
      have eS := numbers_steps p sg
      rw [eS] at Wl WT
      refine ⟨_, rfl, r, _, rfl, .inr (SqT.of hr1), 1, _, rfl, range_b sg, for_range (lo := 1) (n := (((segV sg).length : Int) - 1).toNat) (fun j σ H3 => ∃ x4, WnInv H a pT pL r sg (txt ++ Wm.separator p sg) (lastI p sg.line) j σ H3 x4) ⟨_, rfl, sm1, hT1.trans (by rw [List.take_zero]; simp), hL1, hr1⟩ ?_ ?_⟩
      · rintro j σ H3 hj ⟨x4, rfl, sm3, hT3, hL3, hr3⟩
        rw [range_n] at hj
        obtain ⟨x, hx⟩ := sn_get hj
        obtain ⟨y, hy⟩ := L_get (lastI_len p sg.line) hj
        refine ⟨_, rfl, .inl ⟨rfl, _, SqL.of hT3⟩, _, rfl, _, rfl, r, _, _, _, rfl, rfl, SqT.of hr3, atN (one_nat j) (seg_at hx), _, rfl, _, rfl, pL, _, _, _, rfl, rfl, SqL.of hL3, atN (one_nat j) (int_at hy), _, _, rfl, rfl, x - y, rfl, coded_small (sn_in hok x (List.mem_of_getElem? hx)) (lastI_all W.inn sg.line y hy), fun q3 nq3 => ?_⟩
        have s3 : Same H3 (upd H3 q3 (.lst ((bytesI (Wm.digits (x - y))).map V.int))) := same_new nq3
        refine ⟨pT, q3, _, _, rfl, rfl, s3 _ _ hT3, upd_same, ext_room (by rw [bytes_len]; exact Wl j) hlen (by rw [bytes_len]; exact Nat.le_trans (digits_len _) (by decide)), ?_⟩
        rw [bytes_app, List.append_assoc, ← flat_snoc Wm.digits (steps_at hx hy)]
        exact ⟨_, rfl, fun b o eb => (upd_ne (ne_of_none eb nT)).trans (s3 _ _ (sm3 b o eb)), upd_same, (upd_ne ne.symm).trans (s3 _ _ hL3), (upd_ne nTr).trans (s3 _ _ hr3)⟩
      · rintro σ H3 ⟨x4, rfl, sm3, hT3, hL3, hr3⟩
        rw [range_n, ← eS, all_steps, eS] at hT3
        refine ⟨_, rfl, _, rfl, pL, r, lastI p sg.line, sn sg, rfl, hL3, SqT.of hr3, sn_le6 rfl rfl, six1000 rfl, fun o => SqT.of ((upd_ne nLr).trans hr3), ?_⟩
        refine ⟨_, Wm.moved p sg, _, _, rfl, fun b o eb => (upd_ne (ne_of_none eb nL)).trans (sm3 b o eb), (upd_ne ne).trans hT3, ?_, WT.1⟩
        rw [WT.2]
        exact upd_same
    · obtain ⟨eL, e44, e0⟩ := W.sep_same G hm c
      rw [eL] at hL
      refine ⟨_, rfl, pT, _, rfl, .inl (SqL.of hT), _, _, rfl, rfl, _, rfl, ifD (fun c2 => ?_) (fun c2 => ?_)⟩
      · have es := e44 (sz0.mp c2)
        refine ⟨_, rfl, .inl ⟨rfl, _, SqL.of hT⟩, pT, _, _, rfl, rfl, hT, lt_room (by rw [bytes_len]; exact W.len0) hlen, ?_⟩
        have hT1 : (upd H' pT (.lst ((bytesI txt).map V.int ++ [V.int 44]))) pT = some (.lst ((bytesI (txt ++ Wm.separator p sg)).map V.int)) := by
          rw [upd_same, es, bytesI_app, List.map_append]
          rfl
        have hr1 : (upd H' pT (.lst ((bytesI txt).map V.int ++ [V.int 44]))) r = some (.tup (segV sg)) := (upd_ne nTr).trans hr0
        have hL1 : (upd H' pT (.lst ((bytesI txt).map V.int ++ [V.int 44]))) pL = some (.lst ((lastI p sg.line).map V.int)) := (upd_ne ne.symm).trans hL
        have sm1 : Same H (upd H' pT (.lst ((bytesI txt).map V.int ++ [V.int 44]))) := fun b o eb => (upd_ne (ne_of_none eb nT)).trans (sm b o eb)
        have Wl := W.len hm
        have WT := W.turn G hm
        have eS := numbers_steps p sg
        rw [eS] at Wl WT
        refine ⟨_, rfl, r, _, rfl, .inr (SqT.of hr1), 1, _, rfl, range_b sg, for_range (lo := 1) (n := (((segV sg).length : Int) - 1).toNat) (fun j σ H3 => ∃ x4, WnInv H a pT pL r sg (txt ++ Wm.separator p sg) (lastI p sg.line) j σ H3 x4) ⟨_, rfl, sm1, hT1.trans (by rw [List.take_zero]; simp), hL1, hr1⟩ ?_ ?_⟩
        · rintro j σ H3 hj ⟨x4, rfl, sm3, hT3, hL3, hr3⟩
          rw [range_n] at hj
          obtain ⟨x, hx⟩ := sn_get hj
          obtain ⟨y, hy⟩ := L_get (lastI_len p sg.line) hj
          refine ⟨_, rfl, .inl ⟨rfl, _, SqL.of hT3⟩, _, rfl, _, rfl, r, _, _, _, rfl, rfl, SqT.of hr3, atN (one_nat j) (seg_at hx), _, rfl, _, rfl, pL, _, _, _, rfl, rfl, SqL.of hL3, atN (one_nat j) (int_at hy), _, _, rfl, rfl, x - y, rfl, coded_small (sn_in hok x (List.mem_of_getElem? hx)) (lastI_all W.inn sg.line y hy), fun q3 nq3 => ?_⟩
          have s3 : Same H3 (upd H3 q3 (.lst ((bytesI (Wm.digits (x - y))).map V.int))) := same_new nq3
          refine ⟨pT, q3, _, _, rfl, rfl, s3 _ _ hT3, upd_same, ext_room (by rw [bytes_len]; exact Wl j) hlen (by rw [bytes_len]; exact Nat.le_trans (digits_len _) (by decide)), ?_⟩
          rw [bytes_app, List.append_assoc, ← flat_snoc Wm.digits (steps_at hx hy)]
          exact ⟨_, rfl, fun b o eb => (upd_ne (ne_of_none eb nT)).trans (s3 _ _ (sm3 b o eb)), upd_same, (upd_ne ne.symm).trans (s3 _ _ hL3), (upd_ne nTr).trans (s3 _ _ hr3)⟩
        · rintro σ H3 ⟨x4, rfl, sm3, hT3, hL3, hr3⟩
          rw [range_n, ← eS, all_steps, eS] at hT3
          refine ⟨_, rfl, _, rfl, pL, r, lastI p sg.line, sn sg, rfl, hL3, SqT.of hr3, sn_le6 rfl rfl, six1000 rfl, fun o => SqT.of ((upd_ne nLr).trans hr3), ?_⟩
          refine ⟨_, Wm.moved p sg, _, _, rfl, fun b o eb => (upd_ne (ne_of_none eb nL)).trans (sm3 b o eb), (upd_ne ne).trans hT3, ?_, WT.1⟩
          rw [WT.2]
          exact upd_same
      · have es := e0 (fun z => c2 (sz0.mpr z))
        have hT1 : H' pT = some (.lst ((bytesI (txt ++ Wm.separator p sg)).map V.int)) := by
          rw [es, List.append_nil]
          exact hT
        have hr1 := hr0
        have hL1 := hL
        have sm1 := sm
        have Wl := W.len hm
        have WT := W.turn G hm
        have eS := numbers_steps p sg
        rw [eS] at Wl WT
        refine ⟨_, rfl, r, _, rfl, .inr (SqT.of hr1), 1, _, rfl, range_b sg, for_range (lo := 1) (n := (((segV sg).length : Int) - 1).toNat) (fun j σ H3 => ∃ x4, WnInv H a pT pL r sg (txt ++ Wm.separator p sg) (lastI p sg.line) j σ H3 x4) ⟨_, rfl, sm1, hT1.trans (by rw [List.take_zero]; simp), hL1, hr1⟩ ?_ ?_⟩
        · rintro j σ H3 hj ⟨x4, rfl, sm3, hT3, hL3, hr3⟩
          rw [range_n] at hj
          obtain ⟨x, hx⟩ := sn_get hj
          obtain ⟨y, hy⟩ := L_get (lastI_len p sg.line) hj
          refine ⟨_, rfl, .inl ⟨rfl, _, SqL.of hT3⟩, _, rfl, _, rfl, r, _, _, _, rfl, rfl, SqT.of hr3, atN (one_nat j) (seg_at hx), _, rfl, _, rfl, pL, _, _, _, rfl, rfl, SqL.of hL3, atN (one_nat j) (int_at hy), _, _, rfl, rfl, x - y, rfl, coded_small (sn_in hok x (List.mem_of_getElem? hx)) (lastI_all W.inn sg.line y hy), fun q3 nq3 => ?_⟩
          have s3 : Same H3 (upd H3 q3 (.lst ((bytesI (Wm.digits (x - y))).map V.int))) := same_new nq3
          refine ⟨pT, q3, _, _, rfl, rfl, s3 _ _ hT3, upd_same, ext_room (by rw [bytes_len]; exact Wl j) hlen (by rw [bytes_len]; exact Nat.le_trans (digits_len _) (by decide)), ?_⟩
          rw [bytes_app, List.append_assoc, ← flat_snoc Wm.digits (steps_at hx hy)]
          exact ⟨_, rfl, fun b o eb => (upd_ne (ne_of_none eb nT)).trans (s3 _ _ (sm3 b o eb)), upd_same, (upd_ne ne.symm).trans (s3 _ _ hL3), (upd_ne nTr).trans (s3 _ _ hr3)⟩
        · rintro σ H3 ⟨x4, rfl, sm3, hT3, hL3, hr3⟩
          rw [range_n, ← eS, all_steps, eS] at hT3
          refine ⟨_, rfl, _, rfl, pL, r, lastI p sg.line, sn sg, rfl, hL3, SqT.of hr3, sn_le6 rfl rfl, six1000 rfl, fun o => SqT.of ((upd_ne nLr).trans hr3), ?_⟩
          refine ⟨_, Wm.moved p sg, _, _, rfl, fun b o eb => (upd_ne (ne_of_none eb nL)).trans (sm3 b o eb), (upd_ne ne).trans hT3, ?_, WT.1⟩
          rw [WT.2]
          exact upd_same
end
end Wq

set_option Elab.async false
set_option maxRecDepth 100000
set_option maxHeartbeats 1000000
set_option linter.all false
/-! # The four maps in the heap -/
namespace Wq
open PySem PySem.Spec PyProof.Rows L2
structure Held (H : Hp) (a : Addr) (ads : List Addr) (st : Wm.State) : Prop where
  lst : H a = some (.lst (ads.map V.ref))
  n4 : ads.length = 4
  nd : ∀ (i j : Nat) (p : Addr), ads[i]? = some p → ads[j]? = some p → i = j
  na : a ∉ ads
  at_ : ∀ (k : Nat) (p : Addr) (m : Wm.Map), ads[k]? = some p → st[k]? = some m → MapAt H p m
  fits : Fits st
/-- what a call may change: the list of the maps, the maps' lists -/
structure Stp (H : Hp) (a : Addr) (ads : List Addr) (H' : Hp) (ads' : List Addr) : Prop where
  keep : ∀ b o, H b = some o → b ≠ a → b ∉ ads → H' b = some o
  new : ∀ p ∈ ads', p ∈ ads ∨ H p = none
theorem MapAt.same {H H' : Hp} {p : Addr} {m : Wm.Map} (h : MapAt H p m) (s : Same H H') : MapAt H' p m := by
  obtain ⟨rs, h1, S⟩ := h
  exact ⟨rs, s _ _ h1, S.mono (Tups.of s)⟩
theorem Held.same {H H' : Hp} {a : Addr} {ads : List Addr} {st : Wm.State} (h : Held H a ads st) (s : Same H H') : Held H' a ads st :=
  ⟨s _ _ h.lst, h.n4, h.nd, h.na, fun k p m e1 e2 => (h.at_ k p m e1 e2).same s, h.fits⟩
theorem Stp.same {H H' : Hp} {a : Addr} {ads : List Addr} (s : Same H H') : Stp H a ads H' ads := ⟨fun b o e _ _ => s b o e, fun p h => .inl h⟩
theorem Held.get {H : Hp} {a : Addr} {ads : List Addr} {st : Wm.State} (h : Held H a ads st) {k : Nat} (hk : k < 4) :
    ∃ p rs, ads[k]? = some p ∧ (ads.map V.ref)[k]? = some (.ref p) ∧ H p = some (.lst (rs.map V.ref)) ∧ SegsAt H rs (Wm.mapAt st k) ∧ p ≠ a := by
  have h4 : k < ads.length := by rw [h.n4]; exact hk
  have e : ads[k]? = some ads[k] := List.getElem?_eq_getElem h4
  obtain ⟨rs, h1, S⟩ := h.at_ k ads[k] _ e (h.fits.get hk).1
  refine ⟨ads[k], rs, e, ?_, h1, S, fun z => h.na ?_⟩
  · rw [List.getElem?_map, e]
    rfl
  · rw [← z]
    exact List.getElem_mem h4
/-- one map's list is given other items -/
theorem Held.mod {H : Hp} {a : Addr} {ads : List Addr} {st : Wm.State} (h : Held H a ads st) {k : Nat} {p : Addr} (hk : ads[k]? = some p) {rs : List Addr} {m : Wm.Map} (S : SegsAt H rs m) (F : Fit m) : Held (upd H p (.lst (rs.map V.ref))) a ads (st.set k m) := by
  have hmem : p ∈ ads := List.mem_of_getElem? hk
  have hk4 : k < 4 := by
    rw [← h.n4]
    exact lt_of_at hk
  obtain ⟨rs0, h0, S0⟩ := h.at_ k p _ hk (h.fits.get hk4).1
  have T : Tups H (upd H p (.lst (rs.map V.ref))) := Tups.upd h0
  have npa : a ≠ p := fun z => h.na (z ▸ hmem)
  refine ⟨(upd_ne npa).trans h.lst, h.n4, h.nd, h.na, fun i q u e1 e2 => ?_, h.fits.set F⟩
  by_cases hi : k = i
  · subst hi
    have eq : p = q := Option.some.inj (hk.symm.trans e1)
    subst eq
    rw [List.getElem?_set_self (by rw [h.fits.len]; exact hk4)] at e2
    have em : m = u := Option.some.inj e2
    subst em
    exact ⟨rs, upd_same, S.mono T⟩
  · rw [List.getElem?_set_ne hi] at e2
    obtain ⟨rs1, h1, S1⟩ := h.at_ i q u e1 e2
    have npq : q ≠ p := fun z => hi (h.nd k i p hk (by rw [e1, z]))
    exact ⟨rs1, (upd_ne npq).trans h1, S1.mono T⟩
theorem Stp.mod {H : Hp} {a : Addr} {ads : List Addr} {k : Nat} {p : Addr} (hk : ads[k]? = some p) {o : HO} : Stp H a ads (upd H p o) ads :=
  ⟨fun b u e _ nb => (upd_ne (fun (z : b = p) => nb (by rw [z]; exact List.mem_of_getElem? hk))).trans e, fun q hq => .inl hq⟩
/-- a new list in a map's place -/
theorem Held.put {H : Hp} {a : Addr} {ads : List Addr} {st : Wm.State} (h : Held H a ads st) {k : Nat} (hk : k < 4) {l : Addr} {m : Wm.Map} (M : MapAt H l m) (F : Fit m) (nl : l ∉ ads) (na : a ≠ l) : Held (upd H a (.lst ((ads.set k l).map V.ref))) a (ads.set k l) (st.set k m) := by
  have T : Tups H (upd H a (.lst ((ads.set k l).map V.ref))) := Tups.upd h.lst
  refine ⟨upd_same, by rw [List.length_set]; exact h.n4, fun i j p e1 e2 => ?_, fun z => ?_, fun i q u e1 e2 => ?_, h.fits.set F⟩
  · by_cases hi : k = i
    · by_cases hj : k = j
      · exact hi.symm.trans hj
      · subst hi
        rw [List.getElem?_set_self (by rw [h.n4]; exact hk)] at e1
        rw [List.getElem?_set_ne hj] at e2
        exact absurd (List.mem_of_getElem? e2) (by rw [← Option.some.inj e1]; exact nl)
    · by_cases hj : k = j
      · subst hj
        rw [List.getElem?_set_self (by rw [h.n4]; exact hk)] at e2
        rw [List.getElem?_set_ne hi] at e1
        exact absurd (List.mem_of_getElem? e1) (by rw [← Option.some.inj e2]; exact nl)
      · rw [List.getElem?_set_ne hi] at e1
        rw [List.getElem?_set_ne hj] at e2
        exact h.nd i j p e1 e2
  · rcases List.mem_or_eq_of_mem_set z with z | z
    · exact h.na z
    · exact na z
  · by_cases hi : k = i
    · subst hi
      rw [List.getElem?_set_self (by rw [h.n4]; exact hk)] at e1
      rw [List.getElem?_set_self (by rw [h.fits.len]; exact hk)] at e2
      have eq : l = q := Option.some.inj e1
      have em : m = u := Option.some.inj e2
      subst eq em
      obtain ⟨rs, h1, S⟩ := M
      exact ⟨rs, (upd_ne (Ne.symm na)).trans h1, S.mono T⟩
    · rw [List.getElem?_set_ne hi] at e1 e2
      obtain ⟨rs, h1, S⟩ := h.at_ i q u e1 e2
      refine ⟨rs, (upd_ne (fun z => h.na ?_)).trans h1, S.mono T⟩
      rw [← z]
      exact List.mem_of_getElem? e1
theorem Stp.put {H : Hp} {a : Addr} {ads : List Addr} {k : Nat} {l : Addr} {o : HO} (nl : H l = none) : Stp H a ads (upd H a o) (ads.set k l) := by
  refine ⟨fun b u e nb _ => (upd_ne nb).trans e, fun q hq => ?_⟩
  rcases List.mem_or_eq_of_mem_set hq with h | h
  · exact .inl h
  · rw [h]
    exact .inr nl
theorem Stp.putS {H H1 : Hp} {a : Addr} {ads : List Addr} {k : Nat} {l : Addr} {o : HO} (s : Same H H1) (nl : H l = none) : Stp H a ads (upd H1 a o) (ads.set k l) :=
  ⟨fun b u e nb _ => (upd_ne nb).trans (s b u e), (Stp.put (a := a) (o := o) nl).new⟩
theorem Held.fresh {H : Hp} {a : Addr} {ads : List Addr} {st : Wm.State} (h : Held H a ads st) {l : Addr} (nl : H l = none) : l ∉ ads := fun z => by
  obtain ⟨i, hi⟩ := List.getElem?_of_mem z
  obtain ⟨rs', hl', _⟩ := h.at_ i l _ hi (h.fits.get (by rw [← h.n4]; exact lt_of_at hi)).1
  rw [nl] at hl'
  cases hl'
theorem Stp.after {H H1 H2 : Hp} {a : Addr} {ads ads2 : List Addr} (s : Same H H1) (t : Stp H1 a ads H2 ads2) (hn : ∀ p ∈ ads2, p ∈ ads ∨ H p = none) : Stp H a ads H2 ads2 :=
  ⟨fun b o e n1 n2 => t.keep b o (s b o e) n1 n2, hn⟩
theorem Stp.then_ {H H1 H2 : Hp} {a : Addr} {ads ads1 : List Addr} (t : Stp H a ads H1 ads1) (s : Same H1 H2) : Stp H a ads H2 ads1 :=
  ⟨fun b o e n1 n2 => s _ _ (t.keep b o e n1 n2), t.new⟩
/-- a list that is none of the maps' is changed -/
theorem Held.other {H : Hp} {a : Addr} {ads : List Addr} {st : Wm.State} (h : Held H a ads st) {p : Addr} {xs ys : List V} (na : a ≠ p) (np : p ∉ ads) (hp : H p = some (.lst xs)) : Held (upd H p (.lst ys)) a ads st := by
  refine ⟨(upd_ne na).trans h.lst, h.n4, h.nd, h.na, fun k q m e1 e2 => ?_, h.fits⟩
  obtain ⟨rs, h1, S⟩ := h.at_ k q m e1 e2
  exact ⟨rs, (upd_ne (fun (z : q = p) => np (by rw [← z]; exact List.mem_of_getElem? e1))).trans h1, S.mono (Tups.upd hp)⟩
/-- an answer: a new list at p -/
def Ans (H : Hp) (a : Addr) (ads : List Addr) (st : Wm.State) (c : Wm.Call) (Q : VK) : Prop :=
  ∀ (H' : Hp) (p : Addr) (ads' : List Addr), Held H' a ads' (Wm.step st c).1 → Stp H a ads H' ads' → H p = none → H' p = some (.lst ((ans st c).map V.int)) → Q (.ref p) H'
theorem upd_free {H : Hp} {a b : Addr} {o : HO} (h : upd H a o b = none) : H b = none := by
  by_cases e : b = a
  · subst e
    rw [upd_same] at h
    cases h
  · rw [upd_ne e] at h
    exact h
section
variable {H H1 : Hp} {a p : Addr} {ads : List Addr} {st st' : Wm.State} {c : Wm.Call} {A : Wm.Answer} {Q : VK}
theorem Ans.of (q : Ans H a ads st c Q) (e : Wm.step st c = (st', A)) : ∀ (H' : Hp) (p : Addr) (ads' : List Addr), Held H' a ads' st' → Stp H a ads H' ads' → H p = none → H' p = some (.lst ((WmNeutral.shown A).map V.int)) → Q (.ref p) H' := by
  intro H' p ads' h1 h2 h3 h4
  refine q H' p ads' ?_ h2 h3 ?_
  · rw [e]
    exact h1
  · unfold ans
    rw [e]
    exact h4
/-- nothing is changed, a new list is handed back -/
theorem Ans.keep (q : Ans H a ads st c Q) (h : Held H a ads st) (e : Wm.step st c = (st, A)) (s : Same H H1) (np : H1 p = none) : Q (.ref p) (upd H1 p (.lst ((WmNeutral.shown A).map V.int))) :=
  q.of e _ p ads (h.same (s.trans (same_new np))) (Stp.same (s.trans (same_new np))) (s.free np) upd_same
theorem Ans.keepE (q : Ans H a ads st c Q) (h : Held H a ads st) (e : Wm.step st c = (st, A)) (s : Same H H1) (np : H1 p = none) {xs : List V} (ex : xs = (WmNeutral.shown A).map V.int) : Q (.ref p) (upd H1 p (.lst xs)) := by
  rw [ex]
  exact q.keep h e s np
end
end Wq

set_option Elab.async false
set_option maxRecDepth 100000
set_option maxHeartbeats 1000000
set_option linter.all false
namespace Wq
open PySem PySem.Spec PyProof.Rows L2
/-- a segment, or None -/
def OptAt (H : Hp) (v : V) : Option Wm.Seg → Prop
  | none => v = .non
  | some s => ∃ r, v = .ref r ∧ H r = some (.tup (segV s))
theorem OptAt.same {H H' : Hp} {v : V} {o : Option Wm.Seg} (h : OptAt H v o) (s : Same H H') : OptAt H' v o := by
  cases o with
  | none => exact h
  | some x =>
    obtain ⟨r, h1, h2⟩ := h
    exact ⟨r, h1, s _ _ h2⟩
theorem OptAt.eq {H : Hp} {v : V} {o o' : Option Wm.Seg} (e : o' = o) (h : OptAt H v o) : OptAt H v o' := by
  rw [e]
  exact h
theorem len5_ge {n : Nat} : decide ((5 : Int) ≤ (n : Int)) = decide ((n : Int) ≥ 5) := rfl
section
variable {P : Program} {w : World} {K : PySem.W.Frag} {mg : Str → Option Value} {base : Heap} {aS : Addr}
/-! ### has_origin -/
abbrev s_has_origin : Stmt := top 6
theorem sc_has_origin : FnScope ["segment"] ["segment"] (defScope s_has_origin) := ⟨rfl, rfl, rfl, by decide +kernel, rfl, by decide +kernel, by decide +kernel⟩
def sp_has_origin (K : PySem.W.Frag) : Sp := fun vs H Q _ => ∃ (a : Addr) (s : Wm.Seg), vs = [.ref a] ∧ H a = some (.tup (segV s)) ∧ Q (.bl s.orig.isSome) H
theorem ok_has_origin {f : Addr} {fd : FuncData} (F : Fun K "has_origin" "has_origin" s_has_origin f fd) (T : Txt K mg aS) : FnOk P w K mg base CX0 1 f fd ["segment"] (sp_has_origin K) := by
  refine F.ok sc_has_origin (fun vs H Q E h => ?_) (fun cdv A outer s H vs Q E hr h => ?_)
  · obtain ⟨a, sg, rfl, _⟩ := h
    rfl
  · obtain ⟨a, sg, rfl, hA, q⟩ := h
    refine ⟨_, (pss_one (ps_ret (pe_cmpR op_ge (pe_callB call_len_seq (by rfl) T.len PySem.boot_len (pa_cons (pv 0) pa_nil)) pe_int (nomark _)))), ?_⟩
    refine ⟨_, rfl, a, _, rfl, .inr (SqT.of hA), _, _, rfl, rfl, ?_⟩
    rw [segV_len]
    rw [← org_len] at q
    exact q
/-! ### has_name -/
abbrev s_has_name : Stmt := top 7
theorem sc_has_name : FnScope ["segment"] ["segment"] (defScope s_has_name) := ⟨rfl, rfl, rfl, by decide +kernel, rfl, by decide +kernel, by decide +kernel⟩
def sp_has_name (K : PySem.W.Frag) : Sp := fun vs H Q _ => ∃ (a : Addr) (s : Wm.Seg), vs = [.ref a] ∧ H a = some (.tup (segV s)) ∧ Q (.bl (named s)) H
theorem eqB {x y : Int} {_ : Decidable (V.int x = V.int y)} : decide (V.int x = V.int y) = decide (x = y) := by
  by_cases h : x = y
  · rw [decide_eq_true (congrArg V.int h), decide_eq_true h]
  · rw [decide_eq_false (fun z => h (V.int.inj z)), decide_eq_false h]
theorem ok_has_name {f : Addr} {fd : FuncData} (F : Fun K "has_name" "has_name" s_has_name f fd) (T : Txt K mg aS) : FnOk P w K mg base CX0 1 f fd ["segment"] (sp_has_name K) := by
  refine F.ok sc_has_name (fun vs H Q E h => ?_) (fun cdv A outer s H vs Q E hr h => ?_)
  · obtain ⟨a, sg, rfl, _⟩ := h
    rfl
  · obtain ⟨a, sg, rfl, hA, q⟩ := h
    refine ⟨_, (pss_one (ps_ret (pe_cmpR op_eq (pe_callB call_len_seq (by rfl) T.len PySem.boot_len (pa_cons (pv 0) pa_nil)) pe_int (nomark _)))), ?_⟩
    refine ⟨_, rfl, a, _, rfl, .inr (SqT.of hA), rfl, ?_⟩
    rw [segV_len, eqB]
    rw [← nam_len] at q
    exact q
/-! ### are_segments -/
abbrev s_are_segments : Stmt := top 5
theorem sc_are_segments : FnScope ["rows", "numbers"] ["rows"] (defScope s_are_segments) := ⟨rfl, rfl, rfl, by decide +kernel, rfl, by decide +kernel, by decide +kernel⟩
def sp_are_segments (K : PySem.W.Frag) : Sp := fun vs H Q _ => ∃ (a : Addr) (rs : List Addr) (m : Wm.Map), vs = [.ref a] ∧ SqL K H a (rs.map V.ref) ∧ SegsAt H rs m ∧ Q (.bl (m.all Wm.Seg.ok)) H
theorem ok_are_segments {f f1 : Addr} {fd fd1 : FuncData} (F : Fun K "are_segments" "are_segments" s_are_segments f fd) (T : Txt K mg aS) (D_is_segment : Df P w K mg base 1 "is_segment" ["numbers"] (sp_is_segment K) f1 fd1) :
    FnOk P w K mg base CX0 2 f fd ["rows"] (sp_are_segments K) := by
  refine F.ok sc_are_segments (fun vs H Q E h => ?_) (fun cdv A outer s H vs Q E hr h => ?_)
  · obtain ⟨a, rs, m, rfl, _⟩ := h
    rfl
  · obtain ⟨a, rs, m, rfl, hA, S, q⟩ := h
    refine ⟨_, (pss_cons (ps_for PassesOwn.never rfl (pi_list (pv 0)) (pg_name (i := 1) sc_are_segments.nd rfl (Or.inl rfl)) (pss_one (ps_if (pt_not (pt_val (pe_call D_is_segment.ok (hr.mono (by decide)) (by rfl) D_is_segment.g D_is_segment.kp D_is_segment.b .nil pass0 (pa_cons (pv 1) pa_nil)))) (pss_one (ps_ret pe_bl)) pss_nil)))
      (pss_one (ps_ret pe_bl))), ?_⟩
    refine ⟨_, rfl, a, rfl, ⟨_, hA⟩, for_list (K := K) (a := a) (xs := rs.map V.ref) (fun i σ H' => ∃ v : Option V, σ = [some (.ref a), v] ∧ H' = H ∧ (m.take i).all Wm.Seg.ok = true) ⟨none, rfl, rfl, rfl⟩ (fun i σ H' _ ⟨_, _, e, _⟩ => by rw [e]; exact hA) ?_ ?_⟩
    · rintro i y σ H' hi ⟨v, rfl, rfl, ht⟩
      obtain ⟨r, sg, rfl, hs, hr1⟩ := S.item hi
      refine ⟨_, rfl, r, sn sg, rfl, .inr (SqT.of hr1), _, rfl, ?_⟩
      rw [ok_isSeg]
      refine ifNB (fun c => ?_) (fun c => ?_)
      · rw [all_stop hs c] at q
        exact q
      · exact ⟨_, rfl, rfl, all_next hs ht c⟩
    · rintro σ H' ⟨v, rfl, rfl, ht⟩
      rw [all_end S.refs_len ht] at q
      exact q
/-! ### are_behind -/
abbrev s_are_behind : Stmt := top 9
theorem sc_are_behind : FnScope ["others", "segments", "segment"] ["others", "segments"] (defScope s_are_behind) := ⟨rfl, rfl, rfl, by decide +kernel, rfl, by decide +kernel, by decide +kernel⟩
def sp_are_behind (K : PySem.W.Frag) : Sp := fun vs H Q _ => ∃ (a b : Addr) (rs rs0 : List Addr) (m m0 : Wm.Map), vs = [.ref a, .ref b] ∧ SqL K H a (rs.map V.ref) ∧ SegsAt H rs m ∧ SqL K H b (rs0.map V.ref) ∧ SegsAt H rs0 m0 ∧ Q (.bl (m.all (Wm.last m0))) H
theorem ok_are_behind {f f1 : Addr} {fd fd1 : FuncData} (F : Fun K "are_behind" "are_behind" s_are_behind f fd) (T : Txt K mg aS) (D_is_behind : Df P w K mg base 1 "is_behind" ["segment", "segments"] (sp_is_behind K) f1 fd1) :
    FnOk P w K mg base CX0 2 f fd ["others", "segments"] (sp_are_behind K) := by
  refine F.ok sc_are_behind (fun vs H Q E h => ?_) (fun cdv A outer s H vs Q E hr h => ?_)
  · obtain ⟨a, b, rs, rs0, m, m0, rfl, _⟩ := h
    rfl
  · obtain ⟨a, b, rs, rs0, m, m0, rfl, hA, S, hB, S0, q⟩ := h
    refine ⟨_, (pss_cons (ps_for PassesOwn.never rfl (pi_list (pv 0)) (pg_name (i := 2) sc_are_behind.nd rfl (Or.inl rfl)) (pss_one (ps_if (pt_not (pt_val (pe_call D_is_behind.ok (hr.mono (by decide)) (by rfl) D_is_behind.g D_is_behind.kp D_is_behind.b .nil pass0 (pa_cons (pv 2) (pa_cons (pv 1) pa_nil))))) (pss_one (ps_ret pe_bl)) pss_nil)))
      (pss_one (ps_ret pe_bl))), ?_⟩
    refine ⟨_, rfl, a, rfl, ⟨_, hA⟩, for_list (K := K) (a := a) (xs := rs.map V.ref) (fun i σ H' => ∃ v : Option V, σ = [some (.ref a), some (.ref b), v] ∧ H' = H ∧ (m.take i).all (Wm.last m0) = true) ⟨none, rfl, rfl, rfl⟩ (fun i σ H' _ ⟨_, _, e, _⟩ => by rw [e]; exact hA) ?_ ?_⟩
    · rintro i y σ H' hi ⟨v, rfl, rfl, ht⟩
      obtain ⟨r, sg, rfl, hs, hr1⟩ := S.item hi
      refine ⟨_, rfl, _, rfl, r, b, sn sg, _, Wm.last m0 sg, rfl, .inr (SqT.of hr1), (sn_len sg).1, hB, behind_how sg S0, _, rfl, ifNB (fun c => ?_) (fun c => ?_)⟩
      · rw [all_stop hs c] at q
        exact q
      · exact ⟨_, rfl, rfl, all_next hs ht c⟩
    · rintro σ H' ⟨v, rfl, rfl, ht⟩
      rw [all_end S.refs_len ht] at q
      exact q
/-! ### came_from_line -/
abbrev s_came_from_line : Stmt := top 12
theorem sc_came_from_line : FnScope ["segment", "source", "line"] ["segment", "source", "line"] (defScope s_came_from_line) := ⟨rfl, rfl, rfl, by decide +kernel, rfl, by decide +kernel, by decide +kernel⟩
def sp_came_from_line (K : PySem.W.Frag) : Sp := fun vs H Q _ => ∃ (a : Addr) (s : Wm.Seg) (src line : Nat), vs = [.ref a, .int src, .int line] ∧ H a = some (.tup (segV s)) ∧ Q (.bl (fromLine src line s)) H
theorem natB {x y : Nat} {_ : Decidable (V.int (x : Int) = V.int (y : Int))} : decide (V.int (x : Int) = V.int (y : Int)) = (x == y) := by
  rw [eqB]
  by_cases h : x = y
  · rw [decide_eq_true (congrArg _ h), beq_iff_eq.mpr h]
  · rw [decide_eq_false (fun z : (x : Int) = (y : Int) => h (by omega)), beq_eq_false_iff_ne.mpr h]
theorem ok_came_from_line {f f1 : Addr} {fd fd1 : FuncData} (F : Fun K "came_from_line" "came_from_line" s_came_from_line f fd) (T : Txt K mg aS) (D_has_origin : Df P w K mg base 1 "has_origin" ["segment"] (sp_has_origin K) f1 fd1) :
    FnOk P w K mg base CX0 2 f fd ["segment", "source", "line"] (sp_came_from_line K) := by
  refine F.ok sc_came_from_line (fun vs H Q E h => ?_) (fun cdv A outer s H vs Q E hr h => ?_)
  · obtain ⟨a, sg, src, line, rfl, _⟩ := h
    rfl
  · obtain ⟨a, sg, src, line, rfl, hA, q⟩ := h
    refine ⟨_, (pss_one (ps_ret (pe_and (pe_call D_has_origin.ok (hr.mono (by decide)) (by rfl) D_has_origin.g D_has_origin.kp D_has_origin.b .nil pass0 (pa_cons (pv 0) pa_nil)) (pe_and (pe_cmpR op_eq (pe_ix ix_tup (pv 0) pe_int (fun _ _ => rfl)) (pv 1) (nomark _)) (pe_one (pe_cmpR op_eq (pe_ix ix_tup (pv 0) pe_int (fun _ _ => rfl)) (pv 2) (nomark _))))))), ?_⟩
    obtain ⟨x, y, oo⟩ := sg
    cases oo with
    | none => exact ⟨_, rfl, a, _, rfl, hA, _, rfl, iteF q⟩
    | some o =>
      refine ⟨_, rfl, a, _, rfl, hA, _, rfl, iteT ?_⟩
      refine ⟨_, rfl, a, _, _, _, rfl, rfl, SqT.of hA, atN (j := 2) rfl rfl, _, rfl, rfl, _, rfl, ?_⟩
      have q' : Q (.bl (o.src == src && o.line == line)) H := q
      rw [natB]
      refine ifB (fun c => ?_) (fun c => ?_)
      · refine ⟨_, rfl, a, _, _, _, rfl, rfl, SqT.of hA, atN (j := 3) rfl rfl, _, rfl, rfl, ?_⟩
        rw [c, Bool.true_and] at q'
        rw [natB]
        exact q'
      · rw [c, Bool.false_and] at q'
        exact q'
end
end Wq

set_option Elab.async false
set_option maxRecDepth 100000
set_option maxHeartbeats 1000000
set_option linter.all false
namespace Wq
open PySem PySem.Spec PyProof.Rows L2
section
variable {P : Program} {w : World} {K : PySem.W.Frag} {mg : Str → Option Value} {base : Heap} {aS : Addr}
/-! ### look_forward -/
abbrev s_look_forward : Stmt := top 11
theorem sc_look_forward : FnScope ["segments", "line", "col", "found", "segment"] ["segments", "line", "col"] (defScope s_look_forward) := ⟨rfl, rfl, rfl, by decide +kernel, rfl, by decide +kernel, by decide +kernel⟩
def sp_look_forward (K : PySem.W.Frag) : Sp := fun vs H Q _ => ∃ (a : Addr) (rs : List Addr) (m : Wm.Map) (line col : Nat), vs = [.ref a, .int line, .int col] ∧ SqL K H a (rs.map V.ref) ∧ SegsAt H rs m ∧ ∀ v, OptAt H v (Wm.lookAt m line col) → Q v H
theorem ok_look_forward {f : Addr} {fd : FuncData} (F : Fun K "look_forward" "look_forward" s_look_forward f fd) (T : Txt K mg aS) : FnOk P w K mg base CX0 1 f fd ["segments", "line", "col"] (sp_look_forward K) := by
  refine F.ok sc_look_forward (fun vs H Q E h => ?_) (fun cdv A outer s H vs Q E hr h => ?_)
  · obtain ⟨a, rs, m, line, col, rfl, _⟩ := h
    rfl
  · obtain ⟨a, rs, m, line, col, rfl, hA, S, q⟩ := h
    refine ⟨_, (pss_cons (ps_set (i := 3) sc_look_forward.nd rfl (Or.inl rfl) pe_non)
      (pss_cons (ps_for PassesOwn.never rfl (pi_list (pv 0)) (pg_name (i := 4) sc_look_forward.nd rfl (Or.inl rfl)) (pss_one (ps_if (PW.pt (pw_and (pt_cmpR op_eq (pe_ix ix_tup (pv 4) pe_int (fun _ _ => rfl)) (pv 1) (nomark _)) (pw_and1 (pt_cmpR op_le (pe_ix ix_tup (pv 4) pe_int (fun _ _ => rfl)) (pv 2) (nomark _))))) (pss_one (ps_set (i := 3) sc_look_forward.nd rfl (Or.inl rfl) (pv 4))) pss_nil)))
      (pss_one (ps_ret (pv 3))))), ?_⟩
    refine ⟨_, rfl, a, rfl, ⟨_, hA⟩, for_list (K := K) (a := a) (xs := rs.map V.ref) (fun i σ H' => ∃ (v : V) (x : Option V), σ = [some (.ref a), some (.int line), some (.int col), some v, x] ∧ H' = H ∧ OptAt H v (Wm.lookAt (m.take i) line col)) ⟨.non, none, rfl, rfl, rfl⟩ (fun i σ H' _ ⟨_, _, _, e, _⟩ => by rw [e]; exact hA) ?_ ?_⟩
    · rintro i y σ H' hi ⟨v, x, rfl, rfl, hv⟩
      obtain ⟨r, sg, rfl, hs, hr1⟩ := S.item hi
      refine ⟨_, rfl, r, _, _, _, rfl, rfl, SqT.of hr1, atN (j := 0) rfl rfl, _, rfl, rfl, _, rfl, ifAnd (fun h => ⟨_, rfl, r, _, _, _, rfl, rfl, SqT.of hr1, atN (j := 1) rfl rfl, _, rfl, _, _, rfl, rfl, _, rfl, h⟩) (fun c => ?_) (fun c => ?_)⟩
      · exact ⟨_, rfl, _, _, rfl, rfl, OptAt.eq (look_yes hs (V.int.inj c.1) c.2) ⟨r, rfl, hr1⟩⟩
      · exact ⟨_, _, rfl, rfl, OptAt.eq (look_no hs (fun z => c ⟨congrArg V.int z.1, z.2⟩)) hv⟩
    · rintro σ H' ⟨v, x, rfl, rfl, hv⟩
      refine ⟨_, rfl, q v ?_⟩
      rw [S.refs_len, List.take_length] at hv
      exact hv
/-! ### look_back -/
theorem seg_4 {s : Wm.Seg} {o : Wm.Origin} (h : s.orig = some o) : (segV s)[4]? = some (.int o.col) := by
  obtain ⟨x, y, oo⟩ := s
  cases h
  rfl
abbrev s_look_back : Stmt := top 13
theorem sc_look_back : FnScope ["segments", "source", "line", "col", "found", "segment"] ["segments", "source", "line", "col"] (defScope s_look_back) := ⟨rfl, rfl, rfl, by decide +kernel, rfl, by decide +kernel, by decide +kernel⟩
def sp_look_back (K : PySem.W.Frag) : Sp := fun vs H Q _ => ∃ (a : Addr) (rs : List Addr) (m : Wm.Map) (src line col : Nat), vs = [.ref a, .int src, .int line, .int col] ∧ SqL K H a (rs.map V.ref) ∧ SegsAt H rs m ∧ ∀ v, OptAt H v (Wm.lookBack m src line col) → Q v H
theorem ok_look_back {f f1 : Addr} {fd fd1 : FuncData} (F : Fun K "look_back" "look_back" s_look_back f fd) (T : Txt K mg aS) (D_came_from_line : Df P w K mg base 2 "came_from_line" ["segment", "source", "line"] (sp_came_from_line K) f1 fd1) :
    FnOk P w K mg base CX0 3 f fd ["segments", "source", "line", "col"] (sp_look_back K) := by
  refine F.ok sc_look_back (fun vs H Q E h => ?_) (fun cdv A outer s H vs Q E hr h => ?_)
  · obtain ⟨a, rs, m, src, line, col, rfl, _⟩ := h
    rfl
  · obtain ⟨a, rs, m, src, line, col, rfl, hA, S, q⟩ := h
    refine ⟨_, (pss_cons (ps_set (i := 4) sc_look_back.nd rfl (Or.inl rfl) pe_non)
      (pss_cons (ps_for PassesOwn.never rfl (pi_list (pv 0)) (pg_name (i := 5) sc_look_back.nd rfl (Or.inl rfl)) (pss_one (ps_if (PW.pt (pw_and (pt_val (pe_call D_came_from_line.ok (hr.mono (by decide)) (by rfl) D_came_from_line.g D_came_from_line.kp D_came_from_line.b .nil pass0 (pa_cons (pv 5) (pa_cons (pv 1) (pa_cons (pv 2) pa_nil))))) (pw_and1 (pt_cmpR op_le (pe_ix ix_tup (pv 5) pe_int (fun _ _ => rfl)) (pv 3) (nomark _))))) (pss_one (ps_if (PW.pt (pw_or (pt_cmpR op_isN (pv 4) pe_non (nomark _)) (pw_or1 (pt_cmpR op_gt (pe_ix ix_tup (pv 5) pe_int (fun _ _ => rfl)) (pe_ix ix_tup (pv 4) pe_int (fun _ _ => rfl)) (nomark _))))) (pss_one (ps_set (i := 4) sc_look_back.nd rfl (Or.inl rfl) (pv 5))) pss_nil)) pss_nil)))
      (pss_one (ps_ret (pv 4))))), ?_⟩
    refine ⟨_, rfl, a, rfl, ⟨_, hA⟩, for_list (K := K) (a := a) (xs := rs.map V.ref) (fun i σ H' => ∃ (v : V) (x : Option V), σ = [some (.ref a), some (.int src), some (.int line), some (.int col), some v, x] ∧ H' = H ∧ OptAt H v (Wm.lookBack (m.take i) src line col)) ⟨.non, none, rfl, rfl, rfl⟩ (fun i σ H' _ ⟨_, _, _, e, _⟩ => by rw [e]; exact hA) ?_ ?_⟩
    · rintro i y σ H' hi ⟨v, x, rfl, rfl, hv⟩
      obtain ⟨r, sg, rfl, hs, hr1⟩ := S.item hi
      refine ⟨_, rfl, _, rfl, _, rfl, r, sg, src, line, rfl, hr1, _, rfl, ifB (fun hf => ?_) (fun hf => iteF ?_)⟩
      · obtain ⟨o, ho⟩ := from_some hf
        refine ⟨_, rfl, r, _, _, _, rfl, rfl, SqT.of hr1, atN (j := 4) rfl (seg_4 ho), _, rfl, _, _, rfl, rfl, _, rfl, ifD (fun c => ?_) (fun c => ?_)⟩
        · cases e : Wm.lookBack (m.take i) src line col with
          | none =>
            rw [e] at hv
            have hv' : v = .non := hv
            subst hv'
            refine ⟨_, rfl, rfl, _, rfl, ifD (fun _ => iteT ?_) (fun z => absurd rfl z)⟩
            exact ⟨_, rfl, _, _, rfl, rfl, OptAt.eq (back_first hs ho hf c e) ⟨r, rfl, hr1⟩⟩
          | some t =>
            obtain ⟨p, hp⟩ := back_orig e
            rw [e] at hv
            obtain ⟨r2, hv', hr2⟩ := hv
            subst hv'
            refine ⟨_, rfl, rfl, _, rfl, ifD (fun z => nomatch z) (fun _ => ?_)⟩
            refine ⟨_, rfl, r, _, _, _, rfl, rfl, SqT.of hr1, atN (j := 4) rfl (seg_4 ho), _, rfl, r2, _, _, _, rfl, rfl, SqT.of hr2, atN (j := 4) rfl (seg_4 hp), _, _, rfl, rfl, _, rfl, ifD (fun d => ?_) (fun d => ?_)⟩
            · exact ⟨_, rfl, _, _, rfl, rfl, OptAt.eq (back_more hs ho hf c e hp d) ⟨r, rfl, hr1⟩⟩
            · exact ⟨_, _, rfl, rfl, OptAt.eq ((back_same hs ho hf c e hp d).trans e) ⟨r2, rfl, hr2⟩⟩
        · exact ⟨_, _, rfl, rfl, OptAt.eq (back_above hs ho c) hv⟩
      · exact ⟨_, _, rfl, rfl, OptAt.eq (back_far hs hf) hv⟩
    · rintro σ H' ⟨v, x, rfl, rfl, hv⟩
      refine ⟨_, rfl, q v ?_⟩
      rw [S.refs_len, List.take_length] at hv
      exact hv
end
end Wq

set_option Elab.async false
set_option maxRecDepth 100000
set_option maxHeartbeats 1000000
set_option linter.all false
namespace Wq
open PySem PySem.Spec PyProof.Rows L2
theorem not_whole {s : Wm.Seg} {o : Wm.Origin} (h : s.orig = some o) : ¬ (HT.sIx (segV s).length 0 none = 0 ∧ HT.sIx (segV s).length (segV s).length (some (2 : Int)) = (segV s).length) := by
  obtain ⟨x, y, oo⟩ := s
  cases h
  obtain ⟨a, b, c, n⟩ := o
  cases n with
  | none => exact fun z => absurd z.2 (by show ¬ HT.sIx 5 5 (some 2) = 5; decide)
  | some n => exact fun z => absurd z.2 (by show ¬ HT.sIx 6 6 (some 2) = 6; decide)
theorem cut_two (x y : Nat) (o : Wm.Origin) : cutV (segV ⟨x, y, some o⟩) none (some (2 : Int)) = [.int x, .int y] := by
  obtain ⟨a, b, c, n⟩ := o
  cases n <;> rfl
theorem tup_eq {H : Hp} {r : Addr} {xs ys : List V} (e : ys = xs) (h : H r = some (.tup xs)) : H r = some (.tup ys) := by
  rw [e]
  exact h
theorem segV_of {s : Wm.Seg} {z : List Int} (h : sn s = z) : segV s = z.map V.int := by
  unfold segV
  rw [h]
theorem bind_none {b : Wm.Map} {l c : Nat} (h : Wm.lookAt b l c = none) : (Wm.lookAt b l c).bind (fun (t : Wm.Seg) => t.orig) = none := by
  rw [h]
  rfl
theorem bind_some {b : Wm.Map} {l c : Nat} {t : Wm.Seg} {oo : Option Wm.Origin} (h : Wm.lookAt b l c = some t) (ht : t.orig = oo) : (Wm.lookAt b l c).bind (fun (t : Wm.Seg) => t.orig) = oo := by
  rw [h]
  exact ht
theorem src_eq {a b : Nat} (h : (a : Int) = (b : Int)) : a = b := by omega
theorem src_ne {a b : Nat} (h : (a : Int) ≠ (b : Int)) : a ≠ b := by omega
/-- new tuples and lists beside what stands -/
theorem Same.new {H H1 : Hp} {p : Addr} {o : HO} (s : Same H H1) (h : H1 p = none) : Same H (upd H1 p o) := s.trans (same_new h)
section
variable {P : Program} {w : World} {K : PySem.W.Frag} {mg : Str → Option Value} {base : Heap} {aS : Addr}
/-! ### through -/
abbrev s_through : Stmt := top 30
theorem sc_through : FnScope ["segment", "second", "source", "base", "names", "place", "found", "origin"] ["segment", "second", "source", "base", "names"] (defScope s_through) := ⟨rfl, rfl, rfl, by decide +kernel, rfl, by decide +kernel, by decide +kernel⟩
def sp_through (K : PySem.W.Frag) : Sp := fun vs H Q _ => ∃ (a b : Addr) (s : Wm.Seg) (rs : List Addr) (m : Wm.Map) (src bs nm : Nat), vs = [.ref a, .ref b, .int src, .int bs, .int nm] ∧ H a = some (.tup (segV s)) ∧ SqL K H b (rs.map V.ref) ∧ SegsAt H rs m ∧
  ∀ (H' : Hp) (r : Addr), Same H H' → H' r = some (.tup (segV (Wm.through m src bs nm s))) → Q (.ref r) H'
theorem ok_through {f f1 f2 f3 : Addr} {fd fd1 fd2 fd3 : FuncData} (F : Fun K "through" "through" s_through f fd) (T : Txt K mg aS) (D_has_origin : Df P w K mg base 1 "has_origin" ["segment"] (sp_has_origin K) f1 fd1) (D_look_forward : Df P w K mg base 1 "look_forward" ["segments", "line", "col"] (sp_look_forward K) f2 fd2) (D_has_name : Df P w K mg base 1 "has_name" ["segment"] (sp_has_name K) f3 fd3) :
    FnOk P w K mg base CX0 2 f fd ["segment", "second", "source", "base", "names"] (sp_through K) := by
  refine F.ok sc_through (fun vs H Q E h => ?_) (fun cdv A outer s H vs Q E hr h => ?_)
  · obtain ⟨a, b, sg, rs, m, src, bs, nm, rfl, _⟩ := h
    rfl
  · obtain ⟨a, b, sg, rs, m, src, bs, nm, rfl, hA, hB, S, q⟩ := h
    refine ⟨_, (pss_cons (ps_if (PW.pt (pw_or (pt_not (pt_val (pe_call D_has_origin.ok (hr.mono (by decide)) (by rfl) D_has_origin.g D_has_origin.kp D_has_origin.b .nil pass0 (pa_cons (pv 0) pa_nil)))) (pw_or1 (pt_cmpR op_ne (pe_ix ix_tup (pv 0) pe_int (fun _ _ => rfl)) (pv 2) (nomark _))))) (pss_one (ps_ret (pv 0))) pss_nil)
      (pss_cons (ps_set (i := 5) sc_through.nd rfl (Or.inl rfl) (pe_slice sl_tup (pv 0) po_none (po_some pe_int)))
      (pss_cons (ps_set (i := 6) sc_through.nd rfl (Or.inl rfl) (pe_call D_look_forward.ok (hr.mono (by decide)) (by rfl) D_look_forward.g D_look_forward.kp D_look_forward.b .nil pass0 (pa_cons (pv 1) (pa_cons (pe_ix ix_tup (pv 0) pe_int (fun _ _ => rfl)) (pa_cons (pe_ix ix_tup (pv 0) pe_int (fun _ _ => rfl)) pa_nil)))))
      (pss_cons (ps_if (PW.pt (pw_or (pt_cmpR op_isN (pv 6) pe_non (nomark _)) (pw_or1 (pt_not (pt_val (pe_call D_has_origin.ok (hr.mono (by decide)) (by rfl) D_has_origin.g D_has_origin.kp D_has_origin.b .nil pass0 (pa_cons (pv 6) pa_nil))))))) (pss_one (ps_ret (pv 5))) pss_nil)
      (pss_cons (ps_set (i := 7) sc_through.nd rfl (Or.inl rfl) (pe_tup (pa_cons (pe_op op_add (pe_ix ix_tup (pv 6) pe_int (fun _ _ => rfl)) (pv 3)) (pa_cons (pe_ix ix_tup (pv 6) pe_int (fun _ _ => rfl)) (pa_cons (pe_ix ix_tup (pv 6) pe_int (fun _ _ => rfl)) pa_nil)))))
      (pss_cons (ps_if (pt_val (pe_call D_has_name.ok (hr.mono (by decide)) (by rfl) D_has_name.g D_has_name.kp D_has_name.b .nil pass0 (pa_cons (pv 0) pa_nil))) (pss_one (ps_ret (pe_op op_catT (pe_op op_catT (pv 5) (pv 7)) (pe_tup (pa_cons (pe_ix ix_tup (pv 0) pe_int (fun _ _ => rfl)) pa_nil))))) pss_nil)
      (pss_cons (ps_if (pt_val (pe_call D_has_name.ok (hr.mono (by decide)) (by rfl) D_has_name.g D_has_name.kp D_has_name.b .nil pass0 (pa_cons (pv 6) pa_nil))) (pss_one (ps_ret (pe_op op_catT (pe_op op_catT (pv 5) (pv 7)) (pe_tup (pa_cons (pe_op op_add (pe_ix ix_tup (pv 6) pe_int (fun _ _ => rfl)) (pv 4)) pa_nil))))) pss_nil)
      (pss_one (ps_ret (pe_op op_catT (pv 5) (pv 7))))))))))), ?_⟩
    obtain ⟨x, y, oo⟩ := sg
    cases oo with
    | none => exact ⟨_, rfl, a, _, rfl, hA, _, rfl, iteT (iteT ⟨_, rfl, q H a (Same.refl H) hA⟩)⟩
    | some o =>
      refine ⟨_, rfl, a, _, rfl, hA, _, rfl, iteF ?_⟩
      refine ⟨_, rfl, a, _, _, _, rfl, rfl, SqT.of hA, atN (j := 2) rfl rfl, _, rfl, rfl, _, rfl, ifNI (fun c => ?_) (fun c => ?_)⟩
      · exact ⟨_, rfl, q H a (Same.refl H) (tup_eq (by rw [through_other (s := ⟨x, y, some o⟩) rfl (src_ne c)]) hA)⟩
      have hc := src_eq c
      refine ⟨_, rfl, _, rfl, a, _, rfl, SqT.of hA, not_whole rfl, fun p np => ?_⟩
      rw [cut_two]
      have s1 : Same H (upd H p (.tup [V.int x, V.int y])) := same_new np
      have hp : upd H p (.tup [V.int x, V.int y]) p = some (.tup [V.int x, V.int y]) := upd_same
      generalize upd H p (.tup [V.int x, V.int y]) = H1 at s1 hp
      have hA1 := s1 _ _ hA
      refine ⟨_, rfl, _, rfl, a, _, _, _, rfl, rfl, SqT.of hA1, atN (j := 3) rfl rfl, _, rfl, a, _, _, _, rfl, rfl, SqT.of hA1, atN (j := 4) rfl rfl, b, rs, m, o.line, o.col, rfl, s1.seq hB, S.mono (Tups.of s1), fun v hv => ?_⟩
      cases e : Wm.lookAt m o.line o.col with
      | none =>
        rw [e] at hv
        have hv' : v = .non := hv
        subst hv'
        refine ⟨_, rfl, rfl, _, rfl, ifD (fun _ => iteT ?_) (fun z => absurd rfl z)⟩
        exact ⟨_, rfl, q H1 p s1 (tup_eq (segV_of (thr_lost hc (bind_none e))) hp)⟩
      | some t =>
        rw [e] at hv
        obtain ⟨r2, hv', hr2⟩ := hv
        subst hv'
        refine ⟨_, rfl, rfl, _, rfl, ifD (fun z => nomatch z) (fun _ => ?_)⟩
        obtain ⟨tx, ty, to⟩ := t
        cases to with
        | none =>
          refine ⟨_, rfl, r2, _, rfl, hr2, _, rfl, iteT ?_⟩
          exact ⟨_, rfl, q H1 p s1 (tup_eq (segV_of (thr_lost hc (bind_some e rfl))) hp)⟩
        | some u =>
          refine ⟨_, rfl, r2, _, rfl, hr2, _, rfl, iteF ?_⟩
          refine ⟨_, rfl, r2, _, _, _, rfl, rfl, SqT.of hr2, atN (j := 2) rfl rfl, _, rfl, _, _, rfl, rfl, _, rfl, r2, _, _, _, rfl, rfl, SqT.of hr2, atN (j := 3) rfl rfl, _, rfl, r2, _, _, _, rfl, rfl, SqT.of hr2, atN (j := 4) rfl rfl, (by show 3 ≤ sizeLine; decide), fun p2 np2 => ?_⟩
          have s2 : Same H1 (upd H1 p2 (.tup [V.int ((u.src : Int) + bs), V.int u.line, V.int u.col])) := same_new np2
          have hp2 : upd H1 p2 (.tup [V.int ((u.src : Int) + bs), V.int u.line, V.int u.col]) p2 = some (.tup [V.int ((u.src : Int) + bs), V.int u.line, V.int u.col]) := upd_same
          generalize upd H1 p2 (.tup [V.int ((u.src : Int) + bs), V.int u.line, V.int u.col]) = H2 at s2 hp2
          have hA2 := s2 _ _ hA1
          have hq2 := s2 _ _ hp
          have hr22 := s2 _ _ hr2
          have s12 := s1.trans s2
          have eu : (Wm.lookAt m o.line o.col).bind (fun (t : Wm.Seg) => t.orig) = some u := bind_some e rfl
          obtain ⟨o1, o2, o3, on⟩ := o
          obtain ⟨u1, u2, u3, un⟩ := u
          cases on with
          | some z =>
            refine ⟨_, rfl, a, _, rfl, hA2, _, rfl, iteT ?_⟩
            refine ⟨_, rfl, _, rfl, p, p2, _, _, rfl, rfl, SqT.of hq2, SqT.of hp2, (fun z => nomatch z), (by show 5 ≤ sizeLine; decide), (fun z => nomatch z), fun _ p3 np3 => ?_⟩
            let xs3 : List V := [V.int x, V.int y] ++ [V.int ((u1 : Int) + bs), V.int u2, V.int u3]
            have s3 : Same H2 (upd H2 p3 (.tup xs3)) := same_new np3
            refine ⟨_, rfl, a, _, _, _, rfl, rfl, SqT.of (s3 _ _ hA2), atN (j := 5) rfl rfl, (by show 1 ≤ sizeLine; decide), fun p4 np4 => ?_⟩
            have s4 : Same (upd H2 p3 (.tup xs3)) (upd (upd H2 p3 (.tup xs3)) p4 (.tup [V.int z])) := same_new np4
            refine ⟨p3, p4, _, _, rfl, rfl, SqT.of (s4 _ _ upd_same), SqT.of upd_same, (fun z => nomatch z), (by show 6 ≤ sizeLine; decide), (fun z => nomatch z), fun _ p5 np5 => ?_⟩
            have s5 : Same (upd (upd H2 p3 (.tup xs3)) p4 (.tup [V.int z])) (upd (upd (upd H2 p3 (.tup xs3)) p4 (.tup [V.int z])) p5 (.tup (xs3 ++ [V.int z]))) := same_new np5
            exact q _ p5 (s12.trans (s3.trans (s4.trans s5))) (tup_eq (segV_of (thr_own hc eu rfl)) upd_same)
          | none =>
            refine ⟨_, rfl, a, _, rfl, hA2, _, rfl, iteF ?_⟩
            cases un with
            | some z =>
              refine ⟨_, rfl, r2, _, rfl, hr22, _, rfl, iteT ?_⟩
              refine ⟨_, rfl, _, rfl, p, p2, _, _, rfl, rfl, SqT.of hq2, SqT.of hp2, (fun z => nomatch z), (by show 5 ≤ sizeLine; decide), (fun z => nomatch z), fun _ p3 np3 => ?_⟩
              let xs3 : List V := [V.int x, V.int y] ++ [V.int ((u1 : Int) + bs), V.int u2, V.int u3]
              have s3 : Same H2 (upd H2 p3 (.tup xs3)) := same_new np3
              refine ⟨_, rfl, r2, _, _, _, rfl, rfl, SqT.of (s3 _ _ hr22), atN (j := 5) rfl rfl, _, rfl, _, _, rfl, rfl, (by show 1 ≤ sizeLine; decide), fun p4 np4 => ?_⟩
              have s4 : Same (upd H2 p3 (.tup xs3)) (upd (upd H2 p3 (.tup xs3)) p4 (.tup [V.int ((z : Int) + nm)])) := same_new np4
              refine ⟨p3, p4, _, _, rfl, rfl, SqT.of (s4 _ _ upd_same), SqT.of upd_same, (fun z => nomatch z), (by show 6 ≤ sizeLine; decide), (fun z => nomatch z), fun _ p5 np5 => ?_⟩
              have s5 : Same (upd (upd H2 p3 (.tup xs3)) p4 (.tup [V.int ((z : Int) + nm)])) (upd (upd (upd H2 p3 (.tup xs3)) p4 (.tup [V.int ((z : Int) + nm)])) p5 (.tup (xs3 ++ [V.int ((z : Int) + nm)]))) := same_new np5
              exact q _ p5 (s12.trans (s3.trans (s4.trans s5))) (tup_eq (segV_of (thr_new hc eu rfl rfl)) upd_same)
            | none =>
              refine ⟨_, rfl, r2, _, rfl, hr22, _, rfl, iteF ?_⟩
              refine ⟨_, rfl, _, rfl, p, p2, _, _, rfl, rfl, SqT.of hq2, SqT.of hp2, (fun z => nomatch z), (by show 5 ≤ sizeLine; decide), (fun z => nomatch z), fun _ p3 np3 => ?_⟩
              exact q _ p3 (s12.trans (same_new np3)) (tup_eq (segV_of (thr_five hc eu rfl rfl)) upd_same)
/-! ### joined -/
abbrev s_joined : Stmt := top 31
theorem sc_joined : FnScope ["first", "second", "source", "base", "names", "segment"] ["first", "second", "source", "base", "names"] (defScope s_joined) := ⟨rfl, rfl, rfl, by decide +kernel, rfl, by decide +kernel, by decide +kernel⟩
def sp_joined (K : PySem.W.Frag) : Sp := fun vs H Q _ => ∃ (a b : Addr) (rs rs0 : List Addr) (m m0 : Wm.Map) (src bs nm : Nat), vs = [.ref a, .ref b, .int src, .int bs, .int nm] ∧ SqL K H a (rs.map V.ref) ∧ SegsAt H rs m ∧ SqL K H b (rs0.map V.ref) ∧ SegsAt H rs0 m0 ∧ m.length ≤ 200 ∧
  ∀ (H' : Hp) (p : Addr), Same H H' → H p = none → MapAt H' p (Wm.joined m m0 src bs nm) → Q (.ref p) H'
theorem room200 {rs : List Addr} {m m1 : Wm.Map} {H : Hp} {i : Nat} (S : SegsAt H rs m1) (e : m1.length = (m.take i).length) (h : m.length ≤ 200) : (rs.map V.ref).length < sizeLine := by
  rw [S.refs_len, e, List.length_take]
  exact Nat.lt_of_le_of_lt (Nat.le_trans (Nat.min_le_right _ _) h) (by decide)
theorem ok_joined {f f1 : Addr} {fd fd1 : FuncData} (F : Fun K "joined" "joined" s_joined f fd) (T : Txt K mg aS) (D_through : Df P w K mg base 2 "through" ["segment", "second", "source", "base", "names"] (sp_through K) f1 fd1) :
    FnOk P w K mg base CX0 3 f fd ["first", "second", "source", "base", "names"] (sp_joined K) := by
  refine F.ok sc_joined (fun vs H Q E h => ?_) (fun cdv A outer s H vs Q E hr h => ?_)
  · obtain ⟨a, b, rs, rs0, m, m0, src, bs, nm, rfl, _⟩ := h
    rfl
  · obtain ⟨a, b, rs, rs0, m, m0, src, bs, nm, rfl, hA, S, hB, S0, hm, q⟩ := h
    refine ⟨_, (pss_one (ps_ret (pe_lc (own := [("segment", 5)]) (g := gName 5) (tt := tYes) (by rfl) sc_joined.nd (pi_list (pv 0)) (blkOk_by (own := [("segment", 5)]) (N := ["first", "second", "source", "base", "names", "segment"]) (sc := defScope s_joined) (by decide +kernel))
      (fun _ _ _ _ _ => pg_name (i := 5) sc_joined.nd rfl (Or.inl rfl)) (fun _ _ _ _ _ => pts_nil)
      (fun _ _ _ _ _ => (pe_call D_through.ok (hr.mono (by decide)) (by rfl) D_through.g D_through.kp D_through.b .nil pass0 (pa_cons (pv 5) (pa_cons (pv 1) (pa_cons (pv 2) (pa_cons (pv 3) (pa_cons (pv 4) pa_nil)))))))))), ?_⟩
    refine ⟨_, rfl, a, rfl, ⟨_, hA⟩, fun D nD => lc_list (K := K) (a := a) (xs := rs.map V.ref) (fun i H' => Same H H' ∧ MapAt H' D (Wm.joined (m.take i) m0 src bs nm)) ⟨same_new nD, [], upd_same, SegsAt.nil _⟩ (fun i H' _ h => h.1.seq hA) ?_ ?_⟩
    · rintro i y H1 hi ⟨s1, rs1, hD, S1⟩
      obtain ⟨r, sg, rfl, hs, hr1⟩ := S.item hi
      refine ⟨rfl, ?_⟩
      unfold tYes
      refine iteT ?_
      refine ⟨_, rfl, _, rfl, _, rfl, _, rfl, _, rfl, r, b, sg, rs0, m0, src, bs, nm, rfl, s1 _ _ hr1, s1.seq hB, S0.mono (Tups.of s1), fun H2 r2 s2 er2 => ?_⟩
      have hD2 := s2 _ _ hD
      refine ⟨_, hD2, room200 S1 (joined_length ..) hm, ?_⟩
      rw [refs_snoc, joined_take hs]
      refine ⟨fun c o ec => ?_, _, upd_same, ((S1.mono (Tups.of s2)).snoc er2).mono (Tups.upd hD2)⟩
      rw [upd_ne (ne_of_none ec nD)]
      exact s2 _ _ (s1 _ _ ec)
    · rintro H1 ⟨s1, M⟩
      rw [S.refs_len, List.take_length] at M
      exact q H1 D s1 nD M
/-! ### moved -/
abbrev s_moved : Stmt := top 32
theorem sc_moved : FnScope ["segment", "line", "col", "base", "names", "numbers"] ["segment", "line", "col", "base", "names"] (defScope s_moved) := ⟨rfl, rfl, rfl, by decide +kernel, rfl, by decide +kernel, by decide +kernel⟩
def sp_moved (K : PySem.W.Frag) : Sp := fun vs H Q _ => ∃ (a : Addr) (s : Wm.Seg) (l c bs nm : Nat), vs = [.ref a, .int l, .int c, .int bs, .int nm] ∧ H a = some (.tup (segV s)) ∧
  ∀ (H' : Hp) (r : Addr), Same H H' → H' r = some (.tup (segV (Wm.shifted l c bs nm s))) → Q (.ref r) H'
theorem same_upd {H H1 : Hp} {p : Addr} {o : HO} (s : Same H H1) (n : H p = none) : Same H (upd H1 p o) := fun b x e => by
  rw [upd_ne (ne_of_none e n)]
  exact s _ _ e
theorem ok_moved {f f1 f2 : Addr} {fd fd1 fd2 : FuncData} (F : Fun K "moved" "moved" s_moved f fd) (T : Txt K mg aS) (D_has_origin : Df P w K mg base 1 "has_origin" ["segment"] (sp_has_origin K) f1 fd1) (D_has_name : Df P w K mg base 1 "has_name" ["segment"] (sp_has_name K) f2 fd2) :
    FnOk P w K mg base CX0 2 f fd ["segment", "line", "col", "base", "names"] (sp_moved K) := by
  refine F.ok sc_moved (fun vs H Q E h => ?_) (fun cdv A outer s H vs Q E hr h => ?_)
  · obtain ⟨a, sg, l, c, bs, nm, rfl, _⟩ := h
    rfl
  · obtain ⟨a, sg, l, c, bs, nm, rfl, hA, q⟩ := h
    refine ⟨_, (pss_cons (ps_set (i := 5) sc_moved.nd rfl (Or.inl rfl) (pe_callTy call_list_of (by rfl) T.list (by decide +kernel) (pa_cons (pv 0) pa_nil)))
      (pss_cons (ps_asg (pe_op op_add (pe_ix ix_tup (pv 0) pe_int (fun _ _ => rfl)) (pv 1)) (pg_sub (pv 5) pe_int set_list))
      (pss_cons (ps_if (pt_cmpR op_eq (pe_ix ix_tup (pv 0) pe_int (fun _ _ => rfl)) pe_int (nomark _)) (pss_one (ps_asg (pe_op op_add (pe_ix ix_tup (pv 0) pe_int (fun _ _ => rfl)) (pv 2)) (pg_sub (pv 5) pe_int set_list))) pss_nil)
      (pss_cons (ps_if (pt_val (pe_call D_has_origin.ok (hr.mono (by decide)) (by rfl) D_has_origin.g D_has_origin.kp D_has_origin.b .nil pass0 (pa_cons (pv 0) pa_nil))) (pss_one (ps_asg (pe_op op_add (pe_ix ix_tup (pv 0) pe_int (fun _ _ => rfl)) (pv 3)) (pg_sub (pv 5) pe_int set_list))) pss_nil)
      (pss_cons (ps_if (pt_val (pe_call D_has_name.ok (hr.mono (by decide)) (by rfl) D_has_name.g D_has_name.kp D_has_name.b .nil pass0 (pa_cons (pv 0) pa_nil))) (pss_one (ps_asg (pe_op op_add (pe_ix ix_tup (pv 0) pe_int (fun _ _ => rfl)) (pv 4)) (pg_sub (pv 5) pe_int set_list))) pss_nil)
      (pss_one (ps_ret (pe_callTy call_tuple_of (by rfl) T.tuple (by decide +kernel) (pa_cons (pv 5) pa_nil))))))))), ?_⟩
    refine ⟨_, rfl, a, _, rfl, .inr (SqT.of hA), fun n nn => ?_⟩
    rcases sn_cases sg with ⟨x, y, rfl⟩ | ⟨x, y, u, v, w, rfl⟩ | ⟨x, y, u, v, w, z, rfl⟩
    · rw [show segV ⟨x, y, none⟩ = [V.int ((x : Int)), V.int ((y : Int))] from rfl]
      have s1 : Same H (upd H n (.lst [V.int ((x : Int)), V.int ((y : Int))])) := same_upd (Same.refl H) nn
      have h1 : upd H n (.lst [V.int ((x : Int)), V.int ((y : Int))]) n = some (.lst [V.int ((x : Int)), V.int ((y : Int))]) := upd_same
      generalize upd H n (.lst [V.int ((x : Int)), V.int ((y : Int))]) = H1 at s1 h1
      have a1 := s1 _ _ hA
      refine ⟨_, rfl, a, _, _, _, rfl, rfl, SqT.of a1, atN (j := 0) rfl rfl, _, rfl, _, _, rfl, rfl, _, rfl, n, _, _, 0, rfl, rfl, h1, rfl, ?_⟩
      rw [show List.set [V.int ((x : Int)), V.int ((y : Int))] 0 (V.int ((x : Int) + l)) = [V.int ((x : Int) + l), V.int ((y : Int))] from rfl]
      have s2 : Same H (upd H1 n (.lst [V.int ((x : Int) + l), V.int ((y : Int))])) := same_upd s1 nn
      have h2 : upd H1 n (.lst [V.int ((x : Int) + l), V.int ((y : Int))]) n = some (.lst [V.int ((x : Int) + l), V.int ((y : Int))]) := upd_same
      generalize upd H1 n (.lst [V.int ((x : Int) + l), V.int ((y : Int))]) = H2 at s2 h2
      have a2 := s2 _ _ hA
      refine ⟨_, rfl, a, _, _, _, rfl, rfl, SqT.of a2, atN (j := 0) rfl rfl, rfl, _, rfl, ifI (fun e0 => ?_) (fun e0 => ?_)⟩
      · refine ⟨_, rfl, a, _, _, _, rfl, rfl, SqT.of a2, atN (j := 1) rfl rfl, _, rfl, _, _, rfl, rfl, _, rfl, n, _, _, 1, rfl, rfl, h2, rfl, ?_⟩
        rw [show List.set [V.int ((x : Int) + l), V.int ((y : Int))] 1 (V.int ((y : Int) + c)) = [V.int ((x : Int) + l), V.int ((y : Int) + c)] from rfl]
        have s3 : Same H (upd H2 n (.lst [V.int ((x : Int) + l), V.int ((y : Int) + c)])) := same_upd s2 nn
        have h3 : upd H2 n (.lst [V.int ((x : Int) + l), V.int ((y : Int) + c)]) n = some (.lst [V.int ((x : Int) + l), V.int ((y : Int) + c)]) := upd_same
        generalize upd H2 n (.lst [V.int ((x : Int) + l), V.int ((y : Int) + c)]) = H3 at s3 h3
        have a3 := s3 _ _ hA
        refine ⟨_, rfl, a, _, rfl, a3, _, rfl, iteF ?_⟩
        refine ⟨_, rfl, a, _, rfl, a3, _, rfl, iteF ?_⟩
        refine ⟨_, rfl, n, _, rfl, .inl ⟨SqL.of h3, fun r nr => ?_⟩⟩
        exact q _ r (s3.trans (same_new nr)) (tup_eq (segV_of (sh2z l c bs nm x y  e0)) upd_same)
      · refine ⟨_, rfl, a, _, rfl, a2, _, rfl, iteF ?_⟩
        refine ⟨_, rfl, a, _, rfl, a2, _, rfl, iteF ?_⟩
        refine ⟨_, rfl, n, _, rfl, .inl ⟨SqL.of h2, fun r nr => ?_⟩⟩
        exact q _ r (s2.trans (same_new nr)) (tup_eq (segV_of (sh2 l c bs nm x y  e0)) upd_same)
    · rw [show segV ⟨x, y, some ⟨u, v, w, none⟩⟩ = [V.int ((x : Int)), V.int ((y : Int)), V.int ((u : Int)), V.int ((v : Int)), V.int ((w : Int))] from rfl]
      have s1 : Same H (upd H n (.lst [V.int ((x : Int)), V.int ((y : Int)), V.int ((u : Int)), V.int ((v : Int)), V.int ((w : Int))])) := same_upd (Same.refl H) nn
      have h1 : upd H n (.lst [V.int ((x : Int)), V.int ((y : Int)), V.int ((u : Int)), V.int ((v : Int)), V.int ((w : Int))]) n = some (.lst [V.int ((x : Int)), V.int ((y : Int)), V.int ((u : Int)), V.int ((v : Int)), V.int ((w : Int))]) := upd_same
      generalize upd H n (.lst [V.int ((x : Int)), V.int ((y : Int)), V.int ((u : Int)), V.int ((v : Int)), V.int ((w : Int))]) = H1 at s1 h1
      have a1 := s1 _ _ hA
      refine ⟨_, rfl, a, _, _, _, rfl, rfl, SqT.of a1, atN (j := 0) rfl rfl, _, rfl, _, _, rfl, rfl, _, rfl, n, _, _, 0, rfl, rfl, h1, rfl, ?_⟩
      rw [show List.set [V.int ((x : Int)), V.int ((y : Int)), V.int ((u : Int)), V.int ((v : Int)), V.int ((w : Int))] 0 (V.int ((x : Int) + l)) = [V.int ((x : Int) + l), V.int ((y : Int)), V.int ((u : Int)), V.int ((v : Int)), V.int ((w : Int))] from rfl]
      have s2 : Same H (upd H1 n (.lst [V.int ((x : Int) + l), V.int ((y : Int)), V.int ((u : Int)), V.int ((v : Int)), V.int ((w : Int))])) := same_upd s1 nn
      have h2 : upd H1 n (.lst [V.int ((x : Int) + l), V.int ((y : Int)), V.int ((u : Int)), V.int ((v : Int)), V.int ((w : Int))]) n = some (.lst [V.int ((x : Int) + l), V.int ((y : Int)), V.int ((u : Int)), V.int ((v : Int)), V.int ((w : Int))]) := upd_same
      generalize upd H1 n (.lst [V.int ((x : Int) + l), V.int ((y : Int)), V.int ((u : Int)), V.int ((v : Int)), V.int ((w : Int))]) = H2 at s2 h2
      have a2 := s2 _ _ hA
      refine ⟨_, rfl, a, _, _, _, rfl, rfl, SqT.of a2, atN (j := 0) rfl rfl, rfl, _, rfl, ifI (fun e0 => ?_) (fun e0 => ?_)⟩
      · refine ⟨_, rfl, a, _, _, _, rfl, rfl, SqT.of a2, atN (j := 1) rfl rfl, _, rfl, _, _, rfl, rfl, _, rfl, n, _, _, 1, rfl, rfl, h2, rfl, ?_⟩
        rw [show List.set [V.int ((x : Int) + l), V.int ((y : Int)), V.int ((u : Int)), V.int ((v : Int)), V.int ((w : Int))] 1 (V.int ((y : Int) + c)) = [V.int ((x : Int) + l), V.int ((y : Int) + c), V.int ((u : Int)), V.int ((v : Int)), V.int ((w : Int))] from rfl]
        have s3 : Same H (upd H2 n (.lst [V.int ((x : Int) + l), V.int ((y : Int) + c), V.int ((u : Int)), V.int ((v : Int)), V.int ((w : Int))])) := same_upd s2 nn
        have h3 : upd H2 n (.lst [V.int ((x : Int) + l), V.int ((y : Int) + c), V.int ((u : Int)), V.int ((v : Int)), V.int ((w : Int))]) n = some (.lst [V.int ((x : Int) + l), V.int ((y : Int) + c), V.int ((u : Int)), V.int ((v : Int)), V.int ((w : Int))]) := upd_same
        generalize upd H2 n (.lst [V.int ((x : Int) + l), V.int ((y : Int) + c), V.int ((u : Int)), V.int ((v : Int)), V.int ((w : Int))]) = H3 at s3 h3
        have a3 := s3 _ _ hA
        refine ⟨_, rfl, a, _, rfl, a3, _, rfl, iteT ?_⟩
        refine ⟨_, rfl, a, _, _, _, rfl, rfl, SqT.of a3, atN (j := 2) rfl rfl, _, rfl, _, _, rfl, rfl, _, rfl, n, _, _, 2, rfl, rfl, h3, rfl, ?_⟩
        rw [show List.set [V.int ((x : Int) + l), V.int ((y : Int) + c), V.int ((u : Int)), V.int ((v : Int)), V.int ((w : Int))] 2 (V.int ((u : Int) + bs)) = [V.int ((x : Int) + l), V.int ((y : Int) + c), V.int ((u : Int) + bs), V.int ((v : Int)), V.int ((w : Int))] from rfl]
        have s4 : Same H (upd H3 n (.lst [V.int ((x : Int) + l), V.int ((y : Int) + c), V.int ((u : Int) + bs), V.int ((v : Int)), V.int ((w : Int))])) := same_upd s3 nn
        have h4 : upd H3 n (.lst [V.int ((x : Int) + l), V.int ((y : Int) + c), V.int ((u : Int) + bs), V.int ((v : Int)), V.int ((w : Int))]) n = some (.lst [V.int ((x : Int) + l), V.int ((y : Int) + c), V.int ((u : Int) + bs), V.int ((v : Int)), V.int ((w : Int))]) := upd_same
        generalize upd H3 n (.lst [V.int ((x : Int) + l), V.int ((y : Int) + c), V.int ((u : Int) + bs), V.int ((v : Int)), V.int ((w : Int))]) = H4 at s4 h4
        have a4 := s4 _ _ hA
        refine ⟨_, rfl, a, _, rfl, a4, _, rfl, iteF ?_⟩
        refine ⟨_, rfl, n, _, rfl, .inl ⟨SqL.of h4, fun r nr => ?_⟩⟩
        exact q _ r (s4.trans (same_new nr)) (tup_eq (segV_of (sh5z l c bs nm x y u v w e0)) upd_same)
      · refine ⟨_, rfl, a, _, rfl, a2, _, rfl, iteT ?_⟩
        refine ⟨_, rfl, a, _, _, _, rfl, rfl, SqT.of a2, atN (j := 2) rfl rfl, _, rfl, _, _, rfl, rfl, _, rfl, n, _, _, 2, rfl, rfl, h2, rfl, ?_⟩
        rw [show List.set [V.int ((x : Int) + l), V.int ((y : Int)), V.int ((u : Int)), V.int ((v : Int)), V.int ((w : Int))] 2 (V.int ((u : Int) + bs)) = [V.int ((x : Int) + l), V.int ((y : Int)), V.int ((u : Int) + bs), V.int ((v : Int)), V.int ((w : Int))] from rfl]
        have s3 : Same H (upd H2 n (.lst [V.int ((x : Int) + l), V.int ((y : Int)), V.int ((u : Int) + bs), V.int ((v : Int)), V.int ((w : Int))])) := same_upd s2 nn
        have h3 : upd H2 n (.lst [V.int ((x : Int) + l), V.int ((y : Int)), V.int ((u : Int) + bs), V.int ((v : Int)), V.int ((w : Int))]) n = some (.lst [V.int ((x : Int) + l), V.int ((y : Int)), V.int ((u : Int) + bs), V.int ((v : Int)), V.int ((w : Int))]) := upd_same
        generalize upd H2 n (.lst [V.int ((x : Int) + l), V.int ((y : Int)), V.int ((u : Int) + bs), V.int ((v : Int)), V.int ((w : Int))]) = H3 at s3 h3
        have a3 := s3 _ _ hA
        refine ⟨_, rfl, a, _, rfl, a3, _, rfl, iteF ?_⟩
        refine ⟨_, rfl, n, _, rfl, .inl ⟨SqL.of h3, fun r nr => ?_⟩⟩
        exact q _ r (s3.trans (same_new nr)) (tup_eq (segV_of (sh5 l c bs nm x y u v w e0)) upd_same)
    · rw [show segV ⟨x, y, some ⟨u, v, w, some z⟩⟩ = [V.int ((x : Int)), V.int ((y : Int)), V.int ((u : Int)), V.int ((v : Int)), V.int ((w : Int)), V.int ((z : Int))] from rfl]
      have s1 : Same H (upd H n (.lst [V.int ((x : Int)), V.int ((y : Int)), V.int ((u : Int)), V.int ((v : Int)), V.int ((w : Int)), V.int ((z : Int))])) := same_upd (Same.refl H) nn
      have h1 : upd H n (.lst [V.int ((x : Int)), V.int ((y : Int)), V.int ((u : Int)), V.int ((v : Int)), V.int ((w : Int)), V.int ((z : Int))]) n = some (.lst [V.int ((x : Int)), V.int ((y : Int)), V.int ((u : Int)), V.int ((v : Int)), V.int ((w : Int)), V.int ((z : Int))]) := upd_same
      generalize upd H n (.lst [V.int ((x : Int)), V.int ((y : Int)), V.int ((u : Int)), V.int ((v : Int)), V.int ((w : Int)), V.int ((z : Int))]) = H1 at s1 h1
      have a1 := s1 _ _ hA
      refine ⟨_, rfl, a, _, _, _, rfl, rfl, SqT.of a1, atN (j := 0) rfl rfl, _, rfl, _, _, rfl, rfl, _, rfl, n, _, _, 0, rfl, rfl, h1, rfl, ?_⟩
      rw [show List.set [V.int ((x : Int)), V.int ((y : Int)), V.int ((u : Int)), V.int ((v : Int)), V.int ((w : Int)), V.int ((z : Int))] 0 (V.int ((x : Int) + l)) = [V.int ((x : Int) + l), V.int ((y : Int)), V.int ((u : Int)), V.int ((v : Int)), V.int ((w : Int)), V.int ((z : Int))] from rfl]
      have s2 : Same H (upd H1 n (.lst [V.int ((x : Int) + l), V.int ((y : Int)), V.int ((u : Int)), V.int ((v : Int)), V.int ((w : Int)), V.int ((z : Int))])) := same_upd s1 nn
      have h2 : upd H1 n (.lst [V.int ((x : Int) + l), V.int ((y : Int)), V.int ((u : Int)), V.int ((v : Int)), V.int ((w : Int)), V.int ((z : Int))]) n = some (.lst [V.int ((x : Int) + l), V.int ((y : Int)), V.int ((u : Int)), V.int ((v : Int)), V.int ((w : Int)), V.int ((z : Int))]) := upd_same
      generalize upd H1 n (.lst [V.int ((x : Int) + l), V.int ((y : Int)), V.int ((u : Int)), V.int ((v : Int)), V.int ((w : Int)), V.int ((z : Int))]) = H2 at s2 h2
      have a2 := s2 _ _ hA
      refine ⟨_, rfl, a, _, _, _, rfl, rfl, SqT.of a2, atN (j := 0) rfl rfl, rfl, _, rfl, ifI (fun e0 => ?_) (fun e0 => ?_)⟩
      · refine ⟨_, rfl, a, _, _, _, rfl, rfl, SqT.of a2, atN (j := 1) rfl rfl, _, rfl, _, _, rfl, rfl, _, rfl, n, _, _, 1, rfl, rfl, h2, rfl, ?_⟩
        rw [show List.set [V.int ((x : Int) + l), V.int ((y : Int)), V.int ((u : Int)), V.int ((v : Int)), V.int ((w : Int)), V.int ((z : Int))] 1 (V.int ((y : Int) + c)) = [V.int ((x : Int) + l), V.int ((y : Int) + c), V.int ((u : Int)), V.int ((v : Int)), V.int ((w : Int)), V.int ((z : Int))] from rfl]
        have s3 : Same H (upd H2 n (.lst [V.int ((x : Int) + l), V.int ((y : Int) + c), V.int ((u : Int)), V.int ((v : Int)), V.int ((w : Int)), V.int ((z : Int))])) := same_upd s2 nn
        have h3 : upd H2 n (.lst [V.int ((x : Int) + l), V.int ((y : Int) + c), V.int ((u : Int)), V.int ((v : Int)), V.int ((w : Int)), V.int ((z : Int))]) n = some (.lst [V.int ((x : Int) + l), V.int ((y : Int) + c), V.int ((u : Int)), V.int ((v : Int)), V.int ((w : Int)), V.int ((z : Int))]) := upd_same
        generalize upd H2 n (.lst [V.int ((x : Int) + l), V.int ((y : Int) + c), V.int ((u : Int)), V.int ((v : Int)), V.int ((w : Int)), V.int ((z : Int))]) = H3 at s3 h3
        have a3 := s3 _ _ hA
        refine ⟨_, rfl, a, _, rfl, a3, _, rfl, iteT ?_⟩
        refine ⟨_, rfl, a, _, _, _, rfl, rfl, SqT.of a3, atN (j := 2) rfl rfl, _, rfl, _, _, rfl, rfl, _, rfl, n, _, _, 2, rfl, rfl, h3, rfl, ?_⟩
        rw [show List.set [V.int ((x : Int) + l), V.int ((y : Int) + c), V.int ((u : Int)), V.int ((v : Int)), V.int ((w : Int)), V.int ((z : Int))] 2 (V.int ((u : Int) + bs)) = [V.int ((x : Int) + l), V.int ((y : Int) + c), V.int ((u : Int) + bs), V.int ((v : Int)), V.int ((w : Int)), V.int ((z : Int))] from rfl]
        have s4 : Same H (upd H3 n (.lst [V.int ((x : Int) + l), V.int ((y : Int) + c), V.int ((u : Int) + bs), V.int ((v : Int)), V.int ((w : Int)), V.int ((z : Int))])) := same_upd s3 nn
        have h4 : upd H3 n (.lst [V.int ((x : Int) + l), V.int ((y : Int) + c), V.int ((u : Int) + bs), V.int ((v : Int)), V.int ((w : Int)), V.int ((z : Int))]) n = some (.lst [V.int ((x : Int) + l), V.int ((y : Int) + c), V.int ((u : Int) + bs), V.int ((v : Int)), V.int ((w : Int)), V.int ((z : Int))]) := upd_same
        generalize upd H3 n (.lst [V.int ((x : Int) + l), V.int ((y : Int) + c), V.int ((u : Int) + bs), V.int ((v : Int)), V.int ((w : Int)), V.int ((z : Int))]) = H4 at s4 h4
        have a4 := s4 _ _ hA
        refine ⟨_, rfl, a, _, rfl, a4, _, rfl, iteT ?_⟩
        refine ⟨_, rfl, a, _, _, _, rfl, rfl, SqT.of a4, atN (j := 5) rfl rfl, _, rfl, _, _, rfl, rfl, _, rfl, n, _, _, 5, rfl, rfl, h4, rfl, ?_⟩
        rw [show List.set [V.int ((x : Int) + l), V.int ((y : Int) + c), V.int ((u : Int) + bs), V.int ((v : Int)), V.int ((w : Int)), V.int ((z : Int))] 5 (V.int ((z : Int) + nm)) = [V.int ((x : Int) + l), V.int ((y : Int) + c), V.int ((u : Int) + bs), V.int ((v : Int)), V.int ((w : Int)), V.int ((z : Int) + nm)] from rfl]
        have s5 : Same H (upd H4 n (.lst [V.int ((x : Int) + l), V.int ((y : Int) + c), V.int ((u : Int) + bs), V.int ((v : Int)), V.int ((w : Int)), V.int ((z : Int) + nm)])) := same_upd s4 nn
        have h5 : upd H4 n (.lst [V.int ((x : Int) + l), V.int ((y : Int) + c), V.int ((u : Int) + bs), V.int ((v : Int)), V.int ((w : Int)), V.int ((z : Int) + nm)]) n = some (.lst [V.int ((x : Int) + l), V.int ((y : Int) + c), V.int ((u : Int) + bs), V.int ((v : Int)), V.int ((w : Int)), V.int ((z : Int) + nm)]) := upd_same
        generalize upd H4 n (.lst [V.int ((x : Int) + l), V.int ((y : Int) + c), V.int ((u : Int) + bs), V.int ((v : Int)), V.int ((w : Int)), V.int ((z : Int) + nm)]) = H5 at s5 h5
        have a5 := s5 _ _ hA
        refine ⟨_, rfl, n, _, rfl, .inl ⟨SqL.of h5, fun r nr => ?_⟩⟩
        exact q _ r (s5.trans (same_new nr)) (tup_eq (segV_of (sh6z l c bs nm x y u v w z e0)) upd_same)
      · refine ⟨_, rfl, a, _, rfl, a2, _, rfl, iteT ?_⟩
        refine ⟨_, rfl, a, _, _, _, rfl, rfl, SqT.of a2, atN (j := 2) rfl rfl, _, rfl, _, _, rfl, rfl, _, rfl, n, _, _, 2, rfl, rfl, h2, rfl, ?_⟩
        rw [show List.set [V.int ((x : Int) + l), V.int ((y : Int)), V.int ((u : Int)), V.int ((v : Int)), V.int ((w : Int)), V.int ((z : Int))] 2 (V.int ((u : Int) + bs)) = [V.int ((x : Int) + l), V.int ((y : Int)), V.int ((u : Int) + bs), V.int ((v : Int)), V.int ((w : Int)), V.int ((z : Int))] from rfl]
        have s3 : Same H (upd H2 n (.lst [V.int ((x : Int) + l), V.int ((y : Int)), V.int ((u : Int) + bs), V.int ((v : Int)), V.int ((w : Int)), V.int ((z : Int))])) := same_upd s2 nn
        have h3 : upd H2 n (.lst [V.int ((x : Int) + l), V.int ((y : Int)), V.int ((u : Int) + bs), V.int ((v : Int)), V.int ((w : Int)), V.int ((z : Int))]) n = some (.lst [V.int ((x : Int) + l), V.int ((y : Int)), V.int ((u : Int) + bs), V.int ((v : Int)), V.int ((w : Int)), V.int ((z : Int))]) := upd_same
        generalize upd H2 n (.lst [V.int ((x : Int) + l), V.int ((y : Int)), V.int ((u : Int) + bs), V.int ((v : Int)), V.int ((w : Int)), V.int ((z : Int))]) = H3 at s3 h3
        have a3 := s3 _ _ hA
        refine ⟨_, rfl, a, _, rfl, a3, _, rfl, iteT ?_⟩
        refine ⟨_, rfl, a, _, _, _, rfl, rfl, SqT.of a3, atN (j := 5) rfl rfl, _, rfl, _, _, rfl, rfl, _, rfl, n, _, _, 5, rfl, rfl, h3, rfl, ?_⟩
        rw [show List.set [V.int ((x : Int) + l), V.int ((y : Int)), V.int ((u : Int) + bs), V.int ((v : Int)), V.int ((w : Int)), V.int ((z : Int))] 5 (V.int ((z : Int) + nm)) = [V.int ((x : Int) + l), V.int ((y : Int)), V.int ((u : Int) + bs), V.int ((v : Int)), V.int ((w : Int)), V.int ((z : Int) + nm)] from rfl]
        have s4 : Same H (upd H3 n (.lst [V.int ((x : Int) + l), V.int ((y : Int)), V.int ((u : Int) + bs), V.int ((v : Int)), V.int ((w : Int)), V.int ((z : Int) + nm)])) := same_upd s3 nn
        have h4 : upd H3 n (.lst [V.int ((x : Int) + l), V.int ((y : Int)), V.int ((u : Int) + bs), V.int ((v : Int)), V.int ((w : Int)), V.int ((z : Int) + nm)]) n = some (.lst [V.int ((x : Int) + l), V.int ((y : Int)), V.int ((u : Int) + bs), V.int ((v : Int)), V.int ((w : Int)), V.int ((z : Int) + nm)]) := upd_same
        generalize upd H3 n (.lst [V.int ((x : Int) + l), V.int ((y : Int)), V.int ((u : Int) + bs), V.int ((v : Int)), V.int ((w : Int)), V.int ((z : Int) + nm)]) = H4 at s4 h4
        have a4 := s4 _ _ hA
        refine ⟨_, rfl, n, _, rfl, .inl ⟨SqL.of h4, fun r nr => ?_⟩⟩
        exact q _ r (s4.trans (same_new nr)) (tup_eq (segV_of (sh6 l c bs nm x y u v w z e0)) upd_same)
/-! ### all_moved -/
abbrev s_all_moved : Stmt := top 33
theorem sc_all_moved : FnScope ["segments", "line", "col", "base", "names", "segment"] ["segments", "line", "col", "base", "names"] (defScope s_all_moved) := ⟨rfl, rfl, rfl, by decide +kernel, rfl, by decide +kernel, by decide +kernel⟩
def sp_all_moved (K : PySem.W.Frag) : Sp := fun vs H Q _ => ∃ (a : Addr) (rs : List Addr) (m : Wm.Map) (l c bs nm : Nat), vs = [.ref a, .int l, .int c, .int bs, .int nm] ∧ SqL K H a (rs.map V.ref) ∧ SegsAt H rs m ∧ m.length ≤ 200 ∧
  ∀ (H' : Hp) (p : Addr), Same H H' → H p = none → MapAt H' p (shifts m l c bs nm) → Q (.ref p) H'
theorem ok_all_moved {f f1 : Addr} {fd fd1 : FuncData} (F : Fun K "all_moved" "all_moved" s_all_moved f fd) (T : Txt K mg aS) (D_moved : Df P w K mg base 2 "moved" ["segment", "line", "col", "base", "names"] (sp_moved K) f1 fd1) :
    FnOk P w K mg base CX0 3 f fd ["segments", "line", "col", "base", "names"] (sp_all_moved K) := by
  refine F.ok sc_all_moved (fun vs H Q E h => ?_) (fun cdv A outer s H vs Q E hr h => ?_)
  · obtain ⟨a, rs, m, l, c, bs, nm, rfl, _⟩ := h
    rfl
  · obtain ⟨a, rs, m, l, c, bs, nm, rfl, hA, S, hm, q⟩ := h
    refine ⟨_, (pss_one (ps_ret (pe_lc (own := [("segment", 5)]) (g := gName 5) (tt := tYes) (by rfl) sc_all_moved.nd (pi_list (pv 0)) (blkOk_by (own := [("segment", 5)]) (N := ["segments", "line", "col", "base", "names", "segment"]) (sc := defScope s_all_moved) (by decide +kernel))
      (fun _ _ _ _ _ => pg_name (i := 5) sc_all_moved.nd rfl (Or.inl rfl)) (fun _ _ _ _ _ => pts_nil)
      (fun _ _ _ _ _ => (pe_call D_moved.ok (hr.mono (by decide)) (by rfl) D_moved.g D_moved.kp D_moved.b .nil pass0 (pa_cons (pv 5) (pa_cons (pv 1) (pa_cons (pv 2) (pa_cons (pv 3) (pa_cons (pv 4) pa_nil)))))))))), ?_⟩
    refine ⟨_, rfl, a, rfl, ⟨_, hA⟩, fun D nD => lc_list (K := K) (a := a) (xs := rs.map V.ref) (fun i H' => Same H H' ∧ MapAt H' D (shifts (m.take i) l c bs nm)) ⟨same_new nD, [], upd_same, SegsAt.nil _⟩ (fun i H' _ h => h.1.seq hA) ?_ ?_⟩
    · rintro i y H1 hi ⟨s1, rs1, hD, S1⟩
      obtain ⟨r, sg, rfl, hs, hr1⟩ := S.item hi
      refine ⟨rfl, ?_⟩
      unfold tYes
      refine iteT ?_
      refine ⟨_, rfl, _, rfl, _, rfl, _, rfl, _, rfl, r, sg, l, c, bs, nm, rfl, s1 _ _ hr1, fun H2 r2 s2 er2 => ?_⟩
      have hD2 := s2 _ _ hD
      refine ⟨_, hD2, room200 S1 (shifts_length ..) hm, ?_⟩
      rw [refs_snoc, shifts_take hs]
      refine ⟨fun c o ec => ?_, _, upd_same, ((S1.mono (Tups.of s2)).snoc er2).mono (Tups.upd hD2)⟩
      rw [upd_ne (ne_of_none ec nD)]
      exact s2 _ _ (s1 _ _ ec)
    · rintro H1 ⟨s1, M⟩
      rw [S.refs_len, List.take_length] at M
      exact q H1 D s1 nD M
end
end Wq

set_option Elab.async false
set_option maxRecDepth 100000
set_option maxHeartbeats 1000000
set_option linter.all false
namespace Wq
open PySem PySem.Spec PyProof.Rows L2
/-! ### call_end -/
/-- call_end: where the call that begins at i ends -/
def sp_call_end (K : PySem.W.Frag) : Sp := fun vs H Q _ => ∃ (c : Addr) (l : List Int) (i : Nat) (q : Wm.Call) (r : List Int), vs = [.ref c, .int i] ∧ SqL K H c (l.map V.int) ∧ l.drop i = flatC q ++ r ∧ Q (.int (i + (flatC q).length : Nat)) H
theorem sizes_at (q : Wm.Call) : ([.int 3, .int 3, .int 2, .int 2, .int 3, .int 4, .int 5, .int 6, .int 7, .int 2] : List V)[numC q]? = some (.int (sizC q)) := by cases q <;> rfl
theorem ints_at {l : List Int} {i : Nat} {x : Int} (h : l[i]? = some x) : (l.map V.int)[i]? = some (.int x) := by
  rw [List.getElem?_map, h]
  rfl
theorem num_low {q : Wm.Call} (h : (numC q : Int) < 0) : False := by omega
theorem num_high {q : Wm.Call} (h : (10 : Int) ≤ (numC q : Int)) : False := by
  have := numC_le q
  omega
theorem end_at {i s : Nat} (h : s = 3) : (i : Int) + (s : Int) - 1 = ((i + 2 : Nat) : Int) := by omega
theorem end_row {i s n len : Nat} (h : s = 3) (h2 : i + len = i + 3 + n) : (i : Int) + (s : Int) + (n : Int) = ((i + len : Nat) : Int) := by omega
theorem end_no {i s len : Nat} (h : len = s) : (i : Int) + (s : Int) = ((i + len : Nat) : Int) := by omega
section
variable {P : Program} {w : World} {K : PySem.W.Frag} {mg : Str → Option Value} {base : Heap} {aS : Addr}
abbrev s_call_end : Stmt := top 47
theorem sc_call_end : FnScope ["calls", "start", "number", "end"] ["calls", "start"] (defScope s_call_end) := ⟨rfl, rfl, rfl, by decide +kernel, rfl, by decide +kernel, by decide +kernel⟩
theorem ok_call_end {f : Addr} {fd : FuncData} (F : Fun K "call_end" "call_end" s_call_end f fd) (T : Txt K mg aS) : FnOk P w K mg base CX0 1 f fd ["calls", "start"] (sp_call_end K) := by
  obtain ⟨aC, gC, hC⟩ := T.calls
  refine F.ok sc_call_end (fun vs H Q E h => ?_) (fun cdv A outer s H vs Q E hr h => ?_)
  · obtain ⟨c, l, i, qc, r, rfl, _⟩ := h
    rfl
  · obtain ⟨c, l, i, qc, r, rfl, hA, hd, q⟩ := h
    refine ⟨_, (pss_cons (ps_set (i := 2) sc_call_end.nd rfl (Or.inl rfl) (pe_ix ix_list (pv 0) (pv 1) (fun _ _ => rfl)))
      (pss_cons (ps_if (PW.pt (pw_or (pt_cmpR op_lt (pv 2) pe_int (nomark _)) (pw_or1 (pt_cmpR op_ge (pv 2) (pe_callB call_len_seq (by rfl) T.len PySem.boot_len (pa_cons (pe_gR gC (by rfl)) pa_nil)) (nomark _))))) (pss_one ps_never) pss_nil)
      (pss_cons (ps_set (i := 3) sc_call_end.nd rfl (Or.inl rfl) (pe_op op_add (pv 1) (pe_ix ix_tup (pe_gR gC (by rfl)) (pv 2) (fun _ _ => rfl))))
      (pss_cons (ps_if (PW.pt (pw_or (pt_cmpR op_eq (pv 2) (pe_gI T.ADD (by rfl)) (nomark _)) (pw_or1 (pt_cmpR op_eq (pv 2) (pe_gI T.READ (by rfl)) (nomark _))))) (pss_one (ps_ret (pe_op op_add (pv 3) (pe_ix ix_list (pv 0) (pe_op op_sub (pv 3) pe_int) (fun _ _ => rfl))))) pss_nil)
      (pss_one (ps_ret (pv 3))))))), ?_⟩
    refine ⟨_, rfl, _, rfl, c, _, _, _, rfl, rfl, hA, atI_nat (ints_at (call_num hd)), ?_⟩
    refine ⟨_, rfl, _, _, rfl, rfl, _, rfl, ifD (fun z => (num_low z).elim) (fun _ => ?_)⟩
    refine ⟨_, rfl, aC, _, rfl, .inr (hC H), _, _, rfl, rfl, _, rfl, ifD (fun z => (num_high z).elim) (fun _ => ?_)⟩
    refine ⟨_, rfl, _, rfl, aC, _, _, _, rfl, rfl, hC H, atI_nat (sizes_at qc), _, _, rfl, rfl, ?_⟩
    refine ⟨_, rfl, rfl, _, rfl, ifOr (fun h => ⟨_, rfl, rfl, _, rfl, h⟩) (fun z => ?_) (fun z => ?_)⟩
    · obtain ⟨n, h1, h2, h3⟩ := call_row hd (z.imp V.int.inj V.int.inj)
      refine ⟨_, rfl, _, rfl, _, rfl, _, _, rfl, rfl, c, _, _, _, rfl, rfl, hA, atN (end_at h2) (ints_at h1), _, _, rfl, rfl, ?_⟩
      rw [← end_row h2 h3] at q
      exact q
    · have h3 := call_len (q := qc) (fun y => z (y.imp (congrArg V.int) (congrArg V.int)))
      refine ⟨_, rfl, ?_⟩
      rw [← end_no h3] at q
      exact q
end
end Wq

set_option Elab.async false
set_option maxRecDepth 100000
set_option maxHeartbeats 1000000
set_option linter.all false
namespace Wq
open PySem PySem.Spec PyProof.Rows L2
theorem natsV (l : List Nat) : natsI l = l.map (fun (n : Nat) => (n : Int)) := rfl
theorem int_le' {a b : Nat} (h : (a : Int) ≤ (b : Int)) : a ≤ b := by omega
theorem len_ge {rs : List Addr} {m : Wm.Map} {H : Hp} (S : SegsAt H rs m) (h : (200 : Int) ≤ ((rs.map V.ref).length : Int)) : 200 ≤ m.length := by
  rw [S.refs_len] at h
  omega
theorem len_nge {rs : List Addr} {m : Wm.Map} {H : Hp} (S : SegsAt H rs m) (h : ¬ (200 : Int) ≤ ((rs.map V.ref).length : Int)) : ¬ 200 ≤ m.length := by
  rw [S.refs_len] at h
  omega
theorem len_gt {rs : List Addr} {m : Wm.Map} {H : Hp} (S : SegsAt H rs m) (h : (200 : Int) < ((rs.map V.ref).length : Int)) : 200 < m.length := by
  rw [S.refs_len] at h
  omega
theorem len_ngt {rs : List Addr} {m : Wm.Map} {H : Hp} (S : SegsAt H rs m) (h : ¬ (200 : Int) < ((rs.map V.ref).length : Int)) : ¬ 200 < m.length := by
  rw [S.refs_len] at h
  omega
theorem fit_room {rs : List Addr} {m : Wm.Map} {H : Hp} (S : SegsAt H rs m) (F : Fit m) : (rs.map V.ref).length < sizeLine := by
  rw [S.refs_len]
  exact Nat.lt_of_le_of_lt F.2 (by decide)
theorem Ans.found {H : Hp} {a : Addr} {ads : List Addr} {st : Wm.State} {c : Wm.Call} {o : Option Wm.Seg} {Q : VK} (q : Ans H a ads st c Q) (h : Held H a ads st) (e : Wm.step st c = (st, Wm.found o)) :
    ∀ (H' : Hp) (p : Addr), Same H H' → H p = none → H' p = some (.lst ((WmNeutral.shown (Wm.found o)).map V.int)) → Q (.ref p) H' := fun H' p s np ep => q.of e H' p ads (h.same s) (Stp.same s) np ep
theorem Ans.put {H0 H1 : Hp} {a l y : Addr} {ads : List Addr} {st : Wm.State} {c : Wm.Call} {m : Wm.Map} {k : Nat} {Q : VK} (q : Ans H0 a ads st c Q) (h : Held H0 a ads st) (hk : k < 4) (s1 : Same H0 H1) (nl : H0 l = none) (M : MapAt H1 l m) (F : Fit m) (e : Wm.step st c = (st.set k m, Wm.one 0))
    (ny : upd H1 a (.lst ((ads.set k l).map V.ref)) y = none) : Q (.ref y) (upd (upd H1 a (.lst ((ads.set k l).map V.ref))) y (.lst [V.int 0])) := by
  have nla : a ≠ l := ne_of_none h.lst nl
  have nlads : l ∉ ads := h.fresh nl
  have hput := (h.same s1).put hk M F nlads nla
  have s2 : Same _ (upd (upd H1 a (.lst ((ads.set k l).map V.ref))) y (.lst [V.int 0])) := same_new ny
  exact q.of e _ y (ads.set k l) (hput.same s2) ((Stp.putS s1 nl).then_ s2) (s1.free (upd_free ny)) upd_same
theorem Ans.after {H H1 : Hp} {a : Addr} {ads : List Addr} {st : Wm.State} {c : Wm.Call} {Q : VK} (q : Ans H a ads st c Q) (s1 : Same H H1) : Ans H1 a ads st c Q := fun H' p ads' h1 h2 h3 h4 =>
  q H' p ads' h1 ⟨fun b o e n1 n2 => h2.keep b o (s1 b o e) n1 n2, fun x hx => (h2.new x hx).imp id (fun z => s1.free z)⟩ (s1.free h3) h4
section
variable {P : Program} {w : World} {K : PySem.W.Frag} {mg : Str → Option Value} {base : Heap} {aS : Addr}
/-! ### answer_add -/
abbrev s_answer_add : Stmt := top 48
theorem sc_answer_add : FnScope ["held", "k", "numbers"] ["held", "k", "numbers"] (defScope s_answer_add) := ⟨rfl, rfl, rfl, by decide +kernel, rfl, by decide +kernel, by decide +kernel⟩
def sp_answer_add (K : PySem.W.Frag) : Sp := fun vs H Q _ => ∃ (a c : Addr) (ads : List Addr) (st : Wm.State) (k : Nat) (l : List Nat), vs = [.ref a, .int k, .ref c] ∧ Held H a ads st ∧ k < 4 ∧ SqL K H c ((natsI l).map V.int) ∧ Ans H a ads st (.add k l) Q
theorem ok_answer_add {f f1 f2 : Addr} {fd fd1 fd2 : FuncData} (F : Fun K "answer_add" "answer_add" s_answer_add f fd) (T : Txt K mg aS) (D_is_segment : Df P w K mg base 1 "is_segment" ["numbers"] (sp_is_segment K) f1 fd1) (D_is_behind : Df P w K mg base 1 "is_behind" ["segment", "segments"] (sp_is_behind K) f2 fd2) :
    FnOk P w K mg base CX0 2 f fd ["held", "k", "numbers"] (sp_answer_add K) := by
  refine F.ok sc_answer_add (fun vs H Q E h => ?_) (fun cdv A outer s H vs Q E hr h => ?_)
  · obtain ⟨a, c, ads, st, k, l, rfl, _⟩ := h
    rfl
  · obtain ⟨a, c, ads, st, k, l, rfl, hH, hk, hC, q⟩ := h
    refine ⟨_, (pss_cons (ps_if (pt_not (pt_val (pe_call D_is_segment.ok (hr.mono (by decide)) (by rfl) D_is_segment.g D_is_segment.kp D_is_segment.b .nil pass0 (pa_cons (pv 2) pa_nil)))) (pss_one (ps_ret (pe_lst (pa_cons (pe_un un_neg pe_int) pa_nil)))) pss_nil)
      (pss_cons (ps_if (pt_not (pt_val (pe_call D_is_behind.ok (hr.mono (by decide)) (by rfl) D_is_behind.g D_is_behind.kp D_is_behind.b .nil pass0 (pa_cons (pv 2) (pa_cons (pe_ix ix_list (pv 0) (pv 1) (fun _ _ => rfl)) pa_nil))))) (pss_one (ps_ret (pe_lst (pa_cons (pe_un un_neg pe_int) pa_nil)))) pss_nil)
      (pss_cons (ps_if (pt_cmpR op_ge (pe_callB call_len_seq (by rfl) T.len PySem.boot_len (pa_cons (pe_ix ix_list (pv 0) (pv 1) (fun _ _ => rfl)) pa_nil)) (pe_gI T.MOST_SEGMENTS (by rfl)) (nomark _)) (pss_one (ps_ret (pe_lst (pa_cons (pe_un un_neg pe_int) pa_nil)))) pss_nil)
      (pss_cons (ps_expr (pe_bm PySem.F.plainAttrs_list PySem.F.slot_list_append PySem.F.type_list_append mt_append (pe_ix ix_list (pv 0) (pv 1) (fun _ _ => rfl)) (pa_cons (pe_callTy call_tuple_of (by rfl) T.tuple (by decide +kernel) (pa_cons (pv 2) pa_nil)) pa_nil)))
      (pss_one (ps_ret (pe_lst (pa_cons pe_int pa_nil)))))))), ?_⟩
    obtain ⟨pk, rs, ek, ekV, hP, S, npa⟩ := hH.get hk
    refine ⟨_, rfl, c, natsI l, rfl, .inl hC, _, rfl, ifNB (fun hs => ?_) (fun hs => ?_)⟩
    · refine ⟨_, rfl, (by show 1 ≤ sizeLine; decide), fun p np => ?_⟩
      exact q.keep hH (add_no1 hk hs) (Same.refl H) np
    obtain ⟨x, ex, hx, hok⟩ := add_seg hs
    have hC' : SqL K H c (segV x) := by
      unfold segV
      rw [hx]
      exact hC
    refine ⟨_, rfl, _, rfl, _, rfl, a, _, _, _, rfl, rfl, SqL.of hH.lst, atI_nat ekV, c, pk, sn x, _, Wm.last (Wm.mapAt st k) x, rfl, .inl hC', (sn_len x).1, SqL.of hP, behind_how x S, _, rfl, ifNB (fun hl => ?_) (fun hl => ?_)⟩
    · refine ⟨_, rfl, (by show 1 ≤ sizeLine; decide), fun p np => ?_⟩
      exact q.keep hH (add_no2 hk ex hl) (Same.refl H) np
    refine ⟨_, rfl, _, rfl, a, _, _, _, rfl, rfl, SqL.of hH.lst, atI_nat ekV, pk, _, rfl, .inl (SqL.of hP), _, _, rfl, rfl, _, rfl, ifD (fun h2 => ?_) (fun h2 => ?_)⟩
    · refine ⟨_, rfl, (by show 1 ≤ sizeLine; decide), fun p np => ?_⟩
      exact q.keep hH (add_no4 hk ex hl (len_ge S h2)) (Same.refl H) np
    refine ⟨_, rfl, _, rfl, a, _, _, _, rfl, rfl, SqL.of hH.lst, atI_nat ekV, .inl ⟨rfl, _, SqL.of hP⟩, _, rfl, c, _, rfl, .inl ⟨hC', fun r nr => ?_⟩⟩
    have s1 : Same H (upd H r (.tup (segV x))) := same_new nr
    refine ⟨pk, _, _, rfl, rfl, s1 _ _ hP, fit_room S (hH.fits.get hk).2, ?_⟩
    rw [refs_snoc]
    refine ⟨(by show 1 ≤ sizeLine; decide), fun p np => ?_⟩
    have S1 : SegsAt (upd H r (.tup (segV x))) (rs ++ [r]) (Wm.mapAt st k ++ [x]) := (S.mono (Tups.of s1)).snoc upd_same
    have h1 := (hH.same s1).mod ek S1 ((hH.fits.get hk).2.add hok hl (len_nge S h2))
    have s2 : Same _ (upd (upd (upd H r (.tup (segV x))) pk (.lst ((rs ++ [r]).map V.ref))) p (.lst [V.int 0])) := same_new np
    exact q.of (add_yes hk ex hl (len_nge S h2)) _ p ads (h1.same s2) ((Stp.after s1 (Stp.mod ek) (fun _ h => .inl h)).then_ s2) (upd_free (upd_free np)) upd_same
/-! ### answer_read -/
abbrev s_answer_read : Stmt := top 49
theorem sc_answer_read : FnScope ["held", "k", "text", "found", "segments"] ["held", "k", "text"] (defScope s_answer_read) := ⟨rfl, rfl, rfl, by decide +kernel, rfl, by decide +kernel, by decide +kernel⟩
def sp_answer_read (K : PySem.W.Frag) : Sp := fun vs H Q _ => ∃ (a c : Addr) (ads : List Addr) (st : Wm.State) (k : Nat) (t : Wm.Bytes), vs = [.ref a, .int k, .ref c] ∧ Held H a ads st ∧ k < 4 ∧ SqL K H c ((bytesI t).map V.int) ∧ t.length ≤ 6000 ∧ Ans H a ads st (.read k t) Q
theorem ok_answer_read {f f1 : Addr} {fd fd1 : FuncData} (F : Fun K "answer_read" "answer_read" s_answer_read f fd) (T : Txt K mg aS) (D_read_map : Df P w K mg base 4 "read_map" ["text"] (sp_read_map K) f1 fd1) :
    FnOk P w K mg base CX0 5 f fd ["held", "k", "text"] (sp_answer_read K) := by
  refine F.ok sc_answer_read (fun vs H Q E h => ?_) (fun cdv A outer s H vs Q E hr h => ?_)
  · obtain ⟨a, c, ads, st, k, t, rfl, _⟩ := h
    rfl
  · obtain ⟨a, c, ads, st, k, t, rfl, hH, hk, hC, ht, q⟩ := h
    refine ⟨_, (pss_cons (ps_set (i := 3) sc_answer_read.nd rfl (Or.inl rfl) (pe_call D_read_map.ok (hr.mono (by decide)) (by rfl) D_read_map.g D_read_map.kp D_read_map.b .nil pass0 (pa_cons (pv 2) pa_nil)))
      (pss_cons (ps_set (i := 4) sc_answer_read.nd rfl (Or.inl rfl) (pe_ix ix_tup (pv 3) pe_int (fun _ _ => rfl)))
      (pss_cons (ps_if (pt_cmpR op_isN (pv 4) pe_non (nomark _)) (pss_one (ps_ret (pe_lst (pa_cons (pe_un un_neg pe_int) (pa_cons (pe_ix ix_tup (pv 3) pe_int (fun _ _ => rfl)) pa_nil))))) pss_nil)
      (pss_cons (ps_if (pt_cmpR op_gt (pe_callB call_len_seq (by rfl) T.len PySem.boot_len (pa_cons (pv 4) pa_nil)) (pe_gI T.MOST_SEGMENTS (by rfl)) (nomark _)) (pss_one (ps_ret (pe_lst (pa_cons (pe_un un_neg pe_int) pa_nil)))) pss_nil)
      (pss_cons (ps_asg (pv 4) (pg_sub (pv 0) (pv 1) set_list))
      (pss_one (ps_ret (pe_lst (pa_cons (pe_callB call_len_seq (by rfl) T.len PySem.boot_len (pa_cons (pv 4) pa_nil)) pa_nil))))))))), ?_⟩
    refine ⟨_, rfl, c, t, rfl, hC, ht, fun n e H1 p s1 ep => ?_, fun m e G H1 p l nn s1 nl M ep => ?_⟩
    · refine ⟨_, rfl, p, _, _, _, rfl, rfl, SqT.of ep, atN (j := 0) rfl rfl, ?_⟩
      refine ⟨_, rfl, rfl, _, rfl, ifD (fun _ => ?_) (fun z => absurd rfl z)⟩
      refine ⟨_, rfl, _, rfl, p, _, _, _, rfl, rfl, SqT.of ep, atN (j := 1) rfl rfl, (by show 2 ≤ sizeLine; decide), fun y ny => ?_⟩
      exact q.keep hH (read_err hk e) s1 ny
    · obtain ⟨rs, hl, S⟩ := M
      refine ⟨_, rfl, p, _, _, _, rfl, rfl, SqT.of ep, atN (j := 0) rfl rfl, ?_⟩
      refine ⟨_, rfl, rfl, _, rfl, ifD (fun z => nomatch z) (fun _ => ?_)⟩
      refine ⟨_, rfl, l, _, rfl, .inl (SqL.of hl), _, _, rfl, rfl, _, rfl, ifD (fun h2 => ?_) (fun h2 => ?_)⟩
      · refine ⟨_, rfl, (by show 1 ≤ sizeLine; decide), fun y ny => ?_⟩
        exact q.keep hH (read_no4 hk e (len_gt S h2)) s1 ny
      have h1 := hH.same s1
      have nla : a ≠ l := ne_of_none hH.lst nl
      have nlads : l ∉ ads := hH.fresh nl
      have hngt := len_ngt S h2
      refine ⟨_, rfl, _, rfl, _, rfl, a, _, _, k, rfl, rfl, h1.lst, ixN_nat (by rw [List.length_map, hH.n4]; exact hk), ?_⟩
      rw [show (ads.map V.ref).set k (V.ref l) = (ads.set k l).map V.ref from List.map_set.symm]
      have hput := h1.put hk ⟨rs, hl, S⟩ ⟨G, Nat.le_of_not_lt hngt⟩ nlads nla
      have hl2 : (upd H1 a (.lst ((ads.set k l).map V.ref))) l = some (.lst (rs.map V.ref)) := (upd_ne (Ne.symm nla)).trans hl
      refine ⟨_, rfl, l, _, rfl, .inl (SqL.of hl2), (by show 1 ≤ sizeLine; decide), fun y ny => ?_⟩
      rw [S.refs_len]
      have s2 : Same _ (upd (upd H1 a (.lst ((ads.set k l).map V.ref))) y (.lst [V.int m.length])) := same_new ny
      exact q.of (read_yes hk e hngt) _ y (ads.set k l) (hput.same s2) ((Stp.putS s1 nl).then_ s2) (s1.free (upd_free ny)) upd_same
/-! ### answer_write -/
abbrev s_answer_write : Stmt := top 50
theorem sc_answer_write : FnScope ["held", "k", "text"] ["held", "k"] (defScope s_answer_write) := ⟨rfl, rfl, rfl, by decide +kernel, rfl, by decide +kernel, by decide +kernel⟩
def sp_answer_write (K : PySem.W.Frag) : Sp := fun vs H Q _ => ∃ (a : Addr) (ads : List Addr) (st : Wm.State) (k : Nat), vs = [.ref a, .int k] ∧ Held H a ads st ∧ k < 4 ∧ (ans st (.write k)).length ≤ 10000000 ∧ Ans H a ads st (.write k) Q
theorem write_len {st : Wm.State} {k : Nat} (hk : k < 4) (h : (ans st (.write k)).length ≤ 10000000) : (Wm.text (Wm.mapAt st k)).length + 1 ≤ 10000000 := by
  unfold ans at h
  rw [step_write hk, shown_bytes, List.length_cons, bytesI_len] at h
  exact h
theorem ok_answer_write {f f1 : Addr} {fd fd1 : FuncData} (F : Fun K "answer_write" "answer_write" s_answer_write f fd) (T : Txt K mg aS) (D_written_map : Df P w K mg base 3 "written_map" ["segments"] (sp_written_map K) f1 fd1) :
    FnOk P w K mg base CX0 4 f fd ["held", "k"] (sp_answer_write K) := by
  refine F.ok sc_answer_write (fun vs H Q E h => ?_) (fun cdv A outer s H vs Q E hr h => ?_)
  · obtain ⟨a, ads, st, k, rfl, _⟩ := h
    rfl
  · obtain ⟨a, ads, st, k, rfl, hH, hk, hlen, q⟩ := h
    refine ⟨_, (pss_cons (ps_set (i := 2) sc_answer_write.nd rfl (Or.inl rfl) (pe_call D_written_map.ok (hr.mono (by decide)) (by rfl) D_written_map.g D_written_map.kp D_written_map.b .nil pass0 (pa_cons (pe_ix ix_list (pv 0) (pv 1) (fun _ _ => rfl)) pa_nil)))
      (pss_one (ps_ret (pe_op op_cat (pe_lst (pa_cons (pe_callB call_len_seq (by rfl) T.len PySem.boot_len (pa_cons (pv 2) pa_nil)) pa_nil)) (pv 2))))), ?_⟩
    obtain ⟨pk, rs, ek, ekV, hP, S, npa⟩ := hH.get hk
    have hl := write_len hk hlen
    refine ⟨_, rfl, _, rfl, a, _, _, _, rfl, rfl, SqL.of hH.lst, atI_nat ekV, pk, _, rfl, ⟨rs, hP, S⟩, (hH.fits.get hk).2.1, Nat.le_of_succ_le hl, fun H1 p s1 np ep => ?_⟩
    refine ⟨_, rfl, p, _, rfl, .inl (SqL.of ep), (by show 1 ≤ sizeLine; decide), fun y ny => ?_⟩
    have s2 : Same H1 (upd H1 y (.lst [V.int ((bytesI (Wm.text (Wm.mapAt st k))).map V.int).length])) := same_new ny
    refine ⟨_, rfl, y, p, _, _, rfl, rfl, upd_same, s2 _ _ ep, ?_, fun z nz => ?_⟩
    · rw [bytes_len]
      show 1 + _ ≤ _
      rw [Nat.add_comm]
      exact Nat.le_trans hl (by decide)
    · refine q.keepE hH (step_write hk) (s1.trans s2) nz ?_
      rw [shown_bytes, bytes_len]
      rfl
/-! ### answer_found -/
theorem seg_room (s : Wm.Seg) : [V.int 1].length + (segV s).length ≤ sizeLine := by
  rw [segV_len]
  have := (sn_len s).2
  have h : (1000 : Nat) ≤ sizeLine := by decide
  show 1 + _ ≤ _
  omega
abbrev s_answer_found : Stmt := top 51
theorem sc_answer_found : FnScope ["segment"] ["segment"] (defScope s_answer_found) := ⟨rfl, rfl, rfl, by decide +kernel, rfl, by decide +kernel, by decide +kernel⟩
def sp_answer_found (K : PySem.W.Frag) : Sp := fun vs H Q _ => ∃ (v : V) (o : Option Wm.Seg), vs = [v] ∧ OptAt H v o ∧ ∀ (H' : Hp) (p : Addr), Same H H' → H p = none → H' p = some (.lst ((WmNeutral.shown (Wm.found o)).map V.int)) → Q (.ref p) H'
theorem ok_answer_found {f : Addr} {fd : FuncData} (F : Fun K "answer_found" "answer_found" s_answer_found f fd) (T : Txt K mg aS) : FnOk P w K mg base CX0 1 f fd ["segment"] (sp_answer_found K) := by
  refine F.ok sc_answer_found (fun vs H Q E h => ?_) (fun cdv A outer s H vs Q E hr h => ?_)
  · obtain ⟨v, o, rfl, _⟩ := h
    rfl
  · obtain ⟨v, o, rfl, hv, q⟩ := h
    refine ⟨_, (pss_cons (ps_if (pt_cmpR op_isN (pv 0) pe_non (nomark _)) (pss_one (ps_ret (pe_lst (pa_cons pe_int pa_nil)))) pss_nil)
      (pss_one (ps_ret (pe_op op_cat (pe_lst (pa_cons pe_int pa_nil)) (pe_callTy call_list_of (by rfl) T.list (by decide +kernel) (pa_cons (pv 0) pa_nil)))))), ?_⟩
    cases o with
    | none =>
      have hv' : v = .non := hv
      subst hv'
      exact ⟨_, rfl, rfl, _, rfl, ifD (fun _ => ⟨(by show 1 ≤ sizeLine; decide), fun p np => q _ p (same_new np) np upd_same⟩) (fun z => absurd rfl z)⟩
    | some sg =>
      obtain ⟨r, hv', hr2⟩ := hv
      subst hv'
      refine ⟨_, rfl, rfl, _, rfl, ifD (fun z => nomatch z) (fun _ => ?_)⟩
      refine ⟨(by show 1 ≤ sizeLine; decide), fun y ny => ?_⟩
      have s1 : Same H (upd H y (.lst [V.int 1])) := same_new ny
      refine ⟨_, rfl, r, _, rfl, .inr (SqT.of (s1 _ _ hr2)), fun z nz => ?_⟩
      have s2 : Same (upd H y (.lst [V.int 1])) (upd (upd H y (.lst [V.int 1])) z (.lst (segV sg))) := same_new nz
      refine ⟨y, z, _, _, rfl, rfl, s2 _ _ upd_same, upd_same, seg_room sg, fun p np => ?_⟩
      exact q _ p ((s1.trans s2).trans (same_new np)) (upd_free (upd_free np)) upd_same
/-! ### answer_get -/
abbrev s_answer_get : Stmt := top 52
theorem sc_answer_get : FnScope ["held", "k", "i"] ["held", "k", "i"] (defScope s_answer_get) := ⟨rfl, rfl, rfl, by decide +kernel, rfl, by decide +kernel, by decide +kernel⟩
def sp_answer_get (K : PySem.W.Frag) : Sp := fun vs H Q _ => ∃ (a : Addr) (ads : List Addr) (st : Wm.State) (k i : Nat), vs = [.ref a, .int k, .int i] ∧ Held H a ads st ∧ k < 4 ∧ Ans H a ads st (.get k i) Q
theorem get_none {rs : List Addr} {m : Wm.Map} {H : Hp} {i : Nat} (S : SegsAt H rs m) (h : ¬ (i : Int) < ((rs.map V.ref).length : Int)) : m[i]? = none := by
  rw [S.refs_len] at h
  exact List.getElem?_eq_none (by omega)
theorem get_some {rs : List Addr} {m : Wm.Map} {H : Hp} {i : Nat} (S : SegsAt H rs m) (h : (i : Int) < ((rs.map V.ref).length : Int)) : ∃ s, m[i]? = some s := by
  rw [S.refs_len] at h
  exact ⟨_, List.getElem?_eq_getElem (by omega)⟩
theorem ok_answer_get {f f1 : Addr} {fd fd1 : FuncData} (F : Fun K "answer_get" "answer_get" s_answer_get f fd) (T : Txt K mg aS) (D_answer_found : Df P w K mg base 1 "answer_found" ["segment"] (sp_answer_found K) f1 fd1) : FnOk P w K mg base CX0 2 f fd ["held", "k", "i"] (sp_answer_get K) := by
  refine F.ok sc_answer_get (fun vs H Q E h => ?_) (fun cdv A outer s H vs Q E hr h => ?_)
  · obtain ⟨a, ads, st, k, i, rfl, _⟩ := h
    rfl
  · obtain ⟨a, ads, st, k, i, rfl, hH, hk, q⟩ := h
    refine ⟨_, (pss_one (ps_ret (pe_call D_answer_found.ok (hr.mono (by decide)) (by rfl) D_answer_found.g D_answer_found.kp D_answer_found.b .nil pass0 (pa_cons (pe_ifExp (pt_cmpR op_lt (pv 2) (pe_callB call_len_seq (by rfl) T.len PySem.boot_len (pa_cons (pe_ix ix_list (pv 0) (pv 1) (fun _ _ => rfl)) pa_nil)) (nomark _)) (pe_ix ix_list (pe_ix ix_list (pv 0) (pv 1) (fun _ _ => rfl)) (pv 2) (fun _ _ => rfl)) pe_non) pa_nil)))), ?_⟩
    obtain ⟨pk, rs, ek, ekV, hP, S, npa⟩ := hH.get hk
    refine ⟨_, rfl, _, rfl, _, rfl, a, _, _, _, rfl, rfl, SqL.of hH.lst, atI_nat ekV, pk, _, rfl, .inl (SqL.of hP), _, _, rfl, rfl, _, rfl, ifD (fun h2 => ?_) (fun h2 => ?_)⟩
    · obtain ⟨sg, hs⟩ := get_some S h2
      obtain ⟨r, hr1, hr2⟩ := S.get hs
      refine ⟨_, rfl, _, rfl, a, _, _, _, rfl, rfl, SqL.of hH.lst, atI_nat ekV, _, rfl, pk, _, _, _, rfl, rfl, SqL.of hP, atI_nat hr1, .ref r, some sg, rfl, ⟨r, rfl, hr2⟩, q.found hH ?_⟩
      rw [step_get hk, hs]
    · refine ⟨.non, none, rfl, rfl, q.found hH ?_⟩
      rw [step_get hk, get_none S h2]
/-! ### answer_join -/
abbrev s_answer_join : Stmt := top 53
theorem sc_answer_join : FnScope ["held", "k", "segments"] ["held", "k", "segments"] (defScope s_answer_join) := ⟨rfl, rfl, rfl, by decide +kernel, rfl, by decide +kernel, by decide +kernel⟩
def sp_answer_join (K : PySem.W.Frag) : Sp := fun vs H Q _ => ∃ (a p : Addr) (ads : List Addr) (st : Wm.State) (k : Nat) (c : Wm.Call) (m : Wm.Map) (H0 : Hp), vs = [.ref a, .int k, .ref p] ∧ Same H0 H ∧ H0 p = none ∧ Held H0 a ads st ∧ MapAt H p m ∧ k < 4 ∧ (m.all Wm.Seg.ok = true → Fit m) ∧
  Wm.step st c = (if m.all Wm.Seg.ok = true then (st.set k m, Wm.one 0) else (st, Wm.no 6)) ∧ Ans H0 a ads st c Q
theorem ok_answer_join {f f1 : Addr} {fd fd1 : FuncData} (F : Fun K "answer_join" "answer_join" s_answer_join f fd) (T : Txt K mg aS) (D_are_segments : Df P w K mg base 2 "are_segments" ["rows"] (sp_are_segments K) f1 fd1) : FnOk P w K mg base CX0 3 f fd ["held", "k", "segments"] (sp_answer_join K) := by
  refine F.ok sc_answer_join (fun vs H Q E h => ?_) (fun cdv A outer s H vs Q E hr h => ?_)
  · obtain ⟨a, p, ads, st, k, c, m, H0, rfl, _⟩ := h
    rfl
  · obtain ⟨a, p, ads, st, k, c, m, H0, rfl, s0, np, hH, ⟨rs, hp, S⟩, hk, hfit, hstep, q⟩ := h
    refine ⟨_, (pss_cons (ps_if (pt_not (pt_val (pe_call D_are_segments.ok (hr.mono (by decide)) (by rfl) D_are_segments.g D_are_segments.kp D_are_segments.b .nil pass0 (pa_cons (pv 2) pa_nil)))) (pss_one (ps_ret (pe_lst (pa_cons (pe_un un_neg pe_int) pa_nil)))) pss_nil)
      (pss_cons (ps_asg (pv 2) (pg_sub (pv 0) (pv 1) set_list))
      (pss_one (ps_ret (pe_lst (pa_cons pe_int pa_nil)))))), ?_⟩
    refine ⟨_, rfl, p, rs, m, rfl, SqL.of hp, S, _, rfl, ifNB (fun c => ?_) (fun c => ?_)⟩
    · refine ⟨_, rfl, (by show 1 ≤ sizeLine; decide), fun y ny => ?_⟩
      rw [if_neg (by rw [c]; decide)] at hstep
      exact q.keep hH hstep s0 ny
    · rw [if_pos c] at hstep
      refine ⟨_, rfl, _, rfl, _, rfl, a, _, _, k, rfl, rfl, s0 _ _ hH.lst, ixN_nat (by rw [List.length_map, hH.n4]; exact hk), ?_⟩
      rw [show (ads.map V.ref).set k (V.ref p) = (ads.set k p).map V.ref from List.map_set.symm]
      exact ⟨(by show 1 ≤ sizeLine; decide), fun y ny => q.put hH hk s0 np ⟨rs, hp, S⟩ (hfit c) hstep ny⟩
/-! ### answer_append -/
abbrev s_answer_append : Stmt := top 54
theorem sc_answer_append : FnScope ["held", "k", "segments"] ["held", "k", "segments"] (defScope s_answer_append) := ⟨rfl, rfl, rfl, by decide +kernel, rfl, by decide +kernel, by decide +kernel⟩
def sp_answer_append (K : PySem.W.Frag) : Sp := fun vs H Q _ => ∃ (a p : Addr) (ads : List Addr) (st : Wm.State) (k : Nat) (c : Wm.Call) (m : Wm.Map) (H0 : Hp), vs = [.ref a, .int k, .ref p] ∧ Same H0 H ∧ Held H0 a ads st ∧ MapAt H p m ∧ m.length ≤ 200 ∧ k < 4 ∧
  (m.all (Wm.last (Wm.mapAt st k)) = true → ¬ 200 < (Wm.mapAt st k).length + m.length → m.all Wm.Seg.ok = true → Fit (Wm.mapAt st k ++ m)) ∧
  Wm.step st c = (if m.all (Wm.last (Wm.mapAt st k)) = false then (st, Wm.no 2) else if 200 < (Wm.mapAt st k).length + m.length then (st, Wm.no 4) else if m.all Wm.Seg.ok = true then (st.set k (Wm.mapAt st k ++ m), Wm.one 0) else (st, Wm.no 6)) ∧ Ans H0 a ads st c Q
theorem both_gt {rs rs0 : List Addr} {m m0 : Wm.Map} {H H' : Hp} (S : SegsAt H rs m) (S0 : SegsAt H' rs0 m0) (h : (200 : Int) < ((rs0.map V.ref).length : Int) + ((rs.map V.ref).length : Int)) : 200 < m0.length + m.length := by
  rw [S.refs_len, S0.refs_len] at h
  omega
theorem both_ngt {rs rs0 : List Addr} {m m0 : Wm.Map} {H H' : Hp} (S : SegsAt H rs m) (S0 : SegsAt H' rs0 m0) (h : ¬ (200 : Int) < ((rs0.map V.ref).length : Int) + ((rs.map V.ref).length : Int)) : ¬ 200 < m0.length + m.length := by
  rw [S.refs_len, S0.refs_len] at h
  omega
theorem both_room {rs rs0 : List Addr} {m m0 : Wm.Map} {H H' : Hp} (S : SegsAt H rs m) (S0 : SegsAt H' rs0 m0) (h : ¬ 200 < m0.length + m.length) : (rs0.map V.ref).length + (rs.map V.ref).length ≤ sizeLine := by
  rw [S.refs_len, S0.refs_len]
  have : (1000 : Nat) ≤ sizeLine := by decide
  omega
theorem SegsAt.append {H : Hp} {rs rs2 : List Addr} {m m2 : Wm.Map} (S : SegsAt H rs m) (S2 : SegsAt H rs2 m2) : SegsAt H (rs ++ rs2) (m ++ m2) := by
  refine ⟨by rw [List.length_append, List.length_append, S.len, S2.len], fun i r s h1 h2 => ?_⟩
  rcases Nat.lt_or_ge i rs.length with g | g
  · rw [List.getElem?_append_left g] at h1
    rw [List.getElem?_append_left (by rw [← S.len]; exact g)] at h2
    exact S.at_ i r s h1 h2
  · rw [List.getElem?_append_right g] at h1
    rw [List.getElem?_append_right (by rw [← S.len]; exact g), ← S.len] at h2
    exact S2.at_ _ r s h1 h2
theorem ok_answer_append {f f1 f2 : Addr} {fd fd1 fd2 : FuncData} (F : Fun K "answer_append" "answer_append" s_answer_append f fd) (T : Txt K mg aS) (D_are_behind : Df P w K mg base 2 "are_behind" ["others", "segments"] (sp_are_behind K) f1 fd1) (D_are_segments : Df P w K mg base 2 "are_segments" ["rows"] (sp_are_segments K) f2 fd2) : FnOk P w K mg base CX0 3 f fd ["held", "k", "segments"] (sp_answer_append K) := by
  refine F.ok sc_answer_append (fun vs H Q E h => ?_) (fun cdv A outer s H vs Q E hr h => ?_)
  · obtain ⟨a, p, ads, st, k, c, m, H0, rfl, _⟩ := h
    rfl
  · obtain ⟨a, p, ads, st, k, c, m, H0, rfl, s0, hH, ⟨rs, hp, S⟩, hm, hk, hfit, hstep, q⟩ := h
    refine ⟨_, (pss_cons (ps_if (pt_not (pt_val (pe_call D_are_behind.ok (hr.mono (by decide)) (by rfl) D_are_behind.g D_are_behind.kp D_are_behind.b .nil pass0 (pa_cons (pv 2) (pa_cons (pe_ix ix_list (pv 0) (pv 1) (fun _ _ => rfl)) pa_nil))))) (pss_one (ps_ret (pe_lst (pa_cons (pe_un un_neg pe_int) pa_nil)))) pss_nil)
      (pss_cons (ps_if (pt_cmpR op_gt (pe_op op_add (pe_callB call_len_seq (by rfl) T.len PySem.boot_len (pa_cons (pe_ix ix_list (pv 0) (pv 1) (fun _ _ => rfl)) pa_nil)) (pe_callB call_len_seq (by rfl) T.len PySem.boot_len (pa_cons (pv 2) pa_nil))) (pe_gI T.MOST_SEGMENTS (by rfl)) (nomark _)) (pss_one (ps_ret (pe_lst (pa_cons (pe_un un_neg pe_int) pa_nil)))) pss_nil)
      (pss_cons (ps_if (pt_not (pt_val (pe_call D_are_segments.ok (hr.mono (by decide)) (by rfl) D_are_segments.g D_are_segments.kp D_are_segments.b .nil pass0 (pa_cons (pv 2) pa_nil)))) (pss_one (ps_ret (pe_lst (pa_cons (pe_un un_neg pe_int) pa_nil)))) pss_nil)
      (pss_cons (ps_asg (pe_op op_cat (pe_ix ix_list (pv 0) (pv 1) (fun _ _ => rfl)) (pv 2)) (pg_sub (pv 0) (pv 1) set_list))
      (pss_one (ps_ret (pe_lst (pa_cons pe_int pa_nil)))))))), ?_⟩
    have h1 := hH.same s0
    obtain ⟨pk, rs0, ek, ekV, hP, S0, npa⟩ := h1.get hk
    refine ⟨_, rfl, _, rfl, _, rfl, a, _, _, _, rfl, rfl, SqL.of h1.lst, atI_nat ekV, p, pk, rs, rs0, m, _, rfl, SqL.of hp, S, SqL.of hP, S0, _, rfl, ifNB (fun c1 => ?_) (fun c1 => ?_)⟩
    · refine ⟨_, rfl, (by show 1 ≤ sizeLine; decide), fun y ny => ?_⟩
      rw [if_pos c1] at hstep
      exact q.keep hH hstep s0 ny
    rw [if_neg (by rw [c1]; decide)] at hstep
    refine ⟨_, rfl, _, rfl, a, _, _, _, rfl, rfl, SqL.of h1.lst, atI_nat ekV, pk, _, rfl, .inl (SqL.of hP), _, rfl, p, _, rfl, .inl (SqL.of hp), _, _, rfl, rfl, _, _, rfl, rfl, _, rfl, ifD (fun c2 => ?_) (fun c2 => ?_)⟩
    · refine ⟨_, rfl, (by show 1 ≤ sizeLine; decide), fun y ny => ?_⟩
      rw [if_pos (both_gt S S0 c2)] at hstep
      exact q.keep hH hstep s0 ny
    have d2 := both_ngt S S0 c2
    rw [if_neg d2] at hstep
    refine ⟨_, rfl, p, rs, m, rfl, SqL.of hp, S, _, rfl, ifNB (fun c3 => ?_) (fun c3 => ?_)⟩
    · refine ⟨_, rfl, (by show 1 ≤ sizeLine; decide), fun y ny => ?_⟩
      rw [if_neg (by rw [c3]; decide)] at hstep
      exact q.keep hH hstep s0 ny
    rw [if_pos c3] at hstep
    refine ⟨_, rfl, _, rfl, a, _, _, _, rfl, rfl, SqL.of h1.lst, atI_nat ekV, _, rfl, pk, p, _, _, rfl, rfl, hP, hp, both_room S S0 d2, fun n nn => ?_⟩
    rw [← List.map_append]
    have s2 : Same H (upd H n (.lst ((rs0 ++ rs).map V.ref))) := same_new nn
    have s02 := s0.trans s2
    have hn : upd H n (.lst ((rs0 ++ rs).map V.ref)) n = some (.lst ((rs0 ++ rs).map V.ref)) := upd_same
    generalize upd H n (.lst ((rs0 ++ rs).map V.ref)) = H2 at s2 s02 hn
    refine ⟨_, rfl, _, rfl, a, _, _, k, rfl, rfl, s02 _ _ hH.lst, ixN_nat (by rw [List.length_map, hH.n4]; exact hk), ?_⟩
    rw [show (ads.map V.ref).set k (V.ref n) = (ads.set k n).map V.ref from List.map_set.symm]
    exact ⟨(by show 1 ≤ sizeLine; decide), fun y ny => q.put hH hk s02 (s0.free nn) ⟨_, hn, (S0.append S).mono (Tups.of s2)⟩ (hfit c1 d2 c3) hstep ny⟩
/-! ### answer_clear -/
abbrev s_answer_clear : Stmt := top 55
theorem sc_answer_clear : FnScope ["held", "k"] ["held", "k"] (defScope s_answer_clear) := ⟨rfl, rfl, rfl, by decide +kernel, rfl, by decide +kernel, by decide +kernel⟩
def sp_answer_clear (K : PySem.W.Frag) : Sp := fun vs H Q _ => ∃ (a : Addr) (ads : List Addr) (st : Wm.State) (k : Nat), vs = [.ref a, .int k] ∧ Held H a ads st ∧ k < 4 ∧ Ans H a ads st (.clear k) Q
theorem ok_answer_clear {f : Addr} {fd : FuncData} (F : Fun K "answer_clear" "answer_clear" s_answer_clear f fd) (T : Txt K mg aS) : FnOk P w K mg base CX0 1 f fd ["held", "k"] (sp_answer_clear K) := by
  refine F.ok sc_answer_clear (fun vs H Q E h => ?_) (fun cdv A outer s H vs Q E hr h => ?_)
  · obtain ⟨a, ads, st, k, rfl, _⟩ := h
    rfl
  · obtain ⟨a, ads, st, k, rfl, hH, hk, q⟩ := h
    refine ⟨_, (pss_cons (ps_asg (pe_lst pa_nil) (pg_sub (pv 0) (pv 1) set_list))
      (pss_one (ps_ret (pe_lst (pa_cons pe_int pa_nil))))), ?_⟩
    refine ⟨Nat.zero_le _, fun n nn => ?_⟩
    have s0 : Same H (upd H n (.lst [])) := same_new nn
    refine ⟨_, rfl, _, rfl, a, _, _, k, rfl, rfl, s0 _ _ hH.lst, ixN_nat (by rw [List.length_map, hH.n4]; exact hk), ?_⟩
    rw [show (ads.map V.ref).set k (V.ref n) = (ads.set k n).map V.ref from List.map_set.symm]
    exact ⟨(by show 1 ≤ sizeLine; decide), fun y ny => q.put hH hk s0 nn ⟨[], upd_same, SegsAt.nil _⟩ Fit.nil (step_clear hk) ny⟩
end
end Wq

set_option Elab.async false
set_option maxRecDepth 100000
set_option maxHeartbeats 2000000
set_option linter.all false
namespace Wq
open PySem PySem.Spec PyProof.Rows L2
theorem cut_add (k : Nat) (l : List Nat) : cutV ((flatC (.add k l)).map V.int) (some (3 : Int)) none = (natsI l).map V.int := by
  show List.take _ (List.drop _ _) = _
  rw [show HT.sIx ((flatC (.add k l)).map V.int).length 0 (some (3 : Int)) = min 3 ((flatC (.add k l)).map V.int).length from HT.sIx_nat _ 0 3]
  show List.take (((natsI l).map V.int).length + 1 + 1 + 1 - min 3 (((natsI l).map V.int).length + 1 + 1 + 1)) (List.drop (min 3 (((natsI l).map V.int).length + 1 + 1 + 1)) _) = _
  rw [Nat.min_eq_left (by omega)]
  show List.take (((natsI l).map V.int).length + 3 - 3) ((natsI l).map V.int) = _
  rw [Nat.add_sub_cancel, List.take_length]
theorem cut_read (k : Nat) (t : Wm.Bytes) : cutV ((flatC (.read k t)).map V.int) (some (3 : Int)) none = (bytesI t).map V.int := by
  show List.take _ (List.drop _ _) = _
  rw [show HT.sIx ((flatC (.read k t)).map V.int).length 0 (some (3 : Int)) = min 3 ((flatC (.read k t)).map V.int).length from HT.sIx_nat _ 0 3]
  show List.take (((bytesI t).map V.int).length + 1 + 1 + 1 - min 3 (((bytesI t).map V.int).length + 1 + 1 + 1)) (List.drop (min 3 (((bytesI t).map V.int).length + 1 + 1 + 1)) _) = _
  rw [Nat.min_eq_left (by omega)]
  show List.take (((bytesI t).map V.int).length + 3 - 3) ((bytesI t).map V.int) = _
  rw [Nat.add_sub_cancel, List.take_length]
theorem not_four {ads : List Addr} {j : Nat} (h4 : ads.length = 4) (h : ((ads.map V.ref).length : Int) ≤ (j : Int)) : ¬ j < 4 := by
  rw [List.length_map, h4] at h
  omega
theorem is_four {ads : List Addr} {j : Nat} (h4 : ads.length = 4) (h : ¬ ((ads.map V.ref).length : Int) ≤ (j : Int)) : j < 4 := by
  rw [List.length_map, h4] at h
  omega
theorem join_high {st : Wm.State} {k j s b n : Nat} (hk : k < 4) (hj : ¬ j < 4) : Wm.step st (.join k j s b n) = (st, Wm.no 1) := by
  rw [step_join hk, if_neg hj]
theorem append_high {st : Wm.State} {k j l c b n : Nat} (hk : k < 4) (hj : ¬ j < 4) : Wm.step st (.append k j l c b n) = (st, Wm.no 1) := by
  rw [step_append hk, if_neg hj]
section
variable {P : Program} {w : World} {K : PySem.W.Frag} {mg : Str → Option Value} {base : Heap} {aS : Addr}
/-! ### answer_of_one -/
abbrev s_answer_of_one : Stmt := top 56
theorem sc_answer_of_one : FnScope ["held", "call", "number", "k"] ["held", "call"] (defScope s_answer_of_one) := ⟨rfl, rfl, rfl, by decide +kernel, rfl, by decide +kernel, by decide +kernel⟩
def sp_answer_of_one (K : PySem.W.Frag) : Sp := fun vs H Q _ => ∃ (a c : Addr) (ads : List Addr) (st : Wm.State) (q : Wm.Call), vs = [.ref a, .ref c] ∧ Held H a ads st ∧ SqL K H c ((flatC q).map V.int) ∧ CallIn q ∧ (ans st q).length ≤ 10000000 ∧ mapC q < 4 ∧ ((numC q : Int) ≠ 7 ∧ (numC q : Int) ≠ 8) ∧ Ans H a ads st q Q
theorem ok_answer_of_one {f1 f2 f3 f4 f5 f6 f7 f8 f : Addr} {fd1 fd2 fd3 fd4 fd5 fd6 fd7 fd8 fd : FuncData} (F : Fun K "answer_of_one" "answer_of_one" s_answer_of_one f fd) (T : Txt K mg aS)
    (D_answer_add : Df P w K mg base 2 "answer_add" ["held", "k", "numbers"] (sp_answer_add K) f1 fd1) (D_answer_read : Df P w K mg base 5 "answer_read" ["held", "k", "text"] (sp_answer_read K) f2 fd2) (D_answer_write : Df P w K mg base 4 "answer_write" ["held", "k"] (sp_answer_write K) f3 fd3)
    (D_answer_get : Df P w K mg base 2 "answer_get" ["held", "k", "i"] (sp_answer_get K) f4 fd4) (D_answer_found : Df P w K mg base 1 "answer_found" ["segment"] (sp_answer_found K) f5 fd5) (D_look_forward : Df P w K mg base 1 "look_forward" ["segments", "line", "col"] (sp_look_forward K) f6 fd6)
    (D_look_back : Df P w K mg base 3 "look_back" ["segments", "source", "line", "col"] (sp_look_back K) f7 fd7) (D_answer_clear : Df P w K mg base 1 "answer_clear" ["held", "k"] (sp_answer_clear K) f8 fd8) :
    FnOk P w K mg base CX0 6 f fd ["held", "call"] (sp_answer_of_one K) := by
  refine F.ok sc_answer_of_one (fun vs H Q E h => ?_) (fun cdv A outer s H vs Q E hr h => ?_)
  · obtain ⟨a, c, ads, st, qc, rfl, _⟩ := h
    rfl
  · obtain ⟨a, c, ads, st, qc, rfl, hH, hC, hin, hlen, hk, hno, q⟩ := h
    refine ⟨_, (pss_cons (ps_set (i := 2) sc_answer_of_one.nd rfl (Or.inl rfl) (pe_ix ix_list (pv 1) pe_int (fun _ _ => rfl)))
      (pss_cons (ps_set (i := 3) sc_answer_of_one.nd rfl (Or.inl rfl) (pe_ix ix_list (pv 1) pe_int (fun _ _ => rfl)))
      (pss_cons (ps_if (pt_cmpR op_eq (pv 2) (pe_gI T.ADD (by rfl)) (nomark _)) (pss_one (ps_ret (pe_call D_answer_add.ok (hr.mono (by decide)) (by rfl) D_answer_add.g D_answer_add.kp D_answer_add.b .nil pass0 (pa_cons (pv 0) (pa_cons (pv 3) (pa_cons (pe_slice sl_list (pv 1) (po_some pe_int) po_none) pa_nil)))))) pss_nil)
      (pss_cons (ps_if (pt_cmpR op_eq (pv 2) (pe_gI T.READ (by rfl)) (nomark _)) (pss_one (ps_ret (pe_call D_answer_read.ok (hr.mono (by decide)) (by rfl) D_answer_read.g D_answer_read.kp D_answer_read.b .nil pass0 (pa_cons (pv 0) (pa_cons (pv 3) (pa_cons (pe_slice sl_list (pv 1) (po_some pe_int) po_none) pa_nil)))))) pss_nil)
      (pss_cons (ps_if (pt_cmpR op_eq (pv 2) (pe_gI T.WRITE (by rfl)) (nomark _)) (pss_one (ps_ret (pe_call D_answer_write.ok (hr.mono (by decide)) (by rfl) D_answer_write.g D_answer_write.kp D_answer_write.b .nil pass0 (pa_cons (pv 0) (pa_cons (pv 3) pa_nil))))) pss_nil)
      (pss_cons (ps_if (pt_cmpR op_eq (pv 2) (pe_gI T.COUNT (by rfl)) (nomark _)) (pss_one (ps_ret (pe_lst (pa_cons (pe_callB call_len_seq (by rfl) T.len PySem.boot_len (pa_cons (pe_ix ix_list (pv 0) (pv 3) (fun _ _ => rfl)) pa_nil)) pa_nil)))) pss_nil)
      (pss_cons (ps_if (pt_cmpR op_eq (pv 2) (pe_gI T.GET (by rfl)) (nomark _)) (pss_one (ps_ret (pe_call D_answer_get.ok (hr.mono (by decide)) (by rfl) D_answer_get.g D_answer_get.kp D_answer_get.b .nil pass0 (pa_cons (pv 0) (pa_cons (pv 3) (pa_cons (pe_ix ix_list (pv 1) pe_int (fun _ _ => rfl)) pa_nil)))))) pss_nil)
      (pss_cons (ps_if (pt_cmpR op_eq (pv 2) (pe_gI T.AT (by rfl)) (nomark _)) (pss_one (ps_ret (pe_call D_answer_found.ok (hr.mono (by decide)) (by rfl) D_answer_found.g D_answer_found.kp D_answer_found.b .nil pass0 (pa_cons (pe_call D_look_forward.ok (hr.mono (by decide)) (by rfl) D_look_forward.g D_look_forward.kp D_look_forward.b .nil pass0 (pa_cons (pe_ix ix_list (pv 0) (pv 3) (fun _ _ => rfl)) (pa_cons (pe_ix ix_list (pv 1) pe_int (fun _ _ => rfl)) (pa_cons (pe_ix ix_list (pv 1) pe_int (fun _ _ => rfl)) pa_nil)))) pa_nil)))) pss_nil)
      (pss_cons (ps_if (pt_cmpR op_eq (pv 2) (pe_gI T.BACK (by rfl)) (nomark _)) (pss_one (ps_ret (pe_call D_answer_found.ok (hr.mono (by decide)) (by rfl) D_answer_found.g D_answer_found.kp D_answer_found.b .nil pass0 (pa_cons (pe_call D_look_back.ok (hr.mono (by decide)) (by rfl) D_look_back.g D_look_back.kp D_look_back.b .nil pass0 (pa_cons (pe_ix ix_list (pv 0) (pv 3) (fun _ _ => rfl)) (pa_cons (pe_ix ix_list (pv 1) pe_int (fun _ _ => rfl)) (pa_cons (pe_ix ix_list (pv 1) pe_int (fun _ _ => rfl)) (pa_cons (pe_ix ix_list (pv 1) pe_int (fun _ _ => rfl)) pa_nil))))) pa_nil)))) pss_nil)
      (pss_one (ps_ret (pe_call D_answer_clear.ok (hr.mono (by decide)) (by rfl) D_answer_clear.g D_answer_clear.kp D_answer_clear.b .nil pass0 (pa_cons (pv 0) (pa_cons (pv 3) pa_nil)))))))))))))), ?_⟩
    cases qc with
    | add k l =>
      have hk : k < 4 := hk
      refine ⟨_, rfl, c, _, _, _, rfl, rfl, hC, atN (j := 0) rfl rfl, _, rfl, c, _, _, _, rfl, rfl, hC, atN (j := 1) rfl rfl, ?_⟩
      refine ⟨_, rfl, rfl, _, rfl, ifI (fun _ => ?_) (fun z => absurd rfl z)⟩
      refine ⟨_, rfl, _, rfl, _, rfl, _, rfl, c, _, rfl, hC, fun p np => ?_⟩
      rw [cut_add]
      have s1 : Same H (upd H p (.lst ((natsI l).map V.int))) := same_new np
      exact ⟨a, p, ads, st, k, l, rfl, hH.same s1, hk, SqL.of upd_same, q.after s1⟩
    | read k t =>
      have hk : k < 4 := hk
      refine ⟨_, rfl, c, _, _, _, rfl, rfl, hC, atN (j := 0) rfl rfl, _, rfl, c, _, _, _, rfl, rfl, hC, atN (j := 1) rfl rfl, ?_⟩
      refine ⟨_, rfl, rfl, _, rfl, ifI (fun z => absurd z (by decide)) (fun _ => ?_)⟩
      refine ⟨_, rfl, rfl, _, rfl, ifI (fun _ => ?_) (fun z => absurd rfl z)⟩
      refine ⟨_, rfl, _, rfl, _, rfl, _, rfl, c, _, rfl, hC, fun p np => ?_⟩
      rw [cut_read]
      have s1 : Same H (upd H p (.lst ((bytesI t).map V.int))) := same_new np
      exact ⟨a, p, ads, st, k, t, rfl, hH.same s1, hk, SqL.of upd_same, hin, q.after s1⟩
    | write k =>
      have hk : k < 4 := hk
      refine ⟨_, rfl, c, _, _, _, rfl, rfl, hC, atN (j := 0) rfl rfl, _, rfl, c, _, _, _, rfl, rfl, hC, atN (j := 1) rfl rfl, ?_⟩
      refine ⟨_, rfl, rfl, _, rfl, ifI (fun z => absurd z (by decide)) (fun _ => ?_)⟩
      refine ⟨_, rfl, rfl, _, rfl, ifI (fun z => absurd z (by decide)) (fun _ => ?_)⟩
      refine ⟨_, rfl, rfl, _, rfl, ifI (fun _ => ?_) (fun z => absurd rfl z)⟩
      exact ⟨_, rfl, _, rfl, a, ads, st, k, rfl, hH, hk, hlen, q⟩
    | count k =>
      have hk : k < 4 := hk
      refine ⟨_, rfl, c, _, _, _, rfl, rfl, hC, atN (j := 0) rfl rfl, _, rfl, c, _, _, _, rfl, rfl, hC, atN (j := 1) rfl rfl, ?_⟩
      refine ⟨_, rfl, rfl, _, rfl, ifI (fun z => absurd z (by decide)) (fun _ => ?_)⟩
      refine ⟨_, rfl, rfl, _, rfl, ifI (fun z => absurd z (by decide)) (fun _ => ?_)⟩
      refine ⟨_, rfl, rfl, _, rfl, ifI (fun z => absurd z (by decide)) (fun _ => ?_)⟩
      refine ⟨_, rfl, rfl, _, rfl, ifI (fun _ => ?_) (fun z => absurd rfl z)⟩
      obtain ⟨pk, rs, ek, ekV, hP, S, npa⟩ := hH.get hk
      refine ⟨_, rfl, _, rfl, a, _, _, _, rfl, rfl, SqL.of hH.lst, atI_nat ekV, pk, _, rfl, .inl (SqL.of hP), (by show 1 ≤ sizeLine; decide), fun p np => ?_⟩
      rw [S.refs_len]
      exact q.keep hH (step_count hk) (Same.refl H) np
    | get k i =>
      have hk : k < 4 := hk
      refine ⟨_, rfl, c, _, _, _, rfl, rfl, hC, atN (j := 0) rfl rfl, _, rfl, c, _, _, _, rfl, rfl, hC, atN (j := 1) rfl rfl, ?_⟩
      refine ⟨_, rfl, rfl, _, rfl, ifI (fun z => absurd z (by decide)) (fun _ => ?_)⟩
      refine ⟨_, rfl, rfl, _, rfl, ifI (fun z => absurd z (by decide)) (fun _ => ?_)⟩
      refine ⟨_, rfl, rfl, _, rfl, ifI (fun z => absurd z (by decide)) (fun _ => ?_)⟩
      refine ⟨_, rfl, rfl, _, rfl, ifI (fun z => absurd z (by decide)) (fun _ => ?_)⟩
      refine ⟨_, rfl, rfl, _, rfl, ifI (fun _ => ?_) (fun z => absurd rfl z)⟩
      exact ⟨_, rfl, _, rfl, _, rfl, c, _, _, _, rfl, rfl, hC, atN (j := 2) rfl rfl, a, ads, st, k, i, rfl, hH, hk, q⟩
    | at_ k l o =>
      have hk : k < 4 := hk
      refine ⟨_, rfl, c, _, _, _, rfl, rfl, hC, atN (j := 0) rfl rfl, _, rfl, c, _, _, _, rfl, rfl, hC, atN (j := 1) rfl rfl, ?_⟩
      refine ⟨_, rfl, rfl, _, rfl, ifI (fun z => absurd z (by decide)) (fun _ => ?_)⟩
      refine ⟨_, rfl, rfl, _, rfl, ifI (fun z => absurd z (by decide)) (fun _ => ?_)⟩
      refine ⟨_, rfl, rfl, _, rfl, ifI (fun z => absurd z (by decide)) (fun _ => ?_)⟩
      refine ⟨_, rfl, rfl, _, rfl, ifI (fun z => absurd z (by decide)) (fun _ => ?_)⟩
      refine ⟨_, rfl, rfl, _, rfl, ifI (fun z => absurd z (by decide)) (fun _ => ?_)⟩
      refine ⟨_, rfl, rfl, _, rfl, ifI (fun _ => ?_) (fun z => absurd rfl z)⟩
      obtain ⟨pk, rs, ek, ekV, hP, S, npa⟩ := hH.get hk
      exact ⟨_, rfl, _, rfl, a, _, _, _, rfl, rfl, SqL.of hH.lst, atI_nat ekV, _, rfl, c, _, _, _, rfl, rfl, hC, atN (j := 2) rfl rfl, _, rfl, c, _, _, _, rfl, rfl, hC, atN (j := 3) rfl rfl, pk, rs, _, l, o, rfl, SqL.of hP, S, fun v hv => ⟨v, _, rfl, hv, q.found hH (step_at hk l o)⟩⟩
    | back k s l o =>
      have hk : k < 4 := hk
      refine ⟨_, rfl, c, _, _, _, rfl, rfl, hC, atN (j := 0) rfl rfl, _, rfl, c, _, _, _, rfl, rfl, hC, atN (j := 1) rfl rfl, ?_⟩
      refine ⟨_, rfl, rfl, _, rfl, ifI (fun z => absurd z (by decide)) (fun _ => ?_)⟩
      refine ⟨_, rfl, rfl, _, rfl, ifI (fun z => absurd z (by decide)) (fun _ => ?_)⟩
      refine ⟨_, rfl, rfl, _, rfl, ifI (fun z => absurd z (by decide)) (fun _ => ?_)⟩
      refine ⟨_, rfl, rfl, _, rfl, ifI (fun z => absurd z (by decide)) (fun _ => ?_)⟩
      refine ⟨_, rfl, rfl, _, rfl, ifI (fun z => absurd z (by decide)) (fun _ => ?_)⟩
      refine ⟨_, rfl, rfl, _, rfl, ifI (fun z => absurd z (by decide)) (fun _ => ?_)⟩
      refine ⟨_, rfl, rfl, _, rfl, ifI (fun _ => ?_) (fun z => absurd rfl z)⟩
      obtain ⟨pk, rs, ek, ekV, hP, S, npa⟩ := hH.get hk
      exact ⟨_, rfl, _, rfl, a, _, _, _, rfl, rfl, SqL.of hH.lst, atI_nat ekV, _, rfl, c, _, _, _, rfl, rfl, hC, atN (j := 2) rfl rfl, _, rfl, c, _, _, _, rfl, rfl, hC, atN (j := 3) rfl rfl, _, rfl, c, _, _, _, rfl, rfl, hC, atN (j := 4) rfl rfl, pk, rs, _, s, l, o, rfl, SqL.of hP, S, fun v hv => ⟨v, _, rfl, hv, q.found hH (step_back hk s l o)⟩⟩
    | join k j s b n => exact absurd rfl hno.1
    | append k j l o b n => exact absurd rfl hno.2
    | clear k =>
      have hk : k < 4 := hk
      refine ⟨_, rfl, c, _, _, _, rfl, rfl, hC, atN (j := 0) rfl rfl, _, rfl, c, _, _, _, rfl, rfl, hC, atN (j := 1) rfl rfl, ?_⟩
      refine ⟨_, rfl, rfl, _, rfl, ifI (fun z => absurd z (by decide)) (fun _ => ?_)⟩
      refine ⟨_, rfl, rfl, _, rfl, ifI (fun z => absurd z (by decide)) (fun _ => ?_)⟩
      refine ⟨_, rfl, rfl, _, rfl, ifI (fun z => absurd z (by decide)) (fun _ => ?_)⟩
      refine ⟨_, rfl, rfl, _, rfl, ifI (fun z => absurd z (by decide)) (fun _ => ?_)⟩
      refine ⟨_, rfl, rfl, _, rfl, ifI (fun z => absurd z (by decide)) (fun _ => ?_)⟩
      refine ⟨_, rfl, rfl, _, rfl, ifI (fun z => absurd z (by decide)) (fun _ => ?_)⟩
      refine ⟨_, rfl, rfl, _, rfl, ifI (fun z => absurd z (by decide)) (fun _ => ?_)⟩
      exact ⟨_, rfl, _, rfl, a, ads, st, k, rfl, hH, hk, q⟩
theorem shifts_le {m : Wm.Map} {l c b n : Nat} (F : Fit m) : (shifts m l c b n).length ≤ 200 := by
  rw [shifts_length]
  exact F.2
/-! ### answer_of_two -/
abbrev s_answer_of_two : Stmt := top 57
theorem sc_answer_of_two : FnScope ["held", "call", "k", "j"] ["held", "call"] (defScope s_answer_of_two) := ⟨rfl, rfl, rfl, by decide +kernel, rfl, by decide +kernel, by decide +kernel⟩
def sp_answer_of_two (K : PySem.W.Frag) : Sp := fun vs H Q _ => ∃ (a c : Addr) (ads : List Addr) (st : Wm.State) (q : Wm.Call), vs = [.ref a, .ref c] ∧ Held H a ads st ∧ SqL K H c ((flatC q).map V.int) ∧ mapC q < 4 ∧ ((numC q : Int) = 7 ∨ (numC q : Int) = 8) ∧ Ans H a ads st q Q
theorem ok_answer_of_two {f1 f2 f3 f4 f : Addr} {fd1 fd2 fd3 fd4 fd : FuncData} (F : Fun K "answer_of_two" "answer_of_two" s_answer_of_two f fd) (T : Txt K mg aS)
    (D_answer_join : Df P w K mg base 3 "answer_join" ["held", "k", "segments"] (sp_answer_join K) f1 fd1) (D_joined : Df P w K mg base 3 "joined" ["first", "second", "source", "base", "names"] (sp_joined K) f2 fd2) (D_answer_append : Df P w K mg base 3 "answer_append" ["held", "k", "segments"] (sp_answer_append K) f3 fd3) (D_all_moved : Df P w K mg base 3 "all_moved" ["segments", "line", "col", "base", "names"] (sp_all_moved K) f4 fd4) :
    FnOk P w K mg base CX0 4 f fd ["held", "call"] (sp_answer_of_two K) := by
  refine F.ok sc_answer_of_two (fun vs H Q E h => ?_) (fun cdv A outer s H vs Q E hr h => ?_)
  · obtain ⟨a, c, ads, st, qc, rfl, _⟩ := h
    rfl
  · obtain ⟨a, c, ads, st, qc, rfl, hH, hC, hk, hno, q⟩ := h
    refine ⟨_, (pss_cons (ps_set (i := 2) sc_answer_of_two.nd rfl (Or.inl rfl) (pe_ix ix_list (pv 1) pe_int (fun _ _ => rfl)))
      (pss_cons (ps_set (i := 3) sc_answer_of_two.nd rfl (Or.inl rfl) (pe_ix ix_list (pv 1) pe_int (fun _ _ => rfl)))
      (pss_cons (ps_if (pt_cmpR op_ge (pv 3) (pe_callB call_len_seq (by rfl) T.len PySem.boot_len (pa_cons (pv 0) pa_nil)) (nomark _)) (pss_one (ps_ret (pe_lst (pa_cons (pe_un un_neg pe_int) pa_nil)))) pss_nil)
      (pss_cons (ps_if (pt_cmpR op_eq (pe_ix ix_list (pv 1) pe_int (fun _ _ => rfl)) (pe_gI T.JOIN (by rfl)) (nomark _)) (pss_one (ps_ret (pe_call D_answer_join.ok (hr.mono (by decide)) (by rfl) D_answer_join.g D_answer_join.kp D_answer_join.b .nil pass0 (pa_cons (pv 0) (pa_cons (pv 2) (pa_cons (pe_call D_joined.ok (hr.mono (by decide)) (by rfl) D_joined.g D_joined.kp D_joined.b .nil pass0 (pa_cons (pe_ix ix_list (pv 0) (pv 2) (fun _ _ => rfl)) (pa_cons (pe_ix ix_list (pv 0) (pv 3) (fun _ _ => rfl)) (pa_cons (pe_ix ix_list (pv 1) pe_int (fun _ _ => rfl)) (pa_cons (pe_ix ix_list (pv 1) pe_int (fun _ _ => rfl)) (pa_cons (pe_ix ix_list (pv 1) pe_int (fun _ _ => rfl)) pa_nil)))))) pa_nil)))))) pss_nil)
      (pss_one (ps_ret (pe_call D_answer_append.ok (hr.mono (by decide)) (by rfl) D_answer_append.g D_answer_append.kp D_answer_append.b .nil pass0 (pa_cons (pv 0) (pa_cons (pv 2) (pa_cons (pe_call D_all_moved.ok (hr.mono (by decide)) (by rfl) D_all_moved.g D_all_moved.kp D_all_moved.b .nil pass0 (pa_cons (pe_ix ix_list (pv 0) (pv 3) (fun _ _ => rfl)) (pa_cons (pe_ix ix_list (pv 1) pe_int (fun _ _ => rfl)) (pa_cons (pe_ix ix_list (pv 1) pe_int (fun _ _ => rfl)) (pa_cons (pe_ix ix_list (pv 1) pe_int (fun _ _ => rfl)) (pa_cons (pe_ix ix_list (pv 1) pe_int (fun _ _ => rfl)) pa_nil)))))) pa_nil)))))))))), ?_⟩
    cases qc with
    | join k j s b n =>
      have hk : k < 4 := hk
      refine ⟨_, rfl, c, _, _, _, rfl, rfl, hC, atN (j := 1) rfl rfl, _, rfl, c, _, _, _, rfl, rfl, hC, atN (j := 2) rfl rfl, ?_⟩
      refine ⟨_, rfl, _, rfl, a, _, rfl, .inl (SqL.of hH.lst), _, _, rfl, rfl, _, rfl, ifD (fun h2 => ?_) (fun h2 => ?_)⟩
      · refine ⟨_, rfl, (by show 1 ≤ sizeLine; decide), fun p np => ?_⟩
        exact q.keep hH (join_high hk (not_four hH.n4 h2)) (Same.refl H) np
      have hj := is_four hH.n4 h2
      refine ⟨_, rfl, c, _, _, _, rfl, rfl, hC, atN (j := 0) rfl rfl, rfl, _, rfl, ifI (fun _ => ?_) (fun z => absurd rfl z)⟩
      obtain ⟨pk, rs, ek, ekV, hP, S, npa⟩ := hH.get hk
      obtain ⟨pj, rsj, ej, ejV, hPj, Sj, npj⟩ := hH.get hj
      refine ⟨_, rfl, _, rfl, _, rfl, _, rfl, a, _, _, _, rfl, rfl, SqL.of hH.lst, atI_nat ekV, _, rfl, _, rfl, a, _, _, _, rfl, rfl, SqL.of hH.lst, atI_nat ejV, _, rfl, c, _, _, _, rfl, rfl, hC, atN (j := 3) rfl rfl, _, rfl, c, _, _, _, rfl, rfl, hC, atN (j := 4) rfl rfl, _, rfl, c, _, _, _, rfl, rfl, hC, atN (j := 5) rfl rfl, pk, pj, rs, rsj, _, _, s, b, n, rfl, SqL.of hP, S, SqL.of hPj, Sj, (hH.fits.get hk).2.2, fun H1 p s1 np M => ?_⟩
      exact ⟨a, p, ads, st, k, _, _, H, rfl, s1, np, hH, M, hk, fun z => (hH.fits.get hk).2.joined z, step_joinS hk hj s b n, q⟩
    | append k j l o b n =>
      have hk : k < 4 := hk
      refine ⟨_, rfl, c, _, _, _, rfl, rfl, hC, atN (j := 1) rfl rfl, _, rfl, c, _, _, _, rfl, rfl, hC, atN (j := 2) rfl rfl, ?_⟩
      refine ⟨_, rfl, _, rfl, a, _, rfl, .inl (SqL.of hH.lst), _, _, rfl, rfl, _, rfl, ifD (fun h2 => ?_) (fun h2 => ?_)⟩
      · refine ⟨_, rfl, (by show 1 ≤ sizeLine; decide), fun p np => ?_⟩
        exact q.keep hH (append_high hk (not_four hH.n4 h2)) (Same.refl H) np
      have hj := is_four hH.n4 h2
      refine ⟨_, rfl, c, _, _, _, rfl, rfl, hC, atN (j := 0) rfl rfl, rfl, _, rfl, ifI (fun z => absurd z (by decide)) (fun _ => ?_)⟩
      obtain ⟨pk, rs, ek, ekV, hP, S, npa⟩ := hH.get hk
      obtain ⟨pj, rsj, ej, ejV, hPj, Sj, npj⟩ := hH.get hj
      refine ⟨_, rfl, _, rfl, _, rfl, _, rfl, a, _, _, _, rfl, rfl, SqL.of hH.lst, atI_nat ejV, _, rfl, c, _, _, _, rfl, rfl, hC, atN (j := 3) rfl rfl, _, rfl, c, _, _, _, rfl, rfl, hC, atN (j := 4) rfl rfl, _, rfl, c, _, _, _, rfl, rfl, hC, atN (j := 5) rfl rfl, _, rfl, c, _, _, _, rfl, rfl, hC, atN (j := 6) rfl rfl, pj, rsj, _, l, o, b, n, rfl, SqL.of hPj, Sj, (hH.fits.get hj).2.2, fun H1 p s1 np M => ?_⟩
      exact ⟨a, p, ads, st, k, _, _, H, rfl, s1, hH, M, shifts_le (hH.fits.get hj).2, hk, fun z1 z2 z3 => fit_shifts hH.fits hk hj z1 z2 z3, step_appendS hH.fits hk hj l o b n, q⟩
    | _ => exfalso; exact absurd hno (by simp [numC])
/-! ### answer_call -/
abbrev s_answer_call : Stmt := top 58
theorem sc_answer_call : FnScope ["held", "call"] ["held", "call"] (defScope s_answer_call) := ⟨rfl, rfl, rfl, by decide +kernel, rfl, by decide +kernel, by decide +kernel⟩
/-- answer_call -/
def sp_answer_call (K : PySem.W.Frag) : Sp := fun vs H Q _ => ∃ (a c : Addr) (ads : List Addr) (st : Wm.State) (q : Wm.Call), vs = [.ref a, .ref c] ∧ Held H a ads st ∧ SqL K H c ((flatC q).map V.int) ∧ CallIn q ∧ (ans st q).length ≤ 10000000 ∧ Ans H a ads st q Q
theorem ok_answer_call {f1 f2 f : Addr} {fd1 fd2 fd : FuncData} (F : Fun K "answer_call" "answer_call" s_answer_call f fd) (T : Txt K mg aS)
    (D_answer_of_two : Df P w K mg base 4 "answer_of_two" ["held", "call"] (sp_answer_of_two K) f1 fd1) (D_answer_of_one : Df P w K mg base 6 "answer_of_one" ["held", "call"] (sp_answer_of_one K) f2 fd2) :
    FnOk P w K mg base CX0 7 f fd ["held", "call"] (sp_answer_call K) := by
  refine F.ok sc_answer_call (fun vs H Q E h => ?_) (fun cdv A outer s H vs Q E hr h => ?_)
  · obtain ⟨a, c, ads, st, qc, rfl, _⟩ := h
    rfl
  · obtain ⟨a, c, ads, st, qc, rfl, hH, hC, hin, hlen, q⟩ := h
    refine ⟨_, (pss_cons (ps_if (pt_cmpR op_ge (pe_ix ix_list (pv 1) pe_int (fun _ _ => rfl)) (pe_callB call_len_seq (by rfl) T.len PySem.boot_len (pa_cons (pv 0) pa_nil)) (nomark _)) (pss_one (ps_ret (pe_lst (pa_cons (pe_un un_neg pe_int) pa_nil)))) pss_nil)
      (pss_cons (ps_if (PW.pt (pw_or (pt_cmpR op_eq (pe_ix ix_list (pv 1) pe_int (fun _ _ => rfl)) (pe_gI T.JOIN (by rfl)) (nomark _)) (pw_or1 (pt_cmpR op_eq (pe_ix ix_list (pv 1) pe_int (fun _ _ => rfl)) (pe_gI T.APPEND (by rfl)) (nomark _))))) (pss_one (ps_ret (pe_call D_answer_of_two.ok (hr.mono (by decide)) (by rfl) D_answer_of_two.g D_answer_of_two.kp D_answer_of_two.b .nil pass0 (pa_cons (pv 0) (pa_cons (pv 1) pa_nil))))) pss_nil)
      (pss_one (ps_ret (pe_call D_answer_of_one.ok (hr.mono (by decide)) (by rfl) D_answer_of_one.g D_answer_of_one.kp D_answer_of_one.b .nil pass0 (pa_cons (pv 0) (pa_cons (pv 1) pa_nil))))))), ?_⟩
    obtain ⟨r, er⟩ := flat_head qc
    have hD : SqL K H c (V.int (numC qc : Int) :: V.int (mapC qc : Int) :: r.map V.int) := by
      rw [er] at hC
      exact hC
    refine ⟨_, rfl, c, _, _, _, rfl, rfl, hD, atN (j := 1) rfl rfl, _, rfl, a, _, rfl, .inl (SqL.of hH.lst), _, _, rfl, rfl, _, rfl, ifD (fun h2 => ?_) (fun h2 => ?_)⟩
    · refine ⟨_, rfl, (by show 1 ≤ sizeLine; decide), fun p np => ?_⟩
      exact q.keep hH (step_k (not_four hH.n4 h2)) (Same.refl H) np
    have hk := is_four hH.n4 h2
    refine ⟨_, rfl, c, _, _, _, rfl, rfl, hD, atN (j := 0) rfl rfl, rfl, _, rfl, ifOr (fun h => ⟨_, rfl, c, _, _, _, rfl, rfl, hD, atN (j := 0) rfl rfl, rfl, _, rfl, h⟩) (fun z => ?_) (fun z => ?_)⟩
    · exact ⟨_, rfl, _, rfl, a, c, ads, st, qc, rfl, hH, hC, hk, z.imp V.int.inj V.int.inj, q⟩
    · exact ⟨_, rfl, _, rfl, a, c, ads, st, qc, rfl, hH, hC, hin, hlen, hk, ⟨fun y => z (.inl (congrArg V.int y)), fun y => z (.inr (congrArg V.int y))⟩, q⟩
end
end Wq

set_option Elab.async false
set_option maxRecDepth 100000
set_option maxHeartbeats 2000000
set_option linter.all false
namespace Wq
open PySem PySem.Spec PyProof.Rows L2
/-! ### answers -/
structure AnInv (H : Hp) (a pH pT : Addr) (l : List Int) (m : Nat) (σ : L2.St) (H' : Hp) (i : Nat) (rest : List Wm.Call) (st : Wm.State) (ads : List Addr) (sofar : List Int) (x4 x5 : Option V) : Prop where
  sg : σ = [some (.ref a), some (.ref pH), some (.ref pT), some (.int i), x4, x5]
  me : m = rest.length
  sm : Same H H'
  held : Held H' pH ads st
  hT : H' pT = some (.lst (sofar.map V.int))
  nT : pT ≠ pH ∧ pT ∉ ads
  nw : ∀ p ∈ ads, H p = none
  dr : l.drop i = rest.flatMap flatC
  inn : ∀ q ∈ rest, CallIn q
  due : PyWqasai.answers l = sofar ++ PyFlat.told (runC st rest)
theorem rest_nil {l : List Int} {i : Nat} {rest : List Wm.Call} (h : l.drop i = rest.flatMap flatC) (hn : ¬ (i : Int) < ((l.map V.int).length : Int)) : rest = [] := by
  cases rest with
  | nil => rfl
  | cons q r =>
    exfalso
    rw [List.length_map] at hn
    rw [List.drop_eq_nil_of_le (by omega)] at h
    have := congrArg List.length h
    rw [List.flatMap_cons, List.length_append] at this
    have := flatC_pos q
    simp at *
    omega
theorem rest_cons {l : List Int} {i : Nat} {rest : List Wm.Call} (h : l.drop i = rest.flatMap flatC) (hn : (i : Int) < ((l.map V.int).length : Int)) : ∃ q r, rest = q :: r := by
  cases rest with
  | nil =>
    exfalso
    rw [List.length_map] at hn
    have := congrArg List.length h
    rw [List.length_drop] at this
    simp at this
    omega
  | cons q r => exact ⟨q, r, rfl⟩
theorem cut_call {l : List Int} {i : Nat} {q : Wm.Call} {r : List Int} (h : l.drop i = flatC q ++ r) : cutV (l.map V.int) (some (i : Int)) (some ((i + (flatC q).length : Nat) : Int)) = (flatC q).map V.int := by
  have hl : (l.map V.int).length = l.length := List.length_map ..
  have h2 := congrArg List.length h
  rw [List.length_drop, List.length_append] at h2
  have hp := flatC_pos q
  unfold cutV
  rw [show HT.sIx (l.map V.int).length 0 (some (i : Int)) = min i (l.map V.int).length from HT.sIx_nat _ 0 i,
    show HT.sIx (l.map V.int).length (l.map V.int).length (some ((i + (flatC q).length : Nat) : Int)) = min (i + (flatC q).length) (l.map V.int).length from HT.sIx_nat _ _ _, hl]
  rw [Nat.min_eq_left (by omega), Nat.min_eq_left (by omega), Nat.add_sub_cancel_left, ← List.map_drop, ← List.map_take, h, List.take_left']
  rfl
theorem next_drop {l : List Int} {i : Nat} {q : Wm.Call} {r : List Wm.Call} (h : l.drop i = (q :: r).flatMap flatC) : l.drop (i + (flatC q).length) = r.flatMap flatC := by
  rw [← List.drop_drop, h, List.flatMap_cons]
  exact List.drop_left
theorem due_ans {l sofar : List Int} {st : Wm.State} {q : Wm.Call} {r : List Wm.Call} (h : PyWqasai.answers l = sofar ++ PyFlat.told (runC st (q :: r))) :
    PyWqasai.answers l = (sofar ++ [((ans st q).length : Int)] ++ ans st q) ++ PyFlat.told (runC (Wm.step st q).1 r) := by
  rw [h]
  show sofar ++ PyFlat.told (ans st q :: runC (Wm.step st q).1 r) = _
  rw [told_cons, List.append_assoc, List.append_assoc]
  rfl
theorem due_len {l sofar : List Int} {st : Wm.State} {q : Wm.Call} {r : List Wm.Call} (h : PyWqasai.answers l = sofar ++ PyFlat.told (runC st (q :: r))) (hl : (PyWqasai.answers l).length ≤ 10000000) :
    (ans st q).length ≤ 10000000 ∧ sofar.length < sizeLine ∧ (sofar.length + 1) + (ans st q).length ≤ sizeLine := by
  rw [due_ans h] at hl
  simp only [List.length_append, List.length_cons, List.length_nil] at hl
  have : (10005000 : Nat) ≤ sizeLine := by decide
  omega
theorem due_end {l sofar : List Int} {st : Wm.State} (h : PyWqasai.answers l = sofar ++ PyFlat.told (runC st [])) : PyWqasai.answers l = sofar := by
  rw [h]
  exact List.append_nil _
theorem four_held {H : Hp} {p0 p1 p2 p3 pH : Addr} (n0 : H p0 = none) (n1 : upd H p0 (.lst []) p1 = none) (n2 : upd (upd H p0 (.lst [])) p1 (.lst []) p2 = none) (n3 : upd (upd (upd H p0 (.lst [])) p1 (.lst [])) p2 (.lst []) p3 = none)
    (nH : upd (upd (upd (upd H p0 (.lst [])) p1 (.lst [])) p2 (.lst [])) p3 (.lst []) pH = none) :
    Same H (upd (upd (upd (upd (upd H p0 (.lst [])) p1 (.lst [])) p2 (.lst [])) p3 (.lst [])) pH (.lst [.ref p0, .ref p1, .ref p2, .ref p3])) ∧
    Held (upd (upd (upd (upd (upd H p0 (.lst [])) p1 (.lst [])) p2 (.lst [])) p3 (.lst [])) pH (.lst [.ref p0, .ref p1, .ref p2, .ref p3])) pH [p0, p1, p2, p3] Wm.start ∧ (∀ p ∈ [p0, p1, p2, p3], H p = none) ∧ H pH = none := by
  have s0 : Same H (upd H p0 (.lst [])) := same_new n0
  have s1 : Same (upd H p0 (.lst [])) (upd (upd H p0 (.lst [])) p1 (.lst [])) := same_new n1
  have s2 : Same (upd (upd H p0 (.lst [])) p1 (.lst [])) (upd (upd (upd H p0 (.lst [])) p1 (.lst [])) p2 (.lst [])) := same_new n2
  have s3 : Same (upd (upd (upd H p0 (.lst [])) p1 (.lst [])) p2 (.lst [])) (upd (upd (upd (upd H p0 (.lst [])) p1 (.lst [])) p2 (.lst [])) p3 (.lst [])) := same_new n3
  have sH : Same (upd (upd (upd (upd H p0 (.lst [])) p1 (.lst [])) p2 (.lst [])) p3 (.lst [])) (upd (upd (upd (upd (upd H p0 (.lst [])) p1 (.lst [])) p2 (.lst [])) p3 (.lst [])) pH (.lst [.ref p0, .ref p1, .ref p2, .ref p3])) := same_new nH
  have e0 : (upd H p0 (.lst [])) p0 = some (.lst []) := upd_same
  have e1 : (upd (upd H p0 (.lst [])) p1 (.lst [])) p1 = some (.lst []) := upd_same
  have e2 : (upd (upd (upd H p0 (.lst [])) p1 (.lst [])) p2 (.lst [])) p2 = some (.lst []) := upd_same
  have e3 : (upd (upd (upd (upd H p0 (.lst [])) p1 (.lst [])) p2 (.lst [])) p3 (.lst [])) p3 = some (.lst []) := upd_same
  have d01 : p0 ≠ p1 := ne_of_none e0 n1
  have d02 : p0 ≠ p2 := ne_of_none (s1 _ _ e0) n2
  have d12 : p1 ≠ p2 := ne_of_none e1 n2
  have d03 : p0 ≠ p3 := ne_of_none (s2 _ _ (s1 _ _ e0)) n3
  have d13 : p1 ≠ p3 := ne_of_none (s2 _ _ e1) n3
  have d23 : p2 ≠ p3 := ne_of_none e2 n3
  have d0H : p0 ≠ pH := ne_of_none (s3 _ _ (s2 _ _ (s1 _ _ e0))) nH
  have d1H : p1 ≠ pH := ne_of_none (s3 _ _ (s2 _ _ e1)) nH
  have d2H : p2 ≠ pH := ne_of_none (s3 _ _ e2) nH
  have d3H : p3 ≠ pH := ne_of_none e3 nH
  refine ⟨(((s0.trans s1).trans s2).trans s3).trans sH, ⟨upd_same, rfl, ?_, ?_, ?_, Fits.start⟩, ?_, ?_⟩
  · intro i j p hi hj
    match i, j, hi, hj with
    | 0, 0, _, _ => rfl
    | 1, 1, _, _ => rfl
    | 2, 2, _, _ => rfl
    | 3, 3, _, _ => rfl
    | 0, 1, hi, hj => exact absurd (Option.some.inj (hi.trans hj.symm)) d01
    | 0, 2, hi, hj => exact absurd (Option.some.inj (hi.trans hj.symm)) d02
    | 0, 3, hi, hj => exact absurd (Option.some.inj (hi.trans hj.symm)) d03
    | 1, 0, hi, hj => exact absurd (Option.some.inj (hj.trans hi.symm)) d01
    | 1, 2, hi, hj => exact absurd (Option.some.inj (hi.trans hj.symm)) d12
    | 1, 3, hi, hj => exact absurd (Option.some.inj (hi.trans hj.symm)) d13
    | 2, 0, hi, hj => exact absurd (Option.some.inj (hj.trans hi.symm)) d02
    | 2, 1, hi, hj => exact absurd (Option.some.inj (hj.trans hi.symm)) d12
    | 2, 3, hi, hj => exact absurd (Option.some.inj (hi.trans hj.symm)) d23
    | 3, 0, hi, hj => exact absurd (Option.some.inj (hj.trans hi.symm)) d03
    | 3, 1, hi, hj => exact absurd (Option.some.inj (hj.trans hi.symm)) d13
    | 3, 2, hi, hj => exact absurd (Option.some.inj (hj.trans hi.symm)) d23
    | i + 4, _, hi, _ => exact nomatch hi
    | _, j + 4, _, hj => exact nomatch hj
  · intro h
    simp only [List.mem_cons, List.not_mem_nil, or_false] at h
    rcases h with h | h | h | h
    · exact d0H h.symm
    · exact d1H h.symm
    · exact d2H h.symm
    · exact d3H h.symm
  · intro k p m hk hm
    have em : m = [] := List.eq_of_mem_replicate (List.mem_of_getElem? hm)
    subst em
    refine ⟨[], ?_, SegsAt.nil _⟩
    match k, hk with
    | 0, hk =>
      rw [← Option.some.inj hk]
      exact sH _ _ (s3 _ _ (s2 _ _ (s1 _ _ e0)))
    | 1, hk =>
      rw [← Option.some.inj hk]
      exact sH _ _ (s3 _ _ (s2 _ _ e1))
    | 2, hk =>
      rw [← Option.some.inj hk]
      exact sH _ _ (s3 _ _ e2)
    | 3, hk =>
      rw [← Option.some.inj hk]
      exact sH _ _ e3
    | k + 4, hk => exact nomatch hk
  · intro p h
    simp only [List.mem_cons, List.not_mem_nil, or_false] at h
    rcases h with rfl | rfl | rfl | rfl
    · exact n0
    · exact s0.free n1
    · exact (s0.trans s1).free n2
    · exact ((s0.trans s1).trans s2).free n3
  · exact (((s0.trans s1).trans s2).trans s3).free nH
section
variable {P : Program} {w : World} {K : PySem.W.Frag} {mg : Str → Option Value} {base : Heap} {aS : Addr}
abbrev s_answers : Stmt := top 59
theorem sc_answers : FnScope ["calls", "held", "told", "start", "end", "answer"] ["calls"] (defScope s_answers) := ⟨rfl, rfl, rfl, by decide +kernel, rfl, by decide +kernel, by decide +kernel⟩
def sp_answers (K : PySem.W.Frag) : Sp := fun vs H Q _ => ∃ (a : Addr) (l : List Int), vs = [.ref a] ∧ SqL K H a (l.map V.int) ∧ PyWqasai.answers_asked l = true ∧ ∀ (H' : Hp) (p : Addr), H' p = some (.lst ((PyWqasai.answers l).map V.int)) → Q (.ref p) H'
theorem ok_answers {f f1 f2 : Addr} {fd fd1 fd2 : FuncData} (F : Fun K "answers" "answers" s_answers f fd) (T : Txt K mg aS) (D_call_end : Df P w K mg base 1 "call_end" ["calls", "start"] (sp_call_end K) f1 fd1) (D_answer_call : Df P w K mg base 7 "answer_call" ["held", "call"] (sp_answer_call K) f2 fd2) :
    FnOk P w K mg base CX0 8 f fd ["calls"] (sp_answers K) := by
  refine F.ok sc_answers (fun vs H Q E h => ?_) (fun cdv A outer s H vs Q E hr h => ?_)
  · obtain ⟨a, l, rfl, _⟩ := h
    rfl
  · obtain ⟨a, l, rfl, hA, hask, q⟩ := h
    obtain ⟨qs, el, hin, hdue, hlen⟩ := asked_view hask
    refine ⟨_, (pss_cons (ps_set (i := 1) sc_answers.nd rfl (Or.inl rfl) (pe_lst (pa_cons (pe_lst pa_nil) (pa_cons (pe_lst pa_nil) (pa_cons (pe_lst pa_nil) (pa_cons (pe_lst pa_nil) pa_nil))))))
      (pss_cons (ps_set (i := 2) sc_answers.nd rfl (Or.inl rfl) (pe_lst pa_nil))
      (pss_cons (ps_set (i := 3) sc_answers.nd rfl (Or.inl rfl) pe_int)
      (pss_cons (ps_while PassesOwn.never (pt_cmpR op_lt (pv 3) (pe_callB call_len_seq (by rfl) T.len PySem.boot_len (pa_cons (pv 0) pa_nil)) (nomark _)) (pss_cons (ps_set (i := 4) sc_answers.nd rfl (Or.inl rfl) (pe_call D_call_end.ok (hr.mono (by decide)) (by rfl) D_call_end.g D_call_end.kp D_call_end.b .nil pass0 (pa_cons (pv 0) (pa_cons (pv 3) pa_nil))))
      (pss_cons (ps_set (i := 5) sc_answers.nd rfl (Or.inl rfl) (pe_call D_answer_call.ok (hr.mono (by decide)) (by rfl) D_answer_call.g D_answer_call.kp D_answer_call.b .nil pass0 (pa_cons (pv 1) (pa_cons (pe_slice sl_list (pv 0) (po_some (pv 3)) (po_some (pv 4))) pa_nil))))
      (pss_cons (ps_expr (pe_bm PySem.F.plainAttrs_list PySem.F.slot_list_append PySem.F.type_list_append mt_append (pv 2) (pa_cons (pe_callB call_len_seq (by rfl) T.len PySem.boot_len (pa_cons (pv 5) pa_nil)) pa_nil)))
      (pss_cons (ps_expr (pe_bm PySem.F.plainAttrs_list PySem.F.slot_list_extend PySem.F.type_list_extend mt_extend (pv 2) (pa_cons (pv 5) pa_nil)))
      (pss_one (ps_set (i := 3) sc_answers.nd rfl (Or.inl rfl) (pv 4))))))))
      (pss_one (ps_ret (pv 2))))))), ?_⟩
    refine ⟨Nat.zero_le _, fun p0 n0 => ⟨Nat.zero_le _, fun p1 n1 => ⟨Nat.zero_le _, fun p2 n2 => ⟨Nat.zero_le _, fun p3 n3 => ⟨(by show 4 ≤ sizeLine; decide), fun pH nH => ?_⟩⟩⟩⟩⟩
    obtain ⟨sm0, held0, new0, newH⟩ := four_held n0 n1 n2 n3 nH
    generalize upd (upd (upd (upd (upd H p0 (.lst [])) p1 (.lst [])) p2 (.lst [])) p3 (.lst [])) pH (.lst [.ref p0, .ref p1, .ref p2, .ref p3]) = H0 at sm0 held0
    refine ⟨Nat.zero_le _, fun pT nT => ?_⟩
    have sT : Same H0 (upd H0 pT (.lst [])) := same_new nT
    refine ⟨fun m σ H' => ∃ i rest st ads sofar x4 x5, AnInv H a pH pT l m σ H' i rest st ads sofar x4 x5, ⟨_, 0, qs, Wm.start, [p0, p1, p2, p3], [], none, none, rfl, rfl, sm0.trans sT, held0.same sT, upd_same, ⟨fun z => ne_of_none held0.lst nT z.symm, held0.fresh nT⟩, new0, el, hin, hdue⟩, ?_⟩
    rintro m σ H' ⟨i, rest, st, ads, sofar, x4, x5, rfl, rfl, sm, held, hT, hne, hnw, hdr, hinn, hd⟩
    have hA' : SqL K H' a (l.map V.int) := sm.seq hA
    refine ⟨_, rfl, _, rfl, a, _, rfl, .inl hA', _, _, rfl, rfl, _, rfl, ifD (fun c => ?_) (fun c => ?_)⟩
    rotate_left
    · obtain rfl := rest_nil hdr c
      rw [← due_end hd] at hT
      exact ⟨_, rfl, q _ pT hT⟩
    obtain ⟨qc, r, rfl⟩ := rest_cons hdr c
    obtain ⟨hl1, hl2, hl3⟩ := due_len hd hlen
    refine ⟨fun σ' H'' => ∃ m', m' < (qc :: r).length ∧ ∃ i rest st ads sofar x4 x5, AnInv H a pH pT l m' σ' H'' i rest st ads sofar x4 x5, fun _ _ h => h, ?_⟩
    have hdr' : l.drop i = flatC qc ++ r.flatMap flatC := hdr
    refine ⟨_, rfl, _, rfl, a, l, i, qc, _, rfl, hA', hdr', ?_⟩
    refine ⟨_, rfl, _, rfl, _, rfl, _, rfl, _, rfl, _, rfl, a, _, rfl, hA', fun pc npc => ?_⟩
    rw [cut_call hdr']
    have sc : Same H' (upd H' pc (.lst ((flatC qc).map V.int))) := same_new npc
    refine ⟨pH, pc, ads, st, qc, rfl, held.same sc, SqL.of upd_same, hinn qc (List.mem_cons_self ..), hl1, fun H2 p ads2 held2 stp2 np ep => ?_⟩
    have hT2 : H2 pT = some (.lst (sofar.map V.int)) := stp2.keep pT _ (sc _ _ hT) hne.1 hne.2
    have hpT : p ≠ pT := fun z => by
      rw [z, sc _ _ hT] at np
      cases np
    -- told.append(len(answer))
    refine ⟨_, rfl, .inl ⟨rfl, _, SqL.of hT2⟩, _, rfl, p, _, rfl, .inl (SqL.of ep), pT, _, _, rfl, rfl, hT2, (by rw [List.length_map]; exact hl2), ?_⟩
    -- told.extend(answer)
    refine ⟨_, rfl, .inl ⟨rfl, _, SqL.of upd_same⟩, _, rfl, pT, p, _, _, rfl, rfl, upd_same, (upd_ne hpT).trans ep, ?_, ?_⟩
    · rw [List.length_append, List.length_map, List.length_map]
      exact hl3
    -- start = end
    refine ⟨_, rfl, ?_⟩
    rw [upd_upd, List.length_map, ints_snoc, ← List.map_append]
    have nT2 : pT ∉ ads2 := fun z => by
      rcases stp2.new pT z with h | h
      · exact hne.2 h
      · rw [sc _ _ hT] at h
        cases h
    refine ⟨_, Nat.lt_succ_self _, _, r, _, ads2, _, _, _, rfl, rfl, ?_, ?_, upd_same, ⟨hne.1, nT2⟩, ?_, next_drop hdr, fun x hx => hinn x (List.mem_cons_of_mem _ hx), due_ans hd⟩
    · intro b o eb
      have hb1 := sm b o eb
      have nb : b ≠ pT := ne_of_none eb (sm0.free nT)
      rw [upd_ne nb]
      exact stp2.keep b o (sc _ _ hb1) (ne_of_none eb newH) (fun z => by rw [hnw b z] at eb; cases eb)
    · exact held2.other (Ne.symm hne.1) nT2 hT2
    · intro x hx
      rcases stp2.new x hx with h | h
      · exact hnw x h
      · exact sm.free (sc.free h)
end
end Wq

set_option Elab.async false
set_option maxRecDepth 100000
set_option maxHeartbeats 8000000
set_option linter.all false
namespace Wq
open PySem PySem.Spec PyProof.Rows L2
/-! ### the end: what the top has written -/
def DefAt (K : PySem.W.Frag) (mg : Str → Option Value) (nm : Str) (st : Stmt) : Prop := ∃ f fd, Fun K nm nm st f fd ∧ mg nm = some (.ref f)
theorem df_mk {K : PySem.W.Frag} {h : Heap} {mg : Str → Option Value} {nm : Str} {st : Stmt} {f : Addr} {od an : Option Addr} {sl : Array (Option Value)} {oc kV dc pm cd ct : Value} (X : K.In h) (G : h.Ns mainGlobals mg)
    (a : PySem.W.nsIn K mainGlobals nm = some (some (.ref f))) (l : K.lookup f = some ⟨oc, od, .func (PySem.W.fnOf nm nm (defArgs st) (defBody st) (defScope st) .none kV dc pm an cd ct), sl⟩) (c : PySem.W.codeIn K cd nm = true) (k : PySem.W.keepIn K (.ref f) = true) : DefAt K mg nm st :=
  ⟨f, _, fun_mk (st := st) l c k, PySem.W.mg_of X G a⟩
section
variable {P : Program} {w : World} {K : PySem.W.Frag} {mg : Str → Option Value}
theorem txt_mk {h : Heap} {aS aC : Addr} {od od2 : Option Addr} {sl sl2 : Array (Option Value)} {t0 t1 t2 c0 c1 c2 c3 c4 c5 c6 c7 c8 c9 u_GREATEST_LINE u_GREATEST_NUMBER u_COMMA u_SEMICOLON u_MOST_SEGMENTS u_ADD u_READ u_WRITE u_COUNT u_GET u_AT u_BACK u_JOIN u_APPEND n n2 : Nat} (X : K.In h) (G : h.Ns mainGlobals mg)
    (z_len : PySem.W.nsIn K mainGlobals "len" = some none)
    (z_range : PySem.W.nsIn K mainGlobals "range" = some none)
    (z_tuple : PySem.W.nsIn K mainGlobals "tuple" = some none)
    (z_list : PySem.W.nsIn K mainGlobals "list" = some none)
    (y_a : PySem.W.nsIn K mainGlobals "SIZES" = some (some (.ref aS))) (y_l : K.lookup aS = some ⟨.type "tuple", od, .seq #[.int 2 t0, .int 5 t1, .int 6 t2] n, sl⟩)
    (y_b : PySem.W.nsIn K mainGlobals "SIZES_OF_CALLS" = some (some (.ref aC))) (y_m : K.lookup aC = some ⟨.type "tuple", od2, .seq #[.int 3 c0, .int 3 c1, .int 2 c2, .int 2 c3, .int 3 c4, .int 4 c5, .int 5 c6, .int 6 c7, .int 7 c8, .int 2 c9] n2, sl2⟩)
    (x_GREATEST_LINE : PySem.W.nsIn K mainGlobals "GREATEST_LINE" = some (some (.int 4095 u_GREATEST_LINE)))
    (x_GREATEST_NUMBER : PySem.W.nsIn K mainGlobals "GREATEST_NUMBER" = some (some (.int 2147483647 u_GREATEST_NUMBER)))
    (x_COMMA : PySem.W.nsIn K mainGlobals "COMMA" = some (some (.int 44 u_COMMA)))
    (x_SEMICOLON : PySem.W.nsIn K mainGlobals "SEMICOLON" = some (some (.int 59 u_SEMICOLON)))
    (x_MOST_SEGMENTS : PySem.W.nsIn K mainGlobals "MOST_SEGMENTS" = some (some (.int 200 u_MOST_SEGMENTS)))
    (x_ADD : PySem.W.nsIn K mainGlobals "ADD" = some (some (.int 0 u_ADD)))
    (x_READ : PySem.W.nsIn K mainGlobals "READ" = some (some (.int 1 u_READ)))
    (x_WRITE : PySem.W.nsIn K mainGlobals "WRITE" = some (some (.int 2 u_WRITE)))
    (x_COUNT : PySem.W.nsIn K mainGlobals "COUNT" = some (some (.int 3 u_COUNT)))
    (x_GET : PySem.W.nsIn K mainGlobals "GET" = some (some (.int 4 u_GET)))
    (x_AT : PySem.W.nsIn K mainGlobals "AT" = some (some (.int 5 u_AT)))
    (x_BACK : PySem.W.nsIn K mainGlobals "BACK" = some (some (.int 6 u_BACK)))
    (x_JOIN : PySem.W.nsIn K mainGlobals "JOIN" = some (some (.int 7 u_JOIN)))
    (x_APPEND : PySem.W.nsIn K mainGlobals "APPEND" = some (some (.int 8 u_APPEND)))
    : ∃ aS, Txt K mg aS :=
  ⟨aS, PySem.W.mg_none_of X G z_len, PySem.W.mg_none_of X G z_range, PySem.W.mg_none_of X G z_tuple, PySem.W.mg_none_of X G z_list, PySem.W.mg_of X G y_a, (fun H => .inr ⟨_, _, n, y_l, rfl, rfl, (by show 3 ≤ sizeLine; decide), .cons ⟨_, rfl⟩ <| .cons ⟨_, rfl⟩ <| .cons ⟨_, rfl⟩ <| .nil⟩), ⟨_, PySem.W.mg_of X G x_GREATEST_LINE⟩, ⟨_, PySem.W.mg_of X G x_GREATEST_NUMBER⟩, ⟨_, PySem.W.mg_of X G x_COMMA⟩, ⟨_, PySem.W.mg_of X G x_SEMICOLON⟩, ⟨_, PySem.W.mg_of X G x_MOST_SEGMENTS⟩, ⟨_, PySem.W.mg_of X G x_ADD⟩, ⟨_, PySem.W.mg_of X G x_READ⟩, ⟨_, PySem.W.mg_of X G x_WRITE⟩, ⟨_, PySem.W.mg_of X G x_COUNT⟩, ⟨_, PySem.W.mg_of X G x_GET⟩, ⟨_, PySem.W.mg_of X G x_AT⟩, ⟨_, PySem.W.mg_of X G x_BACK⟩, ⟨_, PySem.W.mg_of X G x_JOIN⟩, ⟨_, PySem.W.mg_of X G x_APPEND⟩, ⟨aC, PySem.W.mg_of X G y_b, (fun H => .inr ⟨_, _, n2, y_m, rfl, rfl, (by show 10 ≤ sizeLine; decide), .cons ⟨_, rfl⟩ <| .cons ⟨_, rfl⟩ <| .cons ⟨_, rfl⟩ <| .cons ⟨_, rfl⟩ <| .cons ⟨_, rfl⟩ <| .cons ⟨_, rfl⟩ <| .cons ⟨_, rfl⟩ <| .cons ⟨_, rfl⟩ <| .cons ⟨_, rfl⟩ <| .cons ⟨_, rfl⟩ <| .nil⟩)⟩⟩
theorem all_mk {fa : Addr} (hT : ∃ aS, Txt K mg aS) (hfa : mg "answers" = some (.ref fa))
    (d1 : DefAt K mg "is_segment" s_is_segment)
    (d2 : DefAt K mg "are_segments" s_are_segments)
    (d3 : DefAt K mg "has_origin" s_has_origin)
    (d4 : DefAt K mg "has_name" s_has_name)
    (d5 : DefAt K mg "is_behind" s_is_behind)
    (d6 : DefAt K mg "are_behind" s_are_behind)
    (d7 : DefAt K mg "look_forward" s_look_forward)
    (d8 : DefAt K mg "came_from_line" s_came_from_line)
    (d9 : DefAt K mg "look_back" s_look_back)
    (d10 : DefAt K mg "byte_of" s_byte_of)
    (d11 : DefAt K mg "digit_of" s_digit_of)
    (d12 : DefAt K mg "written_number" s_written_number)
    (d13 : DefAt K mg "signed" s_signed)
    (d14 : DefAt K mg "read_numbers" s_read_numbers)
    (d15 : DefAt K mg "begin_line" s_begin_line)
    (d16 : DefAt K mg "remember" s_remember)
    (d17 : DefAt K mg "written_map" s_written_map)
    (d18 : DefAt K mg "piece_end" s_piece_end)
    (d19 : DefAt K mg "read_segment" s_read_segment)
    (d20 : DefAt K mg "read_map" s_read_map)
    (d21 : DefAt K mg "through" s_through)
    (d22 : DefAt K mg "joined" s_joined)
    (d23 : DefAt K mg "moved" s_moved)
    (d24 : DefAt K mg "all_moved" s_all_moved)
    (d25 : DefAt K mg "call_end" s_call_end)
    (d26 : DefAt K mg "answer_add" s_answer_add)
    (d27 : DefAt K mg "answer_read" s_answer_read)
    (d28 : DefAt K mg "answer_write" s_answer_write)
    (d29 : DefAt K mg "answer_found" s_answer_found)
    (d30 : DefAt K mg "answer_get" s_answer_get)
    (d31 : DefAt K mg "answer_join" s_answer_join)
    (d32 : DefAt K mg "answer_append" s_answer_append)
    (d33 : DefAt K mg "answer_clear" s_answer_clear)
    (d34 : DefAt K mg "answer_of_one" s_answer_of_one)
    (d35 : DefAt K mg "answer_of_two" s_answer_of_two)
    (d36 : DefAt K mg "answer_call" s_answer_call)
    (d37 : DefAt K mg "answers" s_answers)
    : ∃ fd : FuncData, (∀ (s : Shared) (us : List Value), us.length = (["calls"] : List Str).length → BindsTo s fd ⟨us, []⟩ ((["calls"] : List Str).zip us)) ∧ ∀ base : Heap, K.In base → base.Ns mainGlobals mg → FnOk P w K mg base CX0 8 fa fd ["calls"] (sp_answers K) := by
  obtain ⟨aS, T⟩ := hT
  obtain ⟨f1, fd1, F1, g1⟩ := d1
  obtain ⟨f2, fd2, F2, g2⟩ := d2
  obtain ⟨f3, fd3, F3, g3⟩ := d3
  obtain ⟨f4, fd4, F4, g4⟩ := d4
  obtain ⟨f5, fd5, F5, g5⟩ := d5
  obtain ⟨f6, fd6, F6, g6⟩ := d6
  obtain ⟨f7, fd7, F7, g7⟩ := d7
  obtain ⟨f8, fd8, F8, g8⟩ := d8
  obtain ⟨f9, fd9, F9, g9⟩ := d9
  obtain ⟨f10, fd10, F10, g10⟩ := d10
  obtain ⟨f11, fd11, F11, g11⟩ := d11
  obtain ⟨f12, fd12, F12, g12⟩ := d12
  obtain ⟨f13, fd13, F13, g13⟩ := d13
  obtain ⟨f14, fd14, F14, g14⟩ := d14
  obtain ⟨f15, fd15, F15, g15⟩ := d15
  obtain ⟨f16, fd16, F16, g16⟩ := d16
  obtain ⟨f17, fd17, F17, g17⟩ := d17
  obtain ⟨f18, fd18, F18, g18⟩ := d18
  obtain ⟨f19, fd19, F19, g19⟩ := d19
  obtain ⟨f20, fd20, F20, g20⟩ := d20
  obtain ⟨f21, fd21, F21, g21⟩ := d21
  obtain ⟨f22, fd22, F22, g22⟩ := d22
  obtain ⟨f23, fd23, F23, g23⟩ := d23
  obtain ⟨f24, fd24, F24, g24⟩ := d24
  obtain ⟨f25, fd25, F25, g25⟩ := d25
  obtain ⟨f26, fd26, F26, g26⟩ := d26
  obtain ⟨f27, fd27, F27, g27⟩ := d27
  obtain ⟨f28, fd28, F28, g28⟩ := d28
  obtain ⟨f29, fd29, F29, g29⟩ := d29
  obtain ⟨f30, fd30, F30, g30⟩ := d30
  obtain ⟨f31, fd31, F31, g31⟩ := d31
  obtain ⟨f32, fd32, F32, g32⟩ := d32
  obtain ⟨f33, fd33, F33, g33⟩ := d33
  obtain ⟨f34, fd34, F34, g34⟩ := d34
  obtain ⟨f35, fd35, F35, g35⟩ := d35
  obtain ⟨f36, fd36, F36, g36⟩ := d36
  obtain ⟨f37, fd37, F37, g37⟩ := d37
  have e := hfa.symm.trans g37
  cases e
  have b1 := F1.binds (ps := ["numbers"]) fun _ _ _ _ _ _ us hl => match us, hl with | [_], _ => rfl
  have b2 := F2.binds (ps := ["rows"]) fun _ _ _ _ _ _ us hl => match us, hl with | [_], _ => rfl
  have b3 := F3.binds (ps := ["segment"]) fun _ _ _ _ _ _ us hl => match us, hl with | [_], _ => rfl
  have b4 := F4.binds (ps := ["segment"]) fun _ _ _ _ _ _ us hl => match us, hl with | [_], _ => rfl
  have b5 := F5.binds (ps := ["segment", "segments"]) fun _ _ _ _ _ _ us hl => match us, hl with | [_, _], _ => rfl
  have b6 := F6.binds (ps := ["others", "segments"]) fun _ _ _ _ _ _ us hl => match us, hl with | [_, _], _ => rfl
  have b7 := F7.binds (ps := ["segments", "line", "col"]) fun _ _ _ _ _ _ us hl => match us, hl with | [_, _, _], _ => rfl
  have b8 := F8.binds (ps := ["segment", "source", "line"]) fun _ _ _ _ _ _ us hl => match us, hl with | [_, _, _], _ => rfl
  have b9 := F9.binds (ps := ["segments", "source", "line", "col"]) fun _ _ _ _ _ _ us hl => match us, hl with | [_, _, _, _], _ => rfl
  have b10 := F10.binds (ps := ["digit"]) fun _ _ _ _ _ _ us hl => match us, hl with | [_], _ => rfl
  have b11 := F11.binds (ps := ["byte"]) fun _ _ _ _ _ _ us hl => match us, hl with | [_], _ => rfl
  have b12 := F12.binds (ps := ["number"]) fun _ _ _ _ _ _ us hl => match us, hl with | [_], _ => rfl
  have b13 := F13.binds (ps := ["value"]) fun _ _ _ _ _ _ us hl => match us, hl with | [_], _ => rfl
  have b14 := F14.binds (ps := ["written"]) fun _ _ _ _ _ _ us hl => match us, hl with | [_], _ => rfl
  have b15 := F15.binds (ps := ["last", "line"]) fun _ _ _ _ _ _ us hl => match us, hl with | [_, _], _ => rfl
  have b16 := F16.binds (ps := ["last", "segment"]) fun _ _ _ _ _ _ us hl => match us, hl with | [_, _], _ => rfl
  have b17 := F17.binds (ps := ["segments"]) fun _ _ _ _ _ _ us hl => match us, hl with | [_], _ => rfl
  have b18 := F18.binds (ps := ["text", "start"]) fun _ _ _ _ _ _ us hl => match us, hl with | [_, _], _ => rfl
  have b19 := F19.binds (ps := ["piece", "last"]) fun _ _ _ _ _ _ us hl => match us, hl with | [_, _], _ => rfl
  have b20 := F20.binds (ps := ["text"]) fun _ _ _ _ _ _ us hl => match us, hl with | [_], _ => rfl
  have b21 := F21.binds (ps := ["segment", "second", "source", "base", "names"]) fun _ _ _ _ _ _ us hl => match us, hl with | [_, _, _, _, _], _ => rfl
  have b22 := F22.binds (ps := ["first", "second", "source", "base", "names"]) fun _ _ _ _ _ _ us hl => match us, hl with | [_, _, _, _, _], _ => rfl
  have b23 := F23.binds (ps := ["segment", "line", "col", "base", "names"]) fun _ _ _ _ _ _ us hl => match us, hl with | [_, _, _, _, _], _ => rfl
  have b24 := F24.binds (ps := ["segments", "line", "col", "base", "names"]) fun _ _ _ _ _ _ us hl => match us, hl with | [_, _, _, _, _], _ => rfl
  have b25 := F25.binds (ps := ["calls", "start"]) fun _ _ _ _ _ _ us hl => match us, hl with | [_, _], _ => rfl
  have b26 := F26.binds (ps := ["held", "k", "numbers"]) fun _ _ _ _ _ _ us hl => match us, hl with | [_, _, _], _ => rfl
  have b27 := F27.binds (ps := ["held", "k", "text"]) fun _ _ _ _ _ _ us hl => match us, hl with | [_, _, _], _ => rfl
  have b28 := F28.binds (ps := ["held", "k"]) fun _ _ _ _ _ _ us hl => match us, hl with | [_, _], _ => rfl
  have b29 := F29.binds (ps := ["segment"]) fun _ _ _ _ _ _ us hl => match us, hl with | [_], _ => rfl
  have b30 := F30.binds (ps := ["held", "k", "i"]) fun _ _ _ _ _ _ us hl => match us, hl with | [_, _, _], _ => rfl
  have b31 := F31.binds (ps := ["held", "k", "segments"]) fun _ _ _ _ _ _ us hl => match us, hl with | [_, _, _], _ => rfl
  have b32 := F32.binds (ps := ["held", "k", "segments"]) fun _ _ _ _ _ _ us hl => match us, hl with | [_, _, _], _ => rfl
  have b33 := F33.binds (ps := ["held", "k"]) fun _ _ _ _ _ _ us hl => match us, hl with | [_, _], _ => rfl
  have b34 := F34.binds (ps := ["held", "call"]) fun _ _ _ _ _ _ us hl => match us, hl with | [_, _], _ => rfl
  have b35 := F35.binds (ps := ["held", "call"]) fun _ _ _ _ _ _ us hl => match us, hl with | [_, _], _ => rfl
  have b36 := F36.binds (ps := ["held", "call"]) fun _ _ _ _ _ _ us hl => match us, hl with | [_, _], _ => rfl
  refine ⟨fd37, ?_, fun base _ _ => ?_⟩
  · obtain ⟨oc, od, kV, doc, pm, an, cdv, ct, osl, rfl, _⟩ := F37.ex
    exact fun s us hu => match us, hu with | [_], _ => .of_eq rfl
  have D1 : Df P w K mg base 1 "is_segment" ["numbers"] (sp_is_segment K) f1 fd1 := ⟨g1, F1.kp, b1, ok_is_segment F1 T⟩
  have D2 : Df P w K mg base 2 "are_segments" ["rows"] (sp_are_segments K) f2 fd2 := ⟨g2, F2.kp, b2, ok_are_segments F2 T D1⟩
  have D3 : Df P w K mg base 1 "has_origin" ["segment"] (sp_has_origin K) f3 fd3 := ⟨g3, F3.kp, b3, ok_has_origin F3 T⟩
  have D4 : Df P w K mg base 1 "has_name" ["segment"] (sp_has_name K) f4 fd4 := ⟨g4, F4.kp, b4, ok_has_name F4 T⟩
  have D5 : Df P w K mg base 1 "is_behind" ["segment", "segments"] (sp_is_behind K) f5 fd5 := ⟨g5, F5.kp, b5, ok_is_behind F5 T⟩
  have D6 : Df P w K mg base 2 "are_behind" ["others", "segments"] (sp_are_behind K) f6 fd6 := ⟨g6, F6.kp, b6, ok_are_behind F6 T D5⟩
  have D7 : Df P w K mg base 1 "look_forward" ["segments", "line", "col"] (sp_look_forward K) f7 fd7 := ⟨g7, F7.kp, b7, ok_look_forward F7 T⟩
  have D8 : Df P w K mg base 2 "came_from_line" ["segment", "source", "line"] (sp_came_from_line K) f8 fd8 := ⟨g8, F8.kp, b8, ok_came_from_line F8 T D3⟩
  have D9 : Df P w K mg base 3 "look_back" ["segments", "source", "line", "col"] (sp_look_back K) f9 fd9 := ⟨g9, F9.kp, b9, ok_look_back F9 T D8⟩
  have D10 : Df P w K mg base 1 "byte_of" ["digit"] sp_byte_of f10 fd10 := ⟨g10, F10.kp, b10, ok_byte_of F10⟩
  have D11 : Df P w K mg base 1 "digit_of" ["byte"] sp_digit_of f11 fd11 := ⟨g11, F11.kp, b11, ok_digit_of F11⟩
  have D12 : Df P w K mg base 2 "written_number" ["number"] sp_written_number f12 fd12 := ⟨g12, F12.kp, b12, ok_written_number F12 D10⟩
  have D13 : Df P w K mg base 1 "signed" ["value"] sp_signed f13 fd13 := ⟨g13, F13.kp, b13, ok_signed F13⟩
  have D14 : Df P w K mg base 2 "read_numbers" ["written"] (sp_read_numbers K) f14 fd14 := ⟨g14, F14.kp, b14, ok_read_numbers F14 D11 D13⟩
  have D15 : Df P w K mg base 1 "begin_line" ["last", "line"] sp_begin_line f15 fd15 := ⟨g15, F15.kp, b15, ok_begin_line F15⟩
  have D16 : Df P w K mg base 1 "remember" ["last", "segment"] (sp_remember K) f16 fd16 := ⟨g16, F16.kp, b16, ok_remember F16 T⟩
  have D17 : Df P w K mg base 3 "written_map" ["segments"] (sp_written_map K) f17 fd17 := ⟨g17, F17.kp, b17, ok_written_map F17 T D15 D12 D16⟩
  have D18 : Df P w K mg base 1 "piece_end" ["text", "start"] (sp_piece_end K) f18 fd18 := ⟨g18, F18.kp, b18, ok_piece_end F18 T⟩
  have D19 : Df P w K mg base 3 "read_segment" ["piece", "last"] (sp_read_segment K) f19 fd19 := ⟨g19, F19.kp, b19, ok_read_segment F19 T D14 D1⟩
  have D20 : Df P w K mg base 4 "read_map" ["text"] (sp_read_map K) f20 fd20 := ⟨g20, F20.kp, b20, ok_read_map F20 T D18 D19 D5 D16 D15⟩
  have D21 : Df P w K mg base 2 "through" ["segment", "second", "source", "base", "names"] (sp_through K) f21 fd21 := ⟨g21, F21.kp, b21, ok_through F21 T D3 D7 D4⟩
  have D22 : Df P w K mg base 3 "joined" ["first", "second", "source", "base", "names"] (sp_joined K) f22 fd22 := ⟨g22, F22.kp, b22, ok_joined F22 T D21⟩
  have D23 : Df P w K mg base 2 "moved" ["segment", "line", "col", "base", "names"] (sp_moved K) f23 fd23 := ⟨g23, F23.kp, b23, ok_moved F23 T D3 D4⟩
  have D24 : Df P w K mg base 3 "all_moved" ["segments", "line", "col", "base", "names"] (sp_all_moved K) f24 fd24 := ⟨g24, F24.kp, b24, ok_all_moved F24 T D23⟩
  have D25 : Df P w K mg base 1 "call_end" ["calls", "start"] (sp_call_end K) f25 fd25 := ⟨g25, F25.kp, b25, ok_call_end F25 T⟩
  have D26 : Df P w K mg base 2 "answer_add" ["held", "k", "numbers"] (sp_answer_add K) f26 fd26 := ⟨g26, F26.kp, b26, ok_answer_add F26 T D1 D5⟩
  have D27 : Df P w K mg base 5 "answer_read" ["held", "k", "text"] (sp_answer_read K) f27 fd27 := ⟨g27, F27.kp, b27, ok_answer_read F27 T D20⟩
  have D28 : Df P w K mg base 4 "answer_write" ["held", "k"] (sp_answer_write K) f28 fd28 := ⟨g28, F28.kp, b28, ok_answer_write F28 T D17⟩
  have D29 : Df P w K mg base 1 "answer_found" ["segment"] (sp_answer_found K) f29 fd29 := ⟨g29, F29.kp, b29, ok_answer_found F29 T⟩
  have D30 : Df P w K mg base 2 "answer_get" ["held", "k", "i"] (sp_answer_get K) f30 fd30 := ⟨g30, F30.kp, b30, ok_answer_get F30 T D29⟩
  have D31 : Df P w K mg base 3 "answer_join" ["held", "k", "segments"] (sp_answer_join K) f31 fd31 := ⟨g31, F31.kp, b31, ok_answer_join F31 T D2⟩
  have D32 : Df P w K mg base 3 "answer_append" ["held", "k", "segments"] (sp_answer_append K) f32 fd32 := ⟨g32, F32.kp, b32, ok_answer_append F32 T D6 D2⟩
  have D33 : Df P w K mg base 1 "answer_clear" ["held", "k"] (sp_answer_clear K) f33 fd33 := ⟨g33, F33.kp, b33, ok_answer_clear F33 T⟩
  have D34 : Df P w K mg base 6 "answer_of_one" ["held", "call"] (sp_answer_of_one K) f34 fd34 := ⟨g34, F34.kp, b34, ok_answer_of_one F34 T D26 D27 D28 D30 D29 D7 D9 D33⟩
  have D35 : Df P w K mg base 4 "answer_of_two" ["held", "call"] (sp_answer_of_two K) f35 fd35 := ⟨g35, F35.kp, b35, ok_answer_of_two F35 T D31 D22 D32 D24⟩
  have D36 : Df P w K mg base 7 "answer_call" ["held", "call"] (sp_answer_call K) f36 fd36 := ⟨g36, F36.kp, b36, ok_answer_call F36 T D35 D34⟩
  exact ok_answers F37 T D25 D36
end
end Wq
open PySem PySem.W PyProof.Rows
set_option maxRecDepth 100000 in
set_option maxHeartbeats 8000000 in
theorem PySem.Challenge.cw_wheremaps_s01_answers_holds : PySem.Challenge.rw_wheremaps_s01_answers.Holds := by
  w_on; k_headS; (case hw => exact ⟨[.list [.int 3, .int 0]], by decide +kernel, by decide +kernel⟩)
  k_fillS
  refine L2.walk_specK (r := PySem.Challenge.rw_wheremaps_s01_answers) (k := 8) (CX := L2.CX0) (ps := ["calls"]) (sp := Wq.sp_answers) (by decide +kernel) rfl rfl ⟨rfl, by decide, by decide⟩ (fun w h Y => PySem.W.kIn_of Y) ?F ?S (fun _ _ _ _ z => z)
  case F =>
    intro w mg fa h Y KX G hmg
    refine' Wq.all_mk ?T hmg ?d1 ?d2 ?d3 ?d4 ?d5 ?d6 ?d7 ?d8 ?d9 ?d10 ?d11 ?d12 ?d13 ?d14 ?d15 ?d16 ?d17 ?d18 ?d19 ?d20 ?d21 ?d22 ?d23 ?d24 ?d25 ?d26 ?d27 ?d28 ?d29 ?d30 ?d31 ?d32 ?d33 ?d34 ?d35 ?d36 ?d37
    case T =>
      refine' Wq.txt_mk KX G ?z_len ?z_range ?z_tuple ?z_list ?y_a ?y_l ?y_b ?y_m ?x_GREATEST_LINE ?x_GREATEST_NUMBER ?x_COMMA ?x_SEMICOLON ?x_MOST_SEGMENTS ?x_ADD ?x_READ ?x_WRITE ?x_COUNT ?x_GET ?x_AT ?x_BACK ?x_JOIN ?x_APPEND
      (case z_len => k_is)
      (case z_range => k_is)
      (case z_tuple => k_is)
      (case z_list => k_is)
      (case y_a => k_is); (case y_l => k_is); (case y_b => k_is); (case y_m => k_is)
      (case x_GREATEST_LINE => k_is)
      (case x_GREATEST_NUMBER => k_is)
      (case x_COMMA => k_is)
      (case x_SEMICOLON => k_is)
      (case x_MOST_SEGMENTS => k_is)
      (case x_ADD => k_is)
      (case x_READ => k_is)
      (case x_WRITE => k_is)
      (case x_COUNT => k_is)
      (case x_GET => k_is)
      (case x_AT => k_is)
      (case x_BACK => k_is)
      (case x_JOIN => k_is)
      (case x_APPEND => k_is)
    case d1 => (refine' Wq.df_mk KX G ?a ?l ?c ?k); (case a => k_is); (case l => k_is); (case c => k_is); (case k => k_is)
    case d2 => (refine' Wq.df_mk KX G ?a ?l ?c ?k); (case a => k_is); (case l => k_is); (case c => k_is); (case k => k_is)
    case d3 => (refine' Wq.df_mk KX G ?a ?l ?c ?k); (case a => k_is); (case l => k_is); (case c => k_is); (case k => k_is)
    case d4 => (refine' Wq.df_mk KX G ?a ?l ?c ?k); (case a => k_is); (case l => k_is); (case c => k_is); (case k => k_is)
    case d5 => (refine' Wq.df_mk KX G ?a ?l ?c ?k); (case a => k_is); (case l => k_is); (case c => k_is); (case k => k_is)
    case d6 => (refine' Wq.df_mk KX G ?a ?l ?c ?k); (case a => k_is); (case l => k_is); (case c => k_is); (case k => k_is)
    case d7 => (refine' Wq.df_mk KX G ?a ?l ?c ?k); (case a => k_is); (case l => k_is); (case c => k_is); (case k => k_is)
    case d8 => (refine' Wq.df_mk KX G ?a ?l ?c ?k); (case a => k_is); (case l => k_is); (case c => k_is); (case k => k_is)
    case d9 => (refine' Wq.df_mk KX G ?a ?l ?c ?k); (case a => k_is); (case l => k_is); (case c => k_is); (case k => k_is)
    case d10 => (refine' Wq.df_mk KX G ?a ?l ?c ?k); (case a => k_is); (case l => k_is); (case c => k_is); (case k => k_is)
    case d11 => (refine' Wq.df_mk KX G ?a ?l ?c ?k); (case a => k_is); (case l => k_is); (case c => k_is); (case k => k_is)
    case d12 => (refine' Wq.df_mk KX G ?a ?l ?c ?k); (case a => k_is); (case l => k_is); (case c => k_is); (case k => k_is)
    case d13 => (refine' Wq.df_mk KX G ?a ?l ?c ?k); (case a => k_is); (case l => k_is); (case c => k_is); (case k => k_is)
    case d14 => (refine' Wq.df_mk KX G ?a ?l ?c ?k); (case a => k_is); (case l => k_is); (case c => k_is); (case k => k_is)
    case d15 => (refine' Wq.df_mk KX G ?a ?l ?c ?k); (case a => k_is); (case l => k_is); (case c => k_is); (case k => k_is)
    case d16 => (refine' Wq.df_mk KX G ?a ?l ?c ?k); (case a => k_is); (case l => k_is); (case c => k_is); (case k => k_is)
    case d17 => (refine' Wq.df_mk KX G ?a ?l ?c ?k); (case a => k_is); (case l => k_is); (case c => k_is); (case k => k_is)
    case d18 => (refine' Wq.df_mk KX G ?a ?l ?c ?k); (case a => k_is); (case l => k_is); (case c => k_is); (case k => k_is)
    case d19 => (refine' Wq.df_mk KX G ?a ?l ?c ?k); (case a => k_is); (case l => k_is); (case c => k_is); (case k => k_is)
    case d20 => (refine' Wq.df_mk KX G ?a ?l ?c ?k); (case a => k_is); (case l => k_is); (case c => k_is); (case k => k_is)
    case d21 => (refine' Wq.df_mk KX G ?a ?l ?c ?k); (case a => k_is); (case l => k_is); (case c => k_is); (case k => k_is)
    case d22 => (refine' Wq.df_mk KX G ?a ?l ?c ?k); (case a => k_is); (case l => k_is); (case c => k_is); (case k => k_is)
    case d23 => (refine' Wq.df_mk KX G ?a ?l ?c ?k); (case a => k_is); (case l => k_is); (case c => k_is); (case k => k_is)
    case d24 => (refine' Wq.df_mk KX G ?a ?l ?c ?k); (case a => k_is); (case l => k_is); (case c => k_is); (case k => k_is)
    case d25 => (refine' Wq.df_mk KX G ?a ?l ?c ?k); (case a => k_is); (case l => k_is); (case c => k_is); (case k => k_is)
    case d26 => (refine' Wq.df_mk KX G ?a ?l ?c ?k); (case a => k_is); (case l => k_is); (case c => k_is); (case k => k_is)
    case d27 => (refine' Wq.df_mk KX G ?a ?l ?c ?k); (case a => k_is); (case l => k_is); (case c => k_is); (case k => k_is)
    case d28 => (refine' Wq.df_mk KX G ?a ?l ?c ?k); (case a => k_is); (case l => k_is); (case c => k_is); (case k => k_is)
    case d29 => (refine' Wq.df_mk KX G ?a ?l ?c ?k); (case a => k_is); (case l => k_is); (case c => k_is); (case k => k_is)
    case d30 => (refine' Wq.df_mk KX G ?a ?l ?c ?k); (case a => k_is); (case l => k_is); (case c => k_is); (case k => k_is)
    case d31 => (refine' Wq.df_mk KX G ?a ?l ?c ?k); (case a => k_is); (case l => k_is); (case c => k_is); (case k => k_is)
    case d32 => (refine' Wq.df_mk KX G ?a ?l ?c ?k); (case a => k_is); (case l => k_is); (case c => k_is); (case k => k_is)
    case d33 => (refine' Wq.df_mk KX G ?a ?l ?c ?k); (case a => k_is); (case l => k_is); (case c => k_is); (case k => k_is)
    case d34 => (refine' Wq.df_mk KX G ?a ?l ?c ?k); (case a => k_is); (case l => k_is); (case c => k_is); (case k => k_is)
    case d35 => (refine' Wq.df_mk KX G ?a ?l ?c ?k); (case a => k_is); (case l => k_is); (case c => k_is); (case k => k_is)
    case d36 => (refine' Wq.df_mk KX G ?a ?l ?c ?k); (case a => k_is); (case l => k_is); (case c => k_is); (case k => k_is)
    case d37 => (refine' Wq.df_mk KX G ?a ?l ?c ?k); (case a => k_is); (case l => k_is); (case c => k_is); (case k => k_is)
  case S =>
    intro K H xs a hO hwi hask hx
    cases hx with
    | cons h1 h2 =>
      cases h2
      cases h1 with
      | lst hs ha =>
        have e := L2.ints_dw a.1 _ ha
        subst e
        exact ⟨_, a.1, rfl, hs, hask, fun H' p hp => .lst (L2.SqL.of hp) (L2.dw_ints _)⟩
#print axioms PySem.Challenge.cw_wheremaps_s01_answers_holds
