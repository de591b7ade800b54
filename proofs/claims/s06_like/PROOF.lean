import PyProof.Rows.All
import Wide.All
import OpenK.AllK
import Wide.FinOn
import Open.SpecLaws
import KE.OsGo
import KE.KIntText
import HandS.ForSpec
import HandS.Comp
import HandS.Dict
import HandS.Iter
import HandS.Text
import HandS.More
import HandS.Zip
import HandS.Walk
import KE.GoesMore
import KE.IntTextLaws
import HandS.Wide
import HandS.SortOrd
import HandS.SortRule
import HandS.ListEq
import HandS.Deep
import PySem.Challenge.RW_brewrecipes_s06_like
set_option Elab.async false
set_option linter.all false
namespace My
open Br
/-! ### The mirror: signs, words, rows -/
/-- the sign's code that a byte stands for -/
def sg (n : Nat) : Nat := if n = 10 then 10 else if n = 32 then 32 else if 48 ≤ n ∧ n ≤ 57 then n else if 97 ≤ n ∧ n ≤ 122 then n else 63
def cutN (c : Nat) : List Nat → List (List Nat)
  | [] => [[]]
  | x :: r => if x = c then [] :: cutN c r else match cutN c r with
    | [] => [[x]]
    | w :: l => (x :: w) :: l
/-- a text spelled -/
def cd (b : Bytes) : List Nat := b.map fun c => sg c.toNat
def letN : List Nat := [97, 98, 99, 100, 101, 102, 103, 104, 105, 106, 107, 108, 109, 110, 111, 112, 113, 114, 115, 116, 117, 118, 119, 120, 121, 122]
def digN : List Nat := [48, 49, 50, 51, 52, 53, 54, 55, 56, 57]
def made (w s : List Nat) : Bool := w.all fun c => decide (c ∈ s)
def isName (w : List Nat) : Bool := (decide (1 ≤ w.length) && decide (w.length ≤ 12)) && made w (letN ++ digN)
def isNum (w : List Nat) : Bool := ((decide (1 ≤ w.length) && decide (w.length ≤ 6)) && made w digN) && (w == [48] || !(w.getD 0 0 == 48))
def valN (w : List Nat) : Nat := w.foldl (fun a c => a * 10 + (c - 48)) 0
def numOk (w : List Nat) (b : Nat × Nat) : Bool := isNum w && (decide (b.1 ≤ valN w) && decide (valN w ≤ b.2))
def numsM : List (List Nat) → List (Nat × Nat) → Option (List Nat)
  | w :: ws, b :: bs => if numOk w b = true then (numsM ws bs).map (valN w :: ·) else none
  | _, _ => some []
def kRecipe : List Nat := [114, 101, 99, 105, 112, 101]
def kMalt : List Nat := [109, 97, 108, 116]
def kHop : List Nat := [104, 111, 112]
def kAdd : List Nat := [97, 100, 100]
def kYeast : List Nat := [121, 101, 97, 115, 116]
def kindN : Nat → List Nat
  | 0 => kRecipe
  | 1 => kMalt
  | 2 => kHop
  | 3 => kAdd
  | _ => kYeast
def rankOf (w : List Nat) : Option Nat := if w = kRecipe then some 0 else if w = kMalt then some 1 else if w = kHop then some 2 else if w = kAdd then some 3 else if w = kYeast then some 4 else none
def bds : Nat → List (Nat × Nat)
  | 0 => []
  | 1 => [(1, 10000), (1, 850)]
  | 2 => [(1, 10000), (1, 2500), (0, 120)]
  | 3 => [(1, 100000)]
  | _ => [(1, 950)]
def nms (k : Nat) : Nat := if k = 4 then 0 else 1
/-- what a line's words form: its rank, its name, its numbers -/
def rowM (ws : List (List Nat)) : Option (Nat × List Nat × List Nat) := match rankOf (ws.getD 0 []) with
  | none => none
  | some k =>
    if ws.length ≠ 1 + nms k + (bds k).length then none
    else if nms k = 1 ∧ isName (ws.getD 1 []) = false then none
    else (numsM (ws.drop (1 + nms k)) (bds k)).map fun ns => (k, if nms k = 1 then ws.getD 1 [] else [], ns)
/-! ### Lines as rows -/
def codes (b : Bytes) : List Nat := b.map UInt8.toNat
def lname : Line → Bytes
  | .recipe n => n
  | .malt n _ _ => n
  | .hop n _ _ _ => n
  | .add n _ => n
  | .yeast _ => []
def lnums : Line → List Nat
  | .recipe _ => []
  | .malt _ p x => [p, x]
  | .hop _ p a t => [p, a, t]
  | .add _ g => [g]
  | .yeast u => [u]
def rk (l : Line) : Nat × List Nat × List Nat := (l.rank, codes (lname l), lnums l)
def wd : Line → List Bytes
  | .recipe n => [ascii "recipe", n]
  | .malt n p x => [ascii "malt", n, decimal p, decimal x]
  | .hop n p a t => [ascii "hop", n, decimal p, decimal a, decimal t]
  | .add n g => [ascii "add", n, decimal g]
  | .yeast u => [ascii "yeast", decimal u]
theorem text_wd (l : Line) : l.text = spaced (wd l) := by cases l <;> rfl
/-! ### Cutting -/
theorem cutAt_ne (c : UInt8) : ∀ b : Bytes, cutAt c b ≠ []
  | [] => by simp [cutAt]
  | x :: r => by
    unfold cutAt
    split
    · simp
    · split <;> simp
theorem cutN_ne (c : Nat) : ∀ b : List Nat, cutN c b ≠ []
  | [] => by simp [cutN]
  | x :: r => by
    unfold cutN
    split
    · simp
    · split <;> simp
theorem spaced_cut : ∀ b : Bytes, spaced (cutAt 32 b) = b
  | [] => rfl
  | x :: r => by
    have ih := spaced_cut r
    have ne := cutAt_ne 32 r
    unfold cutAt
    cases e : cutAt 32 r with
    | nil => exact absurd e ne
    | cons w l =>
      rw [e] at ih
      split
      · rename_i h
        show ([] : Bytes) ++ (32 :: spaced (w :: l)) = x :: r
        rw [ih, h, List.nil_append]
      · show spaced ((x :: w) :: l) = x :: r
        cases l with
        | nil =>
          have ih' : w = r := ih
          show x :: w = x :: r
          rw [ih']
        | cons v m =>
          have ih' : w ++ (32 :: spaced (v :: m)) = r := ih
          show (x :: w) ++ (32 :: spaced (v :: m)) = x :: r
          rw [List.cons_append, ih']
theorem cut_word {c : UInt8} : ∀ w : Bytes, c ∉ w → cutAt c w = [w]
  | [], _ => rfl
  | x :: r, h => by
    have hx : x ≠ c := fun e => h (by rw [e]; exact List.mem_cons_self ..)
    unfold cutAt
    rw [if_neg hx, cut_word r fun z => h (List.mem_cons_of_mem _ z)]
theorem cut_app {c : UInt8} (rest : Bytes) : ∀ w : Bytes, c ∉ w → cutAt c (w ++ c :: rest) = w :: cutAt c rest
  | [], _ => by show cutAt c (c :: rest) = _; rw [cutAt.eq_2, if_pos rfl]
  | x :: r, h => by
    have hx : x ≠ c := fun e => h (by rw [e]; exact List.mem_cons_self ..)
    show cutAt c (x :: (r ++ c :: rest)) = _
    rw [cutAt.eq_2, if_neg hx, cut_app rest r fun z => h (List.mem_cons_of_mem _ z)]
theorem cut_spaced : ∀ ws : List Bytes, ws ≠ [] → (∀ w ∈ ws, (32 : UInt8) ∉ w) → cutAt 32 (spaced ws) = ws
  | [], h, _ => absurd rfl h
  | [w], _, h => cut_word w (h w (List.mem_cons_self ..))
  | w :: v :: m, _, h => by
    show cutAt 32 (w ++ 32 :: spaced (v :: m)) = _
    rw [cut_app _ w (h w (List.mem_cons_self ..)), cut_spaced (v :: m) (by simp) fun z hz => h z (List.mem_cons_of_mem _ hz)]
theorem sg_eq {n c : Nat} (hc : c ≠ 63) : sg n = c → n = c := by
  unfold sg
  repeat' split
  all_goals omega
theorem sg_10 : sg 10 = 10 := by decide
theorem sg_32 : sg 32 = 32 := by decide
theorem sg_self {n : Nat} (h : (97 ≤ n ∧ n ≤ 122) ∨ (48 ≤ n ∧ n ≤ 57)) : sg n = n := by
  unfold sg
  repeat' split
  all_goals omega
theorem sg_lt (n : Nat) : sg n < 128 := by
  unfold sg
  repeat' split
  all_goals omega
theorem cutN_cd {c : UInt8} (h63 : c.toNat ≠ 63) (hc : sg c.toNat = c.toNat) : ∀ b : Bytes, cutN c.toNat (cd b) = (cutAt c b).map cd
  | [] => rfl
  | x :: r => by
    have ih := cutN_cd h63 hc r
    have ne := cutAt_ne c r
    show cutN c.toNat (sg x.toNat :: cd r) = _
    unfold cutN cutAt
    by_cases e : x = c
    · rw [if_pos e, if_pos (by rw [e]; exact hc), ih]
      rfl
    · have e' : ¬ sg x.toNat = c.toNat := fun z => e (UInt8.toNat_inj.mp (sg_eq h63 z))
      rw [if_neg e, if_neg e', ih]
      cases q : cutAt c r with
      | nil => exact absurd q ne
      | cons w l => rfl
/-! ### Names -/
theorem mem_let (c : Nat) : c ∈ letN ++ digN ↔ (97 ≤ c ∧ c ≤ 122) ∨ (48 ≤ c ∧ c ≤ 57) := by
  simp only [letN, digN, List.cons_append, List.nil_append, List.mem_cons, List.not_mem_nil, or_false]
  omega
theorem mem_dig (c : Nat) : c ∈ digN ↔ 48 ≤ c ∧ c ≤ 57 := by
  simp only [digN, List.mem_cons, List.not_mem_nil, or_false]
  omega
theorem u8_le (a b : UInt8) : decide (a ≤ b) = decide (a.toNat ≤ b.toNat) := rfl
theorem nameOk_iff (b : Bytes) : nameOk b = true ↔ (1 ≤ b.length ∧ b.length ≤ 12) ∧ ∀ c ∈ b, (97 ≤ c.toNat ∧ c.toNat ≤ 122) ∨ (48 ≤ c.toNat ∧ c.toNat ≤ 57) := by
  unfold nameOk
  simp only [Bool.and_eq_true, decide_eq_true_eq, List.all_eq_true, Bool.or_eq_true, UInt8.le_iff_toNat_le, and_assoc]
  rfl
theorem isName_iff (w : List Nat) : isName w = true ↔ (1 ≤ w.length ∧ w.length ≤ 12) ∧ ∀ c ∈ w, (97 ≤ c ∧ c ≤ 122) ∨ (48 ≤ c ∧ c ≤ 57) := by
  unfold isName made
  simp only [Bool.and_eq_true, decide_eq_true_eq, List.all_eq_true, mem_let]
theorem sg_alnum {n : Nat} (h : (97 ≤ sg n ∧ sg n ≤ 122) ∨ (48 ≤ sg n ∧ sg n ≤ 57)) : sg n = n := by
  have : n = sg n := sg_eq (c := sg n) (by omega) rfl
  exact this.symm
theorem name_cd (b : Bytes) : isName (cd b) = nameOk b := by
  rw [Bool.eq_iff_iff, isName_iff, nameOk_iff]
  have hl : (cd b).length = b.length := List.length_map ..
  rw [hl]
  refine and_congr_right fun _ => ⟨fun h c hc => ?_, fun h c hc => ?_⟩
  · have q := h (sg c.toNat) (List.mem_map.mpr ⟨c, hc, rfl⟩)
    rw [sg_alnum q] at q
    exact q
  · obtain ⟨d, hd, rfl⟩ := List.mem_map.mp hc
    show (97 ≤ sg d.toNat ∧ sg d.toNat ≤ 122) ∨ (48 ≤ sg d.toNat ∧ sg d.toNat ≤ 57)
    rw [sg_self (h d hd)]
    exact h d hd
theorem cd_alnum : ∀ b : Bytes, (∀ c ∈ b, (97 ≤ c.toNat ∧ c.toNat ≤ 122) ∨ (48 ≤ c.toNat ∧ c.toNat ≤ 57)) → cd b = codes b
  | [], _ => rfl
  | x :: r, h => by
    show sg x.toNat :: cd r = x.toNat :: codes r
    rw [sg_self (h x (List.mem_cons_self ..)), cd_alnum r fun c hc => h c (List.mem_cons_of_mem _ hc)]
theorem cd_name {b : Bytes} (h : nameOk b = true) : cd b = codes b := cd_alnum b ((nameOk_iff b).mp h).2
theorem codes_inj : ∀ {a b : Bytes}, codes a = codes b → a = b
  | [], [], _ => rfl
  | [], y :: s, h => by cases h
  | x :: r, [], h => by cases h
  | x :: r, y :: s, h => by
    have h1 := (List.cons.inj h).1
    have h2 := (List.cons.inj h).2
    rw [UInt8.toNat_inj.mp h1, codes_inj h2]
/-! ### Numbers -/
theorem isNum_iff (w : List Nat) : isNum w = true ↔ ((1 ≤ w.length ∧ w.length ≤ 6) ∧ ∀ c ∈ w, 48 ≤ c ∧ c ≤ 57) ∧ (w = [48] ∨ w.getD 0 0 ≠ 48) := by
  unfold isNum made
  simp only [Bool.and_eq_true, decide_eq_true_eq, List.all_eq_true, mem_dig, Bool.or_eq_true, beq_iff_eq, Bool.not_eq_true', beq_eq_false_iff_ne]
theorem val_snoc (u : List Nat) (c : Nat) : valN (u ++ [c]) = valN u * 10 + (c - 48) := by
  unfold valN
  rw [List.foldl_append]
  rfl
def digs (n : Nat) : List Nat := (Nat.toDigits 10 n).map Char.toNat
theorem digs_lt {n : Nat} (h : n < 10) : digs n = [48 + n] := by
  unfold digs
  rw [Nat.toDigits_of_lt_base h]
  show [(Nat.digitChar n).toNat] = _
  rw [Nat.toNat_digitChar_of_lt_ten h]
theorem digs_ge {n : Nat} (h : 10 ≤ n) : digs n = digs (n / 10) ++ [48 + n % 10] := by
  unfold digs
  rw [Nat.toDigits_of_base_le (by decide) h, List.map_append]
  show _ ++ [(Nat.digitChar (n % 10)).toNat] = _
  rw [Nat.toNat_digitChar_of_lt_ten (Nat.mod_lt _ (by decide))]
theorem digs_dig (n : Nat) : ∀ c ∈ digs n, 48 ≤ c ∧ c ≤ 57 := by
  induction n using Nat.strongRecOn with
  | _ n ih =>
    intro c hc
    by_cases h : n < 10
    · rw [digs_lt h] at hc
      have := List.mem_singleton.mp hc
      omega
    · rw [digs_ge (by omega)] at hc
      rcases List.mem_append.mp hc with q | q
      · exact ih (n / 10) (by omega) c q
      · have := List.mem_singleton.mp q
        omega
theorem digs_val (n : Nat) : valN (digs n) = n := by
  induction n using Nat.strongRecOn with
  | _ n ih =>
    by_cases h : n < 10
    · rw [digs_lt h]
      show 0 * 10 + (48 + n - 48) = n
      omega
    · rw [digs_ge (by omega), val_snoc, ih (n / 10) (by omega)]
      omega
theorem digs_pos (n : Nat) : 1 ≤ (digs n).length := by
  by_cases h : n < 10
  · rw [digs_lt h]; exact Nat.le_refl _
  · rw [digs_ge (by omega), List.length_append]
    show 1 ≤ _ + 1
    omega
theorem digs_head (n : Nat) : n ≠ 0 → (digs n).getD 0 0 ≠ 48 := by
  induction n using Nat.strongRecOn with
  | _ n ih =>
    intro h0
    by_cases h : n < 10
    · rw [digs_lt h]
      show 48 + n ≠ 48
      omega
    · rw [digs_ge (by omega)]
      have q := ih (n / 10) (by omega) (by omega)
      have l := digs_pos (n / 10)
      cases e : digs (n / 10) with
      | nil => rw [e] at l; exact absurd l (by decide)
      | cons a r => rw [e] at q; exact q
theorem digs_len {n : Nat} (h : n < 1000000) : (digs n).length ≤ 6 := by
  unfold digs
  rw [List.length_map]
  exact (Nat.length_toDigits_le_iff (by decide) (by decide)).mpr h
theorem digs_num {n : Nat} (h : n < 1000000) : isNum (digs n) = true := by
  refine (isNum_iff _).mpr ⟨⟨⟨digs_pos n, digs_len h⟩, digs_dig n⟩, ?_⟩
  by_cases e : n = 0
  · exact .inl (by rw [e]; exact digs_lt (by decide))
  · exact .inr (digs_head n e)
theorem val_pos : ∀ u : List Nat, u ≠ [] → (∀ c ∈ u, 48 ≤ c ∧ c ≤ 57) → u.getD 0 0 ≠ 48 → 1 ≤ valN u := by
  intro u
  induction h : u.length generalizing u with
  | zero => intro ne; exact absurd (List.length_eq_zero_iff.mp h) ne
  | succ k ih =>
    intro ne hd h0
    rcases List.eq_nil_or_concat u with q | ⟨v, c, q⟩
    · exact absurd q ne
    · subst q
      rw [List.concat_eq_append] at *
      rw [val_snoc]
      by_cases ev : v = []
      · subst ev
        have := hd c (by simp)
        have h0' : c ≠ 48 := h0
        show 1 ≤ 0 * 10 + (c - 48)
        omega
      · have hv := ih v (by simpa using h) ev (fun x hx => hd x (by simp [hx])) (by
          cases v with
          | nil => exact absurd rfl ev
          | cons a r => exact h0)
        omega
theorem digs_back : ∀ w : List Nat, w ≠ [] → (∀ c ∈ w, 48 ≤ c ∧ c ≤ 57) → (w = [48] ∨ w.getD 0 0 ≠ 48) → digs (valN w) = w := by
  intro w
  induction h : w.length generalizing w with
  | zero => intro ne; exact absurd (List.length_eq_zero_iff.mp h) ne
  | succ k ih =>
    intro ne hd h0
    rcases List.eq_nil_or_concat w with q | ⟨v, c, q⟩
    · exact absurd q ne
    · subst q
      rw [List.concat_eq_append] at *
      have hc := hd c (by simp)
      rw [val_snoc]
      by_cases ev : v = []
      · subst ev
        have e : valN [] * 10 + (c - 48) = c - 48 := by show 0 * 10 + (c - 48) = _; omega
        rw [e, digs_lt (by omega)]
        show [48 + (c - 48)] = [c]
        rw [show 48 + (c - 48) = c by omega]
      · have h1 : v.getD 0 0 ≠ 48 := by
          cases v with
          | nil => exact absurd rfl ev
          | cons a r =>
            rcases h0 with z | z
            · have z' := congrArg List.length z
              simp at z'
            · exact z
        have hdv : ∀ x ∈ v, 48 ≤ x ∧ x ≤ 57 := fun x hx => hd x (by simp [hx])
        have hv := ih v (by simpa using h) ev hdv (.inr h1)
        have p := val_pos v ev hdv h1
        have e1 : (valN v * 10 + (c - 48)) / 10 = valN v := by omega
        have e2 : (valN v * 10 + (c - 48)) % 10 = c - 48 := by omega
        rw [digs_ge (by omega), e1, e2, hv, show 48 + (c - 48) = c by omega]
theorem decimal_codes (n : Nat) : codes (decimal n) = digs n := by
  unfold codes decimal digs
  rw [List.map_map]
  refine List.map_congr_left fun c hc => ?_
  have q : 48 ≤ c.toNat ∧ c.toNat ≤ 57 := digs_dig n _ (List.mem_map.mpr ⟨c, hc, rfl⟩)
  show (UInt8.ofNat c.toNat).toNat = c.toNat
  rw [UInt8.toNat_ofNat']
  omega
theorem decimal_dig (n : Nat) : ∀ c ∈ decimal n, 48 ≤ c.toNat ∧ c.toNat ≤ 57 := fun c hc =>
  digs_dig n _ (by rw [← decimal_codes]; exact List.mem_map.mpr ⟨c, hc, rfl⟩)
theorem cd_decimal (n : Nat) : cd (decimal n) = digs n := (cd_alnum _ fun c hc => .inr (decimal_dig n c hc)).trans (decimal_codes n)
theorem natIn_codes {b : Bytes} (h : b.length ≤ 9) : natIn b = valN (codes b) := by
  unfold natIn valN codes
  rw [if_pos h, List.foldl_map]
  congr 1
  funext n c
  omega
/-- a number's word, as bytes -/
theorem num_cd {b : Bytes} (h : isNum (cd b) = true) : cd b = codes b ∧ decimal (natIn b) = b ∧ natIn b = valN (cd b) := by
  have q := (isNum_iff _).mp h
  have e : cd b = codes b := cd_alnum b fun c hc => by
    have z := q.1.2 (sg c.toNat) (List.mem_map.mpr ⟨c, hc, rfl⟩)
    have z' : sg c.toNat = c.toNat := sg_alnum (.inr z)
    rw [z'] at z
    exact .inr z
  have hl : b.length ≤ 9 := by
    have := q.1.1.2
    have l : (cd b).length = b.length := List.length_map ..
    omega
  have v := natIn_codes hl
  refine ⟨e, ?_, by rw [v, e]⟩
  refine codes_inj ?_
  rw [decimal_codes, v, ← e]
  exact digs_back _ (by intro z; rw [z] at q; exact absurd q.1.1.1 (by decide)) q.1.2 q.2
theorem numOk_dec {n lo hi : Nat} (h1 : lo ≤ n) (h2 : n ≤ hi) (h3 : hi < 1000000) : numOk (digs n) (lo, hi) = true := by
  unfold numOk
  rw [digs_num (by omega), digs_val]
  simp [h1, h2]
end My

namespace My
open Br
/-! ### A line read -/
theorem no32_alnum {b : Bytes} (h : ∀ c ∈ b, (97 ≤ c.toNat ∧ c.toNat ≤ 122) ∨ (48 ≤ c.toNat ∧ c.toNat ≤ 57)) : (32 : UInt8) ∉ b := fun z => by
  have q := h 32 z
  have e : (32 : UInt8).toNat = 32 := rfl
  rw [e] at q
  omega
theorem no32_name {n : Name} (h : nameOk n = true) : (32 : UInt8) ∉ n := no32_alnum ((nameOk_iff n).mp h).2
theorem no32_dec (n : Nat) : (32 : UInt8) ∉ decimal n := no32_alnum fun c hc => .inr (decimal_dig n c hc)
theorem within_iff {lo hi n : Nat} : within lo hi n = true ↔ lo ≤ n ∧ n ≤ hi := by
  unfold within
  simp only [Bool.and_eq_true, decide_eq_true_eq]
theorem wd_no32 : ∀ {l : Line}, l.ok = true → ∀ w ∈ wd l, (32 : UInt8) ∉ w := by
  intro l h
  have k1 : (32 : UInt8) ∉ ascii "recipe" := by decide +kernel
  have k2 : (32 : UInt8) ∉ ascii "malt" := by decide +kernel
  have k3 : (32 : UInt8) ∉ ascii "hop" := by decide +kernel
  have k4 : (32 : UInt8) ∉ ascii "add" := by decide +kernel
  have k5 : (32 : UInt8) ∉ ascii "yeast" := by decide +kernel
  cases l with
  | recipe n =>
    intro w hw
    simp only [wd, List.mem_cons, List.not_mem_nil, or_false] at hw
    have hn : nameOk n = true := h
    rcases hw with q | q <;> rw [q]
    all_goals first | exact k1 | exact no32_name hn
  | malt n p x =>
    intro w hw
    simp only [wd, List.mem_cons, List.not_mem_nil, or_false] at hw
    have hn : nameOk n = true := (Bool.and_eq_true _ _ ▸ h : _ ∧ _).1
    rcases hw with q | q | q | q <;> rw [q]
    all_goals first | exact k2 | exact no32_name hn | exact no32_dec p | exact no32_dec x
  | hop n p a t =>
    intro w hw
    simp only [wd, List.mem_cons, List.not_mem_nil, or_false] at hw
    have hn : nameOk n = true := (Bool.and_eq_true _ _ ▸ h : _ ∧ _).1
    rcases hw with q | q | q | q | q <;> rw [q]
    all_goals first | exact k3 | exact no32_name hn | exact no32_dec p | exact no32_dec a | exact no32_dec t
  | add n g =>
    intro w hw
    simp only [wd, List.mem_cons, List.not_mem_nil, or_false] at hw
    have hn : nameOk n = true := (Bool.and_eq_true _ _ ▸ h : _ ∧ _).1
    rcases hw with q | q | q <;> rw [q]
    all_goals first | exact k4 | exact no32_name hn | exact no32_dec g
  | yeast u =>
    intro w hw
    simp only [wd, List.mem_cons, List.not_mem_nil, or_false] at hw
    rcases hw with q | q <;> rw [q]
    all_goals first | exact k5 | exact no32_dec u
theorem wd_ne (l : Line) : wd l ≠ [] := by cases l <;> simp [wd]
theorem lineIn_some {b : Bytes} {x : Line} (h : lineIn b = some x) : x.ok = true ∧ cutAt 32 b = wd x := by
  unfold lineIn at h
  cases e : lineMaybe b with
  | none => rw [e] at h; cases h
  | some y =>
    rw [e] at h
    have h' : (if y.ok = true ∧ y.text = b then some y else none) = some x := h
    split at h'
    · rename_i q
      cases h'
      refine ⟨q.1, ?_⟩
      rw [← q.2, text_wd, cut_spaced _ (wd_ne _) (wd_no32 q.1)]
    · cases h'
theorem lineIn_of {b : Bytes} {x : Line} (hm : lineMaybe b = some x) (ho : x.ok = true) (hw : cutAt 32 b = wd x) : lineIn b = some x := by
  unfold lineIn
  rw [hm]
  show (if x.ok = true ∧ x.text = b then some x else none) = some x
  rw [if_pos ⟨ho, by rw [text_wd, ← hw, spaced_cut]⟩]
theorem cd_recipe : cd (ascii "recipe") = kRecipe := by decide +kernel
theorem cd_malt : cd (ascii "malt") = kMalt := by decide +kernel
theorem cd_hop : cd (ascii "hop") = kHop := by decide +kernel
theorem cd_add : cd (ascii "add") = kAdd := by decide +kernel
theorem cd_yeast : cd (ascii "yeast") = kYeast := by decide +kernel
theorem cd_back {b k : Bytes} (hk : ∀ c ∈ cd k, c ≠ 63) (hc : cd k = codes k) (h : cd b = cd k) : b = k := by
  refine codes_inj ?_
  rw [← hc, ← h]
  have : ∀ c ∈ cd b, c ≠ 63 := by rw [h]; exact hk
  clear h hk hc
  induction b with
  | nil => rfl
  | cons x r ih =>
    have h1 : sg x.toNat ≠ 63 := this (sg x.toNat) (List.mem_cons_self ..)
    have h2 := ih fun c hc => this c (List.mem_cons_of_mem _ hc)
    show x.toNat :: codes r = sg x.toNat :: cd r
    rw [h2, ← sg_eq h1 rfl]
theorem back_recipe {b : Bytes} (h : cd b = kRecipe) : b = ascii "recipe" := cd_back (by decide +kernel) (by decide +kernel) (h.trans cd_recipe.symm)
theorem back_malt {b : Bytes} (h : cd b = kMalt) : b = ascii "malt" := cd_back (by decide +kernel) (by decide +kernel) (h.trans cd_malt.symm)
theorem back_hop {b : Bytes} (h : cd b = kHop) : b = ascii "hop" := cd_back (by decide +kernel) (by decide +kernel) (h.trans cd_hop.symm)
theorem back_add {b : Bytes} (h : cd b = kAdd) : b = ascii "add" := cd_back (by decide +kernel) (by decide +kernel) (h.trans cd_add.symm)
theorem back_yeast {b : Bytes} (h : cd b = kYeast) : b = ascii "yeast" := cd_back (by decide +kernel) (by decide +kernel) (h.trans cd_yeast.symm)
theorem rank_recipe : rankOf kRecipe = some 0 := by decide +kernel
theorem rank_malt : rankOf kMalt = some 1 := by decide +kernel
theorem rank_hop : rankOf kHop = some 2 := by decide +kernel
theorem rank_add : rankOf kAdd = some 3 := by decide +kernel
theorem rank_yeast : rankOf kYeast = some 4 := by decide +kernel
theorem numsM_cons {w : List Nat} {ws : List (List Nat)} {b : Nat × Nat} {bs : List (Nat × Nat)} (h : numOk w b = true) : numsM (w :: ws) (b :: bs) = (numsM ws bs).map (valN w :: ·) := if_pos h
theorem numsM_nil {ws : List (List Nat)} : numsM ws [] = some [] := by cases ws <;> rfl
theorem rowM_ok {ws : List (List Nat)} {k : Nat} {ns : List Nat} (hr : rankOf (ws.getD 0 []) = some k) (hl : ws.length = 1 + nms k + (bds k).length) (hn : nms k = 1 → isName (ws.getD 1 []) = true)
    (hs : numsM (ws.drop (1 + nms k)) (bds k) = some ns) : rowM ws = some (k, if nms k = 1 then ws.getD 1 [] else [], ns) := by
  unfold rowM
  rw [hr]
  dsimp only
  rw [if_neg (fun z => z hl), if_neg (fun z => by rw [hn z.1] at z; exact absurd z.2 (by decide)), hs]
  rfl
theorem rowM_wd {x : Line} (h : x.ok = true) : rowM ((wd x).map cd) = some (rk x) := by
  cases x with
  | recipe n =>
    have hn : nameOk n = true := h
    have en := name_cd n
    rw [hn] at en
    show rowM [cd (ascii "recipe"), cd n] = _
    rw [cd_recipe, rowM_ok (ws := [kRecipe, cd n]) (k := 0) (ns := []) rank_recipe rfl (fun _ => en) numsM_nil]
    show some (0, cd n, []) = some (0, codes n, [])
    rw [cd_name hn]
  | malt n p x =>
    have h' : nameOk n = true ∧ within 1 10000 p = true ∧ within 1 850 x = true := by simpa [Line.ok] using h
    obtain ⟨hn, hp, hx⟩ := h'
    have en := name_cd n
    rw [hn] at en
    have hp' := within_iff.mp hp
    have hx' := within_iff.mp hx
    show rowM [cd (ascii "malt"), cd n, cd (decimal p), cd (decimal x)] = _
    have e : numsM [digs p, digs x] [(1, 10000), (1, 850)] = some [p, x] := by
      rw [numsM_cons (numOk_dec hp'.1 hp'.2 (by decide)), numsM_cons (numOk_dec hx'.1 hx'.2 (by decide)), numsM_nil, digs_val, digs_val]
      rfl
    rw [cd_malt, cd_decimal, cd_decimal, rowM_ok (ws := [kMalt, cd n, digs p, digs x]) (k := 1) rank_malt rfl (fun _ => en) e]
    show some (1, cd n, [p, x]) = some (1, codes n, [p, x])
    rw [cd_name hn]
  | hop n p a t =>
    have h' : nameOk n = true ∧ within 1 10000 p = true ∧ within 1 2500 a = true ∧ t ≤ 120 := by simpa [Line.ok] using h
    obtain ⟨hn, hp, ha, ht⟩ := h'
    have en := name_cd n
    rw [hn] at en
    have hp' := within_iff.mp hp
    have ha' := within_iff.mp ha
    show rowM [cd (ascii "hop"), cd n, cd (decimal p), cd (decimal a), cd (decimal t)] = _
    have e : numsM [digs p, digs a, digs t] [(1, 10000), (1, 2500), (0, 120)] = some [p, a, t] := by
      rw [numsM_cons (numOk_dec hp'.1 hp'.2 (by decide)), numsM_cons (numOk_dec ha'.1 ha'.2 (by decide)), numsM_cons (numOk_dec (Nat.zero_le _) ht (by decide)), numsM_nil, digs_val, digs_val, digs_val]
      rfl
    rw [cd_hop, cd_decimal, cd_decimal, cd_decimal, rowM_ok (ws := [kHop, cd n, digs p, digs a, digs t]) (k := 2) rank_hop rfl (fun _ => en) e]
    show some (2, cd n, [p, a, t]) = some (2, codes n, [p, a, t])
    rw [cd_name hn]
  | add n g =>
    have h' : nameOk n = true ∧ within 1 100000 g = true := by simpa [Line.ok] using h
    obtain ⟨hn, hg⟩ := h'
    have en := name_cd n
    rw [hn] at en
    have hg' := within_iff.mp hg
    show rowM [cd (ascii "add"), cd n, cd (decimal g)] = _
    have e : numsM [digs g] [(1, 100000)] = some [g] := by
      rw [numsM_cons (numOk_dec hg'.1 hg'.2 (by decide)), numsM_nil, digs_val]
      rfl
    rw [cd_add, cd_decimal, rowM_ok (ws := [kAdd, cd n, digs g]) (k := 3) rank_add rfl (fun _ => en) e]
    show some (3, cd n, [g]) = some (3, codes n, [g])
    rw [cd_name hn]
  | yeast u =>
    have hu' := within_iff.mp (show within 1 950 u = true from h)
    show rowM [cd (ascii "yeast"), cd (decimal u)] = _
    have e : numsM [digs u] [(1, 950)] = some [u] := by
      rw [numsM_cons (numOk_dec hu'.1 hu'.2 (by decide)), numsM_nil, digs_val]
      rfl
    rw [cd_yeast, cd_decimal, rowM_ok (ws := [kYeast, digs u]) (k := 4) rank_yeast rfl (fun z => absurd z (by decide)) e]
    rfl
theorem numOk_iff {w : List Nat} {b : Nat × Nat} : numOk w b = true ↔ isNum w = true ∧ b.1 ≤ valN w ∧ valN w ≤ b.2 := by
  unfold numOk
  simp only [Bool.and_eq_true, decide_eq_true_eq]
theorem numsM_some : ∀ {ws : List (List Nat)} {bs : List (Nat × Nat)} {ns : List Nat}, numsM ws bs = some ns → ws.length = bs.length → (∀ (i : Nat) (w : List Nat) (b : Nat × Nat), ws[i]? = some w → bs[i]? = some b → numOk w b = true)
  | [], _, _, _, _ => fun i w b h => by simp at h
  | w :: ws, [], _, _, h => by simp at h
  | w :: ws, b :: bs, ns, h, hl => by
    have h' : (if numOk w b = true then (numsM ws bs).map (valN w :: ·) else none) = some ns := h
    split at h'
    · rename_i q
      cases e : numsM ws bs with
      | none => rw [e] at h'; cases h'
      | some ms =>
        intro i
        cases i with
        | zero =>
          intro w' b' h1 h2
          cases h1
          cases h2
          exact q
        | succ i => exact fun w' b' h1 h2 => numsM_some e (by simpa using hl) i w' b' h1 h2
    · cases h'
theorem rankOf_some {w : List Nat} {k : Nat} (h : rankOf w = some k) : (k = 0 ∧ w = kRecipe) ∨ (k = 1 ∧ w = kMalt) ∨ (k = 2 ∧ w = kHop) ∨ (k = 3 ∧ w = kAdd) ∨ (k = 4 ∧ w = kYeast) := by
  unfold rankOf at h
  repeat' split at h
  all_goals first | (cases h; done) | (cases h; simp_all; done)
theorem len1 {α} {l : List α} (h : l.length = 1) : ∃ a, l = [a] := List.length_eq_one_iff.mp h
theorem rowM_some {b : Bytes} {y : Nat × List Nat × List Nat} (h : rowM ((cutAt 32 b).map cd) = some y) : ∃ x, lineIn b = some x := by
  unfold rowM at h
  cases ek : rankOf (((cutAt 32 b).map cd).getD 0 []) with
  | none => rw [ek] at h; cases h
  | some k =>
    rw [ek] at h
    dsimp only at h
    split at h
    · cases h
    · rename_i hl
      have hl := Classical.not_not.mp hl
      split at h
      · cases h
      · rename_i hn
        cases en : numsM (((cutAt 32 b).map cd).drop (1 + nms k)) (bds k) with
        | none => rw [en] at h; cases h
        | some ns =>
          have num := numsM_some en (by rw [List.length_drop]; omega)
          clear en h
          rw [List.length_map] at hl
          rcases rankOf_some ek with ⟨rfl, e⟩ | ⟨rfl, e⟩ | ⟨rfl, e⟩ | ⟨rfl, e⟩ | ⟨rfl, e⟩
          · match hw : cutAt 32 b, hl with
            | [k0, n], _ =>
              rw [hw] at e num hn
              have e0 := back_recipe e
              have n1 : nameOk n = true := by rw [← name_cd]; simpa [nms] using hn
              refine ⟨.recipe n, lineIn_of ?_ n1 (by rw [hw, e0]; rfl)⟩
              unfold lineMaybe
              rw [hw, e0]
              rfl
          · match hw : cutAt 32 b, hl with
            | [k0, n, w2, w3], _ =>
              rw [hw] at e num hn
              have e0 := back_malt e
              have n1 : nameOk n = true := by rw [← name_cd]; simpa [nms] using hn
              have a2 := numOk_iff.mp (num 0 (cd w2) (1, 10000) rfl rfl)
              have a3 := numOk_iff.mp (num 1 (cd w3) (1, 850) rfl rfl)
              obtain ⟨_, d2, v2⟩ := num_cd a2.1
              obtain ⟨_, d3, v3⟩ := num_cd a3.1
              refine ⟨.malt n (natIn w2) (natIn w3), lineIn_of ?_ ?_ (by rw [hw, e0]; show _ = [_, n, decimal (natIn w2), decimal (natIn w3)]; rw [d2, d3])⟩
              · unfold lineMaybe
                rw [hw, e0]
                rfl
              · show (nameOk n && (within 1 10000 (natIn w2) && within 1 850 (natIn w3))) = true
                rw [n1, within_iff.mpr (by rw [v2]; exact a2.2), within_iff.mpr (by rw [v3]; exact a3.2)]
                rfl
          · match hw : cutAt 32 b, hl with
            | [k0, n, w2, w3, w4], _ =>
              rw [hw] at e num hn
              have e0 := back_hop e
              have n1 : nameOk n = true := by rw [← name_cd]; simpa [nms] using hn
              have a2 := numOk_iff.mp (num 0 (cd w2) (1, 10000) rfl rfl)
              have a3 := numOk_iff.mp (num 1 (cd w3) (1, 2500) rfl rfl)
              have a4 := numOk_iff.mp (num 2 (cd w4) (0, 120) rfl rfl)
              obtain ⟨_, d2, v2⟩ := num_cd a2.1
              obtain ⟨_, d3, v3⟩ := num_cd a3.1
              obtain ⟨_, d4, v4⟩ := num_cd a4.1
              refine ⟨.hop n (natIn w2) (natIn w3) (natIn w4), lineIn_of ?_ ?_ (by rw [hw, e0]; show _ = [_, n, decimal (natIn w2), decimal (natIn w3), decimal (natIn w4)]; rw [d2, d3, d4])⟩
              · unfold lineMaybe
                rw [hw, e0]
                rfl
              · show (nameOk n && (within 1 10000 (natIn w2) && (within 1 2500 (natIn w3) && decide (natIn w4 ≤ 120)))) = true
                rw [n1, within_iff.mpr (by rw [v2]; exact a2.2), within_iff.mpr (by rw [v3]; exact a3.2), decide_eq_true (by rw [v4]; exact a4.2.2)]
                rfl
          · match hw : cutAt 32 b, hl with
            | [k0, n, w2], _ =>
              rw [hw] at e num hn
              have e0 := back_add e
              have n1 : nameOk n = true := by rw [← name_cd]; simpa [nms] using hn
              have a2 := numOk_iff.mp (num 0 (cd w2) (1, 100000) rfl rfl)
              obtain ⟨_, d2, v2⟩ := num_cd a2.1
              refine ⟨.add n (natIn w2), lineIn_of ?_ ?_ (by rw [hw, e0]; show _ = [_, n, decimal (natIn w2)]; rw [d2])⟩
              · unfold lineMaybe
                rw [hw, e0]
                rfl
              · show (nameOk n && within 1 100000 (natIn w2)) = true
                rw [n1, within_iff.mpr (by rw [v2]; exact a2.2)]
                rfl
          · match hw : cutAt 32 b, hl with
            | [k0, w1], _ =>
              rw [hw] at e num hn
              have e0 := back_yeast e
              have a1 := numOk_iff.mp (num 0 (cd w1) (1, 950) rfl rfl)
              obtain ⟨_, d1, v1⟩ := num_cd a1.1
              refine ⟨.yeast (natIn w1), lineIn_of ?_ ?_ (by rw [hw, e0]; show _ = [_, decimal (natIn w1)]; rw [d1])⟩
              · unfold lineMaybe
                rw [hw, e0]
                rfl
              · exact within_iff.mpr (by rw [v1]; exact a1.2)
theorem row_line (b : Bytes) : rowM (cutN 32 (cd b)) = (lineIn b).map rk := by
  have e : cutN 32 (cd b) = (cutAt 32 b).map cd := cutN_cd (c := 32) (by decide) (by decide) b
  rw [e]
  cases h : lineIn b with
  | some x =>
    obtain ⟨ho, hw⟩ := lineIn_some h
    rw [hw]
    exact rowM_wd ho
  | none =>
    cases h2 : rowM ((cutAt 32 b).map cd) with
    | none => rfl
    | some y =>
      obtain ⟨x, hx⟩ := rowM_some h2
      rw [h] at hx
      cases hx
end My

namespace My
open Br
/-! ### A recipe read -/
/-- the lines with their line feed, and what stands behind the last one -/
def lns (t : Bytes) : List Bytes := (cutAt 10 t).dropLast
def rst (t : Bytes) : Bytes := (cutAt 10 t).getLastD []
def goF : Nat → Recipe → List Bytes → Bytes → Except (Nat × Nat) Recipe
  | k, r, [], rest => if rest ≠ [] then .error (k, 1) else if ends r = true then .ok r else .error (k, 3)
  | k, r, b :: l, rest => match lineIn b with
    | none => .error (k, 1)
    | some x => if wrongOf r x = 0 then goF (k + 1) (r ++ [x]) l rest else .error (k, wrongOf r x)
theorem split_cut : ∀ t : Bytes, splitLines t = lns t ++ (if rst t = [] then [] else [rst t])
  | [] => rfl
  | c :: r => by
    have ih := split_cut r
    have ne := cutAt_ne 10 r
    unfold lns rst at ih ⊢
    rw [splitLines.eq_2, cutAt.eq_2]
    cases e : cutAt 10 r with
    | nil => exact absurd e ne
    | cons w l =>
      rw [e] at ih
      by_cases h : c = 10
      · rw [if_pos h, if_pos h, ih]
        rfl
      · rw [if_neg h, if_neg h, ih]
        cases l with
        | nil =>
          show (match ([] : List Bytes) ++ (if w = [] then [] else [w]) with | [] => [[c]] | l :: m => (c :: l) :: m) = [] ++ (if c :: w = [] then [] else [c :: w])
          rw [if_neg (List.cons_ne_nil c w)]
          by_cases q : w = []
          · rw [q, if_pos rfl]; rfl
          · rw [if_neg q]; rfl
        | cons v m => rfl
theorem rst_nil_iff : ∀ t : Bytes, (rst t = [] ↔ t = [] ∨ t.getLast? = some 10)
  | [] => by simp [rst, cutAt]
  | c :: r => by
    have ih := rst_nil_iff r
    have ne := cutAt_ne 10 r
    unfold rst at ih ⊢
    rw [cutAt.eq_2]
    cases e : cutAt 10 r with
    | nil => exact absurd e ne
    | cons w l =>
      rw [e] at ih
      by_cases h : c = 10
      · rw [if_pos h]
        show (w :: l).getLastD [] = [] ↔ _
        rw [ih]
        cases r with
        | nil => simp [h]
        | cons d s => simp [List.getLast?_cons_cons]
      · rw [if_neg h]
        cases l with
        | nil =>
          show c :: w = [] ↔ _
          cases r with
          | nil => simp [h]
          | cons d s =>
            have ih' : w = [] ↔ d :: s = [] ∨ (d :: s).getLast? = some 10 := ih
            have e' : w ≠ [] := by
              intro z
              rw [z] at e
              have q := spaced_back e
              exact absurd q (by simp)
            simp only [List.cons_ne_nil, false_or, false_iff, List.getLast?_cons_cons] at ih' ⊢
            exact fun z => e' (ih'.mpr z)
        | cons v m =>
          show (v :: m).getLastD [] = [] ↔ _
          have ih' : (v :: m).getLastD [] = [] ↔ r = [] ∨ r.getLast? = some 10 := ih
          rw [ih']
          cases r with
          | nil => cases e
          | cons d s => simp [List.getLast?_cons_cons]
where
  spaced_back : ∀ {b : Bytes}, cutAt 10 b = [[]] → b = []
    | [], _ => rfl
    | x :: s, h => by
      have ne := cutAt_ne 10 s
      rw [cutAt.eq_2] at h
      cases e : cutAt 10 s with
      | nil => exact absurd e ne
      | cons w l =>
        rw [e] at h
        split at h
        · cases h
        · cases h
theorem bare_iff (t : Bytes) : (!t.isEmpty && t.getLast? != some 10) = !decide (rst t = []) := by
  have h := rst_nil_iff t
  cases t with
  | nil => simp [rst, cutAt]
  | cons c r =>
    by_cases q : (c :: r).getLast? = some 10
    · rw [decide_eq_true (h.mpr (.inr q)), q]; rfl
    · have : ¬ rst (c :: r) = [] := fun z => by
        rcases h.mp z with w | w
        · cases w
        · exact q w
      rw [decide_eq_false this]
      simp [q]
theorem from_go (rest : Bytes) : ∀ (l : List Bytes) (k : Nat) (r : Recipe), recipeFrom (!decide (rest = [])) k r (l ++ (if rest = [] then [] else [rest])) = goF k r l rest
  | [], k, r => by
    by_cases h : rest = []
    · rw [decide_eq_true h, if_pos h]
      unfold goF
      rw [if_neg (fun z => z h)]
      rfl
    · rw [decide_eq_false h, if_neg h]
      unfold goF
      rw [if_pos h]
      rfl
  | b :: l, k, r => by
    have e : ((!decide (rest = [])) && (l ++ (if rest = [] then [] else [rest])).isEmpty) = false := by
      by_cases h : rest = []
      · rw [decide_eq_true h]; rfl
      · rw [if_neg h]; simp
    rw [List.cons_append, recipeFrom.eq_2, e]
    unfold goF
    rw [if_neg Bool.false_ne_true]
    cases lineIn b with
    | none => rfl
    | some x =>
      dsimp only
      by_cases q : wrongOf r x = 0
      · rw [if_pos q, if_pos q, from_go rest l]
      · rw [if_neg q, if_neg q]
theorem read_go (t : Bytes) : readRecipe t = goF 0 [] (lns t) (rst t) := by
  unfold readRecipe
  rw [bare_iff, split_cut, from_go]
/-! ### What is wrong with a row, by what stands before -/
def ofRank (k : Nat) (r : Recipe) : Recipe := r.filter fun l => l.rank == k
def bef (r : Recipe) : List Nat := match r.getLast? with
  | none => []
  | some y => kindN y.rank
def mayN : Nat → List (List Nat)
  | 0 => [[]]
  | 1 => [kRecipe, kMalt]
  | 2 => [kMalt, kHop]
  | _ => [kMalt, kHop, kAdd]
def mins (l : Line) : Nat := (lnums l).getD 2 0
def hopClash (x : Line) (es : Recipe) : Bool := (match es.getLast? with
  | some y => decide (mins y < mins x)
  | none => false) || es.any fun y => lname y == lname x && mins y == mins x
def clashM (x : Line) (es : Recipe) : Bool := if x.rank = 2 then hopClash x es else es.any fun y => lname y == lname x
def whyM (r : Recipe) (x : Line) : Nat := if bef r ∉ mayN x.rank then 3 else if clashM x (ofRank x.rank r) = true then 4 else if 16 ≤ (ofRank x.rank r).length then 2 else 0
def Fine (r : Recipe) : Prop := ∀ y ∈ r.dropLast, y.rank ≠ 4
theorem rank_le (x : Line) : x.rank ≤ 4 := by cases x <;> simp [Line.rank]
theorem stands_may (r : Recipe) (x : Line) : stands r x = decide (bef r ∈ mayN x.rank) := by
  unfold stands bef
  cases r.getLast? with
  | none => cases x <;> rfl
  | some y => cases y <;> cases x <;> rfl
theorem last_split {r : Recipe} {y : Line} (h : r.getLast? = some y) : r.dropLast ++ [y] = r := by
  have ne : r ≠ [] := by intro z; rw [z] at h; cases h
  have e := List.dropLast_concat_getLast ne
  rw [List.getLast?_eq_some_getLast ne] at h
  rw [← Option.some.inj h]
  exact e
theorem no_yeast {r : Recipe} {x : Line} (F : Fine r) (h : stands r x = true) : ∀ y ∈ r, y.rank ≠ 4 := by
  intro y hy
  cases e : r.getLast? with
  | none =>
    rw [List.getLast?_eq_none_iff] at e
    rw [e] at hy
    cases hy
  | some z =>
    have s := last_split e
    rw [← s] at hy
    rcases List.mem_append.mp hy with q | q
    · exact F y q
    · rw [List.mem_singleton.mp q]
      intro c
      unfold stands at h
      rw [e] at h
      dsimp only at h
      rw [c] at h
      cases h
theorem fine_nil : Fine [] := fun _ h => nomatch h
theorem wrong_stands {r : Recipe} {x : Line} (h : wrongOf r x = 0) : stands r x = true := by
  cases e : stands r x with
  | true => rfl
  | false =>
    unfold wrongOf at h
    rw [if_pos e] at h
    cases h
theorem fine_snoc {r : Recipe} {x : Line} (F : Fine r) (h : wrongOf r x = 0) : Fine (r ++ [x]) := by
  intro y hy
  rw [List.dropLast_concat] at hy
  exact no_yeast F (wrong_stands h) y hy
theorem ends_bef {r : Recipe} (F : Fine r) : ends r = decide (bef r = kYeast) := by
  unfold ends bef
  cases e : r.getLast? with
  | none =>
    rw [List.getLast?_eq_none_iff] at e
    rw [e]
    decide +kernel
  | some y =>
    have s := last_split e
    have hd : (r.dropLast.any fun l => l.rank == 4) = false := by
      rw [List.any_eq_false]
      intro l hl
      simpa using F l hl
    rw [← s, List.any_append, hd]
    cases y <;> rfl
theorem malts_names (n : Bytes) : ∀ r : Recipe, (malts r).any (fun m => m.1 == n) = (ofRank 1 r).any fun y => lname y == n
  | [] => rfl
  | l :: r => by
    have ih := malts_names n r
    cases l with
    | malt m p x =>
      show ((m == n) || (malts r).any _) = ((m == n) || (ofRank 1 r).any _)
      rw [ih]
    | _ => exact ih
theorem adds_names (n : Bytes) : ∀ r : Recipe, (adds r).any (fun m => m.1 == n) = (ofRank 3 r).any fun y => lname y == n
  | [] => rfl
  | l :: r => by
    have ih := adds_names n r
    cases l with
    | add m p =>
      show ((m == n) || (adds r).any _) = ((m == n) || (ofRank 3 r).any _)
      rw [ih]
    | _ => exact ih
theorem hops_names (n : Bytes) (t : Nat) : ∀ r : Recipe, (hops r).any (fun m => m.1 == n && m.2.2.2 == t) = (ofRank 2 r).any fun y => lname y == n && mins y == t
  | [] => rfl
  | l :: r => by
    have ih := hops_names n t r
    cases l with
    | hop m p a u =>
      show ((m == n && u == t) || (hops r).any _) = ((m == n && u == t) || (ofRank 2 r).any _)
      rw [ih]
    | _ => exact ih
theorem malts_len : ∀ r : Recipe, (malts r).length = (ofRank 1 r).length
  | [] => rfl
  | l :: r => by
    have ih := malts_len r
    cases l with
    | malt m p x => exact congrArg (· + 1) ih
    | _ => exact ih
theorem hops_len : ∀ r : Recipe, (hops r).length = (ofRank 2 r).length
  | [] => rfl
  | l :: r => by
    have ih := hops_len r
    cases l with
    | hop m p a t => exact congrArg (· + 1) ih
    | _ => exact ih
theorem adds_len : ∀ r : Recipe, (adds r).length = (ofRank 3 r).length
  | [] => rfl
  | l :: r => by
    have ih := adds_len r
    cases l with
    | add m p => exact congrArg (· + 1) ih
    | _ => exact ih
theorem hops_map : ∀ r : Recipe, (hops r).map (fun m => m.2.2.2) = (ofRank 2 r).map mins
  | [] => rfl
  | l :: r => by
    have ih := hops_map r
    cases l with
    | hop m p a t => exact congrArg (t :: ·) ih
    | _ => exact ih
theorem hops_last (r : Recipe) (t : Nat) : (match (hops r).getLast? with
    | some m => decide (m.2.2.2 < t)
    | none => false) = (match (ofRank 2 r).getLast? with
    | some y => decide (mins y < t)
    | none => false) := by
  have e := congrArg List.getLast? (hops_map r)
  rw [List.getLast?_map, List.getLast?_map] at e
  cases h1 : (hops r).getLast? with
  | none =>
    rw [h1] at e
    cases h2 : (ofRank 2 r).getLast? with
    | none => rfl
    | some y => rw [h2] at e; cases e
  | some m =>
    rw [h1] at e
    cases h2 : (ofRank 2 r).getLast? with
    | none => rw [h2] at e; cases e
    | some y =>
      rw [h2] at e
      have e' : m.2.2.2 = mins y := Option.some.inj e
      show decide (m.2.2.2 < t) = decide (mins y < t)
      rw [e']
theorem rank_none {r : Recipe} {k : Nat} (h : ∀ y ∈ r, y.rank ≠ k) : ofRank k r = [] := by
  unfold ofRank
  rw [List.filter_eq_nil_iff]
  intro y hy
  simpa using h y hy
theorem ofRank_le (k : Nat) (r : Recipe) : (ofRank k r).length ≤ r.length := List.length_filter_le ..
theorem why_wrong {r : Recipe} (F : Fine r) (x : Line) : whyM r x = wrongOf r x := by
  unfold whyM wrongOf
  rw [stands_may]
  by_cases h : bef r ∈ mayN x.rank
  · rw [if_neg (fun z => z h), decide_eq_true h, if_neg (show ¬ true = false by decide)]
    have st : stands r x = true := by rw [stands_may]; exact decide_eq_true h
    have eq3 : ∀ {a b : Bool} {c d : Prop} [Decidable c] [Decidable d] {e : Bool}, a = b → (c ↔ d) → ((d ↔ e = true)) → (if a = true then 4 else if c then 2 else 0) = (if b = true then 4 else if e = true then 2 else 0) := by
      intro a b c d _ _ e h1 h2 h3
      rw [h1]
      by_cases q : c
      · rw [if_pos q, if_pos (h3.mp (h2.mp q))]
      · rw [if_neg q, if_neg (fun z => q (h2.mpr (h3.mpr z)))]
    cases x with
    | recipe n =>
      have e0 : r = [] := by
        unfold stands at st
        cases e : r.getLast? with
        | none => exact List.getLast?_eq_none_iff.mp e
        | some y => rw [e] at st; cases y <;> cases st
      subst e0
      rfl
    | malt n p x =>
      refine eq3 (d := 16 ≤ (malts r).length) ?_ (by rw [malts_len]; exact Iff.rfl) (by show _ ↔ decide (16 ≤ (malts r).length) = true; rw [decide_eq_true_eq])
      show (if (1 : Nat) = 2 then _ else (ofRank 1 r).any fun y => lname y == n) = _
      rw [if_neg (by decide)]
      exact (malts_names n r).symm
    | hop n p a t =>
      refine eq3 (d := 16 ≤ (hops r).length) ?_ (by rw [hops_len]; exact Iff.rfl) (by show _ ↔ decide (16 ≤ (hops r).length) = true; rw [decide_eq_true_eq])
      show (if (2 : Nat) = 2 then hopClash (.hop n p a t) (ofRank 2 r) else _) = _
      rw [if_pos rfl]
      show (_ || _) = (_ || _)
      rw [Bool.or_comm]
      exact congr (congrArg or (hops_names n t r).symm) (hops_last r t).symm
    | add n g =>
      refine eq3 (d := 16 ≤ (adds r).length) ?_ (by rw [adds_len]; exact Iff.rfl) (by show _ ↔ decide (16 ≤ (adds r).length) = true; rw [decide_eq_true_eq])
      show (if (3 : Nat) = 2 then _ else (ofRank 3 r).any fun y => lname y == n) = _
      rw [if_neg (by decide)]
      exact (adds_names n r).symm
    | yeast u =>
      have e0 := rank_none (no_yeast F st)
      show (if clashM (.yeast u) (ofRank 4 r) = true then 4 else if 16 ≤ (ofRank 4 r).length then 2 else 0) = 0
      rw [e0]
      rfl
  · rw [if_pos h, if_pos (decide_eq_false h)]
theorem rank_snoc (k : Nat) (r : Recipe) (x : Line) : ofRank k (r ++ [x]) = ofRank k r ++ (if x.rank = k then [x] else []) := by
  unfold ofRank
  rw [List.filter_append]
  congr 1
  by_cases h : x.rank = k
  · rw [if_pos h]; simp [h]
  · rw [if_neg h]; simp [h]
theorem bef_snoc (r : Recipe) (x : Line) : bef (r ++ [x]) = kindN x.rank := by
  unfold bef
  rw [List.getLast?_concat]
/-! ### The answers -/
def refusal (t : Bytes) : List Int := if 16384 < t.length then [-2] else match readRecipe t with
  | .ok _ => []
  | .error e => [-6, (e.1 : Int), (e.2 : Int)]
theorem ofRecipe_is (t : Bytes) (f : Recipe → Wqatdl.Ans) : Wqatdl.ofRecipe t f = if 16384 < t.length then Wqatdl.MUCH else match readRecipe t with
    | .ok r => f r
    | .error e => Wqatdl.faultAt e := rfl
theorem judge_is (ns : List Int) : PyWqatdl.judge ns = if refusal (WqatdlNeutral.bytes ns) ≠ [] then refusal (WqatdlNeutral.bytes ns) else [0] := by
  show (Wqatdl.ofRecipe (WqatdlNeutral.bytes ns) fun _ => Wqatdl.says 0).ret :: (Wqatdl.ofRecipe (WqatdlNeutral.bytes ns) fun _ => Wqatdl.says 0).nums.map WqatdlNeutral.int = _
  rw [ofRecipe_is]
  unfold refusal
  by_cases h : 16384 < (WqatdlNeutral.bytes ns).length
  · simp only [if_pos h]; rfl
  · simp only [if_neg h]
    cases readRecipe (WqatdlNeutral.bytes ns) with
    | ok r => rfl
    | error e => rfl
end My

namespace My
open Br
/-! ### What a recipe that was read is like -/
inductive Ch : Recipe → Prop
  | nil : Ch []
  | snoc {r : Recipe} {x : Line} : Ch r → x.ok = true → wrongOf r x = 0 → Ch (r ++ [x])
theorem Ch.fine {r : Recipe} (h : Ch r) : Fine r := by
  induction h with
  | nil => exact fine_nil
  | snoc _ _ hw ih => exact fine_snoc ih hw
theorem go_ch : ∀ (ls : List Bytes) (k : Nat) (r : Recipe) (rest : Bytes) (r' : Recipe), Ch r → goF k r ls rest = .ok r' → Ch r' ∧ ends r' = true
  | [], k, r, rest, r', hc, h => by
    unfold goF at h
    split at h
    · cases h
    · split at h
      · rename_i e
        cases h
        exact ⟨hc, e⟩
      · cases h
  | b :: l, k, r, rest, r', hc, h => by
    unfold goF at h
    cases hl : lineIn b with
    | none => rw [hl] at h; cases h
    | some x =>
      rw [hl] at h
      dsimp only at h
      split at h
      · rename_i hw
        exact go_ch l (k + 1) (r ++ [x]) rest r' (.snoc hc (lineIn_some hl).1 hw) h
      · cases h
theorem read_ch {t : Bytes} {r : Recipe} (h : readRecipe t = .ok r) : Ch r ∧ ends r = true := by
  rw [read_go] at h
  exact go_ch _ _ _ _ _ .nil h
theorem Ch.all_ok {r : Recipe} (h : Ch r) : ∀ x ∈ r, x.ok = true := by
  induction h with
  | nil => intro x hx; cases hx
  | snoc _ ho _ ih =>
    intro x hx
    rcases List.mem_append.mp hx with q | q
    · exact ih x q
    · rw [List.mem_singleton.mp q]; exact ho
theorem wrong_parts {r : Recipe} {x : Line} (h : wrongOf r x = 0) : stands r x = true ∧ clashes r x = false ∧ tooMany r x = false := by
  unfold wrongOf at h
  split at h
  · cases h
  · rename_i h1
    split at h
    · cases h
    · rename_i h2
      split at h
      · cases h
      · rename_i h3
        exact ⟨by simpa using h1, by simpa using h2, by simpa using h3⟩
theorem malts_snoc (r : Recipe) (x : Line) : malts (r ++ [x]) = malts r ++ malts [x] := List.filterMap_append
theorem hops_snoc (r : Recipe) (x : Line) : hops (r ++ [x]) = hops r ++ hops [x] := List.filterMap_append
theorem adds_snoc (r : Recipe) (x : Line) : adds (r ++ [x]) = adds r ++ adds [x] := List.filterMap_append
theorem Ch.malts16 {r : Recipe} (h : Ch r) : (malts r).length ≤ 16 := by
  induction h with
  | nil => decide
  | @snoc r x _ _ hw ih =>
    rw [malts_snoc, List.length_append]
    cases x with
    | malt n p x =>
      have := (wrong_parts hw).2.2
      have h2 : decide (16 ≤ (malts r).length) = false := this
      have h3 := of_decide_eq_false h2
      show (malts r).length + 1 ≤ 16
      omega
    | _ => exact ih
theorem Ch.hops16 {r : Recipe} (h : Ch r) : (hops r).length ≤ 16 := by
  induction h with
  | nil => decide
  | @snoc r x _ _ hw ih =>
    rw [hops_snoc, List.length_append]
    cases x with
    | hop n p a t =>
      have := (wrong_parts hw).2.2
      have h2 : decide (16 ≤ (hops r).length) = false := this
      have h3 := of_decide_eq_false h2
      show (hops r).length + 1 ≤ 16
      omega
    | _ => exact ih
theorem Ch.adds16 {r : Recipe} (h : Ch r) : (adds r).length ≤ 16 := by
  induction h with
  | nil => decide
  | @snoc r x _ _ hw ih =>
    rw [adds_snoc, List.length_append]
    cases x with
    | add n g =>
      have := (wrong_parts hw).2.2
      have h2 : decide (16 ≤ (adds r).length) = false := this
      have h3 := of_decide_eq_false h2
      show (adds r).length + 1 ≤ 16
      omega
    | _ => exact ih
/-- no two malts, no two adds of one name; no two hops of one name and minutes -/
theorem Ch.maltsND {r : Recipe} (h : Ch r) : ((malts r).map (·.1)).Nodup := by
  induction h with
  | nil => exact List.nodup_nil
  | @snoc r x _ _ hw ih =>
    rw [malts_snoc, List.map_append]
    cases x with
    | malt n p x =>
      have hc : ((malts r).any fun m => m.1 == n) = false := (wrong_parts hw).2.1
      show ((malts r).map (·.1) ++ [n]).Nodup
      rw [List.nodup_append]
      refine ⟨ih, by simp, fun a ha b hb => ?_⟩
      obtain ⟨m, hm, rfl⟩ := List.mem_map.mp ha
      rw [List.mem_singleton.mp hb]
      have := List.any_eq_false.mp hc m hm
      simpa using this
    | _ =>
      have h0 : ((malts r).map (fun (m : Name × Nat × Nat) => m.1) ++ ([] : List Name)).Nodup := by
        rw [List.append_nil]
        exact ih
      exact h0
theorem Ch.addsND {r : Recipe} (h : Ch r) : ((adds r).map (·.1)).Nodup := by
  induction h with
  | nil => exact List.nodup_nil
  | @snoc r x _ _ hw ih =>
    rw [adds_snoc, List.map_append]
    cases x with
    | add n g =>
      have hc : ((adds r).any fun m => m.1 == n) = false := (wrong_parts hw).2.1
      show ((adds r).map (·.1) ++ [n]).Nodup
      rw [List.nodup_append]
      refine ⟨ih, by simp, fun a ha b hb => ?_⟩
      obtain ⟨m, hm, rfl⟩ := List.mem_map.mp ha
      rw [List.mem_singleton.mp hb]
      have := List.any_eq_false.mp hc m hm
      simpa using this
    | _ =>
      have h0 : ((adds r).map (fun (m : Name × Nat) => m.1) ++ ([] : List Name)).Nodup := by
        rw [List.append_nil]
        exact ih
      exact h0
theorem Ch.hopsND {r : Recipe} (h : Ch r) : ((hops r).map fun m => (m.1, m.2.2.2)).Nodup := by
  induction h with
  | nil => exact List.nodup_nil
  | @snoc r x _ _ hw ih =>
    rw [hops_snoc, List.map_append]
    cases x with
    | hop n p a t =>
      have hc := (wrong_parts hw).2.1
      have hc2 : ((hops r).any fun m => m.1 == n && m.2.2.2 == t) = false := (Bool.or_eq_false_iff.mp hc).1
      show ((hops r).map (fun m => (m.1, m.2.2.2)) ++ [(n, t)]).Nodup
      rw [List.nodup_append]
      refine ⟨ih, by simp, fun a ha b hb => ?_⟩
      obtain ⟨m, hm, rfl⟩ := List.mem_map.mp ha
      rw [List.mem_singleton.mp hb]
      have := List.any_eq_false.mp hc2 m hm
      intro z
      have z1 := congrArg Prod.fst z
      have z2 := congrArg Prod.snd z
      simp only at z1 z2
      simp [z1, z2] at this
    | _ =>
      have h0 : ((hops r).map (fun (m : Name × Nat × Nat × Nat) => (m.1, m.2.2.2)) ++ ([] : List (Name × Nat))).Nodup := by
        rw [List.append_nil]
        exact ih
      exact h0
theorem Ch.has_malt {r : Recipe} (h : Ch r) : (∃ y ∈ r, 1 ≤ y.rank) → malts r ≠ [] := by
  induction h with
  | nil => rintro ⟨y, hy, _⟩; cases hy
  | @snoc r x hc _ hw ih =>
    intro _
    rw [malts_snoc]
    have st := (wrong_parts hw).1
    cases x with
    | malt n p x => exact List.append_ne_nil_of_right_ne_nil _ (by show [(n, p, x)] ≠ []; simp)
    | recipe n =>
      rename_i hex
      obtain ⟨y, hy, h1⟩ := hex
      rcases List.mem_append.mp hy with q | q
      · exact List.append_ne_nil_of_left_ne_nil (ih ⟨y, q, h1⟩) _
      · rw [List.mem_singleton.mp q] at h1
        exact absurd h1 (by show ¬ 1 ≤ 0; decide)
    | _ =>
      refine List.append_ne_nil_of_left_ne_nil (ih ?_) _
      unfold stands at st
      cases e : r.getLast? with
      | none => rw [e] at st; cases st
      | some y =>
        rw [e] at st
        refine ⟨y, List.mem_of_getLast? e, ?_⟩
        cases y with
        | recipe m => cases st
        | _ => simp [Line.rank]
theorem ends_yeast {r : Recipe} (h : Ch r) (he : ends r = true) : ∃ r0 u, r = r0 ++ [.yeast u] ∧ (∀ y ∈ r0, y.rank ≠ 4) ∧ Ch r0 ∧ (Line.yeast u).ok = true := by
  cases h with
  | nil => cases he
  | @snoc r0 x hc ho hw =>
    have hn := no_yeast hc.fine (wrong_parts hw).1
    have h4 : x.rank = 4 := by
      unfold ends at he
      rw [List.any_append] at he
      have : (r0.any fun l => l.rank == 4) = false := by
        rw [List.any_eq_false]
        intro y hy
        simpa using hn y hy
      rw [this] at he
      simpa using he
    cases x with
    | yeast u => exact ⟨r0, u, rfl, hn, hc, ho⟩
    | _ => cases h4
theorem yeast_of : ∀ {r0 : Recipe} {u : Nat}, (∀ y ∈ r0, y.rank ≠ 4) → yeastOf (r0 ++ [.yeast u]) = u
  | [], u, _ => rfl
  | l :: r, u, h => by
    have ih := yeast_of (r0 := r) (u := u) fun y hy => h y (List.mem_cons_of_mem _ hy)
    have hl := h l (List.mem_cons_self ..)
    cases l with
    | yeast v => exact absurd rfl hl
    | _ => exact ih
theorem yeast_rank {r0 : Recipe} {u : Nat} (h : ∀ y ∈ r0, y.rank ≠ 4) : ofRank 4 (r0 ++ [.yeast u]) = [.yeast u] := by
  rw [rank_snoc, rank_none h]
  rfl
theorem read_malts {t : Bytes} {r : Recipe} (h : readRecipe t = .ok r) : malts r ≠ [] := by
  obtain ⟨hc, he⟩ := read_ch h
  obtain ⟨r0, u, rfl, _⟩ := ends_yeast hc he
  exact hc.has_malt ⟨.yeast u, by simp, by show 1 ≤ 4; decide⟩
/-- the lines of a kind are the spec's lists -/
def mkMalt (m : Name × Nat × Nat) : Line := .malt m.1 m.2.1 m.2.2
def mkHop (m : Name × Nat × Nat × Nat) : Line := .hop m.1 m.2.1 m.2.2.1 m.2.2.2
def mkAdd (m : Name × Nat) : Line := .add m.1 m.2
theorem rank1 : ∀ r : Recipe, ofRank 1 r = (malts r).map mkMalt
  | [] => rfl
  | l :: r => by
    have ih := rank1 r
    cases l with
    | malt n p x => exact congrArg (Line.malt n p x :: ·) ih
    | _ => exact ih
theorem rank2 : ∀ r : Recipe, ofRank 2 r = (hops r).map mkHop
  | [] => rfl
  | l :: r => by
    have ih := rank2 r
    cases l with
    | hop n p a t => exact congrArg (Line.hop n p a t :: ·) ih
    | _ => exact ih
theorem rank3 : ∀ r : Recipe, ofRank 3 r = (adds r).map mkAdd
  | [] => rfl
  | l :: r => by
    have ih := rank3 r
    cases l with
    | add n g => exact congrArg (Line.add n g :: ·) ih
    | _ => exact ih
/-- the bounds of what stands in a recipe -/
theorem malt_bounds {r : Recipe} (h : Ch r) {m : Name × Nat × Nat} (hm : m ∈ malts r) : nameOk m.1 = true ∧ (1 ≤ m.2.1 ∧ m.2.1 ≤ 10000) ∧ 1 ≤ m.2.2 ∧ m.2.2 ≤ 850 := by
  obtain ⟨l, hl, e⟩ := List.mem_filterMap.mp hm
  have ho := h.all_ok l hl
  cases l with
  | malt n p x =>
    cases e
    have h' : nameOk n = true ∧ within 1 10000 p = true ∧ within 1 850 x = true := by simpa [Line.ok] using ho
    exact ⟨h'.1, within_iff.mp h'.2.1, within_iff.mp h'.2.2⟩
  | _ => cases e
theorem hop_bounds {r : Recipe} (h : Ch r) {m : Name × Nat × Nat × Nat} (hm : m ∈ hops r) : nameOk m.1 = true ∧ (1 ≤ m.2.1 ∧ m.2.1 ≤ 10000) ∧ (1 ≤ m.2.2.1 ∧ m.2.2.1 ≤ 2500) ∧ m.2.2.2 ≤ 120 := by
  obtain ⟨l, hl, e⟩ := List.mem_filterMap.mp hm
  have ho := h.all_ok l hl
  cases l with
  | hop n p a t =>
    cases e
    have h' : nameOk n = true ∧ within 1 10000 p = true ∧ within 1 2500 a = true ∧ t ≤ 120 := by simpa [Line.ok] using ho
    exact ⟨h'.1, within_iff.mp h'.2.1, within_iff.mp h'.2.2.1, h'.2.2.2⟩
  | _ => cases e
theorem add_bounds {r : Recipe} (h : Ch r) {m : Name × Nat} (hm : m ∈ adds r) : nameOk m.1 = true ∧ 1 ≤ m.2 ∧ m.2 ≤ 100000 := by
  obtain ⟨l, hl, e⟩ := List.mem_filterMap.mp hm
  have ho := h.all_ok l hl
  cases l with
  | add n g =>
    cases e
    have h' : nameOk n = true ∧ within 1 100000 g = true := by simpa [Line.ok] using ho
    exact ⟨h'.1, within_iff.mp h'.2⟩
  | _ => cases e
end My

namespace My
open Br
/-! ### Scaled grams: their places, their bounds -/
def over (ps : List Nat) (w : Nat) : Nat := w - (ps.map fun p => w * p / ps.sum).sum
theorem scaled_eq {ps : List Nat} (h : ps.sum ≠ 0) (w : Nat) : scaled ps w = (List.range ps.length).map fun i => w * ps.getD i 0 / ps.sum + if goesBefore ps w i < over ps w then 1 else 0 := by
  unfold scaled
  rw [if_neg h]
  rfl
theorem scaled_len (ps : List Nat) (w : Nat) : (scaled ps w).length = ps.length := by
  by_cases h : ps.sum = 0
  · unfold scaled
    rw [if_pos h, List.length_map]
  · rw [scaled_eq h, List.length_map, List.length_range]
theorem scaled_at {ps : List Nat} (h : ps.sum ≠ 0) {w i p : Nat} (hp : ps[i]? = some p) : (scaled ps w)[i]? = some (w * p / ps.sum + if goesBefore ps w i < over ps w then 1 else 0) := by
  have hi : i < ps.length := (List.getElem?_eq_some_iff.mp hp).1
  rw [scaled_eq h, List.getElem?_map, List.getElem?_range hi]
  have : ps.getD i 0 = p := by rw [List.getD_eq_getElem?_getD, hp]; rfl
  show some (w * ps.getD i 0 / ps.sum + _) = _
  rw [this]
theorem scaled_bounds {ps : List Nat} (h : ps.sum ≠ 0) {w i p g : Nat} (hp : ps[i]? = some p) (hg : (scaled ps w)[i]? = some g) : ps.sum * g ≤ w * p + ps.sum ∧ w * p ≤ ps.sum * g + ps.sum := by
  rw [scaled_at h hp] at hg
  have e := Option.some.inj hg
  have h1 := Nat.div_add_mod (w * p) ps.sum
  have h2 := Nat.mod_lt (w * p) (Nat.pos_of_ne_zero h)
  rw [← e, Nat.mul_add]
  generalize ps.sum * (w * p / ps.sum) = q at *
  split <;> omega
/-- sums of grams times extracts -/
theorem sum_bounds (P w : Nat) : ∀ (gs : List Nat) (ms : List (Name × Nat × Nat)), gs.length = ms.length → (∀ (i g : Nat) (m : Name × Nat × Nat), gs[i]? = some g → ms[i]? = some m → P * g ≤ w * m.2.1 + P ∧ w * m.2.1 ≤ P * g + P) →
    P * (List.zipWith (fun (g : Nat) (m : Name × Nat × Nat) => g * m.2.2) gs ms).sum ≤ w * (ms.map fun m => m.2.1 * m.2.2).sum + P * (ms.map fun m => m.2.2).sum ∧
    w * (ms.map fun m => m.2.1 * m.2.2).sum ≤ P * (List.zipWith (fun (g : Nat) (m : Name × Nat × Nat) => g * m.2.2) gs ms).sum + P * (ms.map fun m => m.2.2).sum
  | [], [], _, _ => by simp
  | [], m :: ms, h, _ => by simp at h
  | g :: gs, [], h, _ => by simp at h
  | g :: gs, m :: ms, h, hb => by
    have ih := sum_bounds P w gs ms (by simpa using h) fun i g' m' h1 h2 => hb (i + 1) g' m' h1 h2
    have h0 := hb 0 g m rfl rfl
    simp only [List.zipWith_cons_cons, List.map_cons, List.sum_cons, Nat.mul_add]
    have a1 : P * (g * m.2.2) ≤ w * (m.2.1 * m.2.2) + P * m.2.2 := by
      have := Nat.mul_le_mul_right m.2.2 h0.1
      rw [Nat.add_mul, Nat.mul_assoc, Nat.mul_assoc] at this
      exact this
    have a2 : w * (m.2.1 * m.2.2) ≤ P * (g * m.2.2) + P * m.2.2 := by
      have := Nat.mul_le_mul_right m.2.2 h0.2
      rw [Nat.add_mul, Nat.mul_assoc, Nat.mul_assoc] at this
      exact this
    omega
def mP (r : Recipe) : Nat := ((malts r).map fun (m : Name × Nat × Nat) => m.2.1).sum
def mS (r : Recipe) : Nat := ((malts r).map fun (m : Name × Nat × Nat) => m.2.1 * m.2.2).sum
def mX (r : Recipe) : Nat := ((malts r).map fun (m : Name × Nat × Nat) => m.2.2).sum
theorem extract_bounds {r : Recipe} (hP : mP r ≠ 0) (ml w h : Nat) : mP r * extract r ⟨ml, w, h⟩ ≤ w * mS r + mP r * mX r ∧ w * mS r ≤ mP r * extract r ⟨ml, w, h⟩ + mP r * mX r := by
  refine sum_bounds (mP r) w _ _ ?_ fun i g m h1 h2 => ?_
  · show (scaled _ w).length = _
    rw [scaled_len, List.length_map]
  · have hp : ((malts r).map fun (m : Name × Nat × Nat) => m.2.1)[i]? = some m.2.1 := by rw [List.getElem?_map, h2]; rfl
    exact scaled_bounds hP hp h1
/-! ### The least malt -/
def enoughM (r : Recipe) (ml n d w : Nat) : Prop := n * ml ≤ d * extract r ⟨ml, w, 0⟩
instance (r : Recipe) (ml n d w : Nat) : Decidable (enoughM r ml n d w) := Nat.decLe _ _
theorem from_some (r : Recipe) (ml n d : Nat) : ∀ (k w0 w : Nat), enoughFrom r ml n d k w0 = some w → w0 ≤ w ∧ w ≤ MOST ∧ enoughM r ml n d w ∧ ∀ v, w0 ≤ v → v < w → ¬ enoughM r ml n d v
  | 0, _, _, h => by cases h
  | k + 1, w0, w, h => by
    unfold enoughFrom at h
    by_cases c1 : MOST < w0
    · rw [if_pos c1] at h; cases h
    · rw [if_neg c1] at h
      by_cases c2 : n * ml ≤ d * extract r ⟨ml, w0, 0⟩
      · rw [if_pos c2] at h
        cases h
        exact ⟨Nat.le_refl _, by omega, c2, fun v h1 h2 => by omega⟩
      · rw [if_neg c2] at h
        obtain ⟨h1, h2, h3, h4⟩ := from_some r ml n d k (w0 + 1) w h
        refine ⟨by omega, h2, h3, fun v g1 g2 => ?_⟩
        by_cases e : v = w0
        · rw [e]; exact c2
        · exact h4 v (by omega) g2
theorem from_none (r : Recipe) (ml n d : Nat) : ∀ (k w0 : Nat), enoughFrom r ml n d k w0 = none → ∀ v, w0 ≤ v → v < w0 + k → v ≤ MOST → ¬ enoughM r ml n d v
  | 0, _, _, v, h1, h2, _ => by omega
  | k + 1, w0, h, v, h1, h2, h3 => by
    unfold enoughFrom at h
    by_cases c1 : MOST < w0
    · omega
    · rw [if_neg c1] at h
      by_cases c2 : n * ml ≤ d * extract r ⟨ml, w0, 0⟩
      · rw [if_pos c2] at h; cases h
      · rw [if_neg c2] at h
        by_cases e : v = w0
        · rw [e]; exact c2
        · exact from_none r ml n d k (w0 + 1) h v (by omega) (by omega) h3
theorem lo_le {r : Recipe} (hP : mP r ≠ 0) (hS : mS r ≠ 0) {ml n d w : Nat} (hd : d ≠ 0) (h : enoughM r ml n d w) : (n * ml - d * mX r) * mP r / (d * mS r) ≤ w := by
  have hb := (extract_bounds hP ml w 0).1
  have h' : n * ml ≤ d * extract r ⟨ml, w, 0⟩ := h
  have h1 : n * ml * mP r ≤ d * (w * mS r + mP r * mX r) := by
    have e1 := Nat.mul_le_mul_right (mP r) h'
    have e2 := Nat.mul_le_mul_left d hb
    have e4 : d * extract r ⟨ml, w, 0⟩ * mP r = d * (mP r * extract r ⟨ml, w, 0⟩) := by rw [Nat.mul_assoc, Nat.mul_comm (extract r ⟨ml, w, 0⟩)]
    omega
  have h2 : (n * ml - d * mX r) * mP r ≤ (d * mS r) * w := by
    rw [Nat.sub_mul]
    have e3 : d * (w * mS r + mP r * mX r) = d * mS r * w + d * mX r * mP r := by
      rw [Nat.mul_add, Nat.mul_comm w, Nat.mul_assoc, Nat.mul_comm (mP r), Nat.mul_assoc]
    omega
  exact Nat.div_le_of_le_mul h2
theorem hi_ok {r : Recipe} (hP : mP r ≠ 0) (hS : mS r ≠ 0) {ml n d : Nat} (hd : d ≠ 0) : enoughM r ml n d ((n * ml + d * mX r) * mP r / (d * mS r) + 1) := by
  have hD : 0 < d * mS r := Nat.mul_pos (Nat.pos_of_ne_zero hd) (Nat.pos_of_ne_zero hS)
  have hw := Nat.lt_mul_div_succ ((n * ml + d * mX r) * mP r) hD
  generalize (n * ml + d * mX r) * mP r / (d * mS r) + 1 = w at *
  have hb := (extract_bounds hP ml w 0).2
  have e2 := Nat.mul_le_mul_left d hb
  have e3 : d * (w * mS r) = d * mS r * w := by rw [Nat.mul_comm w, Nat.mul_assoc]
  have e4 : d * (mP r * extract r ⟨ml, w, 0⟩ + mP r * mX r) = d * extract r ⟨ml, w, 0⟩ * mP r + d * mX r * mP r := by
    rw [Nat.mul_add, Nat.mul_comm (mP r), Nat.mul_comm (mP r), Nat.mul_assoc, Nat.mul_assoc]
  rw [Nat.add_mul] at hw
  have h5 : n * ml * mP r < d * extract r ⟨ml, w, 0⟩ * mP r := by omega
  exact Nat.le_of_lt (Nat.lt_of_mul_lt_mul_right h5)
theorem least_some {r : Recipe} (hP : mP r ≠ 0) (hS : mS r ≠ 0) {ml n d w : Nat} (hd : d ≠ 0) : leastMalt r ml n d = some w ↔ w ≤ MOST ∧ enoughM r ml n d w ∧ ∀ v, v < w → ¬ enoughM r ml n d v := by
  have hlo := fun v => lo_le (w := v) hP hS (ml := ml) (n := n) hd
  have hhi := hi_ok hP hS (ml := ml) (n := n) hd
  have e : leastMalt r ml n d = enoughFrom r ml n d ((n * ml + d * mX r) * mP r / (d * mS r) + 1 + 1 - (n * ml - d * mX r) * mP r / (d * mS r)) ((n * ml - d * mX r) * mP r / (d * mS r)) := rfl
  rw [e]
  generalize (n * ml - d * mX r) * mP r / (d * mS r) = lo at *
  generalize (n * ml + d * mX r) * mP r / (d * mS r) + 1 = hi at *
  have hlh := hlo hi hhi
  constructor
  · intro h
    obtain ⟨h1, h2, h3, h4⟩ := from_some r ml n d _ _ _ h
    refine ⟨h2, h3, fun v hv hc => h4 v (hlo v hc) hv hc⟩
  · rintro ⟨h1, h2, h3⟩
    have hwh : w ≤ hi := Nat.le_of_not_lt fun z => h3 hi z hhi
    cases hf : enoughFrom r ml n d (hi + 1 - lo) lo with
    | none => exact absurd h2 (from_none r ml n d _ _ hf w (hlo w h2) (by omega) h1)
    | some v =>
      obtain ⟨g1, g2, g3, g4⟩ := from_some r ml n d _ _ _ hf
      have : v = w := by
        rcases Nat.lt_trichotomy v w with z | z | z
        · exact absurd g3 (h3 v z)
        · exact z
        · exact absurd h2 (g4 w (hlo w h2) z)
      rw [this]
theorem least_none {r : Recipe} (hP : mP r ≠ 0) (hS : mS r ≠ 0) {ml n d : Nat} (hd : d ≠ 0) : leastMalt r ml n d = none ↔ ∀ w, w ≤ MOST → ¬ enoughM r ml n d w := by
  constructor
  · intro h
    have hlo := fun v => lo_le (w := v) hP hS (ml := ml) (n := n) hd
    have hhi := hi_ok hP hS (ml := ml) (n := n) hd
    have e : leastMalt r ml n d = enoughFrom r ml n d ((n * ml + d * mX r) * mP r / (d * mS r) + 1 + 1 - (n * ml - d * mX r) * mP r / (d * mS r)) ((n * ml - d * mX r) * mP r / (d * mS r)) := rfl
    rw [e] at h
    generalize (n * ml - d * mX r) * mP r / (d * mS r) = lo at *
    generalize (n * ml + d * mX r) * mP r / (d * mS r) + 1 = hi at *
    have hlh := hlo hi hhi
    intro w hw hc
    by_cases c : w ≤ hi
    · exact from_none r ml n d _ _ h w (hlo w hc) (by omega) hw hc
    · exact from_none r ml n d _ _ h hi (hlo hi hhi) (by omega) (by omega) hhi
  · intro h
    cases e : leastMalt r ml n d with
    | none => rfl
    | some w =>
      have := (least_some hP hS hd).mp e
      exact absurd this.2.1 (h w this.1)
theorem read_PS {t : Bytes} {r : Recipe} (h : readRecipe t = .ok r) : mP r ≠ 0 ∧ mS r ≠ 0 := by
  have hne := read_malts h
  have hc := (read_ch h).1
  obtain ⟨m, l, e⟩ := List.exists_cons_of_ne_nil hne
  have hb := malt_bounds hc (m := m) (by rw [e]; exact List.mem_cons_self ..)
  unfold mP mS
  rw [e, List.map_cons, List.map_cons, List.sum_cons, List.sum_cons]
  have : 1 ≤ m.2.1 * m.2.2 := Nat.mul_pos hb.2.1.1 hb.2.2.1
  omega
end My

namespace My
open Br
/-! ### Who gets one more -/
def fr (ps : List Nat) (w i : Nat) : Nat := w * ps.getD i 0 % ps.sum
/-- j goes before i -/
def Bf (ps : List Nat) (w j i : Nat) : Prop := fr ps w i < fr ps w j ∨ (fr ps w i = fr ps w j ∧ j < i)
instance (ps : List Nat) (w j i : Nat) : Decidable (Bf ps w j i) := by unfold Bf; infer_instance
theorem goes_eq (ps : List Nat) (w i : Nat) : goesBefore ps w i = (List.range ps.length).countP fun j => decide (Bf ps w j i) := by
  unfold goesBefore
  rw [← List.countP_eq_length_filter]
  congr 1
  funext j
  show (decide (fr ps w i < fr ps w j) || (fr ps w i == fr ps w j && decide (j < i))) = decide (Bf ps w j i)
  rw [Bool.eq_iff_iff, decide_eq_true_iff, Bool.or_eq_true, Bool.and_eq_true, decide_eq_true_iff, decide_eq_true_iff, beq_iff_eq]
  exact Iff.rfl
theorem count_lt {p q : Nat → Bool} : ∀ {l : List Nat}, (∀ x ∈ l, p x = true → q x = true) → (∃ x ∈ l, q x = true ∧ p x = false) → l.countP p < l.countP q
  | [], _, h => by obtain ⟨x, hx, _⟩ := h; cases hx
  | a :: l, h, hx => by
    have hm : l.countP p ≤ l.countP q := List.countP_mono_left fun x hx hp => h x (List.mem_cons_of_mem _ hx) hp
    rw [List.countP_cons, List.countP_cons]
    obtain ⟨x, hx, h1, h2⟩ := hx
    rcases List.mem_cons.mp hx with e | e
    · subst e
      rw [h1, h2]
      simp
      omega
    · have ih := count_lt (p := p) (q := q) (l := l) (fun y hy => h y (List.mem_cons_of_mem _ hy)) ⟨x, e, h1, h2⟩
      have h0 := h a (List.mem_cons_self ..)
      cases hp : p a with
      | false => simp; split <;> omega
      | true => rw [h0 hp]; simp; omega
theorem Bf.trans {ps : List Nat} {w a b c : Nat} (h1 : Bf ps w a b) (h2 : Bf ps w b c) : Bf ps w a c := by
  unfold Bf at *
  omega
theorem Bf.irrefl {ps : List Nat} {w a : Nat} : ¬ Bf ps w a a := by
  unfold Bf
  omega
theorem Bf.total {ps : List Nat} {w a b : Nat} (h : a ≠ b) : Bf ps w a b ∨ Bf ps w b a := by
  unfold Bf
  omega
theorem goes_lt {ps : List Nat} {w j i : Nat} (hj : j < ps.length) (h : Bf ps w j i) : goesBefore ps w j < goesBefore ps w i := by
  rw [goes_eq, goes_eq]
  refine count_lt (fun x _ hx => ?_) ⟨j, List.mem_range.mpr hj, ?_, ?_⟩
  · exact decide_eq_true ((of_decide_eq_true hx).trans h)
  · exact decide_eq_true h
  · exact decide_eq_false Bf.irrefl
theorem goes_iff {ps : List Nat} {w j i : Nat} (hj : j < ps.length) (hi : i < ps.length) : goesBefore ps w j < goesBefore ps w i ↔ Bf ps w j i := by
  constructor
  · intro h
    by_cases e : j = i
    · rw [e] at h; omega
    · rcases Bf.total (ps := ps) (w := w) e with q | q
      · exact q
      · have := goes_lt hi q
        omega
  · exact goes_lt hj
theorem goes_inj {ps : List Nat} {w j i : Nat} (hj : j < ps.length) (hi : i < ps.length) (h : goesBefore ps w j = goesBefore ps w i) : j = i := by
  by_cases e : j = i
  · exact e
  · rcases Bf.total (ps := ps) (w := w) e with q | q
    · have := goes_lt hj q; omega
    · have := goes_lt hi q; omega
theorem goes_bound {ps : List Nat} {w i : Nat} (hi : i < ps.length) : goesBefore ps w i < ps.length := by
  rw [goes_eq]
  have h : (List.range ps.length).countP (fun j => decide (Bf ps w j i)) < (List.range ps.length).countP (fun _ => true) :=
    count_lt (fun _ _ _ => rfl) ⟨i, List.mem_range.mpr hi, rfl, decide_eq_false Bf.irrefl⟩
  rw [List.countP_true, List.length_range] at h
  exact h
/-! ### How many grams are left over -/
theorem div_mod_sum (w P : Nat) : ∀ ps : List Nat, P * (ps.map fun p => w * p / P).sum + (ps.map fun p => w * p % P).sum = w * ps.sum
  | [] => rfl
  | p :: ps => by
    have ih := div_mod_sum w P ps
    have h := Nat.div_add_mod (w * p) P
    simp only [List.map_cons, List.sum_cons, Nat.mul_add]
    omega
theorem mod_sum_lt {w P : Nat} (hP : P ≠ 0) : ∀ ps : List Nat, ps ≠ [] → (ps.map fun p => w * p % P).sum < P * ps.length
  | [], h => absurd rfl h
  | p :: ps, _ => by
    have h := Nat.mod_lt (w * p) (Nat.pos_of_ne_zero hP)
    rw [List.map_cons, List.sum_cons, List.length_cons, Nat.mul_add, Nat.mul_one]
    cases ps with
    | nil => simp; exact h
    | cons q r =>
      have ih := mod_sum_lt hP (w := w) (q :: r) (by simp)
      omega
theorem floors_le {ps : List Nat} (h : ps.sum ≠ 0) (w : Nat) : (ps.map fun p => w * p / ps.sum).sum ≤ w := by
  have e := div_mod_sum w ps.sum ps
  have e2 : ps.sum * (ps.map fun p => w * p / ps.sum).sum ≤ ps.sum * w := by
    rw [Nat.mul_comm ps.sum w]
    omega
  exact Nat.le_of_mul_le_mul_left e2 (Nat.pos_of_ne_zero h)
theorem over_mul {ps : List Nat} (h : ps.sum ≠ 0) (w : Nat) : ps.sum * over ps w = (ps.map fun p => w * p % ps.sum).sum := by
  have e := div_mod_sum w ps.sum ps
  have hf := floors_le h w
  unfold over
  rw [Nat.mul_sub, Nat.mul_comm ps.sum w]
  omega
theorem over_lt {ps : List Nat} (h : ps.sum ≠ 0) (w : Nat) : over ps w < ps.length := by
  have ne : ps ≠ [] := fun z => h (by rw [z]; rfl)
  have e := over_mul h w
  have l := mod_sum_lt h (w := w) ps ne
  rw [← e] at l
  exact Nat.lt_of_mul_lt_mul_left l
/-- whoever gets one more has a fraction above 0 -/
theorem sum_take_zero : ∀ {l : List Nat}, (∀ x ∈ l, x = 0) → l.sum = 0
  | [], _ => rfl
  | a :: l, h => by
    rw [List.sum_cons, h a (List.mem_cons_self ..), sum_take_zero fun x hx => h x (List.mem_cons_of_mem _ hx)]
end My

namespace My
open Br
open WqatdlNeutral (bytes)
/-! ### The answers of the later calls: a refusal of the text first, then what the recipe gives -/
def onText (t : Bytes) (f : Recipe → List Int) : List Int := if refusal t ≠ [] then refusal t else match readRecipe t with
  | .ok r => f r
  | .error _ => []
def flat (a : Wqatdl.Ans) : List Int := a.ret :: a.nums.map WqatdlNeutral.int
theorem flat_ofRecipe (t : Bytes) (f : Recipe → Wqatdl.Ans) : flat (Wqatdl.ofRecipe t f) = onText t fun r => flat (f r) := by
  rw [ofRecipe_is]
  unfold onText refusal
  by_cases h : 16384 < t.length
  · simp only [if_pos h]; rfl
  · simp only [if_neg h]
    cases readRecipe t with
    | ok r => rfl
    | error e => rfl
def lineM (i : Nat) (r : Recipe) : List Int := match (Wqatdl.things r)[i]? with
  | some x => 0 :: (((x.1 : Nat) : Int) :: (x.2.2.map fun (n : Nat) => (n : Int)) ++ ((x.2.1.length : Int) :: x.2.1.map fun c => ((c.toNat : Nat) : Int)))
  | none => [-4]
theorem line_is (i : Int) (ns : List Int) : PyWqatdl.line i ns = onText (bytes ns) (lineM i.toNat) := by
  show flat (Wqatdl.ofRecipe (bytes ns) fun r => match (Wqatdl.things r)[i.toNat]? with
    | some x => Wqatdl.tell 0 (x.1 :: (x.2.2 ++ (x.2.1.length :: x.2.1.map fun (c : UInt8) => c.toNat)))
    | none => Wqatdl.NO) = _
  rw [flat_ofRecipe]
  congr 1
  funext r
  unfold lineM
  cases (Wqatdl.things r)[i.toNat]? with
  | none => rfl
  | some x =>
    show (0 : Int) :: ((x.1 :: (x.2.2 ++ (x.2.1.length :: x.2.1.map fun (c : UInt8) => c.toNat))).map WqatdlNeutral.int) = _
    rw [List.map_cons, List.map_append, List.map_cons, List.map_map]
    rfl
def batch (ml malt hops : Int) : Batch := ⟨ml.toNat, malt.toNat, hops.toNat⟩
def scaleM (b : Batch) (r : Recipe) : List Int := if batchOk r b = false then [-1] else 0 :: (Wqatdl.grams r b).map fun (n : Nat) => (n : Int)
theorem scale_is (ml malt hops : Int) (ns : List Int) : PyWqatdl.scale ml malt hops ns = onText (bytes ns) (scaleM (batch ml malt hops)) := by
  show flat (Wqatdl.ofRecipe (bytes ns) fun r => if batchOk r (batch ml malt hops) = false then Wqatdl.BAD else Wqatdl.tell 0 (Wqatdl.grams r (batch ml malt hops))) = _
  rw [flat_ofRecipe]
  congr 1
  funext r
  unfold scaleM
  by_cases h : batchOk r (batch ml malt hops) = false
  · rw [if_pos h, if_pos h]; rfl
  · rw [if_neg h, if_neg h]; rfl
def tellsM (b : Batch) (r : Recipe) : List Int := if batchOk r b = false then [-1] else 0 :: (Wqatdl.fracs [gravity r b, bitter r b, strength r b]).map fun (n : Nat) => (n : Int)
theorem tells_is (ml malt hops : Int) (ns : List Int) : PyWqatdl.tells ml malt hops ns = onText (bytes ns) (tellsM (batch ml malt hops)) := by
  show flat (Wqatdl.ofRecipe (bytes ns) fun r => if batchOk r (batch ml malt hops) = false then Wqatdl.BAD else Wqatdl.tell 0 (Wqatdl.fracs [gravity r (batch ml malt hops), bitter r (batch ml malt hops), strength r (batch ml malt hops)])) = _
  rw [flat_ofRecipe]
  congr 1
  funext r
  unfold tellsM
  by_cases h : batchOk r (batch ml malt hops) = false
  · rw [if_pos h, if_pos h]; rfl
  · rw [if_neg h, if_neg h]; rfl
def maltM (ml n d : Nat) (r : Recipe) : List Int := if within 1 MOST ml = false ∨ d = 0 then [-1] else match leastMalt r ml n d with
  | some w => [0, (w : Int)]
  | none => [-3]
theorem malt_is (ml n d : Int) (ns : List Int) : PyWqatdl.malt ml n d ns = onText (bytes ns) (maltM ml.toNat n.toNat d.toNat) := by
  show flat (Wqatdl.ofRecipe (bytes ns) fun r => if within 1 MOST ml.toNat = false ∨ d.toNat = 0 then Wqatdl.BAD else match leastMalt r ml.toNat n.toNat d.toNat with
    | some w => Wqatdl.tell 0 [w]
    | none => Wqatdl.NONE) = _
  rw [flat_ofRecipe]
  congr 1
  funext r
  unfold maltM
  by_cases h : within 1 MOST ml.toNat = false ∨ d.toNat = 0
  · rw [if_pos h, if_pos h]; rfl
  · rw [if_neg h, if_neg h]
    cases leastMalt r ml.toNat n.toNat d.toNat with
    | none => rfl
    | some w => rfl
theorem like_is (ns ms : List Int) : PyWqatdl.like ns ms = if 16384 < (bytes ns).length ∨ 16384 < (bytes ms).length then [-2] else match readRecipe (bytes ns), readRecipe (bytes ms) with
    | .error e, _ => [-6, (e.1 : Int), (e.2 : Int)]
    | .ok _, .error e => [-6, (e.1 : Int), ((e.2 + 16 : Nat) : Int)]
    | .ok r, .ok q => [if Br.like r q = true then 1 else 0] := by
  show flat (if 16384 < (bytes ns).length ∨ 16384 < (bytes ms).length then Wqatdl.MUCH else match readRecipe (bytes ns), readRecipe (bytes ms) with
    | .error e, _ => Wqatdl.faultAt e
    | .ok _, .error e => Wqatdl.faultAt (e.1, e.2 + 16)
    | .ok r, .ok q => Wqatdl.says (if Br.like r q = true then 1 else 0)) = _
  by_cases h : 16384 < (bytes ns).length ∨ 16384 < (bytes ms).length
  · rw [if_pos h, if_pos h]; rfl
  · rw [if_neg h, if_neg h]
    cases readRecipe (bytes ns) with
    | error e => rfl
    | ok r =>
      cases readRecipe (bytes ms) with
      | error e => rfl
      | ok q => rfl
end My

namespace My
open Br
/-! ### line: malts, hops, adds in a row -/
def told (r : Recipe) : List Line := ofRank 1 r ++ (ofRank 2 r ++ ofRank 3 r)
def tellM (x : Line) : List Nat := (x.rank - 1) :: (lnums x ++ (List.replicate (3 - (lnums x).length) 0 ++ ((lname x).length :: codes (lname x))))
theorem things_is (r : Recipe) : Wqatdl.things r = (told r).map fun x => (x.rank - 1, lname x, lnums x ++ List.replicate (3 - (lnums x).length) 0) := by
  unfold told Wqatdl.things
  rw [rank1, rank2, rank3, List.map_append, List.map_append, List.map_map, List.map_map, List.map_map]
  rfl
theorem line_told (i : Nat) (r : Recipe) : lineM i r = match (told r)[i]? with
    | some x => 0 :: (tellM x).map fun (n : Nat) => (n : Int)
    | none => [-4] := by
  unfold lineM
  rw [things_is, List.getElem?_map]
  cases (told r)[i]? with
  | none => rfl
  | some x =>
    show (0 : Int) :: ((((x.rank - 1 : Nat) : Int) :: ((lnums x ++ List.replicate (3 - (lnums x).length) 0).map fun (n : Nat) => (n : Int))) ++ (((lname x).length : Int) :: (lname x).map fun c => ((c.toNat : Nat) : Int))) = _
    unfold tellM codes
    simp only [List.map_append, List.map_cons, List.map_map, List.append_assoc, List.cons_append]
    rfl
theorem told_rank {r : Recipe} {x : Line} (h : x ∈ told r) : x.rank = 1 ∨ x.rank = 2 ∨ x.rank = 3 := by
  unfold told ofRank at h
  simp only [List.mem_append, List.mem_filter, beq_iff_eq] at h
  omega
theorem told_in {r : Recipe} {x : Line} (h : x ∈ told r) : x ∈ r := by
  unfold told ofRank at h
  simp only [List.mem_append, List.mem_filter] at h
  rcases h with h | h | h <;> exact h.1
theorem lnums_le (x : Line) : (lnums x).length ≤ 3 := by cases x <;> simp [lnums]
theorem told_name {r : Recipe} (hc : Ch r) {x : Line} (h : x ∈ told r) : (lname x).length ≤ 12 := by
  have ho := hc.all_ok x (told_in h)
  have hn : nameOk (lname x) = true ∨ lname x = [] := by
    cases x with
    | yeast u => exact .inr rfl
    | recipe n => exact .inl ho
    | malt n p y => exact .inl (Bool.and_eq_true_iff.mp ho).1
    | hop n p a t => exact .inl (Bool.and_eq_true_iff.mp ho).1
    | add n g => exact .inl (Bool.and_eq_true_iff.mp ho).1
  rcases hn with h | h
  · exact ((nameOk_iff _).mp h).1.2
  · rw [h]; exact Nat.zero_le _
theorem told_16 {r : Recipe} (hc : Ch r) : (ofRank 1 r).length ≤ 16 ∧ (ofRank 2 r).length ≤ 16 ∧ (ofRank 3 r).length ≤ 16 := by
  rw [← malts_len, ← hops_len, ← adds_len]
  exact ⟨hc.malts16, hc.hops16, hc.adds16⟩
end My

namespace My
open Br
/-! ### Who gets one more: the order by fractions, the greater first, like ones as they stand -/
def leF (ps : List Nat) (w x y : Nat) : Bool := decide (fr ps w y ≤ fr ps w x)
def ordF (ps : List Nat) (w : Nat) : List Nat := (List.range ps.length).mergeSort (leF ps w)
theorem ord_perm (ps : List Nat) (w : Nat) : (ordF ps w).Perm (List.range ps.length) := List.mergeSort_perm _ _
theorem ord_len (ps : List Nat) (w : Nat) : (ordF ps w).length = ps.length := by rw [(ord_perm ps w).length_eq, List.length_range]
theorem ord_nodup (ps : List Nat) (w : Nat) : (ordF ps w).Nodup := (ord_perm ps w).nodup_iff.mpr List.nodup_range
theorem ord_mem {ps : List Nat} {w i : Nat} : i ∈ ordF ps w ↔ i < ps.length := by rw [(ord_perm ps w).mem_iff, List.mem_range]
theorem leF_trans (ps : List Nat) (w : Nat) : ∀ a b c, leF ps w a b = true → leF ps w b c = true → leF ps w a c = true := by
  intro a b c h1 h2
  unfold leF at *
  rw [decide_eq_true_eq] at *
  omega
theorem leF_total (ps : List Nat) (w : Nat) : ∀ a b, (leF ps w a b || leF ps w b a) = true := by
  intro a b
  unfold leF
  rw [Bool.or_eq_true, decide_eq_true_eq, decide_eq_true_eq]
  omega
theorem sub_at {b a : Nat} : ∀ {l : List Nat}, [b, a].Sublist l → ∃ k m : Nat, k < m ∧ l[k]? = some b ∧ l[m]? = some a
  | [], h => by cases h
  | x :: l, h => by
    cases h with
    | cons _ h =>
      obtain ⟨k, m, h1, h2, h3⟩ := sub_at h
      exact ⟨k + 1, m + 1, by omega, h2, h3⟩
    | cons_cons _ h =>
      have hm : a ∈ l := List.singleton_sublist.mp h
      obtain ⟨m, hm⟩ := List.mem_iff_getElem?.mp hm
      exact ⟨0, m + 1, by omega, rfl, hm⟩
theorem lt_sub {b a : Nat} (h : b < a) : ∀ {n : Nat}, a < n → [b, a].Sublist (List.range n)
  | 0, h2 => by omega
  | n + 1, h2 => by
    rw [List.range_succ]
    by_cases e : a < n
    · exact (lt_sub h e).trans (List.sublist_append_left _ _)
    · have ea : a = n := by omega
      subst ea
      have h1 : [b].Sublist (List.range a) := List.singleton_sublist.mpr (List.mem_range.mpr h)
      exact h1.append (List.Sublist.refl [a])
theorem ord_pair (ps : List Nat) (w : Nat) : (ordF ps w).Pairwise (Bf ps w) := by
  have hs : (ordF ps w).Pairwise (fun a b => leF ps w a b = true) := List.pairwise_mergeSort (leF_trans ps w) (leF_total ps w) _
  have nd := ord_nodup ps w
  rw [List.pairwise_iff_getElem] at hs ⊢
  intro i j hi hj hij
  have h1 := hs i j hi hj hij
  unfold leF at h1
  rw [decide_eq_true_eq] at h1
  have ne : (ordF ps w)[i] ≠ (ordF ps w)[j] := fun z => by
    have := (List.getElem_inj nd).mp z
    omega
  by_cases c : fr ps w (ordF ps w)[j] < fr ps w (ordF ps w)[i]
  · exact .inl c
  · have e : fr ps w (ordF ps w)[j] = fr ps w (ordF ps w)[i] := by omega
    refine .inr ⟨e, ?_⟩
    rcases Nat.lt_or_ge (ordF ps w)[i] (ordF ps w)[j] with z | z
    · exact z
    · have hlt : (ordF ps w)[j] < (ordF ps w)[i] := by omega
      have hin : (ordF ps w)[i] < ps.length := ord_mem.mp (List.getElem_mem hi)
      have hsub : [(ordF ps w)[j], (ordF ps w)[i]].Sublist (ordF ps w) := List.pair_sublist_mergeSort (leF_trans ps w) (leF_total ps w) (by unfold leF; rw [decide_eq_true_eq]; omega) (lt_sub hlt hin)
      obtain ⟨k, m, h2, h3, h4⟩ := sub_at hsub
      obtain ⟨lk, ek⟩ := List.getElem?_eq_some_iff.mp h3
      obtain ⟨lm, em⟩ := List.getElem?_eq_some_iff.mp h4
      have := (List.getElem_inj nd).mp ek
      have := (List.getElem_inj nd).mp em
      omega
theorem count_at {R : Nat → Nat → Prop} [DecidableRel R] (as : ∀ x y, R x y → ¬ R y x) : ∀ (l : List Nat), l.Pairwise R → ∀ (j : Nat) (h : j < l.length), (l.countP fun x => decide (R x l[j])) = j
  | [], _, j, h => by simp at h
  | x :: l, hp, j, h => by
    obtain ⟨h1, h2⟩ := List.pairwise_cons.mp hp
    cases j with
    | zero =>
      show ((x :: l).countP fun y => decide (R y x)) = 0
      rw [List.countP_eq_zero]
      intro y hy
      rw [decide_eq_true_eq]
      rcases List.mem_cons.mp hy with e | e
      · rw [e]; exact fun z => as x x z z
      · exact as x y (h1 y e)
    | succ j =>
      have hj : j < l.length := by simpa using h
      show ((x :: l).countP fun y => decide (R y l[j])) = j + 1
      rw [List.countP_cons, count_at as l h2 j hj, if_pos (decide_eq_true (h1 _ (List.getElem_mem hj)))]
theorem goes_at {ps : List Nat} {w j : Nat} (h : j < (ordF ps w).length) : goesBefore ps w (ordF ps w)[j] = j := by
  rw [goes_eq, ← (ord_perm ps w).countP_eq]
  exact count_at (fun x y h1 h2 => Bf.irrefl (h1.trans h2)) _ (ord_pair ps w) j h
theorem mem_take {ps : List Nat} {w i m : Nat} (hi : i < ps.length) : i ∈ (ordF ps w).take m ↔ goesBefore ps w i < m := by
  obtain ⟨j, hj, ej⟩ := List.mem_iff_getElem.mp (ord_mem (w := w).mpr hi)
  have hg : goesBefore ps w i = j := by rw [← ej]; exact goes_at hj
  constructor
  · intro h
    obtain ⟨k, hk, ek⟩ := List.mem_iff_getElem.mp h
    have hk' : k < m ∧ k < (ordF ps w).length := by rw [List.length_take] at hk; omega
    rw [List.getElem_take] at ek
    have := (List.getElem_inj (ord_nodup ps w)).mp (ek.trans ej.symm)
    omega
  · intro h
    rw [hg] at h
    refine List.mem_iff_getElem.mpr ⟨j, by rw [List.length_take]; omega, ?_⟩
    rw [List.getElem_take]
    exact ej
/-- the grams when m of the order have got one more -/
def stg (ps : List Nat) (w m : Nat) : List Nat := (List.range ps.length).map fun i => w * ps.getD i 0 / ps.sum + if i ∈ (ordF ps w).take m then 1 else 0
theorem stg_len (ps : List Nat) (w m : Nat) : (stg ps w m).length = ps.length := by unfold stg; rw [List.length_map, List.length_range]
theorem stg_at {ps : List Nat} {w m i : Nat} (h : i < ps.length) : (stg ps w m)[i]? = some (w * ps.getD i 0 / ps.sum + if i ∈ (ordF ps w).take m then 1 else 0) := by
  unfold stg
  rw [List.getElem?_map, List.getElem?_range h]
  rfl
theorem stg_zero (ps : List Nat) (w : Nat) : stg ps w 0 = ps.map fun p => w * p / ps.sum := by
  apply List.ext_getElem?
  intro i
  by_cases h : i < ps.length
  · rw [stg_at h, List.getElem?_map, List.getElem?_eq_getElem h]
    have e : ps.getD i 0 = ps[i] := by rw [List.getD_eq_getElem?_getD, List.getElem?_eq_getElem h]; rfl
    rw [e]
    rfl
  · rw [List.getElem?_eq_none (by rw [stg_len]; omega), List.getElem?_eq_none (by rw [List.length_map]; omega)]
theorem stg_end {ps : List Nat} (h : ps.sum ≠ 0) (w : Nat) : stg ps w (over ps w) = scaled ps w := by
  rw [scaled_eq h]
  unfold stg
  refine List.map_congr_left fun i hi => ?_
  have hi' := List.mem_range.mp hi
  by_cases c : goesBefore ps w i < over ps w
  · rw [if_pos c, if_pos ((mem_take hi').mpr c)]
  · rw [if_neg c, if_neg (fun z => c ((mem_take hi').mp z))]
theorem stg_step {ps : List Nat} {w m i : Nat} (h : (ordF ps w)[m]? = some i) : (stg ps w m)[i]? = some (w * ps.getD i 0 / ps.sum) ∧ stg ps w (m + 1) = (stg ps w m).set i (w * ps.getD i 0 / ps.sum + 1) := by
  have hi : i < ps.length := ord_mem.mp (List.mem_of_getElem? h)
  obtain ⟨hm, em⟩ := List.getElem?_eq_some_iff.mp h
  have hg : goesBefore ps w i = m := by rw [← em]; exact goes_at hm
  have hn : i ∉ (ordF ps w).take m := fun z => by have := (mem_take hi).mp z; omega
  have hy : i ∈ (ordF ps w).take (m + 1) := (mem_take hi).mpr (by omega)
  refine ⟨by rw [stg_at hi, if_neg hn]; rfl, ?_⟩
  apply List.ext_getElem?
  intro k
  rw [List.getElem?_set]
  by_cases hk : k < ps.length
  · rw [stg_at hk, stg_at hk, stg_len]
    by_cases e : i = k
    · subst e
      rw [if_pos rfl, if_pos hi, if_pos hy]
    · rw [if_neg e]
      have h2 : k ∈ (ordF ps w).take (m + 1) ↔ k ∈ (ordF ps w).take m := by
        rw [List.take_add_one, h, List.mem_append]
        simp only [Option.toList, List.mem_singleton]
        exact ⟨fun z => z.elim id fun z => absurd z.symm e, .inl⟩
      by_cases c : k ∈ (ordF ps w).take m
      · rw [if_pos c, if_pos (h2.mpr c)]
      · rw [if_neg c, if_neg (fun z => c (h2.mp z))]
  · rw [List.getElem?_eq_none (by rw [stg_len]; omega), if_neg (by omega), List.getElem?_eq_none (by rw [stg_len]; omega)]
theorem scaled_nil (w : Nat) : scaled [] w = [] := rfl
theorem over_eq {ps : List Nat} (h : ps.sum ≠ 0) (w : Nat) : (w : Int) - (((ps.map fun p => w * p / ps.sum).sum : Nat) : Int) = ((over ps w : Nat) : Int) := by
  have := floors_le h w
  unfold over
  omega
theorem sum_pos {ps : List Nat} (h : ps ≠ []) (hp : ∀ p ∈ ps, 1 ≤ p) : ps.sum ≠ 0 := by
  cases ps with
  | nil => exact absurd rfl h
  | cons a l =>
    have := hp a (List.mem_cons_self ..)
    rw [List.sum_cons]
    omega
end My

namespace My
open Br
/-! ### Shares in lowest terms -/
theorem low_eq {p P q Q : Nat} (hP : 0 < P) (hQ : 0 < Q) : (p / Nat.gcd p P = q / Nat.gcd q Q ∧ P / Nat.gcd p P = Q / Nat.gcd q Q) ↔ p * Q = q * P := by
  have g1 : 0 < Nat.gcd p P := Nat.gcd_pos_of_pos_right _ hP
  have g2 : 0 < Nat.gcd q Q := Nat.gcd_pos_of_pos_right _ hQ
  have a1 : Nat.gcd p P * (p / Nat.gcd p P) = p := Nat.mul_div_cancel' (Nat.gcd_dvd_left p P)
  have a2 : Nat.gcd p P * (P / Nat.gcd p P) = P := Nat.mul_div_cancel' (Nat.gcd_dvd_right p P)
  have b1 : Nat.gcd q Q * (q / Nat.gcd q Q) = q := Nat.mul_div_cancel' (Nat.gcd_dvd_left q Q)
  have b2 : Nat.gcd q Q * (Q / Nat.gcd q Q) = Q := Nat.mul_div_cancel' (Nat.gcd_dvd_right q Q)
  have c1 : Nat.Coprime (p / Nat.gcd p P) (P / Nat.gcd p P) := Nat.coprime_div_gcd_div_gcd g1
  have c2 : Nat.Coprime (q / Nat.gcd q Q) (Q / Nat.gcd q Q) := Nat.coprime_div_gcd_div_gcd g2
  generalize Nat.gcd p P = g at *
  generalize Nat.gcd q Q = h at *
  generalize p / g = x at *
  generalize P / g = y at *
  generalize q / h = u at *
  generalize Q / h = v at *
  subst a1 a2 b1 b2
  have e : g * x * (h * v) = h * u * (g * y) ↔ x * v = u * y := by
    have e1 : g * x * (h * v) = (g * h) * (x * v) := by
      rw [Nat.mul_assoc, Nat.mul_left_comm x h v, ← Nat.mul_assoc]
    have e2 : h * u * (g * y) = (g * h) * (u * y) := by
      rw [Nat.mul_assoc, Nat.mul_left_comm u g y, ← Nat.mul_assoc, Nat.mul_comm h g]
    rw [e1, e2]
    exact ⟨fun z => Nat.eq_of_mul_eq_mul_left (Nat.mul_pos g1 g2) z, fun z => by rw [z]⟩
  rw [e]
  constructor
  · rintro ⟨rfl, rfl⟩
    rfl
  · intro z
    have hv : 0 < v := Nat.pos_of_mul_pos_left hQ
    have hy : 0 < y := Nat.pos_of_mul_pos_left hP
    have d1 : y ∣ v := by
      have : y ∣ x * v := by rw [z]; exact Nat.dvd_mul_left y u
      exact (Nat.Coprime.dvd_of_dvd_mul_left c1.symm this)
    have d2 : v ∣ y := by
      have : v ∣ u * y := by rw [← z]; exact Nat.dvd_mul_left v x
      exact (Nat.Coprime.dvd_of_dvd_mul_left c2.symm this)
    have ey : y = v := Nat.dvd_antisymm d1 d2
    subst ey
    exact ⟨Nat.eq_of_mul_eq_mul_right hy z, rfl⟩
/-! ### Lists of things told once -/
theorem perm_of {α : Type} : ∀ {l m : List α}, l.Nodup → (∀ x ∈ l, x ∈ m) → m.length ≤ l.length → l.Perm m
  | [], m, _, _, h => by
    have : m = [] := List.eq_nil_of_length_eq_zero (by simpa using h)
    rw [this]
  | x :: l, m, hn, hs, h => by
    obtain ⟨m1, m2, rfl⟩ := List.append_of_mem (hs x (List.mem_cons_self ..))
    rw [List.nodup_cons] at hn
    have hp : (m1 ++ x :: m2).Perm (x :: (m1 ++ m2)) := List.perm_middle
    refine (List.Perm.cons x (perm_of hn.2 (fun y hy => ?_) ?_)).trans hp.symm
    · have := hp.mem_iff.mp (hs y (List.mem_cons_of_mem _ hy))
      rcases List.mem_cons.mp this with e | e
      · exact absurd (e ▸ hy) hn.1
      · exact e
    · have := hp.length_eq
      rw [List.length_cons] at this h
      omega
/-- the same just if as many, and each is there -/
theorem perm_iff {α : Type} {l m : List α} (hn : l.Nodup) : l.Perm m ↔ l.length = m.length ∧ ∀ x ∈ l, x ∈ m :=
  ⟨fun h => ⟨h.length_eq, fun x hx => h.mem_iff.mp hx⟩, fun h => perm_of hn h.2 (Nat.le_of_eq h.1.symm)⟩
abbrev Thing := Bytes × Nat × Nat × Nat
/-- what tells a thing: its name, its numbers, its share -/
def keyT (P : Nat) (x : Thing) : Bytes × Nat × Nat × Nat × Nat := (x.1, x.2.1, x.2.2.1, x.2.2.2 / Nat.gcd x.2.2.2 P, P / Nat.gcd x.2.2.2 P)
def sumT (a : List Thing) : Nat := (a.map fun x => x.2.2.2).sum
theorem alike_iff {a b : List Thing} (ha : ∀ x ∈ a, 1 ≤ x.2.2.2) (hb : ∀ x ∈ b, 1 ≤ x.2.2.2) (hn : (a.map fun x => (x.1, x.2.2.1)).Nodup) :
    alike a b = true ↔ (a.map (keyT (sumT a))).Perm (b.map (keyT (sumT b))) := by
  have hnd : (a.map (keyT (sumT a))).Nodup := by
    have e : (a.map fun x => (x.1, x.2.2.1)) = (a.map (keyT (sumT a))).map fun k => (k.1, k.2.2.1) := by
      rw [List.map_map]
      rfl
    rw [e] at hn
    exact List.Pairwise.of_map _ (fun x y h z => h (by rw [z])) hn
  rw [perm_iff hnd, List.length_map, List.length_map]
  have e : alike a b = (a.length == b.length && a.all fun x => b.any fun y => x.1 == y.1 && (x.2.1 == y.2.1 && (x.2.2.1 == y.2.2.1 && x.2.2.2 * sumT b == y.2.2.2 * sumT a))) := rfl
  rw [e, Bool.and_eq_true, beq_iff_eq, List.all_eq_true]
  refine and_congr_right fun hl => ?_
  have step : ∀ x ∈ a, ((b.any fun y => x.1 == y.1 && (x.2.1 == y.2.1 && (x.2.2.1 == y.2.2.1 && x.2.2.2 * sumT b == y.2.2.2 * sumT a))) = true ↔ keyT (sumT a) x ∈ b.map (keyT (sumT b))) := fun x hx => by
    have ne : a ≠ [] := fun z => by rw [z] at hx; cases hx
    have nb : b ≠ [] := fun z => by
      rw [z] at hl
      exact ne (List.eq_nil_of_length_eq_zero hl)
    have pa : 0 < sumT a := Nat.pos_of_ne_zero (sum_pos (fun z => ne (List.map_eq_nil_iff.mp z)) fun p hp => by
      obtain ⟨y, hy, rfl⟩ := List.mem_map.mp hp
      exact ha y hy)
    have pb : 0 < sumT b := Nat.pos_of_ne_zero (sum_pos (fun z => nb (List.map_eq_nil_iff.mp z)) fun p hp => by
      obtain ⟨y, hy, rfl⟩ := List.mem_map.mp hp
      exact hb y hy)
    rw [List.any_eq_true, List.mem_map]
    refine exists_congr fun y => and_congr_right fun hy => ?_
    rw [Bool.and_eq_true, Bool.and_eq_true, Bool.and_eq_true, beq_iff_eq, beq_iff_eq, beq_iff_eq, beq_iff_eq, ← low_eq pa pb]
    unfold keyT
    rw [Prod.mk.injEq, Prod.mk.injEq, Prod.mk.injEq, Prod.mk.injEq]
    constructor
    · rintro ⟨h1, h2, h3, h4, h5⟩
      exact ⟨h1.symm, h2.symm, h3.symm, h4.symm, h5.symm⟩
    · rintro ⟨h1, h2, h3, h4, h5⟩
      exact ⟨h1.symm, h2.symm, h3.symm, h4.symm, h5.symm⟩
  constructor
  · intro h k hk
    obtain ⟨x, hx, rfl⟩ := List.mem_map.mp hk
    exact (step x hx).mp (h x hx)
  · intro h x hx
    exact (step x hx).mpr (h _ (List.mem_map.mpr ⟨x, hx, rfl⟩))
def mThing (m : Name × Nat × Nat) : Thing := (m.1, m.2.2, 0, m.2.1)
def hThing (m : Name × Nat × Nat × Nat) : Thing := (m.1, m.2.2.1, m.2.2.2, m.2.1)
theorem like_iff {r q : Recipe} (hr : Ch r) (hq : Ch q) : Br.like r q = true ↔ yeastOf r = yeastOf q ∧
    (((malts r).map mThing).map (keyT (sumT ((malts r).map mThing)))).Perm (((malts q).map mThing).map (keyT (sumT ((malts q).map mThing)))) ∧
    (((hops r).map hThing).map (keyT (sumT ((hops r).map hThing)))).Perm (((hops q).map hThing).map (keyT (sumT ((hops q).map hThing)))) ∧ (adds r).Perm (adds q) := by
  have e : Br.like r q = (yeastOf r == yeastOf q && (alike ((malts r).map mThing) ((malts q).map mThing) && (alike ((hops r).map hThing) ((hops q).map hThing) && ((adds r).length == (adds q).length && (adds r).all fun m => (adds q).contains m)))) := rfl
  have pm : ∀ {r : Recipe}, Ch r → ∀ x ∈ (malts r).map mThing, 1 ≤ x.2.2.2 := fun h x hx => by
    obtain ⟨m, hm, rfl⟩ := List.mem_map.mp hx
    exact (malt_bounds h hm).2.1.1
  have ph : ∀ {r : Recipe}, Ch r → ∀ x ∈ (hops r).map hThing, 1 ≤ x.2.2.2 := fun h x hx => by
    obtain ⟨m, hm, rfl⟩ := List.mem_map.mp hx
    exact (hop_bounds h hm).2.1.1
  have nm : (((malts r).map mThing).map fun x => (x.1, x.2.2.1)).Nodup := by
    rw [List.map_map]
    have h := hr.maltsND
    have e2 : (malts r).map (·.1) = ((malts r).map ((fun x : Thing => (x.1, x.2.2.1)) ∘ mThing)).map Prod.fst := by
      rw [List.map_map]
      rfl
    rw [e2] at h
    exact List.Pairwise.of_map _ (fun x y h z => h (by rw [z])) h
  have nh : (((hops r).map hThing).map fun x => (x.1, x.2.2.1)).Nodup := by
    rw [List.map_map]
    exact hr.hopsND
  have na : (adds r).Nodup := List.Pairwise.of_map _ (fun x y h z => h (by rw [z])) hr.addsND
  rw [e, Bool.and_eq_true, Bool.and_eq_true, Bool.and_eq_true, Bool.and_eq_true, beq_iff_eq, beq_iff_eq, alike_iff (pm hr) (pm hq) nm, alike_iff (ph hr) (ph hq) nh, perm_iff na, List.all_eq_true]
  simp only [List.contains_iff_mem]
/-! ### The keys as the program writes them -/
def part0 (y : Line) : Nat := (lnums y).getD 0 0
def keyS (P : Nat) (y : Line) : List Nat × List Nat := (codes (lname y), (lnums y).drop 1 ++ [part0 y / Nat.gcd (part0 y) P, P / Nat.gcd (part0 y) P])
def keyA (y : Line) : List Nat × List Nat := (codes (lname y), lnums y)
def sumR (k : Nat) (r : Recipe) : Nat := ((ofRank k r).map part0).sum
def uncode (l : List Nat) : Bytes := l.map UInt8.ofNat
theorem uncode_codes : ∀ b : Bytes, uncode (codes b) = b
  | [] => rfl
  | x :: b => by
    have := uncode_codes b
    unfold uncode codes at this ⊢
    rw [List.map_cons, List.map_cons, this, UInt8.ofNat_toNat]
theorem perm_by {α β : Type} {f : α → β} {g : β → α} {l m : List α} (h1 : ∀ x ∈ l, g (f x) = x) (h2 : ∀ x ∈ m, g (f x) = x) : (l.map f).Perm (m.map f) ↔ l.Perm m := by
  constructor
  · intro h
    have := h.map g
    rw [List.map_map, List.map_map] at this
    have e1 : l.map (g ∘ f) = l := by
      conv => rhs; rw [← List.map_id l]
      exact List.map_congr_left h1
    have e2 : m.map (g ∘ f) = m := by
      conv => rhs; rw [← List.map_id m]
      exact List.map_congr_left h2
    rwa [e1, e2] at this
  · exact fun h => h.map f
def fM (k : Bytes × Nat × Nat × Nat × Nat) : List Nat × List Nat := (codes k.1, [k.2.1, k.2.2.2.1, k.2.2.2.2])
def gM (k : List Nat × List Nat) : Bytes × Nat × Nat × Nat × Nat := (uncode k.1, k.2.getD 0 0, 0, k.2.getD 1 0, k.2.getD 2 0)
def fH (k : Bytes × Nat × Nat × Nat × Nat) : List Nat × List Nat := (codes k.1, [k.2.1, k.2.2.1, k.2.2.2.1, k.2.2.2.2])
def gH (k : List Nat × List Nat) : Bytes × Nat × Nat × Nat × Nat := (uncode k.1, k.2.getD 0 0, k.2.getD 1 0, k.2.getD 2 0, k.2.getD 3 0)
def fA (k : Name × Nat) : List Nat × List Nat := (codes k.1, [k.2])
def gA (k : List Nat × List Nat) : Name × Nat := (uncode k.1, k.2.getD 0 0)
theorem sum1 (r : Recipe) : sumR 1 r = sumT ((malts r).map mThing) := by
  unfold sumR sumT
  rw [rank1, List.map_map, List.map_map]
  rfl
theorem sum2 (r : Recipe) : sumR 2 r = sumT ((hops r).map hThing) := by
  unfold sumR sumT
  rw [rank2, List.map_map, List.map_map]
  rfl
theorem keys1 (P : Nat) (r : Recipe) : (ofRank 1 r).map (keyS P) = (((malts r).map mThing).map (keyT P)).map fM := by
  rw [rank1, List.map_map, List.map_map, List.map_map]
  rfl
theorem keys2 (P : Nat) (r : Recipe) : (ofRank 2 r).map (keyS P) = (((hops r).map hThing).map (keyT P)).map fH := by
  rw [rank2, List.map_map, List.map_map, List.map_map]
  rfl
theorem keys3 (r : Recipe) : (ofRank 3 r).map keyA = (adds r).map fA := by
  rw [rank3, List.map_map]
  rfl
theorem like_keys {r q : Recipe} (hr : Ch r) (hq : Ch q) : Br.like r q = true ↔ yeastOf r = yeastOf q ∧ ((ofRank 1 r).map (keyS (sumR 1 r))).Perm ((ofRank 1 q).map (keyS (sumR 1 q))) ∧
    ((ofRank 2 r).map (keyS (sumR 2 r))).Perm ((ofRank 2 q).map (keyS (sumR 2 q))) ∧ ((ofRank 3 r).map keyA).Perm ((ofRank 3 q).map keyA) := by
  rw [like_iff hr hq, keys1, keys1, keys2, keys2, keys3, keys3, sum1, sum1, sum2, sum2]
  have hm : ∀ (P : Nat) (r : Recipe), ∀ x ∈ ((malts r).map mThing).map (keyT P), gM (fM x) = x := fun P r x hx => by
    obtain ⟨y, hy, rfl⟩ := List.mem_map.mp hx
    obtain ⟨m, _, rfl⟩ := List.mem_map.mp hy
    unfold gM fM keyT mThing
    rw [uncode_codes]
    rfl
  have hh : ∀ (P : Nat) (r : Recipe), ∀ x ∈ ((hops r).map hThing).map (keyT P), gH (fH x) = x := fun P r x hx => by
    unfold gH fH
    rw [uncode_codes]
    rfl
  have ha : ∀ (r : Recipe), ∀ x ∈ adds r, gA (fA x) = x := fun r x hx => by
    unfold gA fA
    rw [uncode_codes]
    rfl
  rw [perm_by (hm _ r) (hm _ q), perm_by (hh _ r) (hh _ q), perm_by (ha r) (ha q)]
end My

set_option maxRecDepth 100000
set_option maxHeartbeats 2000000
namespace My
open PySem PySem.Spec PyProof.Rows L2
/-! ### Texts -/
def S (l : List Nat) : Str := ⟨l.toArray⟩
theorem S_list (l : List Nat) : (S l).cps.toList = l := rfl
theorem S_len (l : List Nat) : (S l).length = l.length := rfl
theorem S_inj {a b : List Nat} (h : S a = S b) : a = b := by
  have e := congrArg (fun z : Str => z.cps.toList) h
  exact e
theorem S_of (z : Str) : S z.cps.toList = z := rfl
/-! ### The text by places -/
def top (i : Nat) : Stmt := PySem.Challenge.pw_brewrecipes_s06_like.main.body.getD i (.Pass ⟨0, 0, 0, 0⟩)
abbrev sRowI : Stmt := inClass (top 17) 0
abbrev sReaI : Stmt := inClass (top 18) 0
abbrev sSign : Stmt := top 19
abbrev sSpell : Stmt := top 20
abbrev sMade : Stmt := top 21
abbrev sName : Stmt := top 22
abbrev sNum : Stmt := top 23
abbrev sNums : Stmt := top 24
abbrev sRow : Stmt := top 25
abbrev sHopC : Stmt := top 26
abbrev sClash : Stmt := top 27
abbrev sWhy : Stmt := top 28
abbrev sWhyE : Stmt := top 29
abbrev sLines : Stmt := top 30
abbrev sText : Stmt := top 31
/-- a def of the top that keeps a promise -/
structure Df (P : Program) (w : World) (K : PySem.W.Frag) (mg : Str → Option Value) (base : Heap) (k : Nat) (x : Str) (ps : List Str) (sp : Sp) (f : Addr) (fd : FuncData) : Prop where
  g : mg x = some (.ref f)
  kp : PySem.W.keepIn K (.ref f) = true
  b : Binds K fd ps []
  ok : FnOk P w K mg base CX0 k f fd ps sp
/-- a constant of the top -/
def Cn (mg : Str → Option Value) (x : Str) (v : V) : Prop := ∃ u, mg x = some u ∧ RelV v u
section
variable {P : Program} {w : World} {K : PySem.W.Frag} {mg : Str → Option Value} {base : Heap}
theorem iteD {p A B : Prop} [Decidable p] (h : p → A) (h' : ¬ p → B) : if decide p = true then A else B := by
  by_cases e : p
  · rw [if_pos (decide_eq_true e)]
    exact h e
  · rw [if_neg (fun z => e (of_decide_eq_true z))]
    exact h' e
theorem via {B G : Prop} (f : B → G) (b : B) : G := f b
theorem dig_at {n : Nat} (c : 48 ≤ n ∧ n ≤ 57) : digN[n - 48]? = some (sg n) := by
  obtain ⟨k, rfl⟩ : ∃ k, n = 48 + k := ⟨n - 48, by omega⟩
  rw [sg_self (.inr c), Nat.add_sub_cancel_left]
  have hk : k < 10 := by omega
  have : ∀ k < 10, digN[k]? = some (48 + k) := by decide
  exact this k hk
theorem let_at {n : Nat} (c : 97 ≤ n ∧ n ≤ 122) : letN[n - 97]? = some (sg n) := by
  obtain ⟨k, rfl⟩ : ∃ k, n = 97 + k := ⟨n - 97, by omega⟩
  rw [sg_self (.inl c), Nat.add_sub_cancel_left]
  have hk : k < 26 := by omega
  have : ∀ k < 26, letN[k]? = some (97 + k) := by decide
  exact this k hk
theorem same_new {H : Hp} {p : Addr} {o : HO} (h : H p = none) : Same H (upd H p o) := fun b x e => (upd_ne (ne_of_none e h)).trans e
/-! ### sign_of -/
theorem scSign : FnScope ["byte"] ["byte"] (defScope sSign) := ⟨rfl, rfl, rfl, by decide +kernel, rfl, by decide +kernel, by decide +kernel⟩
def spSign : Sp := fun vs H Q _ => ∃ n : Nat, vs = [.int n] ∧ Q (.str (S [sg n])) H
theorem S_nl : Str.ofString "\n" = S [10] := by decide +kernel
theorem S_sp : Str.ofString " " = S [32] := by decide +kernel
theorem S_0 : Str.ofString "0" = S [48] := by decide +kernel
theorem S_9 : Str.ofString "9" = S [57] := by decide +kernel
theorem S_a : Str.ofString "a" = S [97] := by decide +kernel
theorem S_z : Str.ofString "z" = S [122] := by decide +kernel
theorem S_q : Str.ofString "?" = S [63] := by decide +kernel
theorem S_dig : Str.ofString "0123456789" = S digN := by decide +kernel
theorem S_let : Str.ofString "abcdefghijklmnopqrstuvwxyz" = S letN := by decide +kernel
theorem ok_sign {f : Addr} {fd : FuncData} (F : Fun K "sign_of" "sign_of" sSign f fd) (mo : mg "ord" = none) (cD : Cn mg "DIGITS" (.str (S digN))) (cL : Cn mg "LETTERS" (.str (S letN))) (cO : Cn mg "OTHER" (.str (S [63]))) :
    FnOk P w K mg base CX0 1 f fd ["byte"] spSign := by
  obtain ⟨uD, gD, rD⟩ := cD
  obtain ⟨uL, gL, rL⟩ := cL
  obtain ⟨uO, gO, rO⟩ := cO
  refine F.ok scSign (fun vs H Q E h => ?_) (fun cdv A outer s H vs Q E hr h => ?_)
  · obtain ⟨n, rfl, _⟩ := h
    rfl
  · obtain ⟨n, rfl, q⟩ := h
    refine ⟨_, pss_cons (ps_if (pt_cmpR op_eq (pv 0) (pe_callB call_ord (by rfl) mo (by decide +kernel) (pa_cons pe_str pa_nil)) (nomark _)) (pss_one (ps_ret pe_str)) pss_nil)
      (pss_cons (ps_if (pt_cmpR op_eq (pv 0) (pe_callB call_ord (by rfl) mo (by decide +kernel) (pa_cons pe_str pa_nil)) (nomark _)) (pss_one (ps_ret pe_str)) pss_nil)
      (pss_cons (ps_if (pt_chain op_le op_le (pe_callB call_ord (by rfl) mo (by decide +kernel) (pa_cons pe_str pa_nil)) (pv 0) (pe_callB call_ord (by rfl) mo (by decide +kernel) (pa_cons pe_str pa_nil)))
          (pss_one (ps_ret (pe_ix ix_str (pe_glob rfl gD rD) (pe_op op_sub (pv 0) (pe_callB call_ord (by rfl) mo (by decide +kernel) (pa_cons pe_str pa_nil))) (fun _ _ => rfl)))) pss_nil)
      (pss_cons (ps_if (pt_chain op_le op_le (pe_callB call_ord (by rfl) mo (by decide +kernel) (pa_cons pe_str pa_nil)) (pv 0) (pe_callB call_ord (by rfl) mo (by decide +kernel) (pa_cons pe_str pa_nil)))
          (pss_one (ps_ret (pe_ix ix_str (pe_glob rfl gL rL) (pe_op op_sub (pv 0) (pe_callB call_ord (by rfl) mo (by decide +kernel) (pa_cons pe_str pa_nil))) (fun _ _ => rfl)))) pss_nil)
      (pss_one (ps_ret (pe_glob rfl gO rO)))))), ?_⟩
    have o1 : (Str.ofString "\n").cps.getD 0 0 = 10 := by decide +kernel
    have o2 : (Str.ofString " ").cps.getD 0 0 = 32 := by decide +kernel
    have o3 : (Str.ofString "0").cps.getD 0 0 = 48 := by decide +kernel
    have o4 : (Str.ofString "9").cps.getD 0 0 = 57 := by decide +kernel
    have o5 : (Str.ofString "a").cps.getD 0 0 = 97 := by decide +kernel
    have o6 : (Str.ofString "z").cps.getD 0 0 = 122 := by decide +kernel
    refine ⟨_, rfl, _, rfl, rfl, rfl, _, rfl, iteD (fun e => ?_) (fun e => ?_)⟩
    · rw [o1] at e
      have e := V.int.inj e
      have en : n = 10 := by omega
      subst en
      show Q (.str (Str.ofString "\n")) H
      rw [S_nl]
      exact q
    have e1 : n ≠ 10 := fun z => e (by rw [o1, z])
    clear e
    refine ⟨_, rfl, _, rfl, rfl, rfl, _, rfl, iteD (fun e => ?_) (fun e => ?_)⟩
    · rw [o2] at e
      have e := V.int.inj e
      have en : n = 32 := by omega
      subst en
      show Q (.str (Str.ofString " ")) H
      rw [S_sp]
      exact q
    have e2 : n ≠ 32 := fun z => e (by rw [o2, z])
    clear e
    refine ⟨_, rfl, rfl, _, rfl, _, _, rfl, rfl, _, rfl, ?_⟩
    rw [o3]
    by_cases c : 48 ≤ n ∧ n ≤ 57
    · refine iteD (fun _ => ⟨_, rfl, rfl, _, _, rfl, rfl, _, rfl, iteD (fun _ => ?_) (fun z => absurd (show (n : Int) ≤ ((Str.ofString "9").cps.getD 0 0 : Nat) by rw [o4]; omega) z)⟩) (fun z => absurd (show ((48 : Nat) : Int) ≤ n by omega) z)
      refine ⟨_, rfl, _, rfl, rfl, _, _, rfl, rfl, _, _, sg n, rfl, rfl, (by decide), ?_, ?_⟩
      · show atI digN ((n : Int) - (((Str.ofString "0").cps.getD 0 0 : Nat) : Int)) = some (sg n)
        rw [o3]
        rw [show (n : Int) - ((48 : Nat) : Int) = ((n - 48 : Nat) : Int) by omega]
        exact atI_nat (dig_at c)
      · exact q
    refine via (fun hB => iteD (fun _ => ⟨_, rfl, rfl, _, _, rfl, rfl, _, rfl, iteD (fun z => absurd z (by rw [o4]; omega)) (fun _ => hB)⟩) (fun _ => ⟨_, rfl, iteF hB⟩)) ?_
    refine ⟨_, rfl, rfl, _, rfl, _, _, rfl, rfl, _, rfl, ?_⟩
    rw [o5]
    by_cases d : 97 ≤ n ∧ n ≤ 122
    · refine iteD (fun _ => ⟨_, rfl, rfl, _, _, rfl, rfl, _, rfl, iteD (fun _ => ?_) (fun z => absurd (show (n : Int) ≤ ((Str.ofString "z").cps.getD 0 0 : Nat) by rw [o6]; omega) z)⟩) (fun z => absurd (show ((97 : Nat) : Int) ≤ n by omega) z)
      refine ⟨_, rfl, _, rfl, rfl, _, _, rfl, rfl, _, _, sg n, rfl, rfl, (by decide), ?_, ?_⟩
      · show atI letN ((n : Int) - (((Str.ofString "a").cps.getD 0 0 : Nat) : Int)) = some (sg n)
        rw [o5]
        rw [show (n : Int) - ((97 : Nat) : Int) = ((n - 97 : Nat) : Int) by omega]
        exact atI_nat (let_at d)
      · exact q
    refine via (fun hB => iteD (fun _ => ⟨_, rfl, rfl, _, _, rfl, rfl, _, rfl, iteD (fun z => absurd z (by rw [o6]; omega)) (fun _ => hB)⟩) (fun _ => ⟨_, rfl, iteF hB⟩)) ?_
    have e63 : sg n = 63 := by
      unfold sg
      rw [if_neg e1, if_neg e2, if_neg c, if_neg d]
    rw [e63] at q
    exact q
end
end My

set_option maxRecDepth 100000
set_option maxHeartbeats 2000000
namespace My
open PySem PySem.Spec PyProof.Rows L2
section
variable {P : Program} {w : World} {K : PySem.W.Frag} {mg : Str → Option Value} {base : Heap}
/-! ### spell -/
theorem scSpell : FnScope ["text", "byte"] ["text"] (defScope sSpell) := ⟨rfl, rfl, rfl, by decide +kernel, rfl, by decide +kernel, by decide +kernel⟩
def byV (c : UInt8) : V := .int (c.toNat : Int)
def spSpell (K : PySem.W.Frag) : Sp := fun vs H Q _ => ∃ (a : Addr) (bs : Br.Bytes), vs = [.ref a] ∧ SqL K H a (bs.map byV) ∧ bs.length ≤ 16384 ∧ ∀ H', Same H H' → Q (.str (S (cd bs))) H'
theorem join_signs : ∀ l : List Nat, Str.join Str.empty (l.map fun c => S [c]) = S l
  | [] => rfl
  | [c] => rfl
  | c :: d :: r => by
    have ih := join_signs (d :: r)
    show S [c] ++ Str.empty ++ Str.join Str.empty ((d :: r).map fun c => S [c]) = _
    rw [ih]
    show Str.mk (#[c] ++ #[] ++ (d :: r).toArray) = Str.mk (c :: d :: r).toArray
    congr 1
    simp
theorem sum_ones : ∀ l : List Nat, ((l.map fun c => S [c]).map (·.length)).sum = l.length
  | [] => rfl
  | c :: r => by
    rw [List.map_cons, List.map_cons, List.sum_cons, sum_ones r, List.length_cons, S_len]
    show 1 + _ = _
    omega
theorem take_snoc {α : Type} {l : List α} {i : Nat} {x : α} (h : l[i]? = some x) : l.take (i + 1) = l.take i ++ [x] := by
  rw [List.take_add_one, h]
  rfl
theorem ok_spell {f fS : Addr} {fd fdS : FuncData} (F : Fun K "spell" "spell" sSpell f fd) (G : Df P w K mg base 1 "sign_of" ["byte"] spSign fS fdS) :
    FnOk P w K mg base CX0 2 f fd ["text"] (spSpell K) := by
  refine F.ok scSpell (fun vs H Q E h => ?_) (fun cdv A outer s H vs Q E hr h => ?_)
  · obtain ⟨a, bs, rfl, _⟩ := h
    rfl
  · obtain ⟨a, bs, rfl, hS, hl, q⟩ := h
    refine ⟨_, pss_one (ps_ret (pe_join pe_str (pe_lc (own := [("byte", 1)]) (g := gName 1) (tt := tYes) rfl scSpell.nd (pi_list (pv 0)) (blkOk_by (N := ["text", "byte"]) (sc := defScope sSpell) (by decide +kernel))
      (fun _ _ _ _ _ => pg_name (i := 1) scSpell.nd rfl (Or.inl rfl)) (fun _ _ _ _ _ => pts_nil) (fun _ _ _ _ _ => pe_call G.ok hr rfl G.g G.kp G.b .nil pass0 (pa_cons (pv 1) pa_nil))))), ?_⟩
    refine ⟨⟨_, rfl⟩, _, rfl, a, rfl, ⟨_, hS⟩, fun D hD => lc_list (K := K) (a := a) (xs := bs.map byV) (fun i H' => Same H H' ∧ H' D = some (.lst (((cd bs).take i).map fun c => .str (S [c])))) ?_ ?_ ?_ ?_⟩
    · exact ⟨same_new hD, upd_same⟩
    · exact fun i H' _ p => p.1.seq hS
    · intro i x H' hx p
      rw [List.getElem?_map] at hx
      cases e : bs[i]? with
      | none => rw [e] at hx; cases hx
      | some c =>
        rw [e] at hx
        have ex : x = byV c := (Option.some.inj hx).symm
        subst ex
        refine ⟨rfl, _, rfl, c.toNat, rfl, _, p.2, ?_, ?_, ?_⟩
        · rw [List.length_map, List.length_take]
          have : (cd bs).length = bs.length := List.length_map ..
          exact Nat.lt_of_le_of_lt (Nat.min_le_right _ _) (by rw [this]; exact Nat.lt_of_le_of_lt hl (by decide))
        · exact fun b o eb => (upd_ne (ne_of_none eb hD)).trans (p.1 b o eb)
        · have hc : (cd bs)[i]? = some (sg c.toNat) := by
            show (bs.map fun c => sg c.toNat)[i]? = _
            rw [List.getElem?_map, e]
            rfl
          rw [upd_same, take_snoc hc, List.map_append]
          rfl
    · intro H' p
      have el : (bs.map byV).length = (cd bs).length := by rw [List.length_map]; exact (List.length_map ..).symm
      rw [el, List.take_length] at p
      refine ⟨Str.ofString "", D, (cd bs).map fun c => S [c], rfl, rfl, .inl (SqL.of ?_), ?_, ?_⟩
      · rw [p.2, List.map_map]
        rfl
      · have e0 : (Str.ofString "").length = 0 := by decide +kernel
        rw [sum_ones, e0, Nat.mul_zero]
        have : (cd bs).length = bs.length := List.length_map ..
        omega
      · have e1 : Str.ofString "" = Str.empty := by decide +kernel
        rw [e1, TL.join_eq, join_signs]
        exact q _ p.1
/-! ### is_made_of -/
theorem scMade : FnScope ["word", "signs", "sign"] ["word", "signs"] (defScope sMade) := ⟨rfl, rfl, rfl, by decide +kernel, rfl, by decide +kernel, by decide +kernel⟩
def spMade : Sp := fun vs H Q _ => ∃ l m : List Nat, vs = [.str (S l), .str (S m)] ∧ Q (.bl (made l m)) H
theorem ok_made {f : Addr} {fd : FuncData} (F : Fun K "is_made_of" "is_made_of" sMade f fd) : FnOk P w K mg base CX0 1 f fd ["word", "signs"] spMade := by
  refine F.ok scMade (fun vs H Q E h => ?_) (fun cdv A outer s H vs Q E hr h => ?_)
  · obtain ⟨l, m, rfl, _⟩ := h
    rfl
  · obtain ⟨l, m, rfl, q⟩ := h
    refine ⟨_, pss_cons (ps_for PassesOwn.never rfl (pi_str (pv 0)) (pg_name (i := 2) scMade.nd rfl (Or.inl rfl))
        (pss_one (ps_if (pt_cmpR op_notIn_sign (pv 2) (pv 1) (by rfl)) (pss_one (ps_ret pe_bl)) pss_nil)))
      (pss_one (ps_ret pe_bl)), ?_⟩
    refine ⟨_, rfl, _, rfl, for_it walk_str (fun i σ H' => ∃ v, σ = [some (.str (S l)), some (.str (S m)), v] ∧ H' = H ∧ made (l.take i) m = true) ⟨none, rfl, rfl, rfl⟩ (fun _ _ _ _ _ => trivial) ?_ ?_⟩
    · rintro i x σ H1 H2 hi ⟨v, rfl, rfl, hm⟩ ⟨rfl, c, hc, rfl⟩
      have hc' : l[i]? = some c := by simpa [S] using hc
      refine ⟨_, rfl, _, rfl, c, S m, rfl, rfl, _, rfl, ?_⟩
      by_cases e : c ∈ m
      · have e' : (!decide (c ∈ (S m).cps.toList)) = false := by
          rw [S_list, decide_eq_true e]; rfl
        rw [e']
        refine iteF ⟨_, rfl, rfl, ?_⟩
        rw [take_snoc hc']
        unfold made at hm ⊢
        rw [List.all_append, hm]
        simp [e]
      · have e' : (!decide (c ∈ (S m).cps.toList)) = true := by
          rw [S_list, decide_eq_false e]; rfl
        rw [e']
        refine iteT ?_
        have eq : made l m = false := by
          unfold made
          rw [List.all_eq_false]
          exact ⟨c, List.mem_of_getElem? hc', by simp [e]⟩
        rw [eq] at q
        exact q
    · rintro σ H' ⟨v, rfl, rfl, hm⟩
      have e : l.take (S l).cps.size = l := by
        show l.take l.toArray.size = l
        simp
      rw [e] at hm
      rw [hm] at q
      exact q
/-! ### is_name -/
theorem scName : FnScope ["word"] ["word"] (defScope sName) := ⟨rfl, rfl, rfl, by decide +kernel, rfl, by decide +kernel, by decide +kernel⟩
def spName : Sp := fun vs H Q _ => ∃ l : List Nat, vs = [.str (S l)] ∧ l.length ≤ 16384 ∧ Q (.bl (isName l)) H
theorem ok_name {f fM : Addr} {fd fdM : FuncData} (F : Fun K "is_name" "is_name" sName f fd) (G : Df P w K mg base 1 "is_made_of" ["word", "signs"] spMade fM fdM) (ml : mg "len" = none)
    (cN : Cn mg "MOST_NAME_SIGNS" (.int 12)) (cD : Cn mg "DIGITS" (.str (S digN))) (cL : Cn mg "LETTERS" (.str (S letN))) : FnOk P w K mg base CX0 2 f fd ["word"] spName := by
  obtain ⟨uN, gN, rN⟩ := cN
  obtain ⟨uD, gD, rD⟩ := cD
  obtain ⟨uL, gL, rL⟩ := cL
  refine F.ok scName (fun vs H Q E h => ?_) (fun cdv A outer s H vs Q E hr h => ?_)
  · obtain ⟨l, rfl, _⟩ := h
    rfl
  · obtain ⟨l, rfl, hl, q⟩ := h
    refine ⟨_, pss_one (ps_ret (pe_and (pe_chain op_le op_le pe_int (pe_callB call_len_str (by rfl) ml PySem.boot_len (pa_cons (pv 0) pa_nil)) (pe_glob rfl gN rN))
      (pe_one (pe_call G.ok hr rfl G.g G.kp G.b .nil pass0 (pa_cons (pv 0) (pa_cons (pe_op op_add_str (pe_glob rfl gL rL) (pe_glob rfl gD rD)) pa_nil)))))), ?_⟩
    refine ⟨_, rfl, _, rfl, Nat.le_trans hl (by decide), _, _, rfl, rfl, _, rfl, ?_⟩
    have el : ((S l).length : Int) = (l.length : Int) := rfl
    have eA : S letN ++ S digN = S (letN ++ digN) := by decide +kernel
    by_cases c : 1 ≤ l.length ∧ l.length ≤ 12
    · refine iteD (fun _ => ⟨_, _, rfl, rfl, _, rfl, iteD (fun _ => ?_) (fun z => absurd (show ((S l).length : Int) ≤ 12 by rw [el]; omega) z)⟩) (fun z => absurd (show (1 : Int) ≤ ((S l).length : Int) by rw [el]; omega) z)
      refine ⟨_, rfl, _, _, rfl, rfl, (by decide), l, letN ++ digN, (by rw [eA]; rfl), ?_⟩
      have e : made l (letN ++ digN) = isName l := by
        unfold isName
        rw [decide_eq_true c.1, decide_eq_true c.2]
        rfl
      rw [e]
      exact q
    · have e : isName l = false := by
        unfold isName
        rcases Classical.not_and_iff_not_or_not.mp c with z | z
        · rw [decide_eq_false z]; rfl
        · rw [decide_eq_false z, Bool.and_false]; rfl
      rw [e] at q
      refine iteD (fun _ => ⟨_, _, rfl, rfl, _, rfl, iteD (fun z => absurd z (by rw [el]; omega)) (fun _ => q)⟩) (fun _ => ⟨_, rfl, iteF q⟩)
/-! ### is_number -/
theorem scNum : FnScope ["word"] ["word"] (defScope sNum) := ⟨rfl, rfl, rfl, by decide +kernel, rfl, by decide +kernel, by decide +kernel⟩
def spNum : Sp := fun vs H Q _ => ∃ l : List Nat, vs = [.str (S l)] ∧ l.length ≤ 16384 ∧ Q (.bl (isNum l)) H
theorem ok_num {f fM : Addr} {fd fdM : FuncData} (F : Fun K "is_number" "is_number" sNum f fd) (G : Df P w K mg base 1 "is_made_of" ["word", "signs"] spMade fM fdM) (ml : mg "len" = none)
    (cN : Cn mg "MOST_DIGITS" (.int 6)) (cD : Cn mg "DIGITS" (.str (S digN))) : FnOk P w K mg base CX0 2 f fd ["word"] spNum := by
  obtain ⟨uN, gN, rN⟩ := cN
  obtain ⟨uD, gD, rD⟩ := cD
  refine F.ok scNum (fun vs H Q E h => ?_) (fun cdv A outer s H vs Q E hr h => ?_)
  · obtain ⟨l, rfl, _⟩ := h
    rfl
  · obtain ⟨l, rfl, hl, q⟩ := h
    refine ⟨_, pss_cons (ps_if (PW.pt (pw_or (pt_not (pt_chain op_le op_le pe_int (pe_callB call_len_str (by rfl) ml PySem.boot_len (pa_cons (pv 0) pa_nil)) (pe_glob rfl gN rN)))
        (pw_or1 (pt_not (pt_val (pe_call G.ok hr rfl G.g G.kp G.b .nil pass0 (pa_cons (pv 0) (pa_cons (pe_glob rfl gD rD) pa_nil)))))))) (pss_one (ps_ret pe_bl)) pss_nil)
      (pss_one (ps_ret (pe_or (pe_cmpR op_eq (pv 0) pe_str (nomark _)) (pe_one (pe_cmpR op_ne (pe_ix ix_str (pv 0) pe_int (fun _ _ => rfl)) pe_str (nomark _)))))), ?_⟩
    refine ⟨_, rfl, _, rfl, Nat.le_trans hl (by decide), _, _, rfl, rfl, _, rfl, ?_⟩
    have el : ((S l).length : Int) = (l.length : Int) := rfl
    by_cases c : (1 ≤ l.length ∧ l.length ≤ 6) ∧ made l digN = true
    · refine iteD (fun _ => ⟨_, _, rfl, rfl, _, rfl, ?_⟩) (fun z => absurd (show (1 : Int) ≤ ((S l).length : Int) by rw [el]; omega) z)
      rw [show decide (((S l).length : Int) ≤ 6) = true from decide_eq_true (by rw [el]; omega)]
      refine ⟨_, rfl, l, digN, rfl, _, rfl, ?_⟩
      rw [c.2]
      have e0 : Str.ofString "0" = S [48] := by decide +kernel
      refine ⟨_, rfl, rfl, _, rfl, iteD (fun e => ?_) (fun e => ?_)⟩
      · have el : l = [48] := by
          rw [e0] at e
          exact S_inj (V.str.inj e)
        subst el
        exact q
      · have ne : l ≠ [48] := fun z => e (by rw [z, e0])
        obtain ⟨d, r, rfl⟩ : ∃ d r, l = d :: r := by
          cases l with
          | nil => exact absurd c.1.1 (by decide)
          | cons d r => exact ⟨d, r, rfl⟩
        refine ⟨_, rfl, _, _, d, rfl, rfl, Nat.le_trans hl (by decide), atI_nat (j := 0) rfl, rfl, ?_⟩
        have eq : isNum (d :: r) = !decide (V.str ⟨#[d]⟩ = V.str (Str.ofString "0")) := by
          unfold isNum
          rw [decide_eq_true c.1.1, decide_eq_true c.1.2, c.2]
          have n1 : ((d :: r) == [48]) = false := beq_eq_false_iff_ne.mpr ne
          rw [n1, e0]
          by_cases h : d = 48
          · subst h; rfl
          · have h' : ¬ V.str (⟨#[d]⟩ : Str) = V.str (S [48]) := fun z => h (by
              have := S_inj (a := [d]) (b := [48]) (V.str.inj z)
              simpa using this)
            rw [decide_eq_false h']
            show (false || !(d == 48)) = true
            rw [beq_eq_false_iff_ne.mpr h]
            rfl
        rw [eq] at q
        exact q
    · have e : isNum l = false := by
        unfold isNum
        rcases Classical.not_and_iff_not_or_not.mp c with z | z
        · rcases Classical.not_and_iff_not_or_not.mp z with y | y
          · rw [decide_eq_false y]; rfl
          · rw [decide_eq_false y, Bool.and_false]; rfl
        · rw [Bool.not_eq_true] at z
          rw [z, Bool.and_false]; rfl
      rw [e] at q
      refine iteD (fun _ => ⟨_, _, rfl, rfl, _, rfl, ?_⟩) (fun _ => ⟨_, rfl, q⟩)
      by_cases c6 : l.length ≤ 6
      · rw [show decide (((S l).length : Int) ≤ 6) = true from decide_eq_true (by rw [el]; omega)]
        refine ⟨_, rfl, l, digN, rfl, _, rfl, ?_⟩
        have em : made l digN = false := by
          cases hm : made l digN with
          | false => rfl
          | true => exact absurd ⟨⟨by omega, c6⟩, hm⟩ c
        rw [em]
        exact q
      · rw [show decide (((S l).length : Int) ≤ 6) = false from decide_eq_false (by rw [el]; omega)]
        exact q
end
end My

set_option maxRecDepth 100000
set_option maxHeartbeats 2000000
namespace My
open PySem PySem.Spec PyProof.Rows L2
/-! ### for k in D, D a dict of the top -/
def ItKD (ks : List V) : It := ⟨fun i _ => i < ks.length, fun i H x H' => H' = H ∧ ks[i]? = some x, fun i _ => ks.length ≤ i⟩
structure KKeys (K : PySem.W.Frag) (d : Addr) (es : Array DictEntry) (n : Nat) (ks : List V) : Prop where
  at_ : K.lookup d = some ⟨.type "dict", none, .dict es n, #[]⟩
  low : (d == sysModules) = false
  size : es.size = ks.length
  key : ∀ (i : Nat) (x : V), ks[i]? = some x → ∃ en, es[i]? = some en ∧ RelV x en.key
theorem turn_KD {P : Program} {w : World} {K : PySem.W.Frag} {tg : Expr} {d : Addr} {es : Array DictEntry} {n : Nat} {ks : List V} (it : Addr) (D : KKeys K d es n ks) : Turn P w K tg (ItKD ks) [it] it (fun i h => h.IsKeyIter it d i ks.length n) where
  mem := by simp
  obj := fun i h st b hb => by
    have e : b = it := by simpa using hb
    subst e
    obtain ⟨oi, e, c, dd⟩ := st
    exact ⟨oi, e, fun v z => by rw [dd] at z; cases z⟩
  keep := fun i h h' st k => st.at fun oi e => k it (by simp) oi e
  item := by
    intro X hP hw hK hc i pins s σ H E I hf st hg
    subst hP hw hK
    have hi : i < ks.length := hg
    obtain ⟨f0, f1, f2, f3, f4, f5⟩ := hf it (by simp)
    have hgd := I.kIn _ _ D.at_
    have hx : ks[i]? = some ks[i] := List.getElem?_eq_getElem hi
    obtain ⟨en, hen, hr⟩ := D.key i _ hx
    refine next_key_item st hgd rfl D.size hen fun h' st' sb => ?_
    have I1 : Inv X pins σ H { s with heap := h' } := I.turned (t' := s.toks) (fun b ob hb e => (sb.2 b hb).trans e) f0 f1 f3 f4 f5
    obtain ⟨oi, e, c, dd⟩ := id st'
    exact ⟨en.key, rfl, go_of (s := { s with heap := h' }) e c dd (by decide) ⟨ks[i], H, I1, hr, ⟨rfl, hx⟩, st', fun b hb => (hf b hb).1⟩⟩
  done := by
    intro X hP hw hK hc i pins s σ H E I hf st hg
    subst hP hw hK
    have hi : ks.length ≤ i := hg
    obtain ⟨f0, f1, f2, f3, f4, f5⟩ := hf it (by simp)
    have hgd := I.kIn _ _ D.at_
    exact next_key_end (I.ok.hd hc) st hgd rfl D.size hi fun h' eb => ⟨rfl, I.turned (t' := s.toks) (fun b ob hb e => eb b ob hb e) f0 f1 f3 f4 f5⟩
  self := fun A i s Q E st h => wpAny_pyIter_keyiter st h
def iKD (ks : List V) (d : Addr) (td : TE) : TI := fun σ H R => td σ H fun x H1 => x = .ref d ∧ R (ItKD ks) H1
theorem pi_KD {X : Cx} {tg e : Expr} {td : TE} {d : Addr} {es : Array DictEntry} {n : Nat} {ks : List V} (D : KKeys X.K d es n ks) (he : PE X e td) : PI X tg e (iKD ks d td) := by
  refine ⟨fun pins s σ H R I h => ?_⟩
  refine thn (he.run pins s σ H _ I h) fun u s1 ⟨x, H1, I1, rx, ex, q⟩ => ?_
  subst ex
  obtain rfl : u = Value.ref d := rx
  have hgd := I1.kIn _ _ D.at_
  refine iter_keys D.low hgd ⟨rfl, rfl, rfl⟩ rfl (pi_one (tk := s1.toks) I1 _ (turn_KD _ D) ⟨_, Heap.get?_push_size _ rfl, rfl, ?_⟩ q)
  rw [D.size] <;> rfl
theorem walk_KD {ks : List V} : Walk (ItKD ks) ks.length (fun _ => True) (YAt ks) where
  goes := fun i H hi _ => hi
  stops := fun H _ => Nat.le_refl _
  yields := fun i H x H' hi _ y => y
end My

set_option maxRecDepth 100000
set_option maxHeartbeats 2000000
namespace My
open PySem PySem.Spec PyProof.Rows L2
/-! ### zip(list, tuple): a walk of the layer over the library's zip of any two iterators -/
/-- turn i: the i-th of the list at a, the i-th of the tuple at b, in a pair that is new -/
def ItLT (K : PySem.W.Frag) (a b : Addr) : It where
  go i H := ∃ (us vs : List V), SqL K H a us ∧ SqT K H b vs ∧ i < us.length ∧ i < vs.length
  yld i H r H' := ∃ (T : Addr) (x y : V), r = .ref T ∧ H T = none ∧ H' = upd H T (.tup [x, y]) ∧ ∀ us vs, SqL K H a us → SqT K H b vs → us[i]? = some x ∧ vs[i]? = some y
  stop i H := ∃ (us vs : List V), SqL K H a us ∧ SqT K H b vs ∧ i ≤ us.length ∧ i ≤ vs.length ∧ (i = us.length ∨ i = vs.length)
/-- what the five cells of such a zip hold at turn i -/
structure LtAt (z TI TO p q a b : Addr) (i : Nat) (h : Heap) : Prop where
  zz : IsZip h z TI TO .none
  ti : IsTupOf2 h TI (.ref p) (.ref q)
  to_ : ∃ x y, IsTupOf2 h TO x y
  it1 : h.IsListIter p a i
  it2 : h.IsTupleIter q b i
theorem sepLT {n a b : Nat} (ha : a < n) (hb : b < n) : ZipSep2 (n + 4) (n + 2) (n + 3) n (n + 1) [n, a] [n + 1, b] := by
  have e : ∀ {x y : Nat}, x ≠ y → ¬ (x : Addr) = y := fun h => h
  refine ⟨e (by omega), e (by omega), e (by omega), e (by omega), by simp, ?_, ?_, e (by omega), by simp, ?_, ?_, ?_, ?_⟩
  all_goals
    simp only [List.mem_cons, List.not_mem_nil, or_false, not_or]
    exact ⟨e (by omega), e (by omega)⟩
theorem mem5 {c z TI TO p q : Addr} (h : c ∈ [z, TI, TO, p, q]) : c = z ∨ c = TI ∨ c = TO ∨ c = p ∨ c = q := by simpa using h
theorem out5 {c z TI TO p q : Addr} (h : c ∉ [z, TI, TO, p, q]) : c ≠ z ∧ c ≠ TO ∧ c ≠ p ∧ c ≠ q := by
  simp only [List.mem_cons, List.not_mem_nil, or_false, not_or] at h
  exact ⟨h.1, h.2.2.1, h.2.2.2.1, h.2.2.2.2⟩
theorem LtAt.lt {z TI TO p q a b : Addr} {i : Nat} {h : Heap} (L : LtAt z TI TO p q a b i h) {c : Addr} (hc : c ∈ [z, TI, TO, p, q]) : ∃ o, h.get? c = some o ∧ ∀ v, o.data ≠ .cell v := by
  obtain ⟨hz, hTI, ⟨x, y, hTO⟩, ⟨o1, g1, _, d1⟩, ⟨o2, g2, _, d2⟩⟩ := L
  rcases mem5 hc with e | e | e | e | e <;> rw [e]
  · exact ⟨_, hz, fun v => by intro t; cases t⟩
  · exact ⟨_, hTI, fun v => by intro t; cases t⟩
  · exact ⟨_, hTO, fun v => by intro t; cases t⟩
  · exact ⟨o1, g1, fun v t => by rw [d1] at t; cases t⟩
  · exact ⟨o2, g2, fun v t => by rw [d2] at t; cases t⟩
theorem turnLT {P : Program} {w : World} {K : PySem.W.Frag} {elts : List Expr} {kk : Nat} {tp : Pos} {a b z TI TO p q : Addr} (S : ZipSep2 z TI TO p q [p, a] [q, b]) (na : a ≠ p) (nb : b ≠ q) :
    Turn P w K (.Tuple elts kk tp) (ItLT K a b) [z, TI, TO, p, q] z (LtAt z TI TO p q a b) where
  mem := List.mem_cons_self ..
  obj := fun i h L c hc => L.lt hc
  keep := fun i h h' L kept => by
    obtain ⟨x, y, hTO⟩ := L.to_
    exact ⟨kept z (by simp) _ L.zz, kept TI (by simp) _ L.ti, ⟨x, y, kept TO (by simp) _ hTO⟩, L.it1.at fun o e => kept p (by simp) o e, L.it2.at fun o e => kept q (by simp) o e⟩
  item := by
    rintro X rfl rfl rfl calm i pins s σ H E I free L ⟨us, vs, hu, hv, lu, lv⟩
    obtain ⟨as_, ra, pa, _⟩ := I.list hu
    obtain ⟨bs_, rb, pb, _⟩ := I.tuple hv
    obtain ⟨x0, y0, hTO⟩ := L.to_
    have la := ra.length
    have lb := rb.length
    have hh : X.A.in1.handled = none := I.ok.hd calm
    refine wpAny_pyNext_zipD2_item S (Draws.list hh p a na as_.toArray) (Draws.tuple hh q b nb bs_.toArray) L.zz L.ti hTO ⟨L.it1, pa.isList⟩ ⟨L.it2, pb⟩ (by simp; omega) (by simp; omega) ?_
    intro u1 u2 h1 tk g1 g2 zr tor d1 d2 pr sz kept
    refine ⟨_, rfl, wpAny_letOwnedTupleGo_zip (s := { s with heap := h1, toks := tk }) zr fun h2 z2 sb => ?_⟩
    have zl : z < s.heap.objs.size := Heap.lt_size L.zz
    have sb' : ∀ c, c ≠ z → h2.get? c = h1.get? c := sb.2
    obtain ⟨v1, e1, r1⟩ := ra.get (x := us[i]) (List.getElem?_eq_getElem lu)
    obtain ⟨v2, e2, r2⟩ := rb.get (x := vs[i]) (List.getElem?_eq_getElem lv)
    have q1 : u1 = v1 := by
      have g1' : as_.toArray[i]? = some u1 := g1
      rw [List.getElem?_toArray, e1] at g1'
      exact (Option.some.inj g1').symm
    have q2 : u2 = v2 := by
      have g2' : bs_.toArray[i]? = some u2 := g2
      rw [List.getElem?_toArray, e2] at g2'
      exact (Option.some.inj g2').symm
    subst q1 q2
    have up : ∀ c o, c ∉ [z, TI, TO, p, q] → s.heap.get? c = some o → h2.get? c = some o := fun c o hc e => by
      obtain ⟨c1, c2, c3, c4⟩ := out5 hc
      rw [sb' c c1]
      exact kept c o c1 c2 c3 c4 e
    have tup : h2.get? s.heap.objs.size = some { cls := .type "tuple", data := .seq #[u1, u2] } := by
      rw [sb' _ (Nat.ne_of_gt zl)]
      exact pr
    have ob : ObjOk X.prog X.w (upd H s.heap.objs.size (.tup [us[i], vs[i]])) h2 s.heap.objs.size (.tup [us[i], vs[i]]) :=
      ⟨(by show 2 ≤ sizeLine; decide), [u1, u2], .cons r1 (.cons r2 .nil), ⟨_, tup, rfl, _, rfl⟩⟩
    refine ⟨.ref s.heap.objs.size, _, I.turnedNew (t' := tk) (ch := [z, TI, TO, p, q]) up free (Nat.le_refl _) ob, rfl, ⟨_, us[i], vs[i], rfl, I.hok.fresh (Nat.le_refl _), rfl, fun us' vs' hu' hv' => ?_⟩, ?_, fun c hc => ?_⟩
    · rw [I.list_inj hu' hu, I.tuple_inj hv' hv]
      exact ⟨List.getElem?_eq_getElem lu, List.getElem?_eq_getElem lv⟩
    · refine ⟨z2, ?_, ⟨u1, u2, (sb' _ S.TOz).trans tor⟩, d1.1.at fun o e => (sb' _ S.zi1.symm).trans e, d2.1.at fun o e => (sb' _ S.zi2.symm).trans e⟩
      exact (sb' _ S.TIz).trans (kept TI _ S.TIz S.TITO S.TIi1 S.TIi2 L.ti)
    · obtain ⟨o, e, _⟩ := L.lt hc
      rw [upd_ne (Nat.ne_of_lt (Heap.lt_size e))]
      exact (free c hc).1
  done := by
    rintro X rfl rfl rfl calm i pins s σ H E I free L ⟨us, vs, hu, hv, lu, lv, en⟩
    obtain ⟨as_, ra, pa, _⟩ := I.list hu
    obtain ⟨bs_, rb, pb, _⟩ := I.tuple hv
    obtain ⟨x0, y0, hTO⟩ := L.to_
    have la := ra.length
    have lb := rb.length
    have hh : X.A.in1.handled = none := I.ok.hd calm
    refine wpAny_pyNext_zipD2_end S (Draws.list hh p a na as_.toArray) (Draws.tuple hh q b nb bs_.toArray) L.zz L.ti hTO ⟨L.it1, pa.isList⟩ ⟨L.it2, pb⟩ (by simp; omega) (by simp; omega) (by simp; omega) ?_
    intro h1 tk kept
    refine ⟨rfl, I.turnedL (t' := tk) (ch := [z, TI, TO, p, q]) (fun c o hc e => ?_) free⟩
    obtain ⟨c1, c2, c3, c4⟩ := out5 hc
    exact kept c o c1 c2 c3 c4 e
  self := fun A i s Q E L h => wpAny_pyIter_zip L.zz h
/-- the reading of zip(e, e2), a list and a tuple -/
def iLT (K : PySem.W.Frag) (ta : TA) : TI := fun σ H R => ta σ H fun ws H1 => ∃ a b us vs, ws = [.ref a, .ref b] ∧ SqL K H1 a us ∧ SqT K H1 b vs ∧ R (ItLT K a b) H1
theorem pi_zipLT {X : Cx} {e e2 : Expr} {ta : TA} {p pos tpos : Pos} {elts : List Expr} {kk : Nat} (hg : Gl X "zip") (hm : X.mg "zip" = none) (args : PA X [e, e2] ta)
    (h1 : starEach [e, e2] X.env = (false, eval e X.env) :: starEach [e2] X.env := by rfl) (h2 : (backTo pos (starEach [e2] X.env)).any (·.1) = false := by rfl) :
    PI X (.Tuple elts kk tpos) (.Call (.Name "zip" p) [e, e2] [] pos) (iLT X.K ta) := by
  constructor
  intro pins s σ H R I rd
  refine Call_ (ld_blt I hg hm PyProof.Rows.boot_zip (PyProof.Rows.callWith_type1 (thn (args.run pos pins s σ H _ I rd) ?_) h1 h2))
  rintro ws s1 ⟨vs0, H1, I1, rel, a, b, us, vs, rfl, hu, hv, r⟩
  cases rel with
  | cons r1 rel =>
    cases rel with
    | cons r2 rel =>
      cases rel
      cases r1
      cases r2
      obtain ⟨as_, ra, pa, _⟩ := I1.list hu
      obtain ⟨bs_, rb, pb, _⟩ := I1.tuple hv
      obtain ⟨ob, gb, _⟩ := id pb
      have la : a < s1.heap.objs.size := pa.lt
      have lb : b < s1.heap.objs.size := Heap.lt_size gb
      refine zip_begins2 (begins_list a as_.toArray) (begins_tuple b bs_.toArray) pa.isList pb fun h' hz hTI hTO g1 g2 sz kept => wpAny_pyIter_zip hz ?_
      refine ⟨s1.heap.objs.size + 4, [s1.heap.objs.size + 4, s1.heap.objs.size + 2, s1.heap.objs.size + 3, s1.heap.objs.size, s1.heap.objs.size + 1], _, _, H1, rfl, I1.kept (t' := s1.toks) kept,
        turnLT (sepLT la lb) (Nat.ne_of_lt la) (Nat.ne_of_lt (Nat.lt_succ_of_lt lb)), ⟨hz, hTI, ⟨_, _, hTO⟩, ⟨_, g1, rfl, rfl⟩, ⟨_, g2, rfl, rfl⟩⟩, fun c hc => ?_, r⟩
      have hle : s1.heap.objs.size ≤ c := by
        rcases mem5 hc with e | e | e | e | e <;> rw [e]
        · exact Nat.le_add_right _ _
        · exact Nat.le_add_right _ _
        · exact Nat.le_add_right _ _
        · exact Nat.le_refl _
        · exact Nat.le_add_right _ _
      exact I1.fpOk hle (I1.hok.fresh hle)
theorem walk_LT {K : PySem.W.Frag} {a b : Addr} {us vs : List V} (h : us.length = vs.length) : Walk (ItLT K a b) us.length (fun H => SqL K H a us ∧ SqT K H b vs)
    (fun i H r H' => ∃ (T : Addr) (x y : V), r = .ref T ∧ H T = none ∧ H' = upd H T (.tup [x, y]) ∧ us[i]? = some x ∧ vs[i]? = some y) where
  goes := fun i H hi g => ⟨us, vs, g.1, g.2, hi, by omega⟩
  stops := fun H g => ⟨us, vs, g.1, g.2, Nat.le_refl _, by omega, .inl rfl⟩
  yields := fun i H r H' hi g ⟨T, x, y, e, n, u, k⟩ => ⟨T, x, y, e, n, u, k us vs g.1 g.2⟩
end My

set_option maxRecDepth 100000
set_option maxHeartbeats 2000000
namespace My
open PySem PySem.Spec PyProof.Rows L2
/-- BOUNDS, as the top has written it -/
structure Bnd (K : PySem.W.Frag) (w : World) (mg : Str → Option Value) (dB : Addr) (tB : Nat → Addr) (pB : Nat → List Addr) : Prop where
  g : mg "BOUNDS" = some (.ref dB)
  D : ∃ es n, KDict K w dB es n
  at_ : ∀ z : List Nat, PySem.W.nsIn K dB (S z) = some ((rankOf z).map fun k => Value.ref (tB k))
  tup : ∀ k, k ≤ 4 → ∀ H, SqT K H (tB k) ((pB k).map V.ref)
  len : ∀ k, k ≤ 4 → (pB k).length = (bds k).length
  pair : ∀ k, k ≤ 4 → ∀ (i : Nat) (p : Addr) (b : Nat × Nat), (pB k)[i]? = some p → (bds k)[i]? = some b → ∀ H, SqT K H p [.int (b.1 : Nat), .int (b.2 : Nat)]
theorem rank_kind {k : Nat} (h : k ≤ 4) : rankOf (kindN k) = some k := by
  have : k = 0 ∨ k = 1 ∨ k = 2 ∨ k = 3 ∨ k = 4 := by omega
  rcases this with rfl | rfl | rfl | rfl | rfl <;> decide +kernel
theorem Bnd.get {K : PySem.W.Frag} {w : World} {mg : Str → Option Value} {dB : Addr} {tB : Nat → Addr} {pB : Nat → List Addr} (B : Bnd K w mg dB tB pB) {k : Nat} (h : k ≤ 4) : KDct K w dB (S (kindN k)) (.ref (tB k)) := by
  obtain ⟨es, n, D⟩ := B.D
  refine ⟨es, n, .ref (tB k), D.at_, D.lit, ?_, rfl⟩
  rw [B.at_, rank_kind h]
  rfl
def wV (l : List Nat) : V := .str (S l)
def nV (n : Nat) : V := .int (n : Int)
theorem int_val {l : List Nat} (h : isNum l = true) : PySem.intText? (S l) = some ((valN l : Nat) : Int) ∧ (S l).length ≤ 640 := by
  have q := (isNum_iff l).mp h
  have h1 : (S l).length ≤ 640 := by rw [S_len]; have := q.1.1.2; omega
  refine ⟨PySem.intText_digits (x := S l) (fun c hc => q.1.2 c hc) ?_ (Nat.le_trans h1 (by decide)), h1⟩
  intro z
  have z' : l = [] := z
  rw [z'] at q
  exact absurd q.1.1.1 (by decide)
theorem numsM_split {ws : List (List Nat)} {bs : List (Nat × Nat)} {i : Nat} {w : List Nat} {b : Nat × Nat} (h1 : ws[i]? = some w) (h2 : bs[i]? = some b) :
    numsM (ws.drop i) (bs.drop i) = if numOk w b = true then (numsM (ws.drop (i + 1)) (bs.drop (i + 1))).map (valN w :: ·) else none := by
  obtain ⟨l1, rfl⟩ := List.getElem?_eq_some_iff.mp h1
  obtain ⟨l2, rfl⟩ := List.getElem?_eq_some_iff.mp h2
  rw [List.drop_eq_getElem_cons l1, List.drop_eq_getElem_cons l2]
  rfl
section
variable {P : Program} {w : World} {K : PySem.W.Frag} {mg : Str → Option Value} {base : Heap}
/-! ### numbers_in -/
theorem scNums : FnScope ["words", "kind", "numbers", "word", "bound"] ["words", "kind"] (defScope sNums) := ⟨rfl, rfl, rfl, by decide +kernel, rfl, by decide +kernel, by decide +kernel⟩
def spNums (K : PySem.W.Frag) : Sp := fun vs H Q _ => ∃ (a : Addr) (ws : List (List Nat)) (k : Nat), vs = [.ref a, wV (kindN k)] ∧ k ≤ 4 ∧ SqL K H a (ws.map wV) ∧ ws.length = (bds k).length ∧ (∀ l ∈ ws, l.length ≤ 16384) ∧
  (numsM ws (bds k) = none → ∀ H', Same H H' → Q .non H') ∧ (∀ ns, numsM ws (bds k) = some ns → ∀ H' p, Same H H' → H p = none → H' p = some (.lst (ns.map nV)) → Q (.ref p) H')
theorem ok_nums {f fN dB : Addr} {fd fdN : FuncData} {tB : Nat → Addr} {pB : Nat → List Addr} (F : Fun K "numbers_in" "numbers_in" sNums f fd) (G : Df P w K mg base 2 "is_number" ["word"] spNum fN fdN) (B : Bnd K w mg dB tB pB) (mz : mg "zip" = none) (mi : mg "int" = none) :
    FnOk P w K mg base CX0 3 f fd ["words", "kind"] (spNums K) := by
  refine F.ok scNums (fun vs H Q E h => ?_) (fun cdv A outer s H vs Q E hr h => ?_)
  · obtain ⟨a, ws, k, rfl, _⟩ := h
    rfl
  · obtain ⟨a, ws, k, rfl, hk, hS, hlen, hsm, q0, q1⟩ := h
    refine ⟨_, pss_cons (ps_set (i := 2) scNums.nd rfl (.inl rfl) (pe_lst pa_nil))
      (pss_cons (ps_for PassesOwn.never rfl (pi_zipLT (by rfl) mz (pa_cons (pv 0) (pa_cons (pe_ix ix_kdict (pe_glob (v := .ref dB) rfl B.g rfl) (pv 1) (fun _ _ => rfl)) pa_nil)))
          (pg_tup rfl (pgs_cons (pg_name (i := 3) scNums.nd rfl (.inl rfl)) (pgs_cons (pg_name (i := 4) scNums.nd rfl (.inl rfl)) pgs_nil)))
        (pss_cons (ps_if (PW.pt (pw_or (pt_not (pt_val (pe_call G.ok hr rfl G.g G.kp G.b .nil pass0 (pa_cons (pv 3) pa_nil))))
            (pw_or1 (pt_not (pt_chain op_le op_le (pe_ix ix_tup (pv 4) pe_int (fun _ _ => rfl)) (pe_callTy call_int_str (by rfl) mi PyProof.Rows.boot_int (pa_cons (pv 3) pa_nil)) (pe_ix ix_tup (pv 4) pe_int (fun _ _ => rfl)))))))
            (pss_one (ps_ret pe_non)) pss_nil)
        (pss_one (ps_expr (pe_bm PySem.F.plainAttrs_list PySem.F.slot_list_append PySem.F.type_list_append mt_append (pv 2) (pa_cons (pe_callTy call_int_str (by rfl) mi PyProof.Rows.boot_int (pa_cons (pv 3) pa_nil)) pa_nil))))))
      (pss_one (ps_ret (pv 2)))), ?_⟩
    refine ⟨Nat.zero_le _, fun o no => ?_⟩
    have s1 : Same H (upd H o (.lst [])) := same_new no
    refine ⟨_, rfl, _, rfl, _, _, _, rfl, rfl, B.get hk, a, tB k, ws.map wV, (pB k).map V.ref, rfl, s1.seq hS, B.tup k hk _, ?_⟩
    refine for_it (walk_LT (us := ws.map wV) (vs := (pB k).map V.ref) (by rw [List.length_map, List.length_map, hlen, B.len k hk])) (fun i σ H' => ∃ v3 v4, σ = [some (.ref a), some (wV (kindN k)), some (.ref o), v3, v4] ∧ Same H H' ∧ i ≤ ws.length ∧
      H' o = some (.lst (((ws.take i).map valN).map nV)) ∧ numsM ws (bds k) = (numsM (ws.drop i) ((bds k).drop i)).map (((ws.take i).map valN) ++ ·)) ?_ ?_ ?_ ?_
    · refine ⟨none, none, rfl, s1, Nat.zero_le _, upd_same, ?_⟩
      show _ = (numsM ws (bds k)).map fun x => x
      rw [Option.map_id']
    · rintro i σ H' hi ⟨v3, v4, rfl, sm, _⟩
      exact ⟨sm.seq hS, B.tup k hk _⟩
    · rintro i r σ H1 H2 hi ⟨v3, v4, rfl, sm, hil, ho, hn⟩ ⟨T, x, y, rfl, nT, rfl, hx, hy⟩
      rw [List.length_map] at hi
      obtain ⟨l, hl, rfl⟩ : ∃ l, ws[i]? = some l ∧ x = wV l := by
        rw [List.getElem?_map, List.getElem?_eq_getElem hi] at hx
        exact ⟨ws[i], List.getElem?_eq_getElem hi, (Option.some.inj hx).symm⟩
      have hib : i < (bds k).length := by omega
      have hip : i < (pB k).length := by rw [B.len k hk]; exact hib
      obtain ⟨pt, hpt, rfl⟩ : ∃ pt, (pB k)[i]? = some pt ∧ y = .ref pt := by
        rw [List.getElem?_map, List.getElem?_eq_getElem hip] at hy
        exact ⟨(pB k)[i], List.getElem?_eq_getElem hip, (Option.some.inj hy).symm⟩
      obtain ⟨b, hb⟩ : ∃ b, (bds k)[i]? = some b := ⟨_, List.getElem?_eq_getElem hib⟩
      have hpair := B.pair k hk i pt b hpt hb
      have smT : Same H1 (upd H1 T (.tup [wV l, .ref pt])) := same_new nT
      have hoT : (upd H1 T (.tup [wV l, .ref pt])) o = some (.lst (((ws.take i).map valN).map nV)) := smT _ _ ho
      have hlm : l.length ≤ 16384 := hsm l (List.mem_of_getElem? hl)
      have sp := numsM_split hl hb
      refine ⟨T, [wV l, .ref pt], rfl, .inl (.inl upd_same), rfl, wV l, [.ref pt], rfl, .ref pt, [], rfl, rfl, ?_⟩
      refine ⟨_, rfl, l, rfl, hlm, _, rfl, ?_⟩
      cases en : isNum l with
      | false =>
        have e0 : numsM ws (bds k) = none := by
          rw [hn, sp, if_neg (by unfold numOk; rw [en]; simp)]
          rfl
        exact q0 e0 _ (sm.trans smT)
      | true =>
        obtain ⟨iv, il⟩ := int_val en
        refine ⟨_, rfl, _, _, _, _, rfl, rfl, hpair _, atI_nat (j := 0) rfl, _, rfl, _, _, rfl, iv, il, _, _, rfl, rfl, _, rfl, ?_⟩
        by_cases c : b.1 ≤ valN l ∧ valN l ≤ b.2
        · have okb : numOk l b = true := numOk_iff.mpr ⟨en, c.1, c.2⟩
          rw [decide_eq_true (show ((b.1 : Nat) : Int) ≤ ((valN l : Nat) : Int) by omega)]
          refine ⟨_, rfl, _, _, _, _, rfl, rfl, hpair _, atI_nat (j := 1) rfl, _, _, rfl, rfl, _, rfl, ?_⟩
          rw [decide_eq_true (show ((valN l : Nat) : Int) ≤ ((b.2 : Nat) : Int) by omega)]
          refine ⟨_, rfl, .inl ⟨rfl, _, SqL.of hoT⟩, _, rfl, _, _, rfl, iv, il, o, _, _, rfl, rfl, hoT, ?_, ?_⟩
          · rw [List.length_map, List.length_map, List.length_take]
            have : (bds k).length ≤ 3 := by
              have : k = 0 ∨ k = 1 ∨ k = 2 ∨ k = 3 ∨ k = 4 := by omega
              rcases this with rfl | rfl | rfl | rfl | rfl <;> decide
            exact Nat.lt_of_le_of_lt (Nat.min_le_right _ _) (by rw [hlen]; exact Nat.lt_of_le_of_lt this (by decide))
          · refine ⟨_, _, rfl, fun c' u e => ?_, by omega, ?_, ?_⟩
            · rw [upd_ne (ne_of_none e no)]
              exact smT _ _ (sm _ _ e)
            · rw [upd_same, take_snoc hl, List.map_append, List.map_append]
              rfl
            · rw [hn, sp, if_pos okb, take_snoc hl, List.map_append, Option.map_map]
              congr 1
              funext z
              show _ ++ (valN l :: z) = (_ ++ [valN l]) ++ z
              rw [List.append_assoc]
              rfl
        · have e0 : numsM ws (bds k) = none := by
            rw [hn, sp, if_neg (fun z => c (numOk_iff.mp z).2)]
            rfl
          by_cases c1 : b.1 ≤ valN l
          · rw [decide_eq_true (show ((b.1 : Nat) : Int) ≤ ((valN l : Nat) : Int) by omega)]
            refine ⟨_, rfl, _, _, _, _, rfl, rfl, hpair _, atI_nat (j := 1) rfl, _, _, rfl, rfl, _, rfl, ?_⟩
            rw [decide_eq_false (show ¬ ((valN l : Nat) : Int) ≤ ((b.2 : Nat) : Int) by omega)]
            exact q0 e0 _ (sm.trans smT)
          · rw [decide_eq_false (show ¬ ((b.1 : Nat) : Int) ≤ ((valN l : Nat) : Int) by omega)]
            exact ⟨_, rfl, q0 e0 _ (sm.trans smT)⟩
    · rintro σ H' ⟨v3, v4, rfl, sm, hil, ho, hn⟩
      rw [List.length_map] at ho hn
      rw [List.take_length] at ho hn
      have e : numsM ws (bds k) = some (ws.map valN) := by
        rw [hn, List.drop_length]
        show some (ws.map valN ++ []) = _
        rw [List.append_nil]
      exact ⟨_, rfl, q1 _ e _ o sm no ho⟩
end
end My

set_option maxRecDepth 100000
set_option maxHeartbeats 2000000
namespace My
open PySem PySem.Spec PyProof.Rows L2
theorem iteN {p A B : Prop} [Decidable p] (h : ¬ p → A) (h' : p → B) : if (!decide p) = true then A else B := by
  by_cases e : p
  · rw [decide_eq_true e]
    exact iteF (h' e)
  · rw [decide_eq_false e]
    exact iteT (h e)
/-! ### split at one sign is cutN -/
theorem spl_cut (c : Nat) : ∀ (l acc : List Nat), TL.spl [c] 0 acc l = (match cutN c l with | [] => [acc] | w :: r => (acc ++ w) :: r)
  | [], acc => by
    rw [TL.spl_nil]
    show [acc] = [acc ++ []]
    rw [List.append_nil]
  | x :: r, acc => by
    have ne := cutN_ne c r
    unfold cutN
    by_cases h : x = c
    · rw [if_pos h, TL.spl_hit (by rw [h]; show ([c] == [c]) = true; exact beq_self_eq_true _)]
      show acc :: TL.spl [c] 0 [] r = (acc ++ []) :: cutN c r
      rw [spl_cut c r [], List.append_nil]
      cases e : cutN c r with
      | nil => exact absurd e ne
      | cons w l => rfl
    · rw [if_neg h, TL.spl_miss (by show ([x] == [c]) = false; rw [beq_eq_false_iff_ne]; intro z; exact h (List.cons.inj z).1), spl_cut c r]
      cases e : cutN c r with
      | nil => exact absurd e ne
      | cons w l =>
        show (acc ++ [x] ++ w) :: l = (acc ++ (x :: w)) :: l
        rw [List.append_assoc]
        rfl
theorem split_cutN (c : Nat) (hc : c < 256) (l : List Nat) : Txt.split (S l) (S [c]) = (cutN c l).map S := by
  have h := TL.split_spl (S l) (S [c]) (by show [c] ≠ []; simp) (TL.kind_ok (by simp [S, hc]))
  have h2 : (Txt.split (S l) (S [c])).map (fun z : Str => z.cps.toList) = cutN c l := by
    refine Eq.trans h ?_
    show TL.spl [c] 0 [] l = _
    rw [spl_cut]
    cases e : cutN c l with
    | nil => exact absurd e (cutN_ne c l)
    | cons w r => rfl
  rw [← h2, List.map_map]
  have : (S ∘ fun z : Str => z.cps.toList) = id := by
    funext z
    rfl
  rw [this, List.map_id]
theorem cutN_small (c : Nat) : ∀ (l : List Nat), ∀ w ∈ cutN c l, w.length ≤ l.length
  | [], w, h => by
    have e : w = [] := by simpa [cutN] using h
    rw [e]
    exact Nat.le_refl _
  | x :: r, w, h => by
    have ih := cutN_small c r
    have ne := cutN_ne c r
    unfold cutN at h
    by_cases hx : x = c
    · rw [if_pos hx] at h
      rcases List.mem_cons.mp h with e | e
      · rw [e]; exact Nat.zero_le _
      · exact Nat.le_succ_of_le (ih w e)
    · rw [if_neg hx] at h
      cases e : cutN c r with
      | nil => exact absurd e ne
      | cons v m =>
        rw [e] at h ih
        rcases List.mem_cons.mp h with q | q
        · rw [q]
          exact Nat.succ_le_succ (ih v (List.mem_cons_self ..))
        · exact Nat.le_succ_of_le (ih w (List.mem_cons_of_mem _ q))
theorem cutN_count (c : Nat) : ∀ (l : List Nat), (cutN c l).length ≤ l.length + 1
  | [] => Nat.le_refl _
  | x :: r => by
    have ih := cutN_count c r
    have ne := cutN_ne c r
    unfold cutN
    by_cases hx : x = c
    · rw [if_pos hx]
      exact Nat.succ_le_succ ih
    · rw [if_neg hx]
      cases e : cutN c r with
      | nil => exact absurd e ne
      | cons v m =>
        rw [e] at ih
        exact Nat.le_succ_of_le ih
/-! ### rows in the heap -/
def rowF (y : Nat × List Nat × List Nat) (q : Addr) : List (Str × V) := [("kind", wV (kindN y.1)), ("name", wV y.2.1), ("numbers", .ref q)]
def RowAt (C : Addr) (H : Hp) (a : Addr) (y : Nat × List Nat × List Nat) : Prop := ∃ dx q, H a = some (.ins C dx (rowF y q)) ∧ H q = some (.lst (y.2.2.map nV))
theorem RowAt.same {C : Addr} {H H' : Hp} {a : Addr} {y : Nat × List Nat × List Nat} (h : RowAt C H a y) (s : Same H H') : RowAt C H' a y := by
  obtain ⟨dx, q, h1, h2⟩ := h
  exact ⟨dx, q, s _ _ h1, s _ _ h2⟩
theorem lk_hit {k : Str} {v : V} {r : List (Str × V)} : List.lookup k ((k, v) :: r) = some v := by
  simp only [List.lookup, beq_self_eq_true]
theorem lk_miss {k g : Str} {v : V} {r : List (Str × V)} (h : (k == g) = false) : List.lookup k ((g, v) :: r) = List.lookup k r := by
  simp only [List.lookup, h]
theorem rowF_kind (y : Nat × List Nat × List Nat) (q : Addr) : (rowF y q).lookup ("kind" : Str) = some (wV (kindN y.1)) := lk_hit
theorem rowF_name (y : Nat × List Nat × List Nat) (q : Addr) : (rowF y q).lookup ("name" : Str) = some (wV y.2.1) := (lk_miss (by decide +kernel)).trans lk_hit
theorem rowF_nums (y : Nat × List Nat × List Nat) (q : Addr) : (rowF y q).lookup ("numbers" : Str) = some (.ref q) := (lk_miss (by decide +kernel)).trans ((lk_miss (by decide +kernel)).trans lk_hit)
theorem rowF_put (a b c : V) : putF "numbers" c (putF "name" b (putF "kind" a [])) = ([("kind", a), ("name", b), ("numbers", c)] : List (Str × V)) := by
  have e1 : ¬ (Str.ofString "kind" = Str.ofString "name") := by decide +kernel
  have e2 : ¬ (Str.ofString "kind" = Str.ofString "numbers") := by decide +kernel
  have e3 : ¬ (Str.ofString "name" = Str.ofString "numbers") := by decide +kernel
  simp only [putF, if_neg e1, if_neg e2, if_neg e3]
structure RowT (K : PySem.W.Frag) (mg : Str → Option Value) (C : Addr) : Prop where
  cl : Cls K C
  nK : NoAttr K C "kind"
  nN : NoAttr K C "name"
  nU : NoAttr K C "numbers"
  g : mg "Row" = some (.ref C)
section
variable {P : Program} {w : World} {K : PySem.W.Frag} {mg : Str → Option Value} {base : Heap}
theorem scRowI : FnScope ["self", "kind", "name", "numbers"] ["self", "kind", "name", "numbers"] (defScope sRowI) := ⟨rfl, rfl, rfl, by decide +kernel, rfl, by decide +kernel, by decide +kernel⟩
def spRowI (C : Addr) : Sp := fun vs H Q _ => ∃ (p dx : Addr) (a b c : V), vs = [.ref p, a, b, c] ∧ H p = some (.ins C dx []) ∧
  ∀ H' : Hp, H' p = some (.ins C dx [("kind", a), ("name", b), ("numbers", c)]) → (∀ d o, H d = some o → d ≠ p → H' d = some o) → Q .non H'
theorem ok_rowI {f C : Addr} {fd : FuncData} (F : Fun K "__init__" "Row.__init__" sRowI f fd) (T : RowT K mg C) : FnOk P w K mg base CX0 1 f fd ["self", "kind", "name", "numbers"] (spRowI C) := by
  refine F.ok scRowI (fun vs H Q E h => ?_) (fun cdv A outer s H vs Q E hr h => ?_)
  · obtain ⟨p, dx, a, b, c, rfl, _⟩ := h
    rfl
  · obtain ⟨p, dx, a, b, c, rfl, hp, k⟩ := h
    refine ⟨_, pss_cons (ps_fld (pv 0) (pv 1) rfl) (pss_cons (ps_fld (pv 0) (pv 2) rfl) (pss_one (ps_fld (pv 0) (pv 3) rfl))), ?_⟩
    refine ⟨_, rfl, _, rfl, p, C, dx, [], rfl, hp, T.cl, T.nK, (by show 0 < 1000; decide), ?_⟩
    refine ⟨_, rfl, _, rfl, p, C, dx, _, rfl, upd_same, T.cl, T.nN, (by show 1 < 1000; decide), ?_⟩
    refine ⟨_, rfl, _, rfl, p, C, dx, _, rfl, upd_same, T.cl, T.nU, ?_, ?_⟩
    · have e1 : ¬ (Str.ofString "kind" = Str.ofString "name") := by decide +kernel
      simp only [putF, if_neg e1]
      show 2 < 1000
      decide
    · refine k _ ?_ fun d o e hd => ?_
      · rw [rowF_put]
        exact upd_same
      · rw [upd_ne hd, upd_ne hd, upd_ne hd]
        exact e
/-! ### row_of -/
theorem scRow : FnScope ["signs", "words", "kind", "names", "numbers"] ["signs"] (defScope sRow) := ⟨rfl, rfl, rfl, by decide +kernel, rfl, by decide +kernel, by decide +kernel⟩
def spRow (C : Addr) : Sp := fun vs H Q _ => ∃ (l : List Nat), vs = [wV l] ∧ l.length ≤ 16384 ∧
  (rowM (cutN 32 l) = none → ∀ H', Same H H' → Q .non H') ∧ (∀ y, rowM (cutN 32 l) = some y → ∀ H' p dx q, Same H H' → H p = none → H q = none → H' p = some (.ins C dx (rowF y q)) → H' q = some (.lst (y.2.2.map nV)) → Q (.ref p) H')
theorem cut_from (ws : List (List Nat)) (k : Nat) : cutV (ws.map wV) (some (k : Int)) none = (ws.drop k).map wV := by
  unfold cutV
  rw [HT.sIx_nat, HT.sIx_none, List.length_map]
  by_cases h : k ≤ ws.length
  · rw [Nat.min_eq_left h, List.map_drop]
    exact List.take_of_length_le (by rw [List.length_drop, List.length_map]; exact Nat.le_refl _)
  · rw [Nat.min_eq_right (by omega), Nat.sub_self, List.take_zero, List.drop_eq_nil_of_le (by omega)]
    rfl
theorem ok_row {f fN fM fI dB C : Addr} {fd fdN fdM fdI : FuncData} {tB : Nat → Addr} {pB : Nat → List Addr} (F : Fun K "row_of" "row_of" sRow f fd) (GN : Df P w K mg base 2 "is_name" ["word"] spName fN fdN) (GM : Df P w K mg base 3 "numbers_in" ["words", "kind"] (spNums K) fM fdM)
    (B : Bnd K w mg dB tB pB) (T : RowT K mg C) (M : Mk K C fI) (bI : Binds K fdI ["self", "kind", "name", "numbers"] []) (GI : FnOk P w K mg base CX0 1 fI fdI ["self", "kind", "name", "numbers"] (spRowI C)) (ml : mg "len" = none) :
    FnOk P w K mg base CX0 4 f fd ["signs"] (spRow C) := by
  obtain ⟨es, n, D⟩ := id B.D
  refine F.ok scRow (fun vs H Q E h => ?_) (fun cdv A outer s H vs Q E hr h => ?_)
  · obtain ⟨l, rfl, _⟩ := h
    rfl
  · obtain ⟨l, rfl, hl, q0, q1⟩ := h
    have hr2 : Room 2 _ := hr.mono (by decide)
    refine ⟨_, pss_cons (ps_set (i := 1) scRow.nd rfl (.inl rfl) (pe_split (pv 0) pe_str)) <|
      pss_cons (ps_set (i := 2) scRow.nd rfl (.inl rfl) (pe_ix ix_list (pv 1) pe_int (fun _ _ => rfl))) <|
      pss_cons (ps_if (pt_cmpR (op_notIn_kd D) (pv 2) (pe_glob (v := .ref dB) rfl B.g rfl) (by rfl)) (pss_one (ps_ret pe_non)) pss_nil) <|
      pss_cons (ps_set (i := 3) scRow.nd rfl (.inl rfl) (pe_ifExp (pt_cmpR op_eq (pv 2) pe_str (nomark _)) pe_int pe_int)) <|
      pss_cons (ps_if (pt_cmpR op_ne (pe_callB call_len_seq (by rfl) ml PySem.boot_len (pa_cons (pv 1) pa_nil))
          (pe_op op_add (pe_op op_add pe_int (pv 3)) (pe_callB call_len_seq (by rfl) ml PySem.boot_len (pa_cons (pe_ix ix_kdict (pe_glob (v := .ref dB) rfl B.g rfl) (pv 2) (fun _ _ => rfl)) pa_nil))) (nomark _)) (pss_one (ps_ret pe_non)) pss_nil) <|
      pss_cons (ps_if (PW.pt (pw_and (pt_cmpR op_eq (pv 3) pe_int (nomark _)) (pw_and1 (pt_not (pt_val (pe_call GN.ok hr2 rfl GN.g GN.kp GN.b .nil pass0 (pa_cons (pe_ix ix_list (pv 1) pe_int (fun _ _ => rfl)) pa_nil))))))) (pss_one (ps_ret pe_non)) pss_nil) <|
      pss_cons (ps_set (i := 4) scRow.nd rfl (.inl rfl) (pe_call GM.ok hr rfl GM.g GM.kp GM.b .nil pass0 (pa_cons (pe_slice sl_list (pv 1) (po_some (pe_op op_add pe_int (pv 3))) po_none) (pa_cons (pv 2) pa_nil)))) <|
      pss_cons (ps_if (pt_cmpR op_isN (pv 4) pe_non (nomark _)) (pss_one (ps_ret pe_non)) pss_nil) <|
      pss_one (ps_ret (pe_make M GI hr2 rfl T.g bI .nil pass0 (pa_cons (pv 2) (pa_cons (pe_ifExp (pt_cmpR op_eq (pv 3) pe_int (nomark _)) (pe_ix ix_list (pv 1) pe_int (fun _ _ => rfl)) pe_str) (pa_cons (pv 4) pa_nil))))), ?_⟩
    have eS : Str.ofString " " = S [32] := by decide +kernel
    refine ⟨_, rfl, ⟨_, rfl⟩, S l, Str.ofString " ", rfl, rfl, (by decide +kernel), ?_, fun a na => ?_⟩
    · rw [S_len]
      exact Nat.le_trans (Nat.add_le_add_right hl 2) (by decide)
    rw [eS, split_cutN 32 (by decide), List.map_map]
    have hsm := fun w hw => Nat.le_trans (cutN_small 32 l w hw) hl
    have hct := cutN_count 32 l
    have hne := cutN_ne 32 l
    generalize hws : cutN 32 l = ws at *
    have s1 : Same H (upd H a (.lst (ws.map wV))) := same_new na
    obtain ⟨w0, rest, ew⟩ : ∃ w0 rest, ws = w0 :: rest := by
      cases ws with
      | nil => exact absurd rfl hne
      | cons x r => exact ⟨x, r, rfl⟩
    have g0 : ws.getD 0 [] = w0 := by rw [ew]; rfl
    have i0 : (ws.map wV)[0]? = some (wV w0) := by rw [ew]; rfl
    have hL : SqL K (upd H a (.lst (ws.map wV))) a (ws.map wV) := SqL.of upd_same
    refine ⟨_, rfl, a, ws.map wV, 0, wV w0, rfl, rfl, hL, atI_nat (j := 0) i0, ?_⟩
    cases ek : rankOf w0 with
    | none =>
      have hns : PySem.W.nsIn K dB (S w0) = some none := by rw [B.at_, ek]; rfl
      refine ⟨_, rfl, S w0, none, rfl, rfl, hns, _, rfl, ?_⟩
      refine q0 ?_ _ s1
      unfold rowM
      rw [g0, ek]
    | some k =>
      have hk : k ≤ 4 ∧ w0 = kindN k := by
        rcases rankOf_some ek with ⟨rfl, e⟩ | ⟨rfl, e⟩ | ⟨rfl, e⟩ | ⟨rfl, e⟩ | ⟨rfl, e⟩ <;> exact ⟨by decide, e⟩
      obtain ⟨hk, ekw⟩ := hk
      have hns : PySem.W.nsIn K dB (S w0) = some (some (.ref (tB k))) := by rw [B.at_, ek]; rfl
      refine ⟨_, rfl, S w0, some (.ref (tB k)), rfl, rfl, hns, _, rfl, ?_⟩
      have hD : KDct K w dB (S w0) (.ref (tB k)) := by rw [ekw]; exact B.get hk
      have eY : Str.ofString "yeast" = S (kindN 4) := by decide +kernel
      have lt : ((pB k).map V.ref).length = (bds k).length := by rw [List.length_map, B.len k hk]
      have ll : (ws.map wV).length = ws.length := List.length_map ..
      refine ⟨_, rfl, rfl, _, rfl, iteD (fun e4 => ?_) (fun e4 => ?_)⟩
      · have k4 : k = 4 := by
          rw [eY] at e4
          have := S_inj (V.str.inj e4)
          rw [this, rank_kind (by decide)] at ek
          exact (Option.some.inj ek).symm
        subst k4
        refine ⟨_, rfl, a, _, rfl, .inl hL, _, rfl, _, _, rfl, rfl, _, rfl, dB, S w0, _, rfl, rfl, hD, tB 4, _, rfl, .inr (B.tup 4 hk _), _, _, rfl, rfl, rfl, _, rfl, iteN (fun e => ?_) (fun e => ?_)⟩
        · refine q0 ?_ _ s1
          unfold rowM
          rw [g0, ek]
          dsimp only
          rw [if_pos (fun z => e ?_)]
          rw [ll, lt, z]
          rfl
        · have e' := V.int.inj e
          rw [ll, lt] at e'
          have hlen : ws.length = 1 + nms 4 + (bds 4).length := by
            have h1 : (bds 4).length = 1 := rfl
            have h2 : nms 4 = 0 := rfl
            rw [h1] at e' ⊢
            rw [h2]
            omega
          refine ⟨_, rfl, rfl, _, rfl, ?_⟩
          refine ⟨_, rfl, _, rfl, _, _, rfl, rfl, _, rfl, a, _, rfl, hL, fun c nc => ?_⟩
          have ec : cutV (ws.map wV) (some (1 + 0)) none = (ws.drop 1).map wV := cut_from ws 1
          rw [ec]
          have s2 := s1.trans (same_new (o := .lst ((ws.drop 1).map wV)) nc)
          refine ⟨_, rfl, c, ws.drop 1, 4, ?_, hk, SqL.of upd_same, ?_, fun z hz => hsm z (List.mem_of_mem_drop hz), fun en H3 s3 => ?_, fun ns en H3 p s3 np hp => ?_⟩
          · rw [ekw]; rfl
          · rw [List.length_drop, hlen]; rfl
          · refine ⟨_, rfl, rfl, _, rfl, ?_⟩
            refine q0 ?_ _ (s2.trans s3)
            unfold rowM
            rw [g0, ek]
            dsimp only
            rw [if_neg (fun z => z hlen), if_neg (fun z => absurd z.1 (by decide))]
            show (numsM (ws.drop 1) (bds 4)).map _ = none
            rw [en]
            rfl
          · refine ⟨_, rfl, rfl, _, rfl, ?_⟩
            refine ⟨_, rfl, _, rfl, rfl, _, rfl, _, rfl, ?_⟩
            intro x dx nx nd ne
            refine ⟨x, dx, _, _, _, rfl, upd_same, fun H4 h4 k4 => ⟨rfl, ?_⟩⟩
            have s4 := Same.made nx nd k4
            have s24 := s2.trans (s3.trans s4)
            have e0 : Str.ofString "" = S [] := by decide +kernel
            refine q1 (4, [], ns) (rowM_ok (ws := ws) (k := 4) (by rw [g0]; exact ek) hlen (fun z => absurd z (by decide)) en) H4 x dx p s24 ((s2.trans s3).free nx) (s2.free np) ?_ (s4 _ _ hp)
            rw [h4, ekw, e0]
            rfl
      · have k4 : k ≠ 4 := fun z => e4 (by rw [eY, ekw, z]; rfl)
        have hn1 : nms k = 1 := if_neg k4
        refine ⟨_, rfl, a, _, rfl, .inl hL, _, rfl, _, _, rfl, rfl, _, rfl, dB, S w0, _, rfl, rfl, hD, tB k, _, rfl, .inr (B.tup k hk _), _, _, rfl, rfl, rfl, _, rfl, iteN (fun e => ?_) (fun e => ?_)⟩
        · refine q0 ?_ _ s1
          unfold rowM
          rw [g0, ek]
          dsimp only
          rw [if_pos (fun z => e ?_)]
          rw [ll, lt, z, hn1]
          show V.int _ = V.int _
          congr 1
        · have e' := V.int.inj e
          rw [ll, lt] at e'
          have hlen : ws.length = 1 + nms k + (bds k).length := by
            rw [hn1]
            omega
          obtain ⟨w1, r1, e1⟩ : ∃ w1 r1, rest = w1 :: r1 := by
            cases rest with
            | nil => rw [ew] at hlen; rw [hn1] at hlen; simp at hlen; omega
            | cons x r => exact ⟨x, r, rfl⟩
          have g1 : ws.getD 1 [] = w1 := by rw [ew, e1]; rfl
          have i1 : (ws.map wV)[1]? = some (wV w1) := by rw [ew, e1]; rfl
          refine ⟨_, rfl, rfl, _, rfl, ?_⟩
          refine ⟨_, rfl, a, _, 1, wV w1, rfl, rfl, hL, atI_nat (j := 1) i1, w1, rfl, hsm w1 (by rw [ew, e1]; simp), _, rfl, ?_⟩
          cases hnm : isName w1 with
          | false =>
            refine q0 ?_ _ s1
            unfold rowM
            rw [g0, ek]
            dsimp only
            rw [if_neg (fun z => z hlen), if_pos ⟨hn1, by rw [g1]; exact hnm⟩]
          | true =>
            refine ⟨_, rfl, _, rfl, _, _, rfl, rfl, _, rfl, a, _, rfl, hL, fun c nc => ?_⟩
            have ec : cutV (ws.map wV) (some (1 + 1)) none = (ws.drop 2).map wV := cut_from ws 2
            rw [ec]
            have s2 := s1.trans (same_new (o := .lst ((ws.drop 2).map wV)) nc)
            have ed : ws.drop (1 + nms k) = ws.drop 2 := by rw [hn1]
            refine ⟨_, rfl, c, ws.drop 2, k, ?_, hk, SqL.of upd_same, ?_, fun z hz => hsm z (List.mem_of_mem_drop hz), fun en H3 s3 => ?_, fun ns en H3 p s3 np hp => ?_⟩
            · rw [ekw]; rfl
            · rw [List.length_drop, hlen, hn1]; omega
            · refine ⟨_, rfl, rfl, _, rfl, ?_⟩
              refine q0 ?_ _ (s2.trans s3)
              unfold rowM
              rw [g0, ek]
              dsimp only
              rw [if_neg (fun z => z hlen), if_neg (fun z => by rw [g1, hnm] at z; exact absurd z.2 (by decide)), ed, en]
              rfl
            · refine ⟨_, rfl, rfl, _, rfl, ?_⟩
              have hL3 : SqL K H3 a (ws.map wV) := SqL.of (s3 _ _ ((same_new nc) _ _ upd_same))
              refine ⟨_, rfl, _, rfl, rfl, _, rfl, _, rfl, a, _, 1, wV w1, rfl, rfl, hL3, atI_nat (j := 1) i1, _, rfl, ?_⟩
              intro x dx nx nd ne
              refine ⟨x, dx, _, _, _, rfl, upd_same, fun H4 h4 k4 => ⟨rfl, ?_⟩⟩
              have s4 := Same.made nx nd k4
              have s24 := s2.trans (s3.trans s4)
              have er := rowM_ok (ws := ws) (k := k) (ns := ns) (by rw [g0]; exact ek) hlen (fun _ => by rw [g1]; exact hnm) (by rw [ed]; exact en)
              rw [if_pos hn1, g1] at er
              refine q1 _ er H4 x dx p s24 ((s2.trans s3).free nx) (s2.free np) ?_ (s4 _ _ hp)
              rw [h4, ekw]
              rfl
end
end My

set_option maxRecDepth 100000
set_option maxHeartbeats 2000000
namespace My
open PySem PySem.Spec PyProof.Rows L2
open Br (Line Recipe)
/-- the rows at these addresses are these lines -/
structure RowsAt (C : Addr) (H : Hp) (as : List Addr) (es : Recipe) : Prop where
  len : as.length = es.length
  at_ : ∀ (i : Nat) (a : Addr) (x : Line), as[i]? = some a → es[i]? = some x → RowAt C H a (rk x)
theorem RowsAt.same {C : Addr} {H H' : Hp} {as : List Addr} {es : Recipe} (h : RowsAt C H as es) (s : Same H H') : RowsAt C H' as es := ⟨h.len, fun i a x h1 h2 => (h.at_ i a x h1 h2).same s⟩
theorem hop_at {x : Line} (h : x.rank = 2) : ((rk x).2.2.map nV)[2]? = some (nV (mins x)) := by
  cases x with
  | hop n p a t => rfl
  | _ => exact absurd h (by intro z; cases z)
theorem nV_inj {a b : Nat} : nV a = nV b ↔ a = b := by
  constructor
  · intro h
    have := V.int.inj h
    omega
  · exact congrArg nV
theorem name_eq (x y : Line) : (wV (rk y).2.1 = wV (rk x).2.1) ↔ lname y = lname x := by
  constructor
  · exact fun h => codes_inj (S_inj (V.str.inj h))
  · intro h
    show wV (codes (lname y)) = wV (codes (lname x))
    rw [h]
section
variable {P : Program} {w : World} {K : PySem.W.Frag} {mg : Str → Option Value} {base : Heap}
/-! ### hop_clashes -/
theorem scHopC : FnScope ["row", "earlier", "minutes", "other"] ["row", "earlier"] (defScope sHopC) := ⟨rfl, rfl, rfl, by decide +kernel, rfl, by decide +kernel, by decide +kernel⟩
def spHopC (C : Addr) : Sp := fun vs H Q _ => ∃ (a l : Addr) (x : Line) (as : List Addr) (es : Recipe), vs = [.ref a, .ref l] ∧ RowAt C H a (rk x) ∧ x.rank = 2 ∧ H l = some (.lst (as.map V.ref)) ∧ RowsAt C H as es ∧ (∀ y ∈ es, y.rank = 2) ∧ Q (.bl (hopClash x es)) H
theorem ok_hopC {f C : Addr} {fd : FuncData} (F : Fun K "hop_clashes" "hop_clashes" sHopC f fd) (T : RowT K mg C) (ml : mg "len" = none) (cM : Cn mg "MINUTES" (.int 2)) : FnOk P w K mg base CX0 1 f fd ["row", "earlier"] (spHopC C) := by
  obtain ⟨uM, gM, rM⟩ := cM
  refine F.ok scHopC (fun vs H Q E h => ?_) (fun cdv A outer s H vs Q E hr h => ?_)
  · obtain ⟨a, l, x, as, es, rfl, _⟩ := h
    rfl
  · obtain ⟨a, l, x, as, es, rfl, ⟨dx, qx, hx1, hx2⟩, hx, hl, hR, he, q⟩ := h
    refine ⟨_, pss_cons (ps_set (i := 2) scHopC.nd rfl (.inl rfl) (pe_ix ix_list (pe_fld (pv 0) rfl) (pe_glob rfl gM rM) (fun _ _ => rfl))) <|
      pss_cons (ps_if (PW.pt (pw_and (pt_cmpR op_gt (pe_callB call_len_seq (by rfl) ml PySem.boot_len (pa_cons (pv 1) pa_nil)) pe_int (nomark _))
        (pw_and1 (pt_cmpR op_gt (pv 2) (pe_ix ix_list (pe_fld (pe_ix ix_list (pv 1) (pe_un un_neg pe_int) (fun _ _ => rfl)) rfl) (pe_glob rfl gM rM) (fun _ _ => rfl)) (nomark _))))) (pss_one (ps_ret pe_bl)) pss_nil) <|
      pss_cons (ps_for PassesOwn.never rfl (pi_list (pv 1)) (pg_name (i := 3) scHopC.nd rfl (.inl rfl))
        (pss_one (ps_if (PW.pt (pw_and (pt_cmpR op_eq (pe_fld (pv 3) rfl) (pe_fld (pv 0) rfl) (nomark _))
          (pw_and1 (pt_cmpR op_eq (pe_ix ix_list (pe_fld (pv 3) rfl) (pe_glob rfl gM rM) (fun _ _ => rfl)) (pv 2) (nomark _))))) (pss_one (ps_ret pe_bl)) pss_nil))) <|
      pss_one (ps_ret pe_bl), ?_⟩
    have hLs : SqL K H l (as.map V.ref) := SqL.of hl
    refine ⟨_, rfl, a, C, dx, _, _, rfl, hx1, T.cl, T.nU, rowF_nums _ _, qx, _, 2, nV (mins x), rfl, rfl, SqL.of hx2, atI_nat (j := 2) (hop_at hx), ?_⟩
    refine ⟨_, rfl, l, _, rfl, .inl hLs, _, _, rfl, rfl, _, rfl, ?_⟩
    have hlast : ∀ y, es.getLast? = some y → ∃ b, atI (as.map V.ref) (-1) = some (V.ref b) ∧ RowAt C H b (rk y) ∧ y.rank = 2 ∧ 0 < as.length := by
      intro y hy
      have ne : es ≠ [] := fun z => by rw [z] at hy; cases hy
      have nl : 0 < es.length := List.length_pos_iff.mpr ne
      have nl2 : 0 < as.length := by rw [hR.len]; exact nl
      have ne2 : as ≠ [] := List.length_pos_iff.mp nl2
      have hy2 : es[es.length - 1]? = some y := by rw [← List.getLast?_eq_getElem?]; exact hy
      have ha2 : as[es.length - 1]? = some (as.getLast ne2) := by rw [← hR.len, ← List.getLast?_eq_getElem?, List.getLast?_eq_some_getLast ne2]
      refine ⟨as.getLast ne2, ?_, hR.at_ _ _ _ ha2 hy2, he y (List.mem_of_getLast? hy), nl2⟩
      have e : as.map V.ref = as.dropLast.map V.ref ++ [V.ref (as.getLast ne2)] := by
        rw [← List.map_singleton, ← List.map_append, List.dropLast_concat_getLast]
      rw [e]
      exact atI_last _ _
    by_cases c : ∃ y, es.getLast? = some y ∧ mins y < mins x
    · obtain ⟨y, hy, hm⟩ := c
      obtain ⟨b, hb, ⟨dy, qy, hy1, hy2⟩, hyr, hp⟩ := hlast y hy
      refine iteD (fun _ => ⟨_, rfl, _, rfl, _, rfl, l, _, -1, _, rfl, rfl, hLs, hb, b, C, dy, _, _, rfl, hy1, T.cl, T.nU, rowF_nums _ _, qy, _, 2, nV (mins y), rfl, rfl, SqL.of hy2, atI_nat (j := 2) (hop_at hyr), _, _, rfl, rfl, _, rfl, iteD (fun _ => ?_) (fun z => absurd ?_ z)⟩) (fun z => absurd ?_ z)
      · have e : hopClash x es = true := by
          unfold hopClash
          rw [hy]
          show (decide (mins y < mins x) || _) = true
          rw [decide_eq_true hm]
          rfl
        rw [e] at q
        exact q
      · show ((mins y : Nat) : Int) < ((mins x : Nat) : Int)
        omega
      · show (0 : Int) < ((as.map V.ref).length : Int)
        rw [List.length_map]
        omega
    · have hb0 : hopClash x es = es.any fun y => lname y == lname x && mins y == mins x := by
        unfold hopClash
        cases hy : es.getLast? with
        | none => rfl
        | some y =>
          show (decide (mins y < mins x) || _) = _
          rw [decide_eq_false fun z => c ⟨y, hy, z⟩]
          rfl
      refine via (fun hB => iteD (fun z => ?_) (fun _ => hB)) ?_
      · have nl : 0 < as.length := by
          have z' : (0 : Int) < ((as.map V.ref).length : Int) := z
          rw [List.length_map] at z'
          omega
        have ne : es ≠ [] := List.length_pos_iff.mp (by rw [← hR.len]; exact nl)
        obtain ⟨b, hb, ⟨dy, qy, hy1, hy2⟩, hyr, hp⟩ := hlast _ (List.getLast?_eq_some_getLast ne)
        refine ⟨_, rfl, _, rfl, _, rfl, l, _, -1, _, rfl, rfl, hLs, hb, b, C, dy, _, _, rfl, hy1, T.cl, T.nU, rowF_nums _ _, qy, _, 2, nV (mins _), rfl, rfl, SqL.of hy2, atI_nat (j := 2) (hop_at hyr), _, _, rfl, rfl, _, rfl, iteD (fun z => absurd z fun z' => c ⟨_, List.getLast?_eq_some_getLast ne, ?_⟩) (fun _ => hB)⟩
        have z2 : ((mins (es.getLast ne) : Nat) : Int) < ((mins x : Nat) : Int) := z'
        omega
      · refine ⟨_, rfl, l, rfl, ⟨_, hLs⟩, for_list (K := K) (a := l) (xs := as.map V.ref) (fun i σ H' => ∃ v, σ = [some (.ref a), some (.ref l), some (nV (mins x)), v] ∧ H' = H ∧ ((es.take i).any fun y => lname y == lname x && mins y == mins x) = false) ⟨none, rfl, rfl, rfl⟩ (fun i σ H' _ ⟨_, _, e, _⟩ => by rw [e]; exact hLs) ?_ ?_⟩
        · rintro i u σ H' hi ⟨v, rfl, rfl, hany⟩
          rw [List.getElem?_map] at hi
          cases eb : as[i]? with
          | none => rw [eb] at hi; cases hi
          | some b =>
            rw [eb] at hi
            obtain rfl : u = V.ref b := (Option.some.inj hi).symm
            obtain ⟨y, hy⟩ : ∃ y, es[i]? = some y := ⟨es[i]'(by rw [← hR.len]; exact (List.getElem?_eq_some_iff.mp eb).1), List.getElem?_eq_getElem _⟩
            obtain ⟨dy, qy, hy1, hy2⟩ := hR.at_ i b y eb hy
            have hyr := he y (List.mem_of_getElem? hy)
            refine ⟨_, rfl, b, C, dy, _, _, rfl, hy1, T.cl, T.nN, rowF_name _ _, _, rfl, a, C, dx, _, _, rfl, hx1, T.cl, T.nN, rowF_name _ _, rfl, _, rfl, ?_⟩
            refine via (fun hB => iteD (fun en => ⟨_, rfl, b, C, dy, _, _, rfl, hy1, T.cl, T.nU, rowF_nums _ _, qy, _, 2, nV (mins y), rfl, rfl, SqL.of hy2, atI_nat (j := 2) (hop_at hyr), _, rfl, rfl, _, rfl, iteD (fun em => ?_) (fun em => hB (fun z => em (nV_inj.mpr z.2)))⟩) (fun en => hB (fun z => en ((name_eq x y).mpr z.1)))) (fun hno : ¬ (lname y = lname x ∧ mins y = mins x) => ?_)
            · have e : hopClash x es = true := by
                rw [hb0, List.any_eq_true]
                exact ⟨y, List.mem_of_getElem? hy, by simp [(name_eq x y).mp en, nV_inj.mp em]⟩
              rw [e] at q
              exact q
            · refine ⟨_, rfl, rfl, ?_⟩
              rw [take_snoc hy, List.any_append, hany]
              have : (lname y == lname x && mins y == mins x) = false := by
                rw [Bool.and_eq_false_iff]
                by_cases h1 : lname y = lname x
                · exact .inr (beq_eq_false_iff_ne.mpr fun h2 => hno ⟨h1, h2⟩)
                · exact .inl (beq_eq_false_iff_ne.mpr h1)
              simp [this]
        · rintro σ H' ⟨v, rfl, rfl, hany⟩
          have e : hopClash x es = false := by
            rw [List.length_map, hR.len, List.take_length] at hany
            rw [hb0, hany]
          rw [e] at q
          exact q
end
end My

set_option maxRecDepth 100000
set_option maxHeartbeats 2000000
namespace My
open PySem PySem.Spec PyProof.Rows L2
open Br (Line Recipe)
theorem kind_inj {j k : Nat} (hj : j ≤ 4) (hk : k ≤ 4) (h : kindN j = kindN k) : j = k := by
  have := rank_kind hj
  rw [h, rank_kind hk] at this
  exact (Option.some.inj this).symm
theorem inV_names (x : Line) : ∀ es : Recipe, inV (wV (rk x).2.1) (es.map fun y => wV (rk y).2.1) = es.any fun y => lname y == lname x
  | [] => rfl
  | y :: r => by
    have ih := inV_names x r
    have e : eqV (wV (rk y).2.1) (wV (rk x).2.1) = (lname y == lname x) := by
      show (S (codes (lname y)) == S (codes (lname x))) = _
      rw [Bool.eq_iff_iff, beq_iff_eq, beq_iff_eq]
      exact ⟨fun h => codes_inj (S_inj h), fun h => by rw [h]⟩
    show (eqV (wV (rk y).2.1) (wV (rk x).2.1) || inV (wV (rk x).2.1) (r.map fun y => wV (rk y).2.1)) = ((lname y == lname x) || r.any _)
    rw [ih, e]
section
variable {P : Program} {w : World} {K : PySem.W.Frag} {mg : Str → Option Value} {base : Heap}
/-! ### clashes -/
theorem scClash : FnScope ["row", "earlier", "other"] ["row", "earlier"] (defScope sClash) := ⟨rfl, rfl, rfl, by decide +kernel, rfl, by decide +kernel, by decide +kernel⟩
def spClash (C : Addr) : Sp := fun vs H Q _ => ∃ (a l : Addr) (x : Line) (as : List Addr) (es : Recipe), vs = [.ref a, .ref l] ∧ RowAt C H a (rk x) ∧ H l = some (.lst (as.map V.ref)) ∧ RowsAt C H as es ∧ as.length ≤ 20000 ∧ (∀ y ∈ es, y.rank = x.rank) ∧ ∀ H', Same H H' → Q (.bl (clashM x es)) H'
theorem ok_clash {f fH C : Addr} {fd fdH : FuncData} (F : Fun K "clashes" "clashes" sClash f fd) (G : Df P w K mg base 1 "hop_clashes" ["row", "earlier"] (spHopC C) fH fdH) (T : RowT K mg C) : FnOk P w K mg base CX0 2 f fd ["row", "earlier"] (spClash C) := by
  refine F.ok scClash (fun vs H Q E h => ?_) (fun cdv A outer s H vs Q E hr h => ?_)
  · obtain ⟨a, l, x, as, es, rfl, _⟩ := h
    rfl
  · obtain ⟨a, l, x, as, es, rfl, hx, hl, hR, hsz, he, q⟩ := h
    obtain ⟨dx, qx, hx1, hx2⟩ := id hx
    refine ⟨_, pss_cons (ps_if (pt_cmpR op_eq (pe_fld (pv 0) rfl) pe_str (nomark _)) (pss_one (ps_ret (pe_call G.ok hr rfl G.g G.kp G.b .nil pass0 (pa_cons (pv 0) (pa_cons (pv 1) pa_nil))))) pss_nil) <|
      pss_one (ps_ret (pe_cmpR op_in_seq (pe_fld (pv 0) rfl) (pe_lc (own := [("other", 2)]) (g := gName 2) (tt := tYes) (te := tFld K (tVar 2) "name") rfl scClash.nd (pi_list (pv 1)) (blkOk_by (N := ["row", "earlier", "other"]) (sc := defScope sClash) (by decide +kernel))
        (fun _ _ _ _ _ => pg_name (i := 2) scClash.nd rfl (Or.inl rfl)) (fun _ _ _ _ _ => pts_nil) (fun _ _ _ _ _ => by exact pe_fld (pv 2) rfl)) (by rfl))), ?_⟩
    have eH : Str.ofString "hop" = S (kindN 2) := by decide +kernel
    refine ⟨_, rfl, a, C, dx, _, _, rfl, hx1, T.cl, T.nK, rowF_kind _ _, rfl, _, rfl, iteD (fun e => ?_) (fun e => ?_)⟩
    · have e2 : x.rank = 2 := by
        rw [eH] at e
        exact kind_inj (rank_le x) (by decide) (S_inj (V.str.inj e))
      refine ⟨_, rfl, _, rfl, a, l, x, as, es, rfl, hx, e2, hl, hR, fun y hy => (he y hy).trans e2, ?_⟩
      have ec : clashM x es = hopClash x es := if_pos e2
      rw [ec] at q
      exact q H (Same.refl H)
    · have e2 : x.rank ≠ 2 := fun z => e (by
        rw [eH]
        show wV (kindN x.rank) = wV (kindN 2)
        rw [z])
      refine ⟨_, rfl, a, C, dx, _, _, rfl, hx1, T.cl, T.nN, rowF_name _ _, _, rfl, l, rfl, ⟨_, SqL.of hl⟩, fun D hD => lc_list (K := K) (a := l) (xs := as.map V.ref) (fun i H' => Same H H' ∧ H' D = some (.lst ((es.take i).map fun y => wV (rk y).2.1))) ?_ ?_ ?_ ?_⟩
      · exact ⟨same_new hD, upd_same⟩
      · exact fun i H' _ p => SqL.of (p.1 _ _ hl)
      · intro i u H' hu p
        rw [List.getElem?_map] at hu
        cases eb : as[i]? with
        | none => rw [eb] at hu; cases hu
        | some b =>
          rw [eb] at hu
          obtain rfl : u = V.ref b := (Option.some.inj hu).symm
          have hi : i < es.length := by rw [← hR.len]; exact (List.getElem?_eq_some_iff.mp eb).1
          have hy : es[i]? = some es[i] := List.getElem?_eq_getElem hi
          obtain ⟨dy, qy, hy1, hy2⟩ := (hR.at_ i b es[i] eb hy).same p.1
          refine ⟨rfl, _, rfl, b, C, dy, _, _, rfl, hy1, T.cl, T.nN, rowF_name _ _, _, p.2, ?_, ?_, ?_⟩
          · rw [List.length_map, List.length_take]
            have := hR.len
            exact Nat.lt_of_le_of_lt (Nat.min_le_right _ _) (by rw [← hR.len]; exact Nat.lt_of_le_of_lt hsz (by decide))
          · exact fun c o ec => (upd_ne (ne_of_none ec hD)).trans (p.1 c o ec)
          · rw [upd_same, take_snoc hy, List.map_append]
            rfl
      · intro H' p
        rw [List.length_map, hR.len, List.take_length] at p
        refine ⟨D, _, rfl, .inl (SqL.of p.2), rfl, ?_, ?_⟩
        · rw [List.all_eq_true]
          intro v hv
          obtain ⟨y, _, rfl⟩ := List.mem_map.mp hv
          rfl
        · have ec : clashM x es = es.any fun y => lname y == lname x := if_neg e2
          rw [ec] at q
          have e1 := inV_names x es
          show Q (.bl (inV (wV (rk x).2.1) (es.map fun y => wV (rk y).2.1))) H'
          rw [e1]
          exact q H' p.1
/-! ### why_wrong -/
structure May (K : PySem.W.Frag) (w : World) (mg : Str → Option Value) (dM : Addr) (tM : Nat → Addr) : Prop where
  g : mg "MAY_FOLLOW" = some (.ref dM)
  get : ∀ k, k ≤ 4 → KDct K w dM (S (kindN k)) (.ref (tM k))
  tup : ∀ k, k ≤ 4 → ∀ H, SqT K H (tM k) ((mayN k).map wV)
def kvs (ls : Nat → Addr) : List (Key × V) := [(.inr (S kRecipe), .ref (ls 0)), (.inr (S kMalt), .ref (ls 1)), (.inr (S kHop), .ref (ls 2)), (.inr (S kAdd), .ref (ls 3)), (.inr (S kYeast), .ref (ls 4))]
/-- the rows of a recipe by kind, as they stand in the heap -/
structure RecAt (C : Addr) (H : Hp) (d : Addr) (ls : Nat → Addr) (rs : Nat → List Addr) (r : Recipe) : Prop where
  dict : H d = some (.dK (kvs ls))
  lst : ∀ k, k ≤ 4 → H (ls k) = some (.lst ((rs k).map V.ref))
  inj : ∀ j k, j ≤ 4 → k ≤ 4 → ls j = ls k → j = k
  rows : ∀ k, k ≤ 4 → RowsAt C H (rs k) (ofRank k r)
  apart : ∀ k, k ≤ 4 → ∀ a ∈ rs k, ∀ dx y q, H a = some (.ins C dx (rowF y q)) → ∀ j, j ≤ 4 → q ≠ ls j
theorem RowsAt.mem {C : Addr} {H : Hp} {as : List Addr} {es : Recipe} (R : RowsAt C H as es) {a : Addr} (h : a ∈ as) : ∃ x ∈ es, RowAt C H a (rk x) := by
  obtain ⟨i, hi, rfl⟩ := List.mem_iff_getElem.mp h
  have hj : i < es.length := by rw [← R.len]; exact hi
  exact ⟨es[i], List.getElem_mem hj, R.at_ i _ _ (List.getElem?_eq_getElem hi) (List.getElem?_eq_getElem hj)⟩
theorem RecAt.same {C : Addr} {H H' : Hp} {d : Addr} {ls : Nat → Addr} {rs : Nat → List Addr} {r : Recipe} (R : RecAt C H d ls rs r) (s : Same H H') : RecAt C H' d ls rs r := by
  refine ⟨s _ _ R.dict, fun k hk => s _ _ (R.lst k hk), R.inj, fun k hk => (R.rows k hk).same s, fun k hk a ha dx y q e => ?_⟩
  obtain ⟨x, _, dx0, q0, h1, _⟩ := (R.rows k hk).mem ha
  have e2 := (s _ _ h1).symm.trans e
  exact R.apart k hk a ha dx y q (h1.trans e2)
theorem kvs_get (ls : Nat → Addr) {k : Nat} (h : k ≤ 4) : valV (kvs ls) (.inr (S (kindN k))) = some (.ref (ls k)) := by
  have : k = 0 ∨ k = 1 ∨ k = 2 ∨ k = 3 ∨ k = 4 := by omega
  have n1 : ¬ (Sum.inr (S kRecipe) : Key) = .inr (S kMalt) := by decide +kernel
  have n2 : ¬ (Sum.inr (S kRecipe) : Key) = .inr (S kHop) := by decide +kernel
  have n3 : ¬ (Sum.inr (S kRecipe) : Key) = .inr (S kAdd) := by decide +kernel
  have n4 : ¬ (Sum.inr (S kRecipe) : Key) = .inr (S kYeast) := by decide +kernel
  have n5 : ¬ (Sum.inr (S kMalt) : Key) = .inr (S kHop) := by decide +kernel
  have n6 : ¬ (Sum.inr (S kMalt) : Key) = .inr (S kAdd) := by decide +kernel
  have n7 : ¬ (Sum.inr (S kMalt) : Key) = .inr (S kYeast) := by decide +kernel
  have n8 : ¬ (Sum.inr (S kHop) : Key) = .inr (S kAdd) := by decide +kernel
  have n9 : ¬ (Sum.inr (S kHop) : Key) = .inr (S kYeast) := by decide +kernel
  have n0 : ¬ (Sum.inr (S kAdd) : Key) = .inr (S kYeast) := by decide +kernel
  rcases this with rfl | rfl | rfl | rfl | rfl
  all_goals
    unfold valV kvs kindN
    simp only [List.find?, decide_true, decide_eq_false n1, decide_eq_false n2, decide_eq_false n3, decide_eq_false n4, decide_eq_false n5, decide_eq_false n6, decide_eq_false n7, decide_eq_false n8, decide_eq_false n9, decide_eq_false n0, Option.map]
theorem inV_may (l : List Nat) : ∀ ms : List (List Nat), inV (wV l) (ms.map wV) = decide (l ∈ ms)
  | [] => rfl
  | m :: r => by
    have ih := inV_may l r
    show ((S m == S l) || inV (wV l) (r.map wV)) = _
    rw [ih, Bool.eq_iff_iff, Bool.or_eq_true, beq_iff_eq, decide_eq_true_eq, decide_eq_true_eq, List.mem_cons]
    exact or_congr ⟨fun h => (S_inj h).symm, fun h => by rw [h]⟩ Iff.rfl
theorem scWhy : FnScope ["row", "before", "earlier"] ["row", "before", "earlier"] (defScope sWhy) := ⟨rfl, rfl, rfl, by decide +kernel, rfl, by decide +kernel, by decide +kernel⟩
def spWhy (C : Addr) : Sp := fun vs H Q _ => (∃ b d, vs = [.non, b, d] ∧ Q (.int 1) H) ∨ ∃ (a d : Addr) (x : Line) (ls : Nat → Addr) (rs : Nat → List Addr) (r : Recipe), vs = [.ref a, wV (bef r), .ref d] ∧ RowAt C H a (rk x) ∧ RecAt C H d ls rs r ∧ r.length ≤ 20000 ∧ ∀ H', Same H H' → Q (nV (whyM r x)) H'
theorem ok_why {f fH C dM : Addr} {fd fdH : FuncData} {tM : Nat → Addr} (F : Fun K "why_wrong" "why_wrong" sWhy f fd) (G : Df P w K mg base 2 "clashes" ["row", "earlier"] (spClash C) fH fdH) (T : RowT K mg C) (Y : May K w mg dM tM) (ml : mg "len" = none)
    (c1 : Cn mg "UNFORMED" (.int 1)) (c3 : Cn mg "CANNOT_STAND" (.int 3)) (c4 : Cn mg "CLASHES" (.int 4)) (c2 : Cn mg "TOO_MUCH" (.int 2)) (c16 : Cn mg "MOST_OF_A_KIND" (.int 16)) : FnOk P w K mg base CX0 3 f fd ["row", "before", "earlier"] (spWhy C) := by
  obtain ⟨u1, g1, r1⟩ := c1
  obtain ⟨u2, g2, r2⟩ := c2
  obtain ⟨u3, g3, r3⟩ := c3
  obtain ⟨u4, g4, r4⟩ := c4
  obtain ⟨u6, g6, r6⟩ := c16
  refine F.ok scWhy (fun vs H Q E h => ?_) (fun cdv A outer s H vs Q E hr h => ?_)
  · rcases h with ⟨b, d, rfl, _⟩ | ⟨a, d, x, ls, rs, r, rfl, _⟩ <;> rfl
  · have hu := hu_of hr
    refine ⟨_, pss_cons (ps_if (pt_cmpR op_isN (pv 0) pe_non (nomark _)) (pss_one (ps_ret (pe_glob rfl g1 r1))) pss_nil) <|
      pss_cons (ps_if (pt_cmpR op_notIn_seq (pv 1) (pe_ix ix_kdict (pe_glob (v := .ref dM) rfl Y.g rfl) (pe_fld (pv 0) rfl) (fun _ _ => rfl)) (by rfl)) (pss_one (ps_ret (pe_glob rfl g3 r3))) pss_nil) <|
      pss_cons (ps_if (pt_val (pe_call G.ok hr rfl G.g G.kp G.b .nil pass0 (pa_cons (pv 0) (pa_cons (pe_dget hu (pv 2) (pe_fld (pv 0) rfl) (fun _ _ => rfl)) pa_nil)))) (pss_one (ps_ret (pe_glob rfl g4 r4))) pss_nil) <|
      pss_cons (ps_if (pt_cmpR op_ge (pe_callB call_len_seq (by rfl) ml PySem.boot_len (pa_cons (pe_dget hu (pv 2) (pe_fld (pv 0) rfl) (fun _ _ => rfl)) pa_nil)) (pe_glob rfl g6 r6) (nomark _)) (pss_one (ps_ret (pe_glob rfl g2 r2))) pss_nil) <|
      pss_one (ps_ret pe_int), ?_⟩
    rcases h with ⟨b, d, rfl, q⟩ | ⟨a, d, x, ls, rs, r, rfl, hx, R, hsz, q⟩
    · exact ⟨_, rfl, rfl, _, rfl, q⟩
    · obtain ⟨dx, qx, hx1, hx2⟩ := id hx
      have hk := rank_le x
      have hfl : ((mayN x.rank).map wV).all flatV = true := by
        rw [List.all_eq_true]
        intro v hv
        obtain ⟨y, _, rfl⟩ := List.mem_map.mp hv
        rfl
      refine ⟨_, rfl, rfl, _, rfl, ?_⟩
      refine ⟨_, rfl, _, rfl, a, C, dx, _, _, rfl, hx1, T.cl, T.nK, rowF_kind _ _, dM, _, _, rfl, rfl, Y.get _ hk, tM x.rank, _, rfl, .inr (Y.tup _ hk _), rfl, hfl, _, rfl, ?_⟩
      have eV := inV_may (bef r) (mayN x.rank)
      by_cases c : bef r ∈ mayN x.rank
      · rw [decide_eq_true c] at eV
        rw [eV]
        have hg := DGet.k (k := Sum.inr (S (kindN x.rank))) R.dict
        rw [kvs_get ls hk] at hg
        have hlen : (rs x.rank).length ≤ 20000 := by
          rw [(R.rows _ hk).len]
          exact Nat.le_trans (ofRank_le _ _) hsz
        refine ⟨_, rfl, _, rfl, _, rfl, a, C, dx, _, _, rfl, hx1, T.cl, T.nK, rowF_kind _ _, d, _, rfl, hg, a, ls x.rank, x, rs x.rank, ofRank x.rank r, rfl, hx, R.lst _ hk, R.rows _ hk, hlen, ?_, fun H2 s2 => ⟨_, rfl, ?_⟩⟩
        · intro y hy
          have := (List.mem_filter.mp hy).2
          simpa using this
        · have e1 : whyM r x = if clashM x (ofRank x.rank r) = true then 4 else if 16 ≤ (ofRank x.rank r).length then 2 else 0 := by
            unfold whyM
            rw [if_neg (fun z => z c)]
          cases hc : clashM x (ofRank x.rank r) with
          | true =>
            rw [hc, if_pos rfl] at e1
            rw [e1] at q
            exact q H2 s2
          | false =>
            rw [hc, if_neg Bool.false_ne_true] at e1
            have R2 := R.same s2
            have hg2 := DGet.k (k := Sum.inr (S (kindN x.rank))) R2.dict
            rw [kvs_get ls hk] at hg2
            refine ⟨_, rfl, _, rfl, a, C, dx, _, _, rfl, s2 _ _ hx1, T.cl, T.nK, rowF_kind _ _, d, _, rfl, hg2, ls x.rank, _, rfl, .inl (SqL.of (R2.lst _ hk)), _, _, rfl, rfl, _, rfl, iteD (fun z => ?_) (fun z => ?_)⟩
            · have z' : (16 : Int) ≤ (((rs x.rank).map V.ref).length : Int) := z
              rw [List.length_map, (R.rows _ hk).len] at z'
              rw [if_pos (by omega)] at e1
              rw [e1] at q
              exact q H2 s2
            · have z' : ¬ (16 : Int) ≤ (((rs x.rank).map V.ref).length : Int) := z
              rw [List.length_map, (R.rows _ hk).len] at z'
              rw [if_neg (by omega)] at e1
              rw [e1] at q
              exact q H2 s2
      · rw [decide_eq_false c] at eV
        rw [eV]
        have e1 : whyM r x = 3 := if_pos c
        rw [e1] at q
        exact q H (Same.refl H)
/-! ### why_wrong_at_end -/
theorem scWhyE : FnScope ["rest", "before"] ["rest", "before"] (defScope sWhyE) := ⟨rfl, rfl, rfl, by decide +kernel, rfl, by decide +kernel, by decide +kernel⟩
def endM (rest b : List Nat) : Nat := if rest ≠ [] then 1 else if b ≠ kYeast then 3 else 0
def spWhyE : Sp := fun vs H Q _ => ∃ rest b : List Nat, vs = [wV rest, wV b] ∧ Q (nV (endM rest b)) H
theorem ok_whyE {f : Addr} {fd : FuncData} (F : Fun K "why_wrong_at_end" "why_wrong_at_end" sWhyE f fd) (c1 : Cn mg "UNFORMED" (.int 1)) (c3 : Cn mg "CANNOT_STAND" (.int 3)) : FnOk P w K mg base CX0 1 f fd ["rest", "before"] spWhyE := by
  obtain ⟨u1, g1, r1⟩ := c1
  obtain ⟨u3, g3, r3⟩ := c3
  refine F.ok scWhyE (fun vs H Q E h => ?_) (fun cdv A outer s H vs Q E hr h => ?_)
  · obtain ⟨rest, b, rfl, _⟩ := h
    rfl
  · obtain ⟨rest, b, rfl, q⟩ := h
    refine ⟨_, pss_cons (ps_if (pt_cmpR op_ne (pv 0) pe_str (nomark _)) (pss_one (ps_ret (pe_glob rfl g1 r1))) pss_nil) <|
      pss_cons (ps_if (pt_cmpR op_ne (pv 1) pe_str (nomark _)) (pss_one (ps_ret (pe_glob rfl g3 r3))) pss_nil) <|
      pss_one (ps_ret pe_int), ?_⟩
    have e0 : Str.ofString "" = S [] := by decide +kernel
    have eY : Str.ofString "yeast" = S kYeast := by decide +kernel
    refine ⟨_, rfl, rfl, _, rfl, iteN (fun e => ?_) (fun e => ?_)⟩
    · have ne : rest ≠ [] := fun z => e (by rw [e0, z]; rfl)
      have : endM rest b = 1 := if_pos ne
      rw [this] at q
      exact q
    · have eq : rest = [] := by
        rw [e0] at e
        exact S_inj (V.str.inj e)
      refine ⟨_, rfl, rfl, _, rfl, iteN (fun e2 => ?_) (fun e2 => ?_)⟩
      · have ne : b ≠ kYeast := fun z => e2 (by rw [eY, z]; rfl)
        have : endM rest b = 3 := (if_neg (fun z => z eq)).trans (if_pos ne)
        rw [this] at q
        exact q
      · have eq2 : b = kYeast := by
          rw [eY] at e2
          exact S_inj (V.str.inj e2)
        have : endM rest b = 0 := (if_neg (fun z => z eq)).trans (if_neg (fun z => z eq2))
        rw [this] at q
        exact q
end
end My

set_option maxRecDepth 100000
set_option maxHeartbeats 2000000
namespace My
open PySem PySem.Spec PyProof.Rows L2
open Br (Line Recipe Bytes)
/-! ### the whole text -/
theorem cut_lines (t : Bytes) : cutN 10 (cd t) = (lns t).map cd ++ [cd (rst t)] := by
  have e : cutN 10 (cd t) = (Br.cutAt 10 t).map cd := cutN_cd (c := 10) (by decide) (by decide) t
  have ne := cutAt_ne 10 t
  rw [e]
  unfold lns rst
  have h := List.dropLast_concat_getLast ne
  have h2 : (Br.cutAt 10 t).getLastD [] = (Br.cutAt 10 t).getLast ne := by
    rw [List.getLastD_eq_getLast?, List.getLast?_eq_some_getLast ne]
    rfl
  rw [h2]
  conv => lhs; rw [← h]
  rw [List.map_append]
  rfl
theorem cd_nil {b : Bytes} : cd b = [] ↔ b = [] := by
  unfold cd
  exact List.map_eq_nil_iff
theorem go_end {r : Recipe} {rt : Bytes} (hF : Fine r) (n : Nat) : goF n r [] rt = if endM (cd rt) (bef r) = 0 then .ok r else .error (n, endM (cd rt) (bef r)) := by
  have e1 : goF n r [] rt = if rt ≠ [] then .error (n, 1) else if Br.ends r = true then .ok r else .error (n, 3) := by
    unfold goF
    rfl
  rw [e1]
  by_cases h1 : rt = []
  · have h2 : ¬ rt ≠ [] := fun z => z h1
    have e2 : endM (cd rt) (bef r) = if bef r ≠ kYeast then 3 else 0 := if_neg (fun z => z (cd_nil.mpr h1))
    rw [if_neg h2, e2, ends_bef hF]
    by_cases h3 : bef r = kYeast
    · have h4 : ¬ bef r ≠ kYeast := fun z => z h3
      rw [if_neg h4, decide_eq_true h3]
      rfl
    · have h4 : bef r ≠ kYeast := h3
      rw [if_pos h4, decide_eq_false h3]
      rfl
  · have h2 : rt ≠ [] := h1
    have e2 : endM (cd rt) (bef r) = 1 := if_pos (fun z => h1 (cd_nil.mp z))
    rw [if_pos h2, e2]
    rfl
def reaF (d z : Addr) : List (Str × V) := [("rows", .ref d), ("refusal", .ref z)]
theorem reaF_rows (d z : Addr) : (reaF d z).lookup ("rows" : Str) = some (.ref d) := lk_hit
theorem reaF_ref (d z : Addr) : (reaF d z).lookup ("refusal" : Str) = some (.ref z) := (lk_miss (by decide +kernel)).trans lk_hit
structure ReaT (K : PySem.W.Frag) (mg : Str → Option Value) (C : Addr) : Prop where
  cl : Cls K C
  nR : NoAttr K C "rows"
  nF : NoAttr K C "refusal"
  g : mg "Reading" = some (.ref C)
/-- all stands but the five lists -/
def Kp (ls : Nat → Addr) (H H' : Hp) : Prop := ∀ b o, H b = some o → (∀ k, k ≤ 4 → b ≠ ls k) → H' b = some o
theorem Kp.of {ls : Nat → Addr} {H H1 H2 : Hp} (k : Kp ls H H1) (s : Same H1 H2) : Kp ls H H2 := fun b o e n => s b o (k b o e n)
theorem Kp.free {ls : Nat → Addr} {H H' : Hp} {C d : Addr} {rs : Nat → List Addr} {r : Recipe} (k : Kp ls H H') (R : RecAt C H' d ls rs r) {p : Addr} (h : H' p = none) : H p = none := by
  cases e : H p with
  | none => rfl
  | some o =>
    have := k p o e fun j hj z => by
      have := R.lst j hj
      rw [← z, h] at this
      cases this
    rw [h] at this
    cases this
def outM : Except (Nat × Nat) Recipe → List V
  | .ok _ => []
  | .error e => [nV e.1, nV e.2]
def rsNew (rs : Nat → List Addr) (k : Nat) (p : Addr) : Nat → List Addr := fun j => if j = k then rs j ++ [p] else rs j
theorem RecAt.grow {C : Addr} {H : Hp} {d p dx q : Addr} {ls : Nat → Addr} {rs : Nat → List Addr} {r : Recipe} {x : Line} (R : RecAt C H d ls rs r) (hp : H p = some (.ins C dx (rowF (rk x) q))) (hq : H q = some (.lst ((rk x).2.2.map nV))) (nq : ∀ j, j ≤ 4 → q ≠ ls j) :
    RecAt C (upd H (ls x.rank) (.lst ((rs x.rank).map V.ref ++ [.ref p]))) d ls (rsNew rs x.rank p) (r ++ [x]) := by
  have hk := rank_le x
  have hl := R.lst _ hk
  have nd : d ≠ ls x.rank := ne_of R.dict hl (by intro z; cases z)
  have np : p ≠ ls x.rank := ne_of hp hl (by intro z; cases z)
  have keep : ∀ {a : Addr} {y : Nat × List Nat × List Nat} {e0 q0 : Addr}, H a = some (.ins C e0 (rowF y q0)) → (upd H (ls x.rank) (.lst ((rs x.rank).map V.ref ++ [.ref p]))) a = some (.ins C e0 (rowF y q0)) := fun h => (upd_ne (ne_of h hl (by intro z; cases z))).trans h
  have back : ∀ {a : Addr} {e0 : Addr} {y : Nat × List Nat × List Nat} {q0 : Addr}, (upd H (ls x.rank) (.lst ((rs x.rank).map V.ref ++ [.ref p]))) a = some (.ins C e0 (rowF y q0)) → H a = some (.ins C e0 (rowF y q0)) := by
    intro a e0 y q0 h
    by_cases e : a = ls x.rank
    · rw [e, upd_same] at h
      cases h
    · rw [upd_ne e] at h
      exact h
  refine ⟨(upd_ne nd).trans R.dict, fun k h4 => ?_, R.inj, fun k h4 => ?_, fun k h4 a ha e0 y q0 h => ?_⟩
  · unfold rsNew
    by_cases e : k = x.rank
    · rw [if_pos e, e, upd_same, List.map_append]
      rfl
    · rw [if_neg e, upd_ne (fun z => e (R.inj _ _ h4 hk z))]
      exact R.lst k h4
  · have old : ∀ (i : Nat) (a : Addr) (z : Line), (rs k)[i]? = some a → (ofRank k r)[i]? = some z → RowAt C (upd H (ls x.rank) (.lst ((rs x.rank).map V.ref ++ [.ref p]))) a (rk z) := fun i a z h1 h2 => by
      obtain ⟨e0, q0, g1, g2⟩ := (R.rows k h4).at_ i a z h1 h2
      have nq0 := R.apart k h4 a (List.mem_of_getElem? h1) _ _ _ g1 x.rank hk
      exact ⟨e0, q0, keep g1, (upd_ne nq0).trans g2⟩
    unfold rsNew
    rw [rank_snoc]
    by_cases e : k = x.rank
    · rw [if_pos e, if_pos e.symm]
      have hlen := (R.rows k h4).len
      refine ⟨by rw [List.length_append, List.length_append, hlen]; rfl, fun i a z h1 h2 => ?_⟩
      by_cases hi : i < (rs k).length
      · rw [List.getElem?_append_left hi] at h1
        rw [List.getElem?_append_left (by rw [← hlen]; exact hi)] at h2
        exact old i a z h1 h2
      · rw [List.getElem?_append_right (by omega)] at h1
        rw [List.getElem?_append_right (by omega), ← hlen] at h2
        have h0 : i - (rs k).length = 0 := by
          have := (List.getElem?_eq_some_iff.mp h1).1
          simp at this
          omega
        rw [h0] at h1 h2
        have ea : p = a := Option.some.inj h1
        have ez : x = z := Option.some.inj h2
        subst ea ez
        exact ⟨dx, q, keep hp, (upd_ne (nq _ hk)).trans hq⟩
    · rw [if_neg e, if_neg (fun z => e z.symm), List.append_nil]
      exact ⟨(R.rows k h4).len, old⟩
  · have h' := back h
    unfold rsNew at ha
    by_cases e : k = x.rank
    · rw [if_pos e] at ha
      rcases List.mem_append.mp ha with z | z
      · exact R.apart k h4 a z _ _ _ h'
      · have ea : a = p := List.mem_singleton.mp z
        rw [ea, hp] at h'
        have hf : rowF (rk x) q = rowF y q0 := (HO.ins.inj (Option.some.inj h')).2.2
        have e3 : V.ref q = V.ref q0 := by
          have := congrArg (fun l => List.lookup (Str.ofString "numbers") l) hf
          have t : some (V.ref q) = some (V.ref q0) := (rowF_nums (rk x) q).symm.trans (this.trans (rowF_nums y q0))
          exact Option.some.inj t
        rw [← V.ref.inj e3]
        exact nq
    · rw [if_neg e] at ha
      exact R.apart k h4 a ha _ _ _ h'
section
variable {P : Program} {w : World} {K : PySem.W.Frag} {mg : Str → Option Value} {base : Heap}
/-! ### read_lines -/
theorem scLines : FnScope ["reading", "text", "lines", "rest", "before", "number", "signs", "row", "why"] ["reading", "text"] (defScope sLines) := ⟨rfl, rfl, rfl, by decide +kernel, rfl, by decide +kernel, by decide +kernel⟩
def spLines (K : PySem.W.Frag) (C CG : Addr) : Sp := fun vs H Q _ => ∃ (g a dg d z : Addr) (ls : Nat → Addr) (rs : Nat → List Addr) (bs : Bytes), vs = [.ref g, .ref a] ∧ H g = some (.ins CG dg (reaF d z)) ∧ RecAt C H d ls rs [] ∧ SqL K H a (bs.map byV) ∧ bs.length ≤ 16384 ∧
  ∀ H' p, Kp ls H H' → H p = none → H' p = some (.lst (outM (Br.readRecipe bs))) → (∀ r, Br.readRecipe bs = .ok r → ∃ rs', RecAt C H' d ls rs' r) → Q (.ref p) H'
theorem ok_lines {f fS fR fW fE C CG : Addr} {fd fdS fdR fdW fdE : FuncData} (F : Fun K "read_lines" "read_lines" sLines f fd) (GS : Df P w K mg base 2 "spell" ["text"] (spSpell K) fS fdS) (GR : Df P w K mg base 4 "row_of" ["signs"] (spRow C) fR fdR)
    (GW : Df P w K mg base 3 "why_wrong" ["row", "before", "earlier"] (spWhy C) fW fdW) (GE : Df P w K mg base 1 "why_wrong_at_end" ["rest", "before"] spWhyE fE fdE) (T : RowT K mg C) (TG : ReaT K mg CG) (ml : mg "len" = none) (me : mg "enumerate" = none) :
    FnOk P w K mg base CX0 5 f fd ["reading", "text"] (spLines K C CG) := by
  refine F.ok scLines (fun vs H Q E h => ?_) (fun cdv A outer s H vs Q E hr h => ?_)
  · obtain ⟨g, a, dg, d, z, ls, rs, bs, rfl, _⟩ := h
    rfl
  · obtain ⟨g, a, dg, d, z, ls, rs, bs, rfl, hg, R0, hS, hbl, q⟩ := h
    have hu := hu_of hr
    have hr2 : Room 2 _ := hr.mono (by decide)
    have hr3 : Room 3 _ := hr.mono (by decide)
    have hr1 : Room 1 _ := hr.mono (by decide)
    refine ⟨_, pss_cons (ps_set (i := 2) scLines.nd rfl (.inl rfl) (pe_split (pe_call GS.ok hr2 rfl GS.g GS.kp GS.b .nil pass0 (pa_cons (pv 1) pa_nil)) pe_str)) <|
      pss_cons (ps_set (i := 3) scLines.nd rfl (.inl rfl) (pe_bm0 PySem.F.plainAttrs_list PySem.F.slot_list_pop PySem.F.type_list_pop mt_pop (pv 2))) <|
      pss_cons (ps_set (i := 4) scLines.nd rfl (.inl rfl) pe_str) <|
      pss_cons (ps_for PassesOwn.never rfl (pi_enum (by rfl) me (pa_cons (pv 2) pa_nil)) (pg_tup rfl (pgs_cons (pg_name (i := 5) scLines.nd rfl (.inl rfl)) (pgs_cons (pg_name (i := 6) scLines.nd rfl (.inl rfl)) pgs_nil)))
        (pss_cons (ps_set (i := 7) scLines.nd rfl (.inl rfl) (pe_call GR.ok hr rfl GR.g GR.kp GR.b .nil pass0 (pa_cons (pv 6) pa_nil))) <|
          pss_cons (ps_set (i := 8) scLines.nd rfl (.inl rfl) (pe_call GW.ok hr3 rfl GW.g GW.kp GW.b .nil pass0 (pa_cons (pv 7) (pa_cons (pv 4) (pa_cons (pe_fld (pv 0) rfl) pa_nil))))) <|
          pss_cons (ps_if (pt_cmpR op_ne (pv 8) pe_int (nomark _)) (pss_one (ps_ret (pe_lst (pa_cons (pv 5) (pa_cons (pv 8) pa_nil))))) pss_nil) <|
          pss_cons (ps_expr (pe_bm PySem.F.plainAttrs_list PySem.F.slot_list_append PySem.F.type_list_append mt_append (pe_dget hu (pe_fld (pv 0) rfl) (pe_fld (pv 7) rfl) (fun _ _ => rfl)) (pa_cons (pv 7) pa_nil))) <|
          pss_one (ps_set (i := 4) scLines.nd rfl (.inl rfl) (pe_fld (pv 7) rfl)))) <|
      pss_cons (ps_set (i := 8) scLines.nd rfl (.inl rfl) (pe_call GE.ok hr1 rfl GE.g GE.kp GE.b .nil pass0 (pa_cons (pv 3) (pa_cons (pv 4) pa_nil)))) <|
      pss_one (ps_ret (pe_ifExp (pt_cmpR op_eq (pv 8) pe_int (nomark _)) (pe_lst pa_nil) (pe_lst (pa_cons (pe_callB call_len_seq (by rfl) ml PySem.boot_len (pa_cons (pv 2) pa_nil)) (pa_cons (pv 8) pa_nil))))), ?_⟩
    have eN : Str.ofString "\n" = S [10] := S_nl
    have e0 : Str.ofString "" = S [] := by decide +kernel
    have hcl : (cd bs).length = bs.length := List.length_map ..
    -- lines = spell(text).split('\n')
    refine ⟨_, rfl, a, bs, rfl, hS, hbl, fun H1 s1 => ⟨⟨_, rfl⟩, S (cd bs), Str.ofString "\n", rfl, rfl, (by decide +kernel), ?_, fun L nL => ?_⟩⟩
    · rw [S_len, hcl]
      exact Nat.le_trans (Nat.add_le_add_right hbl 2) (by decide)
    rw [eN, split_cutN 10 (by decide), cut_lines]
    -- rest = lines.pop()
    have hsmall : ∀ b ∈ lns bs, (cd b).length ≤ 16384 := fun b hb => by
      have := cutN_small 10 (cd bs) (cd b) (by rw [cut_lines]; exact List.mem_append_left _ (List.mem_map_of_mem hb))
      omega
    have hcount : (lns bs).length ≤ 16384 := by
      have h1 := cutN_count 10 (cd bs)
      rw [cut_lines, List.length_append, List.length_map] at h1
      simp at h1
      omega
    generalize hln : lns bs = ln at *
    generalize hrs : rst bs = rt at *
    have hread : Br.readRecipe bs = goF 0 [] ln rt := by rw [read_go, hln, hrs]
    have eAll : ((ln.map cd ++ [cd rt]).map S).map V.str = (ln.map fun b => wV (cd b)) ++ [wV (cd rt)] := by
      rw [List.map_append, List.map_append, List.map_map, List.map_map]
      rfl
    rw [eAll]
    generalize hlv : (ln.map fun b => wV (cd b)) = lv at *
    have hlvl : lv.length = ln.length := by rw [← hlv, List.length_map]
    refine ⟨_, rfl, .inl ⟨rfl, _, SqL.of upd_same⟩, L, _, wV (cd rt), rfl, rfl, upd_same, ?_, ?_⟩
    · rw [List.length_append]
      show (lv ++ [wV (cd rt)])[lv.length + 1 - 1]? = _
      rw [Nat.add_sub_cancel, List.getElem?_append_right (Nat.le_refl _), Nat.sub_self]
      rfl
    rw [List.dropLast_concat, upd_upd]
    have nLls : ∀ k, k ≤ 4 → L ≠ ls k := fun k hk z => by
      have := s1 _ _ (R0.lst k hk)
      rw [← z, nL] at this
      cases this
    have s2 : Same H (upd H1 L (.lst lv)) := s1.trans (same_new nL)
    refine ⟨_, rfl, L, lv, rfl, SqL.of upd_same, for_it (walk_enum (xs := lv)) (fun i σ H' => ∃ (r : Recipe) (rs : Nat → List Addr) (v5 v6 v7 v8 : Option V), σ = [some (.ref g), some (.ref a), some (.ref L), some (wV (cd rt)), some (wV (bef r)), v5, v6, v7, v8] ∧ Fine r ∧ r.length = i ∧ i ≤ ln.length ∧
      goF 0 [] ln rt = goF i r (ln.drop i) rt ∧ RecAt C H' d ls rs r ∧ Kp ls H H' ∧ H' L = some (.lst lv)) ?_ ?_ ?_ ?_⟩
    · exact ⟨[], rs, none, none, none, none, by rw [e0]; rfl, fine_nil, rfl, Nat.zero_le _, rfl, R0.same s2, fun b o e _ => s2 b o e, upd_same⟩
    · rintro i σ H' hi ⟨r, rs', v5, v6, v7, v8, rfl, hF, hri, hil, hgo, R, kp, hL⟩
      exact SqL.of hL
    · rintro i u σ H2 H3 hi ⟨r, rs', v5, v6, v7, v8, rfl, hF, hri, hil, hgo, R, kp, hL⟩ ⟨T', x', y', rfl, nT, rfl, hx, hy⟩
      rw [hlvl] at hi
      have hbi : ln[i]? = some ln[i] := List.getElem?_eq_getElem hi
      obtain rfl : V.int (i : Nat) = x' := Option.some.inj hx
      obtain rfl : wV (cd ln[i]) = y' := by
        have hy' : lv[i]? = some y' := hy
        rw [← hlv, List.getElem?_map, hbi] at hy'
        exact Option.some.inj hy'
      have hgo2 : goF i r (ln.drop i) rt = goF i r (ln[i] :: ln.drop (i + 1)) rt := by rw [List.drop_eq_getElem_cons hi]
      have hrl := row_line ln[i]
      have sT : Same H2 (upd H2 T' (.tup [.int (i : Nat), wV (cd ln[i])])) := same_new nT
      refine ⟨T', _, rfl, .inl (.inl upd_same), rfl, _, _, rfl, _, _, rfl, rfl, ?_⟩
      refine ⟨_, rfl, cd ln[i], rfl, hsmall _ (List.getElem_mem hi), fun hn H4 s4 => ?_, fun y hy2 H4 p dx qq s4 np nq hp hq => ?_⟩
      · have s24 := sT.trans s4
        have hg4 := s24 _ _ (kp _ _ hg (fun k hk => ne_of hg (R0.lst k hk) (by intro z; cases z)))
        refine ⟨_, rfl, _, rfl, _, rfl, g, CG, dg, _, _, rfl, hg4, TG.cl, TG.nR, reaF_rows _ _, .inl ⟨_, _, rfl, ?_⟩⟩
        refine ⟨_, rfl, rfl, _, rfl, iteN (fun _ => ?_) (fun z => absurd z (by decide))⟩
        refine ⟨_, rfl, _, rfl, (by show 2 ≤ sizeLine; decide), fun p' np' => ?_⟩
        have hl0 : Br.lineIn ln[i] = none := by
          rw [hn] at hrl
          cases e : Br.lineIn ln[i] with
          | none => rfl
          | some x => rw [e] at hrl; cases hrl
        have hres : Br.readRecipe bs = .error (i, 1) := by
          rw [hread, hgo, hgo2]
          unfold goF
          rw [hl0]
        have R4 := R.same s24
        have kp4 := (kp.of s24)
        refine q _ p' (kp4.of (same_new np')) (kp4.free R4 np') ?_ (fun r' e => by rw [hres] at e; cases e)
        rw [upd_same, hres]
        rfl
      · have s24 := sT.trans s4
        have hg4 := s24 _ _ (kp _ _ hg (fun k hk => ne_of hg (R0.lst k hk) (by intro z; cases z)))
        obtain ⟨x, hl0, rfl⟩ : ∃ x, Br.lineIn ln[i] = some x ∧ y = rk x := by
          rw [hy2] at hrl
          cases e : Br.lineIn ln[i] with
          | none => rw [e] at hrl; cases hrl
          | some x => rw [e] at hrl; exact ⟨x, rfl, Option.some.inj hrl⟩
        have R4 := R.same s24
        have kp4 := (kp.of s24)
        refine ⟨_, rfl, _, rfl, _, rfl, g, CG, dg, _, _, rfl, hg4, TG.cl, TG.nR, reaF_rows _ _, .inr ⟨p, d, x, ls, rs', r, rfl, ⟨dx, qq, hp, hq⟩, R4, by omega, fun H5 s5 => ?_⟩⟩
        have R5 := R4.same s5
        have kp5 := kp4.of s5
        have hp5 := s5 _ _ hp
        have hq5 := s5 _ _ hq
        have hg5 := s5 _ _ hg4
        have hL5 := s5 _ _ (s24 _ _ hL)
        rw [why_wrong hF x]
        refine ⟨_, rfl, rfl, _, rfl, iteN (fun e => ?_) (fun e => ?_)⟩
        · have hw : Br.wrongOf r x ≠ 0 := fun z => e (by rw [z]; rfl)
          refine ⟨_, rfl, _, rfl, (by show 2 ≤ sizeLine; decide), fun p' np' => ?_⟩
          have hres : Br.readRecipe bs = .error (i, Br.wrongOf r x) := by
            rw [hread, hgo, hgo2]
            unfold goF
            rw [hl0]
            exact if_neg hw
          refine q _ p' (kp5.of (same_new np')) (kp5.free R5 np') ?_ (fun r' e => by rw [hres] at e; cases e)
          rw [upd_same, hres]
          rfl
        · have hw : Br.wrongOf r x = 0 := nV_inj.mp e
          have hk := rank_le x
          have hgt := DGet.k (k := Sum.inr (S (kindN x.rank))) R5.dict
          rw [kvs_get ls hk] at hgt
          have nqls : ∀ j, j ≤ 4 → qq ≠ ls j := fun j hj z => by
            have := (R.same sT).lst j hj
            rw [← z, nq] at this
            cases this
          have R6 := R5.grow hp5 hq5 nqls
          have hlen5 : (rs' x.rank).length ≤ 16384 := by
            rw [(R5.rows _ hk).len]
            have := ofRank_le x.rank r
            omega
          refine ⟨_, rfl, g, CG, dg, _, _, rfl, hg5, TG.cl, TG.nR, reaF_rows _ _, _, rfl, p, C, dx, _, _, rfl, hp5, T.cl, T.nK, rowF_kind _ _, d, _, rfl, hgt, .inl ⟨rfl, _, SqL.of (R5.lst _ hk)⟩, _, rfl, ls x.rank, _, _, rfl, rfl, R5.lst _ hk, ?_, ?_⟩
          · rw [List.length_map]
            exact Nat.lt_of_le_of_lt hlen5 (by decide)
          · have np6 : p ≠ ls x.rank := ne_of hp5 (R5.lst _ hk) (by intro z; cases z)
            refine ⟨_, rfl, p, C, dx, _, _, rfl, (upd_ne np6).trans hp5, T.cl, T.nK, rowF_kind _ _, ?_⟩
            refine ⟨r ++ [x], _, some (V.int (i : Nat)), some (wV (cd ln[i])), some (V.ref p), some (nV (Br.wrongOf r x)), ?_, fine_snoc hF hw, by rw [List.length_append, hri]; rfl, hi, ?_, R6, ?_, ?_⟩
            · rw [bef_snoc]
              rfl
            · rw [hgo, hgo2]
              conv => lhs; unfold goF
              rw [hl0]
              exact if_pos hw
            · exact fun b o eb nb => (upd_ne (nb _ hk)).trans (kp5 b o eb nb)
            · exact (upd_ne (nLls _ hk)).trans hL5
    · rintro σ H' ⟨r, rs', v5, v6, v7, v8, rfl, hF, hri, hil, hgo, R, kp, hL⟩
      rw [hlvl, List.drop_length] at hgo
      refine ⟨_, rfl, _, rfl, cd rt, bef r, rfl, ?_⟩
      have hend : Br.readRecipe bs = if endM (cd rt) (bef r) = 0 then .ok r else .error (ln.length, endM (cd rt) (bef r)) := by
        rw [hread, hgo]
        exact go_end hF _
      refine ⟨_, rfl, rfl, _, rfl, iteD (fun e => ?_) (fun e => ?_)⟩
      · have h0 : endM (cd rt) (bef r) = 0 := nV_inj.mp e
        rw [if_pos h0] at hend
        refine ⟨Nat.zero_le _, fun p' np' => ?_⟩
        refine q _ p' (kp.of (same_new np')) (kp.free R np') ?_ (fun r' e' => ?_)
        · rw [upd_same, hend]
          rfl
        · rw [hend] at e'
          cases e'
          exact ⟨rs', R.same (same_new np')⟩
      · have h0 : endM (cd rt) (bef r) ≠ 0 := fun z => e (by rw [z]; rfl)
        rw [if_neg h0] at hend
        refine ⟨_, rfl, L, _, rfl, .inl (SqL.of hL), _, rfl, (by show 2 ≤ sizeLine; decide), fun p' np' => ?_⟩
        refine q _ p' (kp.of (same_new np')) (kp.free R np') ?_ (fun r' e' => by rw [hend] at e'; cases e')
        rw [upd_same, hend, hlvl]
        rfl
end
end My

set_option maxRecDepth 100000
set_option maxHeartbeats 2000000
namespace My
open PySem PySem.Spec PyProof.Rows L2
open Br (Line Recipe Bytes)
theorem putK_new {l : List (Key × V)} {k : Key} {v : V} (h : ∀ p ∈ l, p.1 ≠ k) : putK l k v = l ++ [(k, v)] := by
  unfold putK
  rw [if_neg]
  rw [Bool.not_eq_true, List.any_eq_false]
  intro p hp
  simpa using h p hp
theorem merge_kvs (ls : Nat → Addr) : mergeK [] (kvs ls) = kvs ls := by
  have n1 : ¬ (Sum.inr (S kRecipe) : Key) = .inr (S kMalt) := by decide +kernel
  have n2 : ¬ (Sum.inr (S kRecipe) : Key) = .inr (S kHop) := by decide +kernel
  have n3 : ¬ (Sum.inr (S kRecipe) : Key) = .inr (S kAdd) := by decide +kernel
  have n4 : ¬ (Sum.inr (S kRecipe) : Key) = .inr (S kYeast) := by decide +kernel
  have n5 : ¬ (Sum.inr (S kMalt) : Key) = .inr (S kHop) := by decide +kernel
  have n6 : ¬ (Sum.inr (S kMalt) : Key) = .inr (S kAdd) := by decide +kernel
  have n7 : ¬ (Sum.inr (S kMalt) : Key) = .inr (S kYeast) := by decide +kernel
  have n8 : ¬ (Sum.inr (S kHop) : Key) = .inr (S kAdd) := by decide +kernel
  have n9 : ¬ (Sum.inr (S kHop) : Key) = .inr (S kYeast) := by decide +kernel
  have n0 : ¬ (Sum.inr (S kAdd) : Key) = .inr (S kYeast) := by decide +kernel
  unfold mergeK kvs
  simp only [List.foldl]
  rw [putK_new (l := []) (by intro p hp; cases hp), List.nil_append]
  rw [putK_new (l := [_]) (by intro p hp; simp only [List.mem_cons, List.not_mem_nil, or_false] at hp; rw [hp]; exact n1)]
  rw [putK_new (l := [_] ++ [_]) (by
    intro p hp
    simp only [List.mem_append, List.mem_cons, List.not_mem_nil, or_false] at hp
    rcases hp with h | h <;> rw [h]
    · exact n2
    · exact n5)]
  rw [putK_new (l := [_] ++ [_] ++ [_]) (by
    intro p hp
    simp only [List.mem_append, List.mem_cons, List.not_mem_nil, or_false] at hp
    rcases hp with (h | h) | h <;> rw [h]
    · exact n3
    · exact n6
    · exact n8)]
  rw [putK_new (l := [_] ++ [_] ++ [_] ++ [_]) (by
    intro p hp
    simp only [List.mem_append, List.mem_cons, List.not_mem_nil, or_false] at hp
    rcases hp with ((h | h) | h) | h <;> rw [h]
    · exact n4
    · exact n7
    · exact n9
    · exact n0)]
  rfl
section
variable {P : Program} {w : World} {K : PySem.W.Frag} {mg : Str → Option Value} {base : Heap}
/-! ### Reading() -/
theorem scReaI : FnScope ["self"] ["self"] (defScope sReaI) := ⟨rfl, rfl, rfl, by decide +kernel, rfl, by decide +kernel, by decide +kernel⟩
def spReaI (C CG : Addr) : Sp := fun vs H Q _ => ∃ (g dg : Addr), vs = [.ref g] ∧ H g = some (.ins CG dg []) ∧
  ∀ (H' : Hp) (d z : Addr) (ls : Nat → Addr), H' g = some (.ins CG dg (reaF d z)) → H' z = some (.lst []) → RecAt C H' d ls (fun _ => []) [] → (∀ k, k ≤ 4 → H (ls k) = none) → (∀ k, k ≤ 4 → z ≠ ls k) → (∀ b o, H b = some o → b ≠ g → H' b = some o) → Q .non H'
def five (a b c d e : Addr) : Nat → Addr
  | 0 => a
  | 1 => b
  | 2 => c
  | 3 => d
  | _ => e
theorem ok_reaI {f C CG : Addr} {fd : FuncData} (F : Fun K "__init__" "Reading.__init__" sReaI f fd) (T : ReaT K mg CG) : FnOk P w K mg base CX0 1 f fd ["self"] (spReaI C CG) := by
  refine F.ok scReaI (fun vs H Q E h => ?_) (fun cdv A outer s H vs Q E hr h => ?_)
  · obtain ⟨g, dg, rfl, _⟩ := h
    rfl
  · obtain ⟨g, dg, rfl, hg, k⟩ := h
    refine ⟨_, pss_cons (ps_fld (pv 0) (pe_disp (pps_cons pe_str (pe_lst pa_nil) (pps_cons pe_str (pe_lst pa_nil) (pps_cons pe_str (pe_lst pa_nil) (pps_cons pe_str (pe_lst pa_nil) (pps_cons pe_str (pe_lst pa_nil) pps_nil))))) (by rfl) (by rfl) (fun z => by cases z) (by decide)) rfl) <|
      pss_one (ps_fld (pv 0) (pe_lst pa_nil) rfl), ?_⟩
    intro d nd
    refine ⟨Nat.zero_le _, fun a na => ⟨Nat.zero_le _, fun b nb => ⟨Nat.zero_le _, fun c nc => ⟨Nat.zero_le _, fun e ne => ⟨Nat.zero_le _, fun h nh => ?_⟩⟩⟩⟩⟩
    have s0 := same_new (o := .dK []) nd
    have s1 := same_new (o := .lst []) na
    have s2 := same_new (o := .lst []) nb
    have s3 := same_new (o := .lst []) nc
    have s4 := same_new (o := .lst []) ne
    have s5 := same_new (o := .lst []) nh
    have s15 := s1.trans (s2.trans (s3.trans (s4.trans s5)))
    have s05 := s0.trans s15
    have hd5 := s15 _ _ (upd_same (H := H) (a := d) (o := .dK []))
    have ha5 := (s2.trans (s3.trans (s4.trans s5))) _ _ (upd_same (a := a) (o := .lst []))
    have hb5 := (s3.trans (s4.trans s5)) _ _ (upd_same (a := b) (o := .lst []))
    have hc5 := (s4.trans s5) _ _ (upd_same (a := c) (o := .lst []))
    have he5 := s5 _ _ (upd_same (a := e) (o := .lst []))
    have hg5 := s05 _ _ hg
    have k1 : Str.ofString "recipe" = S kRecipe := by decide +kernel
    have k2 : Str.ofString "malt" = S kMalt := by decide +kernel
    have k3 : Str.ofString "hop" = S kHop := by decide +kernel
    have k4 : Str.ofString "add" = S kAdd := by decide +kernel
    have k5 : Str.ofString "yeast" = S kYeast := by decide +kernel
    have hh5 := upd_same (H := upd (upd (upd (upd (upd H d (.dK [])) a (.lst [])) b (.lst [])) c (.lst [])) e (.lst [])) (a := h) (o := .lst [])
    have ab : a ≠ b := ne_of_none (upd_same (o := .lst [])) nb
    have ac : a ≠ c := ne_of_none (s2 _ _ (upd_same (o := .lst []))) nc
    have ae : a ≠ e := ne_of_none ((s2.trans s3) _ _ (upd_same (o := .lst []))) ne
    have ah : a ≠ h := ne_of_none ((s2.trans (s3.trans s4)) _ _ (upd_same (o := .lst []))) nh
    have bc : b ≠ c := ne_of_none (upd_same (o := .lst [])) nc
    have be : b ≠ e := ne_of_none (s3 _ _ (upd_same (o := .lst []))) ne
    have bh : b ≠ h := ne_of_none ((s3.trans s4) _ _ (upd_same (o := .lst []))) nh
    have ce : c ≠ e := ne_of_none (upd_same (o := .lst [])) ne
    have ch : c ≠ h := ne_of_none (s4 _ _ (upd_same (o := .lst []))) nh
    have eh : e ≠ h := ne_of_none (upd_same (o := .lst [])) nh
    have fa : H a = none := s0.free na
    have fb : H b = none := (s0.trans s1).free nb
    have fc : H c = none := (s0.trans (s1.trans s2)).free nc
    have fe : H e = none := (s0.trans (s1.trans (s2.trans s3))).free ne
    have fh : H h = none := (s0.trans (s1.trans (s2.trans (s3.trans s4)))).free nh
    refine ⟨hd5, kvs (five a b c e h), ?_, (by show 5 ≤ 15; decide), ?_⟩
    · show [(V.str (Str.ofString "recipe"), V.ref a), (V.str (Str.ofString "malt"), V.ref b), (V.str (Str.ofString "hop"), V.ref c), (V.str (Str.ofString "add"), V.ref e), (V.str (Str.ofString "yeast"), V.ref h)] = _
      rw [k1, k2, k3, k4, k5]
      rfl
    rw [merge_kvs]
    generalize upd (upd (upd (upd (upd (upd H d (.dK [])) a (.lst [])) b (.lst [])) c (.lst [])) e (.lst [])) h (.lst []) = H5 at *
    have all5 : ∀ k, k ≤ 4 → H5 (five a b c e h k) = some (.lst []) := fun k hk => by
      have : k = 0 ∨ k = 1 ∨ k = 2 ∨ k = 3 ∨ k = 4 := by omega
      rcases this with rfl | rfl | rfl | rfl | rfl
      · exact ha5
      · exact hb5
      · exact hc5
      · exact he5
      · exact hh5
    have fr5 : ∀ k, k ≤ 4 → H (five a b c e h k) = none := fun k hk => by
      have : k = 0 ∨ k = 1 ∨ k = 2 ∨ k = 3 ∨ k = 4 := by omega
      rcases this with rfl | rfl | rfl | rfl | rfl
      · exact fa
      · exact fb
      · exact fc
      · exact fe
      · exact fh
    have inj5 : ∀ j k, j ≤ 4 → k ≤ 4 → five a b c e h j = five a b c e h k → j = k := fun j k hj hk z => by
      have e1 : j = 0 ∨ j = 1 ∨ j = 2 ∨ j = 3 ∨ j = 4 := by omega
      have e2 : k = 0 ∨ k = 1 ∨ k = 2 ∨ k = 3 ∨ k = 4 := by omega
      rcases e1 with rfl | rfl | rfl | rfl | rfl <;> rcases e2 with rfl | rfl | rfl | rfl | rfl
      all_goals first
        | rfl
        | exact absurd z ab
        | exact absurd z ac
        | exact absurd z ae
        | exact absurd z ah
        | exact absurd z bc
        | exact absurd z be
        | exact absurd z bh
        | exact absurd z ce
        | exact absurd z ch
        | exact absurd z eh
        | exact absurd z.symm ab
        | exact absurd z.symm ac
        | exact absurd z.symm ae
        | exact absurd z.symm ah
        | exact absurd z.symm bc
        | exact absurd z.symm be
        | exact absurd z.symm bh
        | exact absurd z.symm ce
        | exact absurd z.symm ch
        | exact absurd z.symm eh
    generalize five a b c e h = ls at *
    have gd : g ≠ d := ne_of_none hg nd
    have lsd : ∀ k, k ≤ 4 → ls k ≠ d := fun k hk => ne_of (all5 k hk) hd5 (by intro z; cases z)
    have lsg : ∀ k, k ≤ 4 → ls k ≠ g := fun k hk => ne_of (all5 k hk) hg5 (by intro z; cases z)
    refine ⟨_, rfl, g, CG, dg, [], rfl, (upd_ne gd).trans hg5, T.cl, T.nR, (by show 0 < 1000; decide), Nat.zero_le _, fun z nz => ?_⟩
    have gz : g ≠ z := ne_of_none (upd_same (o := .ins CG dg (putF "rows" (.ref d) []))) nz
    have dz : d ≠ z := ne_of_none ((upd_ne gd.symm).trans (upd_same (o := .dK (kvs ls)))) nz
    have lsz : ∀ k, k ≤ 4 → ls k ≠ z := fun k hk => ne_of_none ((upd_ne (lsg k hk)).trans ((upd_ne (lsd k hk)).trans (all5 k hk))) nz
    refine ⟨_, rfl, g, CG, dg, _, rfl, (upd_ne gz).trans upd_same, T.cl, T.nF, (by show 1 < 1000; decide), ?_⟩
    have ef : putF "refusal" (V.ref z) (putF "rows" (V.ref d) []) = reaF d z := by
      have e1 : ¬ (Str.ofString "rows" = Str.ofString "refusal") := by decide +kernel
      simp only [putF, if_neg e1]
      rfl
    refine k _ d z ls ?_ ?_ ⟨?_, fun j hj => ?_, inj5, fun j hj => ⟨rfl, fun i a' x' h1 h2 => by cases h1⟩, fun j hj a' ha' => by cases ha'⟩ fr5 (fun j hj => (lsz j hj).symm) (fun b' o' eb nb' => ?_)
    · rw [ef]
      exact upd_same
    · exact (upd_ne gz.symm).trans upd_same
    · exact (upd_ne gd.symm).trans ((upd_ne dz).trans ((upd_ne gd.symm).trans upd_same))
    · exact (upd_ne (lsg j hj)).trans ((upd_ne (lsz j hj)).trans ((upd_ne (lsg j hj)).trans ((upd_ne (lsd j hj)).trans (all5 j hj))))
    · have bd : b' ≠ d := ne_of_none eb nd
      have h7 : upd (upd H5 d (.dK (kvs ls))) g (.ins CG dg (putF "rows" (.ref d) [])) b' = some o' := (upd_ne nb').trans ((upd_ne bd).trans (s05 _ _ eb))
      exact (upd_ne nb').trans ((upd_ne (ne_of_none h7 nz)).trans h7)
/-! ### read_text -/
theorem scText : FnScope ["text", "reading", "fault"] ["text"] (defScope sText) := ⟨rfl, rfl, rfl, by decide +kernel, rfl, by decide +kernel, by decide +kernel⟩
def spText (K : PySem.W.Frag) (C CG : Addr) : Sp := fun vs H Q _ => ∃ (a : Addr) (bs : Bytes), vs = [.ref a] ∧ SqL K H a (bs.map byV) ∧ bs.length ≤ 40000 ∧
  ∀ (H' : Hp) (g dg d z : Addr), H' g = some (.ins CG dg (reaF d z)) → H' z = some (.lst ((refusal bs).map V.int)) → (bs.length ≤ 16384 → ∀ r, Br.readRecipe bs = .ok r → ∃ ls rs, RecAt C H' d ls rs r) → Same H H' → H g = none → Q (.ref g) H'
theorem ok_text {f fI fL C CG : Addr} {fd fdI fdL : FuncData} (F : Fun K "read_text" "read_text" sText f fd) (GL : Df P w K mg base 5 "read_lines" ["reading", "text"] (spLines K C CG) fL fdL) (TG : ReaT K mg CG) (M : Mk K CG fI) (bI : Binds K fdI ["self"] []) (GI : FnOk P w K mg base CX0 1 fI fdI ["self"] (spReaI C CG))
    (ml : mg "len" = none) (cB : Cn mg "MOST_BYTES" (.int 16384)) : FnOk P w K mg base CX0 6 f fd ["text"] (spText K C CG) := by
  obtain ⟨uB, gB, rB⟩ := cB
  refine F.ok scText (fun vs H Q E h => ?_) (fun cdv A outer s H vs Q E hr h => ?_)
  · obtain ⟨a, bs, rfl, _⟩ := h
    rfl
  · obtain ⟨a, bs, rfl, hS, hl, q⟩ := h
    have hr2 : Room 2 _ := hr.mono (by decide)
    refine ⟨_, pss_cons (ps_set (i := 1) scText.nd rfl (.inl rfl) (pe_make0 M GI hr2 rfl TG.g bI .nil pass0)) <|
      pss_cons (ps_if (pt_cmpR op_gt (pe_callB call_len_seq (by rfl) ml PySem.boot_len (pa_cons (pv 0) pa_nil)) (pe_glob rfl gB rB) (nomark _))
        (pss_cons (ps_fld (pv 1) (pe_lst (pa_cons (pe_un un_neg pe_int) pa_nil)) rfl) (pss_one (ps_ret (pv 1)))) pss_nil) <|
      pss_cons (ps_set (i := 2) scText.nd rfl (.inl rfl) (pe_call GL.ok hr rfl GL.g GL.kp GL.b .nil pass0 (pa_cons (pv 1) (pa_cons (pv 0) pa_nil)))) <|
      pss_cons (ps_if (pt_cmpR op_gt (pe_callB call_len_seq (by rfl) ml PySem.boot_len (pa_cons (pv 2) pa_nil)) pe_int (nomark _))
        (pss_one (ps_fld (pv 1) (pe_op op_cat (pe_lst (pa_cons (pe_un un_neg pe_int) pa_nil)) (pv 2)) rfl)) pss_nil) <|
      pss_one (ps_ret (pv 1)), ?_⟩
    intro g dg ng ndg neg
    refine ⟨g, dg, rfl, upd_same, fun H1 d z ls hg hz R hfr hzl k1 => ⟨rfl, ?_⟩⟩
    have s1 : Same H H1 := Same.made ng ndg k1
    have hfr' : ∀ k, k ≤ 4 → H (ls k) = none := fun k hk => by
      have e := hfr k hk
      cases eh : H (ls k) with
      | none => rfl
      | some o =>
        have n1 : ls k ≠ g := ne_of_none eh ng
        have n2 : ls k ≠ dg := ne_of_none eh ndg
        rw [upd_ne n1, upd_ne n2, eh] at e
        cases e
    have ep : ∀ v, putF "refusal" v (reaF d z) = ([("rows", .ref d), ("refusal", v)] : List (Str × V)) := fun v => by
      have e1 : ¬ (Str.ofString "rows" = Str.ofString "refusal") := by decide +kernel
      unfold reaF
      simp only [putF, if_neg e1, if_true]
    have zg : z ≠ g := ne_of hz hg (by intro t; cases t)
    have dgn : d ≠ g := ne_of R.dict hg (by intro t; cases t)
    refine ⟨_, rfl, a, _, rfl, .inl (s1.seq hS), _, _, rfl, rfl, _, rfl, iteD (fun e => ?_) (fun e => ?_)⟩
    · have e' : (16384 : Int) < ((bs.map byV).length : Int) := e
      rw [List.length_map] at e'
      have hb : 16384 < bs.length := by omega
      refine ⟨_, rfl, (by show 1 ≤ sizeLine; decide), fun z2 nz2 => ⟨_, rfl, g, CG, dg, _, rfl, (upd_ne (ne_of_none hg nz2)).trans hg, TG.cl, TG.nF, (by show 2 < 1000; decide), _, rfl, ?_⟩⟩
      rw [ep]
      have gz2 : g ≠ z2 := ne_of_none hg nz2
      refine q _ g dg d z2 upd_same ?_ (fun h => absurd h (by omega)) (fun b o eb => ?_) ng
      · have er : refusal bs = [-2] := if_pos hb
        rw [er]
        exact (upd_ne gz2.symm).trans upd_same
      · have hb1 := s1 _ _ eb
        exact (upd_ne (ne_of_none eb ng)).trans ((upd_ne (ne_of_none hb1 nz2)).trans hb1)
    · have e' : ¬ (16384 : Int) < ((bs.map byV).length : Int) := e
      rw [List.length_map] at e'
      have hb : bs.length ≤ 16384 := by omega
      refine ⟨_, rfl, _, rfl, g, a, dg, d, z, ls, _, bs, rfl, hg, R, s1.seq hS, hb, fun H2 p kp np hp hrec => ?_⟩
      have s2 : Same H H2 := fun b o eb => kp b o (s1 b o eb) fun k hk t => by rw [t, hfr' k hk] at eb; cases eb
      have hg2 := kp _ _ hg fun k hk => ne_of hg (R.lst k hk) (by intro t; cases t)
      have hz2 := kp _ _ hz hzl
      cases hr0 : Br.readRecipe bs with
      | ok r =>
        rw [hr0] at hp
        have hp' : H2 p = some (.lst []) := hp
        have er : refusal bs = [] := by
          unfold refusal
          rw [if_neg (by omega), hr0]
        refine ⟨_, rfl, p, _, rfl, .inl (SqL.of hp'), _, _, rfl, rfl, _, rfl, _, rfl, ?_⟩
        refine q _ g dg d z hg2 (by rw [er]; exact hz2) (fun _ r' e => ?_) s2 ng
        obtain ⟨rs', R'⟩ := hrec r' e
        exact ⟨ls, rs', R'⟩
      | error e =>
        rw [hr0] at hp
        have hp' : H2 p = some (.lst [nV e.1, nV e.2]) := hp
        have er : refusal bs = [-6, (e.1 : Int), (e.2 : Int)] := by
          unfold refusal
          rw [if_neg (by omega), hr0]
        refine ⟨_, rfl, p, _, rfl, .inl (SqL.of hp'), _, _, rfl, rfl, _, rfl, ?_⟩
        refine ⟨_, rfl, (by show 1 ≤ sizeLine; decide), fun m nm => ⟨_, rfl, m, p, _, _, rfl, rfl, upd_same, (upd_ne (ne_of_none hp' nm)).trans hp', (by show 3 ≤ sizeLine; decide), fun z2 nz2 => ?_⟩⟩
        have sm := same_new (o := .lst [.int (-6)]) nm
        have hg3 := sm _ _ hg2
        have gz2 : g ≠ z2 := ne_of_none hg3 nz2
        refine ⟨_, rfl, g, CG, dg, _, rfl, (upd_ne gz2).trans hg3, TG.cl, TG.nF, (by show 2 < 1000; decide), _, rfl, ?_⟩
        rw [ep]
        refine q _ g dg d z2 upd_same ?_ (fun _ r' e => by rw [hr0] at e; cases e) (fun b o eb => ?_) ng
        · rw [er]
          exact (upd_ne gz2.symm).trans upd_same
        · have hb1 := sm _ _ (s2 _ _ eb)
          exact (upd_ne (ne_of_none eb ng)).trans ((upd_ne (ne_of_none hb1 nz2)).trans hb1)
end
end My

set_option maxRecDepth 100000
set_option maxHeartbeats 2000000
namespace My
open PySem PySem.Spec PyProof.Rows L2
open Br (Line Recipe Bytes)
/-! ### the two tables, as the top has written them -/
abbrev ent (w : World) (x : Str) (t : Tok) (a : Addr) : DictEntry := ⟨PyData.keyHash w.params x, .str x t, .ref a⟩
abbrev dictObj (es : Array DictEntry) (n : Nat) : Obj := ⟨.type "dict", none, .dict es n, #[]⟩
abbrev tupObj (od : Option Addr) (vs : Array Value) (n : Nat) (sl : Array (Option Value)) : Obj := ⟨.type "tuple", od, .seq vs n, sl⟩
def four (a b c d e : List Addr) : Nat → List Addr
  | 0 => a
  | 1 => b
  | 2 => c
  | 3 => d
  | _ => e
theorem kR : Str.ofString "recipe" = S kRecipe := by decide +kernel
theorem kM : Str.ofString "malt" = S kMalt := by decide +kernel
theorem kH : Str.ofString "hop" = S kHop := by decide +kernel
theorem kA : Str.ofString "add" = S kAdd := by decide +kernel
theorem kY : Str.ofString "yeast" = S kYeast := by decide +kernel
theorem S_beq (a b : List Nat) : (S a == S b) = decide (a = b) := by
  rw [Bool.eq_iff_iff, beq_iff_eq, decide_eq_true_eq]
  exact ⟨S_inj, fun h => by rw [h]⟩
theorem isStr_S (a z : List Nat) (t : Tok) : Value.isStr (.str (S a) t) (S z) = decide (a = z) := by
  show (S a == S z) = _
  exact S_beq a z
section
variable {w : World} {K : PySem.W.Frag} {mg : Str → Option Value}
theorem ns_five {d a0 a1 a2 a3 a4 : Addr} {t0 t1 t2 t3 t4 : Tok} {n : Nat} (h : K.lookup d = some (dictObj #[ent w "recipe" t0 a0, ent w "malt" t1 a1, ent w "hop" t2 a2, ent w "add" t3 a3, ent w "yeast" t4 a4] n)) (z : List Nat) :
    PySem.W.nsIn K d (S z) = some ((rankOf z).map fun k => Value.ref (five a0 a1 a2 a3 a4 k)) := by
  unfold PySem.W.nsIn
  rw [h]
  dsimp only [dictObj, ent]
  rw [kR, kM, kH, kA, kY]
  simp only [List.find?, isStr_S]
  unfold rankOf
  by_cases e0 : kRecipe = z
  · subst e0; rfl
  · rw [decide_eq_false e0, if_neg (show ¬ z = kRecipe from fun q => e0 q.symm)]
    by_cases e1 : kMalt = z
    · subst e1; rfl
    · rw [decide_eq_false e1, if_neg (show ¬ z = kMalt from fun q => e1 q.symm)]
      by_cases e2 : kHop = z
      · subst e2; rfl
      · rw [decide_eq_false e2, if_neg (show ¬ z = kHop from fun q => e2 q.symm)]
        by_cases e3 : kAdd = z
        · subst e3; rfl
        · rw [decide_eq_false e3, if_neg (show ¬ z = kAdd from fun q => e3 q.symm)]
          by_cases e4 : kYeast = z
          · subst e4; rfl
          · rw [decide_eq_false e4, if_neg (show ¬ z = kYeast from fun q => e4 q.symm)]
            rfl
theorem lit_five {a0 a1 a2 a3 a4 : Addr} {t0 t1 t2 t3 t4 : Tok} : PySem.W.KeysLit w.params (#[ent w "recipe" t0 a0, ent w "malt" t1 a1, ent w "hop" t2 a2, ent w "add" t3 a3, ent w "yeast" t4 a4] : Array DictEntry).toList :=
  ⟨⟨_, _, rfl, rfl⟩, ⟨_, _, rfl, rfl⟩, ⟨_, _, rfl, rfl⟩, ⟨_, _, rfl, rfl⟩, ⟨_, _, rfl, rfl⟩, trivial⟩
theorem sqT_of {H : Hp} {a : Addr} {od : Option Addr} {vs : Array Value} {n : Nat} {sl : Array (Option Value)} {xs : List V} (h : K.lookup a = some (tupObj od vs n sl)) (hs : vs.size ≤ sizeLine) (r : Vals xs vs.toList) : SqT K H a xs :=
  .inr ⟨_, vs, n, h, rfl, rfl, hs, r⟩
theorem cn_int {x : Str} {i : Int} {t : Tok} (h : mg x = some (.int i t)) : Cn mg x (.int i) := ⟨_, h, ⟨t, rfl⟩⟩
theorem cn_str {x : Str} {s s' : Str} {t : Tok} (h : mg x = some (.str s t)) (e : s = s') : Cn mg x (.str s') := by
  subst e
  exact ⟨_, h, ⟨t, rfl⟩⟩
theorem k5 {k : Nat} (h : k ≤ 4) : k = 0 ∨ k = 1 ∨ k = 2 ∨ k = 3 ∨ k = 4 := by omega
theorem mk_bnd {d a0 a1 a2 a3 a4 p1 p2 p3 p4 p5 p6 p7 : Addr} {t0 t1 t2 t3 t4 : Tok} {n : Nat} {n0 n1 n2 n3 n4 m1 m2 m3 m4 m5 m6 m7 : Nat} {o0 o1 o2 o3 o4 q1 q2 q3 q4 q5 q6 q7 : Option Addr} {s0 s1 s2 s3 s4 r1 r2 r3 r4 r5 r6 r7 : Array (Option Value)} {u1 u2 u3 u4 u5 u6 u7 v1 v2 v3 v4 v5 v6 v7 : Tok}
    (g : mg "BOUNDS" = some (.ref d)) (low : (d == sysModules) = false)
    (h : K.lookup d = some (dictObj #[ent w "recipe" t0 a0, ent w "malt" t1 a1, ent w "hop" t2 a2, ent w "add" t3 a3, ent w "yeast" t4 a4] n))
    (h0 : K.lookup a0 = some (tupObj o0 #[] n0 s0)) (h1 : K.lookup a1 = some (tupObj o1 #[.ref p1, .ref p2] n1 s1)) (h2 : K.lookup a2 = some (tupObj o2 #[.ref p3, .ref p4, .ref p5] n2 s2)) (h3 : K.lookup a3 = some (tupObj o3 #[.ref p6] n3 s3)) (h4 : K.lookup a4 = some (tupObj o4 #[.ref p7] n4 s4))
    (i1 : K.lookup p1 = some (tupObj q1 #[.int 1 u1, .int 10000 v1] m1 r1)) (i2 : K.lookup p2 = some (tupObj q2 #[.int 1 u2, .int 850 v2] m2 r2)) (i3 : K.lookup p3 = some (tupObj q3 #[.int 1 u3, .int 10000 v3] m3 r3)) (i4 : K.lookup p4 = some (tupObj q4 #[.int 1 u4, .int 2500 v4] m4 r4))
    (i5 : K.lookup p5 = some (tupObj q5 #[.int 0 u5, .int 120 v5] m5 r5)) (i6 : K.lookup p6 = some (tupObj q6 #[.int 1 u6, .int 100000 v6] m6 r6)) (i7 : K.lookup p7 = some (tupObj q7 #[.int 1 u7, .int 950 v7] m7 r7)) :
    Bnd K w mg d (five a0 a1 a2 a3 a4) (four [] [p1, p2] [p3, p4, p5] [p6] [p7]) := by
  have two : ∀ {p : Addr} {q : Option Addr} {x y : Int} {u v : Tok} {m : Nat} {r : Array (Option Value)}, K.lookup p = some (tupObj q #[.int x u, .int y v] m r) → ∀ H, SqT K H p [.int x, .int y] := fun e H => sqT_of e (by show 2 ≤ sizeLine; decide) (.cons ⟨_, rfl⟩ (.cons ⟨_, rfl⟩ .nil))
  refine ⟨g, ⟨_, n, h, lit_five, low⟩, ns_five h, fun k hk H => ?_, fun k hk => ?_, fun k hk i p b e1 e2 H => ?_⟩
  · rcases k5 hk with rfl | rfl | rfl | rfl | rfl
    · exact sqT_of h0 (by show 0 ≤ sizeLine; decide) .nil
    · exact sqT_of h1 (by show 2 ≤ sizeLine; decide) (.cons rfl (.cons rfl .nil))
    · exact sqT_of h2 (by show 3 ≤ sizeLine; decide) (.cons rfl (.cons rfl (.cons rfl .nil)))
    · exact sqT_of h3 (by show 1 ≤ sizeLine; decide) (.cons rfl .nil)
    · exact sqT_of h4 (by show 1 ≤ sizeLine; decide) (.cons rfl .nil)
  · rcases k5 hk with rfl | rfl | rfl | rfl | rfl <;> rfl
  · rcases k5 hk with rfl | rfl | rfl | rfl | rfl
    · cases e2
    · match i, e1, e2 with
      | 0, e1, e2 => cases e1; cases e2; exact two i1 H
      | 1, e1, e2 => cases e1; cases e2; exact two i2 H
      | i + 2, e1, e2 => simp [bds] at e2
    · match i, e1, e2 with
      | 0, e1, e2 => cases e1; cases e2; exact two i3 H
      | 1, e1, e2 => cases e1; cases e2; exact two i4 H
      | 2, e1, e2 => cases e1; cases e2; exact two i5 H
      | i + 3, e1, e2 => simp [bds] at e2
    · match i, e1, e2 with
      | 0, e1, e2 => cases e1; cases e2; exact two i6 H
      | i + 1, e1, e2 => simp [bds] at e2
    · match i, e1, e2 with
      | 0, e1, e2 => cases e1; cases e2; exact two i7 H
      | i + 1, e1, e2 => simp [bds] at e2
theorem mk_may {d a0 a1 a2 a3 a4 : Addr} {t0 t1 t2 t3 t4 : Tok} {n : Nat} {n0 n1 n2 n3 n4 : Nat} {o0 o1 o2 o3 o4 : Option Addr} {s0 s1 s2 s3 s4 : Array (Option Value)} {u0 u1 u2 u3 u4 u5 u6 u7 u8 u9 u10 : Tok}
    (g : mg "MAY_FOLLOW" = some (.ref d)) (low : (d == sysModules) = false)
    (h : K.lookup d = some (dictObj #[ent w "recipe" t0 a0, ent w "malt" t1 a1, ent w "hop" t2 a2, ent w "add" t3 a3, ent w "yeast" t4 a4] n))
    (h0 : K.lookup a0 = some (tupObj o0 #[.str "" u0] n0 s0)) (h1 : K.lookup a1 = some (tupObj o1 #[.str "recipe" u1, .str "malt" u2] n1 s1)) (h2 : K.lookup a2 = some (tupObj o2 #[.str "malt" u3, .str "hop" u4] n2 s2))
    (h3 : K.lookup a3 = some (tupObj o3 #[.str "malt" u5, .str "hop" u6, .str "add" u7] n3 s3)) (h4 : K.lookup a4 = some (tupObj o4 #[.str "malt" u8, .str "hop" u9, .str "add" u10] n4 s4)) :
    May K w mg d (five a0 a1 a2 a3 a4) := by
  have st : ∀ {x : String} {l : List Nat} {u : Tok}, Str.ofString x = S l → L2.RelV (wV l) (.str (Str.ofString x) u) := fun {x l u} e => ⟨u, by rw [e]⟩
  have e0 : Str.ofString "" = S [] := by decide +kernel
  refine ⟨g, fun k hk => ?_, fun k hk H => ?_⟩
  · refine ⟨_, n, .ref (five a0 a1 a2 a3 a4 k), h, lit_five, ?_, rfl⟩
    rw [ns_five h, rank_kind hk]
    rfl
  · rcases k5 hk with rfl | rfl | rfl | rfl | rfl
    · exact sqT_of h0 (by show 1 ≤ sizeLine; decide) (.cons (st e0) .nil)
    · exact sqT_of h1 (by show 2 ≤ sizeLine; decide) (.cons (st kR) (.cons (st kM) .nil))
    · exact sqT_of h2 (by show 2 ≤ sizeLine; decide) (.cons (st kM) (.cons (st kH) .nil))
    · exact sqT_of h3 (by show 3 ≤ sizeLine; decide) (.cons (st kM) (.cons (st kH) (.cons (st kA) .nil)))
    · exact sqT_of h4 (by show 3 ≤ sizeLine; decide) (.cons (st kM) (.cons (st kH) (.cons (st kA) .nil)))
end
theorem bytes_V : ∀ ns : List Int, (∀ x ∈ ns, 0 ≤ x ∧ x ≤ 255) → ns.map V.int = (WqatdlNeutral.bytes ns).map byV
  | [], _ => rfl
  | x :: r, h => by
    have ih := bytes_V r fun y hy => h y (List.mem_cons_of_mem _ hy)
    have hx := h x (List.mem_cons_self ..)
    show V.int x :: r.map V.int = byV (UInt8.ofNat x.toNat) :: (WqatdlNeutral.bytes r).map byV
    rw [ih]
    congr 1
    unfold byV
    rw [UInt8.toNat_ofNat']
    congr 1
    omega
end My

set_option maxRecDepth 100000
set_option maxHeartbeats 2000000
namespace My
open PySem PySem.Spec PyProof.Rows L2
open Br (Line Recipe Bytes)
/-! ### KIND_NUMBERS, as the top has written it -/
structure Kin (K : PySem.W.Frag) (w : World) (mg : Str → Option Value) (dN : Addr) : Prop where
  g : mg "KIND_NUMBERS" = some (.ref dN)
  keys : ∃ es n, KKeys K dN es n (([1, 2, 3] : List Nat).map fun k => wV (kindN k))
  get : ∀ k, 1 ≤ k → k ≤ 3 → KDct K w dN (S (kindN k)) (nV (k - 1))
theorem mk_kin {w : World} {K : PySem.W.Frag} {mg : Str → Option Value} {d : Addr} {t0 t1 t2 u0 u1 u2 : Tok} {n : Nat} (g : mg "KIND_NUMBERS" = some (.ref d)) (low : (d == sysModules) = false)
    (h : K.lookup d = some (dictObj #[⟨PyData.keyHash w.params "malt", .str "malt" t0, .int 0 u0⟩, ⟨PyData.keyHash w.params "hop", .str "hop" t1, .int 1 u1⟩, ⟨PyData.keyHash w.params "add", .str "add" t2, .int 2 u2⟩] n)) : Kin K w mg d := by
  refine ⟨g, ⟨_, n, h, low, rfl, fun i x hx => ?_⟩, fun k h1 h3 => ?_⟩
  · match i, hx with
    | 0, hx => cases hx; exact ⟨_, rfl, t0, by rw [kM]; rfl⟩
    | 1, hx => cases hx; exact ⟨_, rfl, t1, by rw [kH]; rfl⟩
    | 2, hx => cases hx; exact ⟨_, rfl, t2, by rw [kA]; rfl⟩
    | i + 3, hx => simp at hx
  · have lit : PySem.W.KeysLit w.params (#[⟨PyData.keyHash w.params "malt", .str "malt" t0, .int 0 u0⟩, ⟨PyData.keyHash w.params "hop", .str "hop" t1, .int 1 u1⟩, ⟨PyData.keyHash w.params "add", .str "add" t2, .int 2 u2⟩] : Array DictEntry).toList :=
      ⟨⟨_, _, rfl, rfl⟩, ⟨_, _, rfl, rfl⟩, ⟨_, _, rfl, rfl⟩, trivial⟩
    have hns : ∀ z : List Nat, PySem.W.nsIn K d (S z) = some (if kMalt = z then some (.int 0 u0) else if kHop = z then some (.int 1 u1) else if kAdd = z then some (.int 2 u2) else none) := fun z => by
      unfold PySem.W.nsIn
      rw [h]
      dsimp only [dictObj]
      rw [kM, kH, kA]
      simp only [List.find?, isStr_S]
      by_cases e1 : kMalt = z
      · subst e1; rfl
      · rw [decide_eq_false e1, if_neg e1]
        by_cases e2 : kHop = z
        · subst e2; rfl
        · rw [decide_eq_false e2, if_neg e2]
          by_cases e3 : kAdd = z
          · subst e3; rfl
          · rw [decide_eq_false e3, if_neg e3]
            rfl
    have : k = 1 ∨ k = 2 ∨ k = 3 := by omega
    rcases this with rfl | rfl | rfl
    · exact ⟨_, n, .int 0 u0, h, lit, by rw [hns]; rfl, ⟨u0, rfl⟩⟩
    · exact ⟨_, n, .int 1 u1, h, lit, by rw [hns]; rfl, ⟨u1, rfl⟩⟩
    · exact ⟨_, n, .int 2 u2, h, lit, by rw [hns]; rfl, ⟨u2, rfl⟩⟩
theorem refusal_ok {t : Bytes} (h : refusal t = []) : t.length ≤ 16384 ∧ ∃ r, Br.readRecipe t = .ok r := by
  unfold refusal at h
  by_cases c : 16384 < t.length
  · rw [if_pos c] at h
    cases h
  · rw [if_neg c] at h
    refine ⟨by omega, ?_⟩
    cases e : Br.readRecipe t with
    | ok r => exact ⟨r, rfl⟩
    | error x => rw [e] at h; cases h
end My

set_option maxRecDepth 100000
set_option maxHeartbeats 2000000
namespace My
open PySem PySem.Spec PyProof.Rows L2
open Br (Line Recipe Bytes)
abbrev sLow : Stmt := top 32
section
variable {P : Program} {w : World} {K : PySem.W.Frag} {mg : Str → Option Value} {base : Heap}
/-! ### lowest_terms -/
theorem scLow : FnScope ["above", "below", "common", "rest", "left"] ["above", "below"] (defScope sLow) := ⟨rfl, rfl, rfl, by decide +kernel, rfl, by decide +kernel, by decide +kernel⟩
def lowV (n d : Nat) : List V := [nV (n / Nat.gcd n d), nV (d / Nat.gcd n d)]
def spLow : Sp := fun vs H Q _ => ∃ (n d : Nat), vs = [nV n, nV d] ∧ 0 < d ∧ d < 2 ^ 64 ∧ ∀ p, H p = none → Q (.ref p) (upd H p (.lst (lowV n d)))
def muLow : L2.St → Hp → Nat := fun σ _ => match (show List (Option V) from σ)[3]? with
  | some (some (V.int r)) => r.toNat
  | _ => 0
theorem ok_low {f : Addr} {fd : FuncData} (F : Fun K "lowest_terms" "lowest_terms" sLow f fd) : FnOk P w K mg base CX0 1 f fd ["above", "below"] spLow := by
  refine F.ok scLow (fun vs H Q E h => ?_) (fun cdv A outer s H vs Q E hr h => ?_)
  · obtain ⟨n, d, rfl, _⟩ := h
    rfl
  · obtain ⟨n, d, rfl, hd, hd2, q⟩ := h
    have nd := scLow.nd
    refine ⟨_, pss_cons (ps_set (i := 2) nd rfl (.inl rfl) (pv 1)) <| pss_cons (ps_set (i := 3) nd rfl (.inl rfl) (pv 0)) <|
      pss_cons (ps_while PassesOwn.never (pt_cmpR op_gt (pv 3) pe_int (nomark _)) (pss_cons (ps_set (i := 4) nd rfl (.inl rfl) (pe_op op_mod (pv 2) (pv 3))) <| pss_cons (ps_set (i := 2) nd rfl (.inl rfl) (pv 3)) <| pss_one (ps_set (i := 3) nd rfl (.inl rfl) (pv 4)))) <|
      pss_one (ps_ret (pe_lst (pa_cons (pe_op op_fdivW (pv 0) (pv 2)) (pa_cons (pe_op op_fdivW (pv 1) (pv 2)) pa_nil)))), ?_⟩
    refine ⟨_, rfl, _, rfl, while_by (fun σ H' => H' = H ∧ ∃ (c r : Nat) (l : Option V), σ = [some (nV n), some (nV d), some (nV c), some (nV r), l] ∧ 0 < c ∧ Nat.gcd r c = Nat.gcd n d) muLow ⟨rfl, d, n, none, rfl, hd, rfl⟩ ?_ ?_⟩
    · rintro σ H' ⟨rfl, c, r, l, rfl, hc, hg⟩
      refine ⟨_, rfl, _, _, rfl, rfl, _, rfl, iteD (fun e => ?_) (fun e => ?_)⟩
      · have hr0 : 0 < r := by
          have : (0 : Int) < (r : Int) := e
          omega
        refine ⟨_, rfl, _, rfl, _, _, rfl, rfl, (by show (0 : Int) < (r : Int); omega), _, rfl, _, rfl, ?_⟩
        refine ⟨⟨rfl, r, c % r, _, rfl, hr0, ?_⟩, ?_⟩
        · rw [← hg, Nat.gcd_comm r c, Nat.gcd_comm c r]
          exact (Nat.gcd_rec r c).symm
        · show ((c % r : Nat) : Int).toNat < ((r : Nat) : Int).toNat
          have := Nat.mod_lt c hr0
          omega
      · have hr0 : r = 0 := by
          have : ¬ (0 : Int) < (r : Int) := e
          omega
        subst hr0
        have hcg : c = Nat.gcd n d := by rw [← hg, Nat.gcd_zero_left]
        have hle : c ≤ d := by rw [hcg]; exact Nat.gcd_le_right n hd
        have w1 : ∀ i : Int, CDivW i (c : Int) := fun i => wide_div (b := 64) (by omega) (by show c < 2 ^ 64; omega) (by decide) (by decide)
        refine ⟨_, rfl, _, rfl, _, _, rfl, rfl, w1 _, _, rfl, _, rfl, _, _, rfl, rfl, w1 _, (by show 2 ≤ sizeLine; decide), fun p np => ?_⟩
        have hq := q p np
        unfold lowV at hq
        rw [← hcg] at hq
        exact hq
    · rintro σ H' Q1 Q2 hQ ⟨x, hx, i, j, e1, e2, b, e3, h⟩
      exact ⟨x, hx, i, j, e1, e2, b, e3, hQ _ _ h⟩
end
end My

set_option maxRecDepth 100000
set_option maxHeartbeats 4000000
/-! ### l < m of lists -/
namespace PySem.SeqAt
open AutoSeq1 (wpAny_loadPart') -- l < m
open MeetsSeq MeetsSeq2 MeetsSeq3 SeqRoads2 -- l < m
def lexAt (e lt : Nat → Bool) : Nat → Nat → Bool
  | 0, _ => false
  | k + 1, i => if e i = true then lexAt e lt k (i + 1) else lt i
section
variable {prog : Program} {w : World}
def LtP (prog : Program) (w : World) (A : Around) (s : Shared) (y x : Value) (b : Bool) : Prop := ∀ (E Q : Value → Shared → Prop), Q (.bool b) s → wpAny (model prog w) A (richCompare .Lt y x) Q E s
theorem my_lt_loopIn (l b : Addr) (us ws : Array Value) (n n2 : Nat) (dU dW : Option Addr) (lU lW : Array (Option Value)) (hz : us.size = ws.size) (e lt : Nat → Bool) (k : Nat) :
    ∀ i : Nat, us.size - i = k → MeetsIn prog w (Builtin.«list.__eq__.loop» ⟨[.ref l, .ref b, rawInt i, rawInt 0], []⟩)
      (fun A R s => s.heap.get? l = some { cls := .type "list", dict := dU, data := .seq us n, slots := lU } ∧ s.heap.get? b = some { cls := .type "list", dict := dW, data := .seq ws n2, slots := lW } ∧
        (∀ j (h1 : j < us.size) (h2 : j < ws.size), EqP prog w A.in1 s us[j] ws[j] (e j)) ∧
        (∀ j (h1 : j < us.size) (h2 : j < ws.size), e j = false → LtP prog w A.in1 s us[j] ws[j] (lt j)) ∧
        R (.ok (.ret (.bool (lexAt e lt k i)))) s) := by
  induction k with
  | zero =>
    intro i hk A R s h
    obtain ⟨hp, g, d, tk, os⟩ := s; obtain ⟨hl, hb, he, hlt, h⟩ := h
    wp_walk using wpAny_loadPart' hl, wpAny_loadPart' hb -- both lists
    have hi1 : us[((i : Nat) : Int).toNat]? = none := by simp; omega
    have hi2 : ws[((i : Nat) : Int).toNat]? = none := by simp; omega
    rw [hi1, hi2]
    wp_walk using wpAny_loadPart' hl, wpAny_loadPart' hb -- both lists
    show R (.ok (.ret (.bool (decide (us.size < ws.size))))) _
    rw [hz, decide_eq_false (Nat.lt_irrefl _)]
    exact h
  | succ k ih =>
    intro i hk A R s h
    obtain ⟨hp, g, d, tk, os⟩ := s; obtain ⟨hl, hb, he, hlt, h⟩ := h
    wp_walk using wpAny_loadPart' hl, wpAny_loadPart' hb -- both lists
    have hi : i < us.size := by omega
    have hi2' : i < ws.size := by omega
    have hi1 : us[((i : Nat) : Int).toNat]? = some us[i] := by simp [hi]
    have hi2 : ws[((i : Nat) : Int).toNat]? = some ws[i] := by simp [hi2']
    have hc : ((i : Int) + 1) = ((i + 1 : Nat) : Int) := by push_cast; rfl
    rw [hi1, hi2]
    refine wpAny_bind (he i hi hi2' _ _ ?_)
    cases hb' : e i with
    | true =>
      have hx : lexAt e lt (k + 1) i = lexAt e lt k (i + 1) := if_pos hb'
      rw [hx] at h
      wp_walk
      rw [hc]
      exact ⟨plainId_quiet plain_eq_loop _, codeAny_builtin entry_eq_loop (by rw [Around.under_plainId plain_eq_loop _]; exact ih (i + 1) (by omega) A R _ ⟨hl, hb, he, hlt, h⟩)⟩
    | false =>
      have hx : lexAt e lt (k + 1) i = lt i := if_neg (by rw [hb']; decide)
      rw [hx] at h
      wp_walk using wpAny_loadPart' hl, wpAny_loadPart' hb -- both lists
      rw [hi1, hi2]
      have hri := fun Q E => hlt i hi hi2' hb' E Q
      wp_walk using hri
      exact h
theorem my_list_ltIn (l b : Addr) (us ws : Array Value) (n n2 : Nat) (dU dW : Option Addr) (lU lW : Array (Option Value)) (hz : us.size = ws.size) (e lt : Nat → Bool) :
    MeetsIn prog w (Builtin.«list.__lt__» ⟨[.ref l, .ref b], []⟩)
      (fun A R s => s.heap.get? l = some { cls := .type "list", dict := dU, data := .seq us n, slots := lU } ∧ s.heap.get? b = some { cls := .type "list", dict := dW, data := .seq ws n2, slots := lW } ∧
        (∀ j (h1 : j < us.size) (h2 : j < ws.size), EqP prog w A.in1 s us[j] ws[j] (e j)) ∧
        (∀ j (h1 : j < us.size) (h2 : j < ws.size), e j = false → LtP prog w A.in1 s us[j] ws[j] (lt j)) ∧
        R (.ok (.ret (.bool (lexAt e lt us.size 0)))) s) := by
  intro A R s h
  obtain ⟨hp, g, d, tk, os⟩ := s; obtain ⟨hl, hb, he, hlt, h⟩ := h
  have f3 := AutoSeq1.sub_list_list
  wp_walk using wpAny_loadPart' hl, wpAny_loadPart' hb -- both lists
  exact ⟨plainId_quiet plain_eq_loop _, codeAny_builtin entry_eq_loop (by rw [Around.under_plainId plain_eq_loop _]; exact my_lt_loopIn l b us ws n n2 dU dW lU lW hz e lt _ 0 rfl A R _ ⟨hl, hb, he, hlt, by simpa using h⟩)⟩
open PyProof.Rows in
theorem my_oneLt {A : Around} {s : Shared} {l b : Addr} {us ws : Array Value} {e lt : Nat → Bool} {E : Value → Shared → Prop} {Q : Bool → Shared → Prop} (hl : s.heap.IsList l us) (hb : s.heap.IsList b ws) (hz : us.size = ws.size) (hu : A.units < cLine)
    (he : ∀ j (h1 : j < us.size) (h2 : j < ws.size), EqP prog w A.in1 s us[j] ws[j] (e j)) (hlt : ∀ j (h1 : j < us.size) (h2 : j < ws.size), e j = false → LtP prog w A.in1 s us[j] ws[j] (lt j))
    (h : Q (lexAt e lt us.size 0) s) : wpAny (model prog w) A (oneLt' true (.ref l) (.ref b)) Q E s := by
  obtain ⟨⟨c1, dU, x1, lU⟩, ho, hc, n, hd⟩ := id hl
  obtain ⟨⟨c2, dW, x2, lW⟩, ho2, hc2, n2, hd2⟩ := id hb
  simp only at hc hd hc2 hd2
  subst hc hd hc2 hd2
  have ta : s.TypeIs (.ref l) "list" := ⟨_, ho, rfl⟩
  rw [oneLt'_eq]
  simp only [if_true]
  refine wpAny_bind (wpAny_cRoomFor hu ?_)
  refine wpAny_bind (wpAny_callSpecialIfBound?_slot ta F.slot_list_lt (call_meetsIn F.slot_list_lt ta F.entry_list_lt (F.args_list_lt_2 _ _) (my_list_ltIn l b us ws n n2 dU dW lU lW hz e lt)
    ⟨ho, ho2, he, hlt, ?_⟩))
  exact wpAny_truthy_bool h
end
end PySem.SeqAt

/-! ### keys: a text, then numbers -/
namespace My
open PySem PySem.Spec PyProof.Rows L2
abbrev Key2 := List Nat × List Nat
def lexN : List Nat → List Nat → Bool
  | [], [] => false
  | [], _ :: _ => true
  | _ :: _, [] => false
  | x :: xs, y :: ys => if x = y then lexN xs ys else decide (x < y)
theorem lexN_lt : ∀ a b : List Nat, lexN a b = decide (a < b)
  | [], [] => by simp [lexN]
  | [], y :: ys => by simp [lexN]
  | x :: xs, [] => by simp [lexN]
  | x :: xs, y :: ys => by
    have hc := List.cons_lt_cons_iff (a := x) (b := y) (l₁ := xs) (l₂ := ys)
    show (if x = y then lexN xs ys else decide (x < y)) = decide (x :: xs < y :: ys)
    rw [lexN_lt xs ys]
    by_cases e : x = y
    · rw [if_pos e]
      exact decide_eq_decide.mpr ⟨fun h => hc.mpr (.inr ⟨e, h⟩), fun h => (hc.mp h).elim (fun z => absurd z (by omega)) (fun z => z.2)⟩
    · rw [if_neg e]
      exact decide_eq_decide.mpr ⟨fun h => hc.mpr (.inl h), fun h => (hc.mp h).elim id (fun z => absurd z.1 e)⟩
theorem lexN_irr : ∀ a : List Nat, lexN a a = false
  | [] => rfl
  | x :: xs => (if_pos rfl).trans (lexN_irr xs)
theorem lexN_conn : ∀ {a b : List Nat}, lexN a b = false → lexN b a = false → a = b
  | [], [], _, _ => rfl
  | [], y :: ys, h, _ => by cases h
  | x :: xs, [], _, h => by cases h
  | x :: xs, y :: ys, h, g => by
    have h' : (if x = y then lexN xs ys else decide (x < y)) = false := h
    have g' : (if y = x then lexN ys xs else decide (y < x)) = false := g
    by_cases e : x = y
    · subst e
      rw [if_pos rfl] at h' g'
      rw [lexN_conn h' g']
    · rw [if_neg e, decide_eq_false_iff_not] at h'
      rw [if_neg (fun z => e z.symm), decide_eq_false_iff_not] at g'
      omega
theorem lexN_tr : ∀ {a b c : List Nat}, lexN b a = false → lexN c b = false → lexN c a = false
  | [], [], [], _, _ => rfl
  | a, [], z :: zs, h, _ => by
    cases a with
    | nil => rfl
    | cons x xs => cases h
  | a, y :: ys, [], _, h => by cases h
  | x :: xs, [], c, h, _ => by cases h
  | [], y :: ys, z :: zs, _, _ => rfl
  | x :: xs, y :: ys, z :: zs, h, g => by
    have h' : (if y = x then lexN ys xs else decide (y < x)) = false := h
    have g' : (if z = y then lexN zs ys else decide (z < y)) = false := g
    show (if z = x then lexN zs xs else decide (z < x)) = false
    by_cases e1 : y = x
    · subst e1
      rw [if_pos rfl] at h'
      by_cases e2 : z = y
      · subst e2
        rw [if_pos rfl] at g' ⊢
        exact lexN_tr h' g'
      · rw [if_neg e2] at g' ⊢
        exact g'
    · rw [if_neg e1, decide_eq_false_iff_not] at h'
      by_cases e2 : z = y
      · subst e2
        rw [if_neg e1]
        exact decide_eq_false h'
      · rw [if_neg e2, decide_eq_false_iff_not] at g'
        rw [if_neg (by omega)]
        exact decide_eq_false (by omega)
theorem lexN_asym {a b : List Nat} (h : lexN a b = true) : lexN b a = false := by
  cases e : lexN b a with
  | false => rfl
  | true =>
    rw [lexN_lt, decide_eq_true_eq] at h e
    exact absurd (List.lt_trans h e) (List.lt_irrefl _)
def ltK (p q : Key2) : Bool := if p.1 = q.1 then lexN p.2 q.2 else lexN p.1 q.1
theorem ltK_asym {p q : Key2} (h : ltK p q = true) : ltK q p = false := by
  unfold ltK at h ⊢
  by_cases e : p.1 = q.1
  · rw [if_pos e] at h
    rw [if_pos e.symm]
    exact lexN_asym h
  · rw [if_neg e] at h
    rw [if_neg (fun z => e z.symm)]
    exact lexN_asym h
theorem ltK_conn {p q : Key2} (h : ltK p q = false) (g : ltK q p = false) : p = q := by
  unfold ltK at h g
  by_cases e : p.1 = q.1
  · rw [if_pos e] at h
    rw [if_pos e.symm] at g
    exact Prod.ext e (lexN_conn h g)
  · rw [if_neg e] at h
    rw [if_neg (fun z => e z.symm)] at g
    exact absurd (lexN_conn h g) e
theorem ltK_tr {p q r : Key2} (h : ltK q p = false) (g : ltK r q = false) : ltK r p = false := by
  unfold ltK at h g ⊢
  by_cases e1 : q.1 = p.1
  · rw [if_pos e1] at h
    rw [e1] at g
    by_cases e2 : r.1 = p.1
    · rw [if_pos e2] at g ⊢
      exact lexN_tr h g
    · rw [if_neg e2] at g ⊢
      exact g
  · rw [if_neg e1] at h
    by_cases e2 : r.1 = q.1
    · rw [e2, if_neg e1]
      exact h
    · rw [if_neg e2] at g
      by_cases e3 : r.1 = p.1
      · rw [e3] at g
        exact absurd (lexN_conn h g) e1
      · rw [if_neg e3]
        exact lexN_tr h g
theorem ltK_swo : SrtO.Swo ltK := ⟨fun _ _ h => ltK_asym h, fun _ _ _ h g => ltK_tr h g⟩
theorem swo_by {α : Type} (k : α → Key2) : SrtO.Swo fun x y => ltK (k x) (k y) := ⟨fun _ _ h => ltK_asym h, fun _ _ _ h g => ltK_tr h g⟩
/-- sorted lists of the same keys are one -/
theorem srt_uniq : ∀ {l m : List Key2}, SrtO.Srtd ltK l → SrtO.Srtd ltK m → l.Perm m → l = m
  | [], m, _, _, h => (List.Perm.eq_nil h.symm).symm
  | x :: l, [], _, _, h => absurd h.length_eq (by simp)
  | x :: l, y :: m, hl, hm, h => by
    have irr := fun z => ltK_swo.refl z
    have h1 : ltK x y = false := by
      rcases List.mem_cons.mp (h.mem_iff.mp (List.mem_cons_self (a := x) (l := l))) with e | hx
      · rw [e]; exact irr y
      · exact SrtO.srtd_head hm x hx
    have h2 : ltK y x = false := by
      rcases List.mem_cons.mp (h.mem_iff.mpr (List.mem_cons_self (a := y) (l := m))) with e | hy
      · rw [e]; exact irr x
      · exact SrtO.srtd_head hl y hy
    have e := ltK_conn h1 h2
    subst e
    rw [srt_uniq (List.pairwise_cons.mp hl).2 (List.pairwise_cons.mp hm).2 h.cons_inv]
/-! ### as the machine compares them -/
def eK (p q : Key2) : Nat → Bool
  | 0 => decide (p.1 = q.1)
  | j + 1 => decide (p.2.getD j 0 = q.2.getD j 0)
def lK (p q : Key2) : Nat → Bool
  | 0 => lexN p.1 q.1
  | j + 1 => decide (p.2.getD j 0 < q.2.getD j 0)
theorem lex_rest (p q : Key2) : ∀ (k i : Nat), p.2.length = i + k → q.2.length = i + k → SeqAt.lexAt (eK p q) (lK p q) k (i + 1) = lexN (p.2.drop i) (q.2.drop i)
  | 0, i, h1, h2 => by
    rw [List.drop_of_length_le (by omega), List.drop_of_length_le (by omega)]
    rfl
  | k + 1, i, h1, h2 => by
    have a1 : i < p.2.length := by omega
    have a2 : i < q.2.length := by omega
    rw [List.drop_eq_getElem_cons a1, List.drop_eq_getElem_cons a2]
    have d1 : p.2.getD i 0 = p.2[i] := by rw [List.getD_eq_getElem?_getD, List.getElem?_eq_getElem a1]; rfl
    have d2 : q.2.getD i 0 = q.2[i] := by rw [List.getD_eq_getElem?_getD, List.getElem?_eq_getElem a2]; rfl
    show (if eK p q (i + 1) = true then SeqAt.lexAt (eK p q) (lK p q) k (i + 1 + 1) else lK p q (i + 1)) = if p.2[i] = q.2[i] then lexN (p.2.drop (i + 1)) (q.2.drop (i + 1)) else decide (p.2[i] < q.2[i])
    rw [lex_rest p q k (i + 1) (by omega) (by omega)]
    show (if decide (p.2.getD i 0 = q.2.getD i 0) = true then _ else decide (p.2.getD i 0 < q.2.getD i 0)) = _
    rw [d1, d2]
    by_cases e : p.2[i] = q.2[i]
    · rw [if_pos (decide_eq_true e), if_pos e]
    · rw [if_neg (fun z => e (of_decide_eq_true z)), if_neg e]
theorem lex_key {p q : Key2} (h : p.2.length = q.2.length) : SeqAt.lexAt (eK p q) (lK p q) (p.2.length + 1) 0 = ltK p q := by
  show (if decide (p.1 = q.1) = true then SeqAt.lexAt (eK p q) (lK p q) p.2.length (0 + 1) else lexN p.1 q.1) = _
  rw [lex_rest p q p.2.length 0 (by omega) (by omega)]
  unfold ltK
  by_cases e : p.1 = q.1
  · rw [if_pos (decide_eq_true e), if_pos e]
    rfl
  · rw [if_neg (fun z => e (of_decide_eq_true z)), if_neg e]
def keyV (k : Key2) : List V := .str (S k.1) :: k.2.map nV
def IsKey (h : Heap) (v : Value) (k : Key2) : Prop := ∃ (a : Addr) (o : Obj) (its : List Value) (n : Nat), v = .ref a ∧ h.get? a = some o ∧ o.cls = .type "list" ∧ o.data = .seq its.toArray n ∧ Vals (keyV k) its
theorem IsKey.keeps {h h' : Heap} {v : Value} {k : Key2} (x : IsKey h v k) (c : ∀ b o, v = .ref b → h.get? b = some o → h'.get? b = some o) : IsKey h' v k := by
  obtain ⟨a, o, its, n, e, ho, hc, hd, hv⟩ := x
  exact ⟨a, o, its, n, e, c a o e ho, hc, hd, hv⟩
section
variable {prog : Program} {w : World} {A : Around} {E : Value → Shared → Prop} {s : Shared}
theorem key_at {k : Key2} {its : List Value} (hv : Vals (keyV k) its) : ∀ {j : Nat} (hj : j < its.toArray.size), (j = 0 ∧ ∃ t, its.toArray[j] = Value.str (S k.1) t) ∨ (∃ i, j = i + 1 ∧ i < k.2.length ∧ ∃ t, its.toArray[j] = Value.int ((k.2.getD i 0 : Nat) : Int) t) := by
  intro j hj
  have hl := hv.length
  have hj' : j < its.length := by simpa using hj
  have ex : its.toArray[j] = its[j] := by simp
  cases j with
  | zero =>
    obtain ⟨u, hu, t, ru⟩ := hv.get (i := 0) rfl
    rw [List.getElem?_eq_getElem hj'] at hu
    rw [ex]
    exact .inl ⟨rfl, t, (Option.some.inj hu).trans ru⟩
  | succ i =>
    have hi : i < k.2.length := by
      have : (keyV k).length = k.2.length + 1 := by simp [keyV]
      omega
    have hk : (keyV k)[i + 1]? = some (nV k.2[i]) := by
      show (k.2.map nV)[i]? = _
      rw [List.getElem?_map, List.getElem?_eq_getElem hi]
      rfl
    obtain ⟨u, hu, t, ru⟩ := hv.get hk
    rw [List.getElem?_eq_getElem hj'] at hu
    have d1 : k.2.getD i 0 = k.2[i] := by rw [List.getD_eq_getElem?_getD, List.getElem?_eq_getElem hi]; rfl
    rw [ex]
    exact .inr ⟨i, rfl, hi, t, by rw [d1]; exact (Option.some.inj hu).trans ru⟩
theorem str_beq_S (a b : List Nat) : (S a == S b) = decide (a = b) := by
  by_cases e : a = b
  · subst e
    rw [decide_eq_true rfl]
    exact beq_self_eq_true _
  · rw [decide_eq_false e]
    exact beq_eq_false_iff_ne.mpr fun z => e (S_inj z)
theorem key_lt {v u : Value} {p q : Key2} {Q : Bool → Shared → Prop} (hv : IsKey s.heap v p) (hu : IsKey s.heap u q) (hl : p.2.length = q.2.length) (hr : A.units < cLine) (h : Q (ltK p q) s) : wpAny (model prog w) A (oneLt' true v u) Q E s := by
  obtain ⟨a, o, its, n, rfl, ho, hc, hd, r1⟩ := hv
  obtain ⟨b, o2, jts, n2, rfl, ho2, hc2, hd2, r2⟩ := hu
  have l1 : its.toArray.size = p.2.length + 1 := by
    rw [List.size_toArray, ← r1.length]
    simp [keyV]
  have l2 : jts.toArray.size = q.2.length + 1 := by
    rw [List.size_toArray, ← r2.length]
    simp [keyV]
  refine SeqAt.my_oneLt (e := eK p q) (lt := lK p q) ⟨o, ho, hc, n, hd⟩ ⟨o2, ho2, hc2, n2, hd2⟩ (by rw [l1, l2, hl]) hr (fun j h1 h2 => ?_) (fun j h1 h2 hn => ?_) ?_
  · rcases key_at r1 h1 with ⟨rfl, t, e1⟩ | ⟨i, rfl, hi, t, e1⟩
    · rcases key_at r2 h2 with ⟨_, t', e2⟩ | ⟨i, z, _⟩
      · rw [e1, e2]
        have := SeqAt.EqAt.str_str (A := A.in1) (s := s) (S p.1) t (S q.1) t'
        rw [str_beq_S] at this
        exact this.eqP
      · cases z
    · rcases key_at r2 h2 with ⟨z, _⟩ | ⟨i', z, hi', t', e2⟩
      · cases z
      · obtain rfl : i' = i := by omega
        rw [e1, e2]
        have := SeqAt.EqAt.int_int (A := A.in1) (s := s) ((p.2.getD i' 0 : Nat) : Int) t ((q.2.getD i' 0 : Nat) : Int) t'
        have e : ((((p.2.getD i' 0 : Nat) : Int)) == ((q.2.getD i' 0 : Nat) : Int)) = decide (p.2.getD i' 0 = q.2.getD i' 0) := by
          by_cases c : p.2.getD i' 0 = q.2.getD i' 0
          · rw [c, beq_self_eq_true, decide_eq_true rfl]
          · rw [decide_eq_false c]
            exact beq_eq_false_iff_ne.mpr fun z => c (by omega)
        rw [e] at this
        exact this.eqP
  · rcases key_at r1 h1 with ⟨rfl, t, e1⟩ | ⟨i, rfl, hi, t, e1⟩
    · rcases key_at r2 h2 with ⟨_, t', e2⟩ | ⟨i, z, _⟩
      · rw [e1, e2]
        intro E' Q' hq
        refine (show wpAny (model prog w) A.in1 (compareOp .Lt (.str (S p.1) t) (.str (S q.1) t')) Q' E' s from PySem.P.lt_str ?_)
        have hq' : Q' (.bool (lexN p.1 q.1)) s := hq
        rw [lexN_lt] at hq'
        exact hq'
      · cases z
    · rcases key_at r2 h2 with ⟨z, _⟩ | ⟨i', z, hi', t', e2⟩
      · cases z
      · obtain rfl : i' = i := by omega
        rw [e1, e2]
        intro E' Q' hq
        refine (show wpAny (model prog w) A.in1 (compareOp .Lt (.int _ t) (.int _ t')) Q' E' s from PyProof.Rows.lt_int ?_)
        have hq' : Q' (.bool (decide (p.2.getD i' 0 < q.2.getD i' 0))) s := hq
        have e : decide (((p.2.getD i' 0 : Nat) : Int) < ((q.2.getD i' 0 : Nat) : Int)) = decide (p.2.getD i' 0 < q.2.getD i' 0) := decide_eq_decide.mpr (by omega)
        rw [e]
        exact hq'
  · rw [l1, lex_key hl]
    exact h
theorem key_cmp {vs : List Value} {k : Value → Key2} {m : Nat} (hp : ∀ v ∈ vs, IsKey s.heap v (k v)) (hm : ∀ v ∈ vs, (k v).2.length = m) (hr : A.units < cLine) : SrtO.Cmp prog w A s oneType' (fun p => p.1 ∈ vs) (SrtO.lt2 fun v u => ltK (k v) (k u)) := by
  intro p q h1 h2
  show wpAny (model prog w) A (keyLt' oneType' p.1 q.1) (fun r s' => s' = s ∧ r = ltK (k p.1) (k q.1)) (fun _ _ => False) s
  rw [keyLt'_oneType]
  exact key_lt (hp _ h1) (hp _ h2) ((hm _ h1).trans (hm _ h2).symm) hr ⟨rfl, rfl⟩
theorem keys_sortable {a : Addr} {vs : List Value} {k : Value → Key2} {m : Nat} (h2 : 2 ≤ vs.length) (hp : ∀ v ∈ vs, IsKey s.heap v (k v)) (hm : ∀ v ∈ vs, (k v).2.length = m) (ha : ∀ v ∈ vs, v ≠ .ref a) (hr : A.units < cLine) : SrtO.SortableO prog w A s a vs fun v u => ltK (k v) (k u) := by
  intro h' keep
  have hp' : ∀ v ∈ vs, IsKey h' v (k v) := fun v hv => (hp v hv).keeps fun b o e hb => keep b o (fun z => ha v hv (by rw [e, z])) hb
  refine ⟨oneType', fun Q E hq => ?_, key_cmp hp' hm hr⟩
  refine PySem.W.kas_kind (T := .type "list") h2 (fun v hv => ?_) (by first | decide +kernel | rfl | decide) (by rfl) hq
  obtain ⟨b, o, its, n, rfl, ho, hc, hd, _⟩ := hp' v hv
  rw [← hc]
  exact (PySem.W.Looks.ld ho).andThen .now
end
/-- sorted(xs), xs a list of keys -/
def rSortedK (K : PySem.W.Frag) : List V → Hp → VK → Prop := fun vs H Q => ∃ (a : Addr) (xs : List V) (k : V → Key2) (m : Nat), vs = [V.ref a] ∧ SqL K H a xs ∧ (∀ x ∈ xs, ∃ t, x = V.ref t ∧ H t = some (.lst (keyV (k x))) ∧ (k x).2.length = m) ∧
  ∀ ys p, SrtO.Srtd ltK (ys.map k) → ys.Perm xs → H p = none → Q (.ref p) (upd H p (.lst ys))
theorem cr_sortedK {X : Cx} (hu : X.A.units + 64 < cLine) : CallR X (.builtin "sorted") (rSortedK X.K) := by
  intro pins s σ H vs us Q I r h
  obtain ⟨a, xs, k, m, rfl, hs, hx, q⟩ := h
  obtain ⟨its, rv, hl, hz⟩ := I.list hs
  rw [Vals.ref1 r]
  obtain ⟨e1, e2⟩ := refs_back rv fun x hm => by
    obtain ⟨t, e, _⟩ := hx x hm
    exact ⟨t, e⟩
  have key : ∀ v ∈ its, IsKey s.heap v (k (backV v)) ∧ (k (backV v)).2.length = m := fun v hv => by
    obtain ⟨t, rfl⟩ := e2 v hv
    have hm : V.ref t ∈ xs := by rw [e1]; exact List.mem_map.mpr ⟨_, hv, rfl⟩
    obtain ⟨t', e, ht, hm'⟩ := hx _ hm
    cases e
    obtain ⟨_, its2, n, r2, ho⟩ := I.hok _ _ ht
    exact ⟨⟨t, _, its2, n, rfl, ho, rfl, rfl, r2⟩, hm'⟩
  refine SrtO.sorted_ord (ltv := fun v u => ltK (k (backV v)) (k (backV u))) (swo_by fun v => k (backV v)) hl.isList (by rw [← rv.length]; exact hz) (fun h2 h₁ b hb kk => ?_) fun out h1 h2 => ?_
  · refine keys_sortable (m := m) h2 (fun v hv => (key v hv).1.keeps fun c o e hc => (kk c o hc).2) (fun v hv => (key v hv).2) (fun v hv e => ?_) ?_
    · obtain ⟨c, o, _, _, e', ho, _⟩ := (key v hv).1
      exact (kk c o ho).1 (by rw [e] at e'; exact (Value.ref.inj e').symm)
    · show X.A.units + 1 + 1 < cLine
      omega
  · have h3 : ∀ u ∈ out, ∃ a, u = Value.ref a := fun u hu => e2 u (h2.perm.mem_iff.mp hu)
    obtain ⟨ep, he⟩ := PyProof.Rows.sortedAll_at s.heap its out.toArray
    have hpm : (out.map backV).Perm xs := by
      rw [e1]
      exact h2.perm.map backV
    refine ⟨.ref _, upd H (s.heap.objs.size + 1) (.lst (out.map backV)), I.laid (t' := s.toks) (fun _ _ => PyProof.Rows.sortedAll_old) (Nat.le_succ _) ⟨?_, out, ep, vals_back h3, he⟩, rfl, q _ _ ?_ hpm (I.hok.fresh (Nat.le_succ _))⟩
    · rw [hpm.length_eq]
      exact hz
    · rw [List.map_map]
      exact List.pairwise_map.mpr h1
/-- x in t, items data of any depth -/
def rInT (K : PySem.W.Frag) : R2 := fun x y H Q => ∃ d ds, Dp K H x d ∧ Dp K H y (.tuple ds) ∧ SeqAt.shaped d = true ∧ SeqAt.shaped (.tuple ds) = true ∧ Q (.bl (ds.any fun z => PyData.eqv z d)) H
theorem op_inT {X : Cx} (hu : X.A.units + 65 < cLine) : OpR X (compareOp .In) (rInT X.K) := by
  intro pins s σ H x y v u Q I rx ry h
  obtain ⟨d, ds, hd, he, sd, se, q⟩ := h
  obtain ⟨as, r1⟩ := Dp.reads I d x v hd rx
  obtain ⟨bs, r2⟩ := Dp.reads I (.tuple ds) y u he ry
  exact SeqAt.in_tuple_reads r2 r1 (SeqAt.canLay_of_shaped se) (SeqAt.canLay_of_shaped sd) (room_in_shaped sd hu) ⟨.bl _, H, I, rfl, q⟩
end My

set_option maxRecDepth 100000
set_option maxHeartbeats 2000000
namespace My
open PySem PySem.Spec PyProof.Rows L2
open Br (Line Recipe Bytes)
abbrev sSh : Stmt := top 33
abbrev sLik : Stmt := top 34
theorem castH : ∀ l : List Nat, (l.map fun (n : Nat) => (n : Int)).sum = ((l.sum : Nat) : Int)
  | [] => rfl
  | a :: l => by
    rw [List.map_cons, List.sum_cons, List.sum_cons, castH l]
    omega
theorem intH (l : List Nat) : l.map nV = (l.map fun (n : Nat) => (n : Int)).map V.int := by
  rw [List.map_map]
  rfl
theorem leH {l : List Nat} {b : Nat} (h : ∀ x ∈ l, x ≤ b) : l.sum ≤ b * l.length := by
  induction l with
  | nil => simp
  | cons a l ih =>
    have h1 := h a (List.mem_cons_self ..)
    have h2 := ih fun x hx => h x (List.mem_cons_of_mem _ hx)
    rw [List.sum_cons, List.length_cons, Nat.mul_add]
    omega
/-- a list of keys -/
def KsAt (H : Hp) (p : Addr) (ks : List Key2) : Prop := ∃ bs : List Addr, H p = some (.lst (bs.map V.ref)) ∧ bs.length = ks.length ∧ ∀ (i : Nat) (b : Addr) (k : Key2), bs[i]? = some b → ks[i]? = some k → H b = some (.lst (keyV k))
theorem KsAt.same {H H' : Hp} {p : Addr} {ks : List Key2} (h : KsAt H p ks) (s : Same H H') : KsAt H' p ks := by
  obtain ⟨bs, h1, h2, h3⟩ := h
  exact ⟨bs, s _ _ h1, h2, fun i b k e f => s _ _ (h3 i b k e f)⟩
/-- the key of what stands at an address -/
def strOf (x : V) : List Nat := match x with
  | .str z => z.cps.toList
  | _ => []
def natOf (x : V) : Nat := match x with
  | .int i => i.toNat
  | _ => 0
def keyAt (H : Hp) (x : V) : Key2 := match x with
  | .ref a => match H a with
    | some (.lst (y :: l)) => (strOf y, l.map natOf)
    | _ => ([], [])
  | _ => ([], [])
theorem keyAt_of {H : Hp} {a : Addr} {k : Key2} (h : H a = some (.lst (keyV k))) : keyAt H (.ref a) = k := by
  have e : keyAt H (.ref a) = (strOf (V.str (S k.1)), (k.2.map nV).map natOf) := by
    show (match H a with
      | some (.lst (y :: l)) => (strOf y, l.map natOf)
      | _ => ([], [])) = _
    rw [h]
    rfl
  rw [e, List.map_map]
  have e2 : k.2.map (natOf ∘ nV) = k.2 := by
    conv => rhs; rw [← List.map_id k.2]
    exact List.map_congr_left fun x _ => Int.toNat_natCast x
  rw [e2]
  rfl
/-- sorted of a list of keys, as the rule of the layer asks and tells it -/
theorem sort_keys {K : PySem.W.Frag} {H : Hp} {D : Addr} {ks : List Key2} {m : Nat} {Q : VK} (h : KsAt H D ks) (hm : ∀ k ∈ ks, k.2.length = m) (q : ∀ (H' : Hp) (p : Addr) (ks' : List Key2), Same H H' → KsAt H' p ks' → SrtO.Srtd ltK ks' → ks'.Perm ks → Q (.ref p) H') : rSortedK K [V.ref D] H Q := by
  obtain ⟨bs, h1, h2, h3⟩ := h
  have hat : ∀ (i : Nat) (b : Addr), bs[i]? = some b → ∃ k, ks[i]? = some k ∧ H b = some (.lst (keyV k)) := fun i b hb => by
    have hi : i < ks.length := by rw [← h2]; exact (List.getElem?_eq_some_iff.mp hb).1
    exact ⟨ks[i], List.getElem?_eq_getElem hi, h3 i b _ hb (List.getElem?_eq_getElem hi)⟩
  have hmem : ∀ b ∈ bs, ∃ k ∈ ks, H b = some (.lst (keyV k)) := fun b hb => by
    obtain ⟨i, hi, rfl⟩ := List.mem_iff_getElem.mp hb
    obtain ⟨k, hk, hH⟩ := hat i bs[i] (List.getElem?_eq_getElem hi)
    exact ⟨k, List.mem_of_getElem? hk, hH⟩
  have hall : bs.map (fun b => keyAt H (V.ref b)) = ks := by
    apply List.ext_getElem?
    intro i
    rw [List.getElem?_map]
    cases e : bs[i]? with
    | none =>
      have : ks.length ≤ i := by rw [← h2]; exact List.getElem?_eq_none_iff.mp e
      rw [List.getElem?_eq_none this]
      rfl
    | some b =>
      obtain ⟨k, hk, hH⟩ := hat i b e
      rw [hk]
      exact congrArg some (keyAt_of hH)
  refine ⟨D, bs.map V.ref, keyAt H, m, rfl, SqL.of h1, fun x hx => ?_, fun ys p hs hp np => ?_⟩
  · obtain ⟨b, hb, rfl⟩ := List.mem_map.mp hx
    obtain ⟨k, hk, hH⟩ := hmem b hb
    rw [keyAt_of hH]
    exact ⟨b, rfl, hH, hm k hk⟩
  · have hy : ∀ y ∈ ys, ∃ b ∈ bs, y = V.ref b := fun y hy => by
      obtain ⟨b, hb, e⟩ := List.mem_map.mp (hp.mem_iff.mp hy)
      exact ⟨b, hb, e.symm⟩
    have hys : ∃ cs : List Addr, ys = cs.map V.ref ∧ ∀ c ∈ cs, c ∈ bs := by
      clear hs hp q
      induction ys with
      | nil => exact ⟨[], rfl, fun c hc => nomatch hc⟩
      | cons y ys ih =>
        obtain ⟨b, hb, rfl⟩ := hy y (List.mem_cons_self ..)
        obtain ⟨cs, rfl, hc⟩ := ih fun z hz => hy z (List.mem_cons_of_mem _ hz)
        refine ⟨b :: cs, rfl, fun c h => ?_⟩
        rcases List.mem_cons.mp h with e | e
        · rw [e]; exact hb
        · exact hc c e
    obtain ⟨cs, rfl, hc⟩ := hys
    have sn := same_new (o := .lst (cs.map V.ref)) np
    refine q _ p ((cs.map V.ref).map (keyAt H)) sn ⟨cs, upd_same, by rw [List.length_map, List.length_map], fun i b k e f => ?_⟩ hs ?_
    · rw [List.map_map, List.getElem?_map, e] at f
      obtain ⟨k', hk, hH⟩ := hmem b (hc b (List.mem_of_getElem? e))
      have : k = keyAt H (V.ref b) := (Option.some.inj f).symm
      rw [this, keyAt_of hH]
      exact sn _ _ hH
    · have := hp.map (keyAt H)
      rw [List.map_map (l := bs)] at this
      have e : bs.map (keyAt H ∘ V.ref) = ks := hall
      rw [e] at this
      exact this
section
variable {P : Program} {w : World} {K : PySem.W.Frag} {mg : Str → Option Value} {base : Heap}
/-! ### by_shares -/
theorem scSh : FnScope ["rows", "together", "row"] ["rows"] (defScope sSh) := ⟨rfl, rfl, rfl, by decide +kernel, rfl, by decide +kernel, by decide +kernel⟩
def spSh (C : Addr) : Sp := fun vs H Q _ => ∃ (l : Addr) (as : List Addr) (es : Recipe) (m : Nat), vs = [.ref l] ∧ H l = some (.lst (as.map V.ref)) ∧ RowsAt C H as es ∧ es.length ≤ 16 ∧ m ≤ 2 ∧ (∀ y ∈ es, ∃ r, lnums y = part0 y :: r ∧ r.length = m ∧ 1 ≤ part0 y ∧ part0 y ≤ 10000) ∧
  ∀ (H' : Hp) (p : Addr) (ks : List Key2), Same H H' → KsAt H' p ks → SrtO.Srtd ltK ks → ks.Perm (es.map (keyS (es.map part0).sum)) → Q (.ref p) H'
theorem ok_sh {f fL C : Addr} {fd fdL : FuncData} (F : Fun K "by_shares" "by_shares" sSh f fd) (GL : Df P w K mg base 1 "lowest_terms" ["above", "below"] spLow fL fdL) (T : RowT K mg C) (ms : mg "sum" = none) (mo : mg "sorted" = none) (cP : Cn mg "PARTS" (.int 0)) :
    FnOk P w K mg base CX0 2 f fd ["rows"] (spSh C) := by
  obtain ⟨uP, gP, rP⟩ := cP
  refine F.ok scSh (fun vs H Q E h => ?_) (fun cdv A outer s H vs Q E hr h => ?_)
  · obtain ⟨l, as, es, m, rfl, _⟩ := h
    rfl
  · obtain ⟨l, as, es, m, rfl, hl, hR, h16, hm2, hpt, q⟩ := h
    have nd := scSh.nd
    have hr1 : Room 1 _ := hr.mono (by decide)
    refine ⟨_, pss_cons (ps_set (i := 1) nd rfl (.inr rfl) (pe_callB (cr_sum rfl) (by rfl) ms boot_sum (pa_cons (pe_lc (own := [("row", 2)]) (g := gName 2) (tt := tYes) (te := tOp (rIxL K) (tFld K (tVar 2) "numbers") (tC (.int 0))) rfl nd (pi_list (pv 0)) (blkOk_by (N := ["rows", "together", "row"]) (sc := defScope sSh) (by decide +kernel))
          (fun _ _ _ _ _ => pg_name (i := 2) nd rfl (Or.inl rfl)) (fun _ _ _ _ _ => pts_nil) (fun _ _ _ _ _ => by exact pe_ix ix_list (pe_fld (pv 2) rfl) (pe_glob rfl gP rP) (fun _ _ => rfl))) pa_nil))) <|
      pss_one (ps_ret (pe_callB (cr_sortedK hr.units) (by rfl) mo boot_sorted (pa_cons (pe_lc (own := [("row", 2)]) (g := gName 2) (tt := tYes)
          (te := tOp rCat (tOp rCat (tLst (tCons (tFld K (tVar 2) "name") tNil)) (L2.tSl (rSlL K) (tFld K (tVar 2) "numbers") (tPart (tOp (rI0 fun i j => .int (i + j)) (tC (.int 0)) (tC (.int 1)))) tNoPart)) (tCall spLow [] E0 (tCons (tOp (rIxL K) (tFld K (tVar 2) "numbers") (tC (.int 0))) (tCons (tVar 1) tNil))))
          rfl nd (pi_list (pv 0)) (blkOk_by (N := ["rows", "together", "row"]) (sc := defScope sSh) (by decide +kernel))
          (fun _ _ _ _ _ => pg_name (i := 2) nd rfl (Or.inl rfl)) (fun _ _ _ _ _ => pts_nil) (fun _ _ _ _ _ => by exact pe_op op_cat (pe_op op_cat (pe_lst (pa_cons (pe_fld (pv 2) rfl) pa_nil)) (pe_slice sl_list (pe_fld (pv 2) rfl) (po_some (pe_op op_add (pe_glob rfl gP rP) pe_int)) po_none)) (pe_call GL.ok hr1 rfl GL.g GL.kp GL.b .nil pass0 (pa_cons (pe_ix ix_list (pe_fld (pv 2) rfl) (pe_glob rfl gP rP) (fun _ _ => rfl)) (pa_cons (pv 1) pa_nil))))) pa_nil))), ?_⟩
    have e16 : es.length < sizeLine := Nat.lt_of_le_of_lt h16 (by decide)
    have row : ∀ {H' : Hp} {i : Nat} {u : V}, Same H H' → (as.map V.ref)[i]? = some u → ∃ (b dy qy : Addr) (y : Line) (r : List Nat), u = .ref b ∧ es[i]? = some y ∧ y ∈ es ∧ lnums y = part0 y :: r ∧ r.length = m ∧ H' b = some (.ins C dy (rowF (rk y) qy)) ∧ H' qy = some (.lst ((part0 y :: r).map nV)) := fun {H' i u} sm hu => by
      rw [List.getElem?_map] at hu
      cases eb : as[i]? with
      | none => rw [eb] at hu; cases hu
      | some b =>
        rw [eb] at hu
        have hi : i < es.length := by rw [← hR.len]; exact (List.getElem?_eq_some_iff.mp eb).1
        have hy : es[i]? = some es[i] := List.getElem?_eq_getElem hi
        obtain ⟨dy, qy, g1, g2⟩ := (hR.at_ i b es[i] eb hy).same sm
        obtain ⟨r, er, h1, h2⟩ := hpt _ (List.getElem_mem hi)
        refine ⟨b, dy, qy, es[i], r, (Option.some.inj hu).symm, hy, List.getElem_mem hi, er, h1, g1, ?_⟩
        rw [← er]
        exact g2
    have hal : (as.map V.ref).length = es.length := by rw [List.length_map, hR.len]
    -- together
    refine ⟨_, rfl, l, rfl, ⟨_, SqL.of hl⟩, fun D1 n1 => lc_list (K := K) (a := l) (xs := as.map V.ref) (fun i H' => Same H H' ∧ H' D1 = some (.lst (((es.map part0).take i).map nV))) ⟨same_new n1, upd_same⟩ (fun i H' _ p => SqL.of (p.1 _ _ hl)) ?_ ?_⟩
    · intro i u H' hu p
      obtain ⟨b, dy, qy, y, r, rfl, hy, _, er, hrm, g1, g2⟩ := row p.1 hu
      have hat : (es.map part0)[i]? = some (part0 y) := by rw [List.getElem?_map, hy]; rfl
      refine ⟨rfl, _, rfl, b, C, dy, _, _, rfl, g1, T.cl, T.nU, rowF_nums _ _, qy, _, 0, nV (part0 y), rfl, rfl, SqL.of g2, atI_nat (j := 0) rfl, _, p.2, ?_, ?_, ?_⟩
      · rw [List.length_map, List.length_take, List.length_map]
        exact Nat.lt_of_le_of_lt (Nat.min_le_right _ _) e16
      · exact fun b' o e => (upd_ne (ne_of_none e n1)).trans (p.1 b' o e)
      · rw [upd_same, take_snoc hat, List.map_append]
        rfl
    intro H1 p1
    have hl1 : (as.map V.ref).length = (es.map part0).length := by rw [hal, List.length_map]
    rw [hl1, List.take_length] at p1
    obtain ⟨s1, hD1⟩ := p1
    rw [intH] at hD1
    refine ⟨D1, _, rfl, SqL.of hD1, ?_⟩
    rw [castH]
    have hP : (es.map part0).sum ≤ 10000 * es.length := by
      have := leH (l := es.map part0) (b := 10000) fun x hx => by
        obtain ⟨y, hy, rfl⟩ := List.mem_map.mp hx
        obtain ⟨_, _, _, h⟩ := hpt y hy
        exact h.2
      rwa [List.length_map] at this
    have hP0 : ∀ y ∈ es, 0 < (es.map part0).sum := fun y hy => Nat.pos_of_ne_zero (sum_pos (fun z => by
      rw [List.map_eq_nil_iff.mp z] at hy
      cases hy) fun x hx => by
        obtain ⟨y, hy, rfl⟩ := List.mem_map.mp hx
        obtain ⟨_, _, _, h⟩ := hpt y hy
        exact h.1)
    generalize (es.map part0).sum = PP at *
    -- the keys
    refine ⟨_, rfl, l, rfl, ⟨_, SqL.of (s1 _ _ hl)⟩, fun D2 n2 => lc_list (K := K) (a := l) (xs := as.map V.ref) (fun i H' => Same H1 H' ∧ ∃ bs : List Addr, bs.length = i ∧ H' D2 = some (.lst (bs.map V.ref)) ∧ ∀ (j : Nat) (b : Addr) (y : Line), bs[j]? = some b → es[j]? = some y → H' b = some (.lst (keyV (keyS PP y))))
      ⟨same_new n2, [], rfl, upd_same, fun j b y e => by simp at e⟩ (fun i H' _ p => SqL.of (p.1 _ _ (s1 _ _ hl))) ?_ ?_⟩
    · rintro i u H' hu ⟨sH, bs, hbs, hD, hks⟩
      have hi : i < es.length := by rw [← hal]; exact (List.getElem?_eq_some_iff.mp hu).1
      obtain ⟨b, dy, qy, y, r, rfl, hy, hym, er, hrm, g1, g2⟩ := row (s1.trans sH) hu
      refine ⟨rfl, _, rfl, b, C, dy, _, _, rfl, g1, T.cl, T.nN, rowF_name _ _, (by show 1 ≤ sizeLine; decide), fun m0 nm0 => ?_⟩
      have sa := same_new (o := .lst [wV (rk y).2.1]) nm0
      refine ⟨_, rfl, b, C, dy, _, _, rfl, sa _ _ g1, T.cl, T.nU, rowF_nums _ _, _, _, rfl, rfl, _, rfl, qy, _, rfl, SqL.of (sa _ _ g2), fun q1 nq1 => ?_⟩
      have ecut : cutV ((part0 y :: r).map nV) (some (0 + 1)) none = r.map nV := by
        have e1 : ((0 : Int) + 1) = ((1 : Nat) : Int) := rfl
        rw [e1]
        unfold cutV
        rw [HT.sIx_none, HT.sIx_nat, List.length_map, List.length_cons, Nat.min_eq_left (by omega), Nat.add_sub_cancel, List.map_cons, List.drop_succ_cons, List.drop_zero, List.take_of_length_le (by rw [List.length_map]; exact Nat.le_refl _)]
      rw [ecut]
      have sb := same_new (o := .lst (r.map nV)) nq1
      refine ⟨m0, q1, _, _, rfl, rfl, sb _ _ upd_same, upd_same, ?_, fun c1 nc1 => ?_⟩
      · rw [List.length_map]
        exact Nat.le_trans (show 1 + r.length ≤ 3 by omega) (by decide)
      have sc := same_new (o := .lst ([wV (rk y).2.1] ++ r.map nV)) nc1
      have sac := sa.trans (sb.trans sc)
      refine ⟨_, rfl, b, C, dy, _, _, rfl, sac _ _ g1, T.cl, T.nU, rowF_nums _ _, qy, _, 0, nV (part0 y), rfl, rfl, SqL.of (sac _ _ g2), atI_nat (j := 0) rfl, _, rfl, part0 y, PP, rfl, hP0 y hym, by omega, fun p3 np3 => ?_⟩
      have sd := same_new (o := .lst (lowV (part0 y) PP)) np3
      refine ⟨c1, p3, _, _, rfl, rfl, sd _ _ upd_same, upd_same, ?_, fun it nit => ?_⟩
      · rw [List.length_append, List.length_map]
        exact Nat.le_trans (show 1 + r.length + 2 ≤ 5 by omega) (by decide)
      have se := same_new (o := .lst (([wV (rk y).2.1] ++ r.map nV) ++ lowV (part0 y) PP)) nit
      have sae := sac.trans (sd.trans se)
      have hDe := sae _ _ hD
      have ek : ([wV (rk y).2.1] ++ r.map nV) ++ lowV (part0 y) PP = keyV (keyS PP y) := by
        unfold keyV keyS lowV
        rw [er, List.drop_succ_cons, List.drop_zero, List.map_append]
        rfl
      have hit := upd_same (H := upd (upd (upd (upd H' m0 (.lst [wV (rk y).2.1])) q1 (.lst (r.map nV))) c1 (.lst ([wV (rk y).2.1] ++ r.map nV))) p3 (.lst (lowV (part0 y) PP))) (a := it) (o := .lst (([wV (rk y).2.1] ++ r.map nV) ++ lowV (part0 y) PP))
      have nDi : it ≠ D2 := (ne_of_none ((sac.trans sd) _ _ hD) nit).symm
      refine ⟨_, hDe, ?_, ?_, bs ++ [it], ?_, ?_, ?_⟩
      · rw [List.length_map, hbs]
        exact Nat.lt_trans hi e16
      · exact fun b' o e => (upd_ne (ne_of_none e n2)).trans (sae _ _ (sH b' o e))
      · rw [List.length_append, hbs]
        rfl
      · rw [upd_same, List.map_append]
        rfl
      · intro j c z hj hz
        by_cases hjb : j < bs.length
        · rw [List.getElem?_append_left hjb] at hj
          have hc := hks j c z hj hz
          have ncD : c ≠ D2 := fun t => by
            rw [t, hD] at hc
            have e3 := HO.lst.inj (Option.some.inj hc)
            cases bs with
            | nil => simp at hj
            | cons b0 bs => cases e3
          exact (upd_ne ncD).trans (sae _ _ hc)
        · rw [List.getElem?_append_right (by omega)] at hj
          have h0 : j - bs.length = 0 := by
            have := (List.getElem?_eq_some_iff.mp hj).1
            simp at this
            omega
          rw [h0] at hj
          have ec : it = c := Option.some.inj hj
          have ej : j = i := by omega
          subst ec ej
          rw [hy] at hz
          have ez : y = z := Option.some.inj hz
          subst ez
          rw [upd_ne nDi, hit, ek]
    · rintro H2 ⟨s2, bs, hbs, hD, hks⟩
      rw [hal] at hbs
      refine sort_keys (m := m + 2) (ks := es.map (keyS PP)) ⟨bs, hD, by rw [List.length_map, hbs], fun i b k hb hk => ?_⟩ (fun k hk => ?_) (fun H3 p ks s3 h3 hs hp => q H3 p ks (s1.trans (s2.trans s3)) h3 hs hp)
      · rw [List.getElem?_map] at hk
        cases e : es[i]? with
        | none => rw [e] at hk; cases hk
        | some y =>
          rw [e] at hk
          have : k = keyS PP y := (Option.some.inj hk).symm
          rw [this]
          exact hks i b y hb e
      · obtain ⟨y, hy, rfl⟩ := List.mem_map.mp hk
        obtain ⟨r, er, hr', _⟩ := hpt y hy
        show ((lnums y).drop 1 ++ [_, _]).length = _
        rw [er, List.drop_succ_cons, List.drop_zero, List.length_append, hr']
        rfl
end
end My

set_option maxRecDepth 100000
set_option maxHeartbeats 2000000
namespace My
open PySem PySem.Spec PyProof.Rows L2
open Br (Line Recipe Bytes)
abbrev sTwo : Stmt := top 35
/-! ### keys as data -/
def intD (n : Nat) : PyData := .int (n : Int)
def keyD (k : Key2) : PyData := .list (.str (S k.1) :: k.2.map intD)
def ByK (k : Key2) : Prop := ∀ c ∈ k.1, c < 256
theorem eqvAll_map {α : Type} {f : α → PyData} [DecidableEq α] (h : ∀ x y, PyData.eqv (f x) (f y) = decide (x = y)) : ∀ l m : List α, PyData.eqvAll (l.map f) (m.map f) = decide (l = m)
  | [], [] => by simp [PyData.eqvAll]
  | [], y :: m => by simp [PyData.eqvAll]
  | x :: l, [] => by simp [PyData.eqvAll]
  | x :: l, y :: m => by
    rw [List.map_cons, List.map_cons]
    simp only [PyData.eqvAll]
    rw [h, eqvAll_map h l m, Bool.eq_iff_iff]
    simp only [Bool.and_eq_true, decide_eq_true_eq, List.cons.injEq]
theorem intD_eqv (x y : Nat) : PyData.eqv (intD x) (intD y) = decide (x = y) := by
  unfold intD
  simp only [PyData.eqv]
  by_cases e : x = y
  · rw [e, beq_self_eq_true, decide_eq_true rfl]
  · rw [decide_eq_false e]
    exact beq_eq_false_iff_ne.mpr fun z => e (by omega)
theorem keyD_eqv (p q : Key2) : PyData.eqv (keyD p) (keyD q) = decide (p = q) := by
  unfold keyD
  simp only [PyData.eqv, PyData.eqvAll]
  rw [str_beq_S, eqvAll_map intD_eqv, Bool.eq_iff_iff]
  simp only [Bool.and_eq_true, decide_eq_true_eq]
  exact ⟨fun h => Prod.ext h.1 h.2, fun h => by rw [h]; exact ⟨rfl, rfl⟩⟩
theorem lay_ints : ∀ l : List Nat, PyData.canLayAll0 (l.map intD) = true
  | [] => by simp [PyData.canLayAll0]
  | x :: l => by
    rw [List.map_cons]
    simp only [PyData.canLayAll0, intD, PyData.canLay0, Bool.true_and]
    exact lay_ints l
theorem depth_ints : ∀ l : List Nat, PyData.depthAll (l.map intD) = 0
  | [] => by simp [PyData.depthAll]
  | x :: l => by
    rw [List.map_cons]
    have := depth_ints l
    simp only [PyData.depthAll]
    rw [this]
    rfl
theorem lay_key {k : Key2} (h : ByK k) : (keyD k).canLay0 = true := by
  unfold keyD
  simp only [PyData.canLay0, PyData.canLayAll0]
  rw [lay_ints, Bool.and_true]
  show (S k.1).cps.all (· < 0x110000) = true
  rw [← Array.all_toList, List.all_eq_true]
  intro c hc
  have : c < 256 := h c hc
  exact decide_eq_true (by omega)
theorem depth_key (k : Key2) : (keyD k).depth = 1 := by
  unfold keyD
  simp only [PyData.depth, PyData.depthAll]
  rw [depth_ints]
  rfl
theorem lay_keys : ∀ {l : List Key2}, (∀ k ∈ l, ByK k) → PyData.canLayAll0 (l.map keyD) = true
  | [], _ => by simp [PyData.canLayAll0]
  | x :: l, h => by
    rw [List.map_cons]
    simp only [PyData.canLayAll0]
    rw [lay_key (h x (List.mem_cons_self ..)), lay_keys fun k hk => h k (List.mem_cons_of_mem _ hk)]
    rfl
theorem depth_keys : ∀ l : List Key2, PyData.depthAll (l.map keyD) ≤ 1
  | [] => by simp [PyData.depthAll]
  | x :: l => by
    rw [List.map_cons]
    simp only [PyData.depthAll]
    have h1 := depth_key x
    have h2 := depth_keys l
    omega
theorem dp_ints {K : PySem.W.Frag} {H : Hp} : ∀ l : List Nat, DpAll K H (l.map nV) (l.map intD)
  | [] => .nil
  | x :: l => .cons (.int _) (dp_ints l)
theorem dp_key {K : PySem.W.Frag} {H : Hp} {a : Addr} {k : Key2} (h : H a = some (.lst (keyV k))) : Dp K H (.ref a) (keyD k) := .lst (SqL.of h) (.cons (.str _) (dp_ints _))
theorem dp_keys {K : PySem.W.Frag} {H : Hp} {p : Addr} {ks : List Key2} (h : KsAt H p ks) : Dp K H (.ref p) (.list (ks.map keyD)) := by
  obtain ⟨bs, h1, h2, h3⟩ := h
  refine .lst (SqL.of h1) ?_
  clear h1
  induction bs generalizing ks with
  | nil =>
    have : ks = [] := List.eq_nil_of_length_eq_zero h2.symm
    rw [this]
    exact .nil
  | cons b bs ih =>
    cases ks with
    | nil => simp at h2
    | cons k ks =>
      exact .cons (dp_key (h3 0 b k rfl rfl)) (ih (by simpa using h2) fun i b' k' e f => h3 (i + 1) b' k' e f)
/-! ### what is held against another -/
def likD (u : Nat) (a b c : List Key2) : PyData := .list [.list [intD u], .list (a.map keyD), .list (b.map keyD), .list (c.map keyD)]
def LkAt (H : Hp) (p : Addr) (u : Nat) (a b c : List Key2) : Prop := ∃ qy p1 p2 p3 : Addr, H p = some (.lst [.ref qy, .ref p1, .ref p2, .ref p3]) ∧ H qy = some (.lst [nV u]) ∧ KsAt H p1 a ∧ KsAt H p2 b ∧ KsAt H p3 c
theorem LkAt.same {H H' : Hp} {p : Addr} {u : Nat} {a b c : List Key2} (h : LkAt H p u a b c) (s : Same H H') : LkAt H' p u a b c := by
  obtain ⟨qy, p1, p2, p3, h1, h2, h3, h4, h5⟩ := h
  exact ⟨qy, p1, p2, p3, s _ _ h1, s _ _ h2, h3.same s, h4.same s, h5.same s⟩
theorem dp_lik {K : PySem.W.Frag} {H : Hp} {p : Addr} {u : Nat} {a b c : List Key2} (h : LkAt H p u a b c) : Dp K H (.ref p) (likD u a b c) := by
  obtain ⟨qy, p1, p2, p3, h1, h2, h3, h4, h5⟩ := h
  exact .lst (SqL.of h1) (.cons (.lst (SqL.of h2) (.cons (.int _) .nil)) (.cons (dp_keys h3) (.cons (dp_keys h4) (.cons (dp_keys h5) .nil))))
theorem likD_eqv (u u' : Nat) (a b c a' b' c' : List Key2) : PyData.eqv (likD u a b c) (likD u' a' b' c') = decide (u = u' ∧ a = a' ∧ b = b' ∧ c = c') := by
  unfold likD
  simp only [PyData.eqv, PyData.eqvAll]
  rw [intD_eqv, eqvAll_map keyD_eqv, eqvAll_map keyD_eqv, eqvAll_map keyD_eqv, Bool.eq_iff_iff]
  simp only [Bool.and_eq_true, Bool.and_true, decide_eq_true_eq]
theorem likD_shaped {u : Nat} {a b c : List Key2} (ha : ∀ k ∈ a, ByK k) (hb : ∀ k ∈ b, ByK k) (hc : ∀ k ∈ c, ByK k) : SeqAt.shaped (likD u a b c) = true := by
  have l1 := lay_keys ha
  have l2 := lay_keys hb
  have l3 := lay_keys hc
  have d1 := depth_keys a
  have d2 := depth_keys b
  have d3 := depth_keys c
  show ((likD u a b c).canLay0 && decide ((likD u a b c).depth ≤ 64)) = true
  rw [Bool.and_eq_true]
  unfold likD
  refine ⟨?_, decide_eq_true ?_⟩
  · simp only [PyData.canLay0, PyData.canLayAll0, intD, l1, l2, l3, Bool.and_true]
  · simp only [PyData.depth, PyData.depthAll, intD]
    omega
def liD (l : List Int) : PyData := .list (l.map PyData.int)
theorem dp_li {K : PySem.W.Frag} {H : Hp} {a : Addr} {l : List Int} (h : H a = some (.lst (l.map V.int))) : Dp K H (.ref a) (liD l) := by
  refine .lst (SqL.of h) ?_
  clear h
  induction l with
  | nil => exact .nil
  | cons x l ih => exact .cons (.int _) ih
theorem liD_eqv (l m : List Int) : PyData.eqv (liD l) (liD m) = decide (l = m) := by
  unfold liD
  simp only [PyData.eqv]
  refine eqvAll_map (fun x y => ?_) l m
  simp only [PyData.eqv]
  by_cases e : x = y
  · rw [e, beq_self_eq_true, decide_eq_true rfl]
  · rw [decide_eq_false e]
    exact beq_eq_false_iff_ne.mpr e
theorem liD_lay : ∀ l : List Int, PyData.canLayAll0 (l.map PyData.int) = true
  | [] => by simp [PyData.canLayAll0]
  | x :: l => by
    rw [List.map_cons]
    simp only [PyData.canLayAll0, PyData.canLay0, Bool.true_and]
    exact liD_lay l
theorem liD_depth : ∀ l : List Int, PyData.depthAll (l.map PyData.int) = 0
  | [] => by simp [PyData.depthAll]
  | x :: l => by
    rw [List.map_cons]
    simp only [PyData.depthAll, PyData.depth]
    have := liD_depth l
    omega
theorem liD_shaped (l : List Int) : SeqAt.shaped (liD l) = true := by
  have h1 : (liD l).canLay0 = true := by
    unfold liD
    simp only [PyData.canLay0]
    exact liD_lay l
  have h2 : (liD l).depth ≤ 64 := by
    unfold liD
    simp only [PyData.depth]
    rw [liD_depth]
    decide
  show ((liD l).canLay0 && decide ((liD l).depth ≤ 64)) = true
  rw [h1, decide_eq_true h2]
  rfl
theorem twoD_shaped (l m : List Int) : SeqAt.shaped (.tuple [liD l, liD m]) = true := by
  have h1 : PyData.canLay0 (.tuple [liD l, liD m]) = true := by
    unfold liD
    simp only [PyData.canLay0, PyData.canLayAll0]
    rw [liD_lay, liD_lay]
    rfl
  have h2 : PyData.depth (.tuple [liD l, liD m]) ≤ 64 := by
    unfold liD
    simp only [PyData.depth, PyData.depthAll]
    rw [liD_depth, liD_depth]
    decide
  show (PyData.canLay0 (.tuple [liD l, liD m]) && decide (PyData.depth (.tuple [liD l, liD m]) ≤ 64)) = true
  rw [h1, decide_eq_true h2]
  rfl
section
variable {P : Program} {w : World} {K : PySem.W.Frag} {mg : Str → Option Value} {base : Heap}
/-! ### likeness -/
theorem scLik : FnScope ["reading", "rows", "adds", "row"] ["reading"] (defScope sLik) := ⟨rfl, rfl, rfl, by decide +kernel, rfl, by decide +kernel, by decide +kernel⟩
def spLik (C CG : Addr) : Sp := fun vs H Q _ => ∃ (g dg d z : Addr) (ls : Nat → Addr) (rs : Nat → List Addr) (r : Recipe), vs = [.ref g] ∧ H g = some (.ins CG dg (reaF d z)) ∧ RecAt C H d ls rs r ∧ Ch r ∧ ofRank 4 r = [.yeast (Br.yeastOf r)] ∧
  ∀ (H' : Hp) (p : Addr) (a b c : List Key2), Same H H' → LkAt H' p (Br.yeastOf r) a b c → SrtO.Srtd ltK a → a.Perm ((ofRank 1 r).map (keyS (sumR 1 r))) → SrtO.Srtd ltK b → b.Perm ((ofRank 2 r).map (keyS (sumR 2 r))) → SrtO.Srtd ltK c → c.Perm ((ofRank 3 r).map keyA) → Q (.ref p) H'
theorem malt_key {r : Recipe} (hc : Ch r) : ∀ y ∈ ofRank 1 r, ∃ l, lnums y = part0 y :: l ∧ l.length = 1 ∧ 1 ≤ part0 y ∧ part0 y ≤ 10000 := fun y hy => by
  rw [rank1] at hy
  obtain ⟨m, hm, rfl⟩ := List.mem_map.mp hy
  exact ⟨_, rfl, rfl, (malt_bounds hc hm).2.1⟩
theorem hop_key {r : Recipe} (hc : Ch r) : ∀ y ∈ ofRank 2 r, ∃ l, lnums y = part0 y :: l ∧ l.length = 2 ∧ 1 ≤ part0 y ∧ part0 y ≤ 10000 := fun y hy => by
  rw [rank2] at hy
  obtain ⟨m, hm, rfl⟩ := List.mem_map.mp hy
  exact ⟨_, rfl, rfl, (hop_bounds hc hm).2.1⟩
theorem add_key {r : Recipe} : ∀ y ∈ ofRank 3 r, (lnums y).length = 1 := fun y hy => by
  rw [rank3] at hy
  obtain ⟨m, hm, rfl⟩ := List.mem_map.mp hy
  rfl
theorem ok_lik {f fS C CG : Addr} {fd fdS : FuncData} (F : Fun K "likeness" "likeness" sLik f fd) (GS : Df P w K mg base 2 "by_shares" ["rows"] (spSh C) fS fdS) (T : RowT K mg C) (TG : ReaT K mg CG) (mo : mg "sorted" = none) : FnOk P w K mg base CX0 3 f fd ["reading"] (spLik C CG) := by
  refine F.ok scLik (fun vs H Q E h => ?_) (fun cdv A outer s H vs Q E hr h => ?_)
  · obtain ⟨g, dg, d, z, ls, rs, r, rfl, _⟩ := h
    rfl
  · obtain ⟨g, dg, d, z, ls, rs, r, rfl, hg, R, hc, hy4, q⟩ := h
    have nd := scLik.nd
    have hu := hu_of hr
    refine ⟨_, pss_cons (ps_set (i := 1) nd rfl (.inl rfl) (pe_fld (pv 0) rfl)) <|
      pss_cons (ps_set (i := 2) nd rfl (.inl rfl) (pe_callB (cr_sortedK hr.units) (by rfl) mo boot_sorted (pa_cons (pe_lc (own := [("row", 3)]) (g := gName 3) (tt := tYes) (te := tOp rCat (tLst (tCons (tFld K (tVar 3) "name") tNil)) (tFld K (tVar 3) "numbers"))
          rfl nd (pi_list (pe_dget hu (pv 1) pe_str (fun _ _ => rfl))) (blkOk_by (N := ["reading", "rows", "adds", "row"]) (sc := defScope sLik) (by decide +kernel))
          (fun _ _ _ _ _ => pg_name (i := 3) nd rfl (Or.inl rfl)) (fun _ _ _ _ _ => pts_nil) (fun _ _ _ _ _ => by exact pe_op op_cat (pe_lst (pa_cons (pe_fld (pv 3) rfl) pa_nil)) (pe_fld (pv 3) rfl))) pa_nil))) <|
      pss_one (ps_ret (pe_lst (pa_cons (pe_fld (pe_ix ix_list (pe_dget hu (pv 1) pe_str (fun _ _ => rfl)) pe_int (fun _ _ => rfl)) rfl) (pa_cons (pe_call GS.ok hr rfl GS.g GS.kp GS.b .nil pass0 (pa_cons (pe_dget hu (pv 1) pe_str (fun _ _ => rfl)) pa_nil))
        (pa_cons (pe_call GS.ok hr rfl GS.g GS.kp GS.b .nil pass0 (pa_cons (pe_dget hu (pv 1) pe_str (fun _ _ => rfl)) pa_nil)) (pa_cons (pv 2) pa_nil)))))), ?_⟩
    have h16 := told_16 hc
    have e16 : (ofRank 3 r).length < sizeLine := Nat.lt_of_le_of_lt h16.2.2 (by decide)
    have get : ∀ {H' : Hp} (k : Nat), k ≤ 4 → RecAt C H' d ls rs r → DGet H' d (V.str (S (kindN k))) (some (.ref (ls k))) := fun {H'} k hk R' => by
      have h := DGet.k (k := Sum.inr (S (kindN k))) R'.dict
      rw [kvs_get ls hk] at h
      exact h
    have hR3 := R.rows 3 (by decide)
    have hl3 := R.lst 3 (by decide)
    have hal : ((rs 3).map V.ref).length = (ofRank 3 r).length := by rw [List.length_map, hR3.len]
    refine ⟨_, rfl, g, CG, dg, _, _, rfl, hg, TG.cl, TG.nR, reaF_rows _ _, ?_⟩
    -- adds
    refine ⟨_, rfl, d, .ref (ls 3), rfl, ?_, ls 3, rfl, ⟨_, SqL.of hl3⟩, fun D2 n2 => lc_list (K := K) (a := ls 3) (xs := (rs 3).map V.ref) (fun i H' => Same H H' ∧ ∃ bs : List Addr, bs.length = i ∧ H' D2 = some (.lst (bs.map V.ref)) ∧ ∀ (j : Nat) (b : Addr) (y : Line), bs[j]? = some b → (ofRank 3 r)[j]? = some y → H' b = some (.lst (keyV (keyA y))))
      ⟨same_new n2, [], rfl, upd_same, fun j b y e => by simp at e⟩ (fun i H' _ p => SqL.of (p.1 _ _ hl3)) ?_ ?_⟩
    · rw [kA]
      exact get 3 (by decide) R
    · rintro i u H' hu' ⟨sH, bs, hbs, hD, hks⟩
      have hi : i < (ofRank 3 r).length := by rw [← hal]; exact (List.getElem?_eq_some_iff.mp hu').1
      rw [List.getElem?_map] at hu'
      cases eb : (rs 3)[i]? with
      | none => rw [eb] at hu'; cases hu'
      | some b =>
        rw [eb] at hu'
        obtain rfl : u = V.ref b := (Option.some.inj hu').symm
        have hy : (ofRank 3 r)[i]? = some (ofRank 3 r)[i] := List.getElem?_eq_getElem hi
        obtain ⟨dy, qy, g1, g2⟩ := (hR3.at_ i b _ eb hy).same sH
        have hl1 := add_key _ (List.getElem_mem hi)
        generalize (ofRank 3 r)[i] = y at *
        refine ⟨rfl, _, rfl, b, C, dy, _, _, rfl, g1, T.cl, T.nN, rowF_name _ _, (by show 1 ≤ sizeLine; decide), fun m0 nm0 => ?_⟩
        have sa := same_new (o := .lst [wV (rk y).2.1]) nm0
        refine ⟨_, rfl, b, C, dy, _, _, rfl, sa _ _ g1, T.cl, T.nU, rowF_nums _ _, m0, qy, _, _, rfl, rfl, upd_same, sa _ _ g2, ?_, fun it nit => ?_⟩
        · rw [List.length_map]
          exact Nat.le_trans (show 1 + (lnums y).length ≤ 2 by omega) (by decide)
        have se := same_new (o := .lst ([wV (rk y).2.1] ++ (rk y).2.2.map nV)) nit
        have sae := sa.trans se
        have hDe := sae _ _ hD
        have nDi : it ≠ D2 := (ne_of_none (sa _ _ hD) nit).symm
        have hit := upd_same (H := upd H' m0 (.lst [wV (rk y).2.1])) (a := it) (o := .lst ([wV (rk y).2.1] ++ (rk y).2.2.map nV))
        refine ⟨_, hDe, ?_, ?_, bs ++ [it], ?_, ?_, ?_⟩
        · rw [List.length_map, hbs]
          exact Nat.lt_trans hi e16
        · exact fun b' o e => (upd_ne (ne_of_none e n2)).trans (sae _ _ (sH b' o e))
        · rw [List.length_append, hbs]
          rfl
        · rw [upd_same, List.map_append]
          rfl
        · intro j c x hj hz
          by_cases hjb : j < bs.length
          · rw [List.getElem?_append_left hjb] at hj
            have hc' := hks j c x hj hz
            have ncD : c ≠ D2 := fun t => by
              rw [t, hD] at hc'
              have e3 := HO.lst.inj (Option.some.inj hc')
              cases bs with
              | nil => simp at hj
              | cons b0 bs => cases e3
            exact (upd_ne ncD).trans (sae _ _ hc')
          · rw [List.getElem?_append_right (by omega)] at hj
            have h0 : j - bs.length = 0 := by
              have := (List.getElem?_eq_some_iff.mp hj).1
              simp at this
              omega
            rw [h0] at hj
            have ec : it = c := Option.some.inj hj
            have ej : j = i := by omega
            subst ec ej
            rw [hy] at hz
            have ez : y = x := Option.some.inj hz
            subst ez
            rw [upd_ne nDi, hit]
            rfl
    · rintro H2 ⟨s2, bs, hbs, hD, hks⟩
      rw [hal] at hbs
      unfold tNil
      dsimp only
      refine sort_keys (m := 1) (ks := (ofRank 3 r).map keyA) ⟨bs, hD, by rw [List.length_map, hbs], fun i b k hb hk => ?_⟩ (fun k hk => ?_) (fun H3 p3 k3 s3 h3 hs3 hp3 => ?_)
      · rw [List.getElem?_map] at hk
        cases e : (ofRank 3 r)[i]? with
        | none => rw [e] at hk; cases hk
        | some y =>
          rw [e] at hk
          have : k = keyA y := (Option.some.inj hk).symm
          rw [this]
          exact hks i b y hb e
      · obtain ⟨y, hy, rfl⟩ := List.mem_map.mp hk
        exact add_key y hy
      have s23 := s2.trans s3
      have R3 := R.same s23
      -- the yeast's numbers
      have hR4 := R3.rows 4 (by decide)
      have hl4 := R3.lst 4 (by decide)
      rw [hy4] at hR4
      obtain ⟨ya, eya⟩ : ∃ ya, rs 4 = [ya] := List.length_eq_one_iff.mp hR4.len
      rw [eya] at hl4
      obtain ⟨dy, qy, y1, y2⟩ := hR4.at_ 0 ya _ (by rw [eya]; rfl) rfl
      have y2' : H3 qy = some (.lst [nV (Br.yeastOf r)]) := y2
      refine ⟨_, rfl, d, .ref (ls 4), rfl, ?_, ls 4, _, 0, .ref ya, rfl, rfl, SqL.of hl4, atI_nat (j := 0) rfl, ya, C, dy, _, _, rfl, y1, T.cl, T.nU, rowF_nums _ _, ?_⟩
      · rw [kY]
        exact get 4 (by decide) R3
      -- malts
      refine ⟨_, rfl, d, .ref (ls 1), rfl, ?_, ls 1, rs 1, ofRank 1 r, 1, rfl, R3.lst 1 (by decide), R3.rows 1 (by decide), h16.1, by decide, malt_key hc, fun H4 p1 k1 s4 h4 hs4 hp4 => ?_⟩
      · rw [kM]
        exact get 1 (by decide) R3
      have R4 := R3.same s4
      -- hops
      refine ⟨_, rfl, d, .ref (ls 2), rfl, ?_, ls 2, rs 2, ofRank 2 r, 2, rfl, R4.lst 2 (by decide), R4.rows 2 (by decide), h16.2.1, by decide, hop_key hc, fun H5 p2 k2 s5 h5 hs5 hp5 => ?_⟩
      · rw [kH]
        exact get 2 (by decide) R4
      have s45 := s4.trans s5
      refine ⟨_, rfl, (by show 4 ≤ sizeLine; decide), fun p np => ?_⟩
      have sn := same_new (o := .lst [.ref qy, .ref p1, .ref p2, .ref p3]) np
      exact q _ p k1 k2 k3 (s23.trans (s45.trans sn)) ⟨qy, p1, p2, p3, upd_same, (s45.trans sn) _ _ y2', h4.same (s5.trans sn), h5.same sn, h3.same (s45.trans sn)⟩ hs4 hp4 hs5 hp5 hs3 hp3
/-! ### refusal_of_two -/
theorem scTwo : FnScope ["first", "second"] ["first", "second"] (defScope sTwo) := ⟨rfl, rfl, rfl, by decide +kernel, rfl, by decide +kernel, by decide +kernel⟩
def twoR (l m : List Int) : List Int := if l = [-2] ∨ m = [-2] then [-2] else if l ≠ [] ∨ m = [] then l else m.dropLast ++ [m.getLastD 0 + 16]
def spTwo (CG : Addr) : Sp := fun vs H Q _ => ∃ (g dg d z g' dg' d' z' : Addr) (l m : List Int), vs = [.ref g, .ref g'] ∧ H g = some (.ins CG dg (reaF d z)) ∧ H g' = some (.ins CG dg' (reaF d' z')) ∧ H z = some (.lst (l.map V.int)) ∧ H z' = some (.lst (m.map V.int)) ∧ m.length ≤ 3 ∧
  ∀ (H' : Hp) (p : Addr), Same H H' → H' p = some (.lst ((twoR l m).map V.int)) → Q (.ref p) H'
theorem ok_two {f CG : Addr} {fd : FuncData} (F : Fun K "refusal_of_two" "refusal_of_two" sTwo f fd) (TG : ReaT K mg CG) (ml : mg "len" = none) (cO : Cn mg "OF_SECOND" (.int 16)) : FnOk P w K mg base CX0 1 f fd ["first", "second"] (spTwo CG) := by
  obtain ⟨uO, gO, rO⟩ := cO
  refine F.ok scTwo (fun vs H Q E h => ?_) (fun cdv A outer s H vs Q E hr h => ?_)
  · obtain ⟨g, dg, d, z, g', dg', d', z', l, m, rfl, _⟩ := h
    rfl
  · obtain ⟨g, dg, d, z, g', dg', d', z', l, m, rfl, hg, hg', hz, hz', hm3, q⟩ := h
    have hu65 : (A.deeper (envOfC (Str.ofString "refusal_of_two") (defScope sTwo) s.heap.objs.size f cdv)).units + 65 < cLine := by
      have := hr.un
      omega
    refine ⟨_, pss_cons (ps_if (pt_cmpR (op_inT hu65) (pe_lst (pa_cons (pe_un un_neg pe_int) pa_nil)) (pe_tup (pa_cons (pe_fld (pv 0) rfl) (pa_cons (pe_fld (pv 1) rfl) pa_nil))) (by rfl)) (pss_one (ps_ret (pe_lst (pa_cons (pe_un un_neg pe_int) pa_nil)))) pss_nil) <|
      pss_cons (ps_if (PW.pt (pw_or (pt_cmpR op_gt (pe_callB call_len_seq (by rfl) ml PySem.boot_len (pa_cons (pe_fld (pv 0) rfl) pa_nil)) pe_int (nomark _)) (pw_or1 (pt_cmpR op_eq (pe_callB call_len_seq (by rfl) ml PySem.boot_len (pa_cons (pe_fld (pv 1) rfl) pa_nil)) pe_int (nomark _))))) (pss_one (ps_ret (pe_fld (pv 0) rfl))) pss_nil) <|
      pss_one (ps_ret (pe_op op_cat (pe_slice sl_list (pe_fld (pv 1) rfl) po_none (po_some (pe_un un_neg pe_int))) (pe_lst (pa_cons (pe_op op_add (pe_ix ix_list (pe_fld (pv 1) rfl) (pe_un un_neg pe_int) (fun _ _ => rfl)) (pe_glob rfl gO rO)) pa_nil)))), ?_⟩
    refine ⟨_, rfl, (by show 1 ≤ sizeLine; decide), fun n0 nn0 => ?_⟩
    have sa := same_new (o := .lst [.int (-2)]) nn0
    refine ⟨_, rfl, g, CG, dg, _, _, rfl, sa _ _ hg, TG.cl, TG.nF, reaF_ref _ _, _, rfl, g', CG, dg', _, _, rfl, sa _ _ hg', TG.cl, TG.nF, reaF_ref _ _, (by show 2 ≤ sizeLine; decide), fun t0 nt0 => ?_⟩
    have sb := same_new (o := .tup [.ref z, .ref z']) nt0
    have sab := sa.trans sb
    have hn0 := sb _ _ (upd_same (H := H) (a := n0) (o := .lst [.int (-2)]))
    have ht0 := upd_same (H := upd H n0 (.lst [.int (-2)])) (a := t0) (o := .tup [.ref z, .ref z'])
    generalize upd (upd H n0 (.lst [.int (-2)])) t0 (.tup [.ref z, .ref z']) = H1 at *
    refine ⟨liD [-2], [liD l, liD m], dp_li (l := [-2]) hn0, .tup (.inl (.inl ht0)) (.cons (dp_li (sab _ _ hz)) (.cons (dp_li (sab _ _ hz')) .nil)), liD_shaped _, twoD_shaped _ _, _, rfl, ?_⟩
    have ea : ([liD l, liD m].any fun x => PyData.eqv x (liD [-2])) = decide (l = [-2] ∨ m = [-2]) := by
      rw [List.any_cons, List.any_cons, List.any_nil, liD_eqv, liD_eqv, Bool.or_false, Bool.eq_iff_iff]
      simp only [Bool.or_eq_true, decide_eq_true_eq]
    rw [ea]
    refine iteD (fun e => ?_) (fun e => ?_)
    · refine ⟨_, rfl, (by show 1 ≤ sizeLine; decide), fun p np => ?_⟩
      have e2 : twoR l m = [-2] := if_pos e
      rw [e2] at q
      exact q _ p (sab.trans (same_new np)) upd_same
    · refine ⟨_, rfl, g, CG, dg, _, _, rfl, sab _ _ hg, TG.cl, TG.nF, reaF_ref _ _, z, _, rfl, .inl (SqL.of (sab _ _ hz)), _, _, rfl, rfl, _, rfl, iteD (fun c => ?_) (fun c => ?_)⟩
      · have hl : l ≠ [] := fun t => by
          rw [t] at c
          exact absurd c (by decide)
        have e2 : twoR l m = l := (if_neg e).trans (if_pos (.inl hl))
        rw [e2] at q
        refine ⟨_, rfl, g, CG, dg, _, _, rfl, sab _ _ hg, TG.cl, TG.nF, reaF_ref _ _, ?_⟩
        exact q _ z sab (sab _ _ hz)
      · have hl : l = [] := by
          cases l with
          | nil => rfl
          | cons x l => exact absurd (show (0 : Int) < (((x :: l).map V.int).length : Int) by rw [List.length_map, List.length_cons]; omega) c
        refine ⟨_, rfl, g', CG, dg', _, _, rfl, sab _ _ hg', TG.cl, TG.nF, reaF_ref _ _, z', _, rfl, .inl (SqL.of (sab _ _ hz')), rfl, _, rfl, iteD (fun c2 => ?_) (fun c2 => ?_)⟩
        · have hm : m = [] := by
            have := V.int.inj c2
            rw [List.length_map] at this
            exact List.eq_nil_of_length_eq_zero (by omega)
          have e2 : twoR l m = l := (if_neg e).trans (if_pos (.inr hm))
          rw [e2] at q
          refine ⟨_, rfl, g, CG, dg, _, _, rfl, sab _ _ hg, TG.cl, TG.nF, reaF_ref _ _, ?_⟩
          exact q _ z sab (sab _ _ hz)
        · have hm : m ≠ [] := fun t => c2 (by rw [t]; rfl)
          have e2 : twoR l m = m.dropLast ++ [m.getLastD 0 + 16] := (if_neg e).trans (if_neg (fun t => t.elim (fun t => t hl) hm))
          rw [e2] at q
          obtain ⟨m0, x, rfl⟩ : ∃ m0 x, m = m0 ++ [x] := ⟨m.dropLast, m.getLast hm, (List.dropLast_concat_getLast hm).symm⟩
          rw [List.dropLast_concat, List.getLastD_concat] at q
          rw [List.length_append, List.length_singleton] at hm3
          have hz1 := sab _ _ hz'
          refine ⟨_, rfl, g', CG, dg', _, _, rfl, sab _ _ hg', TG.cl, TG.nF, reaF_ref _ _, _, rfl, _, rfl, z', _, rfl, SqL.of hz1, fun q1 nq1 => ?_⟩
          have ecut : cutV ((m0 ++ [x]).map V.int) none (some (-1)) = m0.map V.int := by
            unfold cutV
            rw [HT.sIx_none, List.length_map, List.length_append, List.length_singleton]
            have e1 : HT.sIx (m0.length + 1) (m0.length + 1) (some (-1)) = m0.length := by
              show (if (-1 : Int) < 0 then ((-1 : Int) + ((m0.length + 1 : Nat) : Int)).toNat else min (-1 : Int).toNat (m0.length + 1)) = m0.length
              rw [if_pos (by decide)]
              omega
            rw [e1, List.drop_zero, Nat.sub_zero, List.map_append]
            exact List.take_left' (by rw [List.length_map])
          rw [ecut]
          have sc := same_new (o := .lst (m0.map V.int)) nq1
          have hat : atI ((m0 ++ [x]).map V.int) (-1) = some (V.int x) := by
            rw [List.map_append]
            exact atI_last _ _
          refine ⟨_, rfl, g', CG, dg', _, _, rfl, sc _ _ (sab _ _ hg'), TG.cl, TG.nF, reaF_ref _ _, _, rfl, z', _, -1, V.int x, rfl, rfl, SqL.of (sc _ _ hz1), hat, _, _, rfl, rfl, (by show 1 ≤ sizeLine; decide), fun n2 nn2 => ?_⟩
          have sd := same_new (o := .lst [.int (x + 16)]) nn2
          refine ⟨q1, n2, _, _, rfl, rfl, sd _ _ upd_same, upd_same, ?_, fun p np => ?_⟩
          · rw [List.length_map]
            exact Nat.le_trans (show m0.length + 1 ≤ 3 by omega) (by decide)
          refine q _ p (sab.trans (sc.trans (sd.trans (same_new np)))) ?_
          rw [upd_same, List.map_append]
          rfl
end
end My

set_option maxRecDepth 100000
set_option maxHeartbeats 2000000
namespace My
open PySem PySem.Spec PyProof.Rows L2
open Br (Line Recipe Bytes)
abbrev sLike : Stmt := top 36
theorem yeast_one {t : Bytes} {r : Recipe} (h : Br.readRecipe t = .ok r) : ofRank 4 r = [.yeast (Br.yeastOf r)] := by
  obtain ⟨hc, he⟩ := read_ch h
  obtain ⟨r0, u, rfl, hn, _, _⟩ := ends_yeast hc he
  rw [yeast_of hn, yeast_rank hn]
theorem refusal_len (t : Bytes) : (refusal t).length ≤ 3 := by
  unfold refusal
  by_cases h : 16384 < t.length
  · rw [if_pos h]
    decide
  · rw [if_neg h]
    cases Br.readRecipe t with
    | ok r => exact Nat.zero_le _
    | error e => exact Nat.le_refl _
theorem refusal_two {t : Bytes} : refusal t = [-2] ↔ 16384 < t.length := by
  unfold refusal
  by_cases h : 16384 < t.length
  · rw [if_pos h]
    exact ⟨fun _ => h, fun _ => rfl⟩
  · rw [if_neg h]
    cases Br.readRecipe t with
    | ok r => exact ⟨fun z => (by cases z), fun z => absurd z h⟩
    | error e => exact ⟨fun z => (by cases z), fun z => absurd z h⟩
theorem like_two (ns ms : List Int) : PyWqatdl.like ns ms = if twoR (refusal (WqatdlNeutral.bytes ns)) (refusal (WqatdlNeutral.bytes ms)) ≠ [] then twoR (refusal (WqatdlNeutral.bytes ns)) (refusal (WqatdlNeutral.bytes ms)) else match Br.readRecipe (WqatdlNeutral.bytes ns), Br.readRecipe (WqatdlNeutral.bytes ms) with
    | .ok r, .ok q => [if Br.like r q = true then 1 else 0]
    | _, _ => [] := by
  rw [like_is]
  generalize WqatdlNeutral.bytes ns = t
  generalize WqatdlNeutral.bytes ms = u
  by_cases h : 16384 < t.length ∨ 16384 < u.length
  · have e : twoR (refusal t) (refusal u) = [-2] := if_pos (h.imp refusal_two.mpr refusal_two.mpr)
    rw [if_pos h, e]
    rfl
  · have h' : ¬ (refusal t = [-2] ∨ refusal u = [-2]) := fun z => h (z.imp refusal_two.mp refusal_two.mp)
    have ht : ¬ 16384 < t.length := fun z => h (.inl z)
    have hu : ¬ 16384 < u.length := fun z => h (.inr z)
    have et : refusal t = match Br.readRecipe t with
      | .ok _ => []
      | .error e => [-6, (e.1 : Int), (e.2 : Int)] := if_neg ht
    have eu : refusal u = match Br.readRecipe u with
      | .ok _ => []
      | .error e => [-6, (e.1 : Int), (e.2 : Int)] := if_neg hu
    rw [if_neg h]
    cases hr : Br.readRecipe t with
    | error e =>
      rw [hr] at et
      have e2 : twoR (refusal t) (refusal u) = [-6, (e.1 : Int), (e.2 : Int)] := by
        have : refusal t ≠ [] := by rw [et]; intro z; cases z
        exact ((if_neg h').trans (if_pos (.inl this))).trans et
      rw [e2]
      rfl
    | ok r =>
      rw [hr] at et
      cases hq : Br.readRecipe u with
      | error e =>
        rw [hq] at eu
        have e2 : twoR (refusal t) (refusal u) = [-6, (e.1 : Int), ((e.2 + 16 : Nat) : Int)] := by
          have c : ¬ (refusal t ≠ [] ∨ refusal u = []) := fun z => z.elim (fun z => z et) (fun z => by rw [eu] at z; cases z)
          refine ((if_neg h').trans (if_neg c)).trans ?_
          rw [eu]
          rfl
        rw [e2]
        rfl
      | ok q =>
        rw [hq] at eu
        have e2 : twoR (refusal t) (refusal u) = [] := ((if_neg h').trans (if_pos (.inr eu))).trans et
        rw [e2]
        rfl
section
variable {P : Program} {w : World} {K : PySem.W.Frag} {mg : Str → Option Value} {base : Heap}
theorem scLike : FnScope ["text", "other", "first", "second", "refusal"] ["text", "other"] (defScope sLike) := ⟨rfl, rfl, rfl, by decide +kernel, rfl, by decide +kernel, by decide +kernel⟩
def spLike (K : PySem.W.Frag) : Sp := fun vs H Q _ => ∃ (a b : Addr) (ns ms : List Int), vs = [.ref a, .ref b] ∧ SqL K H a (ns.map V.int) ∧ ns.length ≤ 40000 ∧ (∀ x ∈ ns, 0 ≤ x ∧ x ≤ 255) ∧ SqL K H b (ms.map V.int) ∧ ms.length ≤ 40000 ∧ (∀ x ∈ ms, 0 ≤ x ∧ x ≤ 255) ∧
  ∀ (H' : Hp) (p : Addr), H' p = some (.lst ((PyWqatdl.like ns ms).map V.int)) → Q (.ref p) H'
theorem byK_S {P : Nat} {es : Recipe} {a : List Key2} (h : a.Perm (es.map (keyS P))) : ∀ k ∈ a, ByK k := fun k hk => by
  obtain ⟨y, _, rfl⟩ := List.mem_map.mp (h.mem_iff.mp hk)
  intro c hc
  obtain ⟨x, _, rfl⟩ := List.mem_map.mp (show c ∈ (lname y).map UInt8.toNat from hc)
  exact x.toNat_lt
theorem byK_A {es : Recipe} {a : List Key2} (h : a.Perm (es.map keyA)) : ∀ k ∈ a, ByK k := fun k hk => by
  obtain ⟨y, _, rfl⟩ := List.mem_map.mp (h.mem_iff.mp hk)
  intro c hc
  obtain ⟨x, _, rfl⟩ := List.mem_map.mp (show c ∈ (lname y).map UInt8.toNat from hc)
  exact x.toNat_lt
/-- sorted lists are one just if what they were sorted from is the same -/
theorem srt_iff {a b x y : List Key2} (ha : SrtO.Srtd ltK a) (hb : SrtO.Srtd ltK b) (pa : a.Perm x) (pb : b.Perm y) : a = b ↔ x.Perm y :=
  ⟨fun e => pa.symm.trans (e ▸ pb), fun h => srt_uniq ha hb (pa.trans (h.trans pb.symm))⟩
theorem ok_like {f fT fW fL C CG : Addr} {fd fdT fdW fdL : FuncData} (F : Fun K "like" "like" sLike f fd) (GT : Df P w K mg base 6 "read_text" ["text"] (spText K C CG) fT fdT) (GW : Df P w K mg base 1 "refusal_of_two" ["first", "second"] (spTwo CG) fW fdW)
    (GL : Df P w K mg base 3 "likeness" ["reading"] (spLik C CG) fL fdL) (ml : mg "len" = none) : FnOk P w K mg base CX0 7 f fd ["text", "other"] (spLike K) := by
  refine F.ok scLike (fun vs H Q E h => ?_) (fun cdv A outer s H vs Q E hr h => ?_)
  · obtain ⟨a, b, ns, ms, rfl, _⟩ := h
    rfl
  · obtain ⟨a, b, ns, ms, rfl, hS, hl, hb, hS', hl', hb', q⟩ := h
    have hr1 : Room 1 _ := hr.mono (by decide)
    have hr3 : Room 3 _ := hr.mono (by decide)
    have nd := scLike.nd
    refine ⟨_, pss_cons (ps_set (i := 2) nd rfl (.inl rfl) (pe_call GT.ok hr rfl GT.g GT.kp GT.b .nil pass0 (pa_cons (pv 0) pa_nil))) <|
      pss_cons (ps_set (i := 3) nd rfl (.inl rfl) (pe_call GT.ok hr rfl GT.g GT.kp GT.b .nil pass0 (pa_cons (pv 1) pa_nil))) <|
      pss_cons (ps_set (i := 4) nd rfl (.inl rfl) (pe_call GW.ok hr1 rfl GW.g GW.kp GW.b .nil pass0 (pa_cons (pv 2) (pa_cons (pv 3) pa_nil)))) <|
      pss_cons (ps_if (pt_cmpR op_gt (pe_callB call_len_seq (by rfl) ml PySem.boot_len (pa_cons (pv 4) pa_nil)) pe_int (nomark _)) (pss_one (ps_ret (pv 4))) pss_nil) <|
      pss_one (ps_ret (pe_lst (pa_cons (pe_ifExp (pt_cmpR (op_eqD hr.units) (pe_call GL.ok hr3 rfl GL.g GL.kp GL.b .nil pass0 (pa_cons (pv 2) pa_nil)) (pe_call GL.ok hr3 rfl GL.g GL.kp GL.b .nil pass0 (pa_cons (pv 3) pa_nil)) (nomark _)) pe_int pe_int) pa_nil))), ?_⟩
    rw [bytes_V ns hb] at hS
    rw [bytes_V ms hb'] at hS'
    have hl2 : (WqatdlNeutral.bytes ns).length ≤ 40000 := by
      show (ns.map _).length ≤ _
      rw [List.length_map]
      exact hl
    have hl3 : (WqatdlNeutral.bytes ms).length ≤ 40000 := by
      show (ms.map _).length ≤ _
      rw [List.length_map]
      exact hl'
    rw [like_two] at q
    generalize WqatdlNeutral.bytes ns = t at *
    generalize WqatdlNeutral.bytes ms = u at *
    refine ⟨_, rfl, a, t, rfl, hS, hl2, fun H1 g dg d z hg hz hrec s1 _ => ?_⟩
    refine ⟨_, rfl, b, u, rfl, s1.seq hS', hl3, fun H2 g' dg' d' z' hg' hz' hrec' s2 _ => ?_⟩
    have hg2 := s2 _ _ hg
    refine ⟨_, rfl, _, rfl, g, dg, d, z, g', dg', d', z', refusal t, refusal u, rfl, hg2, hg', s2 _ _ hz, hz', refusal_len u, fun H3 p3 s3 hp3 => ?_⟩
    refine ⟨_, rfl, p3, _, rfl, .inl (SqL.of hp3), _, _, rfl, rfl, _, rfl, iteD (fun e => ?_) (fun e => ?_)⟩
    · have ne : twoR (refusal t) (refusal u) ≠ [] := fun z0 => by
        rw [z0] at e
        exact absurd e (by decide)
      rw [if_pos ne] at q
      exact ⟨_, rfl, q H3 p3 hp3⟩
    · have e0 : twoR (refusal t) (refusal u) = [] := by
        cases h : twoR (refusal t) (refusal u) with
        | nil => rfl
        | cons x r =>
          rw [h] at e
          exact absurd (show (0 : Int) < (((x :: r).map V.int).length : Int) by rw [List.length_map, List.length_cons]; omega) e
      have er : refusal t = [] ∧ refusal u = [] := by
        unfold twoR at e0
        by_cases c1 : refusal t = [-2] ∨ refusal u = [-2]
        · rw [if_pos c1] at e0
          cases e0
        · rw [if_neg c1] at e0
          by_cases c2 : refusal t ≠ [] ∨ refusal u = []
          · rw [if_pos c2] at e0
            exact ⟨e0, c2.elim (fun z0 => absurd e0 z0) id⟩
          · rw [if_neg c2] at e0
            exact absurd e0 (by simp)
      obtain ⟨hb16, r, hr0⟩ := refusal_ok er.1
      obtain ⟨hb16', r', hr0'⟩ := refusal_ok er.2
      obtain ⟨ls, rs, R⟩ := hrec hb16 r hr0
      obtain ⟨ls', rs', R'⟩ := hrec' hb16' r' hr0'
      have hc := (read_ch hr0).1
      have hc' := (read_ch hr0').1
      rw [if_neg (fun z0 => z0 e0), hr0, hr0'] at q
      dsimp only at q
      refine ⟨_, rfl, g, dg, d, z, ls, rs, r, rfl, s3 _ _ hg2, R.same (s2.trans s3), hc, yeast_one hr0, fun H4 p4 k1 k2 k3 s4 h4 a1 b1 a2 b2 a3 b3 => ?_⟩
      refine ⟨_, rfl, g', dg', d', z', ls', rs', r', rfl, s4 _ _ (s3 _ _ hg'), R'.same (s3.trans s4), hc', yeast_one hr0', fun H5 p5 k1' k2' k3' s5 h5 a1' b1' a2' b2' a3' b3' => ?_⟩
      refine ⟨_, _, dp_lik (h4.same s5), dp_lik h5, likD_shaped (byK_S b1) (byK_S b2) (byK_A b3), likD_shaped (byK_S b1') (byK_S b2') (byK_A b3'), _, rfl, ?_⟩
      have ev : PyData.eqv (likD (Br.yeastOf r) k1 k2 k3) (likD (Br.yeastOf r') k1' k2' k3') = Br.like r r' := by
        rw [likD_eqv, Bool.eq_iff_iff, decide_eq_true_eq, like_keys hc hc', srt_iff a1 a1' b1 b1', srt_iff a2 a2' b2 b2', srt_iff a3 a3' b3 b3']
      rw [ev]
      cases el : Br.like r r' with
      | true =>
        rw [el] at q
        refine ⟨(by show 1 ≤ sizeLine; decide), fun p np => q _ p upd_same⟩
      | false =>
        rw [el] at q
        refine ⟨(by show 1 ≤ sizeLine; decide), fun p np => q _ p upd_same⟩
end
end My

set_option maxRecDepth 100000
set_option maxHeartbeats 4000000
namespace My
open PySem PySem.Spec PyProof.Rows L2
open Br (Line Recipe Bytes)
theorem all_mk {P : Program} {w : World} {K : PySem.W.Frag} {h : Heap} {mg : Str → Option Value} {fa : Addr} (X : K.In h) (G : h.Ns mainGlobals mg) (hfa : mg "like" = some (.ref fa))
    {f0 : Addr} {od0 an0 : Option Addr} {sl0 : Array (Option Value)} {oc0 kV0 dc0 pm0 cd0 ct0 : Value}
    {f1 : Addr} {od1 an1 : Option Addr} {sl1 : Array (Option Value)} {oc1 kV1 dc1 pm1 cd1 ct1 : Value}
    {f2 : Addr} {od2 an2 : Option Addr} {sl2 : Array (Option Value)} {oc2 kV2 dc2 pm2 cd2 ct2 : Value}
    {f3 : Addr} {od3 an3 : Option Addr} {sl3 : Array (Option Value)} {oc3 kV3 dc3 pm3 cd3 ct3 : Value}
    {f4 : Addr} {od4 an4 : Option Addr} {sl4 : Array (Option Value)} {oc4 kV4 dc4 pm4 cd4 ct4 : Value}
    {f5 : Addr} {od5 an5 : Option Addr} {sl5 : Array (Option Value)} {oc5 kV5 dc5 pm5 cd5 ct5 : Value}
    {f6 : Addr} {od6 an6 : Option Addr} {sl6 : Array (Option Value)} {oc6 kV6 dc6 pm6 cd6 ct6 : Value}
    {f7 : Addr} {od7 an7 : Option Addr} {sl7 : Array (Option Value)} {oc7 kV7 dc7 pm7 cd7 ct7 : Value}
    {f8 : Addr} {od8 an8 : Option Addr} {sl8 : Array (Option Value)} {oc8 kV8 dc8 pm8 cd8 ct8 : Value}
    {f9 : Addr} {od9 an9 : Option Addr} {sl9 : Array (Option Value)} {oc9 kV9 dc9 pm9 cd9 ct9 : Value}
    {f10 : Addr} {od10 an10 : Option Addr} {sl10 : Array (Option Value)} {oc10 kV10 dc10 pm10 cd10 ct10 : Value}
    {f11 : Addr} {od11 an11 : Option Addr} {sl11 : Array (Option Value)} {oc11 kV11 dc11 pm11 cd11 ct11 : Value}
    {f12 : Addr} {od12 an12 : Option Addr} {sl12 : Array (Option Value)} {oc12 kV12 dc12 pm12 cd12 ct12 : Value}
    {f13 : Addr} {od13 an13 : Option Addr} {sl13 : Array (Option Value)} {oc13 kV13 dc13 pm13 cd13 ct13 : Value}
    {f14 : Addr} {od14 an14 : Option Addr} {sl14 : Array (Option Value)} {oc14 kV14 dc14 pm14 cd14 ct14 : Value}
    {f15 : Addr} {od15 an15 : Option Addr} {sl15 : Array (Option Value)} {oc15 kV15 dc15 pm15 cd15 ct15 : Value}
    {f16 : Addr} {od16 an16 : Option Addr} {sl16 : Array (Option Value)} {oc16 kV16 dc16 pm16 cd16 ct16 : Value}
    {f17 : Addr} {od17 an17 : Option Addr} {sl17 : Array (Option Value)} {oc17 kV17 dc17 pm17 cd17 ct17 : Value}
    {C0 : Addr} {f100 : Addr} {od100 an100 : Option Addr} {sl100 : Array (Option Value)} {oc100 kV100 dc100 pm100 cd100 ct100 : Value}
    {C1 : Addr} {f101 : Addr} {od101 an101 : Option Addr} {sl101 : Array (Option Value)} {oc101 kV101 dc101 pm101 cd101 ct101 : Value}
    {ti0 : Tok}
    {ti1 : Tok}
    {ti2 : Tok}
    {ti3 : Tok}
    {ti4 : Tok}
    {ti5 : Tok}
    {ti6 : Tok}
    {ti7 : Tok}
    {ti8 : Tok}
    {ti9 : Tok}
    {ti10 : Tok}
    {ts0 : Tok}
    {ts1 : Tok}
    {ts2 : Tok}
    {dB dM : Addr} {nB nM : Nat}
    {Bt0 : Tok} {Ba0 : Addr} {Bo0 : Option Addr} {Bn0 : Nat} {Bs0 : Array (Option Value)}
    {Bt1 : Tok} {Ba1 : Addr} {Bo1 : Option Addr} {Bn1 : Nat} {Bs1 : Array (Option Value)}
    {Bt2 : Tok} {Ba2 : Addr} {Bo2 : Option Addr} {Bn2 : Nat} {Bs2 : Array (Option Value)}
    {Bt3 : Tok} {Ba3 : Addr} {Bo3 : Option Addr} {Bn3 : Nat} {Bs3 : Array (Option Value)}
    {Bt4 : Tok} {Ba4 : Addr} {Bo4 : Option Addr} {Bn4 : Nat} {Bs4 : Array (Option Value)}
    {Mt0 : Tok} {Ma0 : Addr} {Mo0 : Option Addr} {Mn0 : Nat} {Ms0 : Array (Option Value)}
    {Mt1 : Tok} {Ma1 : Addr} {Mo1 : Option Addr} {Mn1 : Nat} {Ms1 : Array (Option Value)}
    {Mt2 : Tok} {Ma2 : Addr} {Mo2 : Option Addr} {Mn2 : Nat} {Ms2 : Array (Option Value)}
    {Mt3 : Tok} {Ma3 : Addr} {Mo3 : Option Addr} {Mn3 : Nat} {Ms3 : Array (Option Value)}
    {Mt4 : Tok} {Ma4 : Addr} {Mo4 : Option Addr} {Mn4 : Nat} {Ms4 : Array (Option Value)}
    {p1 : Addr} {q1 : Option Addr} {m1 : Nat} {r1 : Array (Option Value)} {u1 v1 : Tok}
    {p2 : Addr} {q2 : Option Addr} {m2 : Nat} {r2 : Array (Option Value)} {u2 v2 : Tok}
    {p3 : Addr} {q3 : Option Addr} {m3 : Nat} {r3 : Array (Option Value)} {u3 v3 : Tok}
    {p4 : Addr} {q4 : Option Addr} {m4 : Nat} {r4 : Array (Option Value)} {u4 v4 : Tok}
    {p5 : Addr} {q5 : Option Addr} {m5 : Nat} {r5 : Array (Option Value)} {u5 v5 : Tok}
    {p6 : Addr} {q6 : Option Addr} {m6 : Nat} {r6 : Array (Option Value)} {u6 v6 : Tok}
    {p7 : Addr} {q7 : Option Addr} {m7 : Nat} {r7 : Array (Option Value)} {u7 v7 : Tok}
    {y0 : Tok}
    {y1 : Tok}
    {y2 : Tok}
    {y3 : Tok}
    {y4 : Tok}
    {y5 : Tok}
    {y6 : Tok}
    {y7 : Tok}
    {y8 : Tok}
    {y9 : Tok}
    {y10 : Tok}
    (a0 : PySem.W.nsIn K mainGlobals "sign_of" = some (some (.ref f0)))
    (l0 : K.lookup f0 = some ⟨oc0, od0, .func (PySem.W.fnOf "sign_of" "sign_of" (defArgs sSign) (defBody sSign) (defScope sSign) .none kV0 dc0 pm0 an0 cd0 ct0), sl0⟩)
    (c0 : PySem.W.codeIn K cd0 "sign_of" = true)
    (k0 : PySem.W.keepIn K (.ref f0) = true)
    (a1 : PySem.W.nsIn K mainGlobals "spell" = some (some (.ref f1)))
    (l1 : K.lookup f1 = some ⟨oc1, od1, .func (PySem.W.fnOf "spell" "spell" (defArgs sSpell) (defBody sSpell) (defScope sSpell) .none kV1 dc1 pm1 an1 cd1 ct1), sl1⟩)
    (c1 : PySem.W.codeIn K cd1 "spell" = true)
    (k1 : PySem.W.keepIn K (.ref f1) = true)
    (a2 : PySem.W.nsIn K mainGlobals "is_made_of" = some (some (.ref f2)))
    (l2 : K.lookup f2 = some ⟨oc2, od2, .func (PySem.W.fnOf "is_made_of" "is_made_of" (defArgs sMade) (defBody sMade) (defScope sMade) .none kV2 dc2 pm2 an2 cd2 ct2), sl2⟩)
    (c2 : PySem.W.codeIn K cd2 "is_made_of" = true)
    (k2 : PySem.W.keepIn K (.ref f2) = true)
    (a3 : PySem.W.nsIn K mainGlobals "is_name" = some (some (.ref f3)))
    (l3 : K.lookup f3 = some ⟨oc3, od3, .func (PySem.W.fnOf "is_name" "is_name" (defArgs sName) (defBody sName) (defScope sName) .none kV3 dc3 pm3 an3 cd3 ct3), sl3⟩)
    (c3 : PySem.W.codeIn K cd3 "is_name" = true)
    (k3 : PySem.W.keepIn K (.ref f3) = true)
    (a4 : PySem.W.nsIn K mainGlobals "is_number" = some (some (.ref f4)))
    (l4 : K.lookup f4 = some ⟨oc4, od4, .func (PySem.W.fnOf "is_number" "is_number" (defArgs sNum) (defBody sNum) (defScope sNum) .none kV4 dc4 pm4 an4 cd4 ct4), sl4⟩)
    (c4 : PySem.W.codeIn K cd4 "is_number" = true)
    (k4 : PySem.W.keepIn K (.ref f4) = true)
    (a5 : PySem.W.nsIn K mainGlobals "numbers_in" = some (some (.ref f5)))
    (l5 : K.lookup f5 = some ⟨oc5, od5, .func (PySem.W.fnOf "numbers_in" "numbers_in" (defArgs sNums) (defBody sNums) (defScope sNums) .none kV5 dc5 pm5 an5 cd5 ct5), sl5⟩)
    (c5 : PySem.W.codeIn K cd5 "numbers_in" = true)
    (k5 : PySem.W.keepIn K (.ref f5) = true)
    (a6 : PySem.W.nsIn K mainGlobals "row_of" = some (some (.ref f6)))
    (l6 : K.lookup f6 = some ⟨oc6, od6, .func (PySem.W.fnOf "row_of" "row_of" (defArgs sRow) (defBody sRow) (defScope sRow) .none kV6 dc6 pm6 an6 cd6 ct6), sl6⟩)
    (c6 : PySem.W.codeIn K cd6 "row_of" = true)
    (k6 : PySem.W.keepIn K (.ref f6) = true)
    (a7 : PySem.W.nsIn K mainGlobals "hop_clashes" = some (some (.ref f7)))
    (l7 : K.lookup f7 = some ⟨oc7, od7, .func (PySem.W.fnOf "hop_clashes" "hop_clashes" (defArgs sHopC) (defBody sHopC) (defScope sHopC) .none kV7 dc7 pm7 an7 cd7 ct7), sl7⟩)
    (c7 : PySem.W.codeIn K cd7 "hop_clashes" = true)
    (k7 : PySem.W.keepIn K (.ref f7) = true)
    (a8 : PySem.W.nsIn K mainGlobals "clashes" = some (some (.ref f8)))
    (l8 : K.lookup f8 = some ⟨oc8, od8, .func (PySem.W.fnOf "clashes" "clashes" (defArgs sClash) (defBody sClash) (defScope sClash) .none kV8 dc8 pm8 an8 cd8 ct8), sl8⟩)
    (c8 : PySem.W.codeIn K cd8 "clashes" = true)
    (k8 : PySem.W.keepIn K (.ref f8) = true)
    (a9 : PySem.W.nsIn K mainGlobals "why_wrong" = some (some (.ref f9)))
    (l9 : K.lookup f9 = some ⟨oc9, od9, .func (PySem.W.fnOf "why_wrong" "why_wrong" (defArgs sWhy) (defBody sWhy) (defScope sWhy) .none kV9 dc9 pm9 an9 cd9 ct9), sl9⟩)
    (c9 : PySem.W.codeIn K cd9 "why_wrong" = true)
    (k9 : PySem.W.keepIn K (.ref f9) = true)
    (a10 : PySem.W.nsIn K mainGlobals "why_wrong_at_end" = some (some (.ref f10)))
    (l10 : K.lookup f10 = some ⟨oc10, od10, .func (PySem.W.fnOf "why_wrong_at_end" "why_wrong_at_end" (defArgs sWhyE) (defBody sWhyE) (defScope sWhyE) .none kV10 dc10 pm10 an10 cd10 ct10), sl10⟩)
    (c10 : PySem.W.codeIn K cd10 "why_wrong_at_end" = true)
    (k10 : PySem.W.keepIn K (.ref f10) = true)
    (a11 : PySem.W.nsIn K mainGlobals "read_lines" = some (some (.ref f11)))
    (l11 : K.lookup f11 = some ⟨oc11, od11, .func (PySem.W.fnOf "read_lines" "read_lines" (defArgs sLines) (defBody sLines) (defScope sLines) .none kV11 dc11 pm11 an11 cd11 ct11), sl11⟩)
    (c11 : PySem.W.codeIn K cd11 "read_lines" = true)
    (k11 : PySem.W.keepIn K (.ref f11) = true)
    (a12 : PySem.W.nsIn K mainGlobals "read_text" = some (some (.ref f12)))
    (l12 : K.lookup f12 = some ⟨oc12, od12, .func (PySem.W.fnOf "read_text" "read_text" (defArgs sText) (defBody sText) (defScope sText) .none kV12 dc12 pm12 an12 cd12 ct12), sl12⟩)
    (c12 : PySem.W.codeIn K cd12 "read_text" = true)
    (k12 : PySem.W.keepIn K (.ref f12) = true)
    (a13 : PySem.W.nsIn K mainGlobals "lowest_terms" = some (some (.ref f13)))
    (l13 : K.lookup f13 = some ⟨oc13, od13, .func (PySem.W.fnOf "lowest_terms" "lowest_terms" (defArgs sLow) (defBody sLow) (defScope sLow) .none kV13 dc13 pm13 an13 cd13 ct13), sl13⟩)
    (c13 : PySem.W.codeIn K cd13 "lowest_terms" = true)
    (k13 : PySem.W.keepIn K (.ref f13) = true)
    (a14 : PySem.W.nsIn K mainGlobals "by_shares" = some (some (.ref f14)))
    (l14 : K.lookup f14 = some ⟨oc14, od14, .func (PySem.W.fnOf "by_shares" "by_shares" (defArgs sSh) (defBody sSh) (defScope sSh) .none kV14 dc14 pm14 an14 cd14 ct14), sl14⟩)
    (c14 : PySem.W.codeIn K cd14 "by_shares" = true)
    (k14 : PySem.W.keepIn K (.ref f14) = true)
    (a15 : PySem.W.nsIn K mainGlobals "likeness" = some (some (.ref f15)))
    (l15 : K.lookup f15 = some ⟨oc15, od15, .func (PySem.W.fnOf "likeness" "likeness" (defArgs sLik) (defBody sLik) (defScope sLik) .none kV15 dc15 pm15 an15 cd15 ct15), sl15⟩)
    (c15 : PySem.W.codeIn K cd15 "likeness" = true)
    (k15 : PySem.W.keepIn K (.ref f15) = true)
    (a16 : PySem.W.nsIn K mainGlobals "refusal_of_two" = some (some (.ref f16)))
    (l16 : K.lookup f16 = some ⟨oc16, od16, .func (PySem.W.fnOf "refusal_of_two" "refusal_of_two" (defArgs sTwo) (defBody sTwo) (defScope sTwo) .none kV16 dc16 pm16 an16 cd16 ct16), sl16⟩)
    (c16 : PySem.W.codeIn K cd16 "refusal_of_two" = true)
    (k16 : PySem.W.keepIn K (.ref f16) = true)
    (a17 : PySem.W.nsIn K mainGlobals "like" = some (some (.ref f17)))
    (l17 : K.lookup f17 = some ⟨oc17, od17, .func (PySem.W.fnOf "like" "like" (defArgs sLike) (defBody sLike) (defScope sLike) .none kV17 dc17 pm17 an17 cd17 ct17), sl17⟩)
    (c17 : PySem.W.codeIn K cd17 "like" = true)
    (k17 : PySem.W.keepIn K (.ref f17) = true)
    (aC0 : PySem.W.nsIn K mainGlobals "Row" = some (some (.ref C0)))
    (a100 : PySem.W.findIn K (.ref C0) "__init__" = some (some (.ref f100)))
    (i100 : PySem.W.isFn K (.ref f100) = true)
    (l100 : K.lookup f100 = some ⟨oc100, od100, .func (PySem.W.fnOf "__init__" "Row.__init__" (defArgs sRowI) (defBody sRowI) (defScope sRowI) .none kV100 dc100 pm100 an100 cd100 ct100), sl100⟩)
    (c100 : PySem.W.codeIn K cd100 "Row.__init__" = true)
    (k100 : PySem.W.keepIn K (.ref f100) = true)
    (pg0 : PySem.W.plainGet K C0 Str.empty = true)
    (hd0 : PySem.W.hasDictIn K C0 = true)
    (po0 : PySem.W.plainOver K C0 = true)
    (sa0 : PySem.W.findIn K (.ref C0) "__setattr__" = some (some (.builtin "object.__setattr__")))
    (mk0 : PySem.W.makesIn K C0 = true)
    (kc0 : PySem.W.keepIn K (.ref C0) = true)
    (n0_0 : PySem.W.findIn K (.ref C0) "kind" = some none)
    (n0_1 : PySem.W.findIn K (.ref C0) "name" = some none)
    (n0_2 : PySem.W.findIn K (.ref C0) "numbers" = some none)
    (aC1 : PySem.W.nsIn K mainGlobals "Reading" = some (some (.ref C1)))
    (a101 : PySem.W.findIn K (.ref C1) "__init__" = some (some (.ref f101)))
    (i101 : PySem.W.isFn K (.ref f101) = true)
    (l101 : K.lookup f101 = some ⟨oc101, od101, .func (PySem.W.fnOf "__init__" "Reading.__init__" (defArgs sReaI) (defBody sReaI) (defScope sReaI) .none kV101 dc101 pm101 an101 cd101 ct101), sl101⟩)
    (c101 : PySem.W.codeIn K cd101 "Reading.__init__" = true)
    (k101 : PySem.W.keepIn K (.ref f101) = true)
    (pg1 : PySem.W.plainGet K C1 Str.empty = true)
    (hd1 : PySem.W.hasDictIn K C1 = true)
    (po1 : PySem.W.plainOver K C1 = true)
    (sa1 : PySem.W.findIn K (.ref C1) "__setattr__" = some (some (.builtin "object.__setattr__")))
    (mk1 : PySem.W.makesIn K C1 = true)
    (kc1 : PySem.W.keepIn K (.ref C1) = true)
    (n1_0 : PySem.W.findIn K (.ref C1) "rows" = some none)
    (n1_1 : PySem.W.findIn K (.ref C1) "refusal" = some none)
    (gi0 : PySem.W.nsIn K mainGlobals "MOST_BYTES" = some (some (.int 16384 ti0)))
    (gi1 : PySem.W.nsIn K mainGlobals "MOST_OF_A_KIND" = some (some (.int 16 ti1)))
    (gi2 : PySem.W.nsIn K mainGlobals "MOST_NAME_SIGNS" = some (some (.int 12 ti2)))
    (gi3 : PySem.W.nsIn K mainGlobals "MOST_DIGITS" = some (some (.int 6 ti3)))
    (gi4 : PySem.W.nsIn K mainGlobals "UNFORMED" = some (some (.int 1 ti4)))
    (gi5 : PySem.W.nsIn K mainGlobals "TOO_MUCH" = some (some (.int 2 ti5)))
    (gi6 : PySem.W.nsIn K mainGlobals "CANNOT_STAND" = some (some (.int 3 ti6)))
    (gi7 : PySem.W.nsIn K mainGlobals "CLASHES" = some (some (.int 4 ti7)))
    (gi8 : PySem.W.nsIn K mainGlobals "MINUTES" = some (some (.int 2 ti8)))
    (gi9 : PySem.W.nsIn K mainGlobals "PARTS" = some (some (.int 0 ti9)))
    (gi10 : PySem.W.nsIn K mainGlobals "OF_SECOND" = some (some (.int 16 ti10)))
    (gs0 : PySem.W.nsIn K mainGlobals "LETTERS" = some (some (.str "abcdefghijklmnopqrstuvwxyz" ts0)))
    (gs1 : PySem.W.nsIn K mainGlobals "DIGITS" = some (some (.str "0123456789" ts1)))
    (gs2 : PySem.W.nsIn K mainGlobals "OTHER" = some (some (.str "?" ts2)))
    (z0 : PySem.W.nsIn K mainGlobals "len" = some none)
    (z1 : PySem.W.nsIn K mainGlobals "ord" = some none)
    (z2 : PySem.W.nsIn K mainGlobals "int" = some none)
    (z3 : PySem.W.nsIn K mainGlobals "zip" = some none)
    (z4 : PySem.W.nsIn K mainGlobals "enumerate" = some none)
    (z5 : PySem.W.nsIn K mainGlobals "sum" = some none)
    (z6 : PySem.W.nsIn K mainGlobals "sorted" = some none)
    (gB : PySem.W.nsIn K mainGlobals "BOUNDS" = some (some (.ref dB)))
    (lB : K.lookup dB = some (dictObj #[ent w "recipe" Bt0 Ba0, ent w "malt" Bt1 Ba1, ent w "hop" Bt2 Ba2, ent w "add" Bt3 Ba3, ent w "yeast" Bt4 Ba4] nB))
    (gM : PySem.W.nsIn K mainGlobals "MAY_FOLLOW" = some (some (.ref dM)))
    (lM : K.lookup dM = some (dictObj #[ent w "recipe" Mt0 Ma0, ent w "malt" Mt1 Ma1, ent w "hop" Mt2 Ma2, ent w "add" Mt3 Ma3, ent w "yeast" Mt4 Ma4] nM))
    (hB0 : K.lookup Ba0 = some (tupObj Bo0 #[] Bn0 Bs0))
    (hB1 : K.lookup Ba1 = some (tupObj Bo1 #[.ref p1, .ref p2] Bn1 Bs1))
    (hB2 : K.lookup Ba2 = some (tupObj Bo2 #[.ref p3, .ref p4, .ref p5] Bn2 Bs2))
    (hB3 : K.lookup Ba3 = some (tupObj Bo3 #[.ref p6] Bn3 Bs3))
    (hB4 : K.lookup Ba4 = some (tupObj Bo4 #[.ref p7] Bn4 Bs4))
    (hP1 : K.lookup p1 = some (tupObj q1 #[.int 1 u1, .int 10000 v1] m1 r1))
    (hP2 : K.lookup p2 = some (tupObj q2 #[.int 1 u2, .int 850 v2] m2 r2))
    (hP3 : K.lookup p3 = some (tupObj q3 #[.int 1 u3, .int 10000 v3] m3 r3))
    (hP4 : K.lookup p4 = some (tupObj q4 #[.int 1 u4, .int 2500 v4] m4 r4))
    (hP5 : K.lookup p5 = some (tupObj q5 #[.int 0 u5, .int 120 v5] m5 r5))
    (hP6 : K.lookup p6 = some (tupObj q6 #[.int 1 u6, .int 100000 v6] m6 r6))
    (hP7 : K.lookup p7 = some (tupObj q7 #[.int 1 u7, .int 950 v7] m7 r7))
    (hM0 : K.lookup Ma0 = some (tupObj Mo0 #[.str "" y0] Mn0 Ms0))
    (hM1 : K.lookup Ma1 = some (tupObj Mo1 #[.str "recipe" y1, .str "malt" y2] Mn1 Ms1))
    (hM2 : K.lookup Ma2 = some (tupObj Mo2 #[.str "malt" y3, .str "hop" y4] Mn2 Ms2))
    (hM3 : K.lookup Ma3 = some (tupObj Mo3 #[.str "malt" y5, .str "hop" y6, .str "add" y7] Mn3 Ms3))
    (hM4 : K.lookup Ma4 = some (tupObj Mo4 #[.str "malt" y8, .str "hop" y9, .str "add" y10] Mn4 Ms4))
    (loB : (dB == sysModules) = false) (loM : (dM == sysModules) = false) :
    ∃ fd : FuncData, (∀ (s : Shared) (us : List Value), us.length = (["text", "other"] : List Str).length → BindsTo s fd ⟨us, []⟩ ((["text", "other"] : List Str).zip us)) ∧ ∀ base : Heap, K.In base → base.Ns mainGlobals mg → FnOk P w K mg base CX0 7 fa fd ["text", "other"] (spLike K) := by
  have e := hfa.symm.trans (PySem.W.mg_of X G a17)
  cases e
  have F0 := fun_mk (st := sSign) l0 c0 k0
  have b0 := F0.binds (ps := ["byte"]) fun _ _ _ _ _ _ us hl => match us, hl with | [_], _ => rfl
  have F1 := fun_mk (st := sSpell) l1 c1 k1
  have b1 := F1.binds (ps := ["text"]) fun _ _ _ _ _ _ us hl => match us, hl with | [_], _ => rfl
  have F2 := fun_mk (st := sMade) l2 c2 k2
  have b2 := F2.binds (ps := ["word", "signs"]) fun _ _ _ _ _ _ us hl => match us, hl with | [_, _], _ => rfl
  have F3 := fun_mk (st := sName) l3 c3 k3
  have b3 := F3.binds (ps := ["word"]) fun _ _ _ _ _ _ us hl => match us, hl with | [_], _ => rfl
  have F4 := fun_mk (st := sNum) l4 c4 k4
  have b4 := F4.binds (ps := ["word"]) fun _ _ _ _ _ _ us hl => match us, hl with | [_], _ => rfl
  have F5 := fun_mk (st := sNums) l5 c5 k5
  have b5 := F5.binds (ps := ["words", "kind"]) fun _ _ _ _ _ _ us hl => match us, hl with | [_, _], _ => rfl
  have F6 := fun_mk (st := sRow) l6 c6 k6
  have b6 := F6.binds (ps := ["signs"]) fun _ _ _ _ _ _ us hl => match us, hl with | [_], _ => rfl
  have F7 := fun_mk (st := sHopC) l7 c7 k7
  have b7 := F7.binds (ps := ["row", "earlier"]) fun _ _ _ _ _ _ us hl => match us, hl with | [_, _], _ => rfl
  have F8 := fun_mk (st := sClash) l8 c8 k8
  have b8 := F8.binds (ps := ["row", "earlier"]) fun _ _ _ _ _ _ us hl => match us, hl with | [_, _], _ => rfl
  have F9 := fun_mk (st := sWhy) l9 c9 k9
  have b9 := F9.binds (ps := ["row", "before", "earlier"]) fun _ _ _ _ _ _ us hl => match us, hl with | [_, _, _], _ => rfl
  have F10 := fun_mk (st := sWhyE) l10 c10 k10
  have b10 := F10.binds (ps := ["rest", "before"]) fun _ _ _ _ _ _ us hl => match us, hl with | [_, _], _ => rfl
  have F11 := fun_mk (st := sLines) l11 c11 k11
  have b11 := F11.binds (ps := ["reading", "text"]) fun _ _ _ _ _ _ us hl => match us, hl with | [_, _], _ => rfl
  have F12 := fun_mk (st := sText) l12 c12 k12
  have b12 := F12.binds (ps := ["text"]) fun _ _ _ _ _ _ us hl => match us, hl with | [_], _ => rfl
  have F13 := fun_mk (st := sLow) l13 c13 k13
  have b13 := F13.binds (ps := ["above", "below"]) fun _ _ _ _ _ _ us hl => match us, hl with | [_, _], _ => rfl
  have F14 := fun_mk (st := sSh) l14 c14 k14
  have b14 := F14.binds (ps := ["rows"]) fun _ _ _ _ _ _ us hl => match us, hl with | [_], _ => rfl
  have F15 := fun_mk (st := sLik) l15 c15 k15
  have b15 := F15.binds (ps := ["reading"]) fun _ _ _ _ _ _ us hl => match us, hl with | [_], _ => rfl
  have F16 := fun_mk (st := sTwo) l16 c16 k16
  have b16 := F16.binds (ps := ["first", "second"]) fun _ _ _ _ _ _ us hl => match us, hl with | [_, _], _ => rfl
  have F17 := fun_mk (st := sLike) l17 c17 k17
  have b17 := F17.binds (ps := ["text", "other"]) fun _ _ _ _ _ _ us hl => match us, hl with | [_, _], _ => rfl
  have F100 := fun_mk (st := sRowI) l100 c100 k100
  have b100 := F100.binds (ps := ["self", "kind", "name", "numbers"]) fun _ _ _ _ _ _ us hl => match us, hl with | [_, _, _, _], _ => rfl
  have F101 := fun_mk (st := sReaI) l101 c101 k101
  have b101 := F101.binds (ps := ["self"]) fun _ _ _ _ _ _ us hl => match us, hl with | [_], _ => rfl
  have m_len := PySem.W.mg_none_of X G z0
  have m_ord := PySem.W.mg_none_of X G z1
  have m_int := PySem.W.mg_none_of X G z2
  have m_zip := PySem.W.mg_none_of X G z3
  have m_enumerate := PySem.W.mg_none_of X G z4
  have m_sum := PySem.W.mg_none_of X G z5
  have m_sorted := PySem.W.mg_none_of X G z6
  have c_MOST_BYTES := cn_int (PySem.W.mg_of X G gi0)
  have c_MOST_OF_A_KIND := cn_int (PySem.W.mg_of X G gi1)
  have c_MOST_NAME_SIGNS := cn_int (PySem.W.mg_of X G gi2)
  have c_MOST_DIGITS := cn_int (PySem.W.mg_of X G gi3)
  have c_UNFORMED := cn_int (PySem.W.mg_of X G gi4)
  have c_TOO_MUCH := cn_int (PySem.W.mg_of X G gi5)
  have c_CANNOT_STAND := cn_int (PySem.W.mg_of X G gi6)
  have c_CLASHES := cn_int (PySem.W.mg_of X G gi7)
  have c_MINUTES := cn_int (PySem.W.mg_of X G gi8)
  have c_PARTS := cn_int (PySem.W.mg_of X G gi9)
  have c_OF_SECOND := cn_int (PySem.W.mg_of X G gi10)
  have c_LETTERS := cn_str (PySem.W.mg_of X G gs0) S_let
  have c_DIGITS := cn_str (PySem.W.mg_of X G gs1) S_dig
  have c_OTHER := cn_str (PySem.W.mg_of X G gs2) S_q
  have TR : RowT K mg C0 := ⟨⟨pg0, hd0, po0, sa0⟩, n0_0, n0_1, n0_2, PySem.W.mg_of X G aC0⟩
  have TG : ReaT K mg C1 := ⟨⟨pg1, hd1, po1, sa1⟩, n1_0, n1_1, PySem.W.mg_of X G aC1⟩
  have B := mk_bnd (w := w) (PySem.W.mg_of X G gB) loB lB hB0 hB1 hB2 hB3 hB4 hP1 hP2 hP3 hP4 hP5 hP6 hP7
  have Y := mk_may (w := w) (PySem.W.mg_of X G gM) loM lM hM0 hM1 hM2 hM3 hM4
  refine ⟨PySem.W.fnOf "like" "like" (defArgs sLike) (defBody sLike) (defScope sLike) .none kV17 dc17 pm17 an17 cd17 ct17, fun s us hu => match us, hu with | [_, _], _ => .of_eq rfl, fun base _ _ => ?_⟩
  have D0 : Df P w K mg base 1 "sign_of" ["byte"] spSign f0 _ := ⟨PySem.W.mg_of X G a0, k0, b0, ok_sign F0 m_ord c_DIGITS c_LETTERS c_OTHER⟩
  have D1 : Df P w K mg base 2 "spell" ["text"] (spSpell K) f1 _ := ⟨PySem.W.mg_of X G a1, k1, b1, ok_spell F1 D0⟩
  have D2 : Df P w K mg base 1 "is_made_of" ["word", "signs"] spMade f2 _ := ⟨PySem.W.mg_of X G a2, k2, b2, ok_made F2⟩
  have D3 : Df P w K mg base 2 "is_name" ["word"] spName f3 _ := ⟨PySem.W.mg_of X G a3, k3, b3, ok_name F3 D2 m_len c_MOST_NAME_SIGNS c_DIGITS c_LETTERS⟩
  have D4 : Df P w K mg base 2 "is_number" ["word"] spNum f4 _ := ⟨PySem.W.mg_of X G a4, k4, b4, ok_num F4 D2 m_len c_MOST_DIGITS c_DIGITS⟩
  have D5 : Df P w K mg base 3 "numbers_in" ["words", "kind"] (spNums K) f5 _ := ⟨PySem.W.mg_of X G a5, k5, b5, ok_nums F5 D4 B m_zip m_int⟩
  have I0 : FnOk P w K mg base CX0 1 f100 _ ["self", "kind", "name", "numbers"] (spRowI C0) := ok_rowI F100 TR
  have I1 : FnOk P w K mg base CX0 1 f101 _ ["self"] (spReaI C0 C1) := ok_reaI F101 TG
  have D6 : Df P w K mg base 4 "row_of" ["signs"] (spRow C0) f6 _ := ⟨PySem.W.mg_of X G a6, k6, b6, ok_row F6 D3 D5 B TR ⟨mk0, a100, i100, kc0⟩ b100 I0 m_len⟩
  have D7 : Df P w K mg base 1 "hop_clashes" ["row", "earlier"] (spHopC C0) f7 _ := ⟨PySem.W.mg_of X G a7, k7, b7, ok_hopC F7 TR m_len c_MINUTES⟩
  have D8 : Df P w K mg base 2 "clashes" ["row", "earlier"] (spClash C0) f8 _ := ⟨PySem.W.mg_of X G a8, k8, b8, ok_clash F8 D7 TR⟩
  have D9 : Df P w K mg base 3 "why_wrong" ["row", "before", "earlier"] (spWhy C0) f9 _ := ⟨PySem.W.mg_of X G a9, k9, b9, ok_why F9 D8 TR Y m_len c_UNFORMED c_CANNOT_STAND c_CLASHES c_TOO_MUCH c_MOST_OF_A_KIND⟩
  have D10 : Df P w K mg base 1 "why_wrong_at_end" ["rest", "before"] spWhyE f10 _ := ⟨PySem.W.mg_of X G a10, k10, b10, ok_whyE F10 c_UNFORMED c_CANNOT_STAND⟩
  have D11 : Df P w K mg base 5 "read_lines" ["reading", "text"] (spLines K C0 C1) f11 _ := ⟨PySem.W.mg_of X G a11, k11, b11, ok_lines F11 D1 D6 D9 D10 TR TG m_len m_enumerate⟩
  have D12 : Df P w K mg base 6 "read_text" ["text"] (spText K C0 C1) f12 _ := ⟨PySem.W.mg_of X G a12, k12, b12, ok_text F12 D11 TG ⟨mk1, a101, i101, kc1⟩ b101 I1 m_len c_MOST_BYTES⟩
  have D13 : Df P w K mg base 1 "lowest_terms" ["above", "below"] spLow f13 _ := ⟨PySem.W.mg_of X G a13, k13, b13, ok_low F13⟩
  have D14 : Df P w K mg base 2 "by_shares" ["rows"] (spSh C0) f14 _ := ⟨PySem.W.mg_of X G a14, k14, b14, ok_sh F14 D13 TR m_sum m_sorted c_PARTS⟩
  have D15 : Df P w K mg base 3 "likeness" ["reading"] (spLik C0 C1) f15 _ := ⟨PySem.W.mg_of X G a15, k15, b15, ok_lik F15 D14 TR TG m_sorted⟩
  have D16 : Df P w K mg base 1 "refusal_of_two" ["first", "second"] (spTwo C1) f16 _ := ⟨PySem.W.mg_of X G a16, k16, b16, ok_two F16 TG m_len c_OF_SECOND⟩
  exact ok_like F17 D12 D16 D15 m_len
end My
open PySem PySem.W PyProof.Rows
set_option maxRecDepth 100000 in
set_option maxHeartbeats 8000000 in
theorem PySem.Challenge.cw_brewrecipes_s06_like_holds : PySem.Challenge.rw_brewrecipes_s06_like.Holds := by
  w_on; k_headS; (case hw => exact ⟨[.list [], .list []], by decide +kernel, by decide +kernel⟩)
  k_fillS
  refine L2.walk_specK (r := PySem.Challenge.rw_brewrecipes_s06_like) (k := 7) (CX := L2.CX0) (ps := ["text", "other"]) (sp := My.spLike) (by decide +kernel) rfl rfl ⟨rfl, by decide, by decide⟩ (fun w h Y => PySem.W.kIn_of Y) ?F ?S (fun _ _ _ _ z => z)
  case F =>
    intro w mg fa h Y KX G hmg
    refine' My.all_mk (w := w) KX G hmg ?a0 ?l0 ?c0 ?k0 ?a1 ?l1 ?c1 ?k1 ?a2 ?l2 ?c2 ?k2 ?a3 ?l3 ?c3 ?k3 ?a4 ?l4 ?c4 ?k4 ?a5 ?l5 ?c5 ?k5 ?a6 ?l6 ?c6 ?k6 ?a7 ?l7 ?c7 ?k7 ?a8 ?l8 ?c8 ?k8 ?a9 ?l9 ?c9 ?k9 ?a10 ?l10 ?c10 ?k10 ?a11 ?l11 ?c11 ?k11 ?a12 ?l12 ?c12 ?k12 ?a13 ?l13 ?c13 ?k13 ?a14 ?l14 ?c14 ?k14 ?a15 ?l15 ?c15 ?k15 ?a16 ?l16 ?c16 ?k16 ?a17 ?l17 ?c17 ?k17 ?aC0 ?a100 ?i100 ?l100 ?c100 ?k100 ?pg0 ?hd0 ?po0 ?sa0 ?mk0 ?kc0 ?n0_0 ?n0_1 ?n0_2 ?aC1 ?a101 ?i101 ?l101 ?c101 ?k101 ?pg1 ?hd1 ?po1 ?sa1 ?mk1 ?kc1 ?n1_0 ?n1_1 ?gi0 ?gi1 ?gi2 ?gi3 ?gi4 ?gi5 ?gi6 ?gi7 ?gi8 ?gi9 ?gi10 ?gs0 ?gs1 ?gs2 ?z0 ?z1 ?z2 ?z3 ?z4 ?z5 ?z6 ?gB ?lB ?gM ?lM ?hB0 ?hB1 ?hB2 ?hB3 ?hB4 ?hP1 ?hP2 ?hP3 ?hP4 ?hP5 ?hP6 ?hP7 ?hM0 ?hM1 ?hM2 ?hM3 ?hM4 ?loB ?loM
    (case a0 => k_is)
    (case l0 => k_is)
    (case c0 => k_is)
    (case k0 => k_is)
    (case a1 => k_is)
    (case l1 => k_is)
    (case c1 => k_is)
    (case k1 => k_is)
    (case a2 => k_is)
    (case l2 => k_is)
    (case c2 => k_is)
    (case k2 => k_is)
    (case a3 => k_is)
    (case l3 => k_is)
    (case c3 => k_is)
    (case k3 => k_is)
    (case a4 => k_is)
    (case l4 => k_is)
    (case c4 => k_is)
    (case k4 => k_is)
    (case a5 => k_is)
    (case l5 => k_is)
    (case c5 => k_is)
    (case k5 => k_is)
    (case a6 => k_is)
    (case l6 => k_is)
    (case c6 => k_is)
    (case k6 => k_is)
    (case a7 => k_is)
    (case l7 => k_is)
    (case c7 => k_is)
    (case k7 => k_is)
    (case a8 => k_is)
    (case l8 => k_is)
    (case c8 => k_is)
    (case k8 => k_is)
    (case a9 => k_is)
    (case l9 => k_is)
    (case c9 => k_is)
    (case k9 => k_is)
    (case a10 => k_is)
    (case l10 => k_is)
    (case c10 => k_is)
    (case k10 => k_is)
    (case a11 => k_is)
    (case l11 => k_is)
    (case c11 => k_is)
    (case k11 => k_is)
    (case a12 => k_is)
    (case l12 => k_is)
    (case c12 => k_is)
    (case k12 => k_is)
    (case a13 => k_is)
    (case l13 => k_is)
    (case c13 => k_is)
    (case k13 => k_is)
    (case a14 => k_is)
    (case l14 => k_is)
    (case c14 => k_is)
    (case k14 => k_is)
    (case a15 => k_is)
    (case l15 => k_is)
    (case c15 => k_is)
    (case k15 => k_is)
    (case a16 => k_is)
    (case l16 => k_is)
    (case c16 => k_is)
    (case k16 => k_is)
    (case a17 => k_is)
    (case l17 => k_is)
    (case c17 => k_is)
    (case k17 => k_is)
    (case aC0 => k_is)
    (case a100 => k_is)
    (case i100 => k_is)
    (case l100 => k_is)
    (case c100 => k_is)
    (case k100 => k_is)
    (case pg0 => k_is)
    (case hd0 => k_is)
    (case po0 => k_is)
    (case sa0 => k_is)
    (case mk0 => k_is)
    (case kc0 => k_is)
    (case n0_0 => k_is)
    (case n0_1 => k_is)
    (case n0_2 => k_is)
    (case aC1 => k_is)
    (case a101 => k_is)
    (case i101 => k_is)
    (case l101 => k_is)
    (case c101 => k_is)
    (case k101 => k_is)
    (case pg1 => k_is)
    (case hd1 => k_is)
    (case po1 => k_is)
    (case sa1 => k_is)
    (case mk1 => k_is)
    (case kc1 => k_is)
    (case n1_0 => k_is)
    (case n1_1 => k_is)
    (case gi0 => k_is)
    (case gi1 => k_is)
    (case gi2 => k_is)
    (case gi3 => k_is)
    (case gi4 => k_is)
    (case gi5 => k_is)
    (case gi6 => k_is)
    (case gi7 => k_is)
    (case gi8 => k_is)
    (case gi9 => k_is)
    (case gi10 => k_is)
    (case gs0 => k_is)
    (case gs1 => k_is)
    (case gs2 => k_is)
    (case z0 => k_is)
    (case z1 => k_is)
    (case z2 => k_is)
    (case z3 => k_is)
    (case z4 => k_is)
    (case z5 => k_is)
    (case z6 => k_is)
    (case gB => k_is)
    (case lB => k_is)
    (case gM => k_is)
    (case lM => k_is)
    (case hB0 => k_is)
    (case hB1 => k_is)
    (case hB2 => k_is)
    (case hB3 => k_is)
    (case hB4 => k_is)
    (case hP1 => k_is)
    (case hP2 => k_is)
    (case hP3 => k_is)
    (case hP4 => k_is)
    (case hP5 => k_is)
    (case hP6 => k_is)
    (case hP7 => k_is)
    (case hM0 => k_is)
    (case hM1 => k_is)
    (case hM2 => k_is)
    (case hM3 => k_is)
    (case hM4 => k_is)
    (case loB => first | rfl | decide)
    (case loM => first | rfl | decide)
  case S =>
    intro K H xs a hO hwi hask hx
    cases hx with
    | cons h0 hx =>
      cases h0 with
      | lst hs ha =>
        have e := L2.ints_dw a.1 _ ha
        subst e
        cases hx with
        | cons h1 h2 =>
          cases h2
          cases h1 with
          | lst hs' ha' =>
            have e' := L2.ints_dw a.2.1 _ ha'
            subst e'
            have q : ((Codec.inLen 0 40000 a.1 && a.1.all (Codec.inInt 0 255)) && ((Codec.inLen 0 40000 a.2.1 && a.2.1.all (Codec.inInt 0 255)) && true)) = true := hwi
            rw [Bool.and_eq_true, Bool.and_eq_true, Bool.and_eq_true, Bool.and_eq_true] at q
            exact ⟨_, _, a.1, a.2.1, rfl, hs, (Codec.inNat_iff.mp q.1.1).2, fun x hx => Codec.inInt_iff.mp (List.all_eq_true.mp q.1.2 x hx), hs', (Codec.inNat_iff.mp q.2.1.1).2, fun x hx => Codec.inInt_iff.mp (List.all_eq_true.mp q.2.1.2 x hx), fun H' p hp => .lst (L2.SqL.of hp) (L2.dw_ints _)⟩

