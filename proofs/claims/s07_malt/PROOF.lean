import PyProof.Rows.All
import Wide.All
import OpenK.AllK
import Wide.FinOn
import Open.SpecLaws
import KE.OsGo
import KE.KIntText
import HandS.ForSpec
import HandS.Comp
import HandS.Dict
import HandS.Iter
import HandS.Text
import HandS.More
import HandS.Zip
import HandS.Walk
import KE.GoesMore
import KE.IntTextLaws
import KE.SortKeyHeap
import HandS.Lambda
import HandS.Conv
import HandS.Spec
import HandS.SortInts
import HandS.Wide
import PySem.Challenge.RW_brewrecipes_s07_malt
set_option Elab.async false
set_option linter.all false
namespace My
open Br
/-! ### The mirror: signs, words, rows -/
/-- the sign's code that a byte stands for -/
def sg (n : Nat) : Nat := if n = 10 then 10 else if n = 32 then 32 else if 48 ≤ n ∧ n ≤ 57 then n else if 97 ≤ n ∧ n ≤ 122 then n else 63
def cutN (c : Nat) : List Nat → List (List Nat)
  | [] => [[]]
  | x :: r => if x = c then [] :: cutN c r else match cutN c r with
    | [] => [[x]]
    | w :: l => (x :: w) :: l
/-- a text spelled -/
def cd (b : Bytes) : List Nat := b.map fun c => sg c.toNat
def letN : List Nat := [97, 98, 99, 100, 101, 102, 103, 104, 105, 106, 107, 108, 109, 110, 111, 112, 113, 114, 115, 116, 117, 118, 119, 120, 121, 122]
def digN : List Nat := [48, 49, 50, 51, 52, 53, 54, 55, 56, 57]
def made (w s : List Nat) : Bool := w.all fun c => decide (c ∈ s)
def isName (w : List Nat) : Bool := (decide (1 ≤ w.length) && decide (w.length ≤ 12)) && made w (letN ++ digN)
def isNum (w : List Nat) : Bool := ((decide (1 ≤ w.length) && decide (w.length ≤ 6)) && made w digN) && (w == [48] || !(w.getD 0 0 == 48))
def valN (w : List Nat) : Nat := w.foldl (fun a c => a * 10 + (c - 48)) 0
def numOk (w : List Nat) (b : Nat × Nat) : Bool := isNum w && (decide (b.1 ≤ valN w) && decide (valN w ≤ b.2))
def numsM : List (List Nat) → List (Nat × Nat) → Option (List Nat)
  | w :: ws, b :: bs => if numOk w b = true then (numsM ws bs).map (valN w :: ·) else none
  | _, _ => some []
def kRecipe : List Nat := [114, 101, 99, 105, 112, 101]
def kMalt : List Nat := [109, 97, 108, 116]
def kHop : List Nat := [104, 111, 112]
def kAdd : List Nat := [97, 100, 100]
def kYeast : List Nat := [121, 101, 97, 115, 116]
def kindN : Nat → List Nat
  | 0 => kRecipe
  | 1 => kMalt
  | 2 => kHop
  | 3 => kAdd
  | _ => kYeast
def rankOf (w : List Nat) : Option Nat := if w = kRecipe then some 0 else if w = kMalt then some 1 else if w = kHop then some 2 else if w = kAdd then some 3 else if w = kYeast then some 4 else none
def bds : Nat → List (Nat × Nat)
  | 0 => []
  | 1 => [(1, 10000), (1, 850)]
  | 2 => [(1, 10000), (1, 2500), (0, 120)]
  | 3 => [(1, 100000)]
  | _ => [(1, 950)]
def nms (k : Nat) : Nat := if k = 4 then 0 else 1
/-- what a line's words form: its rank, its name, its numbers -/
def rowM (ws : List (List Nat)) : Option (Nat × List Nat × List Nat) := match rankOf (ws.getD 0 []) with
  | none => none
  | some k =>
    if ws.length ≠ 1 + nms k + (bds k).length then none
    else if nms k = 1 ∧ isName (ws.getD 1 []) = false then none
    else (numsM (ws.drop (1 + nms k)) (bds k)).map fun ns => (k, if nms k = 1 then ws.getD 1 [] else [], ns)
/-! ### Lines as rows -/
def codes (b : Bytes) : List Nat := b.map UInt8.toNat
def lname : Line → Bytes
  | .recipe n => n
  | .malt n _ _ => n
  | .hop n _ _ _ => n
  | .add n _ => n
  | .yeast _ => []
def lnums : Line → List Nat
  | .recipe _ => []
  | .malt _ p x => [p, x]
  | .hop _ p a t => [p, a, t]
  | .add _ g => [g]
  | .yeast u => [u]
def rk (l : Line) : Nat × List Nat × List Nat := (l.rank, codes (lname l), lnums l)
def wd : Line → List Bytes
  | .recipe n => [ascii "recipe", n]
  | .malt n p x => [ascii "malt", n, decimal p, decimal x]
  | .hop n p a t => [ascii "hop", n, decimal p, decimal a, decimal t]
  | .add n g => [ascii "add", n, decimal g]
  | .yeast u => [ascii "yeast", decimal u]
theorem text_wd (l : Line) : l.text = spaced (wd l) := by cases l <;> rfl
/-! ### Cutting -/
theorem cutAt_ne (c : UInt8) : ∀ b : Bytes, cutAt c b ≠ []
  | [] => by simp [cutAt]
  | x :: r => by
    unfold cutAt
    split
    · simp
    · split <;> simp
theorem cutN_ne (c : Nat) : ∀ b : List Nat, cutN c b ≠ []
  | [] => by simp [cutN]
  | x :: r => by
    unfold cutN
    split
    · simp
    · split <;> simp
theorem spaced_cut : ∀ b : Bytes, spaced (cutAt 32 b) = b
  | [] => rfl
  | x :: r => by
    have ih := spaced_cut r
    have ne := cutAt_ne 32 r
    unfold cutAt
    cases e : cutAt 32 r with
    | nil => exact absurd e ne
    | cons w l =>
      rw [e] at ih
      split
      · rename_i h
        show ([] : Bytes) ++ (32 :: spaced (w :: l)) = x :: r
        rw [ih, h, List.nil_append]
      · show spaced ((x :: w) :: l) = x :: r
        cases l with
        | nil =>
          have ih' : w = r := ih
          show x :: w = x :: r
          rw [ih']
        | cons v m =>
          have ih' : w ++ (32 :: spaced (v :: m)) = r := ih
          show (x :: w) ++ (32 :: spaced (v :: m)) = x :: r
          rw [List.cons_append, ih']
theorem cut_word {c : UInt8} : ∀ w : Bytes, c ∉ w → cutAt c w = [w]
  | [], _ => rfl
  | x :: r, h => by
    have hx : x ≠ c := fun e => h (by rw [e]; exact List.mem_cons_self ..)
    unfold cutAt
    rw [if_neg hx, cut_word r fun z => h (List.mem_cons_of_mem _ z)]
theorem cut_app {c : UInt8} (rest : Bytes) : ∀ w : Bytes, c ∉ w → cutAt c (w ++ c :: rest) = w :: cutAt c rest
  | [], _ => by show cutAt c (c :: rest) = _; rw [cutAt.eq_2, if_pos rfl]
  | x :: r, h => by
    have hx : x ≠ c := fun e => h (by rw [e]; exact List.mem_cons_self ..)
    show cutAt c (x :: (r ++ c :: rest)) = _
    rw [cutAt.eq_2, if_neg hx, cut_app rest r fun z => h (List.mem_cons_of_mem _ z)]
theorem cut_spaced : ∀ ws : List Bytes, ws ≠ [] → (∀ w ∈ ws, (32 : UInt8) ∉ w) → cutAt 32 (spaced ws) = ws
  | [], h, _ => absurd rfl h
  | [w], _, h => cut_word w (h w (List.mem_cons_self ..))
  | w :: v :: m, _, h => by
    show cutAt 32 (w ++ 32 :: spaced (v :: m)) = _
    rw [cut_app _ w (h w (List.mem_cons_self ..)), cut_spaced (v :: m) (by simp) fun z hz => h z (List.mem_cons_of_mem _ hz)]
theorem sg_eq {n c : Nat} (hc : c ≠ 63) : sg n = c → n = c := by
  unfold sg
  repeat' split
  all_goals omega
theorem sg_10 : sg 10 = 10 := by decide
theorem sg_32 : sg 32 = 32 := by decide
theorem sg_self {n : Nat} (h : (97 ≤ n ∧ n ≤ 122) ∨ (48 ≤ n ∧ n ≤ 57)) : sg n = n := by
  unfold sg
  repeat' split
  all_goals omega
theorem sg_lt (n : Nat) : sg n < 128 := by
  unfold sg
  repeat' split
  all_goals omega
theorem cutN_cd {c : UInt8} (h63 : c.toNat ≠ 63) (hc : sg c.toNat = c.toNat) : ∀ b : Bytes, cutN c.toNat (cd b) = (cutAt c b).map cd
  | [] => rfl
  | x :: r => by
    have ih := cutN_cd h63 hc r
    have ne := cutAt_ne c r
    show cutN c.toNat (sg x.toNat :: cd r) = _
    unfold cutN cutAt
    by_cases e : x = c
    · rw [if_pos e, if_pos (by rw [e]; exact hc), ih]
      rfl
    · have e' : ¬ sg x.toNat = c.toNat := fun z => e (UInt8.toNat_inj.mp (sg_eq h63 z))
      rw [if_neg e, if_neg e', ih]
      cases q : cutAt c r with
      | nil => exact absurd q ne
      | cons w l => rfl
/-! ### Names -/
theorem mem_let (c : Nat) : c ∈ letN ++ digN ↔ (97 ≤ c ∧ c ≤ 122) ∨ (48 ≤ c ∧ c ≤ 57) := by
  simp only [letN, digN, List.cons_append, List.nil_append, List.mem_cons, List.not_mem_nil, or_false]
  omega
theorem mem_dig (c : Nat) : c ∈ digN ↔ 48 ≤ c ∧ c ≤ 57 := by
  simp only [digN, List.mem_cons, List.not_mem_nil, or_false]
  omega
theorem u8_le (a b : UInt8) : decide (a ≤ b) = decide (a.toNat ≤ b.toNat) := rfl
theorem nameOk_iff (b : Bytes) : nameOk b = true ↔ (1 ≤ b.length ∧ b.length ≤ 12) ∧ ∀ c ∈ b, (97 ≤ c.toNat ∧ c.toNat ≤ 122) ∨ (48 ≤ c.toNat ∧ c.toNat ≤ 57) := by
  unfold nameOk
  simp only [Bool.and_eq_true, decide_eq_true_eq, List.all_eq_true, Bool.or_eq_true, UInt8.le_iff_toNat_le, and_assoc]
  rfl
theorem isName_iff (w : List Nat) : isName w = true ↔ (1 ≤ w.length ∧ w.length ≤ 12) ∧ ∀ c ∈ w, (97 ≤ c ∧ c ≤ 122) ∨ (48 ≤ c ∧ c ≤ 57) := by
  unfold isName made
  simp only [Bool.and_eq_true, decide_eq_true_eq, List.all_eq_true, mem_let]
theorem sg_alnum {n : Nat} (h : (97 ≤ sg n ∧ sg n ≤ 122) ∨ (48 ≤ sg n ∧ sg n ≤ 57)) : sg n = n := by
  have : n = sg n := sg_eq (c := sg n) (by omega) rfl
  exact this.symm
theorem name_cd (b : Bytes) : isName (cd b) = nameOk b := by
  rw [Bool.eq_iff_iff, isName_iff, nameOk_iff]
  have hl : (cd b).length = b.length := List.length_map ..
  rw [hl]
  refine and_congr_right fun _ => ⟨fun h c hc => ?_, fun h c hc => ?_⟩
  · have q := h (sg c.toNat) (List.mem_map.mpr ⟨c, hc, rfl⟩)
    rw [sg_alnum q] at q
    exact q
  · obtain ⟨d, hd, rfl⟩ := List.mem_map.mp hc
    show (97 ≤ sg d.toNat ∧ sg d.toNat ≤ 122) ∨ (48 ≤ sg d.toNat ∧ sg d.toNat ≤ 57)
    rw [sg_self (h d hd)]
    exact h d hd
theorem cd_alnum : ∀ b : Bytes, (∀ c ∈ b, (97 ≤ c.toNat ∧ c.toNat ≤ 122) ∨ (48 ≤ c.toNat ∧ c.toNat ≤ 57)) → cd b = codes b
  | [], _ => rfl
  | x :: r, h => by
    show sg x.toNat :: cd r = x.toNat :: codes r
    rw [sg_self (h x (List.mem_cons_self ..)), cd_alnum r fun c hc => h c (List.mem_cons_of_mem _ hc)]
theorem cd_name {b : Bytes} (h : nameOk b = true) : cd b = codes b := cd_alnum b ((nameOk_iff b).mp h).2
theorem codes_inj : ∀ {a b : Bytes}, codes a = codes b → a = b
  | [], [], _ => rfl
  | [], y :: s, h => by cases h
  | x :: r, [], h => by cases h
  | x :: r, y :: s, h => by
    have h1 := (List.cons.inj h).1
    have h2 := (List.cons.inj h).2
    rw [UInt8.toNat_inj.mp h1, codes_inj h2]
/-! ### Numbers -/
theorem isNum_iff (w : List Nat) : isNum w = true ↔ ((1 ≤ w.length ∧ w.length ≤ 6) ∧ ∀ c ∈ w, 48 ≤ c ∧ c ≤ 57) ∧ (w = [48] ∨ w.getD 0 0 ≠ 48) := by
  unfold isNum made
  simp only [Bool.and_eq_true, decide_eq_true_eq, List.all_eq_true, mem_dig, Bool.or_eq_true, beq_iff_eq, Bool.not_eq_true', beq_eq_false_iff_ne]
theorem val_snoc (u : List Nat) (c : Nat) : valN (u ++ [c]) = valN u * 10 + (c - 48) := by
  unfold valN
  rw [List.foldl_append]
  rfl
def digs (n : Nat) : List Nat := (Nat.toDigits 10 n).map Char.toNat
theorem digs_lt {n : Nat} (h : n < 10) : digs n = [48 + n] := by
  unfold digs
  rw [Nat.toDigits_of_lt_base h]
  show [(Nat.digitChar n).toNat] = _
  rw [Nat.toNat_digitChar_of_lt_ten h]
theorem digs_ge {n : Nat} (h : 10 ≤ n) : digs n = digs (n / 10) ++ [48 + n % 10] := by
  unfold digs
  rw [Nat.toDigits_of_base_le (by decide) h, List.map_append]
  show _ ++ [(Nat.digitChar (n % 10)).toNat] = _
  rw [Nat.toNat_digitChar_of_lt_ten (Nat.mod_lt _ (by decide))]
theorem digs_dig (n : Nat) : ∀ c ∈ digs n, 48 ≤ c ∧ c ≤ 57 := by
  induction n using Nat.strongRecOn with
  | _ n ih =>
    intro c hc
    by_cases h : n < 10
    · rw [digs_lt h] at hc
      have := List.mem_singleton.mp hc
      omega
    · rw [digs_ge (by omega)] at hc
      rcases List.mem_append.mp hc with q | q
      · exact ih (n / 10) (by omega) c q
      · have := List.mem_singleton.mp q
        omega
theorem digs_val (n : Nat) : valN (digs n) = n := by
  induction n using Nat.strongRecOn with
  | _ n ih =>
    by_cases h : n < 10
    · rw [digs_lt h]
      show 0 * 10 + (48 + n - 48) = n
      omega
    · rw [digs_ge (by omega), val_snoc, ih (n / 10) (by omega)]
      omega
theorem digs_pos (n : Nat) : 1 ≤ (digs n).length := by
  by_cases h : n < 10
  · rw [digs_lt h]; exact Nat.le_refl _
  · rw [digs_ge (by omega), List.length_append]
    show 1 ≤ _ + 1
    omega
theorem digs_head (n : Nat) : n ≠ 0 → (digs n).getD 0 0 ≠ 48 := by
  induction n using Nat.strongRecOn with
  | _ n ih =>
    intro h0
    by_cases h : n < 10
    · rw [digs_lt h]
      show 48 + n ≠ 48
      omega
    · rw [digs_ge (by omega)]
      have q := ih (n / 10) (by omega) (by omega)
      have l := digs_pos (n / 10)
      cases e : digs (n / 10) with
      | nil => rw [e] at l; exact absurd l (by decide)
      | cons a r => rw [e] at q; exact q
theorem digs_len {n : Nat} (h : n < 1000000) : (digs n).length ≤ 6 := by
  unfold digs
  rw [List.length_map]
  exact (Nat.length_toDigits_le_iff (by decide) (by decide)).mpr h
theorem digs_num {n : Nat} (h : n < 1000000) : isNum (digs n) = true := by
  refine (isNum_iff _).mpr ⟨⟨⟨digs_pos n, digs_len h⟩, digs_dig n⟩, ?_⟩
  by_cases e : n = 0
  · exact .inl (by rw [e]; exact digs_lt (by decide))
  · exact .inr (digs_head n e)
theorem val_pos : ∀ u : List Nat, u ≠ [] → (∀ c ∈ u, 48 ≤ c ∧ c ≤ 57) → u.getD 0 0 ≠ 48 → 1 ≤ valN u := by
  intro u
  induction h : u.length generalizing u with
  | zero => intro ne; exact absurd (List.length_eq_zero_iff.mp h) ne
  | succ k ih =>
    intro ne hd h0
    rcases List.eq_nil_or_concat u with q | ⟨v, c, q⟩
    · exact absurd q ne
    · subst q
      rw [List.concat_eq_append] at *
      rw [val_snoc]
      by_cases ev : v = []
      · subst ev
        have := hd c (by simp)
        have h0' : c ≠ 48 := h0
        show 1 ≤ 0 * 10 + (c - 48)
        omega
      · have hv := ih v (by simpa using h) ev (fun x hx => hd x (by simp [hx])) (by
          cases v with
          | nil => exact absurd rfl ev
          | cons a r => exact h0)
        omega
theorem digs_back : ∀ w : List Nat, w ≠ [] → (∀ c ∈ w, 48 ≤ c ∧ c ≤ 57) → (w = [48] ∨ w.getD 0 0 ≠ 48) → digs (valN w) = w := by
  intro w
  induction h : w.length generalizing w with
  | zero => intro ne; exact absurd (List.length_eq_zero_iff.mp h) ne
  | succ k ih =>
    intro ne hd h0
    rcases List.eq_nil_or_concat w with q | ⟨v, c, q⟩
    · exact absurd q ne
    · subst q
      rw [List.concat_eq_append] at *
      have hc := hd c (by simp)
      rw [val_snoc]
      by_cases ev : v = []
      · subst ev
        have e : valN [] * 10 + (c - 48) = c - 48 := by show 0 * 10 + (c - 48) = _; omega
        rw [e, digs_lt (by omega)]
        show [48 + (c - 48)] = [c]
        rw [show 48 + (c - 48) = c by omega]
      · have h1 : v.getD 0 0 ≠ 48 := by
          cases v with
          | nil => exact absurd rfl ev
          | cons a r =>
            rcases h0 with z | z
            · have z' := congrArg List.length z
              simp at z'
            · exact z
        have hdv : ∀ x ∈ v, 48 ≤ x ∧ x ≤ 57 := fun x hx => hd x (by simp [hx])
        have hv := ih v (by simpa using h) ev hdv (.inr h1)
        have p := val_pos v ev hdv h1
        have e1 : (valN v * 10 + (c - 48)) / 10 = valN v := by omega
        have e2 : (valN v * 10 + (c - 48)) % 10 = c - 48 := by omega
        rw [digs_ge (by omega), e1, e2, hv, show 48 + (c - 48) = c by omega]
theorem decimal_codes (n : Nat) : codes (decimal n) = digs n := by
  unfold codes decimal digs
  rw [List.map_map]
  refine List.map_congr_left fun c hc => ?_
  have q : 48 ≤ c.toNat ∧ c.toNat ≤ 57 := digs_dig n _ (List.mem_map.mpr ⟨c, hc, rfl⟩)
  show (UInt8.ofNat c.toNat).toNat = c.toNat
  rw [UInt8.toNat_ofNat']
  omega
theorem decimal_dig (n : Nat) : ∀ c ∈ decimal n, 48 ≤ c.toNat ∧ c.toNat ≤ 57 := fun c hc =>
  digs_dig n _ (by rw [← decimal_codes]; exact List.mem_map.mpr ⟨c, hc, rfl⟩)
theorem cd_decimal (n : Nat) : cd (decimal n) = digs n := (cd_alnum _ fun c hc => .inr (decimal_dig n c hc)).trans (decimal_codes n)
theorem natIn_codes {b : Bytes} (h : b.length ≤ 9) : natIn b = valN (codes b) := by
  unfold natIn valN codes
  rw [if_pos h, List.foldl_map]
  congr 1
  funext n c
  omega
/-- a number's word, as bytes -/
theorem num_cd {b : Bytes} (h : isNum (cd b) = true) : cd b = codes b ∧ decimal (natIn b) = b ∧ natIn b = valN (cd b) := by
  have q := (isNum_iff _).mp h
  have e : cd b = codes b := cd_alnum b fun c hc => by
    have z := q.1.2 (sg c.toNat) (List.mem_map.mpr ⟨c, hc, rfl⟩)
    have z' : sg c.toNat = c.toNat := sg_alnum (.inr z)
    rw [z'] at z
    exact .inr z
  have hl : b.length ≤ 9 := by
    have := q.1.1.2
    have l : (cd b).length = b.length := List.length_map ..
    omega
  have v := natIn_codes hl
  refine ⟨e, ?_, by rw [v, e]⟩
  refine codes_inj ?_
  rw [decimal_codes, v, ← e]
  exact digs_back _ (by intro z; rw [z] at q; exact absurd q.1.1.1 (by decide)) q.1.2 q.2
theorem numOk_dec {n lo hi : Nat} (h1 : lo ≤ n) (h2 : n ≤ hi) (h3 : hi < 1000000) : numOk (digs n) (lo, hi) = true := by
  unfold numOk
  rw [digs_num (by omega), digs_val]
  simp [h1, h2]
end My

namespace My
open Br
/-! ### A line read -/
theorem no32_alnum {b : Bytes} (h : ∀ c ∈ b, (97 ≤ c.toNat ∧ c.toNat ≤ 122) ∨ (48 ≤ c.toNat ∧ c.toNat ≤ 57)) : (32 : UInt8) ∉ b := fun z => by
  have q := h 32 z
  have e : (32 : UInt8).toNat = 32 := rfl
  rw [e] at q
  omega
theorem no32_name {n : Name} (h : nameOk n = true) : (32 : UInt8) ∉ n := no32_alnum ((nameOk_iff n).mp h).2
theorem no32_dec (n : Nat) : (32 : UInt8) ∉ decimal n := no32_alnum fun c hc => .inr (decimal_dig n c hc)
theorem within_iff {lo hi n : Nat} : within lo hi n = true ↔ lo ≤ n ∧ n ≤ hi := by
  unfold within
  simp only [Bool.and_eq_true, decide_eq_true_eq]
theorem wd_no32 : ∀ {l : Line}, l.ok = true → ∀ w ∈ wd l, (32 : UInt8) ∉ w := by
  intro l h
  have k1 : (32 : UInt8) ∉ ascii "recipe" := by decide +kernel
  have k2 : (32 : UInt8) ∉ ascii "malt" := by decide +kernel
  have k3 : (32 : UInt8) ∉ ascii "hop" := by decide +kernel
  have k4 : (32 : UInt8) ∉ ascii "add" := by decide +kernel
  have k5 : (32 : UInt8) ∉ ascii "yeast" := by decide +kernel
  cases l with
  | recipe n =>
    intro w hw
    simp only [wd, List.mem_cons, List.not_mem_nil, or_false] at hw
    have hn : nameOk n = true := h
    rcases hw with q | q <;> rw [q]
    all_goals first | exact k1 | exact no32_name hn
  | malt n p x =>
    intro w hw
    simp only [wd, List.mem_cons, List.not_mem_nil, or_false] at hw
    have hn : nameOk n = true := (Bool.and_eq_true _ _ ▸ h : _ ∧ _).1
    rcases hw with q | q | q | q <;> rw [q]
    all_goals first | exact k2 | exact no32_name hn | exact no32_dec p | exact no32_dec x
  | hop n p a t =>
    intro w hw
    simp only [wd, List.mem_cons, List.not_mem_nil, or_false] at hw
    have hn : nameOk n = true := (Bool.and_eq_true _ _ ▸ h : _ ∧ _).1
    rcases hw with q | q | q | q | q <;> rw [q]
    all_goals first | exact k3 | exact no32_name hn | exact no32_dec p | exact no32_dec a | exact no32_dec t
  | add n g =>
    intro w hw
    simp only [wd, List.mem_cons, List.not_mem_nil, or_false] at hw
    have hn : nameOk n = true := (Bool.and_eq_true _ _ ▸ h : _ ∧ _).1
    rcases hw with q | q | q <;> rw [q]
    all_goals first | exact k4 | exact no32_name hn | exact no32_dec g
  | yeast u =>
    intro w hw
    simp only [wd, List.mem_cons, List.not_mem_nil, or_false] at hw
    rcases hw with q | q <;> rw [q]
    all_goals first | exact k5 | exact no32_dec u
theorem wd_ne (l : Line) : wd l ≠ [] := by cases l <;> simp [wd]
theorem lineIn_some {b : Bytes} {x : Line} (h : lineIn b = some x) : x.ok = true ∧ cutAt 32 b = wd x := by
  unfold lineIn at h
  cases e : lineMaybe b with
  | none => rw [e] at h; cases h
  | some y =>
    rw [e] at h
    have h' : (if y.ok = true ∧ y.text = b then some y else none) = some x := h
    split at h'
    · rename_i q
      cases h'
      refine ⟨q.1, ?_⟩
      rw [← q.2, text_wd, cut_spaced _ (wd_ne _) (wd_no32 q.1)]
    · cases h'
theorem lineIn_of {b : Bytes} {x : Line} (hm : lineMaybe b = some x) (ho : x.ok = true) (hw : cutAt 32 b = wd x) : lineIn b = some x := by
  unfold lineIn
  rw [hm]
  show (if x.ok = true ∧ x.text = b then some x else none) = some x
  rw [if_pos ⟨ho, by rw [text_wd, ← hw, spaced_cut]⟩]
theorem cd_recipe : cd (ascii "recipe") = kRecipe := by decide +kernel
theorem cd_malt : cd (ascii "malt") = kMalt := by decide +kernel
theorem cd_hop : cd (ascii "hop") = kHop := by decide +kernel
theorem cd_add : cd (ascii "add") = kAdd := by decide +kernel
theorem cd_yeast : cd (ascii "yeast") = kYeast := by decide +kernel
theorem cd_back {b k : Bytes} (hk : ∀ c ∈ cd k, c ≠ 63) (hc : cd k = codes k) (h : cd b = cd k) : b = k := by
  refine codes_inj ?_
  rw [← hc, ← h]
  have : ∀ c ∈ cd b, c ≠ 63 := by rw [h]; exact hk
  clear h hk hc
  induction b with
  | nil => rfl
  | cons x r ih =>
    have h1 : sg x.toNat ≠ 63 := this (sg x.toNat) (List.mem_cons_self ..)
    have h2 := ih fun c hc => this c (List.mem_cons_of_mem _ hc)
    show x.toNat :: codes r = sg x.toNat :: cd r
    rw [h2, ← sg_eq h1 rfl]
theorem back_recipe {b : Bytes} (h : cd b = kRecipe) : b = ascii "recipe" := cd_back (by decide +kernel) (by decide +kernel) (h.trans cd_recipe.symm)
theorem back_malt {b : Bytes} (h : cd b = kMalt) : b = ascii "malt" := cd_back (by decide +kernel) (by decide +kernel) (h.trans cd_malt.symm)
theorem back_hop {b : Bytes} (h : cd b = kHop) : b = ascii "hop" := cd_back (by decide +kernel) (by decide +kernel) (h.trans cd_hop.symm)
theorem back_add {b : Bytes} (h : cd b = kAdd) : b = ascii "add" := cd_back (by decide +kernel) (by decide +kernel) (h.trans cd_add.symm)
theorem back_yeast {b : Bytes} (h : cd b = kYeast) : b = ascii "yeast" := cd_back (by decide +kernel) (by decide +kernel) (h.trans cd_yeast.symm)
theorem rank_recipe : rankOf kRecipe = some 0 := by decide +kernel
theorem rank_malt : rankOf kMalt = some 1 := by decide +kernel
theorem rank_hop : rankOf kHop = some 2 := by decide +kernel
theorem rank_add : rankOf kAdd = some 3 := by decide +kernel
theorem rank_yeast : rankOf kYeast = some 4 := by decide +kernel
theorem numsM_cons {w : List Nat} {ws : List (List Nat)} {b : Nat × Nat} {bs : List (Nat × Nat)} (h : numOk w b = true) : numsM (w :: ws) (b :: bs) = (numsM ws bs).map (valN w :: ·) := if_pos h
theorem numsM_nil {ws : List (List Nat)} : numsM ws [] = some [] := by cases ws <;> rfl
theorem rowM_ok {ws : List (List Nat)} {k : Nat} {ns : List Nat} (hr : rankOf (ws.getD 0 []) = some k) (hl : ws.length = 1 + nms k + (bds k).length) (hn : nms k = 1 → isName (ws.getD 1 []) = true)
    (hs : numsM (ws.drop (1 + nms k)) (bds k) = some ns) : rowM ws = some (k, if nms k = 1 then ws.getD 1 [] else [], ns) := by
  unfold rowM
  rw [hr]
  dsimp only
  rw [if_neg (fun z => z hl), if_neg (fun z => by rw [hn z.1] at z; exact absurd z.2 (by decide)), hs]
  rfl
theorem rowM_wd {x : Line} (h : x.ok = true) : rowM ((wd x).map cd) = some (rk x) := by
  cases x with
  | recipe n =>
    have hn : nameOk n = true := h
    have en := name_cd n
    rw [hn] at en
    show rowM [cd (ascii "recipe"), cd n] = _
    rw [cd_recipe, rowM_ok (ws := [kRecipe, cd n]) (k := 0) (ns := []) rank_recipe rfl (fun _ => en) numsM_nil]
    show some (0, cd n, []) = some (0, codes n, [])
    rw [cd_name hn]
  | malt n p x =>
    have h' : nameOk n = true ∧ within 1 10000 p = true ∧ within 1 850 x = true := by simpa [Line.ok] using h
    obtain ⟨hn, hp, hx⟩ := h'
    have en := name_cd n
    rw [hn] at en
    have hp' := within_iff.mp hp
    have hx' := within_iff.mp hx
    show rowM [cd (ascii "malt"), cd n, cd (decimal p), cd (decimal x)] = _
    have e : numsM [digs p, digs x] [(1, 10000), (1, 850)] = some [p, x] := by
      rw [numsM_cons (numOk_dec hp'.1 hp'.2 (by decide)), numsM_cons (numOk_dec hx'.1 hx'.2 (by decide)), numsM_nil, digs_val, digs_val]
      rfl
    rw [cd_malt, cd_decimal, cd_decimal, rowM_ok (ws := [kMalt, cd n, digs p, digs x]) (k := 1) rank_malt rfl (fun _ => en) e]
    show some (1, cd n, [p, x]) = some (1, codes n, [p, x])
    rw [cd_name hn]
  | hop n p a t =>
    have h' : nameOk n = true ∧ within 1 10000 p = true ∧ within 1 2500 a = true ∧ t ≤ 120 := by simpa [Line.ok] using h
    obtain ⟨hn, hp, ha, ht⟩ := h'
    have en := name_cd n
    rw [hn] at en
    have hp' := within_iff.mp hp
    have ha' := within_iff.mp ha
    show rowM [cd (ascii "hop"), cd n, cd (decimal p), cd (decimal a), cd (decimal t)] = _
    have e : numsM [digs p, digs a, digs t] [(1, 10000), (1, 2500), (0, 120)] = some [p, a, t] := by
      rw [numsM_cons (numOk_dec hp'.1 hp'.2 (by decide)), numsM_cons (numOk_dec ha'.1 ha'.2 (by decide)), numsM_cons (numOk_dec (Nat.zero_le _) ht (by decide)), numsM_nil, digs_val, digs_val, digs_val]
      rfl
    rw [cd_hop, cd_decimal, cd_decimal, cd_decimal, rowM_ok (ws := [kHop, cd n, digs p, digs a, digs t]) (k := 2) rank_hop rfl (fun _ => en) e]
    show some (2, cd n, [p, a, t]) = some (2, codes n, [p, a, t])
    rw [cd_name hn]
  | add n g =>
    have h' : nameOk n = true ∧ within 1 100000 g = true := by simpa [Line.ok] using h
    obtain ⟨hn, hg⟩ := h'
    have en := name_cd n
    rw [hn] at en
    have hg' := within_iff.mp hg
    show rowM [cd (ascii "add"), cd n, cd (decimal g)] = _
    have e : numsM [digs g] [(1, 100000)] = some [g] := by
      rw [numsM_cons (numOk_dec hg'.1 hg'.2 (by decide)), numsM_nil, digs_val]
      rfl
    rw [cd_add, cd_decimal, rowM_ok (ws := [kAdd, cd n, digs g]) (k := 3) rank_add rfl (fun _ => en) e]
    show some (3, cd n, [g]) = some (3, codes n, [g])
    rw [cd_name hn]
  | yeast u =>
    have hu' := within_iff.mp (show within 1 950 u = true from h)
    show rowM [cd (ascii "yeast"), cd (decimal u)] = _
    have e : numsM [digs u] [(1, 950)] = some [u] := by
      rw [numsM_cons (numOk_dec hu'.1 hu'.2 (by decide)), numsM_nil, digs_val]
      rfl
    rw [cd_yeast, cd_decimal, rowM_ok (ws := [kYeast, digs u]) (k := 4) rank_yeast rfl (fun z => absurd z (by decide)) e]
    rfl
theorem numOk_iff {w : List Nat} {b : Nat × Nat} : numOk w b = true ↔ isNum w = true ∧ b.1 ≤ valN w ∧ valN w ≤ b.2 := by
  unfold numOk
  simp only [Bool.and_eq_true, decide_eq_true_eq]
theorem numsM_some : ∀ {ws : List (List Nat)} {bs : List (Nat × Nat)} {ns : List Nat}, numsM ws bs = some ns → ws.length = bs.length → (∀ (i : Nat) (w : List Nat) (b : Nat × Nat), ws[i]? = some w → bs[i]? = some b → numOk w b = true)
  | [], _, _, _, _ => fun i w b h => by simp at h
  | w :: ws, [], _, _, h => by simp at h
  | w :: ws, b :: bs, ns, h, hl => by
    have h' : (if numOk w b = true then (numsM ws bs).map (valN w :: ·) else none) = some ns := h
    split at h'
    · rename_i q
      cases e : numsM ws bs with
      | none => rw [e] at h'; cases h'
      | some ms =>
        intro i
        cases i with
        | zero =>
          intro w' b' h1 h2
          cases h1
          cases h2
          exact q
        | succ i => exact fun w' b' h1 h2 => numsM_some e (by simpa using hl) i w' b' h1 h2
    · cases h'
theorem rankOf_some {w : List Nat} {k : Nat} (h : rankOf w = some k) : (k = 0 ∧ w = kRecipe) ∨ (k = 1 ∧ w = kMalt) ∨ (k = 2 ∧ w = kHop) ∨ (k = 3 ∧ w = kAdd) ∨ (k = 4 ∧ w = kYeast) := by
  unfold rankOf at h
  repeat' split at h
  all_goals first | (cases h; done) | (cases h; simp_all; done)
theorem len1 {α} {l : List α} (h : l.length = 1) : ∃ a, l = [a] := List.length_eq_one_iff.mp h
theorem rowM_some {b : Bytes} {y : Nat × List Nat × List Nat} (h : rowM ((cutAt 32 b).map cd) = some y) : ∃ x, lineIn b = some x := by
  unfold rowM at h
  cases ek : rankOf (((cutAt 32 b).map cd).getD 0 []) with
  | none => rw [ek] at h; cases h
  | some k =>
    rw [ek] at h
    dsimp only at h
    split at h
    · cases h
    · rename_i hl
      have hl := Classical.not_not.mp hl
      split at h
      · cases h
      · rename_i hn
        cases en : numsM (((cutAt 32 b).map cd).drop (1 + nms k)) (bds k) with
        | none => rw [en] at h; cases h
        | some ns =>
          have num := numsM_some en (by rw [List.length_drop]; omega)
          clear en h
          rw [List.length_map] at hl
          rcases rankOf_some ek with ⟨rfl, e⟩ | ⟨rfl, e⟩ | ⟨rfl, e⟩ | ⟨rfl, e⟩ | ⟨rfl, e⟩
          · match hw : cutAt 32 b, hl with
            | [k0, n], _ =>
              rw [hw] at e num hn
              have e0 := back_recipe e
              have n1 : nameOk n = true := by rw [← name_cd]; simpa [nms] using hn
              refine ⟨.recipe n, lineIn_of ?_ n1 (by rw [hw, e0]; rfl)⟩
              unfold lineMaybe
              rw [hw, e0]
              rfl
          · match hw : cutAt 32 b, hl with
            | [k0, n, w2, w3], _ =>
              rw [hw] at e num hn
              have e0 := back_malt e
              have n1 : nameOk n = true := by rw [← name_cd]; simpa [nms] using hn
              have a2 := numOk_iff.mp (num 0 (cd w2) (1, 10000) rfl rfl)
              have a3 := numOk_iff.mp (num 1 (cd w3) (1, 850) rfl rfl)
              obtain ⟨_, d2, v2⟩ := num_cd a2.1
              obtain ⟨_, d3, v3⟩ := num_cd a3.1
              refine ⟨.malt n (natIn w2) (natIn w3), lineIn_of ?_ ?_ (by rw [hw, e0]; show _ = [_, n, decimal (natIn w2), decimal (natIn w3)]; rw [d2, d3])⟩
              · unfold lineMaybe
                rw [hw, e0]
                rfl
              · show (nameOk n && (within 1 10000 (natIn w2) && within 1 850 (natIn w3))) = true
                rw [n1, within_iff.mpr (by rw [v2]; exact a2.2), within_iff.mpr (by rw [v3]; exact a3.2)]
                rfl
          · match hw : cutAt 32 b, hl with
            | [k0, n, w2, w3, w4], _ =>
              rw [hw] at e num hn
              have e0 := back_hop e
              have n1 : nameOk n = true := by rw [← name_cd]; simpa [nms] using hn
              have a2 := numOk_iff.mp (num 0 (cd w2) (1, 10000) rfl rfl)
              have a3 := numOk_iff.mp (num 1 (cd w3) (1, 2500) rfl rfl)
              have a4 := numOk_iff.mp (num 2 (cd w4) (0, 120) rfl rfl)
              obtain ⟨_, d2, v2⟩ := num_cd a2.1
              obtain ⟨_, d3, v3⟩ := num_cd a3.1
              obtain ⟨_, d4, v4⟩ := num_cd a4.1
              refine ⟨.hop n (natIn w2) (natIn w3) (natIn w4), lineIn_of ?_ ?_ (by rw [hw, e0]; show _ = [_, n, decimal (natIn w2), decimal (natIn w3), decimal (natIn w4)]; rw [d2, d3, d4])⟩
              · unfold lineMaybe
                rw [hw, e0]
                rfl
              · show (nameOk n && (within 1 10000 (natIn w2) && (within 1 2500 (natIn w3) && decide (natIn w4 ≤ 120)))) = true
                rw [n1, within_iff.mpr (by rw [v2]; exact a2.2), within_iff.mpr (by rw [v3]; exact a3.2), decide_eq_true (by rw [v4]; exact a4.2.2)]
                rfl
          · match hw : cutAt 32 b, hl with
            | [k0, n, w2], _ =>
              rw [hw] at e num hn
              have e0 := back_add e
              have n1 : nameOk n = true := by rw [← name_cd]; simpa [nms] using hn
              have a2 := numOk_iff.mp (num 0 (cd w2) (1, 100000) rfl rfl)
              obtain ⟨_, d2, v2⟩ := num_cd a2.1
              refine ⟨.add n (natIn w2), lineIn_of ?_ ?_ (by rw [hw, e0]; show _ = [_, n, decimal (natIn w2)]; rw [d2])⟩
              · unfold lineMaybe
                rw [hw, e0]
                rfl
              · show (nameOk n && within 1 100000 (natIn w2)) = true
                rw [n1, within_iff.mpr (by rw [v2]; exact a2.2)]
                rfl
          · match hw : cutAt 32 b, hl with
            | [k0, w1], _ =>
              rw [hw] at e num hn
              have e0 := back_yeast e
              have a1 := numOk_iff.mp (num 0 (cd w1) (1, 950) rfl rfl)
              obtain ⟨_, d1, v1⟩ := num_cd a1.1
              refine ⟨.yeast (natIn w1), lineIn_of ?_ ?_ (by rw [hw, e0]; show _ = [_, decimal (natIn w1)]; rw [d1])⟩
              · unfold lineMaybe
                rw [hw, e0]
                rfl
              · exact within_iff.mpr (by rw [v1]; exact a1.2)
theorem row_line (b : Bytes) : rowM (cutN 32 (cd b)) = (lineIn b).map rk := by
  have e : cutN 32 (cd b) = (cutAt 32 b).map cd := cutN_cd (c := 32) (by decide) (by decide) b
  rw [e]
  cases h : lineIn b with
  | some x =>
    obtain ⟨ho, hw⟩ := lineIn_some h
    rw [hw]
    exact rowM_wd ho
  | none =>
    cases h2 : rowM ((cutAt 32 b).map cd) with
    | none => rfl
    | some y =>
      obtain ⟨x, hx⟩ := rowM_some h2
      rw [h] at hx
      cases hx
end My

namespace My
open Br
/-! ### A recipe read -/
/-- the lines with their line feed, and what stands behind the last one -/
def lns (t : Bytes) : List Bytes := (cutAt 10 t).dropLast
def rst (t : Bytes) : Bytes := (cutAt 10 t).getLastD []
def goF : Nat → Recipe → List Bytes → Bytes → Except (Nat × Nat) Recipe
  | k, r, [], rest => if rest ≠ [] then .error (k, 1) else if ends r = true then .ok r else .error (k, 3)
  | k, r, b :: l, rest => match lineIn b with
    | none => .error (k, 1)
    | some x => if wrongOf r x = 0 then goF (k + 1) (r ++ [x]) l rest else .error (k, wrongOf r x)
theorem split_cut : ∀ t : Bytes, splitLines t = lns t ++ (if rst t = [] then [] else [rst t])
  | [] => rfl
  | c :: r => by
    have ih := split_cut r
    have ne := cutAt_ne 10 r
    unfold lns rst at ih ⊢
    rw [splitLines.eq_2, cutAt.eq_2]
    cases e : cutAt 10 r with
    | nil => exact absurd e ne
    | cons w l =>
      rw [e] at ih
      by_cases h : c = 10
      · rw [if_pos h, if_pos h, ih]
        rfl
      · rw [if_neg h, if_neg h, ih]
        cases l with
        | nil =>
          show (match ([] : List Bytes) ++ (if w = [] then [] else [w]) with | [] => [[c]] | l :: m => (c :: l) :: m) = [] ++ (if c :: w = [] then [] else [c :: w])
          rw [if_neg (List.cons_ne_nil c w)]
          by_cases q : w = []
          · rw [q, if_pos rfl]; rfl
          · rw [if_neg q]; rfl
        | cons v m => rfl
theorem rst_nil_iff : ∀ t : Bytes, (rst t = [] ↔ t = [] ∨ t.getLast? = some 10)
  | [] => by simp [rst, cutAt]
  | c :: r => by
    have ih := rst_nil_iff r
    have ne := cutAt_ne 10 r
    unfold rst at ih ⊢
    rw [cutAt.eq_2]
    cases e : cutAt 10 r with
    | nil => exact absurd e ne
    | cons w l =>
      rw [e] at ih
      by_cases h : c = 10
      · rw [if_pos h]
        show (w :: l).getLastD [] = [] ↔ _
        rw [ih]
        cases r with
        | nil => simp [h]
        | cons d s => simp [List.getLast?_cons_cons]
      · rw [if_neg h]
        cases l with
        | nil =>
          show c :: w = [] ↔ _
          cases r with
          | nil => simp [h]
          | cons d s =>
            have ih' : w = [] ↔ d :: s = [] ∨ (d :: s).getLast? = some 10 := ih
            have e' : w ≠ [] := by
              intro z
              rw [z] at e
              have q := spaced_back e
              exact absurd q (by simp)
            simp only [List.cons_ne_nil, false_or, false_iff, List.getLast?_cons_cons] at ih' ⊢
            exact fun z => e' (ih'.mpr z)
        | cons v m =>
          show (v :: m).getLastD [] = [] ↔ _
          have ih' : (v :: m).getLastD [] = [] ↔ r = [] ∨ r.getLast? = some 10 := ih
          rw [ih']
          cases r with
          | nil => cases e
          | cons d s => simp [List.getLast?_cons_cons]
where
  spaced_back : ∀ {b : Bytes}, cutAt 10 b = [[]] → b = []
    | [], _ => rfl
    | x :: s, h => by
      have ne := cutAt_ne 10 s
      rw [cutAt.eq_2] at h
      cases e : cutAt 10 s with
      | nil => exact absurd e ne
      | cons w l =>
        rw [e] at h
        split at h
        · cases h
        · cases h
theorem bare_iff (t : Bytes) : (!t.isEmpty && t.getLast? != some 10) = !decide (rst t = []) := by
  have h := rst_nil_iff t
  cases t with
  | nil => simp [rst, cutAt]
  | cons c r =>
    by_cases q : (c :: r).getLast? = some 10
    · rw [decide_eq_true (h.mpr (.inr q)), q]; rfl
    · have : ¬ rst (c :: r) = [] := fun z => by
        rcases h.mp z with w | w
        · cases w
        · exact q w
      rw [decide_eq_false this]
      simp [q]
theorem from_go (rest : Bytes) : ∀ (l : List Bytes) (k : Nat) (r : Recipe), recipeFrom (!decide (rest = [])) k r (l ++ (if rest = [] then [] else [rest])) = goF k r l rest
  | [], k, r => by
    by_cases h : rest = []
    · rw [decide_eq_true h, if_pos h]
      unfold goF
      rw [if_neg (fun z => z h)]
      rfl
    · rw [decide_eq_false h, if_neg h]
      unfold goF
      rw [if_pos h]
      rfl
  | b :: l, k, r => by
    have e : ((!decide (rest = [])) && (l ++ (if rest = [] then [] else [rest])).isEmpty) = false := by
      by_cases h : rest = []
      · rw [decide_eq_true h]; rfl
      · rw [if_neg h]; simp
    rw [List.cons_append, recipeFrom.eq_2, e]
    unfold goF
    rw [if_neg Bool.false_ne_true]
    cases lineIn b with
    | none => rfl
    | some x =>
      dsimp only
      by_cases q : wrongOf r x = 0
      · rw [if_pos q, if_pos q, from_go rest l]
      · rw [if_neg q, if_neg q]
theorem read_go (t : Bytes) : readRecipe t = goF 0 [] (lns t) (rst t) := by
  unfold readRecipe
  rw [bare_iff, split_cut, from_go]
/-! ### What is wrong with a row, by what stands before -/
def ofRank (k : Nat) (r : Recipe) : Recipe := r.filter fun l => l.rank == k
def bef (r : Recipe) : List Nat := match r.getLast? with
  | none => []
  | some y => kindN y.rank
def mayN : Nat → List (List Nat)
  | 0 => [[]]
  | 1 => [kRecipe, kMalt]
  | 2 => [kMalt, kHop]
  | _ => [kMalt, kHop, kAdd]
def mins (l : Line) : Nat := (lnums l).getD 2 0
def hopClash (x : Line) (es : Recipe) : Bool := (match es.getLast? with
  | some y => decide (mins y < mins x)
  | none => false) || es.any fun y => lname y == lname x && mins y == mins x
def clashM (x : Line) (es : Recipe) : Bool := if x.rank = 2 then hopClash x es else es.any fun y => lname y == lname x
def whyM (r : Recipe) (x : Line) : Nat := if bef r ∉ mayN x.rank then 3 else if clashM x (ofRank x.rank r) = true then 4 else if 16 ≤ (ofRank x.rank r).length then 2 else 0
def Fine (r : Recipe) : Prop := ∀ y ∈ r.dropLast, y.rank ≠ 4
theorem rank_le (x : Line) : x.rank ≤ 4 := by cases x <;> simp [Line.rank]
theorem stands_may (r : Recipe) (x : Line) : stands r x = decide (bef r ∈ mayN x.rank) := by
  unfold stands bef
  cases r.getLast? with
  | none => cases x <;> rfl
  | some y => cases y <;> cases x <;> rfl
theorem last_split {r : Recipe} {y : Line} (h : r.getLast? = some y) : r.dropLast ++ [y] = r := by
  have ne : r ≠ [] := by intro z; rw [z] at h; cases h
  have e := List.dropLast_concat_getLast ne
  rw [List.getLast?_eq_some_getLast ne] at h
  rw [← Option.some.inj h]
  exact e
theorem no_yeast {r : Recipe} {x : Line} (F : Fine r) (h : stands r x = true) : ∀ y ∈ r, y.rank ≠ 4 := by
  intro y hy
  cases e : r.getLast? with
  | none =>
    rw [List.getLast?_eq_none_iff] at e
    rw [e] at hy
    cases hy
  | some z =>
    have s := last_split e
    rw [← s] at hy
    rcases List.mem_append.mp hy with q | q
    · exact F y q
    · rw [List.mem_singleton.mp q]
      intro c
      unfold stands at h
      rw [e] at h
      dsimp only at h
      rw [c] at h
      cases h
theorem fine_nil : Fine [] := fun _ h => nomatch h
theorem wrong_stands {r : Recipe} {x : Line} (h : wrongOf r x = 0) : stands r x = true := by
  cases e : stands r x with
  | true => rfl
  | false =>
    unfold wrongOf at h
    rw [if_pos e] at h
    cases h
theorem fine_snoc {r : Recipe} {x : Line} (F : Fine r) (h : wrongOf r x = 0) : Fine (r ++ [x]) := by
  intro y hy
  rw [List.dropLast_concat] at hy
  exact no_yeast F (wrong_stands h) y hy
theorem ends_bef {r : Recipe} (F : Fine r) : ends r = decide (bef r = kYeast) := by
  unfold ends bef
  cases e : r.getLast? with
  | none =>
    rw [List.getLast?_eq_none_iff] at e
    rw [e]
    decide +kernel
  | some y =>
    have s := last_split e
    have hd : (r.dropLast.any fun l => l.rank == 4) = false := by
      rw [List.any_eq_false]
      intro l hl
      simpa using F l hl
    rw [← s, List.any_append, hd]
    cases y <;> rfl
theorem malts_names (n : Bytes) : ∀ r : Recipe, (malts r).any (fun m => m.1 == n) = (ofRank 1 r).any fun y => lname y == n
  | [] => rfl
  | l :: r => by
    have ih := malts_names n r
    cases l with
    | malt m p x =>
      show ((m == n) || (malts r).any _) = ((m == n) || (ofRank 1 r).any _)
      rw [ih]
    | _ => exact ih
theorem adds_names (n : Bytes) : ∀ r : Recipe, (adds r).any (fun m => m.1 == n) = (ofRank 3 r).any fun y => lname y == n
  | [] => rfl
  | l :: r => by
    have ih := adds_names n r
    cases l with
    | add m p =>
      show ((m == n) || (adds r).any _) = ((m == n) || (ofRank 3 r).any _)
      rw [ih]
    | _ => exact ih
theorem hops_names (n : Bytes) (t : Nat) : ∀ r : Recipe, (hops r).any (fun m => m.1 == n && m.2.2.2 == t) = (ofRank 2 r).any fun y => lname y == n && mins y == t
  | [] => rfl
  | l :: r => by
    have ih := hops_names n t r
    cases l with
    | hop m p a u =>
      show ((m == n && u == t) || (hops r).any _) = ((m == n && u == t) || (ofRank 2 r).any _)
      rw [ih]
    | _ => exact ih
theorem malts_len : ∀ r : Recipe, (malts r).length = (ofRank 1 r).length
  | [] => rfl
  | l :: r => by
    have ih := malts_len r
    cases l with
    | malt m p x => exact congrArg (· + 1) ih
    | _ => exact ih
theorem hops_len : ∀ r : Recipe, (hops r).length = (ofRank 2 r).length
  | [] => rfl
  | l :: r => by
    have ih := hops_len r
    cases l with
    | hop m p a t => exact congrArg (· + 1) ih
    | _ => exact ih
theorem adds_len : ∀ r : Recipe, (adds r).length = (ofRank 3 r).length
  | [] => rfl
  | l :: r => by
    have ih := adds_len r
    cases l with
    | add m p => exact congrArg (· + 1) ih
    | _ => exact ih
theorem hops_map : ∀ r : Recipe, (hops r).map (fun m => m.2.2.2) = (ofRank 2 r).map mins
  | [] => rfl
  | l :: r => by
    have ih := hops_map r
    cases l with
    | hop m p a t => exact congrArg (t :: ·) ih
    | _ => exact ih
theorem hops_last (r : Recipe) (t : Nat) : (match (hops r).getLast? with
    | some m => decide (m.2.2.2 < t)
    | none => false) = (match (ofRank 2 r).getLast? with
    | some y => decide (mins y < t)
    | none => false) := by
  have e := congrArg List.getLast? (hops_map r)
  rw [List.getLast?_map, List.getLast?_map] at e
  cases h1 : (hops r).getLast? with
  | none =>
    rw [h1] at e
    cases h2 : (ofRank 2 r).getLast? with
    | none => rfl
    | some y => rw [h2] at e; cases e
  | some m =>
    rw [h1] at e
    cases h2 : (ofRank 2 r).getLast? with
    | none => rw [h2] at e; cases e
    | some y =>
      rw [h2] at e
      have e' : m.2.2.2 = mins y := Option.some.inj e
      show decide (m.2.2.2 < t) = decide (mins y < t)
      rw [e']
theorem rank_none {r : Recipe} {k : Nat} (h : ∀ y ∈ r, y.rank ≠ k) : ofRank k r = [] := by
  unfold ofRank
  rw [List.filter_eq_nil_iff]
  intro y hy
  simpa using h y hy
theorem ofRank_le (k : Nat) (r : Recipe) : (ofRank k r).length ≤ r.length := List.length_filter_le ..
theorem why_wrong {r : Recipe} (F : Fine r) (x : Line) : whyM r x = wrongOf r x := by
  unfold whyM wrongOf
  rw [stands_may]
  by_cases h : bef r ∈ mayN x.rank
  · rw [if_neg (fun z => z h), decide_eq_true h, if_neg (show ¬ true = false by decide)]
    have st : stands r x = true := by rw [stands_may]; exact decide_eq_true h
    have eq3 : ∀ {a b : Bool} {c d : Prop} [Decidable c] [Decidable d] {e : Bool}, a = b → (c ↔ d) → ((d ↔ e = true)) → (if a = true then 4 else if c then 2 else 0) = (if b = true then 4 else if e = true then 2 else 0) := by
      intro a b c d _ _ e h1 h2 h3
      rw [h1]
      by_cases q : c
      · rw [if_pos q, if_pos (h3.mp (h2.mp q))]
      · rw [if_neg q, if_neg (fun z => q (h2.mpr (h3.mpr z)))]
    cases x with
    | recipe n =>
      have e0 : r = [] := by
        unfold stands at st
        cases e : r.getLast? with
        | none => exact List.getLast?_eq_none_iff.mp e
        | some y => rw [e] at st; cases y <;> cases st
      subst e0
      rfl
    | malt n p x =>
      refine eq3 (d := 16 ≤ (malts r).length) ?_ (by rw [malts_len]; exact Iff.rfl) (by show _ ↔ decide (16 ≤ (malts r).length) = true; rw [decide_eq_true_eq])
      show (if (1 : Nat) = 2 then _ else (ofRank 1 r).any fun y => lname y == n) = _
      rw [if_neg (by decide)]
      exact (malts_names n r).symm
    | hop n p a t =>
      refine eq3 (d := 16 ≤ (hops r).length) ?_ (by rw [hops_len]; exact Iff.rfl) (by show _ ↔ decide (16 ≤ (hops r).length) = true; rw [decide_eq_true_eq])
      show (if (2 : Nat) = 2 then hopClash (.hop n p a t) (ofRank 2 r) else _) = _
      rw [if_pos rfl]
      show (_ || _) = (_ || _)
      rw [Bool.or_comm]
      exact congr (congrArg or (hops_names n t r).symm) (hops_last r t).symm
    | add n g =>
      refine eq3 (d := 16 ≤ (adds r).length) ?_ (by rw [adds_len]; exact Iff.rfl) (by show _ ↔ decide (16 ≤ (adds r).length) = true; rw [decide_eq_true_eq])
      show (if (3 : Nat) = 2 then _ else (ofRank 3 r).any fun y => lname y == n) = _
      rw [if_neg (by decide)]
      exact (adds_names n r).symm
    | yeast u =>
      have e0 := rank_none (no_yeast F st)
      show (if clashM (.yeast u) (ofRank 4 r) = true then 4 else if 16 ≤ (ofRank 4 r).length then 2 else 0) = 0
      rw [e0]
      rfl
  · rw [if_pos h, if_pos (decide_eq_false h)]
theorem rank_snoc (k : Nat) (r : Recipe) (x : Line) : ofRank k (r ++ [x]) = ofRank k r ++ (if x.rank = k then [x] else []) := by
  unfold ofRank
  rw [List.filter_append]
  congr 1
  by_cases h : x.rank = k
  · rw [if_pos h]; simp [h]
  · rw [if_neg h]; simp [h]
theorem bef_snoc (r : Recipe) (x : Line) : bef (r ++ [x]) = kindN x.rank := by
  unfold bef
  rw [List.getLast?_concat]
/-! ### The answers -/
def refusal (t : Bytes) : List Int := if 16384 < t.length then [-2] else match readRecipe t with
  | .ok _ => []
  | .error e => [-6, (e.1 : Int), (e.2 : Int)]
theorem ofRecipe_is (t : Bytes) (f : Recipe → Wqatdl.Ans) : Wqatdl.ofRecipe t f = if 16384 < t.length then Wqatdl.MUCH else match readRecipe t with
    | .ok r => f r
    | .error e => Wqatdl.faultAt e := rfl
theorem judge_is (ns : List Int) : PyWqatdl.judge ns = if refusal (WqatdlNeutral.bytes ns) ≠ [] then refusal (WqatdlNeutral.bytes ns) else [0] := by
  show (Wqatdl.ofRecipe (WqatdlNeutral.bytes ns) fun _ => Wqatdl.says 0).ret :: (Wqatdl.ofRecipe (WqatdlNeutral.bytes ns) fun _ => Wqatdl.says 0).nums.map WqatdlNeutral.int = _
  rw [ofRecipe_is]
  unfold refusal
  by_cases h : 16384 < (WqatdlNeutral.bytes ns).length
  · simp only [if_pos h]; rfl
  · simp only [if_neg h]
    cases readRecipe (WqatdlNeutral.bytes ns) with
    | ok r => rfl
    | error e => rfl
end My

namespace My
open Br
/-! ### What a recipe that was read is like -/
inductive Ch : Recipe → Prop
  | nil : Ch []
  | snoc {r : Recipe} {x : Line} : Ch r → x.ok = true → wrongOf r x = 0 → Ch (r ++ [x])
theorem Ch.fine {r : Recipe} (h : Ch r) : Fine r := by
  induction h with
  | nil => exact fine_nil
  | snoc _ _ hw ih => exact fine_snoc ih hw
theorem go_ch : ∀ (ls : List Bytes) (k : Nat) (r : Recipe) (rest : Bytes) (r' : Recipe), Ch r → goF k r ls rest = .ok r' → Ch r' ∧ ends r' = true
  | [], k, r, rest, r', hc, h => by
    unfold goF at h
    split at h
    · cases h
    · split at h
      · rename_i e
        cases h
        exact ⟨hc, e⟩
      · cases h
  | b :: l, k, r, rest, r', hc, h => by
    unfold goF at h
    cases hl : lineIn b with
    | none => rw [hl] at h; cases h
    | some x =>
      rw [hl] at h
      dsimp only at h
      split at h
      · rename_i hw
        exact go_ch l (k + 1) (r ++ [x]) rest r' (.snoc hc (lineIn_some hl).1 hw) h
      · cases h
theorem read_ch {t : Bytes} {r : Recipe} (h : readRecipe t = .ok r) : Ch r ∧ ends r = true := by
  rw [read_go] at h
  exact go_ch _ _ _ _ _ .nil h
theorem Ch.all_ok {r : Recipe} (h : Ch r) : ∀ x ∈ r, x.ok = true := by
  induction h with
  | nil => intro x hx; cases hx
  | snoc _ ho _ ih =>
    intro x hx
    rcases List.mem_append.mp hx with q | q
    · exact ih x q
    · rw [List.mem_singleton.mp q]; exact ho
theorem wrong_parts {r : Recipe} {x : Line} (h : wrongOf r x = 0) : stands r x = true ∧ clashes r x = false ∧ tooMany r x = false := by
  unfold wrongOf at h
  split at h
  · cases h
  · rename_i h1
    split at h
    · cases h
    · rename_i h2
      split at h
      · cases h
      · rename_i h3
        exact ⟨by simpa using h1, by simpa using h2, by simpa using h3⟩
theorem malts_snoc (r : Recipe) (x : Line) : malts (r ++ [x]) = malts r ++ malts [x] := List.filterMap_append
theorem hops_snoc (r : Recipe) (x : Line) : hops (r ++ [x]) = hops r ++ hops [x] := List.filterMap_append
theorem adds_snoc (r : Recipe) (x : Line) : adds (r ++ [x]) = adds r ++ adds [x] := List.filterMap_append
theorem Ch.malts16 {r : Recipe} (h : Ch r) : (malts r).length ≤ 16 := by
  induction h with
  | nil => decide
  | @snoc r x _ _ hw ih =>
    rw [malts_snoc, List.length_append]
    cases x with
    | malt n p x =>
      have := (wrong_parts hw).2.2
      have h2 : decide (16 ≤ (malts r).length) = false := this
      have h3 := of_decide_eq_false h2
      show (malts r).length + 1 ≤ 16
      omega
    | _ => exact ih
theorem Ch.hops16 {r : Recipe} (h : Ch r) : (hops r).length ≤ 16 := by
  induction h with
  | nil => decide
  | @snoc r x _ _ hw ih =>
    rw [hops_snoc, List.length_append]
    cases x with
    | hop n p a t =>
      have := (wrong_parts hw).2.2
      have h2 : decide (16 ≤ (hops r).length) = false := this
      have h3 := of_decide_eq_false h2
      show (hops r).length + 1 ≤ 16
      omega
    | _ => exact ih
theorem Ch.adds16 {r : Recipe} (h : Ch r) : (adds r).length ≤ 16 := by
  induction h with
  | nil => decide
  | @snoc r x _ _ hw ih =>
    rw [adds_snoc, List.length_append]
    cases x with
    | add n g =>
      have := (wrong_parts hw).2.2
      have h2 : decide (16 ≤ (adds r).length) = false := this
      have h3 := of_decide_eq_false h2
      show (adds r).length + 1 ≤ 16
      omega
    | _ => exact ih
/-- no two malts, no two adds of one name; no two hops of one name and minutes -/
theorem Ch.maltsND {r : Recipe} (h : Ch r) : ((malts r).map (·.1)).Nodup := by
  induction h with
  | nil => exact List.nodup_nil
  | @snoc r x _ _ hw ih =>
    rw [malts_snoc, List.map_append]
    cases x with
    | malt n p x =>
      have hc : ((malts r).any fun m => m.1 == n) = false := (wrong_parts hw).2.1
      show ((malts r).map (·.1) ++ [n]).Nodup
      rw [List.nodup_append]
      refine ⟨ih, by simp, fun a ha b hb => ?_⟩
      obtain ⟨m, hm, rfl⟩ := List.mem_map.mp ha
      rw [List.mem_singleton.mp hb]
      have := List.any_eq_false.mp hc m hm
      simpa using this
    | _ =>
      have h0 : ((malts r).map (fun (m : Name × Nat × Nat) => m.1) ++ ([] : List Name)).Nodup := by
        rw [List.append_nil]
        exact ih
      exact h0
theorem Ch.addsND {r : Recipe} (h : Ch r) : ((adds r).map (·.1)).Nodup := by
  induction h with
  | nil => exact List.nodup_nil
  | @snoc r x _ _ hw ih =>
    rw [adds_snoc, List.map_append]
    cases x with
    | add n g =>
      have hc : ((adds r).any fun m => m.1 == n) = false := (wrong_parts hw).2.1
      show ((adds r).map (·.1) ++ [n]).Nodup
      rw [List.nodup_append]
      refine ⟨ih, by simp, fun a ha b hb => ?_⟩
      obtain ⟨m, hm, rfl⟩ := List.mem_map.mp ha
      rw [List.mem_singleton.mp hb]
      have := List.any_eq_false.mp hc m hm
      simpa using this
    | _ =>
      have h0 : ((adds r).map (fun (m : Name × Nat) => m.1) ++ ([] : List Name)).Nodup := by
        rw [List.append_nil]
        exact ih
      exact h0
theorem Ch.hopsND {r : Recipe} (h : Ch r) : ((hops r).map fun m => (m.1, m.2.2.2)).Nodup := by
  induction h with
  | nil => exact List.nodup_nil
  | @snoc r x _ _ hw ih =>
    rw [hops_snoc, List.map_append]
    cases x with
    | hop n p a t =>
      have hc := (wrong_parts hw).2.1
      have hc2 : ((hops r).any fun m => m.1 == n && m.2.2.2 == t) = false := (Bool.or_eq_false_iff.mp hc).1
      show ((hops r).map (fun m => (m.1, m.2.2.2)) ++ [(n, t)]).Nodup
      rw [List.nodup_append]
      refine ⟨ih, by simp, fun a ha b hb => ?_⟩
      obtain ⟨m, hm, rfl⟩ := List.mem_map.mp ha
      rw [List.mem_singleton.mp hb]
      have := List.any_eq_false.mp hc2 m hm
      intro z
      have z1 := congrArg Prod.fst z
      have z2 := congrArg Prod.snd z
      simp only at z1 z2
      simp [z1, z2] at this
    | _ =>
      have h0 : ((hops r).map (fun (m : Name × Nat × Nat × Nat) => (m.1, m.2.2.2)) ++ ([] : List (Name × Nat))).Nodup := by
        rw [List.append_nil]
        exact ih
      exact h0
theorem Ch.has_malt {r : Recipe} (h : Ch r) : (∃ y ∈ r, 1 ≤ y.rank) → malts r ≠ [] := by
  induction h with
  | nil => rintro ⟨y, hy, _⟩; cases hy
  | @snoc r x hc _ hw ih =>
    intro _
    rw [malts_snoc]
    have st := (wrong_parts hw).1
    cases x with
    | malt n p x => exact List.append_ne_nil_of_right_ne_nil _ (by show [(n, p, x)] ≠ []; simp)
    | recipe n =>
      rename_i hex
      obtain ⟨y, hy, h1⟩ := hex
      rcases List.mem_append.mp hy with q | q
      · exact List.append_ne_nil_of_left_ne_nil (ih ⟨y, q, h1⟩) _
      · rw [List.mem_singleton.mp q] at h1
        exact absurd h1 (by show ¬ 1 ≤ 0; decide)
    | _ =>
      refine List.append_ne_nil_of_left_ne_nil (ih ?_) _
      unfold stands at st
      cases e : r.getLast? with
      | none => rw [e] at st; cases st
      | some y =>
        rw [e] at st
        refine ⟨y, List.mem_of_getLast? e, ?_⟩
        cases y with
        | recipe m => cases st
        | _ => simp [Line.rank]
theorem ends_yeast {r : Recipe} (h : Ch r) (he : ends r = true) : ∃ r0 u, r = r0 ++ [.yeast u] ∧ (∀ y ∈ r0, y.rank ≠ 4) ∧ Ch r0 ∧ (Line.yeast u).ok = true := by
  cases h with
  | nil => cases he
  | @snoc r0 x hc ho hw =>
    have hn := no_yeast hc.fine (wrong_parts hw).1
    have h4 : x.rank = 4 := by
      unfold ends at he
      rw [List.any_append] at he
      have : (r0.any fun l => l.rank == 4) = false := by
        rw [List.any_eq_false]
        intro y hy
        simpa using hn y hy
      rw [this] at he
      simpa using he
    cases x with
    | yeast u => exact ⟨r0, u, rfl, hn, hc, ho⟩
    | _ => cases h4
theorem yeast_of : ∀ {r0 : Recipe} {u : Nat}, (∀ y ∈ r0, y.rank ≠ 4) → yeastOf (r0 ++ [.yeast u]) = u
  | [], u, _ => rfl
  | l :: r, u, h => by
    have ih := yeast_of (r0 := r) (u := u) fun y hy => h y (List.mem_cons_of_mem _ hy)
    have hl := h l (List.mem_cons_self ..)
    cases l with
    | yeast v => exact absurd rfl hl
    | _ => exact ih
theorem yeast_rank {r0 : Recipe} {u : Nat} (h : ∀ y ∈ r0, y.rank ≠ 4) : ofRank 4 (r0 ++ [.yeast u]) = [.yeast u] := by
  rw [rank_snoc, rank_none h]
  rfl
theorem read_malts {t : Bytes} {r : Recipe} (h : readRecipe t = .ok r) : malts r ≠ [] := by
  obtain ⟨hc, he⟩ := read_ch h
  obtain ⟨r0, u, rfl, _⟩ := ends_yeast hc he
  exact hc.has_malt ⟨.yeast u, by simp, by show 1 ≤ 4; decide⟩
/-- the lines of a kind are the spec's lists -/
def mkMalt (m : Name × Nat × Nat) : Line := .malt m.1 m.2.1 m.2.2
def mkHop (m : Name × Nat × Nat × Nat) : Line := .hop m.1 m.2.1 m.2.2.1 m.2.2.2
def mkAdd (m : Name × Nat) : Line := .add m.1 m.2
theorem rank1 : ∀ r : Recipe, ofRank 1 r = (malts r).map mkMalt
  | [] => rfl
  | l :: r => by
    have ih := rank1 r
    cases l with
    | malt n p x => exact congrArg (Line.malt n p x :: ·) ih
    | _ => exact ih
theorem rank2 : ∀ r : Recipe, ofRank 2 r = (hops r).map mkHop
  | [] => rfl
  | l :: r => by
    have ih := rank2 r
    cases l with
    | hop n p a t => exact congrArg (Line.hop n p a t :: ·) ih
    | _ => exact ih
theorem rank3 : ∀ r : Recipe, ofRank 3 r = (adds r).map mkAdd
  | [] => rfl
  | l :: r => by
    have ih := rank3 r
    cases l with
    | add n g => exact congrArg (Line.add n g :: ·) ih
    | _ => exact ih
/-- the bounds of what stands in a recipe -/
theorem malt_bounds {r : Recipe} (h : Ch r) {m : Name × Nat × Nat} (hm : m ∈ malts r) : nameOk m.1 = true ∧ (1 ≤ m.2.1 ∧ m.2.1 ≤ 10000) ∧ 1 ≤ m.2.2 ∧ m.2.2 ≤ 850 := by
  obtain ⟨l, hl, e⟩ := List.mem_filterMap.mp hm
  have ho := h.all_ok l hl
  cases l with
  | malt n p x =>
    cases e
    have h' : nameOk n = true ∧ within 1 10000 p = true ∧ within 1 850 x = true := by simpa [Line.ok] using ho
    exact ⟨h'.1, within_iff.mp h'.2.1, within_iff.mp h'.2.2⟩
  | _ => cases e
theorem hop_bounds {r : Recipe} (h : Ch r) {m : Name × Nat × Nat × Nat} (hm : m ∈ hops r) : nameOk m.1 = true ∧ (1 ≤ m.2.1 ∧ m.2.1 ≤ 10000) ∧ (1 ≤ m.2.2.1 ∧ m.2.2.1 ≤ 2500) ∧ m.2.2.2 ≤ 120 := by
  obtain ⟨l, hl, e⟩ := List.mem_filterMap.mp hm
  have ho := h.all_ok l hl
  cases l with
  | hop n p a t =>
    cases e
    have h' : nameOk n = true ∧ within 1 10000 p = true ∧ within 1 2500 a = true ∧ t ≤ 120 := by simpa [Line.ok] using ho
    exact ⟨h'.1, within_iff.mp h'.2.1, within_iff.mp h'.2.2.1, h'.2.2.2⟩
  | _ => cases e
theorem add_bounds {r : Recipe} (h : Ch r) {m : Name × Nat} (hm : m ∈ adds r) : nameOk m.1 = true ∧ 1 ≤ m.2 ∧ m.2 ≤ 100000 := by
  obtain ⟨l, hl, e⟩ := List.mem_filterMap.mp hm
  have ho := h.all_ok l hl
  cases l with
  | add n g =>
    cases e
    have h' : nameOk n = true ∧ within 1 100000 g = true := by simpa [Line.ok] using ho
    exact ⟨h'.1, within_iff.mp h'.2⟩
  | _ => cases e
end My

namespace My
open Br
/-! ### Scaled grams: their places, their bounds -/
def over (ps : List Nat) (w : Nat) : Nat := w - (ps.map fun p => w * p / ps.sum).sum
theorem scaled_eq {ps : List Nat} (h : ps.sum ≠ 0) (w : Nat) : scaled ps w = (List.range ps.length).map fun i => w * ps.getD i 0 / ps.sum + if goesBefore ps w i < over ps w then 1 else 0 := by
  unfold scaled
  rw [if_neg h]
  rfl
theorem scaled_len (ps : List Nat) (w : Nat) : (scaled ps w).length = ps.length := by
  by_cases h : ps.sum = 0
  · unfold scaled
    rw [if_pos h, List.length_map]
  · rw [scaled_eq h, List.length_map, List.length_range]
theorem scaled_at {ps : List Nat} (h : ps.sum ≠ 0) {w i p : Nat} (hp : ps[i]? = some p) : (scaled ps w)[i]? = some (w * p / ps.sum + if goesBefore ps w i < over ps w then 1 else 0) := by
  have hi : i < ps.length := (List.getElem?_eq_some_iff.mp hp).1
  rw [scaled_eq h, List.getElem?_map, List.getElem?_range hi]
  have : ps.getD i 0 = p := by rw [List.getD_eq_getElem?_getD, hp]; rfl
  show some (w * ps.getD i 0 / ps.sum + _) = _
  rw [this]
theorem scaled_bounds {ps : List Nat} (h : ps.sum ≠ 0) {w i p g : Nat} (hp : ps[i]? = some p) (hg : (scaled ps w)[i]? = some g) : ps.sum * g ≤ w * p + ps.sum ∧ w * p ≤ ps.sum * g + ps.sum := by
  rw [scaled_at h hp] at hg
  have e := Option.some.inj hg
  have h1 := Nat.div_add_mod (w * p) ps.sum
  have h2 := Nat.mod_lt (w * p) (Nat.pos_of_ne_zero h)
  rw [← e, Nat.mul_add]
  generalize ps.sum * (w * p / ps.sum) = q at *
  split <;> omega
/-- sums of grams times extracts -/
theorem sum_bounds (P w : Nat) : ∀ (gs : List Nat) (ms : List (Name × Nat × Nat)), gs.length = ms.length → (∀ (i g : Nat) (m : Name × Nat × Nat), gs[i]? = some g → ms[i]? = some m → P * g ≤ w * m.2.1 + P ∧ w * m.2.1 ≤ P * g + P) →
    P * (List.zipWith (fun (g : Nat) (m : Name × Nat × Nat) => g * m.2.2) gs ms).sum ≤ w * (ms.map fun m => m.2.1 * m.2.2).sum + P * (ms.map fun m => m.2.2).sum ∧
    w * (ms.map fun m => m.2.1 * m.2.2).sum ≤ P * (List.zipWith (fun (g : Nat) (m : Name × Nat × Nat) => g * m.2.2) gs ms).sum + P * (ms.map fun m => m.2.2).sum
  | [], [], _, _ => by simp
  | [], m :: ms, h, _ => by simp at h
  | g :: gs, [], h, _ => by simp at h
  | g :: gs, m :: ms, h, hb => by
    have ih := sum_bounds P w gs ms (by simpa using h) fun i g' m' h1 h2 => hb (i + 1) g' m' h1 h2
    have h0 := hb 0 g m rfl rfl
    simp only [List.zipWith_cons_cons, List.map_cons, List.sum_cons, Nat.mul_add]
    have a1 : P * (g * m.2.2) ≤ w * (m.2.1 * m.2.2) + P * m.2.2 := by
      have := Nat.mul_le_mul_right m.2.2 h0.1
      rw [Nat.add_mul, Nat.mul_assoc, Nat.mul_assoc] at this
      exact this
    have a2 : w * (m.2.1 * m.2.2) ≤ P * (g * m.2.2) + P * m.2.2 := by
      have := Nat.mul_le_mul_right m.2.2 h0.2
      rw [Nat.add_mul, Nat.mul_assoc, Nat.mul_assoc] at this
      exact this
    omega
def mP (r : Recipe) : Nat := ((malts r).map fun (m : Name × Nat × Nat) => m.2.1).sum
def mS (r : Recipe) : Nat := ((malts r).map fun (m : Name × Nat × Nat) => m.2.1 * m.2.2).sum
def mX (r : Recipe) : Nat := ((malts r).map fun (m : Name × Nat × Nat) => m.2.2).sum
theorem extract_bounds {r : Recipe} (hP : mP r ≠ 0) (ml w h : Nat) : mP r * extract r ⟨ml, w, h⟩ ≤ w * mS r + mP r * mX r ∧ w * mS r ≤ mP r * extract r ⟨ml, w, h⟩ + mP r * mX r := by
  refine sum_bounds (mP r) w _ _ ?_ fun i g m h1 h2 => ?_
  · show (scaled _ w).length = _
    rw [scaled_len, List.length_map]
  · have hp : ((malts r).map fun (m : Name × Nat × Nat) => m.2.1)[i]? = some m.2.1 := by rw [List.getElem?_map, h2]; rfl
    exact scaled_bounds hP hp h1
/-! ### The least malt -/
def enoughM (r : Recipe) (ml n d w : Nat) : Prop := n * ml ≤ d * extract r ⟨ml, w, 0⟩
instance (r : Recipe) (ml n d w : Nat) : Decidable (enoughM r ml n d w) := Nat.decLe _ _
theorem from_some (r : Recipe) (ml n d : Nat) : ∀ (k w0 w : Nat), enoughFrom r ml n d k w0 = some w → w0 ≤ w ∧ w ≤ MOST ∧ enoughM r ml n d w ∧ ∀ v, w0 ≤ v → v < w → ¬ enoughM r ml n d v
  | 0, _, _, h => by cases h
  | k + 1, w0, w, h => by
    unfold enoughFrom at h
    by_cases c1 : MOST < w0
    · rw [if_pos c1] at h; cases h
    · rw [if_neg c1] at h
      by_cases c2 : n * ml ≤ d * extract r ⟨ml, w0, 0⟩
      · rw [if_pos c2] at h
        cases h
        exact ⟨Nat.le_refl _, by omega, c2, fun v h1 h2 => by omega⟩
      · rw [if_neg c2] at h
        obtain ⟨h1, h2, h3, h4⟩ := from_some r ml n d k (w0 + 1) w h
        refine ⟨by omega, h2, h3, fun v g1 g2 => ?_⟩
        by_cases e : v = w0
        · rw [e]; exact c2
        · exact h4 v (by omega) g2
theorem from_none (r : Recipe) (ml n d : Nat) : ∀ (k w0 : Nat), enoughFrom r ml n d k w0 = none → ∀ v, w0 ≤ v → v < w0 + k → v ≤ MOST → ¬ enoughM r ml n d v
  | 0, _, _, v, h1, h2, _ => by omega
  | k + 1, w0, h, v, h1, h2, h3 => by
    unfold enoughFrom at h
    by_cases c1 : MOST < w0
    · omega
    · rw [if_neg c1] at h
      by_cases c2 : n * ml ≤ d * extract r ⟨ml, w0, 0⟩
      · rw [if_pos c2] at h; cases h
      · rw [if_neg c2] at h
        by_cases e : v = w0
        · rw [e]; exact c2
        · exact from_none r ml n d k (w0 + 1) h v (by omega) (by omega) h3
theorem lo_le {r : Recipe} (hP : mP r ≠ 0) (hS : mS r ≠ 0) {ml n d w : Nat} (hd : d ≠ 0) (h : enoughM r ml n d w) : (n * ml - d * mX r) * mP r / (d * mS r) ≤ w := by
  have hb := (extract_bounds hP ml w 0).1
  have h' : n * ml ≤ d * extract r ⟨ml, w, 0⟩ := h
  have h1 : n * ml * mP r ≤ d * (w * mS r + mP r * mX r) := by
    have e1 := Nat.mul_le_mul_right (mP r) h'
    have e2 := Nat.mul_le_mul_left d hb
    have e4 : d * extract r ⟨ml, w, 0⟩ * mP r = d * (mP r * extract r ⟨ml, w, 0⟩) := by rw [Nat.mul_assoc, Nat.mul_comm (extract r ⟨ml, w, 0⟩)]
    omega
  have h2 : (n * ml - d * mX r) * mP r ≤ (d * mS r) * w := by
    rw [Nat.sub_mul]
    have e3 : d * (w * mS r + mP r * mX r) = d * mS r * w + d * mX r * mP r := by
      rw [Nat.mul_add, Nat.mul_comm w, Nat.mul_assoc, Nat.mul_comm (mP r), Nat.mul_assoc]
    omega
  exact Nat.div_le_of_le_mul h2
theorem hi_ok {r : Recipe} (hP : mP r ≠ 0) (hS : mS r ≠ 0) {ml n d : Nat} (hd : d ≠ 0) : enoughM r ml n d ((n * ml + d * mX r) * mP r / (d * mS r) + 1) := by
  have hD : 0 < d * mS r := Nat.mul_pos (Nat.pos_of_ne_zero hd) (Nat.pos_of_ne_zero hS)
  have hw := Nat.lt_mul_div_succ ((n * ml + d * mX r) * mP r) hD
  generalize (n * ml + d * mX r) * mP r / (d * mS r) + 1 = w at *
  have hb := (extract_bounds hP ml w 0).2
  have e2 := Nat.mul_le_mul_left d hb
  have e3 : d * (w * mS r) = d * mS r * w := by rw [Nat.mul_comm w, Nat.mul_assoc]
  have e4 : d * (mP r * extract r ⟨ml, w, 0⟩ + mP r * mX r) = d * extract r ⟨ml, w, 0⟩ * mP r + d * mX r * mP r := by
    rw [Nat.mul_add, Nat.mul_comm (mP r), Nat.mul_comm (mP r), Nat.mul_assoc, Nat.mul_assoc]
  rw [Nat.add_mul] at hw
  have h5 : n * ml * mP r < d * extract r ⟨ml, w, 0⟩ * mP r := by omega
  exact Nat.le_of_lt (Nat.lt_of_mul_lt_mul_right h5)
theorem least_some {r : Recipe} (hP : mP r ≠ 0) (hS : mS r ≠ 0) {ml n d w : Nat} (hd : d ≠ 0) : leastMalt r ml n d = some w ↔ w ≤ MOST ∧ enoughM r ml n d w ∧ ∀ v, v < w → ¬ enoughM r ml n d v := by
  have hlo := fun v => lo_le (w := v) hP hS (ml := ml) (n := n) hd
  have hhi := hi_ok hP hS (ml := ml) (n := n) hd
  have e : leastMalt r ml n d = enoughFrom r ml n d ((n * ml + d * mX r) * mP r / (d * mS r) + 1 + 1 - (n * ml - d * mX r) * mP r / (d * mS r)) ((n * ml - d * mX r) * mP r / (d * mS r)) := rfl
  rw [e]
  generalize (n * ml - d * mX r) * mP r / (d * mS r) = lo at *
  generalize (n * ml + d * mX r) * mP r / (d * mS r) + 1 = hi at *
  have hlh := hlo hi hhi
  constructor
  · intro h
    obtain ⟨h1, h2, h3, h4⟩ := from_some r ml n d _ _ _ h
    refine ⟨h2, h3, fun v hv hc => h4 v (hlo v hc) hv hc⟩
  · rintro ⟨h1, h2, h3⟩
    have hwh : w ≤ hi := Nat.le_of_not_lt fun z => h3 hi z hhi
    cases hf : enoughFrom r ml n d (hi + 1 - lo) lo with
    | none => exact absurd h2 (from_none r ml n d _ _ hf w (hlo w h2) (by omega) h1)
    | some v =>
      obtain ⟨g1, g2, g3, g4⟩ := from_some r ml n d _ _ _ hf
      have : v = w := by
        rcases Nat.lt_trichotomy v w with z | z | z
        · exact absurd g3 (h3 v z)
        · exact z
        · exact absurd h2 (g4 w (hlo w h2) z)
      rw [this]
theorem least_none {r : Recipe} (hP : mP r ≠ 0) (hS : mS r ≠ 0) {ml n d : Nat} (hd : d ≠ 0) : leastMalt r ml n d = none ↔ ∀ w, w ≤ MOST → ¬ enoughM r ml n d w := by
  constructor
  · intro h
    have hlo := fun v => lo_le (w := v) hP hS (ml := ml) (n := n) hd
    have hhi := hi_ok hP hS (ml := ml) (n := n) hd
    have e : leastMalt r ml n d = enoughFrom r ml n d ((n * ml + d * mX r) * mP r / (d * mS r) + 1 + 1 - (n * ml - d * mX r) * mP r / (d * mS r)) ((n * ml - d * mX r) * mP r / (d * mS r)) := rfl
    rw [e] at h
    generalize (n * ml - d * mX r) * mP r / (d * mS r) = lo at *
    generalize (n * ml + d * mX r) * mP r / (d * mS r) + 1 = hi at *
    have hlh := hlo hi hhi
    intro w hw hc
    by_cases c : w ≤ hi
    · exact from_none r ml n d _ _ h w (hlo w hc) (by omega) hw hc
    · exact from_none r ml n d _ _ h hi (hlo hi hhi) (by omega) (by omega) hhi
  · intro h
    cases e : leastMalt r ml n d with
    | none => rfl
    | some w =>
      have := (least_some hP hS hd).mp e
      exact absurd this.2.1 (h w this.1)
theorem read_PS {t : Bytes} {r : Recipe} (h : readRecipe t = .ok r) : mP r ≠ 0 ∧ mS r ≠ 0 := by
  have hne := read_malts h
  have hc := (read_ch h).1
  obtain ⟨m, l, e⟩ := List.exists_cons_of_ne_nil hne
  have hb := malt_bounds hc (m := m) (by rw [e]; exact List.mem_cons_self ..)
  unfold mP mS
  rw [e, List.map_cons, List.map_cons, List.sum_cons, List.sum_cons]
  have : 1 ≤ m.2.1 * m.2.2 := Nat.mul_pos hb.2.1.1 hb.2.2.1
  omega
end My

namespace My
open Br
/-! ### Who gets one more -/
def fr (ps : List Nat) (w i : Nat) : Nat := w * ps.getD i 0 % ps.sum
/-- j goes before i -/
def Bf (ps : List Nat) (w j i : Nat) : Prop := fr ps w i < fr ps w j ∨ (fr ps w i = fr ps w j ∧ j < i)
instance (ps : List Nat) (w j i : Nat) : Decidable (Bf ps w j i) := by unfold Bf; infer_instance
theorem goes_eq (ps : List Nat) (w i : Nat) : goesBefore ps w i = (List.range ps.length).countP fun j => decide (Bf ps w j i) := by
  unfold goesBefore
  rw [← List.countP_eq_length_filter]
  congr 1
  funext j
  show (decide (fr ps w i < fr ps w j) || (fr ps w i == fr ps w j && decide (j < i))) = decide (Bf ps w j i)
  rw [Bool.eq_iff_iff, decide_eq_true_iff, Bool.or_eq_true, Bool.and_eq_true, decide_eq_true_iff, decide_eq_true_iff, beq_iff_eq]
  exact Iff.rfl
theorem count_lt {p q : Nat → Bool} : ∀ {l : List Nat}, (∀ x ∈ l, p x = true → q x = true) → (∃ x ∈ l, q x = true ∧ p x = false) → l.countP p < l.countP q
  | [], _, h => by obtain ⟨x, hx, _⟩ := h; cases hx
  | a :: l, h, hx => by
    have hm : l.countP p ≤ l.countP q := List.countP_mono_left fun x hx hp => h x (List.mem_cons_of_mem _ hx) hp
    rw [List.countP_cons, List.countP_cons]
    obtain ⟨x, hx, h1, h2⟩ := hx
    rcases List.mem_cons.mp hx with e | e
    · subst e
      rw [h1, h2]
      simp
      omega
    · have ih := count_lt (p := p) (q := q) (l := l) (fun y hy => h y (List.mem_cons_of_mem _ hy)) ⟨x, e, h1, h2⟩
      have h0 := h a (List.mem_cons_self ..)
      cases hp : p a with
      | false => simp; split <;> omega
      | true => rw [h0 hp]; simp; omega
theorem Bf.trans {ps : List Nat} {w a b c : Nat} (h1 : Bf ps w a b) (h2 : Bf ps w b c) : Bf ps w a c := by
  unfold Bf at *
  omega
theorem Bf.irrefl {ps : List Nat} {w a : Nat} : ¬ Bf ps w a a := by
  unfold Bf
  omega
theorem Bf.total {ps : List Nat} {w a b : Nat} (h : a ≠ b) : Bf ps w a b ∨ Bf ps w b a := by
  unfold Bf
  omega
theorem goes_lt {ps : List Nat} {w j i : Nat} (hj : j < ps.length) (h : Bf ps w j i) : goesBefore ps w j < goesBefore ps w i := by
  rw [goes_eq, goes_eq]
  refine count_lt (fun x _ hx => ?_) ⟨j, List.mem_range.mpr hj, ?_, ?_⟩
  · exact decide_eq_true ((of_decide_eq_true hx).trans h)
  · exact decide_eq_true h
  · exact decide_eq_false Bf.irrefl
theorem goes_iff {ps : List Nat} {w j i : Nat} (hj : j < ps.length) (hi : i < ps.length) : goesBefore ps w j < goesBefore ps w i ↔ Bf ps w j i := by
  constructor
  · intro h
    by_cases e : j = i
    · rw [e] at h; omega
    · rcases Bf.total (ps := ps) (w := w) e with q | q
      · exact q
      · have := goes_lt hi q
        omega
  · exact goes_lt hj
theorem goes_inj {ps : List Nat} {w j i : Nat} (hj : j < ps.length) (hi : i < ps.length) (h : goesBefore ps w j = goesBefore ps w i) : j = i := by
  by_cases e : j = i
  · exact e
  · rcases Bf.total (ps := ps) (w := w) e with q | q
    · have := goes_lt hj q; omega
    · have := goes_lt hi q; omega
theorem goes_bound {ps : List Nat} {w i : Nat} (hi : i < ps.length) : goesBefore ps w i < ps.length := by
  rw [goes_eq]
  have h : (List.range ps.length).countP (fun j => decide (Bf ps w j i)) < (List.range ps.length).countP (fun _ => true) :=
    count_lt (fun _ _ _ => rfl) ⟨i, List.mem_range.mpr hi, rfl, decide_eq_false Bf.irrefl⟩
  rw [List.countP_true, List.length_range] at h
  exact h
/-! ### How many grams are left over -/
theorem div_mod_sum (w P : Nat) : ∀ ps : List Nat, P * (ps.map fun p => w * p / P).sum + (ps.map fun p => w * p % P).sum = w * ps.sum
  | [] => rfl
  | p :: ps => by
    have ih := div_mod_sum w P ps
    have h := Nat.div_add_mod (w * p) P
    simp only [List.map_cons, List.sum_cons, Nat.mul_add]
    omega
theorem mod_sum_lt {w P : Nat} (hP : P ≠ 0) : ∀ ps : List Nat, ps ≠ [] → (ps.map fun p => w * p % P).sum < P * ps.length
  | [], h => absurd rfl h
  | p :: ps, _ => by
    have h := Nat.mod_lt (w * p) (Nat.pos_of_ne_zero hP)
    rw [List.map_cons, List.sum_cons, List.length_cons, Nat.mul_add, Nat.mul_one]
    cases ps with
    | nil => simp; exact h
    | cons q r =>
      have ih := mod_sum_lt hP (w := w) (q :: r) (by simp)
      omega
theorem floors_le {ps : List Nat} (h : ps.sum ≠ 0) (w : Nat) : (ps.map fun p => w * p / ps.sum).sum ≤ w := by
  have e := div_mod_sum w ps.sum ps
  have e2 : ps.sum * (ps.map fun p => w * p / ps.sum).sum ≤ ps.sum * w := by
    rw [Nat.mul_comm ps.sum w]
    omega
  exact Nat.le_of_mul_le_mul_left e2 (Nat.pos_of_ne_zero h)
theorem over_mul {ps : List Nat} (h : ps.sum ≠ 0) (w : Nat) : ps.sum * over ps w = (ps.map fun p => w * p % ps.sum).sum := by
  have e := div_mod_sum w ps.sum ps
  have hf := floors_le h w
  unfold over
  rw [Nat.mul_sub, Nat.mul_comm ps.sum w]
  omega
theorem over_lt {ps : List Nat} (h : ps.sum ≠ 0) (w : Nat) : over ps w < ps.length := by
  have ne : ps ≠ [] := fun z => h (by rw [z]; rfl)
  have e := over_mul h w
  have l := mod_sum_lt h (w := w) ps ne
  rw [← e] at l
  exact Nat.lt_of_mul_lt_mul_left l
/-- whoever gets one more has a fraction above 0 -/
theorem sum_take_zero : ∀ {l : List Nat}, (∀ x ∈ l, x = 0) → l.sum = 0
  | [], _ => rfl
  | a :: l, h => by
    rw [List.sum_cons, h a (List.mem_cons_self ..), sum_take_zero fun x hx => h x (List.mem_cons_of_mem _ hx)]
end My

namespace My
open Br
open WqatdlNeutral (bytes)
/-! ### The answers of the later calls: a refusal of the text first, then what the recipe gives -/
def onText (t : Bytes) (f : Recipe → List Int) : List Int := if refusal t ≠ [] then refusal t else match readRecipe t with
  | .ok r => f r
  | .error _ => []
def flat (a : Wqatdl.Ans) : List Int := a.ret :: a.nums.map WqatdlNeutral.int
theorem flat_ofRecipe (t : Bytes) (f : Recipe → Wqatdl.Ans) : flat (Wqatdl.ofRecipe t f) = onText t fun r => flat (f r) := by
  rw [ofRecipe_is]
  unfold onText refusal
  by_cases h : 16384 < t.length
  · simp only [if_pos h]; rfl
  · simp only [if_neg h]
    cases readRecipe t with
    | ok r => rfl
    | error e => rfl
def lineM (i : Nat) (r : Recipe) : List Int := match (Wqatdl.things r)[i]? with
  | some x => 0 :: (((x.1 : Nat) : Int) :: (x.2.2.map fun (n : Nat) => (n : Int)) ++ ((x.2.1.length : Int) :: x.2.1.map fun c => ((c.toNat : Nat) : Int)))
  | none => [-4]
theorem line_is (i : Int) (ns : List Int) : PyWqatdl.line i ns = onText (bytes ns) (lineM i.toNat) := by
  show flat (Wqatdl.ofRecipe (bytes ns) fun r => match (Wqatdl.things r)[i.toNat]? with
    | some x => Wqatdl.tell 0 (x.1 :: (x.2.2 ++ (x.2.1.length :: x.2.1.map fun (c : UInt8) => c.toNat)))
    | none => Wqatdl.NO) = _
  rw [flat_ofRecipe]
  congr 1
  funext r
  unfold lineM
  cases (Wqatdl.things r)[i.toNat]? with
  | none => rfl
  | some x =>
    show (0 : Int) :: ((x.1 :: (x.2.2 ++ (x.2.1.length :: x.2.1.map fun (c : UInt8) => c.toNat))).map WqatdlNeutral.int) = _
    rw [List.map_cons, List.map_append, List.map_cons, List.map_map]
    rfl
def batch (ml malt hops : Int) : Batch := ⟨ml.toNat, malt.toNat, hops.toNat⟩
def scaleM (b : Batch) (r : Recipe) : List Int := if batchOk r b = false then [-1] else 0 :: (Wqatdl.grams r b).map fun (n : Nat) => (n : Int)
theorem scale_is (ml malt hops : Int) (ns : List Int) : PyWqatdl.scale ml malt hops ns = onText (bytes ns) (scaleM (batch ml malt hops)) := by
  show flat (Wqatdl.ofRecipe (bytes ns) fun r => if batchOk r (batch ml malt hops) = false then Wqatdl.BAD else Wqatdl.tell 0 (Wqatdl.grams r (batch ml malt hops))) = _
  rw [flat_ofRecipe]
  congr 1
  funext r
  unfold scaleM
  by_cases h : batchOk r (batch ml malt hops) = false
  · rw [if_pos h, if_pos h]; rfl
  · rw [if_neg h, if_neg h]; rfl
def tellsM (b : Batch) (r : Recipe) : List Int := if batchOk r b = false then [-1] else 0 :: (Wqatdl.fracs [gravity r b, bitter r b, strength r b]).map fun (n : Nat) => (n : Int)
theorem tells_is (ml malt hops : Int) (ns : List Int) : PyWqatdl.tells ml malt hops ns = onText (bytes ns) (tellsM (batch ml malt hops)) := by
  show flat (Wqatdl.ofRecipe (bytes ns) fun r => if batchOk r (batch ml malt hops) = false then Wqatdl.BAD else Wqatdl.tell 0 (Wqatdl.fracs [gravity r (batch ml malt hops), bitter r (batch ml malt hops), strength r (batch ml malt hops)])) = _
  rw [flat_ofRecipe]
  congr 1
  funext r
  unfold tellsM
  by_cases h : batchOk r (batch ml malt hops) = false
  · rw [if_pos h, if_pos h]; rfl
  · rw [if_neg h, if_neg h]; rfl
def maltM (ml n d : Nat) (r : Recipe) : List Int := if within 1 MOST ml = false ∨ d = 0 then [-1] else match leastMalt r ml n d with
  | some w => [0, (w : Int)]
  | none => [-3]
theorem malt_is (ml n d : Int) (ns : List Int) : PyWqatdl.malt ml n d ns = onText (bytes ns) (maltM ml.toNat n.toNat d.toNat) := by
  show flat (Wqatdl.ofRecipe (bytes ns) fun r => if within 1 MOST ml.toNat = false ∨ d.toNat = 0 then Wqatdl.BAD else match leastMalt r ml.toNat n.toNat d.toNat with
    | some w => Wqatdl.tell 0 [w]
    | none => Wqatdl.NONE) = _
  rw [flat_ofRecipe]
  congr 1
  funext r
  unfold maltM
  by_cases h : within 1 MOST ml.toNat = false ∨ d.toNat = 0
  · rw [if_pos h, if_pos h]; rfl
  · rw [if_neg h, if_neg h]
    cases leastMalt r ml.toNat n.toNat d.toNat with
    | none => rfl
    | some w => rfl
theorem like_is (ns ms : List Int) : PyWqatdl.like ns ms = if 16384 < (bytes ns).length ∨ 16384 < (bytes ms).length then [-2] else match readRecipe (bytes ns), readRecipe (bytes ms) with
    | .error e, _ => [-6, (e.1 : Int), (e.2 : Int)]
    | .ok _, .error e => [-6, (e.1 : Int), ((e.2 + 16 : Nat) : Int)]
    | .ok r, .ok q => [if Br.like r q = true then 1 else 0] := by
  show flat (if 16384 < (bytes ns).length ∨ 16384 < (bytes ms).length then Wqatdl.MUCH else match readRecipe (bytes ns), readRecipe (bytes ms) with
    | .error e, _ => Wqatdl.faultAt e
    | .ok _, .error e => Wqatdl.faultAt (e.1, e.2 + 16)
    | .ok r, .ok q => Wqatdl.says (if Br.like r q = true then 1 else 0)) = _
  by_cases h : 16384 < (bytes ns).length ∨ 16384 < (bytes ms).length
  · rw [if_pos h, if_pos h]; rfl
  · rw [if_neg h, if_neg h]
    cases readRecipe (bytes ns) with
    | error e => rfl
    | ok r =>
      cases readRecipe (bytes ms) with
      | error e => rfl
      | ok q => rfl
end My

namespace My
open Br
/-! ### line: malts, hops, adds in a row -/
def told (r : Recipe) : List Line := ofRank 1 r ++ (ofRank 2 r ++ ofRank 3 r)
def tellM (x : Line) : List Nat := (x.rank - 1) :: (lnums x ++ (List.replicate (3 - (lnums x).length) 0 ++ ((lname x).length :: codes (lname x))))
theorem things_is (r : Recipe) : Wqatdl.things r = (told r).map fun x => (x.rank - 1, lname x, lnums x ++ List.replicate (3 - (lnums x).length) 0) := by
  unfold told Wqatdl.things
  rw [rank1, rank2, rank3, List.map_append, List.map_append, List.map_map, List.map_map, List.map_map]
  rfl
theorem line_told (i : Nat) (r : Recipe) : lineM i r = match (told r)[i]? with
    | some x => 0 :: (tellM x).map fun (n : Nat) => (n : Int)
    | none => [-4] := by
  unfold lineM
  rw [things_is, List.getElem?_map]
  cases (told r)[i]? with
  | none => rfl
  | some x =>
    show (0 : Int) :: ((((x.rank - 1 : Nat) : Int) :: ((lnums x ++ List.replicate (3 - (lnums x).length) 0).map fun (n : Nat) => (n : Int))) ++ (((lname x).length : Int) :: (lname x).map fun c => ((c.toNat : Nat) : Int))) = _
    unfold tellM codes
    simp only [List.map_append, List.map_cons, List.map_map, List.append_assoc, List.cons_append]
    rfl
theorem told_rank {r : Recipe} {x : Line} (h : x ∈ told r) : x.rank = 1 ∨ x.rank = 2 ∨ x.rank = 3 := by
  unfold told ofRank at h
  simp only [List.mem_append, List.mem_filter, beq_iff_eq] at h
  omega
theorem told_in {r : Recipe} {x : Line} (h : x ∈ told r) : x ∈ r := by
  unfold told ofRank at h
  simp only [List.mem_append, List.mem_filter] at h
  rcases h with h | h | h <;> exact h.1
theorem lnums_le (x : Line) : (lnums x).length ≤ 3 := by cases x <;> simp [lnums]
theorem told_name {r : Recipe} (hc : Ch r) {x : Line} (h : x ∈ told r) : (lname x).length ≤ 12 := by
  have ho := hc.all_ok x (told_in h)
  have hn : nameOk (lname x) = true ∨ lname x = [] := by
    cases x with
    | yeast u => exact .inr rfl
    | recipe n => exact .inl ho
    | malt n p y => exact .inl (Bool.and_eq_true_iff.mp ho).1
    | hop n p a t => exact .inl (Bool.and_eq_true_iff.mp ho).1
    | add n g => exact .inl (Bool.and_eq_true_iff.mp ho).1
  rcases hn with h | h
  · exact ((nameOk_iff _).mp h).1.2
  · rw [h]; exact Nat.zero_le _
theorem told_16 {r : Recipe} (hc : Ch r) : (ofRank 1 r).length ≤ 16 ∧ (ofRank 2 r).length ≤ 16 ∧ (ofRank 3 r).length ≤ 16 := by
  rw [← malts_len, ← hops_len, ← adds_len]
  exact ⟨hc.malts16, hc.hops16, hc.adds16⟩
end My

namespace My
open Br
/-! ### Who gets one more: the order by fractions, the greater first, like ones as they stand -/
def leF (ps : List Nat) (w x y : Nat) : Bool := decide (fr ps w y ≤ fr ps w x)
def ordF (ps : List Nat) (w : Nat) : List Nat := (List.range ps.length).mergeSort (leF ps w)
theorem ord_perm (ps : List Nat) (w : Nat) : (ordF ps w).Perm (List.range ps.length) := List.mergeSort_perm _ _
theorem ord_len (ps : List Nat) (w : Nat) : (ordF ps w).length = ps.length := by rw [(ord_perm ps w).length_eq, List.length_range]
theorem ord_nodup (ps : List Nat) (w : Nat) : (ordF ps w).Nodup := (ord_perm ps w).nodup_iff.mpr List.nodup_range
theorem ord_mem {ps : List Nat} {w i : Nat} : i ∈ ordF ps w ↔ i < ps.length := by rw [(ord_perm ps w).mem_iff, List.mem_range]
theorem leF_trans (ps : List Nat) (w : Nat) : ∀ a b c, leF ps w a b = true → leF ps w b c = true → leF ps w a c = true := by
  intro a b c h1 h2
  unfold leF at *
  rw [decide_eq_true_eq] at *
  omega
theorem leF_total (ps : List Nat) (w : Nat) : ∀ a b, (leF ps w a b || leF ps w b a) = true := by
  intro a b
  unfold leF
  rw [Bool.or_eq_true, decide_eq_true_eq, decide_eq_true_eq]
  omega
theorem sub_at {b a : Nat} : ∀ {l : List Nat}, [b, a].Sublist l → ∃ k m : Nat, k < m ∧ l[k]? = some b ∧ l[m]? = some a
  | [], h => by cases h
  | x :: l, h => by
    cases h with
    | cons _ h =>
      obtain ⟨k, m, h1, h2, h3⟩ := sub_at h
      exact ⟨k + 1, m + 1, by omega, h2, h3⟩
    | cons_cons _ h =>
      have hm : a ∈ l := List.singleton_sublist.mp h
      obtain ⟨m, hm⟩ := List.mem_iff_getElem?.mp hm
      exact ⟨0, m + 1, by omega, rfl, hm⟩
theorem lt_sub {b a : Nat} (h : b < a) : ∀ {n : Nat}, a < n → [b, a].Sublist (List.range n)
  | 0, h2 => by omega
  | n + 1, h2 => by
    rw [List.range_succ]
    by_cases e : a < n
    · exact (lt_sub h e).trans (List.sublist_append_left _ _)
    · have ea : a = n := by omega
      subst ea
      have h1 : [b].Sublist (List.range a) := List.singleton_sublist.mpr (List.mem_range.mpr h)
      exact h1.append (List.Sublist.refl [a])
theorem ord_pair (ps : List Nat) (w : Nat) : (ordF ps w).Pairwise (Bf ps w) := by
  have hs : (ordF ps w).Pairwise (fun a b => leF ps w a b = true) := List.pairwise_mergeSort (leF_trans ps w) (leF_total ps w) _
  have nd := ord_nodup ps w
  rw [List.pairwise_iff_getElem] at hs ⊢
  intro i j hi hj hij
  have h1 := hs i j hi hj hij
  unfold leF at h1
  rw [decide_eq_true_eq] at h1
  have ne : (ordF ps w)[i] ≠ (ordF ps w)[j] := fun z => by
    have := (List.getElem_inj nd).mp z
    omega
  by_cases c : fr ps w (ordF ps w)[j] < fr ps w (ordF ps w)[i]
  · exact .inl c
  · have e : fr ps w (ordF ps w)[j] = fr ps w (ordF ps w)[i] := by omega
    refine .inr ⟨e, ?_⟩
    rcases Nat.lt_or_ge (ordF ps w)[i] (ordF ps w)[j] with z | z
    · exact z
    · have hlt : (ordF ps w)[j] < (ordF ps w)[i] := by omega
      have hin : (ordF ps w)[i] < ps.length := ord_mem.mp (List.getElem_mem hi)
      have hsub : [(ordF ps w)[j], (ordF ps w)[i]].Sublist (ordF ps w) := List.pair_sublist_mergeSort (leF_trans ps w) (leF_total ps w) (by unfold leF; rw [decide_eq_true_eq]; omega) (lt_sub hlt hin)
      obtain ⟨k, m, h2, h3, h4⟩ := sub_at hsub
      obtain ⟨lk, ek⟩ := List.getElem?_eq_some_iff.mp h3
      obtain ⟨lm, em⟩ := List.getElem?_eq_some_iff.mp h4
      have := (List.getElem_inj nd).mp ek
      have := (List.getElem_inj nd).mp em
      omega
theorem count_at {R : Nat → Nat → Prop} [DecidableRel R] (as : ∀ x y, R x y → ¬ R y x) : ∀ (l : List Nat), l.Pairwise R → ∀ (j : Nat) (h : j < l.length), (l.countP fun x => decide (R x l[j])) = j
  | [], _, j, h => by simp at h
  | x :: l, hp, j, h => by
    obtain ⟨h1, h2⟩ := List.pairwise_cons.mp hp
    cases j with
    | zero =>
      show ((x :: l).countP fun y => decide (R y x)) = 0
      rw [List.countP_eq_zero]
      intro y hy
      rw [decide_eq_true_eq]
      rcases List.mem_cons.mp hy with e | e
      · rw [e]; exact fun z => as x x z z
      · exact as x y (h1 y e)
    | succ j =>
      have hj : j < l.length := by simpa using h
      show ((x :: l).countP fun y => decide (R y l[j])) = j + 1
      rw [List.countP_cons, count_at as l h2 j hj, if_pos (decide_eq_true (h1 _ (List.getElem_mem hj)))]
theorem goes_at {ps : List Nat} {w j : Nat} (h : j < (ordF ps w).length) : goesBefore ps w (ordF ps w)[j] = j := by
  rw [goes_eq, ← (ord_perm ps w).countP_eq]
  exact count_at (fun x y h1 h2 => Bf.irrefl (h1.trans h2)) _ (ord_pair ps w) j h
theorem mem_take {ps : List Nat} {w i m : Nat} (hi : i < ps.length) : i ∈ (ordF ps w).take m ↔ goesBefore ps w i < m := by
  obtain ⟨j, hj, ej⟩ := List.mem_iff_getElem.mp (ord_mem (w := w).mpr hi)
  have hg : goesBefore ps w i = j := by rw [← ej]; exact goes_at hj
  constructor
  · intro h
    obtain ⟨k, hk, ek⟩ := List.mem_iff_getElem.mp h
    have hk' : k < m ∧ k < (ordF ps w).length := by rw [List.length_take] at hk; omega
    rw [List.getElem_take] at ek
    have := (List.getElem_inj (ord_nodup ps w)).mp (ek.trans ej.symm)
    omega
  · intro h
    rw [hg] at h
    refine List.mem_iff_getElem.mpr ⟨j, by rw [List.length_take]; omega, ?_⟩
    rw [List.getElem_take]
    exact ej
/-- the grams when m of the order have got one more -/
def stg (ps : List Nat) (w m : Nat) : List Nat := (List.range ps.length).map fun i => w * ps.getD i 0 / ps.sum + if i ∈ (ordF ps w).take m then 1 else 0
theorem stg_len (ps : List Nat) (w m : Nat) : (stg ps w m).length = ps.length := by unfold stg; rw [List.length_map, List.length_range]
theorem stg_at {ps : List Nat} {w m i : Nat} (h : i < ps.length) : (stg ps w m)[i]? = some (w * ps.getD i 0 / ps.sum + if i ∈ (ordF ps w).take m then 1 else 0) := by
  unfold stg
  rw [List.getElem?_map, List.getElem?_range h]
  rfl
theorem stg_zero (ps : List Nat) (w : Nat) : stg ps w 0 = ps.map fun p => w * p / ps.sum := by
  apply List.ext_getElem?
  intro i
  by_cases h : i < ps.length
  · rw [stg_at h, List.getElem?_map, List.getElem?_eq_getElem h]
    have e : ps.getD i 0 = ps[i] := by rw [List.getD_eq_getElem?_getD, List.getElem?_eq_getElem h]; rfl
    rw [e]
    rfl
  · rw [List.getElem?_eq_none (by rw [stg_len]; omega), List.getElem?_eq_none (by rw [List.length_map]; omega)]
theorem stg_end {ps : List Nat} (h : ps.sum ≠ 0) (w : Nat) : stg ps w (over ps w) = scaled ps w := by
  rw [scaled_eq h]
  unfold stg
  refine List.map_congr_left fun i hi => ?_
  have hi' := List.mem_range.mp hi
  by_cases c : goesBefore ps w i < over ps w
  · rw [if_pos c, if_pos ((mem_take hi').mpr c)]
  · rw [if_neg c, if_neg (fun z => c ((mem_take hi').mp z))]
theorem stg_step {ps : List Nat} {w m i : Nat} (h : (ordF ps w)[m]? = some i) : (stg ps w m)[i]? = some (w * ps.getD i 0 / ps.sum) ∧ stg ps w (m + 1) = (stg ps w m).set i (w * ps.getD i 0 / ps.sum + 1) := by
  have hi : i < ps.length := ord_mem.mp (List.mem_of_getElem? h)
  obtain ⟨hm, em⟩ := List.getElem?_eq_some_iff.mp h
  have hg : goesBefore ps w i = m := by rw [← em]; exact goes_at hm
  have hn : i ∉ (ordF ps w).take m := fun z => by have := (mem_take hi).mp z; omega
  have hy : i ∈ (ordF ps w).take (m + 1) := (mem_take hi).mpr (by omega)
  refine ⟨by rw [stg_at hi, if_neg hn]; rfl, ?_⟩
  apply List.ext_getElem?
  intro k
  rw [List.getElem?_set]
  by_cases hk : k < ps.length
  · rw [stg_at hk, stg_at hk, stg_len]
    by_cases e : i = k
    · subst e
      rw [if_pos rfl, if_pos hi, if_pos hy]
    · rw [if_neg e]
      have h2 : k ∈ (ordF ps w).take (m + 1) ↔ k ∈ (ordF ps w).take m := by
        rw [List.take_add_one, h, List.mem_append]
        simp only [Option.toList, List.mem_singleton]
        exact ⟨fun z => z.elim id fun z => absurd z.symm e, .inl⟩
      by_cases c : k ∈ (ordF ps w).take m
      · rw [if_pos c, if_pos (h2.mpr c)]
      · rw [if_neg c, if_neg (fun z => c (h2.mp z))]
  · rw [List.getElem?_eq_none (by rw [stg_len]; omega), if_neg (by omega), List.getElem?_eq_none (by rw [stg_len]; omega)]
theorem scaled_nil (w : Nat) : scaled [] w = [] := rfl
theorem over_eq {ps : List Nat} (h : ps.sum ≠ 0) (w : Nat) : (w : Int) - (((ps.map fun p => w * p / ps.sum).sum : Nat) : Int) = ((over ps w : Nat) : Int) := by
  have := floors_le h w
  unfold over
  omega
theorem sum_pos {ps : List Nat} (h : ps ≠ []) (hp : ∀ p ∈ ps, 1 ≤ p) : ps.sum ≠ 0 := by
  cases ps with
  | nil => exact absurd rfl h
  | cons a l =>
    have := hp a (List.mem_cons_self ..)
    rw [List.sum_cons]
    omega
end My

namespace My
open Br
/-! ### Scaled grams are together just the weight -/
theorem sum_set : ∀ {l : List Nat} {i x : Nat}, l[i]? = some x → (l.set i (x + 1)).sum = l.sum + 1
  | [], i, x, h => by simp at h
  | a :: l, 0, x, h => by
    have e : a = x := Option.some.inj h
    subst e
    rw [List.set_cons_zero, List.sum_cons, List.sum_cons]
    omega
  | a :: l, i + 1, x, h => by
    rw [List.set_cons_succ, List.sum_cons, List.sum_cons, sum_set (l := l) (i := i) h]
    omega
theorem stg_sum {ps : List Nat} {w : Nat} : ∀ m : Nat, m ≤ ps.length → (stg ps w m).sum = (ps.map fun p => w * p / ps.sum).sum + m
  | 0, _ => by rw [stg_zero]; rfl
  | m + 1, h => by
    have hm : m < (ordF ps w).length := by rw [ord_len]; exact h
    obtain ⟨h1, h2⟩ := stg_step (List.getElem?_eq_getElem hm)
    rw [h2, sum_set h1, stg_sum m (by omega)]
    omega
theorem scaled_sum {ps : List Nat} (h : ps.sum ≠ 0) (w : Nat) : (scaled ps w).sum = w := by
  rw [← stg_end h, stg_sum _ (Nat.le_of_lt (over_lt h w))]
  have := floors_le h w
  unfold over
  omega
/-! ### A weight below which there is surely too little -/
def absI (i : Int) : Int := if i < 0 then -i else i
theorem absI_nn (i : Int) : 0 ≤ absI i := by
  unfold absI
  split <;> omega
theorem mul_abs {a P y : Int} (h1 : -P ≤ a) (h2 : a ≤ P) : a * y ≤ P * absI y := by
  unfold absI
  by_cases c : y < 0
  · rw [if_pos c]
    have : (-a) * (-y) ≤ P * (-y) := Int.mul_le_mul_of_nonneg_right (by omega) (by omega)
    rwa [Int.neg_mul_neg] at this
  · rw [if_neg c]
    exact Int.mul_le_mul_of_nonneg_right h2 (by omega)
def offI (m : Int) (xs : List Nat) : Int := (xs.map fun (x : Nat) => absI ((x : Int) - m)).sum
theorem off_bound (P w : Nat) (m : Int) : ∀ (gs : List Nat) (ms : List (Name × Nat × Nat)), gs.length = ms.length → (∀ (i g : Nat) (t : Name × Nat × Nat), gs[i]? = some g → ms[i]? = some t → P * g ≤ w * t.2.1 + P ∧ w * t.2.1 ≤ P * g + P) →
    (P : Int) * (((List.zipWith (fun (g : Nat) (t : Name × Nat × Nat) => g * t.2.2) gs ms).sum : Nat) - m * (gs.sum : Nat)) ≤ (w : Int) * (((ms.map fun t => t.2.1 * t.2.2).sum : Nat) - m * ((ms.map fun t => t.2.1).sum : Nat)) + P * offI m (ms.map fun t => t.2.2)
  | [], [], _, _ => by simp [offI]
  | [], t :: ms, h, _ => by simp at h
  | g :: gs, [], h, _ => by simp at h
  | g :: gs, t :: ms, h, hb => by
    have ih := off_bound P w m gs ms (by simpa using h) fun i g' t' h1 h2 => hb (i + 1) g' t' h1 h2
    obtain ⟨h1, h2⟩ := hb 0 g t rfl rfl
    have h1' : (P : Int) * (g : Int) ≤ (w : Int) * (t.2.1 : Int) + P := by exact_mod_cast h1
    have h2' : (w : Int) * (t.2.1 : Int) ≤ (P : Int) * (g : Int) + P := by exact_mod_cast h2
    have a := mul_abs (a := (P : Int) * (g : Int) - (w : Int) * (t.2.1 : Int)) (P := (P : Int)) (y := (t.2.2 : Int) - m) (by omega) (by omega)
    simp only [offI, List.zipWith_cons_cons, List.map_cons, List.sum_cons] at ih ⊢
    simp only [Int.natCast_add, Int.natCast_mul, Int.mul_add, Int.mul_sub, Int.sub_mul] at a ih ⊢
    have e1 : (P : Int) * (m * (g : Int)) = (P : Int) * (g : Int) * m := by rw [Int.mul_comm m, Int.mul_assoc]
    have e2 : (w : Int) * (m * (t.2.1 : Int)) = (w : Int) * (t.2.1 : Int) * m := by rw [Int.mul_comm m, Int.mul_assoc]
    have e3 : (P : Int) * ((g : Int) * (t.2.2 : Int)) = (P : Int) * (g : Int) * (t.2.2 : Int) := by rw [Int.mul_assoc]
    have e4 : (w : Int) * ((t.2.1 : Int) * (t.2.2 : Int)) = (w : Int) * (t.2.1 : Int) * (t.2.2 : Int) := by rw [Int.mul_assoc]
    rw [e1, e2, e3, e4]
    omega
theorem extract_off {r : Recipe} (hP : mP r ≠ 0) (ml w h : Nat) (m : Int) : (mP r : Int) * (extract r ⟨ml, w, h⟩ : Nat) ≤ (w : Int) * (mS r : Nat) + (mP r : Int) * offI m ((malts r).map fun t => t.2.2) := by
  have hb := off_bound (mP r) w m (scaled ((malts r).map fun (t : Name × Nat × Nat) => t.2.1) w) (malts r) (by rw [scaled_len, List.length_map]) fun i g t h1 h2 => by
    have hp : ((malts r).map fun (t : Name × Nat × Nat) => t.2.1)[i]? = some t.2.1 := by rw [List.getElem?_map, h2]; rfl
    exact scaled_bounds hP hp h1
  rw [scaled_sum hP] at hb
  have e1 : (List.zipWith (fun (g : Nat) (t : Name × Nat × Nat) => g * t.2.2) (scaled ((malts r).map fun (t : Name × Nat × Nat) => t.2.1) w) (malts r)).sum = extract r ⟨ml, w, h⟩ := rfl
  have e2 : ((malts r).map fun t => t.2.1 * t.2.2).sum = mS r := rfl
  have e3 : ((malts r).map fun t => t.2.1).sum = mP r := rfl
  rw [e1, e2, e3, Int.mul_sub, Int.mul_sub] at hb
  have e4 : (mP r : Int) * (m * (w : Int)) = (w : Int) * (m * (mP r : Int)) := by
    rw [Int.mul_comm (mP r : Int), Int.mul_comm m, Int.mul_assoc]
  omega
/-- the first weight that is tried -/
def lowW (P S : Nat) (off : Int) (needed : Nat) : Int := if -((off - (needed : Int)) * (P : Int) / (S : Int)) > 0 then -((off - (needed : Int)) * (P : Int) / (S : Int)) else 0
theorem lowW_nn (P S : Nat) (off : Int) (needed : Nat) : 0 ≤ lowW P S off needed := by
  unfold lowW
  split <;> omega
theorem low_le {r : Recipe} (hP : mP r ≠ 0) (hS : mS r ≠ 0) {ml w needed : Nat} (m : Int) (h : needed ≤ extract r ⟨ml, w, 0⟩) : lowW (mP r) (mS r) (offI m ((malts r).map fun t => t.2.2)) needed ≤ (w : Int) := by
  have hb := extract_off hP ml w 0 m
  generalize offI m ((malts r).map fun t => t.2.2) = off at *
  have h1 : (mP r : Int) * (needed : Int) ≤ (mP r : Int) * (extract r ⟨ml, w, 0⟩ : Nat) := Int.mul_le_mul_of_nonneg_left (by omega) (by omega)
  have h2 : -(w : Int) ≤ (off - (needed : Int)) * (mP r : Int) / (mS r : Int) := by
    rw [Int.le_ediv_iff_mul_le (by omega)]
    rw [Int.sub_mul, Int.neg_mul, Int.mul_comm off, Int.mul_comm (needed : Int)]
    omega
  unfold lowW
  split <;> omega
/-- .. is not great -/
theorem low_bound {P S needed : Nat} {off : Int} (h0 : 0 ≤ off) (hPS : P ≤ S) (hS : S ≠ 0) : lowW P S off needed ≤ (needed : Int) := by
  have h2 : -(needed : Int) ≤ (off - (needed : Int)) * (P : Int) / (S : Int) := by
    rw [Int.le_ediv_iff_mul_le (by omega), Int.sub_mul, Int.neg_mul]
    have a : (0 : Int) ≤ off * (P : Int) := Int.mul_nonneg h0 (by omega)
    have b : (needed : Int) * (P : Int) ≤ (needed : Int) * (S : Int) := Int.mul_le_mul_of_nonneg_left (by omega) (by omega)
    omega
  unfold lowW
  split <;> omega
theorem off_nn (m : Int) : ∀ xs : List Nat, 0 ≤ offI m xs
  | [] => by simp [offI]
  | x :: xs => by
    have h1 := off_nn m xs
    have h2 := absI_nn ((x : Int) - m)
    simp only [offI, List.map_cons, List.sum_cons] at h1 ⊢
    omega
theorem mP_le_mS {r : Recipe} (hc : Ch r) : mP r ≤ mS r := by
  unfold mP mS
  have : ∀ l : List (Name × Nat × Nat), (∀ t ∈ l, 1 ≤ t.2.2) → (l.map fun t => t.2.1).sum ≤ (l.map fun t => t.2.1 * t.2.2).sum := by
    intro l
    induction l with
    | nil => intro _; exact Nat.le_refl _
    | cons t l ih =>
      intro h
      have h1 := ih fun x hx => h x (List.mem_cons_of_mem _ hx)
      have h2 := Nat.mul_le_mul_left t.2.1 (h t (List.mem_cons_self ..))
      rw [List.map_cons, List.map_cons, List.sum_cons, List.sum_cons]
      omega
  exact this _ fun t ht => (malt_bounds hc ht).2.2.1
/-- needed is what is asked -/
theorem needed_iff {n ml d e : Nat} (hd : 0 < d) : (n * ml + d - 1) / d ≤ e ↔ n * ml ≤ d * e := by
  rw [← Nat.lt_succ_iff, Nat.div_lt_iff_lt_mul hd, Nat.succ_mul, Nat.mul_comm e d]
  omega
end My

set_option maxRecDepth 100000
set_option maxHeartbeats 2000000
namespace My
open PySem PySem.Spec PyProof.Rows L2
/-! ### Texts -/
def S (l : List Nat) : Str := ⟨l.toArray⟩
theorem S_list (l : List Nat) : (S l).cps.toList = l := rfl
theorem S_len (l : List Nat) : (S l).length = l.length := rfl
theorem S_inj {a b : List Nat} (h : S a = S b) : a = b := by
  have e := congrArg (fun z : Str => z.cps.toList) h
  exact e
theorem S_of (z : Str) : S z.cps.toList = z := rfl
/-! ### The text by places -/
def top (i : Nat) : Stmt := PySem.Challenge.pw_brewrecipes_s07_malt.main.body.getD i (.Pass ⟨0, 0, 0, 0⟩)
abbrev sRowI : Stmt := inClass (top 19) 0
abbrev sReaI : Stmt := inClass (top 20) 0
abbrev sSign : Stmt := top 21
abbrev sSpell : Stmt := top 22
abbrev sMade : Stmt := top 23
abbrev sName : Stmt := top 24
abbrev sNum : Stmt := top 25
abbrev sNums : Stmt := top 26
abbrev sRow : Stmt := top 27
abbrev sHopC : Stmt := top 28
abbrev sClash : Stmt := top 29
abbrev sWhy : Stmt := top 30
abbrev sWhyE : Stmt := top 31
abbrev sLines : Stmt := top 32
abbrev sText : Stmt := top 33
/-- a def of the top that keeps a promise -/
structure Df (P : Program) (w : World) (K : PySem.W.Frag) (mg : Str → Option Value) (base : Heap) (k : Nat) (x : Str) (ps : List Str) (sp : Sp) (f : Addr) (fd : FuncData) : Prop where
  g : mg x = some (.ref f)
  kp : PySem.W.keepIn K (.ref f) = true
  b : Binds K fd ps []
  ok : FnOk P w K mg base CX0 k f fd ps sp
/-- a constant of the top -/
def Cn (mg : Str → Option Value) (x : Str) (v : V) : Prop := ∃ u, mg x = some u ∧ RelV v u
section
variable {P : Program} {w : World} {K : PySem.W.Frag} {mg : Str → Option Value} {base : Heap}
theorem iteD {p A B : Prop} [Decidable p] (h : p → A) (h' : ¬ p → B) : if decide p = true then A else B := by
  by_cases e : p
  · rw [if_pos (decide_eq_true e)]
    exact h e
  · rw [if_neg (fun z => e (of_decide_eq_true z))]
    exact h' e
theorem via {B G : Prop} (f : B → G) (b : B) : G := f b
theorem dig_at {n : Nat} (c : 48 ≤ n ∧ n ≤ 57) : digN[n - 48]? = some (sg n) := by
  obtain ⟨k, rfl⟩ : ∃ k, n = 48 + k := ⟨n - 48, by omega⟩
  rw [sg_self (.inr c), Nat.add_sub_cancel_left]
  have hk : k < 10 := by omega
  have : ∀ k < 10, digN[k]? = some (48 + k) := by decide
  exact this k hk
theorem let_at {n : Nat} (c : 97 ≤ n ∧ n ≤ 122) : letN[n - 97]? = some (sg n) := by
  obtain ⟨k, rfl⟩ : ∃ k, n = 97 + k := ⟨n - 97, by omega⟩
  rw [sg_self (.inl c), Nat.add_sub_cancel_left]
  have hk : k < 26 := by omega
  have : ∀ k < 26, letN[k]? = some (97 + k) := by decide
  exact this k hk
theorem same_new {H : Hp} {p : Addr} {o : HO} (h : H p = none) : Same H (upd H p o) := fun b x e => (upd_ne (ne_of_none e h)).trans e
/-! ### sign_of -/
theorem scSign : FnScope ["byte"] ["byte"] (defScope sSign) := ⟨rfl, rfl, rfl, by decide +kernel, rfl, by decide +kernel, by decide +kernel⟩
def spSign : Sp := fun vs H Q _ => ∃ n : Nat, vs = [.int n] ∧ Q (.str (S [sg n])) H
theorem S_nl : Str.ofString "\n" = S [10] := by decide +kernel
theorem S_sp : Str.ofString " " = S [32] := by decide +kernel
theorem S_0 : Str.ofString "0" = S [48] := by decide +kernel
theorem S_9 : Str.ofString "9" = S [57] := by decide +kernel
theorem S_a : Str.ofString "a" = S [97] := by decide +kernel
theorem S_z : Str.ofString "z" = S [122] := by decide +kernel
theorem S_q : Str.ofString "?" = S [63] := by decide +kernel
theorem S_dig : Str.ofString "0123456789" = S digN := by decide +kernel
theorem S_let : Str.ofString "abcdefghijklmnopqrstuvwxyz" = S letN := by decide +kernel
theorem ok_sign {f : Addr} {fd : FuncData} (F : Fun K "sign_of" "sign_of" sSign f fd) (mo : mg "ord" = none) (cD : Cn mg "DIGITS" (.str (S digN))) (cL : Cn mg "LETTERS" (.str (S letN))) (cO : Cn mg "OTHER" (.str (S [63]))) :
    FnOk P w K mg base CX0 1 f fd ["byte"] spSign := by
  obtain ⟨uD, gD, rD⟩ := cD
  obtain ⟨uL, gL, rL⟩ := cL
  obtain ⟨uO, gO, rO⟩ := cO
  refine F.ok scSign (fun vs H Q E h => ?_) (fun cdv A outer s H vs Q E hr h => ?_)
  · obtain ⟨n, rfl, _⟩ := h
    rfl
  · obtain ⟨n, rfl, q⟩ := h
    refine ⟨_, pss_cons (ps_if (pt_cmpR op_eq (pv 0) (pe_callB call_ord (by rfl) mo (by decide +kernel) (pa_cons pe_str pa_nil)) (nomark _)) (pss_one (ps_ret pe_str)) pss_nil)
      (pss_cons (ps_if (pt_cmpR op_eq (pv 0) (pe_callB call_ord (by rfl) mo (by decide +kernel) (pa_cons pe_str pa_nil)) (nomark _)) (pss_one (ps_ret pe_str)) pss_nil)
      (pss_cons (ps_if (pt_chain op_le op_le (pe_callB call_ord (by rfl) mo (by decide +kernel) (pa_cons pe_str pa_nil)) (pv 0) (pe_callB call_ord (by rfl) mo (by decide +kernel) (pa_cons pe_str pa_nil)))
          (pss_one (ps_ret (pe_ix ix_str (pe_glob rfl gD rD) (pe_op op_sub (pv 0) (pe_callB call_ord (by rfl) mo (by decide +kernel) (pa_cons pe_str pa_nil))) (fun _ _ => rfl)))) pss_nil)
      (pss_cons (ps_if (pt_chain op_le op_le (pe_callB call_ord (by rfl) mo (by decide +kernel) (pa_cons pe_str pa_nil)) (pv 0) (pe_callB call_ord (by rfl) mo (by decide +kernel) (pa_cons pe_str pa_nil)))
          (pss_one (ps_ret (pe_ix ix_str (pe_glob rfl gL rL) (pe_op op_sub (pv 0) (pe_callB call_ord (by rfl) mo (by decide +kernel) (pa_cons pe_str pa_nil))) (fun _ _ => rfl)))) pss_nil)
      (pss_one (ps_ret (pe_glob rfl gO rO)))))), ?_⟩
    have o1 : (Str.ofString "\n").cps.getD 0 0 = 10 := by decide +kernel
    have o2 : (Str.ofString " ").cps.getD 0 0 = 32 := by decide +kernel
    have o3 : (Str.ofString "0").cps.getD 0 0 = 48 := by decide +kernel
    have o4 : (Str.ofString "9").cps.getD 0 0 = 57 := by decide +kernel
    have o5 : (Str.ofString "a").cps.getD 0 0 = 97 := by decide +kernel
    have o6 : (Str.ofString "z").cps.getD 0 0 = 122 := by decide +kernel
    refine ⟨_, rfl, _, rfl, rfl, rfl, _, rfl, iteD (fun e => ?_) (fun e => ?_)⟩
    · rw [o1] at e
      have e := V.int.inj e
      have en : n = 10 := by omega
      subst en
      show Q (.str (Str.ofString "\n")) H
      rw [S_nl]
      exact q
    have e1 : n ≠ 10 := fun z => e (by rw [o1, z])
    clear e
    refine ⟨_, rfl, _, rfl, rfl, rfl, _, rfl, iteD (fun e => ?_) (fun e => ?_)⟩
    · rw [o2] at e
      have e := V.int.inj e
      have en : n = 32 := by omega
      subst en
      show Q (.str (Str.ofString " ")) H
      rw [S_sp]
      exact q
    have e2 : n ≠ 32 := fun z => e (by rw [o2, z])
    clear e
    refine ⟨_, rfl, rfl, _, rfl, _, _, rfl, rfl, _, rfl, ?_⟩
    rw [o3]
    by_cases c : 48 ≤ n ∧ n ≤ 57
    · refine iteD (fun _ => ⟨_, rfl, rfl, _, _, rfl, rfl, _, rfl, iteD (fun _ => ?_) (fun z => absurd (show (n : Int) ≤ ((Str.ofString "9").cps.getD 0 0 : Nat) by rw [o4]; omega) z)⟩) (fun z => absurd (show ((48 : Nat) : Int) ≤ n by omega) z)
      refine ⟨_, rfl, _, rfl, rfl, _, _, rfl, rfl, _, _, sg n, rfl, rfl, (by decide), ?_, ?_⟩
      · show atI digN ((n : Int) - (((Str.ofString "0").cps.getD 0 0 : Nat) : Int)) = some (sg n)
        rw [o3]
        rw [show (n : Int) - ((48 : Nat) : Int) = ((n - 48 : Nat) : Int) by omega]
        exact atI_nat (dig_at c)
      · exact q
    refine via (fun hB => iteD (fun _ => ⟨_, rfl, rfl, _, _, rfl, rfl, _, rfl, iteD (fun z => absurd z (by rw [o4]; omega)) (fun _ => hB)⟩) (fun _ => ⟨_, rfl, iteF hB⟩)) ?_
    refine ⟨_, rfl, rfl, _, rfl, _, _, rfl, rfl, _, rfl, ?_⟩
    rw [o5]
    by_cases d : 97 ≤ n ∧ n ≤ 122
    · refine iteD (fun _ => ⟨_, rfl, rfl, _, _, rfl, rfl, _, rfl, iteD (fun _ => ?_) (fun z => absurd (show (n : Int) ≤ ((Str.ofString "z").cps.getD 0 0 : Nat) by rw [o6]; omega) z)⟩) (fun z => absurd (show ((97 : Nat) : Int) ≤ n by omega) z)
      refine ⟨_, rfl, _, rfl, rfl, _, _, rfl, rfl, _, _, sg n, rfl, rfl, (by decide), ?_, ?_⟩
      · show atI letN ((n : Int) - (((Str.ofString "a").cps.getD 0 0 : Nat) : Int)) = some (sg n)
        rw [o5]
        rw [show (n : Int) - ((97 : Nat) : Int) = ((n - 97 : Nat) : Int) by omega]
        exact atI_nat (let_at d)
      · exact q
    refine via (fun hB => iteD (fun _ => ⟨_, rfl, rfl, _, _, rfl, rfl, _, rfl, iteD (fun z => absurd z (by rw [o6]; omega)) (fun _ => hB)⟩) (fun _ => ⟨_, rfl, iteF hB⟩)) ?_
    have e63 : sg n = 63 := by
      unfold sg
      rw [if_neg e1, if_neg e2, if_neg c, if_neg d]
    rw [e63] at q
    exact q
end
end My

set_option maxRecDepth 100000
set_option maxHeartbeats 2000000
namespace My
open PySem PySem.Spec PyProof.Rows L2
section
variable {P : Program} {w : World} {K : PySem.W.Frag} {mg : Str → Option Value} {base : Heap}
/-! ### spell -/
theorem scSpell : FnScope ["text", "byte"] ["text"] (defScope sSpell) := ⟨rfl, rfl, rfl, by decide +kernel, rfl, by decide +kernel, by decide +kernel⟩
def byV (c : UInt8) : V := .int (c.toNat : Int)
def spSpell (K : PySem.W.Frag) : Sp := fun vs H Q _ => ∃ (a : Addr) (bs : Br.Bytes), vs = [.ref a] ∧ SqL K H a (bs.map byV) ∧ bs.length ≤ 16384 ∧ ∀ H', Same H H' → Q (.str (S (cd bs))) H'
theorem join_signs : ∀ l : List Nat, Str.join Str.empty (l.map fun c => S [c]) = S l
  | [] => rfl
  | [c] => rfl
  | c :: d :: r => by
    have ih := join_signs (d :: r)
    show S [c] ++ Str.empty ++ Str.join Str.empty ((d :: r).map fun c => S [c]) = _
    rw [ih]
    show Str.mk (#[c] ++ #[] ++ (d :: r).toArray) = Str.mk (c :: d :: r).toArray
    congr 1
    simp
theorem sum_ones : ∀ l : List Nat, ((l.map fun c => S [c]).map (·.length)).sum = l.length
  | [] => rfl
  | c :: r => by
    rw [List.map_cons, List.map_cons, List.sum_cons, sum_ones r, List.length_cons, S_len]
    show 1 + _ = _
    omega
theorem take_snoc {α : Type} {l : List α} {i : Nat} {x : α} (h : l[i]? = some x) : l.take (i + 1) = l.take i ++ [x] := by
  rw [List.take_add_one, h]
  rfl
theorem ok_spell {f fS : Addr} {fd fdS : FuncData} (F : Fun K "spell" "spell" sSpell f fd) (G : Df P w K mg base 1 "sign_of" ["byte"] spSign fS fdS) :
    FnOk P w K mg base CX0 2 f fd ["text"] (spSpell K) := by
  refine F.ok scSpell (fun vs H Q E h => ?_) (fun cdv A outer s H vs Q E hr h => ?_)
  · obtain ⟨a, bs, rfl, _⟩ := h
    rfl
  · obtain ⟨a, bs, rfl, hS, hl, q⟩ := h
    refine ⟨_, pss_one (ps_ret (pe_join pe_str (pe_lc (own := [("byte", 1)]) (g := gName 1) (tt := tYes) rfl scSpell.nd (pi_list (pv 0)) (blkOk_by (N := ["text", "byte"]) (sc := defScope sSpell) (by decide +kernel))
      (fun _ _ _ _ _ => pg_name (i := 1) scSpell.nd rfl (Or.inl rfl)) (fun _ _ _ _ _ => pts_nil) (fun _ _ _ _ _ => pe_call G.ok hr rfl G.g G.kp G.b .nil pass0 (pa_cons (pv 1) pa_nil))))), ?_⟩
    refine ⟨⟨_, rfl⟩, _, rfl, a, rfl, ⟨_, hS⟩, fun D hD => lc_list (K := K) (a := a) (xs := bs.map byV) (fun i H' => Same H H' ∧ H' D = some (.lst (((cd bs).take i).map fun c => .str (S [c])))) ?_ ?_ ?_ ?_⟩
    · exact ⟨same_new hD, upd_same⟩
    · exact fun i H' _ p => p.1.seq hS
    · intro i x H' hx p
      rw [List.getElem?_map] at hx
      cases e : bs[i]? with
      | none => rw [e] at hx; cases hx
      | some c =>
        rw [e] at hx
        have ex : x = byV c := (Option.some.inj hx).symm
        subst ex
        refine ⟨rfl, _, rfl, c.toNat, rfl, _, p.2, ?_, ?_, ?_⟩
        · rw [List.length_map, List.length_take]
          have : (cd bs).length = bs.length := List.length_map ..
          exact Nat.lt_of_le_of_lt (Nat.min_le_right _ _) (by rw [this]; exact Nat.lt_of_le_of_lt hl (by decide))
        · exact fun b o eb => (upd_ne (ne_of_none eb hD)).trans (p.1 b o eb)
        · have hc : (cd bs)[i]? = some (sg c.toNat) := by
            show (bs.map fun c => sg c.toNat)[i]? = _
            rw [List.getElem?_map, e]
            rfl
          rw [upd_same, take_snoc hc, List.map_append]
          rfl
    · intro H' p
      have el : (bs.map byV).length = (cd bs).length := by rw [List.length_map]; exact (List.length_map ..).symm
      rw [el, List.take_length] at p
      refine ⟨Str.ofString "", D, (cd bs).map fun c => S [c], rfl, rfl, .inl (SqL.of ?_), ?_, ?_⟩
      · rw [p.2, List.map_map]
        rfl
      · have e0 : (Str.ofString "").length = 0 := by decide +kernel
        rw [sum_ones, e0, Nat.mul_zero]
        have : (cd bs).length = bs.length := List.length_map ..
        omega
      · have e1 : Str.ofString "" = Str.empty := by decide +kernel
        rw [e1, TL.join_eq, join_signs]
        exact q _ p.1
/-! ### is_made_of -/
theorem scMade : FnScope ["word", "signs", "sign"] ["word", "signs"] (defScope sMade) := ⟨rfl, rfl, rfl, by decide +kernel, rfl, by decide +kernel, by decide +kernel⟩
def spMade : Sp := fun vs H Q _ => ∃ l m : List Nat, vs = [.str (S l), .str (S m)] ∧ Q (.bl (made l m)) H
theorem ok_made {f : Addr} {fd : FuncData} (F : Fun K "is_made_of" "is_made_of" sMade f fd) : FnOk P w K mg base CX0 1 f fd ["word", "signs"] spMade := by
  refine F.ok scMade (fun vs H Q E h => ?_) (fun cdv A outer s H vs Q E hr h => ?_)
  · obtain ⟨l, m, rfl, _⟩ := h
    rfl
  · obtain ⟨l, m, rfl, q⟩ := h
    refine ⟨_, pss_cons (ps_for PassesOwn.never rfl (pi_str (pv 0)) (pg_name (i := 2) scMade.nd rfl (Or.inl rfl))
        (pss_one (ps_if (pt_cmpR op_notIn_sign (pv 2) (pv 1) (by rfl)) (pss_one (ps_ret pe_bl)) pss_nil)))
      (pss_one (ps_ret pe_bl)), ?_⟩
    refine ⟨_, rfl, _, rfl, for_it walk_str (fun i σ H' => ∃ v, σ = [some (.str (S l)), some (.str (S m)), v] ∧ H' = H ∧ made (l.take i) m = true) ⟨none, rfl, rfl, rfl⟩ (fun _ _ _ _ _ => trivial) ?_ ?_⟩
    · rintro i x σ H1 H2 hi ⟨v, rfl, rfl, hm⟩ ⟨rfl, c, hc, rfl⟩
      have hc' : l[i]? = some c := by simpa [S] using hc
      refine ⟨_, rfl, _, rfl, c, S m, rfl, rfl, _, rfl, ?_⟩
      by_cases e : c ∈ m
      · have e' : (!decide (c ∈ (S m).cps.toList)) = false := by
          rw [S_list, decide_eq_true e]; rfl
        rw [e']
        refine iteF ⟨_, rfl, rfl, ?_⟩
        rw [take_snoc hc']
        unfold made at hm ⊢
        rw [List.all_append, hm]
        simp [e]
      · have e' : (!decide (c ∈ (S m).cps.toList)) = true := by
          rw [S_list, decide_eq_false e]; rfl
        rw [e']
        refine iteT ?_
        have eq : made l m = false := by
          unfold made
          rw [List.all_eq_false]
          exact ⟨c, List.mem_of_getElem? hc', by simp [e]⟩
        rw [eq] at q
        exact q
    · rintro σ H' ⟨v, rfl, rfl, hm⟩
      have e : l.take (S l).cps.size = l := by
        show l.take l.toArray.size = l
        simp
      rw [e] at hm
      rw [hm] at q
      exact q
/-! ### is_name -/
theorem scName : FnScope ["word"] ["word"] (defScope sName) := ⟨rfl, rfl, rfl, by decide +kernel, rfl, by decide +kernel, by decide +kernel⟩
def spName : Sp := fun vs H Q _ => ∃ l : List Nat, vs = [.str (S l)] ∧ l.length ≤ 16384 ∧ Q (.bl (isName l)) H
theorem ok_name {f fM : Addr} {fd fdM : FuncData} (F : Fun K "is_name" "is_name" sName f fd) (G : Df P w K mg base 1 "is_made_of" ["word", "signs"] spMade fM fdM) (ml : mg "len" = none)
    (cN : Cn mg "MOST_NAME_SIGNS" (.int 12)) (cD : Cn mg "DIGITS" (.str (S digN))) (cL : Cn mg "LETTERS" (.str (S letN))) : FnOk P w K mg base CX0 2 f fd ["word"] spName := by
  obtain ⟨uN, gN, rN⟩ := cN
  obtain ⟨uD, gD, rD⟩ := cD
  obtain ⟨uL, gL, rL⟩ := cL
  refine F.ok scName (fun vs H Q E h => ?_) (fun cdv A outer s H vs Q E hr h => ?_)
  · obtain ⟨l, rfl, _⟩ := h
    rfl
  · obtain ⟨l, rfl, hl, q⟩ := h
    refine ⟨_, pss_one (ps_ret (pe_and (pe_chain op_le op_le pe_int (pe_callB call_len_str (by rfl) ml PySem.boot_len (pa_cons (pv 0) pa_nil)) (pe_glob rfl gN rN))
      (pe_one (pe_call G.ok hr rfl G.g G.kp G.b .nil pass0 (pa_cons (pv 0) (pa_cons (pe_op op_add_str (pe_glob rfl gL rL) (pe_glob rfl gD rD)) pa_nil)))))), ?_⟩
    refine ⟨_, rfl, _, rfl, Nat.le_trans hl (by decide), _, _, rfl, rfl, _, rfl, ?_⟩
    have el : ((S l).length : Int) = (l.length : Int) := rfl
    have eA : S letN ++ S digN = S (letN ++ digN) := by decide +kernel
    by_cases c : 1 ≤ l.length ∧ l.length ≤ 12
    · refine iteD (fun _ => ⟨_, _, rfl, rfl, _, rfl, iteD (fun _ => ?_) (fun z => absurd (show ((S l).length : Int) ≤ 12 by rw [el]; omega) z)⟩) (fun z => absurd (show (1 : Int) ≤ ((S l).length : Int) by rw [el]; omega) z)
      refine ⟨_, rfl, _, _, rfl, rfl, (by decide), l, letN ++ digN, (by rw [eA]; rfl), ?_⟩
      have e : made l (letN ++ digN) = isName l := by
        unfold isName
        rw [decide_eq_true c.1, decide_eq_true c.2]
        rfl
      rw [e]
      exact q
    · have e : isName l = false := by
        unfold isName
        rcases Classical.not_and_iff_not_or_not.mp c with z | z
        · rw [decide_eq_false z]; rfl
        · rw [decide_eq_false z, Bool.and_false]; rfl
      rw [e] at q
      refine iteD (fun _ => ⟨_, _, rfl, rfl, _, rfl, iteD (fun z => absurd z (by rw [el]; omega)) (fun _ => q)⟩) (fun _ => ⟨_, rfl, iteF q⟩)
/-! ### is_number -/
theorem scNum : FnScope ["word"] ["word"] (defScope sNum) := ⟨rfl, rfl, rfl, by decide +kernel, rfl, by decide +kernel, by decide +kernel⟩
def spNum : Sp := fun vs H Q _ => ∃ l : List Nat, vs = [.str (S l)] ∧ l.length ≤ 16384 ∧ Q (.bl (isNum l)) H
theorem ok_num {f fM : Addr} {fd fdM : FuncData} (F : Fun K "is_number" "is_number" sNum f fd) (G : Df P w K mg base 1 "is_made_of" ["word", "signs"] spMade fM fdM) (ml : mg "len" = none)
    (cN : Cn mg "MOST_DIGITS" (.int 6)) (cD : Cn mg "DIGITS" (.str (S digN))) : FnOk P w K mg base CX0 2 f fd ["word"] spNum := by
  obtain ⟨uN, gN, rN⟩ := cN
  obtain ⟨uD, gD, rD⟩ := cD
  refine F.ok scNum (fun vs H Q E h => ?_) (fun cdv A outer s H vs Q E hr h => ?_)
  · obtain ⟨l, rfl, _⟩ := h
    rfl
  · obtain ⟨l, rfl, hl, q⟩ := h
    refine ⟨_, pss_cons (ps_if (PW.pt (pw_or (pt_not (pt_chain op_le op_le pe_int (pe_callB call_len_str (by rfl) ml PySem.boot_len (pa_cons (pv 0) pa_nil)) (pe_glob rfl gN rN)))
        (pw_or1 (pt_not (pt_val (pe_call G.ok hr rfl G.g G.kp G.b .nil pass0 (pa_cons (pv 0) (pa_cons (pe_glob rfl gD rD) pa_nil)))))))) (pss_one (ps_ret pe_bl)) pss_nil)
      (pss_one (ps_ret (pe_or (pe_cmpR op_eq (pv 0) pe_str (nomark _)) (pe_one (pe_cmpR op_ne (pe_ix ix_str (pv 0) pe_int (fun _ _ => rfl)) pe_str (nomark _)))))), ?_⟩
    refine ⟨_, rfl, _, rfl, Nat.le_trans hl (by decide), _, _, rfl, rfl, _, rfl, ?_⟩
    have el : ((S l).length : Int) = (l.length : Int) := rfl
    by_cases c : (1 ≤ l.length ∧ l.length ≤ 6) ∧ made l digN = true
    · refine iteD (fun _ => ⟨_, _, rfl, rfl, _, rfl, ?_⟩) (fun z => absurd (show (1 : Int) ≤ ((S l).length : Int) by rw [el]; omega) z)
      rw [show decide (((S l).length : Int) ≤ 6) = true from decide_eq_true (by rw [el]; omega)]
      refine ⟨_, rfl, l, digN, rfl, _, rfl, ?_⟩
      rw [c.2]
      have e0 : Str.ofString "0" = S [48] := by decide +kernel
      refine ⟨_, rfl, rfl, _, rfl, iteD (fun e => ?_) (fun e => ?_)⟩
      · have el : l = [48] := by
          rw [e0] at e
          exact S_inj (V.str.inj e)
        subst el
        exact q
      · have ne : l ≠ [48] := fun z => e (by rw [z, e0])
        obtain ⟨d, r, rfl⟩ : ∃ d r, l = d :: r := by
          cases l with
          | nil => exact absurd c.1.1 (by decide)
          | cons d r => exact ⟨d, r, rfl⟩
        refine ⟨_, rfl, _, _, d, rfl, rfl, Nat.le_trans hl (by decide), atI_nat (j := 0) rfl, rfl, ?_⟩
        have eq : isNum (d :: r) = !decide (V.str ⟨#[d]⟩ = V.str (Str.ofString "0")) := by
          unfold isNum
          rw [decide_eq_true c.1.1, decide_eq_true c.1.2, c.2]
          have n1 : ((d :: r) == [48]) = false := beq_eq_false_iff_ne.mpr ne
          rw [n1, e0]
          by_cases h : d = 48
          · subst h; rfl
          · have h' : ¬ V.str (⟨#[d]⟩ : Str) = V.str (S [48]) := fun z => h (by
              have := S_inj (a := [d]) (b := [48]) (V.str.inj z)
              simpa using this)
            rw [decide_eq_false h']
            show (false || !(d == 48)) = true
            rw [beq_eq_false_iff_ne.mpr h]
            rfl
        rw [eq] at q
        exact q
    · have e : isNum l = false := by
        unfold isNum
        rcases Classical.not_and_iff_not_or_not.mp c with z | z
        · rcases Classical.not_and_iff_not_or_not.mp z with y | y
          · rw [decide_eq_false y]; rfl
          · rw [decide_eq_false y, Bool.and_false]; rfl
        · rw [Bool.not_eq_true] at z
          rw [z, Bool.and_false]; rfl
      rw [e] at q
      refine iteD (fun _ => ⟨_, _, rfl, rfl, _, rfl, ?_⟩) (fun _ => ⟨_, rfl, q⟩)
      by_cases c6 : l.length ≤ 6
      · rw [show decide (((S l).length : Int) ≤ 6) = true from decide_eq_true (by rw [el]; omega)]
        refine ⟨_, rfl, l, digN, rfl, _, rfl, ?_⟩
        have em : made l digN = false := by
          cases hm : made l digN with
          | false => rfl
          | true => exact absurd ⟨⟨by omega, c6⟩, hm⟩ c
        rw [em]
        exact q
      · rw [show decide (((S l).length : Int) ≤ 6) = false from decide_eq_false (by rw [el]; omega)]
        exact q
end
end My

set_option maxRecDepth 100000
set_option maxHeartbeats 2000000
namespace My
open PySem PySem.Spec PyProof.Rows L2
/-! ### for k in D, D a dict of the top -/
def ItKD (ks : List V) : It := ⟨fun i _ => i < ks.length, fun i H x H' => H' = H ∧ ks[i]? = some x, fun i _ => ks.length ≤ i⟩
structure KKeys (K : PySem.W.Frag) (d : Addr) (es : Array DictEntry) (n : Nat) (ks : List V) : Prop where
  at_ : K.lookup d = some ⟨.type "dict", none, .dict es n, #[]⟩
  low : (d == sysModules) = false
  size : es.size = ks.length
  key : ∀ (i : Nat) (x : V), ks[i]? = some x → ∃ en, es[i]? = some en ∧ RelV x en.key
theorem turn_KD {P : Program} {w : World} {K : PySem.W.Frag} {tg : Expr} {d : Addr} {es : Array DictEntry} {n : Nat} {ks : List V} (it : Addr) (D : KKeys K d es n ks) : Turn P w K tg (ItKD ks) [it] it (fun i h => h.IsKeyIter it d i ks.length n) where
  mem := by simp
  obj := fun i h st b hb => by
    have e : b = it := by simpa using hb
    subst e
    obtain ⟨oi, e, c, dd⟩ := st
    exact ⟨oi, e, fun v z => by rw [dd] at z; cases z⟩
  keep := fun i h h' st k => st.at fun oi e => k it (by simp) oi e
  item := by
    intro X hP hw hK hc i pins s σ H E I hf st hg
    subst hP hw hK
    have hi : i < ks.length := hg
    obtain ⟨f0, f1, f2, f3, f4, f5⟩ := hf it (by simp)
    have hgd := I.kIn _ _ D.at_
    have hx : ks[i]? = some ks[i] := List.getElem?_eq_getElem hi
    obtain ⟨en, hen, hr⟩ := D.key i _ hx
    refine next_key_item st hgd rfl D.size hen fun h' st' sb => ?_
    have I1 : Inv X pins σ H { s with heap := h' } := I.turned (t' := s.toks) (fun b ob hb e => (sb.2 b hb).trans e) f0 f1 f3 f4 f5
    obtain ⟨oi, e, c, dd⟩ := id st'
    exact ⟨en.key, rfl, go_of (s := { s with heap := h' }) e c dd (by decide) ⟨ks[i], H, I1, hr, ⟨rfl, hx⟩, st', fun b hb => (hf b hb).1⟩⟩
  done := by
    intro X hP hw hK hc i pins s σ H E I hf st hg
    subst hP hw hK
    have hi : ks.length ≤ i := hg
    obtain ⟨f0, f1, f2, f3, f4, f5⟩ := hf it (by simp)
    have hgd := I.kIn _ _ D.at_
    exact next_key_end (I.ok.hd hc) st hgd rfl D.size hi fun h' eb => ⟨rfl, I.turned (t' := s.toks) (fun b ob hb e => eb b ob hb e) f0 f1 f3 f4 f5⟩
  self := fun A i s Q E st h => wpAny_pyIter_keyiter st h
def iKD (ks : List V) (d : Addr) (td : TE) : TI := fun σ H R => td σ H fun x H1 => x = .ref d ∧ R (ItKD ks) H1
theorem pi_KD {X : Cx} {tg e : Expr} {td : TE} {d : Addr} {es : Array DictEntry} {n : Nat} {ks : List V} (D : KKeys X.K d es n ks) (he : PE X e td) : PI X tg e (iKD ks d td) := by
  refine ⟨fun pins s σ H R I h => ?_⟩
  refine thn (he.run pins s σ H _ I h) fun u s1 ⟨x, H1, I1, rx, ex, q⟩ => ?_
  subst ex
  obtain rfl : u = Value.ref d := rx
  have hgd := I1.kIn _ _ D.at_
  refine iter_keys D.low hgd ⟨rfl, rfl, rfl⟩ rfl (pi_one (tk := s1.toks) I1 _ (turn_KD _ D) ⟨_, Heap.get?_push_size _ rfl, rfl, ?_⟩ q)
  rw [D.size] <;> rfl
theorem walk_KD {ks : List V} : Walk (ItKD ks) ks.length (fun _ => True) (YAt ks) where
  goes := fun i H hi _ => hi
  stops := fun H _ => Nat.le_refl _
  yields := fun i H x H' hi _ y => y
end My

set_option maxRecDepth 100000
set_option maxHeartbeats 2000000
namespace My
open PySem PySem.Spec PyProof.Rows L2
/-! ### zip(list, tuple): a walk of the layer over the library's zip of any two iterators -/
/-- turn i: the i-th of the list at a, the i-th of the tuple at b, in a pair that is new -/
def ItLT (K : PySem.W.Frag) (a b : Addr) : It where
  go i H := ∃ (us vs : List V), SqL K H a us ∧ SqT K H b vs ∧ i < us.length ∧ i < vs.length
  yld i H r H' := ∃ (T : Addr) (x y : V), r = .ref T ∧ H T = none ∧ H' = upd H T (.tup [x, y]) ∧ ∀ us vs, SqL K H a us → SqT K H b vs → us[i]? = some x ∧ vs[i]? = some y
  stop i H := ∃ (us vs : List V), SqL K H a us ∧ SqT K H b vs ∧ i ≤ us.length ∧ i ≤ vs.length ∧ (i = us.length ∨ i = vs.length)
/-- what the five cells of such a zip hold at turn i -/
structure LtAt (z TI TO p q a b : Addr) (i : Nat) (h : Heap) : Prop where
  zz : IsZip h z TI TO .none
  ti : IsTupOf2 h TI (.ref p) (.ref q)
  to_ : ∃ x y, IsTupOf2 h TO x y
  it1 : h.IsListIter p a i
  it2 : h.IsTupleIter q b i
theorem sepLT {n a b : Nat} (ha : a < n) (hb : b < n) : ZipSep2 (n + 4) (n + 2) (n + 3) n (n + 1) [n, a] [n + 1, b] := by
  have e : ∀ {x y : Nat}, x ≠ y → ¬ (x : Addr) = y := fun h => h
  refine ⟨e (by omega), e (by omega), e (by omega), e (by omega), by simp, ?_, ?_, e (by omega), by simp, ?_, ?_, ?_, ?_⟩
  all_goals
    simp only [List.mem_cons, List.not_mem_nil, or_false, not_or]
    exact ⟨e (by omega), e (by omega)⟩
theorem mem5 {c z TI TO p q : Addr} (h : c ∈ [z, TI, TO, p, q]) : c = z ∨ c = TI ∨ c = TO ∨ c = p ∨ c = q := by simpa using h
theorem out5 {c z TI TO p q : Addr} (h : c ∉ [z, TI, TO, p, q]) : c ≠ z ∧ c ≠ TO ∧ c ≠ p ∧ c ≠ q := by
  simp only [List.mem_cons, List.not_mem_nil, or_false, not_or] at h
  exact ⟨h.1, h.2.2.1, h.2.2.2.1, h.2.2.2.2⟩
theorem LtAt.lt {z TI TO p q a b : Addr} {i : Nat} {h : Heap} (L : LtAt z TI TO p q a b i h) {c : Addr} (hc : c ∈ [z, TI, TO, p, q]) : ∃ o, h.get? c = some o ∧ ∀ v, o.data ≠ .cell v := by
  obtain ⟨hz, hTI, ⟨x, y, hTO⟩, ⟨o1, g1, _, d1⟩, ⟨o2, g2, _, d2⟩⟩ := L
  rcases mem5 hc with e | e | e | e | e <;> rw [e]
  · exact ⟨_, hz, fun v => by intro t; cases t⟩
  · exact ⟨_, hTI, fun v => by intro t; cases t⟩
  · exact ⟨_, hTO, fun v => by intro t; cases t⟩
  · exact ⟨o1, g1, fun v t => by rw [d1] at t; cases t⟩
  · exact ⟨o2, g2, fun v t => by rw [d2] at t; cases t⟩
theorem turnLT {P : Program} {w : World} {K : PySem.W.Frag} {elts : List Expr} {kk : Nat} {tp : Pos} {a b z TI TO p q : Addr} (S : ZipSep2 z TI TO p q [p, a] [q, b]) (na : a ≠ p) (nb : b ≠ q) :
    Turn P w K (.Tuple elts kk tp) (ItLT K a b) [z, TI, TO, p, q] z (LtAt z TI TO p q a b) where
  mem := List.mem_cons_self ..
  obj := fun i h L c hc => L.lt hc
  keep := fun i h h' L kept => by
    obtain ⟨x, y, hTO⟩ := L.to_
    exact ⟨kept z (by simp) _ L.zz, kept TI (by simp) _ L.ti, ⟨x, y, kept TO (by simp) _ hTO⟩, L.it1.at fun o e => kept p (by simp) o e, L.it2.at fun o e => kept q (by simp) o e⟩
  item := by
    rintro X rfl rfl rfl calm i pins s σ H E I free L ⟨us, vs, hu, hv, lu, lv⟩
    obtain ⟨as_, ra, pa, _⟩ := I.list hu
    obtain ⟨bs_, rb, pb, _⟩ := I.tuple hv
    obtain ⟨x0, y0, hTO⟩ := L.to_
    have la := ra.length
    have lb := rb.length
    have hh : X.A.in1.handled = none := I.ok.hd calm
    refine wpAny_pyNext_zipD2_item S (Draws.list hh p a na as_.toArray) (Draws.tuple hh q b nb bs_.toArray) L.zz L.ti hTO ⟨L.it1, pa.isList⟩ ⟨L.it2, pb⟩ (by simp; omega) (by simp; omega) ?_
    intro u1 u2 h1 tk g1 g2 zr tor d1 d2 pr sz kept
    refine ⟨_, rfl, wpAny_letOwnedTupleGo_zip (s := { s with heap := h1, toks := tk }) zr fun h2 z2 sb => ?_⟩
    have zl : z < s.heap.objs.size := Heap.lt_size L.zz
    have sb' : ∀ c, c ≠ z → h2.get? c = h1.get? c := sb.2
    obtain ⟨v1, e1, r1⟩ := ra.get (x := us[i]) (List.getElem?_eq_getElem lu)
    obtain ⟨v2, e2, r2⟩ := rb.get (x := vs[i]) (List.getElem?_eq_getElem lv)
    have q1 : u1 = v1 := by
      have g1' : as_.toArray[i]? = some u1 := g1
      rw [List.getElem?_toArray, e1] at g1'
      exact (Option.some.inj g1').symm
    have q2 : u2 = v2 := by
      have g2' : bs_.toArray[i]? = some u2 := g2
      rw [List.getElem?_toArray, e2] at g2'
      exact (Option.some.inj g2').symm
    subst q1 q2
    have up : ∀ c o, c ∉ [z, TI, TO, p, q] → s.heap.get? c = some o → h2.get? c = some o := fun c o hc e => by
      obtain ⟨c1, c2, c3, c4⟩ := out5 hc
      rw [sb' c c1]
      exact kept c o c1 c2 c3 c4 e
    have tup : h2.get? s.heap.objs.size = some { cls := .type "tuple", data := .seq #[u1, u2] } := by
      rw [sb' _ (Nat.ne_of_gt zl)]
      exact pr
    have ob : ObjOk X.prog X.w (upd H s.heap.objs.size (.tup [us[i], vs[i]])) h2 s.heap.objs.size (.tup [us[i], vs[i]]) :=
      ⟨(by show 2 ≤ sizeLine; decide), [u1, u2], .cons r1 (.cons r2 .nil), ⟨_, tup, rfl, _, rfl⟩⟩
    refine ⟨.ref s.heap.objs.size, _, I.turnedNew (t' := tk) (ch := [z, TI, TO, p, q]) up free (Nat.le_refl _) ob, rfl, ⟨_, us[i], vs[i], rfl, I.hok.fresh (Nat.le_refl _), rfl, fun us' vs' hu' hv' => ?_⟩, ?_, fun c hc => ?_⟩
    · rw [I.list_inj hu' hu, I.tuple_inj hv' hv]
      exact ⟨List.getElem?_eq_getElem lu, List.getElem?_eq_getElem lv⟩
    · refine ⟨z2, ?_, ⟨u1, u2, (sb' _ S.TOz).trans tor⟩, d1.1.at fun o e => (sb' _ S.zi1.symm).trans e, d2.1.at fun o e => (sb' _ S.zi2.symm).trans e⟩
      exact (sb' _ S.TIz).trans (kept TI _ S.TIz S.TITO S.TIi1 S.TIi2 L.ti)
    · obtain ⟨o, e, _⟩ := L.lt hc
      rw [upd_ne (Nat.ne_of_lt (Heap.lt_size e))]
      exact (free c hc).1
  done := by
    rintro X rfl rfl rfl calm i pins s σ H E I free L ⟨us, vs, hu, hv, lu, lv, en⟩
    obtain ⟨as_, ra, pa, _⟩ := I.list hu
    obtain ⟨bs_, rb, pb, _⟩ := I.tuple hv
    obtain ⟨x0, y0, hTO⟩ := L.to_
    have la := ra.length
    have lb := rb.length
    have hh : X.A.in1.handled = none := I.ok.hd calm
    refine wpAny_pyNext_zipD2_end S (Draws.list hh p a na as_.toArray) (Draws.tuple hh q b nb bs_.toArray) L.zz L.ti hTO ⟨L.it1, pa.isList⟩ ⟨L.it2, pb⟩ (by simp; omega) (by simp; omega) (by simp; omega) ?_
    intro h1 tk kept
    refine ⟨rfl, I.turnedL (t' := tk) (ch := [z, TI, TO, p, q]) (fun c o hc e => ?_) free⟩
    obtain ⟨c1, c2, c3, c4⟩ := out5 hc
    exact kept c o c1 c2 c3 c4 e
  self := fun A i s Q E L h => wpAny_pyIter_zip L.zz h
/-- the reading of zip(e, e2), a list and a tuple -/
def iLT (K : PySem.W.Frag) (ta : TA) : TI := fun σ H R => ta σ H fun ws H1 => ∃ a b us vs, ws = [.ref a, .ref b] ∧ SqL K H1 a us ∧ SqT K H1 b vs ∧ R (ItLT K a b) H1
theorem pi_zipLT {X : Cx} {e e2 : Expr} {ta : TA} {p pos tpos : Pos} {elts : List Expr} {kk : Nat} (hg : Gl X "zip") (hm : X.mg "zip" = none) (args : PA X [e, e2] ta)
    (h1 : starEach [e, e2] X.env = (false, eval e X.env) :: starEach [e2] X.env := by rfl) (h2 : (backTo pos (starEach [e2] X.env)).any (·.1) = false := by rfl) :
    PI X (.Tuple elts kk tpos) (.Call (.Name "zip" p) [e, e2] [] pos) (iLT X.K ta) := by
  constructor
  intro pins s σ H R I rd
  refine Call_ (ld_blt I hg hm PyProof.Rows.boot_zip (PyProof.Rows.callWith_type1 (thn (args.run pos pins s σ H _ I rd) ?_) h1 h2))
  rintro ws s1 ⟨vs0, H1, I1, rel, a, b, us, vs, rfl, hu, hv, r⟩
  cases rel with
  | cons r1 rel =>
    cases rel with
    | cons r2 rel =>
      cases rel
      cases r1
      cases r2
      obtain ⟨as_, ra, pa, _⟩ := I1.list hu
      obtain ⟨bs_, rb, pb, _⟩ := I1.tuple hv
      obtain ⟨ob, gb, _⟩ := id pb
      have la : a < s1.heap.objs.size := pa.lt
      have lb : b < s1.heap.objs.size := Heap.lt_size gb
      refine zip_begins2 (begins_list a as_.toArray) (begins_tuple b bs_.toArray) pa.isList pb fun h' hz hTI hTO g1 g2 sz kept => wpAny_pyIter_zip hz ?_
      refine ⟨s1.heap.objs.size + 4, [s1.heap.objs.size + 4, s1.heap.objs.size + 2, s1.heap.objs.size + 3, s1.heap.objs.size, s1.heap.objs.size + 1], _, _, H1, rfl, I1.kept (t' := s1.toks) kept,
        turnLT (sepLT la lb) (Nat.ne_of_lt la) (Nat.ne_of_lt (Nat.lt_succ_of_lt lb)), ⟨hz, hTI, ⟨_, _, hTO⟩, ⟨_, g1, rfl, rfl⟩, ⟨_, g2, rfl, rfl⟩⟩, fun c hc => ?_, r⟩
      have hle : s1.heap.objs.size ≤ c := by
        rcases mem5 hc with e | e | e | e | e <;> rw [e]
        · exact Nat.le_add_right _ _
        · exact Nat.le_add_right _ _
        · exact Nat.le_add_right _ _
        · exact Nat.le_refl _
        · exact Nat.le_add_right _ _
      exact I1.fpOk hle (I1.hok.fresh hle)
theorem walk_LT {K : PySem.W.Frag} {a b : Addr} {us vs : List V} (h : us.length = vs.length) : Walk (ItLT K a b) us.length (fun H => SqL K H a us ∧ SqT K H b vs)
    (fun i H r H' => ∃ (T : Addr) (x y : V), r = .ref T ∧ H T = none ∧ H' = upd H T (.tup [x, y]) ∧ us[i]? = some x ∧ vs[i]? = some y) where
  goes := fun i H hi g => ⟨us, vs, g.1, g.2, hi, by omega⟩
  stops := fun H g => ⟨us, vs, g.1, g.2, Nat.le_refl _, by omega, .inl rfl⟩
  yields := fun i H r H' hi g ⟨T, x, y, e, n, u, k⟩ => ⟨T, x, y, e, n, u, k us vs g.1 g.2⟩
end My

set_option maxRecDepth 100000
set_option maxHeartbeats 2000000
namespace My
open PySem PySem.Spec PyProof.Rows L2
/-- BOUNDS, as the top has written it -/
structure Bnd (K : PySem.W.Frag) (w : World) (mg : Str → Option Value) (dB : Addr) (tB : Nat → Addr) (pB : Nat → List Addr) : Prop where
  g : mg "BOUNDS" = some (.ref dB)
  D : ∃ es n, KDict K w dB es n
  at_ : ∀ z : List Nat, PySem.W.nsIn K dB (S z) = some ((rankOf z).map fun k => Value.ref (tB k))
  tup : ∀ k, k ≤ 4 → ∀ H, SqT K H (tB k) ((pB k).map V.ref)
  len : ∀ k, k ≤ 4 → (pB k).length = (bds k).length
  pair : ∀ k, k ≤ 4 → ∀ (i : Nat) (p : Addr) (b : Nat × Nat), (pB k)[i]? = some p → (bds k)[i]? = some b → ∀ H, SqT K H p [.int (b.1 : Nat), .int (b.2 : Nat)]
theorem rank_kind {k : Nat} (h : k ≤ 4) : rankOf (kindN k) = some k := by
  have : k = 0 ∨ k = 1 ∨ k = 2 ∨ k = 3 ∨ k = 4 := by omega
  rcases this with rfl | rfl | rfl | rfl | rfl <;> decide +kernel
theorem Bnd.get {K : PySem.W.Frag} {w : World} {mg : Str → Option Value} {dB : Addr} {tB : Nat → Addr} {pB : Nat → List Addr} (B : Bnd K w mg dB tB pB) {k : Nat} (h : k ≤ 4) : KDct K w dB (S (kindN k)) (.ref (tB k)) := by
  obtain ⟨es, n, D⟩ := B.D
  refine ⟨es, n, .ref (tB k), D.at_, D.lit, ?_, rfl⟩
  rw [B.at_, rank_kind h]
  rfl
def wV (l : List Nat) : V := .str (S l)
def nV (n : Nat) : V := .int (n : Int)
theorem int_val {l : List Nat} (h : isNum l = true) : PySem.intText? (S l) = some ((valN l : Nat) : Int) ∧ (S l).length ≤ 640 := by
  have q := (isNum_iff l).mp h
  have h1 : (S l).length ≤ 640 := by rw [S_len]; have := q.1.1.2; omega
  refine ⟨PySem.intText_digits (x := S l) (fun c hc => q.1.2 c hc) ?_ (Nat.le_trans h1 (by decide)), h1⟩
  intro z
  have z' : l = [] := z
  rw [z'] at q
  exact absurd q.1.1.1 (by decide)
theorem numsM_split {ws : List (List Nat)} {bs : List (Nat × Nat)} {i : Nat} {w : List Nat} {b : Nat × Nat} (h1 : ws[i]? = some w) (h2 : bs[i]? = some b) :
    numsM (ws.drop i) (bs.drop i) = if numOk w b = true then (numsM (ws.drop (i + 1)) (bs.drop (i + 1))).map (valN w :: ·) else none := by
  obtain ⟨l1, rfl⟩ := List.getElem?_eq_some_iff.mp h1
  obtain ⟨l2, rfl⟩ := List.getElem?_eq_some_iff.mp h2
  rw [List.drop_eq_getElem_cons l1, List.drop_eq_getElem_cons l2]
  rfl
section
variable {P : Program} {w : World} {K : PySem.W.Frag} {mg : Str → Option Value} {base : Heap}
/-! ### numbers_in -/
theorem scNums : FnScope ["words", "kind", "numbers", "word", "bound"] ["words", "kind"] (defScope sNums) := ⟨rfl, rfl, rfl, by decide +kernel, rfl, by decide +kernel, by decide +kernel⟩
def spNums (K : PySem.W.Frag) : Sp := fun vs H Q _ => ∃ (a : Addr) (ws : List (List Nat)) (k : Nat), vs = [.ref a, wV (kindN k)] ∧ k ≤ 4 ∧ SqL K H a (ws.map wV) ∧ ws.length = (bds k).length ∧ (∀ l ∈ ws, l.length ≤ 16384) ∧
  (numsM ws (bds k) = none → ∀ H', Same H H' → Q .non H') ∧ (∀ ns, numsM ws (bds k) = some ns → ∀ H' p, Same H H' → H p = none → H' p = some (.lst (ns.map nV)) → Q (.ref p) H')
theorem ok_nums {f fN dB : Addr} {fd fdN : FuncData} {tB : Nat → Addr} {pB : Nat → List Addr} (F : Fun K "numbers_in" "numbers_in" sNums f fd) (G : Df P w K mg base 2 "is_number" ["word"] spNum fN fdN) (B : Bnd K w mg dB tB pB) (mz : mg "zip" = none) (mi : mg "int" = none) :
    FnOk P w K mg base CX0 3 f fd ["words", "kind"] (spNums K) := by
  refine F.ok scNums (fun vs H Q E h => ?_) (fun cdv A outer s H vs Q E hr h => ?_)
  · obtain ⟨a, ws, k, rfl, _⟩ := h
    rfl
  · obtain ⟨a, ws, k, rfl, hk, hS, hlen, hsm, q0, q1⟩ := h
    refine ⟨_, pss_cons (ps_set (i := 2) scNums.nd rfl (.inl rfl) (pe_lst pa_nil))
      (pss_cons (ps_for PassesOwn.never rfl (pi_zipLT (by rfl) mz (pa_cons (pv 0) (pa_cons (pe_ix ix_kdict (pe_glob (v := .ref dB) rfl B.g rfl) (pv 1) (fun _ _ => rfl)) pa_nil)))
          (pg_tup rfl (pgs_cons (pg_name (i := 3) scNums.nd rfl (.inl rfl)) (pgs_cons (pg_name (i := 4) scNums.nd rfl (.inl rfl)) pgs_nil)))
        (pss_cons (ps_if (PW.pt (pw_or (pt_not (pt_val (pe_call G.ok hr rfl G.g G.kp G.b .nil pass0 (pa_cons (pv 3) pa_nil))))
            (pw_or1 (pt_not (pt_chain op_le op_le (pe_ix ix_tup (pv 4) pe_int (fun _ _ => rfl)) (pe_callTy call_int_str (by rfl) mi PyProof.Rows.boot_int (pa_cons (pv 3) pa_nil)) (pe_ix ix_tup (pv 4) pe_int (fun _ _ => rfl)))))))
            (pss_one (ps_ret pe_non)) pss_nil)
        (pss_one (ps_expr (pe_bm PySem.F.plainAttrs_list PySem.F.slot_list_append PySem.F.type_list_append mt_append (pv 2) (pa_cons (pe_callTy call_int_str (by rfl) mi PyProof.Rows.boot_int (pa_cons (pv 3) pa_nil)) pa_nil))))))
      (pss_one (ps_ret (pv 2)))), ?_⟩
    refine ⟨Nat.zero_le _, fun o no => ?_⟩
    have s1 : Same H (upd H o (.lst [])) := same_new no
    refine ⟨_, rfl, _, rfl, _, _, _, rfl, rfl, B.get hk, a, tB k, ws.map wV, (pB k).map V.ref, rfl, s1.seq hS, B.tup k hk _, ?_⟩
    refine for_it (walk_LT (us := ws.map wV) (vs := (pB k).map V.ref) (by rw [List.length_map, List.length_map, hlen, B.len k hk])) (fun i σ H' => ∃ v3 v4, σ = [some (.ref a), some (wV (kindN k)), some (.ref o), v3, v4] ∧ Same H H' ∧ i ≤ ws.length ∧
      H' o = some (.lst (((ws.take i).map valN).map nV)) ∧ numsM ws (bds k) = (numsM (ws.drop i) ((bds k).drop i)).map (((ws.take i).map valN) ++ ·)) ?_ ?_ ?_ ?_
    · refine ⟨none, none, rfl, s1, Nat.zero_le _, upd_same, ?_⟩
      show _ = (numsM ws (bds k)).map fun x => x
      rw [Option.map_id']
    · rintro i σ H' hi ⟨v3, v4, rfl, sm, _⟩
      exact ⟨sm.seq hS, B.tup k hk _⟩
    · rintro i r σ H1 H2 hi ⟨v3, v4, rfl, sm, hil, ho, hn⟩ ⟨T, x, y, rfl, nT, rfl, hx, hy⟩
      rw [List.length_map] at hi
      obtain ⟨l, hl, rfl⟩ : ∃ l, ws[i]? = some l ∧ x = wV l := by
        rw [List.getElem?_map, List.getElem?_eq_getElem hi] at hx
        exact ⟨ws[i], List.getElem?_eq_getElem hi, (Option.some.inj hx).symm⟩
      have hib : i < (bds k).length := by omega
      have hip : i < (pB k).length := by rw [B.len k hk]; exact hib
      obtain ⟨pt, hpt, rfl⟩ : ∃ pt, (pB k)[i]? = some pt ∧ y = .ref pt := by
        rw [List.getElem?_map, List.getElem?_eq_getElem hip] at hy
        exact ⟨(pB k)[i], List.getElem?_eq_getElem hip, (Option.some.inj hy).symm⟩
      obtain ⟨b, hb⟩ : ∃ b, (bds k)[i]? = some b := ⟨_, List.getElem?_eq_getElem hib⟩
      have hpair := B.pair k hk i pt b hpt hb
      have smT : Same H1 (upd H1 T (.tup [wV l, .ref pt])) := same_new nT
      have hoT : (upd H1 T (.tup [wV l, .ref pt])) o = some (.lst (((ws.take i).map valN).map nV)) := smT _ _ ho
      have hlm : l.length ≤ 16384 := hsm l (List.mem_of_getElem? hl)
      have sp := numsM_split hl hb
      refine ⟨T, [wV l, .ref pt], rfl, .inl (.inl upd_same), rfl, wV l, [.ref pt], rfl, .ref pt, [], rfl, rfl, ?_⟩
      refine ⟨_, rfl, l, rfl, hlm, _, rfl, ?_⟩
      cases en : isNum l with
      | false =>
        have e0 : numsM ws (bds k) = none := by
          rw [hn, sp, if_neg (by unfold numOk; rw [en]; simp)]
          rfl
        exact q0 e0 _ (sm.trans smT)
      | true =>
        obtain ⟨iv, il⟩ := int_val en
        refine ⟨_, rfl, _, _, _, _, rfl, rfl, hpair _, atI_nat (j := 0) rfl, _, rfl, _, _, rfl, iv, il, _, _, rfl, rfl, _, rfl, ?_⟩
        by_cases c : b.1 ≤ valN l ∧ valN l ≤ b.2
        · have okb : numOk l b = true := numOk_iff.mpr ⟨en, c.1, c.2⟩
          rw [decide_eq_true (show ((b.1 : Nat) : Int) ≤ ((valN l : Nat) : Int) by omega)]
          refine ⟨_, rfl, _, _, _, _, rfl, rfl, hpair _, atI_nat (j := 1) rfl, _, _, rfl, rfl, _, rfl, ?_⟩
          rw [decide_eq_true (show ((valN l : Nat) : Int) ≤ ((b.2 : Nat) : Int) by omega)]
          refine ⟨_, rfl, .inl ⟨rfl, _, SqL.of hoT⟩, _, rfl, _, _, rfl, iv, il, o, _, _, rfl, rfl, hoT, ?_, ?_⟩
          · rw [List.length_map, List.length_map, List.length_take]
            have : (bds k).length ≤ 3 := by
              have : k = 0 ∨ k = 1 ∨ k = 2 ∨ k = 3 ∨ k = 4 := by omega
              rcases this with rfl | rfl | rfl | rfl | rfl <;> decide
            exact Nat.lt_of_le_of_lt (Nat.min_le_right _ _) (by rw [hlen]; exact Nat.lt_of_le_of_lt this (by decide))
          · refine ⟨_, _, rfl, fun c' u e => ?_, by omega, ?_, ?_⟩
            · rw [upd_ne (ne_of_none e no)]
              exact smT _ _ (sm _ _ e)
            · rw [upd_same, take_snoc hl, List.map_append, List.map_append]
              rfl
            · rw [hn, sp, if_pos okb, take_snoc hl, List.map_append, Option.map_map]
              congr 1
              funext z
              show _ ++ (valN l :: z) = (_ ++ [valN l]) ++ z
              rw [List.append_assoc]
              rfl
        · have e0 : numsM ws (bds k) = none := by
            rw [hn, sp, if_neg (fun z => c (numOk_iff.mp z).2)]
            rfl
          by_cases c1 : b.1 ≤ valN l
          · rw [decide_eq_true (show ((b.1 : Nat) : Int) ≤ ((valN l : Nat) : Int) by omega)]
            refine ⟨_, rfl, _, _, _, _, rfl, rfl, hpair _, atI_nat (j := 1) rfl, _, _, rfl, rfl, _, rfl, ?_⟩
            rw [decide_eq_false (show ¬ ((valN l : Nat) : Int) ≤ ((b.2 : Nat) : Int) by omega)]
            exact q0 e0 _ (sm.trans smT)
          · rw [decide_eq_false (show ¬ ((b.1 : Nat) : Int) ≤ ((valN l : Nat) : Int) by omega)]
            exact ⟨_, rfl, q0 e0 _ (sm.trans smT)⟩
    · rintro σ H' ⟨v3, v4, rfl, sm, hil, ho, hn⟩
      rw [List.length_map] at ho hn
      rw [List.take_length] at ho hn
      have e : numsM ws (bds k) = some (ws.map valN) := by
        rw [hn, List.drop_length]
        show some (ws.map valN ++ []) = _
        rw [List.append_nil]
      exact ⟨_, rfl, q1 _ e _ o sm no ho⟩
end
end My

set_option maxRecDepth 100000
set_option maxHeartbeats 2000000
namespace My
open PySem PySem.Spec PyProof.Rows L2
theorem iteN {p A B : Prop} [Decidable p] (h : ¬ p → A) (h' : p → B) : if (!decide p) = true then A else B := by
  by_cases e : p
  · rw [decide_eq_true e]
    exact iteF (h' e)
  · rw [decide_eq_false e]
    exact iteT (h e)
/-! ### split at one sign is cutN -/
theorem spl_cut (c : Nat) : ∀ (l acc : List Nat), TL.spl [c] 0 acc l = (match cutN c l with | [] => [acc] | w :: r => (acc ++ w) :: r)
  | [], acc => by
    rw [TL.spl_nil]
    show [acc] = [acc ++ []]
    rw [List.append_nil]
  | x :: r, acc => by
    have ne := cutN_ne c r
    unfold cutN
    by_cases h : x = c
    · rw [if_pos h, TL.spl_hit (by rw [h]; show ([c] == [c]) = true; exact beq_self_eq_true _)]
      show acc :: TL.spl [c] 0 [] r = (acc ++ []) :: cutN c r
      rw [spl_cut c r [], List.append_nil]
      cases e : cutN c r with
      | nil => exact absurd e ne
      | cons w l => rfl
    · rw [if_neg h, TL.spl_miss (by show ([x] == [c]) = false; rw [beq_eq_false_iff_ne]; intro z; exact h (List.cons.inj z).1), spl_cut c r]
      cases e : cutN c r with
      | nil => exact absurd e ne
      | cons w l =>
        show (acc ++ [x] ++ w) :: l = (acc ++ (x :: w)) :: l
        rw [List.append_assoc]
        rfl
theorem split_cutN (c : Nat) (hc : c < 256) (l : List Nat) : Txt.split (S l) (S [c]) = (cutN c l).map S := by
  have h := TL.split_spl (S l) (S [c]) (by show [c] ≠ []; simp) (TL.kind_ok (by simp [S, hc]))
  have h2 : (Txt.split (S l) (S [c])).map (fun z : Str => z.cps.toList) = cutN c l := by
    refine Eq.trans h ?_
    show TL.spl [c] 0 [] l = _
    rw [spl_cut]
    cases e : cutN c l with
    | nil => exact absurd e (cutN_ne c l)
    | cons w r => rfl
  rw [← h2, List.map_map]
  have : (S ∘ fun z : Str => z.cps.toList) = id := by
    funext z
    rfl
  rw [this, List.map_id]
theorem cutN_small (c : Nat) : ∀ (l : List Nat), ∀ w ∈ cutN c l, w.length ≤ l.length
  | [], w, h => by
    have e : w = [] := by simpa [cutN] using h
    rw [e]
    exact Nat.le_refl _
  | x :: r, w, h => by
    have ih := cutN_small c r
    have ne := cutN_ne c r
    unfold cutN at h
    by_cases hx : x = c
    · rw [if_pos hx] at h
      rcases List.mem_cons.mp h with e | e
      · rw [e]; exact Nat.zero_le _
      · exact Nat.le_succ_of_le (ih w e)
    · rw [if_neg hx] at h
      cases e : cutN c r with
      | nil => exact absurd e ne
      | cons v m =>
        rw [e] at h ih
        rcases List.mem_cons.mp h with q | q
        · rw [q]
          exact Nat.succ_le_succ (ih v (List.mem_cons_self ..))
        · exact Nat.le_succ_of_le (ih w (List.mem_cons_of_mem _ q))
theorem cutN_count (c : Nat) : ∀ (l : List Nat), (cutN c l).length ≤ l.length + 1
  | [] => Nat.le_refl _
  | x :: r => by
    have ih := cutN_count c r
    have ne := cutN_ne c r
    unfold cutN
    by_cases hx : x = c
    · rw [if_pos hx]
      exact Nat.succ_le_succ ih
    · rw [if_neg hx]
      cases e : cutN c r with
      | nil => exact absurd e ne
      | cons v m =>
        rw [e] at ih
        exact Nat.le_succ_of_le ih
/-! ### rows in the heap -/
def rowF (y : Nat × List Nat × List Nat) (q : Addr) : List (Str × V) := [("kind", wV (kindN y.1)), ("name", wV y.2.1), ("numbers", .ref q)]
def RowAt (C : Addr) (H : Hp) (a : Addr) (y : Nat × List Nat × List Nat) : Prop := ∃ dx q, H a = some (.ins C dx (rowF y q)) ∧ H q = some (.lst (y.2.2.map nV))
theorem RowAt.same {C : Addr} {H H' : Hp} {a : Addr} {y : Nat × List Nat × List Nat} (h : RowAt C H a y) (s : Same H H') : RowAt C H' a y := by
  obtain ⟨dx, q, h1, h2⟩ := h
  exact ⟨dx, q, s _ _ h1, s _ _ h2⟩
theorem lk_hit {k : Str} {v : V} {r : List (Str × V)} : List.lookup k ((k, v) :: r) = some v := by
  simp only [List.lookup, beq_self_eq_true]
theorem lk_miss {k g : Str} {v : V} {r : List (Str × V)} (h : (k == g) = false) : List.lookup k ((g, v) :: r) = List.lookup k r := by
  simp only [List.lookup, h]
theorem rowF_kind (y : Nat × List Nat × List Nat) (q : Addr) : (rowF y q).lookup ("kind" : Str) = some (wV (kindN y.1)) := lk_hit
theorem rowF_name (y : Nat × List Nat × List Nat) (q : Addr) : (rowF y q).lookup ("name" : Str) = some (wV y.2.1) := (lk_miss (by decide +kernel)).trans lk_hit
theorem rowF_nums (y : Nat × List Nat × List Nat) (q : Addr) : (rowF y q).lookup ("numbers" : Str) = some (.ref q) := (lk_miss (by decide +kernel)).trans ((lk_miss (by decide +kernel)).trans lk_hit)
theorem rowF_put (a b c : V) : putF "numbers" c (putF "name" b (putF "kind" a [])) = ([("kind", a), ("name", b), ("numbers", c)] : List (Str × V)) := by
  have e1 : ¬ (Str.ofString "kind" = Str.ofString "name") := by decide +kernel
  have e2 : ¬ (Str.ofString "kind" = Str.ofString "numbers") := by decide +kernel
  have e3 : ¬ (Str.ofString "name" = Str.ofString "numbers") := by decide +kernel
  simp only [putF, if_neg e1, if_neg e2, if_neg e3]
structure RowT (K : PySem.W.Frag) (mg : Str → Option Value) (C : Addr) : Prop where
  cl : Cls K C
  nK : NoAttr K C "kind"
  nN : NoAttr K C "name"
  nU : NoAttr K C "numbers"
  g : mg "Row" = some (.ref C)
section
variable {P : Program} {w : World} {K : PySem.W.Frag} {mg : Str → Option Value} {base : Heap}
theorem scRowI : FnScope ["self", "kind", "name", "numbers"] ["self", "kind", "name", "numbers"] (defScope sRowI) := ⟨rfl, rfl, rfl, by decide +kernel, rfl, by decide +kernel, by decide +kernel⟩
def spRowI (C : Addr) : Sp := fun vs H Q _ => ∃ (p dx : Addr) (a b c : V), vs = [.ref p, a, b, c] ∧ H p = some (.ins C dx []) ∧
  ∀ H' : Hp, H' p = some (.ins C dx [("kind", a), ("name", b), ("numbers", c)]) → (∀ d o, H d = some o → d ≠ p → H' d = some o) → Q .non H'
theorem ok_rowI {f C : Addr} {fd : FuncData} (F : Fun K "__init__" "Row.__init__" sRowI f fd) (T : RowT K mg C) : FnOk P w K mg base CX0 1 f fd ["self", "kind", "name", "numbers"] (spRowI C) := by
  refine F.ok scRowI (fun vs H Q E h => ?_) (fun cdv A outer s H vs Q E hr h => ?_)
  · obtain ⟨p, dx, a, b, c, rfl, _⟩ := h
    rfl
  · obtain ⟨p, dx, a, b, c, rfl, hp, k⟩ := h
    refine ⟨_, pss_cons (ps_fld (pv 0) (pv 1) rfl) (pss_cons (ps_fld (pv 0) (pv 2) rfl) (pss_one (ps_fld (pv 0) (pv 3) rfl))), ?_⟩
    refine ⟨_, rfl, _, rfl, p, C, dx, [], rfl, hp, T.cl, T.nK, (by show 0 < 1000; decide), ?_⟩
    refine ⟨_, rfl, _, rfl, p, C, dx, _, rfl, upd_same, T.cl, T.nN, (by show 1 < 1000; decide), ?_⟩
    refine ⟨_, rfl, _, rfl, p, C, dx, _, rfl, upd_same, T.cl, T.nU, ?_, ?_⟩
    · have e1 : ¬ (Str.ofString "kind" = Str.ofString "name") := by decide +kernel
      simp only [putF, if_neg e1]
      show 2 < 1000
      decide
    · refine k _ ?_ fun d o e hd => ?_
      · rw [rowF_put]
        exact upd_same
      · rw [upd_ne hd, upd_ne hd, upd_ne hd]
        exact e
/-! ### row_of -/
theorem scRow : FnScope ["signs", "words", "kind", "names", "numbers"] ["signs"] (defScope sRow) := ⟨rfl, rfl, rfl, by decide +kernel, rfl, by decide +kernel, by decide +kernel⟩
def spRow (C : Addr) : Sp := fun vs H Q _ => ∃ (l : List Nat), vs = [wV l] ∧ l.length ≤ 16384 ∧
  (rowM (cutN 32 l) = none → ∀ H', Same H H' → Q .non H') ∧ (∀ y, rowM (cutN 32 l) = some y → ∀ H' p dx q, Same H H' → H p = none → H q = none → H' p = some (.ins C dx (rowF y q)) → H' q = some (.lst (y.2.2.map nV)) → Q (.ref p) H')
theorem cut_from (ws : List (List Nat)) (k : Nat) : cutV (ws.map wV) (some (k : Int)) none = (ws.drop k).map wV := by
  unfold cutV
  rw [HT.sIx_nat, HT.sIx_none, List.length_map]
  by_cases h : k ≤ ws.length
  · rw [Nat.min_eq_left h, List.map_drop]
    exact List.take_of_length_le (by rw [List.length_drop, List.length_map]; exact Nat.le_refl _)
  · rw [Nat.min_eq_right (by omega), Nat.sub_self, List.take_zero, List.drop_eq_nil_of_le (by omega)]
    rfl
theorem ok_row {f fN fM fI dB C : Addr} {fd fdN fdM fdI : FuncData} {tB : Nat → Addr} {pB : Nat → List Addr} (F : Fun K "row_of" "row_of" sRow f fd) (GN : Df P w K mg base 2 "is_name" ["word"] spName fN fdN) (GM : Df P w K mg base 3 "numbers_in" ["words", "kind"] (spNums K) fM fdM)
    (B : Bnd K w mg dB tB pB) (T : RowT K mg C) (M : Mk K C fI) (bI : Binds K fdI ["self", "kind", "name", "numbers"] []) (GI : FnOk P w K mg base CX0 1 fI fdI ["self", "kind", "name", "numbers"] (spRowI C)) (ml : mg "len" = none) :
    FnOk P w K mg base CX0 4 f fd ["signs"] (spRow C) := by
  obtain ⟨es, n, D⟩ := id B.D
  refine F.ok scRow (fun vs H Q E h => ?_) (fun cdv A outer s H vs Q E hr h => ?_)
  · obtain ⟨l, rfl, _⟩ := h
    rfl
  · obtain ⟨l, rfl, hl, q0, q1⟩ := h
    have hr2 : Room 2 _ := hr.mono (by decide)
    refine ⟨_, pss_cons (ps_set (i := 1) scRow.nd rfl (.inl rfl) (pe_split (pv 0) pe_str)) <|
      pss_cons (ps_set (i := 2) scRow.nd rfl (.inl rfl) (pe_ix ix_list (pv 1) pe_int (fun _ _ => rfl))) <|
      pss_cons (ps_if (pt_cmpR (op_notIn_kd D) (pv 2) (pe_glob (v := .ref dB) rfl B.g rfl) (by rfl)) (pss_one (ps_ret pe_non)) pss_nil) <|
      pss_cons (ps_set (i := 3) scRow.nd rfl (.inl rfl) (pe_ifExp (pt_cmpR op_eq (pv 2) pe_str (nomark _)) pe_int pe_int)) <|
      pss_cons (ps_if (pt_cmpR op_ne (pe_callB call_len_seq (by rfl) ml PySem.boot_len (pa_cons (pv 1) pa_nil))
          (pe_op op_add (pe_op op_add pe_int (pv 3)) (pe_callB call_len_seq (by rfl) ml PySem.boot_len (pa_cons (pe_ix ix_kdict (pe_glob (v := .ref dB) rfl B.g rfl) (pv 2) (fun _ _ => rfl)) pa_nil))) (nomark _)) (pss_one (ps_ret pe_non)) pss_nil) <|
      pss_cons (ps_if (PW.pt (pw_and (pt_cmpR op_eq (pv 3) pe_int (nomark _)) (pw_and1 (pt_not (pt_val (pe_call GN.ok hr2 rfl GN.g GN.kp GN.b .nil pass0 (pa_cons (pe_ix ix_list (pv 1) pe_int (fun _ _ => rfl)) pa_nil))))))) (pss_one (ps_ret pe_non)) pss_nil) <|
      pss_cons (ps_set (i := 4) scRow.nd rfl (.inl rfl) (pe_call GM.ok hr rfl GM.g GM.kp GM.b .nil pass0 (pa_cons (pe_slice sl_list (pv 1) (po_some (pe_op op_add pe_int (pv 3))) po_none) (pa_cons (pv 2) pa_nil)))) <|
      pss_cons (ps_if (pt_cmpR op_isN (pv 4) pe_non (nomark _)) (pss_one (ps_ret pe_non)) pss_nil) <|
      pss_one (ps_ret (pe_make M GI hr2 rfl T.g bI .nil pass0 (pa_cons (pv 2) (pa_cons (pe_ifExp (pt_cmpR op_eq (pv 3) pe_int (nomark _)) (pe_ix ix_list (pv 1) pe_int (fun _ _ => rfl)) pe_str) (pa_cons (pv 4) pa_nil))))), ?_⟩
    have eS : Str.ofString " " = S [32] := by decide +kernel
    refine ⟨_, rfl, ⟨_, rfl⟩, S l, Str.ofString " ", rfl, rfl, (by decide +kernel), ?_, fun a na => ?_⟩
    · rw [S_len]
      exact Nat.le_trans (Nat.add_le_add_right hl 2) (by decide)
    rw [eS, split_cutN 32 (by decide), List.map_map]
    have hsm := fun w hw => Nat.le_trans (cutN_small 32 l w hw) hl
    have hct := cutN_count 32 l
    have hne := cutN_ne 32 l
    generalize hws : cutN 32 l = ws at *
    have s1 : Same H (upd H a (.lst (ws.map wV))) := same_new na
    obtain ⟨w0, rest, ew⟩ : ∃ w0 rest, ws = w0 :: rest := by
      cases ws with
      | nil => exact absurd rfl hne
      | cons x r => exact ⟨x, r, rfl⟩
    have g0 : ws.getD 0 [] = w0 := by rw [ew]; rfl
    have i0 : (ws.map wV)[0]? = some (wV w0) := by rw [ew]; rfl
    have hL : SqL K (upd H a (.lst (ws.map wV))) a (ws.map wV) := SqL.of upd_same
    refine ⟨_, rfl, a, ws.map wV, 0, wV w0, rfl, rfl, hL, atI_nat (j := 0) i0, ?_⟩
    cases ek : rankOf w0 with
    | none =>
      have hns : PySem.W.nsIn K dB (S w0) = some none := by rw [B.at_, ek]; rfl
      refine ⟨_, rfl, S w0, none, rfl, rfl, hns, _, rfl, ?_⟩
      refine q0 ?_ _ s1
      unfold rowM
      rw [g0, ek]
    | some k =>
      have hk : k ≤ 4 ∧ w0 = kindN k := by
        rcases rankOf_some ek with ⟨rfl, e⟩ | ⟨rfl, e⟩ | ⟨rfl, e⟩ | ⟨rfl, e⟩ | ⟨rfl, e⟩ <;> exact ⟨by decide, e⟩
      obtain ⟨hk, ekw⟩ := hk
      have hns : PySem.W.nsIn K dB (S w0) = some (some (.ref (tB k))) := by rw [B.at_, ek]; rfl
      refine ⟨_, rfl, S w0, some (.ref (tB k)), rfl, rfl, hns, _, rfl, ?_⟩
      have hD : KDct K w dB (S w0) (.ref (tB k)) := by rw [ekw]; exact B.get hk
      have eY : Str.ofString "yeast" = S (kindN 4) := by decide +kernel
      have lt : ((pB k).map V.ref).length = (bds k).length := by rw [List.length_map, B.len k hk]
      have ll : (ws.map wV).length = ws.length := List.length_map ..
      refine ⟨_, rfl, rfl, _, rfl, iteD (fun e4 => ?_) (fun e4 => ?_)⟩
      · have k4 : k = 4 := by
          rw [eY] at e4
          have := S_inj (V.str.inj e4)
          rw [this, rank_kind (by decide)] at ek
          exact (Option.some.inj ek).symm
        subst k4
        refine ⟨_, rfl, a, _, rfl, .inl hL, _, rfl, _, _, rfl, rfl, _, rfl, dB, S w0, _, rfl, rfl, hD, tB 4, _, rfl, .inr (B.tup 4 hk _), _, _, rfl, rfl, rfl, _, rfl, iteN (fun e => ?_) (fun e => ?_)⟩
        · refine q0 ?_ _ s1
          unfold rowM
          rw [g0, ek]
          dsimp only
          rw [if_pos (fun z => e ?_)]
          rw [ll, lt, z]
          rfl
        · have e' := V.int.inj e
          rw [ll, lt] at e'
          have hlen : ws.length = 1 + nms 4 + (bds 4).length := by
            have h1 : (bds 4).length = 1 := rfl
            have h2 : nms 4 = 0 := rfl
            rw [h1] at e' ⊢
            rw [h2]
            omega
          refine ⟨_, rfl, rfl, _, rfl, ?_⟩
          refine ⟨_, rfl, _, rfl, _, _, rfl, rfl, _, rfl, a, _, rfl, hL, fun c nc => ?_⟩
          have ec : cutV (ws.map wV) (some (1 + 0)) none = (ws.drop 1).map wV := cut_from ws 1
          rw [ec]
          have s2 := s1.trans (same_new (o := .lst ((ws.drop 1).map wV)) nc)
          refine ⟨_, rfl, c, ws.drop 1, 4, ?_, hk, SqL.of upd_same, ?_, fun z hz => hsm z (List.mem_of_mem_drop hz), fun en H3 s3 => ?_, fun ns en H3 p s3 np hp => ?_⟩
          · rw [ekw]; rfl
          · rw [List.length_drop, hlen]; rfl
          · refine ⟨_, rfl, rfl, _, rfl, ?_⟩
            refine q0 ?_ _ (s2.trans s3)
            unfold rowM
            rw [g0, ek]
            dsimp only
            rw [if_neg (fun z => z hlen), if_neg (fun z => absurd z.1 (by decide))]
            show (numsM (ws.drop 1) (bds 4)).map _ = none
            rw [en]
            rfl
          · refine ⟨_, rfl, rfl, _, rfl, ?_⟩
            refine ⟨_, rfl, _, rfl, rfl, _, rfl, _, rfl, ?_⟩
            intro x dx nx nd ne
            refine ⟨x, dx, _, _, _, rfl, upd_same, fun H4 h4 k4 => ⟨rfl, ?_⟩⟩
            have s4 := Same.made nx nd k4
            have s24 := s2.trans (s3.trans s4)
            have e0 : Str.ofString "" = S [] := by decide +kernel
            refine q1 (4, [], ns) (rowM_ok (ws := ws) (k := 4) (by rw [g0]; exact ek) hlen (fun z => absurd z (by decide)) en) H4 x dx p s24 ((s2.trans s3).free nx) (s2.free np) ?_ (s4 _ _ hp)
            rw [h4, ekw, e0]
            rfl
      · have k4 : k ≠ 4 := fun z => e4 (by rw [eY, ekw, z]; rfl)
        have hn1 : nms k = 1 := if_neg k4
        refine ⟨_, rfl, a, _, rfl, .inl hL, _, rfl, _, _, rfl, rfl, _, rfl, dB, S w0, _, rfl, rfl, hD, tB k, _, rfl, .inr (B.tup k hk _), _, _, rfl, rfl, rfl, _, rfl, iteN (fun e => ?_) (fun e => ?_)⟩
        · refine q0 ?_ _ s1
          unfold rowM
          rw [g0, ek]
          dsimp only
          rw [if_pos (fun z => e ?_)]
          rw [ll, lt, z, hn1]
          show V.int _ = V.int _
          congr 1
        · have e' := V.int.inj e
          rw [ll, lt] at e'
          have hlen : ws.length = 1 + nms k + (bds k).length := by
            rw [hn1]
            omega
          obtain ⟨w1, r1, e1⟩ : ∃ w1 r1, rest = w1 :: r1 := by
            cases rest with
            | nil => rw [ew] at hlen; rw [hn1] at hlen; simp at hlen; omega
            | cons x r => exact ⟨x, r, rfl⟩
          have g1 : ws.getD 1 [] = w1 := by rw [ew, e1]; rfl
          have i1 : (ws.map wV)[1]? = some (wV w1) := by rw [ew, e1]; rfl
          refine ⟨_, rfl, rfl, _, rfl, ?_⟩
          refine ⟨_, rfl, a, _, 1, wV w1, rfl, rfl, hL, atI_nat (j := 1) i1, w1, rfl, hsm w1 (by rw [ew, e1]; simp), _, rfl, ?_⟩
          cases hnm : isName w1 with
          | false =>
            refine q0 ?_ _ s1
            unfold rowM
            rw [g0, ek]
            dsimp only
            rw [if_neg (fun z => z hlen), if_pos ⟨hn1, by rw [g1]; exact hnm⟩]
          | true =>
            refine ⟨_, rfl, _, rfl, _, _, rfl, rfl, _, rfl, a, _, rfl, hL, fun c nc => ?_⟩
            have ec : cutV (ws.map wV) (some (1 + 1)) none = (ws.drop 2).map wV := cut_from ws 2
            rw [ec]
            have s2 := s1.trans (same_new (o := .lst ((ws.drop 2).map wV)) nc)
            have ed : ws.drop (1 + nms k) = ws.drop 2 := by rw [hn1]
            refine ⟨_, rfl, c, ws.drop 2, k, ?_, hk, SqL.of upd_same, ?_, fun z hz => hsm z (List.mem_of_mem_drop hz), fun en H3 s3 => ?_, fun ns en H3 p s3 np hp => ?_⟩
            · rw [ekw]; rfl
            · rw [List.length_drop, hlen, hn1]; omega
            · refine ⟨_, rfl, rfl, _, rfl, ?_⟩
              refine q0 ?_ _ (s2.trans s3)
              unfold rowM
              rw [g0, ek]
              dsimp only
              rw [if_neg (fun z => z hlen), if_neg (fun z => by rw [g1, hnm] at z; exact absurd z.2 (by decide)), ed, en]
              rfl
            · refine ⟨_, rfl, rfl, _, rfl, ?_⟩
              have hL3 : SqL K H3 a (ws.map wV) := SqL.of (s3 _ _ ((same_new nc) _ _ upd_same))
              refine ⟨_, rfl, _, rfl, rfl, _, rfl, _, rfl, a, _, 1, wV w1, rfl, rfl, hL3, atI_nat (j := 1) i1, _, rfl, ?_⟩
              intro x dx nx nd ne
              refine ⟨x, dx, _, _, _, rfl, upd_same, fun H4 h4 k4 => ⟨rfl, ?_⟩⟩
              have s4 := Same.made nx nd k4
              have s24 := s2.trans (s3.trans s4)
              have er := rowM_ok (ws := ws) (k := k) (ns := ns) (by rw [g0]; exact ek) hlen (fun _ => by rw [g1]; exact hnm) (by rw [ed]; exact en)
              rw [if_pos hn1, g1] at er
              refine q1 _ er H4 x dx p s24 ((s2.trans s3).free nx) (s2.free np) ?_ (s4 _ _ hp)
              rw [h4, ekw]
              rfl
end
end My

set_option maxRecDepth 100000
set_option maxHeartbeats 2000000
namespace My
open PySem PySem.Spec PyProof.Rows L2
open Br (Line Recipe)
/-- the rows at these addresses are these lines -/
structure RowsAt (C : Addr) (H : Hp) (as : List Addr) (es : Recipe) : Prop where
  len : as.length = es.length
  at_ : ∀ (i : Nat) (a : Addr) (x : Line), as[i]? = some a → es[i]? = some x → RowAt C H a (rk x)
theorem RowsAt.same {C : Addr} {H H' : Hp} {as : List Addr} {es : Recipe} (h : RowsAt C H as es) (s : Same H H') : RowsAt C H' as es := ⟨h.len, fun i a x h1 h2 => (h.at_ i a x h1 h2).same s⟩
theorem hop_at {x : Line} (h : x.rank = 2) : ((rk x).2.2.map nV)[2]? = some (nV (mins x)) := by
  cases x with
  | hop n p a t => rfl
  | _ => exact absurd h (by intro z; cases z)
theorem nV_inj {a b : Nat} : nV a = nV b ↔ a = b := by
  constructor
  · intro h
    have := V.int.inj h
    omega
  · exact congrArg nV
theorem name_eq (x y : Line) : (wV (rk y).2.1 = wV (rk x).2.1) ↔ lname y = lname x := by
  constructor
  · exact fun h => codes_inj (S_inj (V.str.inj h))
  · intro h
    show wV (codes (lname y)) = wV (codes (lname x))
    rw [h]
section
variable {P : Program} {w : World} {K : PySem.W.Frag} {mg : Str → Option Value} {base : Heap}
/-! ### hop_clashes -/
theorem scHopC : FnScope ["row", "earlier", "minutes", "other"] ["row", "earlier"] (defScope sHopC) := ⟨rfl, rfl, rfl, by decide +kernel, rfl, by decide +kernel, by decide +kernel⟩
def spHopC (C : Addr) : Sp := fun vs H Q _ => ∃ (a l : Addr) (x : Line) (as : List Addr) (es : Recipe), vs = [.ref a, .ref l] ∧ RowAt C H a (rk x) ∧ x.rank = 2 ∧ H l = some (.lst (as.map V.ref)) ∧ RowsAt C H as es ∧ (∀ y ∈ es, y.rank = 2) ∧ Q (.bl (hopClash x es)) H
theorem ok_hopC {f C : Addr} {fd : FuncData} (F : Fun K "hop_clashes" "hop_clashes" sHopC f fd) (T : RowT K mg C) (ml : mg "len" = none) (cM : Cn mg "MINUTES" (.int 2)) : FnOk P w K mg base CX0 1 f fd ["row", "earlier"] (spHopC C) := by
  obtain ⟨uM, gM, rM⟩ := cM
  refine F.ok scHopC (fun vs H Q E h => ?_) (fun cdv A outer s H vs Q E hr h => ?_)
  · obtain ⟨a, l, x, as, es, rfl, _⟩ := h
    rfl
  · obtain ⟨a, l, x, as, es, rfl, ⟨dx, qx, hx1, hx2⟩, hx, hl, hR, he, q⟩ := h
    refine ⟨_, pss_cons (ps_set (i := 2) scHopC.nd rfl (.inl rfl) (pe_ix ix_list (pe_fld (pv 0) rfl) (pe_glob rfl gM rM) (fun _ _ => rfl))) <|
      pss_cons (ps_if (PW.pt (pw_and (pt_cmpR op_gt (pe_callB call_len_seq (by rfl) ml PySem.boot_len (pa_cons (pv 1) pa_nil)) pe_int (nomark _))
        (pw_and1 (pt_cmpR op_gt (pv 2) (pe_ix ix_list (pe_fld (pe_ix ix_list (pv 1) (pe_un un_neg pe_int) (fun _ _ => rfl)) rfl) (pe_glob rfl gM rM) (fun _ _ => rfl)) (nomark _))))) (pss_one (ps_ret pe_bl)) pss_nil) <|
      pss_cons (ps_for PassesOwn.never rfl (pi_list (pv 1)) (pg_name (i := 3) scHopC.nd rfl (.inl rfl))
        (pss_one (ps_if (PW.pt (pw_and (pt_cmpR op_eq (pe_fld (pv 3) rfl) (pe_fld (pv 0) rfl) (nomark _))
          (pw_and1 (pt_cmpR op_eq (pe_ix ix_list (pe_fld (pv 3) rfl) (pe_glob rfl gM rM) (fun _ _ => rfl)) (pv 2) (nomark _))))) (pss_one (ps_ret pe_bl)) pss_nil))) <|
      pss_one (ps_ret pe_bl), ?_⟩
    have hLs : SqL K H l (as.map V.ref) := SqL.of hl
    refine ⟨_, rfl, a, C, dx, _, _, rfl, hx1, T.cl, T.nU, rowF_nums _ _, qx, _, 2, nV (mins x), rfl, rfl, SqL.of hx2, atI_nat (j := 2) (hop_at hx), ?_⟩
    refine ⟨_, rfl, l, _, rfl, .inl hLs, _, _, rfl, rfl, _, rfl, ?_⟩
    have hlast : ∀ y, es.getLast? = some y → ∃ b, atI (as.map V.ref) (-1) = some (V.ref b) ∧ RowAt C H b (rk y) ∧ y.rank = 2 ∧ 0 < as.length := by
      intro y hy
      have ne : es ≠ [] := fun z => by rw [z] at hy; cases hy
      have nl : 0 < es.length := List.length_pos_iff.mpr ne
      have nl2 : 0 < as.length := by rw [hR.len]; exact nl
      have ne2 : as ≠ [] := List.length_pos_iff.mp nl2
      have hy2 : es[es.length - 1]? = some y := by rw [← List.getLast?_eq_getElem?]; exact hy
      have ha2 : as[es.length - 1]? = some (as.getLast ne2) := by rw [← hR.len, ← List.getLast?_eq_getElem?, List.getLast?_eq_some_getLast ne2]
      refine ⟨as.getLast ne2, ?_, hR.at_ _ _ _ ha2 hy2, he y (List.mem_of_getLast? hy), nl2⟩
      have e : as.map V.ref = as.dropLast.map V.ref ++ [V.ref (as.getLast ne2)] := by
        rw [← List.map_singleton, ← List.map_append, List.dropLast_concat_getLast]
      rw [e]
      exact atI_last _ _
    by_cases c : ∃ y, es.getLast? = some y ∧ mins y < mins x
    · obtain ⟨y, hy, hm⟩ := c
      obtain ⟨b, hb, ⟨dy, qy, hy1, hy2⟩, hyr, hp⟩ := hlast y hy
      refine iteD (fun _ => ⟨_, rfl, _, rfl, _, rfl, l, _, -1, _, rfl, rfl, hLs, hb, b, C, dy, _, _, rfl, hy1, T.cl, T.nU, rowF_nums _ _, qy, _, 2, nV (mins y), rfl, rfl, SqL.of hy2, atI_nat (j := 2) (hop_at hyr), _, _, rfl, rfl, _, rfl, iteD (fun _ => ?_) (fun z => absurd ?_ z)⟩) (fun z => absurd ?_ z)
      · have e : hopClash x es = true := by
          unfold hopClash
          rw [hy]
          show (decide (mins y < mins x) || _) = true
          rw [decide_eq_true hm]
          rfl
        rw [e] at q
        exact q
      · show ((mins y : Nat) : Int) < ((mins x : Nat) : Int)
        omega
      · show (0 : Int) < ((as.map V.ref).length : Int)
        rw [List.length_map]
        omega
    · have hb0 : hopClash x es = es.any fun y => lname y == lname x && mins y == mins x := by
        unfold hopClash
        cases hy : es.getLast? with
        | none => rfl
        | some y =>
          show (decide (mins y < mins x) || _) = _
          rw [decide_eq_false fun z => c ⟨y, hy, z⟩]
          rfl
      refine via (fun hB => iteD (fun z => ?_) (fun _ => hB)) ?_
      · have nl : 0 < as.length := by
          have z' : (0 : Int) < ((as.map V.ref).length : Int) := z
          rw [List.length_map] at z'
          omega
        have ne : es ≠ [] := List.length_pos_iff.mp (by rw [← hR.len]; exact nl)
        obtain ⟨b, hb, ⟨dy, qy, hy1, hy2⟩, hyr, hp⟩ := hlast _ (List.getLast?_eq_some_getLast ne)
        refine ⟨_, rfl, _, rfl, _, rfl, l, _, -1, _, rfl, rfl, hLs, hb, b, C, dy, _, _, rfl, hy1, T.cl, T.nU, rowF_nums _ _, qy, _, 2, nV (mins _), rfl, rfl, SqL.of hy2, atI_nat (j := 2) (hop_at hyr), _, _, rfl, rfl, _, rfl, iteD (fun z => absurd z fun z' => c ⟨_, List.getLast?_eq_some_getLast ne, ?_⟩) (fun _ => hB)⟩
        have z2 : ((mins (es.getLast ne) : Nat) : Int) < ((mins x : Nat) : Int) := z'
        omega
      · refine ⟨_, rfl, l, rfl, ⟨_, hLs⟩, for_list (K := K) (a := l) (xs := as.map V.ref) (fun i σ H' => ∃ v, σ = [some (.ref a), some (.ref l), some (nV (mins x)), v] ∧ H' = H ∧ ((es.take i).any fun y => lname y == lname x && mins y == mins x) = false) ⟨none, rfl, rfl, rfl⟩ (fun i σ H' _ ⟨_, _, e, _⟩ => by rw [e]; exact hLs) ?_ ?_⟩
        · rintro i u σ H' hi ⟨v, rfl, rfl, hany⟩
          rw [List.getElem?_map] at hi
          cases eb : as[i]? with
          | none => rw [eb] at hi; cases hi
          | some b =>
            rw [eb] at hi
            obtain rfl : u = V.ref b := (Option.some.inj hi).symm
            obtain ⟨y, hy⟩ : ∃ y, es[i]? = some y := ⟨es[i]'(by rw [← hR.len]; exact (List.getElem?_eq_some_iff.mp eb).1), List.getElem?_eq_getElem _⟩
            obtain ⟨dy, qy, hy1, hy2⟩ := hR.at_ i b y eb hy
            have hyr := he y (List.mem_of_getElem? hy)
            refine ⟨_, rfl, b, C, dy, _, _, rfl, hy1, T.cl, T.nN, rowF_name _ _, _, rfl, a, C, dx, _, _, rfl, hx1, T.cl, T.nN, rowF_name _ _, rfl, _, rfl, ?_⟩
            refine via (fun hB => iteD (fun en => ⟨_, rfl, b, C, dy, _, _, rfl, hy1, T.cl, T.nU, rowF_nums _ _, qy, _, 2, nV (mins y), rfl, rfl, SqL.of hy2, atI_nat (j := 2) (hop_at hyr), _, rfl, rfl, _, rfl, iteD (fun em => ?_) (fun em => hB (fun z => em (nV_inj.mpr z.2)))⟩) (fun en => hB (fun z => en ((name_eq x y).mpr z.1)))) (fun hno : ¬ (lname y = lname x ∧ mins y = mins x) => ?_)
            · have e : hopClash x es = true := by
                rw [hb0, List.any_eq_true]
                exact ⟨y, List.mem_of_getElem? hy, by simp [(name_eq x y).mp en, nV_inj.mp em]⟩
              rw [e] at q
              exact q
            · refine ⟨_, rfl, rfl, ?_⟩
              rw [take_snoc hy, List.any_append, hany]
              have : (lname y == lname x && mins y == mins x) = false := by
                rw [Bool.and_eq_false_iff]
                by_cases h1 : lname y = lname x
                · exact .inr (beq_eq_false_iff_ne.mpr fun h2 => hno ⟨h1, h2⟩)
                · exact .inl (beq_eq_false_iff_ne.mpr h1)
              simp [this]
        · rintro σ H' ⟨v, rfl, rfl, hany⟩
          have e : hopClash x es = false := by
            rw [List.length_map, hR.len, List.take_length] at hany
            rw [hb0, hany]
          rw [e] at q
          exact q
end
end My

set_option maxRecDepth 100000
set_option maxHeartbeats 2000000
namespace My
open PySem PySem.Spec PyProof.Rows L2
open Br (Line Recipe)
theorem kind_inj {j k : Nat} (hj : j ≤ 4) (hk : k ≤ 4) (h : kindN j = kindN k) : j = k := by
  have := rank_kind hj
  rw [h, rank_kind hk] at this
  exact (Option.some.inj this).symm
theorem inV_names (x : Line) : ∀ es : Recipe, inV (wV (rk x).2.1) (es.map fun y => wV (rk y).2.1) = es.any fun y => lname y == lname x
  | [] => rfl
  | y :: r => by
    have ih := inV_names x r
    have e : eqV (wV (rk y).2.1) (wV (rk x).2.1) = (lname y == lname x) := by
      show (S (codes (lname y)) == S (codes (lname x))) = _
      rw [Bool.eq_iff_iff, beq_iff_eq, beq_iff_eq]
      exact ⟨fun h => codes_inj (S_inj h), fun h => by rw [h]⟩
    show (eqV (wV (rk y).2.1) (wV (rk x).2.1) || inV (wV (rk x).2.1) (r.map fun y => wV (rk y).2.1)) = ((lname y == lname x) || r.any _)
    rw [ih, e]
section
variable {P : Program} {w : World} {K : PySem.W.Frag} {mg : Str → Option Value} {base : Heap}
/-! ### clashes -/
theorem scClash : FnScope ["row", "earlier", "other"] ["row", "earlier"] (defScope sClash) := ⟨rfl, rfl, rfl, by decide +kernel, rfl, by decide +kernel, by decide +kernel⟩
def spClash (C : Addr) : Sp := fun vs H Q _ => ∃ (a l : Addr) (x : Line) (as : List Addr) (es : Recipe), vs = [.ref a, .ref l] ∧ RowAt C H a (rk x) ∧ H l = some (.lst (as.map V.ref)) ∧ RowsAt C H as es ∧ as.length ≤ 20000 ∧ (∀ y ∈ es, y.rank = x.rank) ∧ ∀ H', Same H H' → Q (.bl (clashM x es)) H'
theorem ok_clash {f fH C : Addr} {fd fdH : FuncData} (F : Fun K "clashes" "clashes" sClash f fd) (G : Df P w K mg base 1 "hop_clashes" ["row", "earlier"] (spHopC C) fH fdH) (T : RowT K mg C) : FnOk P w K mg base CX0 2 f fd ["row", "earlier"] (spClash C) := by
  refine F.ok scClash (fun vs H Q E h => ?_) (fun cdv A outer s H vs Q E hr h => ?_)
  · obtain ⟨a, l, x, as, es, rfl, _⟩ := h
    rfl
  · obtain ⟨a, l, x, as, es, rfl, hx, hl, hR, hsz, he, q⟩ := h
    obtain ⟨dx, qx, hx1, hx2⟩ := id hx
    refine ⟨_, pss_cons (ps_if (pt_cmpR op_eq (pe_fld (pv 0) rfl) pe_str (nomark _)) (pss_one (ps_ret (pe_call G.ok hr rfl G.g G.kp G.b .nil pass0 (pa_cons (pv 0) (pa_cons (pv 1) pa_nil))))) pss_nil) <|
      pss_one (ps_ret (pe_cmpR op_in_seq (pe_fld (pv 0) rfl) (pe_lc (own := [("other", 2)]) (g := gName 2) (tt := tYes) (te := tFld K (tVar 2) "name") rfl scClash.nd (pi_list (pv 1)) (blkOk_by (N := ["row", "earlier", "other"]) (sc := defScope sClash) (by decide +kernel))
        (fun _ _ _ _ _ => pg_name (i := 2) scClash.nd rfl (Or.inl rfl)) (fun _ _ _ _ _ => pts_nil) (fun _ _ _ _ _ => by exact pe_fld (pv 2) rfl)) (by rfl))), ?_⟩
    have eH : Str.ofString "hop" = S (kindN 2) := by decide +kernel
    refine ⟨_, rfl, a, C, dx, _, _, rfl, hx1, T.cl, T.nK, rowF_kind _ _, rfl, _, rfl, iteD (fun e => ?_) (fun e => ?_)⟩
    · have e2 : x.rank = 2 := by
        rw [eH] at e
        exact kind_inj (rank_le x) (by decide) (S_inj (V.str.inj e))
      refine ⟨_, rfl, _, rfl, a, l, x, as, es, rfl, hx, e2, hl, hR, fun y hy => (he y hy).trans e2, ?_⟩
      have ec : clashM x es = hopClash x es := if_pos e2
      rw [ec] at q
      exact q H (Same.refl H)
    · have e2 : x.rank ≠ 2 := fun z => e (by
        rw [eH]
        show wV (kindN x.rank) = wV (kindN 2)
        rw [z])
      refine ⟨_, rfl, a, C, dx, _, _, rfl, hx1, T.cl, T.nN, rowF_name _ _, _, rfl, l, rfl, ⟨_, SqL.of hl⟩, fun D hD => lc_list (K := K) (a := l) (xs := as.map V.ref) (fun i H' => Same H H' ∧ H' D = some (.lst ((es.take i).map fun y => wV (rk y).2.1))) ?_ ?_ ?_ ?_⟩
      · exact ⟨same_new hD, upd_same⟩
      · exact fun i H' _ p => SqL.of (p.1 _ _ hl)
      · intro i u H' hu p
        rw [List.getElem?_map] at hu
        cases eb : as[i]? with
        | none => rw [eb] at hu; cases hu
        | some b =>
          rw [eb] at hu
          obtain rfl : u = V.ref b := (Option.some.inj hu).symm
          have hi : i < es.length := by rw [← hR.len]; exact (List.getElem?_eq_some_iff.mp eb).1
          have hy : es[i]? = some es[i] := List.getElem?_eq_getElem hi
          obtain ⟨dy, qy, hy1, hy2⟩ := (hR.at_ i b es[i] eb hy).same p.1
          refine ⟨rfl, _, rfl, b, C, dy, _, _, rfl, hy1, T.cl, T.nN, rowF_name _ _, _, p.2, ?_, ?_, ?_⟩
          · rw [List.length_map, List.length_take]
            have := hR.len
            exact Nat.lt_of_le_of_lt (Nat.min_le_right _ _) (by rw [← hR.len]; exact Nat.lt_of_le_of_lt hsz (by decide))
          · exact fun c o ec => (upd_ne (ne_of_none ec hD)).trans (p.1 c o ec)
          · rw [upd_same, take_snoc hy, List.map_append]
            rfl
      · intro H' p
        rw [List.length_map, hR.len, List.take_length] at p
        refine ⟨D, _, rfl, .inl (SqL.of p.2), rfl, ?_, ?_⟩
        · rw [List.all_eq_true]
          intro v hv
          obtain ⟨y, _, rfl⟩ := List.mem_map.mp hv
          rfl
        · have ec : clashM x es = es.any fun y => lname y == lname x := if_neg e2
          rw [ec] at q
          have e1 := inV_names x es
          show Q (.bl (inV (wV (rk x).2.1) (es.map fun y => wV (rk y).2.1))) H'
          rw [e1]
          exact q H' p.1
/-! ### why_wrong -/
structure May (K : PySem.W.Frag) (w : World) (mg : Str → Option Value) (dM : Addr) (tM : Nat → Addr) : Prop where
  g : mg "MAY_FOLLOW" = some (.ref dM)
  get : ∀ k, k ≤ 4 → KDct K w dM (S (kindN k)) (.ref (tM k))
  tup : ∀ k, k ≤ 4 → ∀ H, SqT K H (tM k) ((mayN k).map wV)
def kvs (ls : Nat → Addr) : List (Key × V) := [(.inr (S kRecipe), .ref (ls 0)), (.inr (S kMalt), .ref (ls 1)), (.inr (S kHop), .ref (ls 2)), (.inr (S kAdd), .ref (ls 3)), (.inr (S kYeast), .ref (ls 4))]
/-- the rows of a recipe by kind, as they stand in the heap -/
structure RecAt (C : Addr) (H : Hp) (d : Addr) (ls : Nat → Addr) (rs : Nat → List Addr) (r : Recipe) : Prop where
  dict : H d = some (.dK (kvs ls))
  lst : ∀ k, k ≤ 4 → H (ls k) = some (.lst ((rs k).map V.ref))
  inj : ∀ j k, j ≤ 4 → k ≤ 4 → ls j = ls k → j = k
  rows : ∀ k, k ≤ 4 → RowsAt C H (rs k) (ofRank k r)
  apart : ∀ k, k ≤ 4 → ∀ a ∈ rs k, ∀ dx y q, H a = some (.ins C dx (rowF y q)) → ∀ j, j ≤ 4 → q ≠ ls j
theorem RowsAt.mem {C : Addr} {H : Hp} {as : List Addr} {es : Recipe} (R : RowsAt C H as es) {a : Addr} (h : a ∈ as) : ∃ x ∈ es, RowAt C H a (rk x) := by
  obtain ⟨i, hi, rfl⟩ := List.mem_iff_getElem.mp h
  have hj : i < es.length := by rw [← R.len]; exact hi
  exact ⟨es[i], List.getElem_mem hj, R.at_ i _ _ (List.getElem?_eq_getElem hi) (List.getElem?_eq_getElem hj)⟩
theorem RecAt.same {C : Addr} {H H' : Hp} {d : Addr} {ls : Nat → Addr} {rs : Nat → List Addr} {r : Recipe} (R : RecAt C H d ls rs r) (s : Same H H') : RecAt C H' d ls rs r := by
  refine ⟨s _ _ R.dict, fun k hk => s _ _ (R.lst k hk), R.inj, fun k hk => (R.rows k hk).same s, fun k hk a ha dx y q e => ?_⟩
  obtain ⟨x, _, dx0, q0, h1, _⟩ := (R.rows k hk).mem ha
  have e2 := (s _ _ h1).symm.trans e
  exact R.apart k hk a ha dx y q (h1.trans e2)
theorem kvs_get (ls : Nat → Addr) {k : Nat} (h : k ≤ 4) : valV (kvs ls) (.inr (S (kindN k))) = some (.ref (ls k)) := by
  have : k = 0 ∨ k = 1 ∨ k = 2 ∨ k = 3 ∨ k = 4 := by omega
  have n1 : ¬ (Sum.inr (S kRecipe) : Key) = .inr (S kMalt) := by decide +kernel
  have n2 : ¬ (Sum.inr (S kRecipe) : Key) = .inr (S kHop) := by decide +kernel
  have n3 : ¬ (Sum.inr (S kRecipe) : Key) = .inr (S kAdd) := by decide +kernel
  have n4 : ¬ (Sum.inr (S kRecipe) : Key) = .inr (S kYeast) := by decide +kernel
  have n5 : ¬ (Sum.inr (S kMalt) : Key) = .inr (S kHop) := by decide +kernel
  have n6 : ¬ (Sum.inr (S kMalt) : Key) = .inr (S kAdd) := by decide +kernel
  have n7 : ¬ (Sum.inr (S kMalt) : Key) = .inr (S kYeast) := by decide +kernel
  have n8 : ¬ (Sum.inr (S kHop) : Key) = .inr (S kAdd) := by decide +kernel
  have n9 : ¬ (Sum.inr (S kHop) : Key) = .inr (S kYeast) := by decide +kernel
  have n0 : ¬ (Sum.inr (S kAdd) : Key) = .inr (S kYeast) := by decide +kernel
  rcases this with rfl | rfl | rfl | rfl | rfl
  all_goals
    unfold valV kvs kindN
    simp only [List.find?, decide_true, decide_eq_false n1, decide_eq_false n2, decide_eq_false n3, decide_eq_false n4, decide_eq_false n5, decide_eq_false n6, decide_eq_false n7, decide_eq_false n8, decide_eq_false n9, decide_eq_false n0, Option.map]
theorem inV_may (l : List Nat) : ∀ ms : List (List Nat), inV (wV l) (ms.map wV) = decide (l ∈ ms)
  | [] => rfl
  | m :: r => by
    have ih := inV_may l r
    show ((S m == S l) || inV (wV l) (r.map wV)) = _
    rw [ih, Bool.eq_iff_iff, Bool.or_eq_true, beq_iff_eq, decide_eq_true_eq, decide_eq_true_eq, List.mem_cons]
    exact or_congr ⟨fun h => (S_inj h).symm, fun h => by rw [h]⟩ Iff.rfl
theorem scWhy : FnScope ["row", "before", "earlier"] ["row", "before", "earlier"] (defScope sWhy) := ⟨rfl, rfl, rfl, by decide +kernel, rfl, by decide +kernel, by decide +kernel⟩
def spWhy (C : Addr) : Sp := fun vs H Q _ => (∃ b d, vs = [.non, b, d] ∧ Q (.int 1) H) ∨ ∃ (a d : Addr) (x : Line) (ls : Nat → Addr) (rs : Nat → List Addr) (r : Recipe), vs = [.ref a, wV (bef r), .ref d] ∧ RowAt C H a (rk x) ∧ RecAt C H d ls rs r ∧ r.length ≤ 20000 ∧ ∀ H', Same H H' → Q (nV (whyM r x)) H'
theorem ok_why {f fH C dM : Addr} {fd fdH : FuncData} {tM : Nat → Addr} (F : Fun K "why_wrong" "why_wrong" sWhy f fd) (G : Df P w K mg base 2 "clashes" ["row", "earlier"] (spClash C) fH fdH) (T : RowT K mg C) (Y : May K w mg dM tM) (ml : mg "len" = none)
    (c1 : Cn mg "UNFORMED" (.int 1)) (c3 : Cn mg "CANNOT_STAND" (.int 3)) (c4 : Cn mg "CLASHES" (.int 4)) (c2 : Cn mg "TOO_MUCH" (.int 2)) (c16 : Cn mg "MOST_OF_A_KIND" (.int 16)) : FnOk P w K mg base CX0 3 f fd ["row", "before", "earlier"] (spWhy C) := by
  obtain ⟨u1, g1, r1⟩ := c1
  obtain ⟨u2, g2, r2⟩ := c2
  obtain ⟨u3, g3, r3⟩ := c3
  obtain ⟨u4, g4, r4⟩ := c4
  obtain ⟨u6, g6, r6⟩ := c16
  refine F.ok scWhy (fun vs H Q E h => ?_) (fun cdv A outer s H vs Q E hr h => ?_)
  · rcases h with ⟨b, d, rfl, _⟩ | ⟨a, d, x, ls, rs, r, rfl, _⟩ <;> rfl
  · have hu := hu_of hr
    refine ⟨_, pss_cons (ps_if (pt_cmpR op_isN (pv 0) pe_non (nomark _)) (pss_one (ps_ret (pe_glob rfl g1 r1))) pss_nil) <|
      pss_cons (ps_if (pt_cmpR op_notIn_seq (pv 1) (pe_ix ix_kdict (pe_glob (v := .ref dM) rfl Y.g rfl) (pe_fld (pv 0) rfl) (fun _ _ => rfl)) (by rfl)) (pss_one (ps_ret (pe_glob rfl g3 r3))) pss_nil) <|
      pss_cons (ps_if (pt_val (pe_call G.ok hr rfl G.g G.kp G.b .nil pass0 (pa_cons (pv 0) (pa_cons (pe_dget hu (pv 2) (pe_fld (pv 0) rfl) (fun _ _ => rfl)) pa_nil)))) (pss_one (ps_ret (pe_glob rfl g4 r4))) pss_nil) <|
      pss_cons (ps_if (pt_cmpR op_ge (pe_callB call_len_seq (by rfl) ml PySem.boot_len (pa_cons (pe_dget hu (pv 2) (pe_fld (pv 0) rfl) (fun _ _ => rfl)) pa_nil)) (pe_glob rfl g6 r6) (nomark _)) (pss_one (ps_ret (pe_glob rfl g2 r2))) pss_nil) <|
      pss_one (ps_ret pe_int), ?_⟩
    rcases h with ⟨b, d, rfl, q⟩ | ⟨a, d, x, ls, rs, r, rfl, hx, R, hsz, q⟩
    · exact ⟨_, rfl, rfl, _, rfl, q⟩
    · obtain ⟨dx, qx, hx1, hx2⟩ := id hx
      have hk := rank_le x
      have hfl : ((mayN x.rank).map wV).all flatV = true := by
        rw [List.all_eq_true]
        intro v hv
        obtain ⟨y, _, rfl⟩ := List.mem_map.mp hv
        rfl
      refine ⟨_, rfl, rfl, _, rfl, ?_⟩
      refine ⟨_, rfl, _, rfl, a, C, dx, _, _, rfl, hx1, T.cl, T.nK, rowF_kind _ _, dM, _, _, rfl, rfl, Y.get _ hk, tM x.rank, _, rfl, .inr (Y.tup _ hk _), rfl, hfl, _, rfl, ?_⟩
      have eV := inV_may (bef r) (mayN x.rank)
      by_cases c : bef r ∈ mayN x.rank
      · rw [decide_eq_true c] at eV
        rw [eV]
        have hg := DGet.k (k := Sum.inr (S (kindN x.rank))) R.dict
        rw [kvs_get ls hk] at hg
        have hlen : (rs x.rank).length ≤ 20000 := by
          rw [(R.rows _ hk).len]
          exact Nat.le_trans (ofRank_le _ _) hsz
        refine ⟨_, rfl, _, rfl, _, rfl, a, C, dx, _, _, rfl, hx1, T.cl, T.nK, rowF_kind _ _, d, _, rfl, hg, a, ls x.rank, x, rs x.rank, ofRank x.rank r, rfl, hx, R.lst _ hk, R.rows _ hk, hlen, ?_, fun H2 s2 => ⟨_, rfl, ?_⟩⟩
        · intro y hy
          have := (List.mem_filter.mp hy).2
          simpa using this
        · have e1 : whyM r x = if clashM x (ofRank x.rank r) = true then 4 else if 16 ≤ (ofRank x.rank r).length then 2 else 0 := by
            unfold whyM
            rw [if_neg (fun z => z c)]
          cases hc : clashM x (ofRank x.rank r) with
          | true =>
            rw [hc, if_pos rfl] at e1
            rw [e1] at q
            exact q H2 s2
          | false =>
            rw [hc, if_neg Bool.false_ne_true] at e1
            have R2 := R.same s2
            have hg2 := DGet.k (k := Sum.inr (S (kindN x.rank))) R2.dict
            rw [kvs_get ls hk] at hg2
            refine ⟨_, rfl, _, rfl, a, C, dx, _, _, rfl, s2 _ _ hx1, T.cl, T.nK, rowF_kind _ _, d, _, rfl, hg2, ls x.rank, _, rfl, .inl (SqL.of (R2.lst _ hk)), _, _, rfl, rfl, _, rfl, iteD (fun z => ?_) (fun z => ?_)⟩
            · have z' : (16 : Int) ≤ (((rs x.rank).map V.ref).length : Int) := z
              rw [List.length_map, (R.rows _ hk).len] at z'
              rw [if_pos (by omega)] at e1
              rw [e1] at q
              exact q H2 s2
            · have z' : ¬ (16 : Int) ≤ (((rs x.rank).map V.ref).length : Int) := z
              rw [List.length_map, (R.rows _ hk).len] at z'
              rw [if_neg (by omega)] at e1
              rw [e1] at q
              exact q H2 s2
      · rw [decide_eq_false c] at eV
        rw [eV]
        have e1 : whyM r x = 3 := if_pos c
        rw [e1] at q
        exact q H (Same.refl H)
/-! ### why_wrong_at_end -/
theorem scWhyE : FnScope ["rest", "before"] ["rest", "before"] (defScope sWhyE) := ⟨rfl, rfl, rfl, by decide +kernel, rfl, by decide +kernel, by decide +kernel⟩
def endM (rest b : List Nat) : Nat := if rest ≠ [] then 1 else if b ≠ kYeast then 3 else 0
def spWhyE : Sp := fun vs H Q _ => ∃ rest b : List Nat, vs = [wV rest, wV b] ∧ Q (nV (endM rest b)) H
theorem ok_whyE {f : Addr} {fd : FuncData} (F : Fun K "why_wrong_at_end" "why_wrong_at_end" sWhyE f fd) (c1 : Cn mg "UNFORMED" (.int 1)) (c3 : Cn mg "CANNOT_STAND" (.int 3)) : FnOk P w K mg base CX0 1 f fd ["rest", "before"] spWhyE := by
  obtain ⟨u1, g1, r1⟩ := c1
  obtain ⟨u3, g3, r3⟩ := c3
  refine F.ok scWhyE (fun vs H Q E h => ?_) (fun cdv A outer s H vs Q E hr h => ?_)
  · obtain ⟨rest, b, rfl, _⟩ := h
    rfl
  · obtain ⟨rest, b, rfl, q⟩ := h
    refine ⟨_, pss_cons (ps_if (pt_cmpR op_ne (pv 0) pe_str (nomark _)) (pss_one (ps_ret (pe_glob rfl g1 r1))) pss_nil) <|
      pss_cons (ps_if (pt_cmpR op_ne (pv 1) pe_str (nomark _)) (pss_one (ps_ret (pe_glob rfl g3 r3))) pss_nil) <|
      pss_one (ps_ret pe_int), ?_⟩
    have e0 : Str.ofString "" = S [] := by decide +kernel
    have eY : Str.ofString "yeast" = S kYeast := by decide +kernel
    refine ⟨_, rfl, rfl, _, rfl, iteN (fun e => ?_) (fun e => ?_)⟩
    · have ne : rest ≠ [] := fun z => e (by rw [e0, z]; rfl)
      have : endM rest b = 1 := if_pos ne
      rw [this] at q
      exact q
    · have eq : rest = [] := by
        rw [e0] at e
        exact S_inj (V.str.inj e)
      refine ⟨_, rfl, rfl, _, rfl, iteN (fun e2 => ?_) (fun e2 => ?_)⟩
      · have ne : b ≠ kYeast := fun z => e2 (by rw [eY, z]; rfl)
        have : endM rest b = 3 := (if_neg (fun z => z eq)).trans (if_pos ne)
        rw [this] at q
        exact q
      · have eq2 : b = kYeast := by
          rw [eY] at e2
          exact S_inj (V.str.inj e2)
        have : endM rest b = 0 := (if_neg (fun z => z eq)).trans (if_neg (fun z => z eq2))
        rw [this] at q
        exact q
end
end My

set_option maxRecDepth 100000
set_option maxHeartbeats 2000000
namespace My
open PySem PySem.Spec PyProof.Rows L2
open Br (Line Recipe Bytes)
/-! ### the whole text -/
theorem cut_lines (t : Bytes) : cutN 10 (cd t) = (lns t).map cd ++ [cd (rst t)] := by
  have e : cutN 10 (cd t) = (Br.cutAt 10 t).map cd := cutN_cd (c := 10) (by decide) (by decide) t
  have ne := cutAt_ne 10 t
  rw [e]
  unfold lns rst
  have h := List.dropLast_concat_getLast ne
  have h2 : (Br.cutAt 10 t).getLastD [] = (Br.cutAt 10 t).getLast ne := by
    rw [List.getLastD_eq_getLast?, List.getLast?_eq_some_getLast ne]
    rfl
  rw [h2]
  conv => lhs; rw [← h]
  rw [List.map_append]
  rfl
theorem cd_nil {b : Bytes} : cd b = [] ↔ b = [] := by
  unfold cd
  exact List.map_eq_nil_iff
theorem go_end {r : Recipe} {rt : Bytes} (hF : Fine r) (n : Nat) : goF n r [] rt = if endM (cd rt) (bef r) = 0 then .ok r else .error (n, endM (cd rt) (bef r)) := by
  have e1 : goF n r [] rt = if rt ≠ [] then .error (n, 1) else if Br.ends r = true then .ok r else .error (n, 3) := by
    unfold goF
    rfl
  rw [e1]
  by_cases h1 : rt = []
  · have h2 : ¬ rt ≠ [] := fun z => z h1
    have e2 : endM (cd rt) (bef r) = if bef r ≠ kYeast then 3 else 0 := if_neg (fun z => z (cd_nil.mpr h1))
    rw [if_neg h2, e2, ends_bef hF]
    by_cases h3 : bef r = kYeast
    · have h4 : ¬ bef r ≠ kYeast := fun z => z h3
      rw [if_neg h4, decide_eq_true h3]
      rfl
    · have h4 : bef r ≠ kYeast := h3
      rw [if_pos h4, decide_eq_false h3]
      rfl
  · have h2 : rt ≠ [] := h1
    have e2 : endM (cd rt) (bef r) = 1 := if_pos (fun z => h1 (cd_nil.mp z))
    rw [if_pos h2, e2]
    rfl
def reaF (d z : Addr) : List (Str × V) := [("rows", .ref d), ("refusal", .ref z)]
theorem reaF_rows (d z : Addr) : (reaF d z).lookup ("rows" : Str) = some (.ref d) := lk_hit
theorem reaF_ref (d z : Addr) : (reaF d z).lookup ("refusal" : Str) = some (.ref z) := (lk_miss (by decide +kernel)).trans lk_hit
structure ReaT (K : PySem.W.Frag) (mg : Str → Option Value) (C : Addr) : Prop where
  cl : Cls K C
  nR : NoAttr K C "rows"
  nF : NoAttr K C "refusal"
  g : mg "Reading" = some (.ref C)
/-- all stands but the five lists -/
def Kp (ls : Nat → Addr) (H H' : Hp) : Prop := ∀ b o, H b = some o → (∀ k, k ≤ 4 → b ≠ ls k) → H' b = some o
theorem Kp.of {ls : Nat → Addr} {H H1 H2 : Hp} (k : Kp ls H H1) (s : Same H1 H2) : Kp ls H H2 := fun b o e n => s b o (k b o e n)
theorem Kp.free {ls : Nat → Addr} {H H' : Hp} {C d : Addr} {rs : Nat → List Addr} {r : Recipe} (k : Kp ls H H') (R : RecAt C H' d ls rs r) {p : Addr} (h : H' p = none) : H p = none := by
  cases e : H p with
  | none => rfl
  | some o =>
    have := k p o e fun j hj z => by
      have := R.lst j hj
      rw [← z, h] at this
      cases this
    rw [h] at this
    cases this
def outM : Except (Nat × Nat) Recipe → List V
  | .ok _ => []
  | .error e => [nV e.1, nV e.2]
def rsNew (rs : Nat → List Addr) (k : Nat) (p : Addr) : Nat → List Addr := fun j => if j = k then rs j ++ [p] else rs j
theorem RecAt.grow {C : Addr} {H : Hp} {d p dx q : Addr} {ls : Nat → Addr} {rs : Nat → List Addr} {r : Recipe} {x : Line} (R : RecAt C H d ls rs r) (hp : H p = some (.ins C dx (rowF (rk x) q))) (hq : H q = some (.lst ((rk x).2.2.map nV))) (nq : ∀ j, j ≤ 4 → q ≠ ls j) :
    RecAt C (upd H (ls x.rank) (.lst ((rs x.rank).map V.ref ++ [.ref p]))) d ls (rsNew rs x.rank p) (r ++ [x]) := by
  have hk := rank_le x
  have hl := R.lst _ hk
  have nd : d ≠ ls x.rank := ne_of R.dict hl (by intro z; cases z)
  have np : p ≠ ls x.rank := ne_of hp hl (by intro z; cases z)
  have keep : ∀ {a : Addr} {y : Nat × List Nat × List Nat} {e0 q0 : Addr}, H a = some (.ins C e0 (rowF y q0)) → (upd H (ls x.rank) (.lst ((rs x.rank).map V.ref ++ [.ref p]))) a = some (.ins C e0 (rowF y q0)) := fun h => (upd_ne (ne_of h hl (by intro z; cases z))).trans h
  have back : ∀ {a : Addr} {e0 : Addr} {y : Nat × List Nat × List Nat} {q0 : Addr}, (upd H (ls x.rank) (.lst ((rs x.rank).map V.ref ++ [.ref p]))) a = some (.ins C e0 (rowF y q0)) → H a = some (.ins C e0 (rowF y q0)) := by
    intro a e0 y q0 h
    by_cases e : a = ls x.rank
    · rw [e, upd_same] at h
      cases h
    · rw [upd_ne e] at h
      exact h
  refine ⟨(upd_ne nd).trans R.dict, fun k h4 => ?_, R.inj, fun k h4 => ?_, fun k h4 a ha e0 y q0 h => ?_⟩
  · unfold rsNew
    by_cases e : k = x.rank
    · rw [if_pos e, e, upd_same, List.map_append]
      rfl
    · rw [if_neg e, upd_ne (fun z => e (R.inj _ _ h4 hk z))]
      exact R.lst k h4
  · have old : ∀ (i : Nat) (a : Addr) (z : Line), (rs k)[i]? = some a → (ofRank k r)[i]? = some z → RowAt C (upd H (ls x.rank) (.lst ((rs x.rank).map V.ref ++ [.ref p]))) a (rk z) := fun i a z h1 h2 => by
      obtain ⟨e0, q0, g1, g2⟩ := (R.rows k h4).at_ i a z h1 h2
      have nq0 := R.apart k h4 a (List.mem_of_getElem? h1) _ _ _ g1 x.rank hk
      exact ⟨e0, q0, keep g1, (upd_ne nq0).trans g2⟩
    unfold rsNew
    rw [rank_snoc]
    by_cases e : k = x.rank
    · rw [if_pos e, if_pos e.symm]
      have hlen := (R.rows k h4).len
      refine ⟨by rw [List.length_append, List.length_append, hlen]; rfl, fun i a z h1 h2 => ?_⟩
      by_cases hi : i < (rs k).length
      · rw [List.getElem?_append_left hi] at h1
        rw [List.getElem?_append_left (by rw [← hlen]; exact hi)] at h2
        exact old i a z h1 h2
      · rw [List.getElem?_append_right (by omega)] at h1
        rw [List.getElem?_append_right (by omega), ← hlen] at h2
        have h0 : i - (rs k).length = 0 := by
          have := (List.getElem?_eq_some_iff.mp h1).1
          simp at this
          omega
        rw [h0] at h1 h2
        have ea : p = a := Option.some.inj h1
        have ez : x = z := Option.some.inj h2
        subst ea ez
        exact ⟨dx, q, keep hp, (upd_ne (nq _ hk)).trans hq⟩
    · rw [if_neg e, if_neg (fun z => e z.symm), List.append_nil]
      exact ⟨(R.rows k h4).len, old⟩
  · have h' := back h
    unfold rsNew at ha
    by_cases e : k = x.rank
    · rw [if_pos e] at ha
      rcases List.mem_append.mp ha with z | z
      · exact R.apart k h4 a z _ _ _ h'
      · have ea : a = p := List.mem_singleton.mp z
        rw [ea, hp] at h'
        have hf : rowF (rk x) q = rowF y q0 := (HO.ins.inj (Option.some.inj h')).2.2
        have e3 : V.ref q = V.ref q0 := by
          have := congrArg (fun l => List.lookup (Str.ofString "numbers") l) hf
          have t : some (V.ref q) = some (V.ref q0) := (rowF_nums (rk x) q).symm.trans (this.trans (rowF_nums y q0))
          exact Option.some.inj t
        rw [← V.ref.inj e3]
        exact nq
    · rw [if_neg e] at ha
      exact R.apart k h4 a ha _ _ _ h'
section
variable {P : Program} {w : World} {K : PySem.W.Frag} {mg : Str → Option Value} {base : Heap}
/-! ### read_lines -/
theorem scLines : FnScope ["reading", "text", "lines", "rest", "before", "number", "signs", "row", "why"] ["reading", "text"] (defScope sLines) := ⟨rfl, rfl, rfl, by decide +kernel, rfl, by decide +kernel, by decide +kernel⟩
def spLines (K : PySem.W.Frag) (C CG : Addr) : Sp := fun vs H Q _ => ∃ (g a dg d z : Addr) (ls : Nat → Addr) (rs : Nat → List Addr) (bs : Bytes), vs = [.ref g, .ref a] ∧ H g = some (.ins CG dg (reaF d z)) ∧ RecAt C H d ls rs [] ∧ SqL K H a (bs.map byV) ∧ bs.length ≤ 16384 ∧
  ∀ H' p, Kp ls H H' → H p = none → H' p = some (.lst (outM (Br.readRecipe bs))) → (∀ r, Br.readRecipe bs = .ok r → ∃ rs', RecAt C H' d ls rs' r) → Q (.ref p) H'
theorem ok_lines {f fS fR fW fE C CG : Addr} {fd fdS fdR fdW fdE : FuncData} (F : Fun K "read_lines" "read_lines" sLines f fd) (GS : Df P w K mg base 2 "spell" ["text"] (spSpell K) fS fdS) (GR : Df P w K mg base 4 "row_of" ["signs"] (spRow C) fR fdR)
    (GW : Df P w K mg base 3 "why_wrong" ["row", "before", "earlier"] (spWhy C) fW fdW) (GE : Df P w K mg base 1 "why_wrong_at_end" ["rest", "before"] spWhyE fE fdE) (T : RowT K mg C) (TG : ReaT K mg CG) (ml : mg "len" = none) (me : mg "enumerate" = none) :
    FnOk P w K mg base CX0 5 f fd ["reading", "text"] (spLines K C CG) := by
  refine F.ok scLines (fun vs H Q E h => ?_) (fun cdv A outer s H vs Q E hr h => ?_)
  · obtain ⟨g, a, dg, d, z, ls, rs, bs, rfl, _⟩ := h
    rfl
  · obtain ⟨g, a, dg, d, z, ls, rs, bs, rfl, hg, R0, hS, hbl, q⟩ := h
    have hu := hu_of hr
    have hr2 : Room 2 _ := hr.mono (by decide)
    have hr3 : Room 3 _ := hr.mono (by decide)
    have hr1 : Room 1 _ := hr.mono (by decide)
    refine ⟨_, pss_cons (ps_set (i := 2) scLines.nd rfl (.inl rfl) (pe_split (pe_call GS.ok hr2 rfl GS.g GS.kp GS.b .nil pass0 (pa_cons (pv 1) pa_nil)) pe_str)) <|
      pss_cons (ps_set (i := 3) scLines.nd rfl (.inl rfl) (pe_bm0 PySem.F.plainAttrs_list PySem.F.slot_list_pop PySem.F.type_list_pop mt_pop (pv 2))) <|
      pss_cons (ps_set (i := 4) scLines.nd rfl (.inl rfl) pe_str) <|
      pss_cons (ps_for PassesOwn.never rfl (pi_enum (by rfl) me (pa_cons (pv 2) pa_nil)) (pg_tup rfl (pgs_cons (pg_name (i := 5) scLines.nd rfl (.inl rfl)) (pgs_cons (pg_name (i := 6) scLines.nd rfl (.inl rfl)) pgs_nil)))
        (pss_cons (ps_set (i := 7) scLines.nd rfl (.inl rfl) (pe_call GR.ok hr rfl GR.g GR.kp GR.b .nil pass0 (pa_cons (pv 6) pa_nil))) <|
          pss_cons (ps_set (i := 8) scLines.nd rfl (.inl rfl) (pe_call GW.ok hr3 rfl GW.g GW.kp GW.b .nil pass0 (pa_cons (pv 7) (pa_cons (pv 4) (pa_cons (pe_fld (pv 0) rfl) pa_nil))))) <|
          pss_cons (ps_if (pt_cmpR op_ne (pv 8) pe_int (nomark _)) (pss_one (ps_ret (pe_lst (pa_cons (pv 5) (pa_cons (pv 8) pa_nil))))) pss_nil) <|
          pss_cons (ps_expr (pe_bm PySem.F.plainAttrs_list PySem.F.slot_list_append PySem.F.type_list_append mt_append (pe_dget hu (pe_fld (pv 0) rfl) (pe_fld (pv 7) rfl) (fun _ _ => rfl)) (pa_cons (pv 7) pa_nil))) <|
          pss_one (ps_set (i := 4) scLines.nd rfl (.inl rfl) (pe_fld (pv 7) rfl)))) <|
      pss_cons (ps_set (i := 8) scLines.nd rfl (.inl rfl) (pe_call GE.ok hr1 rfl GE.g GE.kp GE.b .nil pass0 (pa_cons (pv 3) (pa_cons (pv 4) pa_nil)))) <|
      pss_one (ps_ret (pe_ifExp (pt_cmpR op_eq (pv 8) pe_int (nomark _)) (pe_lst pa_nil) (pe_lst (pa_cons (pe_callB call_len_seq (by rfl) ml PySem.boot_len (pa_cons (pv 2) pa_nil)) (pa_cons (pv 8) pa_nil))))), ?_⟩
    have eN : Str.ofString "\n" = S [10] := S_nl
    have e0 : Str.ofString "" = S [] := by decide +kernel
    have hcl : (cd bs).length = bs.length := List.length_map ..
    -- lines = spell(text).split('\n')
    refine ⟨_, rfl, a, bs, rfl, hS, hbl, fun H1 s1 => ⟨⟨_, rfl⟩, S (cd bs), Str.ofString "\n", rfl, rfl, (by decide +kernel), ?_, fun L nL => ?_⟩⟩
    · rw [S_len, hcl]
      exact Nat.le_trans (Nat.add_le_add_right hbl 2) (by decide)
    rw [eN, split_cutN 10 (by decide), cut_lines]
    -- rest = lines.pop()
    have hsmall : ∀ b ∈ lns bs, (cd b).length ≤ 16384 := fun b hb => by
      have := cutN_small 10 (cd bs) (cd b) (by rw [cut_lines]; exact List.mem_append_left _ (List.mem_map_of_mem hb))
      omega
    have hcount : (lns bs).length ≤ 16384 := by
      have h1 := cutN_count 10 (cd bs)
      rw [cut_lines, List.length_append, List.length_map] at h1
      simp at h1
      omega
    generalize hln : lns bs = ln at *
    generalize hrs : rst bs = rt at *
    have hread : Br.readRecipe bs = goF 0 [] ln rt := by rw [read_go, hln, hrs]
    have eAll : ((ln.map cd ++ [cd rt]).map S).map V.str = (ln.map fun b => wV (cd b)) ++ [wV (cd rt)] := by
      rw [List.map_append, List.map_append, List.map_map, List.map_map]
      rfl
    rw [eAll]
    generalize hlv : (ln.map fun b => wV (cd b)) = lv at *
    have hlvl : lv.length = ln.length := by rw [← hlv, List.length_map]
    refine ⟨_, rfl, .inl ⟨rfl, _, SqL.of upd_same⟩, L, _, wV (cd rt), rfl, rfl, upd_same, ?_, ?_⟩
    · rw [List.length_append]
      show (lv ++ [wV (cd rt)])[lv.length + 1 - 1]? = _
      rw [Nat.add_sub_cancel, List.getElem?_append_right (Nat.le_refl _), Nat.sub_self]
      rfl
    rw [List.dropLast_concat, upd_upd]
    have nLls : ∀ k, k ≤ 4 → L ≠ ls k := fun k hk z => by
      have := s1 _ _ (R0.lst k hk)
      rw [← z, nL] at this
      cases this
    have s2 : Same H (upd H1 L (.lst lv)) := s1.trans (same_new nL)
    refine ⟨_, rfl, L, lv, rfl, SqL.of upd_same, for_it (walk_enum (xs := lv)) (fun i σ H' => ∃ (r : Recipe) (rs : Nat → List Addr) (v5 v6 v7 v8 : Option V), σ = [some (.ref g), some (.ref a), some (.ref L), some (wV (cd rt)), some (wV (bef r)), v5, v6, v7, v8] ∧ Fine r ∧ r.length = i ∧ i ≤ ln.length ∧
      goF 0 [] ln rt = goF i r (ln.drop i) rt ∧ RecAt C H' d ls rs r ∧ Kp ls H H' ∧ H' L = some (.lst lv)) ?_ ?_ ?_ ?_⟩
    · exact ⟨[], rs, none, none, none, none, by rw [e0]; rfl, fine_nil, rfl, Nat.zero_le _, rfl, R0.same s2, fun b o e _ => s2 b o e, upd_same⟩
    · rintro i σ H' hi ⟨r, rs', v5, v6, v7, v8, rfl, hF, hri, hil, hgo, R, kp, hL⟩
      exact SqL.of hL
    · rintro i u σ H2 H3 hi ⟨r, rs', v5, v6, v7, v8, rfl, hF, hri, hil, hgo, R, kp, hL⟩ ⟨T', x', y', rfl, nT, rfl, hx, hy⟩
      rw [hlvl] at hi
      have hbi : ln[i]? = some ln[i] := List.getElem?_eq_getElem hi
      obtain rfl : V.int (i : Nat) = x' := Option.some.inj hx
      obtain rfl : wV (cd ln[i]) = y' := by
        have hy' : lv[i]? = some y' := hy
        rw [← hlv, List.getElem?_map, hbi] at hy'
        exact Option.some.inj hy'
      have hgo2 : goF i r (ln.drop i) rt = goF i r (ln[i] :: ln.drop (i + 1)) rt := by rw [List.drop_eq_getElem_cons hi]
      have hrl := row_line ln[i]
      have sT : Same H2 (upd H2 T' (.tup [.int (i : Nat), wV (cd ln[i])])) := same_new nT
      refine ⟨T', _, rfl, .inl (.inl upd_same), rfl, _, _, rfl, _, _, rfl, rfl, ?_⟩
      refine ⟨_, rfl, cd ln[i], rfl, hsmall _ (List.getElem_mem hi), fun hn H4 s4 => ?_, fun y hy2 H4 p dx qq s4 np nq hp hq => ?_⟩
      · have s24 := sT.trans s4
        have hg4 := s24 _ _ (kp _ _ hg (fun k hk => ne_of hg (R0.lst k hk) (by intro z; cases z)))
        refine ⟨_, rfl, _, rfl, _, rfl, g, CG, dg, _, _, rfl, hg4, TG.cl, TG.nR, reaF_rows _ _, .inl ⟨_, _, rfl, ?_⟩⟩
        refine ⟨_, rfl, rfl, _, rfl, iteN (fun _ => ?_) (fun z => absurd z (by decide))⟩
        refine ⟨_, rfl, _, rfl, (by show 2 ≤ sizeLine; decide), fun p' np' => ?_⟩
        have hl0 : Br.lineIn ln[i] = none := by
          rw [hn] at hrl
          cases e : Br.lineIn ln[i] with
          | none => rfl
          | some x => rw [e] at hrl; cases hrl
        have hres : Br.readRecipe bs = .error (i, 1) := by
          rw [hread, hgo, hgo2]
          unfold goF
          rw [hl0]
        have R4 := R.same s24
        have kp4 := (kp.of s24)
        refine q _ p' (kp4.of (same_new np')) (kp4.free R4 np') ?_ (fun r' e => by rw [hres] at e; cases e)
        rw [upd_same, hres]
        rfl
      · have s24 := sT.trans s4
        have hg4 := s24 _ _ (kp _ _ hg (fun k hk => ne_of hg (R0.lst k hk) (by intro z; cases z)))
        obtain ⟨x, hl0, rfl⟩ : ∃ x, Br.lineIn ln[i] = some x ∧ y = rk x := by
          rw [hy2] at hrl
          cases e : Br.lineIn ln[i] with
          | none => rw [e] at hrl; cases hrl
          | some x => rw [e] at hrl; exact ⟨x, rfl, Option.some.inj hrl⟩
        have R4 := R.same s24
        have kp4 := (kp.of s24)
        refine ⟨_, rfl, _, rfl, _, rfl, g, CG, dg, _, _, rfl, hg4, TG.cl, TG.nR, reaF_rows _ _, .inr ⟨p, d, x, ls, rs', r, rfl, ⟨dx, qq, hp, hq⟩, R4, by omega, fun H5 s5 => ?_⟩⟩
        have R5 := R4.same s5
        have kp5 := kp4.of s5
        have hp5 := s5 _ _ hp
        have hq5 := s5 _ _ hq
        have hg5 := s5 _ _ hg4
        have hL5 := s5 _ _ (s24 _ _ hL)
        rw [why_wrong hF x]
        refine ⟨_, rfl, rfl, _, rfl, iteN (fun e => ?_) (fun e => ?_)⟩
        · have hw : Br.wrongOf r x ≠ 0 := fun z => e (by rw [z]; rfl)
          refine ⟨_, rfl, _, rfl, (by show 2 ≤ sizeLine; decide), fun p' np' => ?_⟩
          have hres : Br.readRecipe bs = .error (i, Br.wrongOf r x) := by
            rw [hread, hgo, hgo2]
            unfold goF
            rw [hl0]
            exact if_neg hw
          refine q _ p' (kp5.of (same_new np')) (kp5.free R5 np') ?_ (fun r' e => by rw [hres] at e; cases e)
          rw [upd_same, hres]
          rfl
        · have hw : Br.wrongOf r x = 0 := nV_inj.mp e
          have hk := rank_le x
          have hgt := DGet.k (k := Sum.inr (S (kindN x.rank))) R5.dict
          rw [kvs_get ls hk] at hgt
          have nqls : ∀ j, j ≤ 4 → qq ≠ ls j := fun j hj z => by
            have := (R.same sT).lst j hj
            rw [← z, nq] at this
            cases this
          have R6 := R5.grow hp5 hq5 nqls
          have hlen5 : (rs' x.rank).length ≤ 16384 := by
            rw [(R5.rows _ hk).len]
            have := ofRank_le x.rank r
            omega
          refine ⟨_, rfl, g, CG, dg, _, _, rfl, hg5, TG.cl, TG.nR, reaF_rows _ _, _, rfl, p, C, dx, _, _, rfl, hp5, T.cl, T.nK, rowF_kind _ _, d, _, rfl, hgt, .inl ⟨rfl, _, SqL.of (R5.lst _ hk)⟩, _, rfl, ls x.rank, _, _, rfl, rfl, R5.lst _ hk, ?_, ?_⟩
          · rw [List.length_map]
            exact Nat.lt_of_le_of_lt hlen5 (by decide)
          · have np6 : p ≠ ls x.rank := ne_of hp5 (R5.lst _ hk) (by intro z; cases z)
            refine ⟨_, rfl, p, C, dx, _, _, rfl, (upd_ne np6).trans hp5, T.cl, T.nK, rowF_kind _ _, ?_⟩
            refine ⟨r ++ [x], _, some (V.int (i : Nat)), some (wV (cd ln[i])), some (V.ref p), some (nV (Br.wrongOf r x)), ?_, fine_snoc hF hw, by rw [List.length_append, hri]; rfl, hi, ?_, R6, ?_, ?_⟩
            · rw [bef_snoc]
              rfl
            · rw [hgo, hgo2]
              conv => lhs; unfold goF
              rw [hl0]
              exact if_pos hw
            · exact fun b o eb nb => (upd_ne (nb _ hk)).trans (kp5 b o eb nb)
            · exact (upd_ne (nLls _ hk)).trans hL5
    · rintro σ H' ⟨r, rs', v5, v6, v7, v8, rfl, hF, hri, hil, hgo, R, kp, hL⟩
      rw [hlvl, List.drop_length] at hgo
      refine ⟨_, rfl, _, rfl, cd rt, bef r, rfl, ?_⟩
      have hend : Br.readRecipe bs = if endM (cd rt) (bef r) = 0 then .ok r else .error (ln.length, endM (cd rt) (bef r)) := by
        rw [hread, hgo]
        exact go_end hF _
      refine ⟨_, rfl, rfl, _, rfl, iteD (fun e => ?_) (fun e => ?_)⟩
      · have h0 : endM (cd rt) (bef r) = 0 := nV_inj.mp e
        rw [if_pos h0] at hend
        refine ⟨Nat.zero_le _, fun p' np' => ?_⟩
        refine q _ p' (kp.of (same_new np')) (kp.free R np') ?_ (fun r' e' => ?_)
        · rw [upd_same, hend]
          rfl
        · rw [hend] at e'
          cases e'
          exact ⟨rs', R.same (same_new np')⟩
      · have h0 : endM (cd rt) (bef r) ≠ 0 := fun z => e (by rw [z]; rfl)
        rw [if_neg h0] at hend
        refine ⟨_, rfl, L, _, rfl, .inl (SqL.of hL), _, rfl, (by show 2 ≤ sizeLine; decide), fun p' np' => ?_⟩
        refine q _ p' (kp.of (same_new np')) (kp.free R np') ?_ (fun r' e' => by rw [hend] at e'; cases e')
        rw [upd_same, hend, hlvl]
        rfl
end
end My

set_option maxRecDepth 100000
set_option maxHeartbeats 2000000
namespace My
open PySem PySem.Spec PyProof.Rows L2
open Br (Line Recipe Bytes)
theorem putK_new {l : List (Key × V)} {k : Key} {v : V} (h : ∀ p ∈ l, p.1 ≠ k) : putK l k v = l ++ [(k, v)] := by
  unfold putK
  rw [if_neg]
  rw [Bool.not_eq_true, List.any_eq_false]
  intro p hp
  simpa using h p hp
theorem merge_kvs (ls : Nat → Addr) : mergeK [] (kvs ls) = kvs ls := by
  have n1 : ¬ (Sum.inr (S kRecipe) : Key) = .inr (S kMalt) := by decide +kernel
  have n2 : ¬ (Sum.inr (S kRecipe) : Key) = .inr (S kHop) := by decide +kernel
  have n3 : ¬ (Sum.inr (S kRecipe) : Key) = .inr (S kAdd) := by decide +kernel
  have n4 : ¬ (Sum.inr (S kRecipe) : Key) = .inr (S kYeast) := by decide +kernel
  have n5 : ¬ (Sum.inr (S kMalt) : Key) = .inr (S kHop) := by decide +kernel
  have n6 : ¬ (Sum.inr (S kMalt) : Key) = .inr (S kAdd) := by decide +kernel
  have n7 : ¬ (Sum.inr (S kMalt) : Key) = .inr (S kYeast) := by decide +kernel
  have n8 : ¬ (Sum.inr (S kHop) : Key) = .inr (S kAdd) := by decide +kernel
  have n9 : ¬ (Sum.inr (S kHop) : Key) = .inr (S kYeast) := by decide +kernel
  have n0 : ¬ (Sum.inr (S kAdd) : Key) = .inr (S kYeast) := by decide +kernel
  unfold mergeK kvs
  simp only [List.foldl]
  rw [putK_new (l := []) (by intro p hp; cases hp), List.nil_append]
  rw [putK_new (l := [_]) (by intro p hp; simp only [List.mem_cons, List.not_mem_nil, or_false] at hp; rw [hp]; exact n1)]
  rw [putK_new (l := [_] ++ [_]) (by
    intro p hp
    simp only [List.mem_append, List.mem_cons, List.not_mem_nil, or_false] at hp
    rcases hp with h | h <;> rw [h]
    · exact n2
    · exact n5)]
  rw [putK_new (l := [_] ++ [_] ++ [_]) (by
    intro p hp
    simp only [List.mem_append, List.mem_cons, List.not_mem_nil, or_false] at hp
    rcases hp with (h | h) | h <;> rw [h]
    · exact n3
    · exact n6
    · exact n8)]
  rw [putK_new (l := [_] ++ [_] ++ [_] ++ [_]) (by
    intro p hp
    simp only [List.mem_append, List.mem_cons, List.not_mem_nil, or_false] at hp
    rcases hp with ((h | h) | h) | h <;> rw [h]
    · exact n4
    · exact n7
    · exact n9
    · exact n0)]
  rfl
section
variable {P : Program} {w : World} {K : PySem.W.Frag} {mg : Str → Option Value} {base : Heap}
/-! ### Reading() -/
theorem scReaI : FnScope ["self"] ["self"] (defScope sReaI) := ⟨rfl, rfl, rfl, by decide +kernel, rfl, by decide +kernel, by decide +kernel⟩
def spReaI (C CG : Addr) : Sp := fun vs H Q _ => ∃ (g dg : Addr), vs = [.ref g] ∧ H g = some (.ins CG dg []) ∧
  ∀ (H' : Hp) (d z : Addr) (ls : Nat → Addr), H' g = some (.ins CG dg (reaF d z)) → H' z = some (.lst []) → RecAt C H' d ls (fun _ => []) [] → (∀ k, k ≤ 4 → H (ls k) = none) → (∀ k, k ≤ 4 → z ≠ ls k) → (∀ b o, H b = some o → b ≠ g → H' b = some o) → Q .non H'
def five (a b c d e : Addr) : Nat → Addr
  | 0 => a
  | 1 => b
  | 2 => c
  | 3 => d
  | _ => e
theorem ok_reaI {f C CG : Addr} {fd : FuncData} (F : Fun K "__init__" "Reading.__init__" sReaI f fd) (T : ReaT K mg CG) : FnOk P w K mg base CX0 1 f fd ["self"] (spReaI C CG) := by
  refine F.ok scReaI (fun vs H Q E h => ?_) (fun cdv A outer s H vs Q E hr h => ?_)
  · obtain ⟨g, dg, rfl, _⟩ := h
    rfl
  · obtain ⟨g, dg, rfl, hg, k⟩ := h
    refine ⟨_, pss_cons (ps_fld (pv 0) (pe_disp (pps_cons pe_str (pe_lst pa_nil) (pps_cons pe_str (pe_lst pa_nil) (pps_cons pe_str (pe_lst pa_nil) (pps_cons pe_str (pe_lst pa_nil) (pps_cons pe_str (pe_lst pa_nil) pps_nil))))) (by rfl) (by rfl) (fun z => by cases z) (by decide)) rfl) <|
      pss_one (ps_fld (pv 0) (pe_lst pa_nil) rfl), ?_⟩
    intro d nd
    refine ⟨Nat.zero_le _, fun a na => ⟨Nat.zero_le _, fun b nb => ⟨Nat.zero_le _, fun c nc => ⟨Nat.zero_le _, fun e ne => ⟨Nat.zero_le _, fun h nh => ?_⟩⟩⟩⟩⟩
    have s0 := same_new (o := .dK []) nd
    have s1 := same_new (o := .lst []) na
    have s2 := same_new (o := .lst []) nb
    have s3 := same_new (o := .lst []) nc
    have s4 := same_new (o := .lst []) ne
    have s5 := same_new (o := .lst []) nh
    have s15 := s1.trans (s2.trans (s3.trans (s4.trans s5)))
    have s05 := s0.trans s15
    have hd5 := s15 _ _ (upd_same (H := H) (a := d) (o := .dK []))
    have ha5 := (s2.trans (s3.trans (s4.trans s5))) _ _ (upd_same (a := a) (o := .lst []))
    have hb5 := (s3.trans (s4.trans s5)) _ _ (upd_same (a := b) (o := .lst []))
    have hc5 := (s4.trans s5) _ _ (upd_same (a := c) (o := .lst []))
    have he5 := s5 _ _ (upd_same (a := e) (o := .lst []))
    have hg5 := s05 _ _ hg
    have k1 : Str.ofString "recipe" = S kRecipe := by decide +kernel
    have k2 : Str.ofString "malt" = S kMalt := by decide +kernel
    have k3 : Str.ofString "hop" = S kHop := by decide +kernel
    have k4 : Str.ofString "add" = S kAdd := by decide +kernel
    have k5 : Str.ofString "yeast" = S kYeast := by decide +kernel
    have hh5 := upd_same (H := upd (upd (upd (upd (upd H d (.dK [])) a (.lst [])) b (.lst [])) c (.lst [])) e (.lst [])) (a := h) (o := .lst [])
    have ab : a ≠ b := ne_of_none (upd_same (o := .lst [])) nb
    have ac : a ≠ c := ne_of_none (s2 _ _ (upd_same (o := .lst []))) nc
    have ae : a ≠ e := ne_of_none ((s2.trans s3) _ _ (upd_same (o := .lst []))) ne
    have ah : a ≠ h := ne_of_none ((s2.trans (s3.trans s4)) _ _ (upd_same (o := .lst []))) nh
    have bc : b ≠ c := ne_of_none (upd_same (o := .lst [])) nc
    have be : b ≠ e := ne_of_none (s3 _ _ (upd_same (o := .lst []))) ne
    have bh : b ≠ h := ne_of_none ((s3.trans s4) _ _ (upd_same (o := .lst []))) nh
    have ce : c ≠ e := ne_of_none (upd_same (o := .lst [])) ne
    have ch : c ≠ h := ne_of_none (s4 _ _ (upd_same (o := .lst []))) nh
    have eh : e ≠ h := ne_of_none (upd_same (o := .lst [])) nh
    have fa : H a = none := s0.free na
    have fb : H b = none := (s0.trans s1).free nb
    have fc : H c = none := (s0.trans (s1.trans s2)).free nc
    have fe : H e = none := (s0.trans (s1.trans (s2.trans s3))).free ne
    have fh : H h = none := (s0.trans (s1.trans (s2.trans (s3.trans s4)))).free nh
    refine ⟨hd5, kvs (five a b c e h), ?_, (by show 5 ≤ 15; decide), ?_⟩
    · show [(V.str (Str.ofString "recipe"), V.ref a), (V.str (Str.ofString "malt"), V.ref b), (V.str (Str.ofString "hop"), V.ref c), (V.str (Str.ofString "add"), V.ref e), (V.str (Str.ofString "yeast"), V.ref h)] = _
      rw [k1, k2, k3, k4, k5]
      rfl
    rw [merge_kvs]
    generalize upd (upd (upd (upd (upd (upd H d (.dK [])) a (.lst [])) b (.lst [])) c (.lst [])) e (.lst [])) h (.lst []) = H5 at *
    have all5 : ∀ k, k ≤ 4 → H5 (five a b c e h k) = some (.lst []) := fun k hk => by
      have : k = 0 ∨ k = 1 ∨ k = 2 ∨ k = 3 ∨ k = 4 := by omega
      rcases this with rfl | rfl | rfl | rfl | rfl
      · exact ha5
      · exact hb5
      · exact hc5
      · exact he5
      · exact hh5
    have fr5 : ∀ k, k ≤ 4 → H (five a b c e h k) = none := fun k hk => by
      have : k = 0 ∨ k = 1 ∨ k = 2 ∨ k = 3 ∨ k = 4 := by omega
      rcases this with rfl | rfl | rfl | rfl | rfl
      · exact fa
      · exact fb
      · exact fc
      · exact fe
      · exact fh
    have inj5 : ∀ j k, j ≤ 4 → k ≤ 4 → five a b c e h j = five a b c e h k → j = k := fun j k hj hk z => by
      have e1 : j = 0 ∨ j = 1 ∨ j = 2 ∨ j = 3 ∨ j = 4 := by omega
      have e2 : k = 0 ∨ k = 1 ∨ k = 2 ∨ k = 3 ∨ k = 4 := by omega
      rcases e1 with rfl | rfl | rfl | rfl | rfl <;> rcases e2 with rfl | rfl | rfl | rfl | rfl
      all_goals first
        | rfl
        | exact absurd z ab
        | exact absurd z ac
        | exact absurd z ae
        | exact absurd z ah
        | exact absurd z bc
        | exact absurd z be
        | exact absurd z bh
        | exact absurd z ce
        | exact absurd z ch
        | exact absurd z eh
        | exact absurd z.symm ab
        | exact absurd z.symm ac
        | exact absurd z.symm ae
        | exact absurd z.symm ah
        | exact absurd z.symm bc
        | exact absurd z.symm be
        | exact absurd z.symm bh
        | exact absurd z.symm ce
        | exact absurd z.symm ch
        | exact absurd z.symm eh
    generalize five a b c e h = ls at *
    have gd : g ≠ d := ne_of_none hg nd
    have lsd : ∀ k, k ≤ 4 → ls k ≠ d := fun k hk => ne_of (all5 k hk) hd5 (by intro z; cases z)
    have lsg : ∀ k, k ≤ 4 → ls k ≠ g := fun k hk => ne_of (all5 k hk) hg5 (by intro z; cases z)
    refine ⟨_, rfl, g, CG, dg, [], rfl, (upd_ne gd).trans hg5, T.cl, T.nR, (by show 0 < 1000; decide), Nat.zero_le _, fun z nz => ?_⟩
    have gz : g ≠ z := ne_of_none (upd_same (o := .ins CG dg (putF "rows" (.ref d) []))) nz
    have dz : d ≠ z := ne_of_none ((upd_ne gd.symm).trans (upd_same (o := .dK (kvs ls)))) nz
    have lsz : ∀ k, k ≤ 4 → ls k ≠ z := fun k hk => ne_of_none ((upd_ne (lsg k hk)).trans ((upd_ne (lsd k hk)).trans (all5 k hk))) nz
    refine ⟨_, rfl, g, CG, dg, _, rfl, (upd_ne gz).trans upd_same, T.cl, T.nF, (by show 1 < 1000; decide), ?_⟩
    have ef : putF "refusal" (V.ref z) (putF "rows" (V.ref d) []) = reaF d z := by
      have e1 : ¬ (Str.ofString "rows" = Str.ofString "refusal") := by decide +kernel
      simp only [putF, if_neg e1]
      rfl
    refine k _ d z ls ?_ ?_ ⟨?_, fun j hj => ?_, inj5, fun j hj => ⟨rfl, fun i a' x' h1 h2 => by cases h1⟩, fun j hj a' ha' => by cases ha'⟩ fr5 (fun j hj => (lsz j hj).symm) (fun b' o' eb nb' => ?_)
    · rw [ef]
      exact upd_same
    · exact (upd_ne gz.symm).trans upd_same
    · exact (upd_ne gd.symm).trans ((upd_ne dz).trans ((upd_ne gd.symm).trans upd_same))
    · exact (upd_ne (lsg j hj)).trans ((upd_ne (lsz j hj)).trans ((upd_ne (lsg j hj)).trans ((upd_ne (lsd j hj)).trans (all5 j hj))))
    · have bd : b' ≠ d := ne_of_none eb nd
      have h7 : upd (upd H5 d (.dK (kvs ls))) g (.ins CG dg (putF "rows" (.ref d) [])) b' = some o' := (upd_ne nb').trans ((upd_ne bd).trans (s05 _ _ eb))
      exact (upd_ne nb').trans ((upd_ne (ne_of_none h7 nz)).trans h7)
/-! ### read_text -/
theorem scText : FnScope ["text", "reading", "fault"] ["text"] (defScope sText) := ⟨rfl, rfl, rfl, by decide +kernel, rfl, by decide +kernel, by decide +kernel⟩
def spText (K : PySem.W.Frag) (C CG : Addr) : Sp := fun vs H Q _ => ∃ (a : Addr) (bs : Bytes), vs = [.ref a] ∧ SqL K H a (bs.map byV) ∧ bs.length ≤ 40000 ∧
  ∀ (H' : Hp) (g dg d z : Addr), H' g = some (.ins CG dg (reaF d z)) → H' z = some (.lst ((refusal bs).map V.int)) → (bs.length ≤ 16384 → ∀ r, Br.readRecipe bs = .ok r → ∃ ls rs, RecAt C H' d ls rs r) → Same H H' → H g = none → Q (.ref g) H'
theorem ok_text {f fI fL C CG : Addr} {fd fdI fdL : FuncData} (F : Fun K "read_text" "read_text" sText f fd) (GL : Df P w K mg base 5 "read_lines" ["reading", "text"] (spLines K C CG) fL fdL) (TG : ReaT K mg CG) (M : Mk K CG fI) (bI : Binds K fdI ["self"] []) (GI : FnOk P w K mg base CX0 1 fI fdI ["self"] (spReaI C CG))
    (ml : mg "len" = none) (cB : Cn mg "MOST_BYTES" (.int 16384)) : FnOk P w K mg base CX0 6 f fd ["text"] (spText K C CG) := by
  obtain ⟨uB, gB, rB⟩ := cB
  refine F.ok scText (fun vs H Q E h => ?_) (fun cdv A outer s H vs Q E hr h => ?_)
  · obtain ⟨a, bs, rfl, _⟩ := h
    rfl
  · obtain ⟨a, bs, rfl, hS, hl, q⟩ := h
    have hr2 : Room 2 _ := hr.mono (by decide)
    refine ⟨_, pss_cons (ps_set (i := 1) scText.nd rfl (.inl rfl) (pe_make0 M GI hr2 rfl TG.g bI .nil pass0)) <|
      pss_cons (ps_if (pt_cmpR op_gt (pe_callB call_len_seq (by rfl) ml PySem.boot_len (pa_cons (pv 0) pa_nil)) (pe_glob rfl gB rB) (nomark _))
        (pss_cons (ps_fld (pv 1) (pe_lst (pa_cons (pe_un un_neg pe_int) pa_nil)) rfl) (pss_one (ps_ret (pv 1)))) pss_nil) <|
      pss_cons (ps_set (i := 2) scText.nd rfl (.inl rfl) (pe_call GL.ok hr rfl GL.g GL.kp GL.b .nil pass0 (pa_cons (pv 1) (pa_cons (pv 0) pa_nil)))) <|
      pss_cons (ps_if (pt_cmpR op_gt (pe_callB call_len_seq (by rfl) ml PySem.boot_len (pa_cons (pv 2) pa_nil)) pe_int (nomark _))
        (pss_one (ps_fld (pv 1) (pe_op op_cat (pe_lst (pa_cons (pe_un un_neg pe_int) pa_nil)) (pv 2)) rfl)) pss_nil) <|
      pss_one (ps_ret (pv 1)), ?_⟩
    intro g dg ng ndg neg
    refine ⟨g, dg, rfl, upd_same, fun H1 d z ls hg hz R hfr hzl k1 => ⟨rfl, ?_⟩⟩
    have s1 : Same H H1 := Same.made ng ndg k1
    have hfr' : ∀ k, k ≤ 4 → H (ls k) = none := fun k hk => by
      have e := hfr k hk
      cases eh : H (ls k) with
      | none => rfl
      | some o =>
        have n1 : ls k ≠ g := ne_of_none eh ng
        have n2 : ls k ≠ dg := ne_of_none eh ndg
        rw [upd_ne n1, upd_ne n2, eh] at e
        cases e
    have ep : ∀ v, putF "refusal" v (reaF d z) = ([("rows", .ref d), ("refusal", v)] : List (Str × V)) := fun v => by
      have e1 : ¬ (Str.ofString "rows" = Str.ofString "refusal") := by decide +kernel
      unfold reaF
      simp only [putF, if_neg e1, if_true]
    have zg : z ≠ g := ne_of hz hg (by intro t; cases t)
    have dgn : d ≠ g := ne_of R.dict hg (by intro t; cases t)
    refine ⟨_, rfl, a, _, rfl, .inl (s1.seq hS), _, _, rfl, rfl, _, rfl, iteD (fun e => ?_) (fun e => ?_)⟩
    · have e' : (16384 : Int) < ((bs.map byV).length : Int) := e
      rw [List.length_map] at e'
      have hb : 16384 < bs.length := by omega
      refine ⟨_, rfl, (by show 1 ≤ sizeLine; decide), fun z2 nz2 => ⟨_, rfl, g, CG, dg, _, rfl, (upd_ne (ne_of_none hg nz2)).trans hg, TG.cl, TG.nF, (by show 2 < 1000; decide), _, rfl, ?_⟩⟩
      rw [ep]
      have gz2 : g ≠ z2 := ne_of_none hg nz2
      refine q _ g dg d z2 upd_same ?_ (fun h => absurd h (by omega)) (fun b o eb => ?_) ng
      · have er : refusal bs = [-2] := if_pos hb
        rw [er]
        exact (upd_ne gz2.symm).trans upd_same
      · have hb1 := s1 _ _ eb
        exact (upd_ne (ne_of_none eb ng)).trans ((upd_ne (ne_of_none hb1 nz2)).trans hb1)
    · have e' : ¬ (16384 : Int) < ((bs.map byV).length : Int) := e
      rw [List.length_map] at e'
      have hb : bs.length ≤ 16384 := by omega
      refine ⟨_, rfl, _, rfl, g, a, dg, d, z, ls, _, bs, rfl, hg, R, s1.seq hS, hb, fun H2 p kp np hp hrec => ?_⟩
      have s2 : Same H H2 := fun b o eb => kp b o (s1 b o eb) fun k hk t => by rw [t, hfr' k hk] at eb; cases eb
      have hg2 := kp _ _ hg fun k hk => ne_of hg (R.lst k hk) (by intro t; cases t)
      have hz2 := kp _ _ hz hzl
      cases hr0 : Br.readRecipe bs with
      | ok r =>
        rw [hr0] at hp
        have hp' : H2 p = some (.lst []) := hp
        have er : refusal bs = [] := by
          unfold refusal
          rw [if_neg (by omega), hr0]
        refine ⟨_, rfl, p, _, rfl, .inl (SqL.of hp'), _, _, rfl, rfl, _, rfl, _, rfl, ?_⟩
        refine q _ g dg d z hg2 (by rw [er]; exact hz2) (fun _ r' e => ?_) s2 ng
        obtain ⟨rs', R'⟩ := hrec r' e
        exact ⟨ls, rs', R'⟩
      | error e =>
        rw [hr0] at hp
        have hp' : H2 p = some (.lst [nV e.1, nV e.2]) := hp
        have er : refusal bs = [-6, (e.1 : Int), (e.2 : Int)] := by
          unfold refusal
          rw [if_neg (by omega), hr0]
        refine ⟨_, rfl, p, _, rfl, .inl (SqL.of hp'), _, _, rfl, rfl, _, rfl, ?_⟩
        refine ⟨_, rfl, (by show 1 ≤ sizeLine; decide), fun m nm => ⟨_, rfl, m, p, _, _, rfl, rfl, upd_same, (upd_ne (ne_of_none hp' nm)).trans hp', (by show 3 ≤ sizeLine; decide), fun z2 nz2 => ?_⟩⟩
        have sm := same_new (o := .lst [.int (-6)]) nm
        have hg3 := sm _ _ hg2
        have gz2 : g ≠ z2 := ne_of_none hg3 nz2
        refine ⟨_, rfl, g, CG, dg, _, rfl, (upd_ne gz2).trans hg3, TG.cl, TG.nF, (by show 2 < 1000; decide), _, rfl, ?_⟩
        rw [ep]
        refine q _ g dg d z2 upd_same ?_ (fun _ r' e => by rw [hr0] at e; cases e) (fun b o eb => ?_) ng
        · rw [er]
          exact (upd_ne gz2.symm).trans upd_same
        · have hb1 := sm _ _ (s2 _ _ eb)
          exact (upd_ne (ne_of_none eb ng)).trans ((upd_ne (ne_of_none hb1 nz2)).trans hb1)
end
end My

set_option maxRecDepth 100000
set_option maxHeartbeats 2000000
namespace My
open PySem PySem.Spec PyProof.Rows L2
open Br (Line Recipe Bytes)
/-! ### the two tables, as the top has written them -/
abbrev ent (w : World) (x : Str) (t : Tok) (a : Addr) : DictEntry := ⟨PyData.keyHash w.params x, .str x t, .ref a⟩
abbrev dictObj (es : Array DictEntry) (n : Nat) : Obj := ⟨.type "dict", none, .dict es n, #[]⟩
abbrev tupObj (od : Option Addr) (vs : Array Value) (n : Nat) (sl : Array (Option Value)) : Obj := ⟨.type "tuple", od, .seq vs n, sl⟩
def four (a b c d e : List Addr) : Nat → List Addr
  | 0 => a
  | 1 => b
  | 2 => c
  | 3 => d
  | _ => e
theorem kR : Str.ofString "recipe" = S kRecipe := by decide +kernel
theorem kM : Str.ofString "malt" = S kMalt := by decide +kernel
theorem kH : Str.ofString "hop" = S kHop := by decide +kernel
theorem kA : Str.ofString "add" = S kAdd := by decide +kernel
theorem kY : Str.ofString "yeast" = S kYeast := by decide +kernel
theorem S_beq (a b : List Nat) : (S a == S b) = decide (a = b) := by
  rw [Bool.eq_iff_iff, beq_iff_eq, decide_eq_true_eq]
  exact ⟨S_inj, fun h => by rw [h]⟩
theorem isStr_S (a z : List Nat) (t : Tok) : Value.isStr (.str (S a) t) (S z) = decide (a = z) := by
  show (S a == S z) = _
  exact S_beq a z
section
variable {w : World} {K : PySem.W.Frag} {mg : Str → Option Value}
theorem ns_five {d a0 a1 a2 a3 a4 : Addr} {t0 t1 t2 t3 t4 : Tok} {n : Nat} (h : K.lookup d = some (dictObj #[ent w "recipe" t0 a0, ent w "malt" t1 a1, ent w "hop" t2 a2, ent w "add" t3 a3, ent w "yeast" t4 a4] n)) (z : List Nat) :
    PySem.W.nsIn K d (S z) = some ((rankOf z).map fun k => Value.ref (five a0 a1 a2 a3 a4 k)) := by
  unfold PySem.W.nsIn
  rw [h]
  dsimp only [dictObj, ent]
  rw [kR, kM, kH, kA, kY]
  simp only [List.find?, isStr_S]
  unfold rankOf
  by_cases e0 : kRecipe = z
  · subst e0; rfl
  · rw [decide_eq_false e0, if_neg (show ¬ z = kRecipe from fun q => e0 q.symm)]
    by_cases e1 : kMalt = z
    · subst e1; rfl
    · rw [decide_eq_false e1, if_neg (show ¬ z = kMalt from fun q => e1 q.symm)]
      by_cases e2 : kHop = z
      · subst e2; rfl
      · rw [decide_eq_false e2, if_neg (show ¬ z = kHop from fun q => e2 q.symm)]
        by_cases e3 : kAdd = z
        · subst e3; rfl
        · rw [decide_eq_false e3, if_neg (show ¬ z = kAdd from fun q => e3 q.symm)]
          by_cases e4 : kYeast = z
          · subst e4; rfl
          · rw [decide_eq_false e4, if_neg (show ¬ z = kYeast from fun q => e4 q.symm)]
            rfl
theorem lit_five {a0 a1 a2 a3 a4 : Addr} {t0 t1 t2 t3 t4 : Tok} : PySem.W.KeysLit w.params (#[ent w "recipe" t0 a0, ent w "malt" t1 a1, ent w "hop" t2 a2, ent w "add" t3 a3, ent w "yeast" t4 a4] : Array DictEntry).toList :=
  ⟨⟨_, _, rfl, rfl⟩, ⟨_, _, rfl, rfl⟩, ⟨_, _, rfl, rfl⟩, ⟨_, _, rfl, rfl⟩, ⟨_, _, rfl, rfl⟩, trivial⟩
theorem sqT_of {H : Hp} {a : Addr} {od : Option Addr} {vs : Array Value} {n : Nat} {sl : Array (Option Value)} {xs : List V} (h : K.lookup a = some (tupObj od vs n sl)) (hs : vs.size ≤ sizeLine) (r : Vals xs vs.toList) : SqT K H a xs :=
  .inr ⟨_, vs, n, h, rfl, rfl, hs, r⟩
theorem cn_int {x : Str} {i : Int} {t : Tok} (h : mg x = some (.int i t)) : Cn mg x (.int i) := ⟨_, h, ⟨t, rfl⟩⟩
theorem cn_str {x : Str} {s s' : Str} {t : Tok} (h : mg x = some (.str s t)) (e : s = s') : Cn mg x (.str s') := by
  subst e
  exact ⟨_, h, ⟨t, rfl⟩⟩
theorem k5 {k : Nat} (h : k ≤ 4) : k = 0 ∨ k = 1 ∨ k = 2 ∨ k = 3 ∨ k = 4 := by omega
theorem mk_bnd {d a0 a1 a2 a3 a4 p1 p2 p3 p4 p5 p6 p7 : Addr} {t0 t1 t2 t3 t4 : Tok} {n : Nat} {n0 n1 n2 n3 n4 m1 m2 m3 m4 m5 m6 m7 : Nat} {o0 o1 o2 o3 o4 q1 q2 q3 q4 q5 q6 q7 : Option Addr} {s0 s1 s2 s3 s4 r1 r2 r3 r4 r5 r6 r7 : Array (Option Value)} {u1 u2 u3 u4 u5 u6 u7 v1 v2 v3 v4 v5 v6 v7 : Tok}
    (g : mg "BOUNDS" = some (.ref d)) (low : (d == sysModules) = false)
    (h : K.lookup d = some (dictObj #[ent w "recipe" t0 a0, ent w "malt" t1 a1, ent w "hop" t2 a2, ent w "add" t3 a3, ent w "yeast" t4 a4] n))
    (h0 : K.lookup a0 = some (tupObj o0 #[] n0 s0)) (h1 : K.lookup a1 = some (tupObj o1 #[.ref p1, .ref p2] n1 s1)) (h2 : K.lookup a2 = some (tupObj o2 #[.ref p3, .ref p4, .ref p5] n2 s2)) (h3 : K.lookup a3 = some (tupObj o3 #[.ref p6] n3 s3)) (h4 : K.lookup a4 = some (tupObj o4 #[.ref p7] n4 s4))
    (i1 : K.lookup p1 = some (tupObj q1 #[.int 1 u1, .int 10000 v1] m1 r1)) (i2 : K.lookup p2 = some (tupObj q2 #[.int 1 u2, .int 850 v2] m2 r2)) (i3 : K.lookup p3 = some (tupObj q3 #[.int 1 u3, .int 10000 v3] m3 r3)) (i4 : K.lookup p4 = some (tupObj q4 #[.int 1 u4, .int 2500 v4] m4 r4))
    (i5 : K.lookup p5 = some (tupObj q5 #[.int 0 u5, .int 120 v5] m5 r5)) (i6 : K.lookup p6 = some (tupObj q6 #[.int 1 u6, .int 100000 v6] m6 r6)) (i7 : K.lookup p7 = some (tupObj q7 #[.int 1 u7, .int 950 v7] m7 r7)) :
    Bnd K w mg d (five a0 a1 a2 a3 a4) (four [] [p1, p2] [p3, p4, p5] [p6] [p7]) := by
  have two : ∀ {p : Addr} {q : Option Addr} {x y : Int} {u v : Tok} {m : Nat} {r : Array (Option Value)}, K.lookup p = some (tupObj q #[.int x u, .int y v] m r) → ∀ H, SqT K H p [.int x, .int y] := fun e H => sqT_of e (by show 2 ≤ sizeLine; decide) (.cons ⟨_, rfl⟩ (.cons ⟨_, rfl⟩ .nil))
  refine ⟨g, ⟨_, n, h, lit_five, low⟩, ns_five h, fun k hk H => ?_, fun k hk => ?_, fun k hk i p b e1 e2 H => ?_⟩
  · rcases k5 hk with rfl | rfl | rfl | rfl | rfl
    · exact sqT_of h0 (by show 0 ≤ sizeLine; decide) .nil
    · exact sqT_of h1 (by show 2 ≤ sizeLine; decide) (.cons rfl (.cons rfl .nil))
    · exact sqT_of h2 (by show 3 ≤ sizeLine; decide) (.cons rfl (.cons rfl (.cons rfl .nil)))
    · exact sqT_of h3 (by show 1 ≤ sizeLine; decide) (.cons rfl .nil)
    · exact sqT_of h4 (by show 1 ≤ sizeLine; decide) (.cons rfl .nil)
  · rcases k5 hk with rfl | rfl | rfl | rfl | rfl <;> rfl
  · rcases k5 hk with rfl | rfl | rfl | rfl | rfl
    · cases e2
    · match i, e1, e2 with
      | 0, e1, e2 => cases e1; cases e2; exact two i1 H
      | 1, e1, e2 => cases e1; cases e2; exact two i2 H
      | i + 2, e1, e2 => simp [bds] at e2
    · match i, e1, e2 with
      | 0, e1, e2 => cases e1; cases e2; exact two i3 H
      | 1, e1, e2 => cases e1; cases e2; exact two i4 H
      | 2, e1, e2 => cases e1; cases e2; exact two i5 H
      | i + 3, e1, e2 => simp [bds] at e2
    · match i, e1, e2 with
      | 0, e1, e2 => cases e1; cases e2; exact two i6 H
      | i + 1, e1, e2 => simp [bds] at e2
    · match i, e1, e2 with
      | 0, e1, e2 => cases e1; cases e2; exact two i7 H
      | i + 1, e1, e2 => simp [bds] at e2
theorem mk_may {d a0 a1 a2 a3 a4 : Addr} {t0 t1 t2 t3 t4 : Tok} {n : Nat} {n0 n1 n2 n3 n4 : Nat} {o0 o1 o2 o3 o4 : Option Addr} {s0 s1 s2 s3 s4 : Array (Option Value)} {u0 u1 u2 u3 u4 u5 u6 u7 u8 u9 u10 : Tok}
    (g : mg "MAY_FOLLOW" = some (.ref d)) (low : (d == sysModules) = false)
    (h : K.lookup d = some (dictObj #[ent w "recipe" t0 a0, ent w "malt" t1 a1, ent w "hop" t2 a2, ent w "add" t3 a3, ent w "yeast" t4 a4] n))
    (h0 : K.lookup a0 = some (tupObj o0 #[.str "" u0] n0 s0)) (h1 : K.lookup a1 = some (tupObj o1 #[.str "recipe" u1, .str "malt" u2] n1 s1)) (h2 : K.lookup a2 = some (tupObj o2 #[.str "malt" u3, .str "hop" u4] n2 s2))
    (h3 : K.lookup a3 = some (tupObj o3 #[.str "malt" u5, .str "hop" u6, .str "add" u7] n3 s3)) (h4 : K.lookup a4 = some (tupObj o4 #[.str "malt" u8, .str "hop" u9, .str "add" u10] n4 s4)) :
    May K w mg d (five a0 a1 a2 a3 a4) := by
  have st : ∀ {x : String} {l : List Nat} {u : Tok}, Str.ofString x = S l → L2.RelV (wV l) (.str (Str.ofString x) u) := fun {x l u} e => ⟨u, by rw [e]⟩
  have e0 : Str.ofString "" = S [] := by decide +kernel
  refine ⟨g, fun k hk => ?_, fun k hk H => ?_⟩
  · refine ⟨_, n, .ref (five a0 a1 a2 a3 a4 k), h, lit_five, ?_, rfl⟩
    rw [ns_five h, rank_kind hk]
    rfl
  · rcases k5 hk with rfl | rfl | rfl | rfl | rfl
    · exact sqT_of h0 (by show 1 ≤ sizeLine; decide) (.cons (st e0) .nil)
    · exact sqT_of h1 (by show 2 ≤ sizeLine; decide) (.cons (st kR) (.cons (st kM) .nil))
    · exact sqT_of h2 (by show 2 ≤ sizeLine; decide) (.cons (st kM) (.cons (st kH) .nil))
    · exact sqT_of h3 (by show 3 ≤ sizeLine; decide) (.cons (st kM) (.cons (st kH) (.cons (st kA) .nil)))
    · exact sqT_of h4 (by show 3 ≤ sizeLine; decide) (.cons (st kM) (.cons (st kH) (.cons (st kA) .nil)))
end
theorem bytes_V : ∀ ns : List Int, (∀ x ∈ ns, 0 ≤ x ∧ x ≤ 255) → ns.map V.int = (WqatdlNeutral.bytes ns).map byV
  | [], _ => rfl
  | x :: r, h => by
    have ih := bytes_V r fun y hy => h y (List.mem_cons_of_mem _ hy)
    have hx := h x (List.mem_cons_self ..)
    show V.int x :: r.map V.int = byV (UInt8.ofNat x.toNat) :: (WqatdlNeutral.bytes r).map byV
    rw [ih]
    congr 1
    unfold byV
    rw [UInt8.toNat_ofNat']
    congr 1
    omega
end My

set_option maxRecDepth 100000
set_option maxHeartbeats 2000000
namespace My
open PySem PySem.Spec PyProof.Rows L2
open Br (Line Recipe Bytes)
/-! ### KIND_NUMBERS, as the top has written it -/
structure Kin (K : PySem.W.Frag) (w : World) (mg : Str → Option Value) (dN : Addr) : Prop where
  g : mg "KIND_NUMBERS" = some (.ref dN)
  keys : ∃ es n, KKeys K dN es n (([1, 2, 3] : List Nat).map fun k => wV (kindN k))
  get : ∀ k, 1 ≤ k → k ≤ 3 → KDct K w dN (S (kindN k)) (nV (k - 1))
theorem mk_kin {w : World} {K : PySem.W.Frag} {mg : Str → Option Value} {d : Addr} {t0 t1 t2 u0 u1 u2 : Tok} {n : Nat} (g : mg "KIND_NUMBERS" = some (.ref d)) (low : (d == sysModules) = false)
    (h : K.lookup d = some (dictObj #[⟨PyData.keyHash w.params "malt", .str "malt" t0, .int 0 u0⟩, ⟨PyData.keyHash w.params "hop", .str "hop" t1, .int 1 u1⟩, ⟨PyData.keyHash w.params "add", .str "add" t2, .int 2 u2⟩] n)) : Kin K w mg d := by
  refine ⟨g, ⟨_, n, h, low, rfl, fun i x hx => ?_⟩, fun k h1 h3 => ?_⟩
  · match i, hx with
    | 0, hx => cases hx; exact ⟨_, rfl, t0, by rw [kM]; rfl⟩
    | 1, hx => cases hx; exact ⟨_, rfl, t1, by rw [kH]; rfl⟩
    | 2, hx => cases hx; exact ⟨_, rfl, t2, by rw [kA]; rfl⟩
    | i + 3, hx => simp at hx
  · have lit : PySem.W.KeysLit w.params (#[⟨PyData.keyHash w.params "malt", .str "malt" t0, .int 0 u0⟩, ⟨PyData.keyHash w.params "hop", .str "hop" t1, .int 1 u1⟩, ⟨PyData.keyHash w.params "add", .str "add" t2, .int 2 u2⟩] : Array DictEntry).toList :=
      ⟨⟨_, _, rfl, rfl⟩, ⟨_, _, rfl, rfl⟩, ⟨_, _, rfl, rfl⟩, trivial⟩
    have hns : ∀ z : List Nat, PySem.W.nsIn K d (S z) = some (if kMalt = z then some (.int 0 u0) else if kHop = z then some (.int 1 u1) else if kAdd = z then some (.int 2 u2) else none) := fun z => by
      unfold PySem.W.nsIn
      rw [h]
      dsimp only [dictObj]
      rw [kM, kH, kA]
      simp only [List.find?, isStr_S]
      by_cases e1 : kMalt = z
      · subst e1; rfl
      · rw [decide_eq_false e1, if_neg e1]
        by_cases e2 : kHop = z
        · subst e2; rfl
        · rw [decide_eq_false e2, if_neg e2]
          by_cases e3 : kAdd = z
          · subst e3; rfl
          · rw [decide_eq_false e3, if_neg e3]
            rfl
    have : k = 1 ∨ k = 2 ∨ k = 3 := by omega
    rcases this with rfl | rfl | rfl
    · exact ⟨_, n, .int 0 u0, h, lit, by rw [hns]; rfl, ⟨u0, rfl⟩⟩
    · exact ⟨_, n, .int 1 u1, h, lit, by rw [hns]; rfl, ⟨u1, rfl⟩⟩
    · exact ⟨_, n, .int 2 u2, h, lit, by rw [hns]; rfl, ⟨u2, rfl⟩⟩
theorem refusal_ok {t : Bytes} (h : refusal t = []) : t.length ≤ 16384 ∧ ∃ r, Br.readRecipe t = .ok r := by
  unfold refusal at h
  by_cases c : 16384 < t.length
  · rw [if_pos c] at h
    cases h
  · rw [if_neg c] at h
    refine ⟨by omega, ?_⟩
    cases e : Br.readRecipe t with
    | ok r => exact ⟨r, rfl⟩
    | error x => rw [e] at h; cases h
end My

set_option maxRecDepth 100000
set_option maxHeartbeats 2000000
namespace My
open PySem PySem.Spec PyProof.Rows L2
open Br (Line Recipe Bytes)
abbrev sBatch : Stmt := top 34
abbrev sRB : Stmt := top 35
section
variable {P : Program} {w : World} {K : PySem.W.Frag} {mg : Str → Option Value} {base : Heap}
/-! ### is_batch -/
theorem scBatch : FnScope ["ml", "malt", "hops", "reading"] ["ml", "malt", "hops", "reading"] (defScope sBatch) := ⟨rfl, rfl, rfl, by decide +kernel, rfl, by decide +kernel, by decide +kernel⟩
def spBatch (C CG : Addr) : Sp := fun vs H Q _ => ∃ (ml malt hops : Nat) (g dg d z : Addr) (ls : Nat → Addr) (rs : Nat → List Addr) (r : Recipe), vs = [nV ml, nV malt, nV hops, .ref g] ∧ H g = some (.ins CG dg (reaF d z)) ∧ RecAt C H d ls rs r ∧ Q (.bl (Br.batchOk r ⟨ml, malt, hops⟩)) H
theorem batch_is (r : Recipe) (ml malt hops : Nat) : Br.batchOk r ⟨ml, malt, hops⟩ = (decide ((1 ≤ ml ∧ ml ≤ 10000000) ∧ malt ≤ 10000000 ∧ hops ≤ 10000000) && (decide (hops = 0) || decide (0 < (ofRank 2 r).length))) := by
  unfold Br.batchOk Br.within Br.MOST
  rw [Bool.eq_iff_iff]
  simp only [Bool.and_eq_true, Bool.or_eq_true, decide_eq_true_eq, Bool.not_eq_true', beq_iff_eq]
  rw [← hops_len]
  have e : ((Br.hops r).isEmpty = false) ↔ 0 < (Br.hops r).length := by
    cases Br.hops r with
    | nil => simp
    | cons a l => simp
  rw [e]
  constructor
  · rintro ⟨h1, h2, h3, h4⟩
    exact ⟨⟨h1, h2, h3⟩, h4.elim .inr .inl⟩
  · rintro ⟨⟨h1, h2, h3⟩, h4⟩
    exact ⟨h1, h2, h3, h4.elim .inr .inl⟩
theorem ok_batch {f C CG : Addr} {fd : FuncData} (F : Fun K "is_batch" "is_batch" sBatch f fd) (TG : ReaT K mg CG) (ml : mg "len" = none) (cM : Cn mg "MOST_ML" (.int 10000000)) (cG : Cn mg "MOST_GRAMS" (.int 10000000)) :
    FnOk P w K mg base CX0 1 f fd ["ml", "malt", "hops", "reading"] (spBatch C CG) := by
  obtain ⟨uM, gM, rM⟩ := cM
  obtain ⟨uG, gG, rG⟩ := cG
  refine F.ok scBatch (fun vs H Q E h => ?_) (fun cdv A outer s H vs Q E hr h => ?_)
  · obtain ⟨v, mt, hp, g, dg, d, z, ls, rs, r, rfl, _⟩ := h
    rfl
  · obtain ⟨v, mt, hp, g, dg, d, z, ls, rs, r, rfl, hg, R, q⟩ := h
    have hu := hu_of hr
    refine ⟨_, pss_cons (ps_if (PW.pt (pw_or (pt_not (pt_chain op_le op_le pe_int (pv 0) (pe_glob rfl gM rM))) (pw_or (pt_not (pt_chain op_le op_le pe_int (pv 1) (pe_glob rfl gG rG))) (pw_or1 (pt_not (pt_chain op_le op_le pe_int (pv 2) (pe_glob rfl gG rG))))))) (pss_one (ps_ret pe_bl)) pss_nil) <|
      pss_one (ps_ret (pe_or (pe_cmpR op_eq (pv 2) pe_int (nomark _)) (pe_one (pe_cmpR op_gt (pe_callB call_len_seq (by rfl) ml PySem.boot_len (pa_cons (pe_dget hu (pe_fld (pv 3) rfl) pe_str (fun _ _ => rfl)) pa_nil)) pe_int (nomark _))))), ?_⟩
    rw [batch_is] at q
    have no : ¬ ((1 ≤ v ∧ v ≤ 10000000) ∧ mt ≤ 10000000 ∧ hp ≤ 10000000) → Q (.bl false) H := fun c => by
      rw [decide_eq_false c] at q
      exact q
    refine ⟨_, rfl, _, _, rfl, rfl, _, rfl, ?_⟩
    by_cases c1 : 1 ≤ v
    case neg =>
      rw [decide_eq_false (show ¬ (1 : Int) ≤ (v : Int) by omega)]
      exact ⟨_, rfl, no (fun z => c1 z.1.1)⟩
    rw [decide_eq_true (show (1 : Int) ≤ (v : Int) by omega)]
    refine ⟨_, _, rfl, rfl, _, rfl, ?_⟩
    by_cases c2 : v ≤ 10000000
    case neg =>
      rw [decide_eq_false (show ¬ (v : Int) ≤ 10000000 by omega)]
      exact no (fun z => c2 z.1.2)
    rw [decide_eq_true (show (v : Int) ≤ 10000000 by omega)]
    -- malt
    refine ⟨_, rfl, _, _, rfl, rfl, _, rfl, ?_⟩
    rw [decide_eq_true (show (0 : Int) ≤ (mt : Int) by omega)]
    refine ⟨_, _, rfl, rfl, _, rfl, ?_⟩
    by_cases c3 : mt ≤ 10000000
    case neg =>
      rw [decide_eq_false (show ¬ (mt : Int) ≤ 10000000 by omega)]
      exact no (fun z => c3 z.2.1)
    rw [decide_eq_true (show (mt : Int) ≤ 10000000 by omega)]
    -- hops
    refine ⟨_, rfl, _, _, rfl, rfl, _, rfl, ?_⟩
    rw [decide_eq_true (show (0 : Int) ≤ (hp : Int) by omega)]
    refine ⟨_, _, rfl, rfl, _, rfl, ?_⟩
    by_cases c4 : hp ≤ 10000000
    case neg =>
      rw [decide_eq_false (show ¬ (hp : Int) ≤ 10000000 by omega)]
      exact no (fun z => c4 z.2.2)
    rw [decide_eq_true (show (hp : Int) ≤ 10000000 by omega)]
    rw [decide_eq_true (show (1 ≤ v ∧ v ≤ 10000000) ∧ mt ≤ 10000000 ∧ hp ≤ 10000000 from ⟨⟨c1, c2⟩, c3, c4⟩)] at q
    refine ⟨_, rfl, rfl, _, rfl, iteD (fun e => ?_) (fun e => ?_)⟩
    · have e0 : hp = 0 := nV_inj.mp e
      rw [decide_eq_true e0] at q
      exact q
    · have e0 : ¬ hp = 0 := fun z => e (by rw [z]; rfl)
      rw [decide_eq_false e0] at q
      have hgt := DGet.k (k := Sum.inr (S (kindN 2))) R.dict
      rw [kvs_get ls (by decide)] at hgt
      have hl : ((rs 2).map V.ref).length = (ofRank 2 r).length := by rw [List.length_map, (R.rows 2 (by decide)).len]
      refine ⟨_, rfl, g, CG, dg, _, _, rfl, hg, TG.cl, TG.nR, reaF_rows _ _, d, _, rfl, ?_, ls 2, _, rfl, .inl (SqL.of (R.lst 2 (by decide))), _, _, rfl, rfl, ?_⟩
      · rw [kH]
        exact hgt
      · have e1 : decide ((0 : Int) < (((rs 2).map V.ref).length : Int)) = decide (0 < (ofRank 2 r).length) := by
          rw [hl]
          congr 1
          rw [eq_iff_iff]
          omega
        show Q (.bl (decide ((0 : Int) < (((rs 2).map V.ref).length : Int)))) H
        rw [e1]
        exact q
/-! ### read_batch -/
theorem len_ne {l : List Int} (e : (0 : Int) < ((l.map V.int).length : Int)) : l ≠ [] := fun t => by rw [t] at e; exact absurd e (by decide)
theorem len_nil {l : List Int} (e : ¬ (0 : Int) < ((l.map V.int).length : Int)) : l = [] := by
  cases l with
  | nil => rfl
  | cons x r => exact absurd (by rw [List.length_map, List.length_cons]; omega) e
theorem scRB : FnScope ["ml", "malt", "hops", "text", "reading"] ["ml", "malt", "hops", "text"] (defScope sRB) := ⟨rfl, rfl, rfl, by decide +kernel, rfl, by decide +kernel, by decide +kernel⟩
/-- the refusal of a text and a batch -/
def refB (b : Br.Batch) (t : Bytes) : List Int := if refusal t ≠ [] then refusal t else match Br.readRecipe t with
  | .ok r => if Br.batchOk r b = false then [-1] else []
  | .error _ => []
theorem refB_ne {b : Br.Batch} {t : Bytes} (h : refusal t ≠ []) : refB b t = refusal t := if_pos h
theorem refB_ok {b : Br.Batch} {t : Bytes} {r : Recipe} (h : refusal t = []) (hr : Br.readRecipe t = .ok r) : refB b t = if Br.batchOk r b = false then [-1] else [] := by
  unfold refB
  rw [if_neg (fun z => z h), hr]
/-- what the later calls answer, over refB -/
theorem onText_refB {b : Br.Batch} {t : Bytes} {f : Recipe → List Int} (hf : ∀ r, Br.batchOk r b = false → f r = [-1]) : onText t f = if refB b t ≠ [] then refB b t else match Br.readRecipe t with
  | .ok r => f r
  | .error _ => [] := by
  unfold onText
  by_cases h : refusal t ≠ []
  · rw [if_pos h, refB_ne h, if_pos h]
  · have h0 : refusal t = [] := Classical.byContradiction h
    obtain ⟨_, r, hr⟩ := refusal_ok h0
    rw [if_neg h, refB_ok h0 hr, hr]
    dsimp only
    by_cases e : Br.batchOk r b = false
    · rw [if_pos e, hf r e]
      rfl
    · rw [if_neg e]
      rfl
theorem refB_nil {b : Br.Batch} {t : Bytes} (h : refB b t = []) : refusal t = [] ∧ ∃ r, Br.readRecipe t = .ok r ∧ Br.batchOk r b = true := by
  by_cases e : refusal t ≠ []
  · rw [refB_ne e] at h
    exact absurd h e
  · have h0 : refusal t = [] := Classical.byContradiction e
    obtain ⟨_, r, hr⟩ := refusal_ok h0
    rw [refB_ok h0 hr] at h
    refine ⟨h0, r, hr, ?_⟩
    cases eb : Br.batchOk r b with
    | true => rfl
    | false => rw [if_pos eb] at h; cases h
/-- what is told of a recipe stands where all stands but a Reading -/
theorem RecAt.but {C CG : Addr} {H H' : Hp} {d g dg d' z : Addr} {ls : Nat → Addr} {rs : Nat → List Addr} {r : Recipe} (R : RecAt C H d ls rs r) (hg : H g = some (.ins CG dg (reaF d' z))) (s : ∀ b o, H b = some o → b ≠ g → H' b = some o) : RecAt C H' d ls rs r := by
  have no : ∀ {dx : Addr} {y : Nat × List Nat × List Nat} {q : Addr}, HO.ins C dx (rowF y q) ≠ HO.ins CG dg (reaF d' z) := fun {dx y q} e => by
    have e2 : rowF y q = reaF d' z := (HO.ins.inj e).2.2
    exact absurd (congrArg List.length e2) (by show ¬ (3 = 2); decide)
  have row : ∀ {a : Addr} {y : Nat × List Nat × List Nat}, RowAt C H a y → RowAt C H' a y := fun {a y} h => by
    obtain ⟨dx, q, h1, h2⟩ := h
    exact ⟨dx, q, s _ _ h1 (fun t => no (Option.some.inj (h1.symm.trans (t ▸ hg)))), s _ _ h2 (ne_of h2 hg (by intro t; cases t))⟩
  refine ⟨s _ _ R.dict (ne_of R.dict hg (by intro t; cases t)), fun k hk => s _ _ (R.lst k hk) (ne_of (R.lst k hk) hg (by intro t; cases t)), R.inj, fun k hk => ⟨(R.rows k hk).len, fun i a x h1 h2 => row ((R.rows k hk).at_ i a x h1 h2)⟩, fun k hk a ha dx y q e => ?_⟩
  obtain ⟨x, _, dx0, q0, h1, _⟩ := (R.rows k hk).mem ha
  have e2 := (s _ _ h1 (fun t => no (Option.some.inj (h1.symm.trans (t ▸ hg))))).symm.trans e
  exact R.apart k hk a ha dx y q (h1.trans e2)
def spRB (K : PySem.W.Frag) (C CG : Addr) : Sp := fun vs H Q _ => ∃ (ml malt hops : Nat) (a : Addr) (bs : Bytes), vs = [nV ml, nV malt, nV hops, .ref a] ∧ SqL K H a (bs.map byV) ∧ bs.length ≤ 40000 ∧
  ∀ (H' : Hp) (g dg d z : Addr), H' g = some (.ins CG dg (reaF d z)) → H' z = some (.lst ((refB ⟨ml, malt, hops⟩ bs).map V.int)) → (bs.length ≤ 16384 → ∀ r, Br.readRecipe bs = .ok r → ∃ ls rs, RecAt C H' d ls rs r) → Same H H' → Q (.ref g) H'
theorem ok_RB {f fT fB C CG : Addr} {fd fdT fdB : FuncData} (F : Fun K "read_batch" "read_batch" sRB f fd) (GT : Df P w K mg base 6 "read_text" ["text"] (spText K C CG) fT fdT) (GB : Df P w K mg base 1 "is_batch" ["ml", "malt", "hops", "reading"] (spBatch C CG) fB fdB)
    (TG : ReaT K mg CG) (ml : mg "len" = none) : FnOk P w K mg base CX0 7 f fd ["ml", "malt", "hops", "text"] (spRB K C CG) := by
  refine F.ok scRB (fun vs H Q E h => ?_) (fun cdv A outer s H vs Q E hr h => ?_)
  · obtain ⟨v, mt, hp, a, bs, rfl, _⟩ := h
    rfl
  · obtain ⟨v, mt, hp, a, bs, rfl, hS, hl, q⟩ := h
    have hr1 : Room 1 _ := hr.mono (by decide)
    refine ⟨_, pss_cons (ps_set (i := 4) scRB.nd rfl (.inl rfl) (pe_call GT.ok hr rfl GT.g GT.kp GT.b .nil pass0 (pa_cons (pv 3) pa_nil))) <|
      pss_cons (ps_if (PW.pt (pw_and (pt_cmpR op_eq (pe_callB call_len_seq (by rfl) ml PySem.boot_len (pa_cons (pe_fld (pv 4) rfl) pa_nil)) pe_int (nomark _)) (pw_and1 (pt_not (pt_val (pe_call GB.ok hr1 rfl GB.g GB.kp GB.b .nil pass0 (pa_cons (pv 0) (pa_cons (pv 1) (pa_cons (pv 2) (pa_cons (pv 4) pa_nil)))))))))) 
        (pss_one (ps_fld (pv 4) (pe_lst (pa_cons (pe_un un_neg pe_int) pa_nil)) rfl)) pss_nil) <|
      pss_one (ps_ret (pv 4)), ?_⟩
    refine ⟨_, rfl, a, bs, rfl, hS, hl, fun H1 g dg d z hg hz hrec s1 ng => ?_⟩
    refine ⟨_, rfl, g, CG, dg, _, _, rfl, hg, TG.cl, TG.nF, reaF_ref _ _, z, _, rfl, .inl (SqL.of hz), rfl, _, rfl, iteD (fun e => ?_) (fun e => ?_)⟩
    · have e1 : (((refusal bs).map V.int).length : Int) = 0 := V.int.inj e
      rw [List.length_map] at e1
      have e0 : refusal bs = [] := List.eq_nil_of_length_eq_zero (by omega)
      obtain ⟨hb16, r, hr0⟩ := refusal_ok e0
      obtain ⟨ls, rs, R⟩ := hrec hb16 r hr0
      have eB := refB_ok (b := ⟨v, mt, hp⟩) e0 hr0
      refine ⟨_, rfl, _, rfl, _, rfl, _, rfl, v, mt, hp, g, dg, d, z, ls, rs, r, rfl, hg, R, _, rfl, ?_⟩
      cases hB : Br.batchOk r ⟨v, mt, hp⟩ with
      | true =>
        rw [if_neg (by rw [hB]; decide)] at eB
        refine ⟨_, rfl, q H1 g dg d z hg ?_ hrec s1⟩
        rw [eB, ← e0]
        exact hz
      | false =>
        rw [if_pos hB] at eB
        refine ⟨_, rfl, (by show 1 ≤ sizeLine; decide), fun z2 nz2 => ⟨_, rfl, g, CG, dg, _, rfl, (upd_ne (ne_of_none hg nz2)).trans hg, TG.cl, TG.nF, (by show 2 < 1000; decide), _, rfl, ?_⟩⟩
        have ep : ∀ v, putF "refusal" v (reaF d z) = ([("rows", .ref d), ("refusal", v)] : List (Str × V)) := fun v => by
          have e1 : ¬ (Str.ofString "rows" = Str.ofString "refusal") := by decide +kernel
          unfold reaF
          simp only [putF, if_neg e1, if_true]
        rw [ep]
        have gz2 : g ≠ z2 := ne_of_none hg nz2
        have up : ∀ {b : Addr} {o : HO}, H1 b = some o → b ≠ g → (upd (upd H1 z2 (.lst [.int (-1)])) g (.ins CG dg [("rows", .ref d), ("refusal", .ref z2)])) b = some o := fun {b o} eb nb => (upd_ne nb).trans ((upd_ne (ne_of_none eb nz2)).trans eb)
        refine q _ g dg d z2 upd_same ?_ (fun h16 r' hr' => ?_) (fun b o eb => ?_)
        · rw [eB]
          exact (upd_ne gz2.symm).trans upd_same
        · obtain ⟨ls', rs', R'⟩ := hrec h16 r' hr'
          exact ⟨ls', rs', RecAt.but R' hg (fun b o eb nb => up eb nb)⟩
        · exact up (s1 _ _ eb) (ne_of_none eb ng)
    · have e1 : ¬ refusal bs = [] := fun z0 => e (by rw [z0]; rfl)
      refine ⟨_, rfl, q H1 g dg d z hg ?_ hrec s1⟩
      rw [refB_ne e1]
      exact hz
end
end My

set_option maxRecDepth 100000
set_option maxHeartbeats 2000000
namespace My
open PySem PySem.Spec PyProof.Rows L2
/-! ### sorted(range(n), key=f), f a lambda over a list and a number that it captured -/
def isN (x : Value) (i : Nat) : Prop := ∃ t, x = .int (i : Int) t
theorem each_at {R : Value → Nat → Prop} : ∀ (xs : List Value) (bs : List Nat), xs.length = bs.length → (∀ (i : Nat) (x : Value) (b : Nat), xs[i]? = some x → bs[i]? = some b → R x b) → PySem.W.EachIs R xs bs
  | [], [], _, _ => .nil
  | [], b :: bs, h, _ => by simp at h
  | x :: xs, [], h, _ => by simp at h
  | x :: xs, b :: bs, h, hr => .cons (hr 0 x b rfl rfl) (each_at xs bs (by simpa using h) fun i y c h1 h2 => hr (i + 1) y c h1 h2)
theorem each_vals : ∀ {xs : List Value} {bs : List Nat}, PySem.W.EachIs isN xs bs → L2.Vals (bs.map fun (n : Nat) => V.int (n : Int)) xs
  | _, _, .nil => .nil
  | _, _, .cons h t => .cons h (each_vals t)
theorem rs_one (n : Nat) : Builtin.Range.rangeSize 0 (n : Int) 1 = n := by
  unfold Builtin.Range.rangeSize
  rw [if_pos (by decide)]
  split <;> omega
theorem rs_small {n : Nat} (h : n ≤ 1000) : Builtin.Range.small 0 (n : Int) 1 = true := by
  have f : ∀ i : Int, 0 ≤ i → i ≤ 1000 → Builtin.Range.rangeFitsLong i = true := fun i h1 h2 => by
    unfold Builtin.Range.rangeFitsLong
    rw [Bool.and_eq_true, decide_eq_true_eq, decide_eq_true_eq]
    omega
  unfold Builtin.Range.small
  rw [rs_one, f 0 (by omega) (by omega), f n (by omega) (by omega), f 1 (by omega) (by omega), if_pos (by decide), f (n + (1 - 1)) (by omega) (by omega)]
  simp
section
variable {prog : Program} {w : World} {A : Around} {E : Value → Shared → Prop} {s : Shared}
theorem each_range {acc : Array Value} {n : Nat} (h : ItemsOf (fun i v => ∃ t, v = .int (0 + (i : Nat) * 1) t) acc n) : PySem.W.EachIs isN acc.toList (List.range n) := by
  refine each_at _ _ (by rw [Array.length_toList, h.1, List.length_range]) fun i x b h1 h2 => ?_
  have hi : i < n := by
    have := (List.getElem?_eq_some_iff.mp h2).1
    simpa using this
  rw [List.getElem?_range hi] at h2
  cases h2
  obtain ⟨t, e⟩ := h.2 i x (by simpa using h1)
  exact ⟨t, by rw [e]; congr 1; omega⟩
theorem sorted_range {r f : Addr} {n : Nat} {t u v : Tok} {k : Nat → Int} {Q : Value → Shared → Prop} (hh : A.handled = none) (hr : IsRange s.heap r 0 (n : Int) 1 t u v) (hn : n ≤ 1000) (hu : A.units + 2 < cLine)
    (turn : ∀ (x : Value) (i : Nat), isN x i → i < n → ∀ (h : Heap) (tk : Nat), (∀ b o, s.heap.get? b = some o → h.get? b = some o) →
      wpAny (model prog w) A.in1.in1 (call (.ref f) [x]) (PySem.W.KeyPure (.int (k i)) { s with heap := h, toks := tk }) (fun _ _ => False) { s with heap := h, toks := tk })
    (fin : ∀ (p : Addr) (out : List Value) (c : Nat) (h' : Heap) (tk : Nat), (∀ b o, s.heap.get? b = some o → h'.get? b = some o) → s.heap.get? p = none → h'.get? p = some (seqObj "list" out.toArray c) →
      PySem.W.EachIs isN out ((List.range n).mergeSort fun x y => decide (k x ≤ k y)) → Q (.ref p) { s with heap := h', toks := tk }) :
    wpAny (model prog w) A (call (.builtin "sorted") [.ref r] [(Str.ofString "key", .ref f)]) Q E s := by
  refine call_function_entry_kw kind_sorted plain_sorted entry_sorted (ksk_s1 _ _) ?_
  unfold Builtin.«sorted»
  refine wpAny_bind (m := checkCount "sorted" 1 1 _) (wpAny_pure ?_)
  refine wpAny_bind (collect_range (n := n) (show A.in1.handled = none from hh) hr ?_ ?_ (by omega) fun h1 tk1 acc kept items => ?_)
  · exact rs_small hn
  · exact rs_one n
  have hl : acc.toList.length = n := by rw [Array.length_toList, items.1]
  refine wpAny_bind (wpAny_newList ?_ (by rw [hl]; exact Nat.le_trans hn (by decide)))
  have h0 : (h1.push (seqObj "list" acc.toList.toArray 0)).get? h1.objs.size = some (seqObj "list" acc.toList.toArray 0) := Heap.get?_push_size _ rfl
  have up : ∀ b o, s.heap.get? b = some o → (h1.push (seqObj "list" acc.toList.toArray 0)).get? b = some o := fun b o e => Heap.get?_push_of_some _ (kept b o e)
  have new : ∀ b o, s.heap.get? b = some o → b ≠ h1.objs.size := fun b o e => Nat.ne_of_lt (Heap.lt_size (kept b o e))
  have ea := each_range items
  refine wpAny_bind (wpAny_holding (wpAny_call_entry_kw slot_list_sort ⟨_, h0, rfl⟩ entry_list_sort ?_ (ksk_l1 _ _)))
  show wpAny (model prog w) A.in1.in1 (Builtin.«list.sort» ⟨[.ref h1.objs.size], [(Str.ofString "key", .ref f)]⟩) _ _ { s with heap := h1.push (seqObj "list" acc.toList.toArray 0), toks := tk1 }
  rw [ksk_t1]
  refine wpAny_mono (PySem.W.keyH_tree (P := fun fl s' => fl = .done (.ret .none) ∧ Q (.ref h1.objs.size) s') (kz := (List.range n).map fun i => PyData.int (k i)) (vs := acc.toList) h0 (by rw [List.length_map, List.length_range, hl]) (by rw [hl]; exact Nat.le_trans hn (by decide)) ?_ ?_ ?_
    (PySem.W.keyH_turns (s := { s with heap := h1.push (seqObj "list" acc.toList.toArray 0), toks := tk1 }) ea fun x i hx hi h tk kp => turn x i hx (List.mem_range.mp hi) h tk fun b o e => kp b o (new b o e) (up b o e)) ?_) (fun fl s' hf => ?_) fun _ _ e => e
  · exact PySem.W.AllAlike.of fun _ _ => by simp [PySem.W.alike]
  · refine .inr fun d hd => ?_
    obtain ⟨i, _, rfl⟩ := List.mem_map.mp hd
    exact ⟨by simp, fun xs => by simp⟩
  · intro d hd
    obtain ⟨i, _, rfl⟩ := List.mem_map.mp hd
    show A.units + 1 + 1 + (PyData.int (k i)).depth < cLine
    have : (PyData.int (k i)).depth = 0 := by simp [PyData.depth]
    omega
  · intro h' tk out c kp hD ko
    have eo := PySem.W.keyedOut_each (R := isN) (fun i => PyData.int (k i)) ko ea
    rw [PySem.W.dataLe_int (β := Nat)] at eo
    exact ⟨rfl, fin h1.objs.size out c h' tk (fun b o e => kp b o (new b o e) (up b o e)) (by
      cases e : s.heap.get? h1.objs.size with
      | none => rfl
      | some o => exact absurd rfl (new _ o e)) hD eo⟩
  · obtain ⟨rfl, hq⟩ := hf
    exact ⟨_, rfl, wpAny_pure ⟨_, rfl, hq⟩⟩
/-- what the key's function needs of the heap: itself, its code object, the two cells, the list -/
structure LamAt (h : Heap) (f c' cA cT l : Addr) (q : Str) (params : Arguments) (body : Expr) (scope : Scope) (cl : List (Str × Addr)) (its : Array Value) (m : Int) : Prop where
  fn : ∃ pm ctv, h.get? f = some (PySem.W.kla_obj "<lambda>" q params body scope cl pm c' ctv)
  code : h.CodeRec (.ref c') q
  lim : h.NoLimit
  ca : h.IsCell cA (some (.ref l))
  ct : ∃ t, h.IsCell cT (some (.int m t))
  lst : h.IsList l its
theorem LamAt.ext {h h' : Heap} {f c' cA cT l : Addr} {q : Str} {params : Arguments} {body : Expr} {scope : Scope} {cl : List (Str × Addr)} {its : Array Value} {m : Int} (L : LamAt h f c' cA cT l q params body scope cl its m) (k : ∀ b o, h.get? b = some o → h'.get? b = some o) : LamAt h' f c' cA cT l q params body scope cl its m := by
  obtain ⟨⟨pm, ctv, e⟩, code, lim, ca, ⟨t, ct⟩, lst⟩ := L
  exact ⟨⟨pm, ctv, k _ _ e⟩, code.keeps k, lim.keeps k, ca.keeps k, ⟨t, ct.keeps k⟩, let ⟨o, e1, r⟩ := lst; ⟨o, k _ _ e1, r⟩⟩
theorem lam_run {f c' cA cT l : Addr} {q : Str} {params : Arguments} {scope : Scope} {cl : List (Str × Addr)} {its : Array Value} {m z : Int} {i : Nat} {t tz : Tok} {p1 p2 p3 p4 p5 p6 : Pos} (hroom : A.depth < recursionLimit)
    (L : LamAt s.heap f c' cA cT l q params (.UnaryOp .USub (.BinOp (.Subscript (.Name "above" p1) (.Name "place" p2) p3) .Mod (.Name "together" p4) p5) p6) scope cl its m)
    (hs : scope.names = [(Str.ofString "place", NameKind.local), (Str.ofString "above", NameKind.free), (Str.ofString "together", NameKind.free)]) (hk : scope.kind = .function) (hco : scope.isCoroutine = false) (hgen : scope.isGenerator = false)
    (hbind : ∀ (b : Expr) (pm cv ctv v : Value), bindArgs (PySem.W.kla_fn "<lambda>" q params b scope cl pm cv ctv) ⟨[v], []⟩ = pure [(Str.ofString "place", v)])
    (hA : cl.lookup (Str.ofString "above") = some cA) (hT : cl.lookup (Str.ofString "together") = some cT) (hi : its[i]? = some (.int z tz)) (hi2 : i ≤ 1000) (hm : 0 < m) :
    wpAny (model prog w) A (call (.ref f) [.int (i : Int) t]) (PySem.W.KeyPure (.int (-(z % m))) s) E s := by
  obtain ⟨⟨pm, ctv, of1⟩, code, lim, ca, ⟨tt, ct⟩, lst⟩ := L
  refine wpAny_call (PySem.W.kla_callFunE hroom of1 rfl hco hgen rfl code ?_)
  rw [hbind]
  refine wpAny_pure (wpAny_newFunctionEnv (fun y hy => ?_) (fun y hy => ?_) (fun h₁ hns hsb => ⟨lim.fresh _ hsb, ?_⟩) hk)
  · have hy' : y ∈ scope.names := hy
    rw [hs] at hy'
    simp only [List.mem_cons, List.not_mem_nil, or_false] at hy'
    rcases hy' with e | e | e <;> rw [e] <;> simp
  · simp only [List.mem_cons, List.not_mem_nil, or_false] at hy
    rw [hy]
    show scope.names.lookup (Str.ofString "place") = _
    rw [hs]
    decide +kernel
  have kp : ∀ b o, s.heap.get? b = some o → h₁.get? b = some o := fun b o e => hsb.extBut b o (Nat.ne_of_lt (Heap.lt_size e)) (Heap.get?_push_of_some _ e)
  refine PySem.W.kla_codeExpr ?_
  have kA : scope.names.lookup (Str.ofString "above") = some .free := by rw [hs]; decide +kernel
  have kT : scope.names.lookup (Str.ofString "together") = some .free := by rw [hs]; decide +kernel
  have kP : scope.names.lookup (Str.ofString "place") = some .local := by rw [hs]; decide +kernel
  have lst' : h₁.IsList l its := let ⟨o, e1, r⟩ := lst; ⟨o, kp _ _ e1, r⟩
  refine UnaryOp_ (wpAny_BinOp (Subscript_ (wpAny_Name (wpAny_loadName_free hk kA hA (ca.keeps kp) (wpAny_Name (wpAny_loadName_local (v := .int (i : Int) t) hk kP hns ?_ (item_listR (x := .int z tz) lst' (by omega) (by omega) (by simpa using hi) (wpAny_Name (wpAny_loadName_free hk kT hT (ct.keeps kp) ?_) (by decide)) rfl)) (by decide))) (by decide))))
  · show List.lookup (Str.ofString "place") [(Str.ofString "place", Value.int (i : Int) t)] = _
    simp only [List.lookup, beq_self_eq_true]
  · refine mod_int' (by omega) (neg_int ?_)
    rw [Int.fmod_eq_emod_of_nonneg z (by omega)]
    exact ⟨h₁, _, rfl, kp, .int _ _⟩
end
theorem obj_there {P : Program} {w : World} {H : Hp} {h : Heap} {a : Addr} : ∀ {u : HO}, ObjOk P w H h a u → ∃ o, h.get? a = some o
  | .lst xs, x => let ⟨_, _, _, _, e⟩ := x; ⟨_, e⟩
  | .tup xs, x => let ⟨_, _, _, o, e, _⟩ := x; ⟨o, e⟩
  | .dK kvs, x => let ⟨_, _, _, _, o, _, _, e, _⟩ := x; ⟨o, e⟩
  | .dT kvs, x => let ⟨_, _, _, _, o, _, _, e, _⟩ := x; ⟨o, e⟩
  | .set S n, x => let ⟨o, _, _, _, e, _⟩ := x; ⟨o, e⟩
  | .ins C dx fs, x => let ⟨_, _, _, e, _⟩ := x; ⟨_, e⟩
  | .own y, x => x
  | .xd fs, x => let ⟨_, ⟨_, _, _, e, _⟩, _⟩ := x; ⟨_, e⟩
  | .rng lo hi, x => let ⟨_, _, _, e⟩ := x; ⟨_, e⟩
  | .frz ob u, x => ⟨ob, x.1⟩
  | .tbl ps, x => ⟨_, x⟩
  | .met f y, x => ⟨_, x⟩
  | .ext φ, x => x.2.1
section
variable {X : Cx} {pins : List (Addr × Obj)} {σ : L2.St} {H : Hp} {s : Shared}
theorem inv_new {h' : Heap} {p : Addr} {o : HO} {tk : Nat} (I : Inv X pins σ H s) (k : ∀ b u, s.heap.get? b = some u → h'.get? b = some u) (hp : s.heap.get? p = none) (new : ObjOk X.prog X.w (upd H p o) h' p o) : H p = none ∧ Inv X pins σ (upd H p o) { s with heap := h', toks := tk } := by
  have hn : H p = none := by
    cases e : H p with
    | none => rfl
    | some u =>
      obtain ⟨ob, eo⟩ := obj_there (I.hok p u e)
      rw [hp] at eo
      cases eo
  refine ⟨hn, I.un ⟨fun b u e _ _ _ => k b u e, fun b u e _ _ _ => ⟨u.slots, k b u e⟩, fun b u e n _ => ?_, fun b u e _ => ⟨u, k b u e⟩, fun b xs e => (upd_ne (ne_of_none e hn)).trans e, fun b ob u e => (upd_ne (ne_of_none e hn)).trans e, fun b ps e => ⟨#[], by rw [upd_ne (ne_of_none e hn), e]; simp⟩⟩ fun b u e => ?_⟩
  · have nb : b ≠ p := fun z => by rw [z, hp] at e; cases e
    exact (upd_ne nb).trans n
  · by_cases hb : b = p
    · subst hb
      rw [upd_same] at e
      cases e
      exact new
    · rw [upd_ne hb] at e
      exact (I.hok b u e).stay (fun c v _ z => k c v z) (fun c z => (upd_ne (ne_of_none z hn)).trans z) fun c xs z => (upd_ne (ne_of_none z hn)).trans z
end
end My

set_option maxRecDepth 100000
set_option maxHeartbeats 2000000
namespace My
open PySem PySem.Spec PyProof.Rows L2
/-! ### sorted(range(..), key=lambda place: -(above[place] % together)), within a def -/
def rRg1 (vs : List V) (H : Hp) (Q : VK) : Prop := ∃ j : Int, vs = [V.int j] ∧ ∀ p, H p = none → Q (.ref p) (upd H p (.rng 0 j))
theorem cr_rg1 {X : Cx} : CallR X (.type "range") rRg1 := by
  intro pins s σ H vs us Q I r h
  obtain ⟨j, rfl, q⟩ := h
  cases r with
  | cons r1 r2 =>
    cases r2
    obtain ⟨t, rfl⟩ := r1
    refine call_range_1 ⟨.ref s.heap.objs.size, upd H s.heap.objs.size (.rng 0 j), I.laid (t' := s.toks + 1 + 1) (fun b o e => Heap.get?_push_of_some _ e) (Nat.le_refl _) ?_, rfl, q _ (I.hok.fresh (Nat.le_refl _))⟩
    exact ⟨s.toks, t, s.toks + 1, Heap.get?_push_size _ rfl⟩
def ordK (zs : List Int) (m : Int) : List Nat := (List.range zs.length).mergeSort fun x y => decide (-(zs.getD x 0 % m) ≤ -(zs.getD y 0 % m))
def tSL (T : List (Addr × Str)) (ia it : Nat) (te : TE) : TE := fun σ H Q => tCons te tNil σ H fun vs H1 => ∃ (r l : Addr) (zs : List Int) (m : Int), vs = [.ref r] ∧ H1 r = some (.rng 0 (zs.length : Int)) ∧ zs.length ≤ 1000 ∧
  σ[ia]? = some (some (.ref l)) ∧ σ[it]? = some (some (.int m)) ∧ H1 l = some (.lst (zs.map V.int)) ∧ (zs ≠ [] → 0 < m) ∧ LamX.Tabs T H1 ∧
  ∀ H2 p, LamX.ExtN H1 H2 → LamX.Tabs T H2 → H2 p = none → Q (.ref p) (upd H2 p (.lst ((ordK zs m).map fun (n : Nat) => V.int (n : Int))))
theorem clo_at {cells : List (Str × Addr)} {cA cT : Addr} {names : List (Str × NameKind)} (hs : names = [(Str.ofString "place", NameKind.local), (Str.ofString "above", NameKind.free), (Str.ofString "together", NameKind.free)])
    (h1 : cells.lookup (Str.ofString "above") = some cA) (h2 : cells.lookup (Str.ofString "together") = some cT) : (cloFrom cells names []).lookup (Str.ofString "above") = some cA ∧ (cloFrom cells names []).lookup (Str.ofString "together") = some cT := by
  have e : cloFrom cells names [] = [(Str.ofString "together", cT), (Str.ofString "above", cA)] := by
    rw [hs]
    show [(Str.ofString "together", (cells.lookup (Str.ofString "together")).getD 0), (Str.ofString "above", (cells.lookup (Str.ofString "above")).getD 0)] = _
    rw [h1, h2]
    rfl
  rw [e]
  have n1 : (Str.ofString "above" == Str.ofString "together") = false := by decide +kernel
  constructor
  · simp only [List.lookup, n1, beq_self_eq_true]
  · simp only [List.lookup, beq_self_eq_true]
section
variable {X : Cx} {pins : List (Addr × Obj)} {σ : L2.St} {H : Hp} {s : Shared}
/-- a captured name's cell holds what its slot holds -/
theorem cell_at {i : Nat} {x : Str} {v : V} (I : Inv X pins σ H s) (hN : X.N[i]? = some x) (hv : σ[i]? = some (some v)) (hc : X.env.scope.names.lookup x = some .cell) : ∃ c u, X.env.cells.lookup x = some c ∧ s.heap.IsCell c (some u) ∧ RelV v u := by
  obtain ⟨m, hn, hl⟩ := I.loc
  obtain ⟨u, r, q⟩ := hl i x v hN hv (.inr (.inl hc))
  rcases q with ⟨k, _⟩ | ⟨_, c, e, z⟩
  · have k' : X.env.scope.names.lookup x = some .local := k
    rw [hc] at k'
    cases k'
  · exact ⟨c, u, e, z, r⟩
theorem pe_sortLam {T : List (Addr × Str)} {c PT : Addr} {ia it : Nat} {fe : Expr} {fa : List Expr} {te : TE} {params : Arguments} {scope : Scope} {p fp p1 p2 p3 p4 p5 p6 lpos kpos pos : Pos} (hg : Gl X "sorted") (hm : X.mg "sorted" = none) (he : PE X (.Call fe fa [] fp) te)
    (TB : LamX.TabB X.base X.mg c PT) (hcode : X.env.code = .ref c) (hmT : (PT, X.env.qual ++ "<lambda>") ∈ T) (huT : ∀ q ∈ T, q.1 = PT → q.2 = X.env.qual ++ "<lambda>") (hdef : defaultsOf params X.env = ([], []))
    (hs : scope.names = [(Str.ofString "place", NameKind.local), (Str.ofString "above", NameKind.free), (Str.ofString "together", NameKind.free)]) (hk : scope.kind = .function) (hco : scope.isCoroutine = false) (hgen : scope.isGenerator = false)
    (hbind : ∀ (q : Str) (cl : List (Str × Addr)) (b : Expr) (pm cv ctv v : Value), bindArgs (PySem.W.kla_fn "<lambda>" q params b scope cl pm cv ctv) ⟨[v], []⟩ = pure [(Str.ofString "place", v)])
    (hcA : X.env.scope.names.lookup (Str.ofString "above") = some .cell) (hcT : X.env.scope.names.lookup (Str.ofString "together") = some .cell) (hNa : X.N[ia]? = some (Str.ofString "above")) (hNt : X.N[it]? = some (Str.ofString "together")) (hr : Room 2 X.A) :
    PE X (.Call (.Name "sorted" p) [.Call fe fa [] fp] [⟨some "key", .Lambda params (.UnaryOp .USub (.BinOp (.Subscript (.Name "above" p1) (.Name "place" p2) p3) .Mod (.Name "together" p4) p5) p6) scope lpos, kpos⟩] pos) (tSL T ia it te) := by
  refine ⟨fun pins s σ H Q I h => ?_⟩
  refine wpAny_Call_Name_kw (ld_blt I hg hm (show bootBuiltins (Str.ofString "sorted") = some (.builtin "sorted") by decide +kernel) ?_ (by decide) (by decide))
  have ha : PA X [.Call fe fa [] fp] (tCons te tNil) := pa_cons he pa_nil
  refine PyProof.Rows.callWith_kw (thn (ha.run pos pins s σ H _ I h) fun us s1 ⟨vs, H1, I1, r1, q1⟩ => ?_)
  obtain ⟨r, l, zs, m, rfl, hrg, hz, hσa, hσt, hl, hm0, hT, q⟩ := q1
  cases r1 with
  | cons ru rest =>
    cases rest
    cases ru
    show wpAny _ _ (evalAll [do let v ← eval (.Lambda params (.UnaryOp .USub (.BinOp (.Subscript (.Name "above" p1) (.Name "place" p2) p3) .Mod (.Name "together" p4) p5) p6) scope lpos) X.env; standAt pos; pure v]) _ _ s1
    refine wpAny_evalAll_cons (wpAny_bind (LamX.lam_make2 I1 TB hcode hmT huT hT hdef (fun y hy e => ?_) fun f c' pm ctv H2 s2 I2 eN T2 hf hfn hfr hco2 => wpAny_bind (wpAny_standAt (wpAny_pure (wpAny_evalAll_nil ?_)))))
    · rw [hs] at hy
      simp only [List.mem_cons, List.not_mem_nil, or_false] at hy
      rcases hy with rfl | rfl | rfl
      · cases e
      · exact I1.ok.has _ (.inl hcA)
      · exact I1.ok.has _ (.inl hcT)
    have hr2 : H2 r = some (.rng 0 (zs.length : Int)) := eN _ _ hrg (fun ps z => by cases z)
    have hl2 : H2 l = some (.lst (zs.map V.int)) := eN _ _ hl (fun ps z => by cases z)
    obtain ⟨t, u, v, hr3⟩ := I2.hok r _ hr2
    obtain ⟨hlz, its, en, rits, hl3⟩ := I2.hok l _ hl2
    obtain ⟨cA, uA, eA, kA, rA⟩ := cell_at I2 hNa hσa hcA
    obtain ⟨cT, uT, eT, kT, rT⟩ := cell_at I2 hNt hσt hcT
    cases rA
    obtain ⟨tm, rfl⟩ := rT
    obtain ⟨⟨oc, vc, tc, k1, k2, k3⟩, _, _⟩ := I2.hok c' _ hco2
    obtain ⟨cl1, cl2⟩ := clo_at hs eA eT
    have L : LamAt s2.heap f c' cA cT l (X.env.qual ++ "<lambda>") params (.UnaryOp .USub (.BinOp (.Subscript (.Name "above" p1) (.Name "place" p2) p3) .Mod (.Name "together" p4) p5) p6) scope (cloFrom X.env.cells scope.names []) its.toArray m :=
      ⟨⟨pm, ctv, hf⟩, ⟨c', oc, vc, tc, rfl, k1, k2, k3⟩, I2.nolimit, kA, ⟨tm, kT⟩, ⟨_, hl3, rfl, _, rfl⟩⟩
    have hd : X.A.depth < recursionLimit := by have := hr.dp; omega
    have hlen : its.length = zs.length := by rw [← rits.length, List.length_map]
    refine sorted_range (k := fun i => -(zs.getD i 0 % m)) (n := zs.length) hr.hd hr3 hz (by have := hr.un; omega) (fun x i hx hi h tk kp => ?_) fun p' out cc h' tk kp np hD eo => ?_
    · obtain ⟨tx, rfl⟩ := hx
      have hzi : (zs.map V.int)[i]? = some (V.int zs[i]) := by rw [List.getElem?_map, List.getElem?_eq_getElem hi]; rfl
      obtain ⟨wv, ew, rw'⟩ := rits.get hzi
      obtain ⟨tz, rfl⟩ := rw'
      have hne : zs ≠ [] := fun z => by rw [z] at hi; simp at hi
      have eg : zs.getD i 0 = zs[i] := by rw [List.getD_eq_getElem?_getD, List.getElem?_eq_getElem hi]; rfl
      rw [eg]
      exact lam_run (s := { s2 with heap := h, toks := tk }) (A := X.A.in1.in1) hd (L.ext kp) hs hk hco hgen (hbind _ _) cl1 cl2 (by simpa using ew) (by omega) (hm0 hne)
    · have hV : L2.Vals ((ordK zs m).map fun (n : Nat) => V.int (n : Int)) out := each_vals eo
      have hol : out.length = zs.length := by
        rw [← hV.length, List.length_map]
        unfold ordK
        rw [List.length_mergeSort, List.length_range]
      obtain ⟨np2, I3⟩ := inv_new (tk := tk) (p := p') (o := .lst ((ordK zs m).map fun (n : Nat) => V.int (n : Int))) I2 kp np ⟨by rw [hV.length, hol]; exact Nat.le_trans hz (by decide), out, cc, hV, hD⟩
      exact ⟨.ref p', _, I3, rfl, q H2 p' eN T2 np2⟩
end
end My

set_option maxRecDepth 100000
set_option maxHeartbeats 2000000
namespace My
open PySem PySem.Spec PyProof.Rows L2
open PySem.W (OpenSpec WData Well WellAll ReadsW ReadsAllW Codec)
/-! ### the row's end where one def has a lambda: its code table is known and may grow -/
theorem seqT_up {K : PySem.W.Frag} {H H' : Hp} {a : Addr} {xs : List V} (s : Same H H') (h : SqT K H a xs) : SqT K H' a xs := by
  rcases h with (h | ⟨o, h⟩) | h
  · exact .inl (.inl (s _ _ h))
  · exact .inl (.inr ⟨o, s _ _ h⟩)
  · exact .inr h
mutual
theorem dw_up {K : PySem.W.Frag} {H H' : Hp} (s : Same H H') : ∀ {v : V} {d : WData}, Dw K H v d → Dw K H' v d
  | _, _, .non => .non
  | _, _, .bl b => .bl b
  | _, _, .int i => .int i
  | _, _, .str x => .str x
  | _, _, .byt b => .byt b
  | _, _, .lst h t => .lst (s.seq h) (dws_up s t)
  | _, _, .tup h t => .tup (seqT_up s h) (dws_up s t)
theorem dws_up {K : PySem.W.Frag} {H H' : Hp} (s : Same H H') : ∀ {vs : List V} {ds : List WData}, DwAll K H vs ds → DwAll K H' vs ds
  | _, _, .nil => .nil
  | _, _, .cons h t => .cons (dw_up s h) (dws_up s t)
end
abbrev tab0 : Obj := { cls := .none, data := .fields #[] }
theorem callT {P : Program} {w : World} {K : PySem.W.Frag} {mg mb : Str → Option Value} {CX : CXT} {k : Nat} {fa c PT : Addr} {fd : FuncData} {ps : List Str} {sp : Sp} {s1 : Shared} {vals : List Value} {ds : List WData} {R : PySem.W.WRecords} {cl : Str → Option Addr} {d0 : WData}
    (KX : K.In s1.heap) (n1 : s1.heap.Ns mainGlobals mg) (n2 : s1.heap.Ns builtinsNs mb) (n3 : ∀ x : Str, x ≠ "__name__" → mb x = bootBuiltins x) (n4 : s1.heap.NoLimit) (n5 : s1.gens = #[])
    (n6 : ∃ (bm : Addr) (ob : Obj), mg "__builtins__" = some (.ref bm) ∧ bm ≠ builtinsNs ∧ s1.heap.get? bm = some ob ∧ ob.cls = .type "module" ∧ ob.dict = some builtinsNs ∧ ob.data = .plain)
    (wl : WellAll w.params s1.heap vals ds) (pl : plWs ds = true) (wt : ∀ d ∈ ds, d.weight ≤ 1048576) (room : Room k callerA) (t0 : s1.heap.get? PT = some tab0) (t1 : K.lookup PT = none) (t2 : PySem.W.CodeHd s1.heap c PT)
    (F : ∀ base : Heap, K.In base → base.Ns mainGlobals mg → LamX.TabB base mg c PT → FnOk P w K mg base CX k fa fd ps sp) (bd : ∀ (s : Shared) (us : List Value), us.length = ps.length → BindsTo s fd ⟨us, []⟩ (ps.zip us)) (ln : ds.length = ps.length)
    (hsp : ∀ (H : Hp) (xs : List V), H PT = some (.tbl #[]) → DwAll K H xs ds → sp xs H (fun v H' => Dw K H' v d0) fun _ _ _ => False)
    (noX : ∀ H e s', CX [] H s1 (fun _ _ _ => False) e s' → False) :
    codeAny (model P w) callerA (.call (.ref fa) ⟨vals, []⟩) (fun r s' => ∃ u as, r = .ok (.ret u) ∧ ReadsW R cl s'.heap u d0 as ∧ OldK s1.heap s'.heap ∧ s'.os = s1.os ∧ AllBare s'.gens) s1 := by
  obtain ⟨A, okA, obA⟩ := area_all ds vals wl pl wt
  have dsA := dw_all KX obA ds vals wl pl okA
  have tr0 : argH K s1.heap A PT = none := by
    cases e : argH K s1.heap A PT with
    | none => rfl
    | some u =>
      obtain ⟨_, vs, _, _, ⟨z, _⟩ | ⟨z, _⟩⟩ := argH_is obA e <;> (rw [t0] at z; cases z)
  obtain ⟨H, eH⟩ : ∃ H : Hp, H = upd (argH K s1.heap A) PT (.tbl #[]) := ⟨_, rfl⟩
  have up : Same (argH K s1.heap A) H := by rw [eH]; exact same_new tr0
  have hP : H PT = some (.tbl #[]) := by rw [eH]; exact upd_same
  -- what H tracks
  have what : ∀ b u, H b = some u → (b = PT ∧ u = .tbl #[]) ∨ (K.lookup b = none ∧ ∃ o v, u = .frz o v ∧ s1.heap.get? b = some o ∧ ObjOk P w H s1.heap b (.frz o v) ∧ ∃ vs n, o.data = .seq vs n) := fun b u e => by
    by_cases hb : b = PT
    · rw [hb, hP] at e
      cases e
      exact .inl ⟨hb, rfl⟩
    · rw [eH, upd_ne hb] at e
      obtain ⟨z0, vs, z1, z2, ⟨z3, rfl⟩ | ⟨z3, rfl⟩⟩ := argH_is obA e
      · exact .inr ⟨z0, _, _, rfl, z3, ⟨z3, by rw [List.length_map]; exact z1, vs, _, vals_toV z2, z3⟩, _, _, rfl⟩
      · exact .inr ⟨z0, _, _, rfl, z3, ⟨z3, by rw [List.length_map]; exact z1, vs, vals_toV z2, _, z3, rfl, _, rfl⟩, _, _, rfl⟩
  have hok : HOk P w H s1.heap := fun b u e => by
    rcases what b u e with ⟨rfl, rfl⟩ | ⟨_, o, v, rfl, _, z, _⟩
    · exact t0
    · exact z
  have out : ∀ {b : Addr} {o : Obj}, s1.heap.get? b = some o → b ≠ PT → (∀ vs n, o.data ≠ .seq vs n) → H b = none := fun {b o} e hb hd => by
    cases q : H b with
    | none => rfl
    | some u =>
      rcases what b u q with ⟨z, _⟩ | ⟨_, o', v, _, z, _, vs, n, z2⟩
      · exact absurd z hb
      · rw [e] at z
        cases z
        exact absurd z2 (hd vs n)
  have nsP : ∀ {b : Addr} {m : Str → Option Value}, s1.heap.Ns b m → b ≠ PT := fun {b m} ⟨o, es, ep, e, d, _⟩ z => by
    rw [z, t0] at e
    cases e
    cases d
  have ns : ∀ {b : Addr} {m : Str → Option Value}, s1.heap.Ns b m → (hidT s1.heap H).Ns b m := fun {b m} n => by
    have hb := nsP n
    obtain ⟨o, es, ep, e, d, r⟩ := n
    exact ⟨o, es, ep, hidT_get e (out e hb fun vs n z => by rw [d] at z; cases z), d, r⟩
  have inK : K.In (hidT s1.heap H) := fun b o e => hidT_get (KX b o e) (by
    cases q : H b with
    | none => rfl
    | some u =>
      rcases what b u q with ⟨z, _⟩ | ⟨z, _⟩
      · rw [z, t1] at e; cases e
      · rw [z] at e; cases e)
  have md : L2.Mod K mg (hidT s1.heap H) := ⟨inK, ns n1, ⟨mb, ns n2, n3⟩, let ⟨mc, z1, z2⟩ := n4; ⟨mc, ns z1, z2⟩⟩
  have TB : LamX.TabB (hidT s1.heap H) mg c PT := by
    refine ⟨?_, ?_, fun z => nsP n1 z⟩
    · obtain ⟨o, us, fl, tf, fg, tg, inF, tx, tt, e1, r1, r2, r3, r4, r5, r6, r7, r8, hne⟩ := t2
      exact ⟨o, us, fl, tf, fg, tg, inF, tx, tt, hidT_get e1 (out e1 hne fun vs n z => by rw [r2] at z; cases z), r1, r2, r3, r4, r5, r6, r7, r8, hne⟩
    · obtain ⟨bm, ob, b1, b2, b3, b4, b5, b6⟩ := n6
      have g1 : bm ≠ mainGlobals := fun z => by
        obtain ⟨o, es, ep, e, d, _⟩ := n1
        rw [z, e] at b3
        cases b3
        rw [d] at b6
        cases b6
      have g2 : bm ≠ PT := fun z => by
        rw [z, t0] at b3
        cases b3
        cases b6
      exact ⟨bm, ob, b1, b2, g1, g2, hidT_get b3 (out b3 g2 fun vs n z => by rw [b6] at z; cases z), b4, b5, b6⟩
  have e0 : Env0 P w K mg (hidT s1.heap H) callerA [] s1 H := ⟨rfl, md, fun _ _ e => of_hidT e, Nat.le_of_eq (hidT_size _ _), trivial, (fun b hb => absurd hb (by intro z; cases z)), hok, .of_eq n5⟩
  have ll : vals.length = ps.length := (wellAll_len wl).trans ln
  refine codeAny_mono ((F _ inK (ns n1) TB).run callerA [] s1 H ⟨vals, []⟩ vals (vals.map toV) _ _ room e0 (bd s1 vals ll) (vals_toV okA) (hsp H _ hP (dws_up up dsA))) fun r s' x => ?_
  cases r with
  | error e => exact (noX H e s' x).elim
  | ok fl =>
    cases fl with
    | next => exact False.elim x
    | brk => exact False.elim x
    | cont => exact False.elim x
    | ret u =>
      obtain ⟨v, H', os, bare, un, hok', r', q⟩ := x
      have stays : ∀ b o, b ≠ PT → s1.heap.get? b = some o → s'.heap.get? b = some o := fun b o hb e => by
        cases z : H b with
        | none => exact un.keep b o e z (fun y => nomatch (show b ∈ ([] : List Addr) from y)) (by simp)
        | some u2 =>
          rcases what b u2 z with ⟨y, _⟩ | ⟨_, o', v', rfl, y, _⟩
          · exact absurd y hb
          · rw [e] at y
            cases y
            exact (hok' b _ (un.frzs b _ _ z)).1
      obtain ⟨more, gr⟩ := un.tbls PT #[] hP
      have gr' := hok' PT _ gr
      have KX' : K.In s'.heap := fun b o e => stays b o (fun z => by rw [z, t1] at e; cases e) (KX b o e)
      obtain ⟨as, rd⟩ := Dw.reads (R := R) (cl := cl) hok' KX' d0 v u q r'
      refine ⟨u, as, rfl, rd, ⟨fun b o e => ?_, fun b o e => ?_⟩, os, bare⟩
      · by_cases hb : b = PT
        · rw [hb] at e ⊢
          rw [t0] at e
          cases e
          exact .inr (.inl ⟨(t2.tab t0).isCodeTable, rfl, #[], more, rfl, gr'⟩)
        · exact .inl (stays b o hb e)
      · by_cases hb : b = PT
        · rw [hb]
          exact ⟨_, gr'⟩
        · exact ⟨o, stays b o hb e⟩
/-- what the head knows of the defs' code tables -/
def TabsOf (q : Program) (mg : Str → Option Value) (h : Heap) : Prop := ∀ d ∈ recsOf q, ∃ a o fd c P, mg d.name = some (.ref a) ∧ h.get? a = some o ∧ o.data = .func fd ∧ fd.code = .ref c ∧ PySem.W.CodeHd h c P ∧ (∃ o' vs, h.get? c = some o' ∧ o'.data = .fields vs ∧ vs[11]? = some (.ref P)) ∧ h.get? P = some tab0
theorem tab_of {q : Program} {mg : Str → Option Value} {h : Heap} {K : PySem.W.Frag} {f cS PT : Addr} {x : Str} {o : Obj} {fd : FuncData} {e : Value} {dd : Option Addr} {vs : Array Value} {sl : Array (Option Value)} (X : K.In h) (tb : TabsOf q mg h) (hrec : ((recsOf q).any fun e => e.name == x) = true)
    (hmg : mg x = some (.ref f)) (lk : K.lookup f = some o) (hd : o.data = .func fd) (hcode : fd.code = .ref cS) (hc : K.lookup cS = some ⟨e, dd, .fields vs, sl⟩) (hv : vs[11]? = some (.ref PT)) : h.get? PT = some tab0 ∧ PySem.W.CodeHd h cS PT := by
  obtain ⟨d, hm, hn⟩ := List.any_eq_true.mp hrec
  have hn : d.name = x := beq_iff_eq.mp hn
  obtain ⟨a, o2, fd2, c2, P2, z1, z2, z3, z4, z5, ⟨o3, vs3, z6, z7, z8⟩, z9⟩ := tb d hm
  rw [hn, hmg] at z1
  cases z1
  rw [X _ _ lk] at z2
  cases z2
  rw [hd] at z3
  cases z3
  rw [hcode] at z4
  cases z4
  rw [X _ _ hc] at z6
  cases z6
  cases z7
  rw [hv] at z8
  cases z8
  exact ⟨z9, z5⟩
theorem walkT {r : OpenSpec} {k : Nat} {q : Program} {loose : List Str} {XP : (Str → Option Value) → Heap → Prop} {YP : World → Heap → Prop} {d : DefRec} {K : Params → PySem.W.Frag} {ps : List Str} {sp : PySem.W.Frag → Addr → Sp}
    (ws : r.wellSaid = true) (df : d.params.defaults = []) (ln : r.args.length = ps.length) (room : Room k callerA) (hY : ∀ (w : World) (h : Heap), YP w h → (K w.params).In h)
    (F : ∀ (w : World) (mg : Str → Option Value) (fa : Addr) (h : Heap), YP w h → (K w.params).In h → h.Ns mainGlobals mg → mg d.name = some (.ref fa) → TabsOf q mg h →
      ∃ (fd : FuncData) (c PT : Addr), h.get? PT = some tab0 ∧ (K w.params).lookup PT = none ∧ PySem.W.CodeHd h c PT ∧ (∀ (s : Shared) (us : List Value), us.length = ps.length → BindsTo s fd ⟨us, []⟩ (ps.zip us)) ∧
        ∀ base : Heap, (K w.params).In base → base.Ns mainGlobals mg → LamX.TabB base mg c PT → FnOk r.prog w (K w.params) mg base CX0 k fa fd ps (sp (K w.params) PT))
    (hsp : ∀ (K : PySem.W.Frag) (PT : Addr) (H : Hp) (xs : List V) (a : Codec.denoteAll r.args), H PT = some (.tbl #[]) → Codec.withinAll r.args a = true → Codec.app r.args r.asked a = true → DwAll K H xs (Codec.encAll r.args a) →
      sp K PT xs H (fun v H' => Dw K H' v (r.ret.enc (Codec.app r.args r.f a))) fun _ _ _ => False) :
    PySem.W.WalkOS q loose XP YP r d [] (fun f vs => PySem.call f vs) := by
  intro w s0 s1 mg mb G Y fa o pm cd doc dV kV ho hd hcd hD hmg hg args vals as hpre hlay hrd hwl hlo
  obtain ⟨a, e1, e2⟩ := PySem.W.os_pre_some hpre
  obtain ⟨e3, hwi⟩ := Codec.encAll_of_decAll r.args args a e1
  subst e3
  have KX := hY w _ Y
  have tb : TabsOf q mg s1.heap := fun dL hL => by
    obtain ⟨a', o', fd', c', P', z1, z2, z3, z4, z5, z6⟩ := G.T.tab dL hL
    have hd := PySem.W.CodeHd.of z5 z6
    obtain ⟨⟨oc, vc, y1, y2, y3, y4⟩, y5⟩ := z6
    exact ⟨a', o', fd', c', P', z1, z2, z3, z4, hd, ⟨oc, vc, y1, y3, y4⟩, y5⟩
  obtain ⟨fd, c, PT, t0, t1, t2, hb, hF⟩ := F w mg fa _ Y KX G.T.g hmg tb
  have run := callT (R := []) (cl := classAt s0.heap) (d0 := r.ret.enc (Codec.app r.args r.f a)) KX G.T.g G.T.b G.T.builtins G.T.nolimit hg G.T.bmain hwl (pl_encAll _ _) (layable_weight hlay) room t0 t1 t2 hF hb (by rw [encAll_len]; exact ln)
    (fun H xs hP hS => hsp (K w.params) PT H xs a hP hwi e2 hS) fun _ _ _ z => z
  refine PySem.W.enter_call (codeAny_mono run fun r' s' hq => ?_)
  obtain ⟨u, as', rfl, h1, h2, h3, h4⟩ := hq
  exact ⟨.inl ⟨u, _, as', rfl, fun _ => rfl, h1, (OpenSpec.post_iff ws hwi _ _).mpr rfl, fun z => Bool.noConfusion (show false = true from z)⟩, h2, h3, h4⟩
end My

set_option maxRecDepth 100000
set_option maxHeartbeats 2000000
namespace My
open PySem PySem.Spec PyProof.Rows L2
open Br (Line Recipe Bytes)
open LamX (ExtN Tabs)
/-! ### what stands but the tables -/
theorem ExtN.row {C : Addr} {H H' : Hp} {a : Addr} {y : Nat × List Nat × List Nat} (e : ExtN H H') (h : RowAt C H a y) : RowAt C H' a y := by
  obtain ⟨dx, q, h1, h2⟩ := h
  exact ⟨dx, q, e _ _ h1 (fun ps z => by cases z), e _ _ h2 (fun ps z => by cases z)⟩
theorem ExtN.rows {C : Addr} {H H' : Hp} {as : List Addr} {es : Recipe} (e : ExtN H H') (h : RowsAt C H as es) : RowsAt C H' as es := ⟨h.len, fun i a x h1 h2 => ExtN.row e (h.at_ i a x h1 h2)⟩
theorem ExtN.rec {C : Addr} {H H' : Hp} {d : Addr} {ls : Nat → Addr} {rs : Nat → List Addr} {r : Recipe} (s : ExtN H H') (R : RecAt C H d ls rs r) : RecAt C H' d ls rs r := by
  refine ⟨s _ _ R.dict (fun ps z => by cases z), fun k hk => s _ _ (R.lst k hk) (fun ps z => by cases z), R.inj, fun k hk => ExtN.rows s (R.rows k hk), fun k hk a ha dx y q e => ?_⟩
  obtain ⟨x, _, dx0, q0, h1, _⟩ := (R.rows k hk).mem ha
  have e2 := (s _ _ h1 (fun ps z => by cases z)).symm.trans e
  exact R.apart k hk a ha dx y q (h1.trans e2)
/-! ### scaled -/
def partM (x : Line) : Nat := (lnums x).getD 0 0
theorem cast_sum : ∀ l : List Nat, (l.map fun (n : Nat) => (n : Int)).sum = ((l.sum : Nat) : Int)
  | [] => rfl
  | a :: l => by
    rw [List.map_cons, List.sum_cons, List.sum_cons, cast_sum l]
    omega
theorem nV_int (l : List Nat) : l.map nV = (l.map fun (n : Nat) => (n : Int)).map V.int := by
  rw [List.map_map]
  rfl
theorem sum_le {l : List Nat} {b : Nat} (h : ∀ x ∈ l, x ≤ b) : l.sum ≤ b * l.length := by
  induction l with
  | nil => simp
  | cons a l ih =>
    have h1 := h a (List.mem_cons_self ..)
    have h2 := ih fun x hx => h x (List.mem_cons_of_mem _ hx)
    rw [List.sum_cons, List.length_cons, Nat.mul_add]
    omega
/-- the order of the program is the order of the spec -/
theorem ord_is (ps : List Nat) (w : Nat) : ordK ((ps.map fun p => w * p).map fun (n : Nat) => (n : Int)) ((ps.sum : Nat) : Int) = ordF ps w := by
  unfold ordK ordF
  rw [List.length_map, List.length_map]
  congr 1
  funext x y
  have e : ∀ i : Nat, (((ps.map fun p => w * p).map fun (n : Nat) => (n : Int)).getD i 0) % ((ps.sum : Nat) : Int) = ((fr ps w i : Nat) : Int) := fun i => by
    unfold fr
    rw [List.map_map, List.getD_eq_getElem?_getD, List.getElem?_map, List.getD_eq_getElem?_getD]
    cases ps[i]? with
    | none => show (0 : Int) % _ = ((w * 0 % ps.sum : Nat) : Int); simp
    | some p => show ((w * p : Nat) : Int) % _ = ((w * p % ps.sum : Nat) : Int); rfl
  rw [e, e]
  unfold leF
  congr 1
  rw [eq_iff_iff]
  omega
theorem tabs_upd {T : List (Addr × Str)} {H : Hp} {a : Addr} {xs : List V} {o : HO} (t : Tabs T H) (h : H a = some (.lst xs)) : Tabs T (upd H a o) := fun p hp => by
  obtain ⟨ps, h1, h2, h3⟩ := t p hp
  have n1 : p.1 ≠ a := fun z => by rw [z, h] at h1; cases h1
  refine ⟨ps, (upd_ne n1).trans h1, h2, fun pos cv hc => ?_⟩
  obtain ⟨c, e1, e2⟩ := h3 pos cv hc
  have n2 : c ≠ a := fun z => by
    rw [z, h] at e2
    have e3 := Option.some.inj e2
    unfold LamX.CodeO at e3
    cases e3
  exact ⟨c, e1, (upd_ne n2).trans e2⟩
theorem ext_same {H H1 H2 : Hp} (a : Same H H1) (b : ExtN H1 H2) : ExtN H H2 := fun c o h n => b c o (a c o h) n
theorem ext_upd {H H1 : Hp} {a : Addr} {o : HO} (e : ExtN H H1) (h : H a = none) : ExtN H (upd H1 a o) := fun c u q n => (upd_ne (ne_of_none q h)).trans (e c u q n)
abbrev sScaled : Stmt := top 36
section
variable {P : Program} {w : World} {K : PySem.W.Frag} {mg : Str → Option Value} {base : Heap}
theorem scScaled : FnScope ["rows", "weight", "together", "above", "grams", "left_over", "by_fraction", "place", "row", "share"] ["rows", "weight"] (defScope sScaled) := ⟨rfl, rfl, rfl, by decide +kernel, rfl, by decide +kernel, by decide +kernel⟩
/-- the table of scaled's code, and what is made in it -/
abbrev tbS (PT : Addr) : List (Addr × Str) := [(PT, (Str.ofString "scaled" ++ Str.ofString ".<locals>.") ++ Str.ofString "<lambda>")]
def spScaled (C PT : Addr) : Sp := fun vs H Q _ => ∃ (l : Addr) (wt : Nat) (as : List Addr) (es : Recipe), vs = [.ref l, .int (wt : Int)] ∧ H l = some (.lst (as.map V.ref)) ∧ RowsAt C H as es ∧ es.length ≤ 16 ∧ (∀ y ∈ es, ∃ r, lnums y = partM y :: r ∧ 1 ≤ partM y ∧ partM y ≤ 10000) ∧ wt ≤ 10000000 ∧ Tabs (tbS PT) H ∧
  ∀ H' p, ExtN H H' → Tabs (tbS PT) H' → H' p = some (.lst ((Br.scaled (es.map partM) wt).map nV)) → Q (.ref p) H'
theorem ok_scaled {f C PT c : Addr} {oc kV doc pm ct : Value} {od an : Option Addr} {osl : Array (Option Value)} (lk : K.lookup f = some ⟨oc, od, .func (PySem.W.fnOf "scaled" "scaled" (defArgs sScaled) (defBody sScaled) (defScope sScaled) .none kV doc pm an (.ref c) ct), osl⟩)
    (hcd : PySem.W.codeIn K (.ref c) "scaled" = true) (TB : LamX.TabB base mg c PT) (T : RowT K mg C) (ml : mg "len" = none) (ms : mg "sum" = none) (mo : mg "sorted" = none) (mr : mg "range" = none) (cP : Cn mg "PARTS" (.int 0)) :
    FnOk P w K mg base CX0 4 f (PySem.W.fnOf "scaled" "scaled" (defArgs sScaled) (defBody sScaled) (defScope sScaled) .none kV doc pm an (.ref c) ct) ["rows", "weight"] (spScaled C PT) := by
  obtain ⟨uP, gP, rP⟩ := cP
  refine fn_of lk hcd scScaled (fun vs H Q E h => ?_) (fun A outer s H vs Q E hr h => ?_)
  · obtain ⟨l, wt, as, es, rfl, _⟩ := h
    rfl
  · obtain ⟨l, wt, as, es, rfl, hl, hR, h16, hpt, hwt, hT, q⟩ := h
    have hr2 : Room 2 _ := hr.mono (by decide)
    have nd := scScaled.nd
    have kg : (defScope sScaled).names.lookup (Str.ofString "grams") = some .local := by decide +kernel
    have ka : (defScope sScaled).names.lookup (Str.ofString "above") = some .cell := by decide +kernel
    have kt : (defScope sScaled).names.lookup (Str.ofString "together") = some .cell := by decide +kernel
    suffices hx : ∃ t, PSs (cxOf CX0 P w K mg base ["rows", "weight", "together", "above", "grams", "left_over", "by_fraction", "place", "row", "share"] "scaled" (defScope sScaled) f (.ref c) A outer s H E).nox (defBody sScaled) t ∧ t { nx := fun _ H' => Q .non H', rt := Q } (L2.start ["rows", "weight", "together", "above", "grams", "left_over", "by_fraction", "place", "row", "share"] [.ref l, .int (wt : Int)]) H by
      obtain ⟨t, h1, h2⟩ := hx
      exact ⟨t, h1.nox, h2⟩
    refine ⟨_, pss_cons (ps_set (i := 2) nd rfl (.inr rfl) (pe_callB (cr_sum rfl) (by rfl) ms boot_sum (pa_cons (pe_lc (own := [("row", 8)]) (g := gName 8) (tt := tYes) (te := tOp (rIxL K) (tFld K (tVar 8) "numbers") (tC (.int 0))) rfl nd (pi_list (pv 0)) (blkOk_by (N := ["rows", "weight", "together", "above", "grams", "left_over", "by_fraction", "place", "row", "share"]) (sc := defScope sScaled) (by decide +kernel))
          (fun _ _ _ _ _ => pg_name (i := 8) nd rfl (Or.inl rfl)) (fun _ _ _ _ _ => pts_nil) (fun _ _ _ _ _ => by exact pe_ix ix_list (pe_fld (pv 8) rfl) (pe_glob rfl gP rP) (fun _ _ => rfl))) pa_nil))) <|
      pss_cons (ps_set (i := 3) nd rfl (.inr rfl) (pe_lc (own := [("row", 8)]) (g := gName 8) (tt := tYes) (te := tOp (rI CMul fun i j => .int (i * j)) (tVar 1) (tOp (rIxL K) (tFld K (tVar 8) "numbers") (tC (.int 0)))) rfl nd (pi_list (pv 0)) (blkOk_by (N := ["rows", "weight", "together", "above", "grams", "left_over", "by_fraction", "place", "row", "share"]) (sc := defScope sScaled) (by decide +kernel))
          (fun _ _ _ _ _ => pg_name (i := 8) nd rfl (Or.inl rfl)) (fun _ _ _ _ _ => pts_nil) (fun _ _ _ _ _ => by exact pe_op op_mul (pv 1) (pe_ix ix_list (pe_fld (pv 8) rfl) (pe_glob rfl gP rP) (fun _ _ => rfl))))) <|
      pss_cons (ps_setLc (i := 4) (own := [("share", 9)]) (g := gName 9) (tt := tYes) (te := tOp (rI CDiv fun i j => .int (i / j)) (tVar 9) (tVar 2)) rfl nd rfl kg rfl (pi_list (pv 3)) (blkOk_by (N := ["rows", "weight", "together", "above", "grams", "left_over", "by_fraction", "place", "row", "share"]) (sc := defScope sScaled) (by decide +kernel))
          (fun _ _ _ _ _ => pg_name (i := 9) nd rfl (Or.inl rfl)) (fun _ _ _ _ _ => pts_nil) (fun _ _ _ _ _ => by exact pe_op op_fdiv (pv 9) (pv 2))) <|
      pss_cons (ps_set (i := 5) nd rfl (.inl rfl) (pe_op op_sub (pv 1) (pe_callB (cr_sum rfl) (by rfl) ms boot_sum (pa_cons (pv 4) pa_nil)))) <|
      pss_cons (ps_set (i := 6) nd rfl (.inl rfl) (pe_sortLam (T := tbS PT) (ia := 3) (it := 2) (by rfl) mo (pe_callTy cr_rg1 (by rfl) mr boot_range (pa_cons (pe_callB call_len_seq (by rfl) ml PySem.boot_len (pa_cons (pv 3) pa_nil)) pa_nil)) TB rfl (List.mem_cons_self ..) (fun q hq _ => by rw [List.mem_singleton.mp hq]; rfl) rfl rfl rfl rfl rfl (fun _ _ _ _ _ _ _ => rfl) ka kt rfl rfl hr2)) <|
      pss_cons (ps_for PassesOwn.never rfl (pi_list (pe_slice sl_list (pv 6) po_none (po_some (pv 5)))) (pg_name (i := 7) nd rfl (.inl rfl))
        (pss_one (ps_asg (pe_op op_add (pe_ix ix_list (pv 4) (pv 7) (fun _ _ => rfl)) pe_int) (pg_sub (pv 4) (pv 7) set_list)))) <|
      pss_one (ps_ret (pv 4)), ?_⟩
    have hps : (es.map partM).length = es.length := List.length_map ..
    have h1p : ∀ p ∈ es.map partM, 1 ≤ p ∧ p ≤ 10000 := fun p hp => by
      obtain ⟨y, hy, rfl⟩ := List.mem_map.mp hp
      obtain ⟨_, _, h⟩ := hpt y hy
      exact h
    have hsum : (es.map partM).sum ≤ 160000 := Nat.le_trans (sum_le fun p hp => (h1p p hp).2) (by rw [hps]; omega)
    -- one turn over the rows
    have row : ∀ {H' : Hp} {i : Nat} {u : V}, Same H H' → (as.map V.ref)[i]? = some u → ∃ (b dy qy : Addr) (y : Line) (p : Nat) (r : List Nat), u = .ref b ∧ (es.map partM)[i]? = some p ∧ H' b = some (.ins C dy (rowF (rk y) qy)) ∧ H' qy = some (.lst ((p :: r).map nV)) := fun {H' i u} sm hu => by
      rw [List.getElem?_map] at hu
      cases eb : as[i]? with
      | none => rw [eb] at hu; cases hu
      | some b =>
        rw [eb] at hu
        have hi : i < es.length := by rw [← hR.len]; exact (List.getElem?_eq_some_iff.mp eb).1
        have hy : es[i]? = some es[i] := List.getElem?_eq_getElem hi
        obtain ⟨dy, qy, g1, g2⟩ := (hR.at_ i b es[i] eb hy).same sm
        obtain ⟨r, er, _⟩ := hpt _ (List.getElem_mem hi)
        refine ⟨b, dy, qy, es[i], partM es[i], r, (Option.some.inj hu).symm, by rw [List.getElem?_map, hy]; rfl, g1, ?_⟩
        have g2' : H' qy = some (.lst ((lnums es[i]).map nV)) := g2
        rw [er] at g2'
        exact g2'
    have hal : (as.map V.ref).length = (es.map partM).length := by rw [List.length_map, hR.len, hps]
    have h16p : (es.map partM).length ≤ 16 := by rw [hps]; exact h16
    clear hpt hR
    generalize es.map partM = ps at *
    have hpos : ∀ {i p : Nat}, ps[i]? = some p → 0 < ps.sum := fun {i p} h => by
      have hne : ps ≠ [] := fun z => by rw [z] at h; simp at h
      exact Nat.pos_of_ne_zero (sum_pos hne fun x hx => (h1p x hx).1)
    -- together
    refine ⟨_, rfl, l, rfl, ⟨_, SqL.of hl⟩, fun D1 n1 => lc_list (K := K) (a := l) (xs := as.map V.ref) (fun i H' => Same H H' ∧ H' D1 = some (.lst ((ps.take i).map nV))) ⟨same_new n1, upd_same⟩ (fun i H' _ p => SqL.of (p.1 _ _ hl)) ?_ ?_⟩
    · intro i u H' hu p
      obtain ⟨b, dy, qy, y, pp, r, rfl, hpy, g1, g2⟩ := row p.1 hu
      refine ⟨rfl, _, rfl, b, C, dy, _, _, rfl, g1, T.cl, T.nU, rowF_nums _ _, qy, _, 0, nV pp, rfl, rfl, SqL.of g2, atI_nat (j := 0) rfl, _, p.2, ?_, ?_, ?_⟩
      · rw [List.length_map, List.length_take]
        exact Nat.lt_of_le_of_lt (Nat.le_trans (Nat.min_le_right _ _) h16p) (by decide)
      · exact fun b' o e => (upd_ne (ne_of_none e n1)).trans (p.1 b' o e)
      · rw [upd_same, take_snoc hpy, List.map_append]
        rfl
    intro H1 p1
    rw [hal, List.take_length] at p1
    obtain ⟨s1, hD1⟩ := p1
    rw [nV_int] at hD1
    refine ⟨D1, _, rfl, SqL.of hD1, ?_⟩
    rw [cast_sum]
    -- above
    refine ⟨_, rfl, l, rfl, ⟨_, SqL.of (s1 _ _ hl)⟩, fun D2 n2 => lc_list (K := K) (a := l) (xs := as.map V.ref) (fun i H' => Same H1 H' ∧ H' D2 = some (.lst (((ps.map fun p => wt * p).take i).map nV))) ⟨same_new n2, upd_same⟩ (fun i H' _ p => SqL.of (p.1 _ _ (s1 _ _ hl))) ?_ ?_⟩
    · intro i u H' hu p
      obtain ⟨b, dy, qy, y, pp, r, rfl, hpy, g1, g2⟩ := row (s1.trans p.1) hu
      have hpy2 : (ps.map fun p => wt * p)[i]? = some (wt * pp) := by rw [List.getElem?_map, hpy]; rfl
      refine ⟨rfl, _, rfl, _, rfl, b, C, dy, _, _, rfl, g1, T.cl, T.nU, rowF_nums _ _, qy, _, 0, nV pp, rfl, rfl, SqL.of g2, atI_nat (j := 0) rfl, _, _, rfl, rfl, .inl ⟨by omega, by omega⟩, _, p.2, ?_, ?_, ?_⟩
      · rw [List.length_map, List.length_take, List.length_map]
        exact Nat.lt_of_le_of_lt (Nat.le_trans (Nat.min_le_right _ _) h16p) (by decide)
      · exact fun b' o e => (upd_ne (ne_of_none e n2)).trans (p.1 b' o e)
      · rw [upd_same, take_snoc hpy2, List.map_append]
        rfl
    intro H2 p2
    have hal2 : (as.map V.ref).length = (ps.map fun p => wt * p).length := by rw [hal, List.length_map]
    rw [hal2, List.take_length] at p2
    obtain ⟨s2, hD2⟩ := p2
    -- grams
    refine ⟨_, rfl, D2, rfl, ⟨_, SqL.of hD2⟩, fun D3 n3 => lc_list (K := K) (a := D2) (xs := (ps.map fun p => wt * p).map nV) (fun i H' => Same H2 H' ∧ H' D3 = some (.lst (((ps.map fun p => wt * p / ps.sum).take i).map nV))) ⟨same_new n3, upd_same⟩ (fun i H' _ p => SqL.of (p.1 _ _ hD2)) ?_ ?_⟩
    · intro i u H' hu p
      rw [List.map_map, List.getElem?_map] at hu
      cases hpy : ps[i]? with
      | none => rw [hpy] at hu; cases hu
      | some pp =>
        rw [hpy] at hu
        obtain rfl : u = nV (wt * pp) := (Option.some.inj hu).symm
        have h0 := hpos hpy
        have hpy2 : (ps.map fun p => wt * p / ps.sum)[i]? = some (wt * pp / ps.sum) := by rw [List.getElem?_map, hpy]; rfl
        refine ⟨rfl, _, rfl, _, rfl, _, _, rfl, rfl, ⟨by omega, by omega⟩, _, p.2, ?_, ?_, ?_⟩
        · rw [List.length_map, List.length_take, List.length_map]
          exact Nat.lt_of_le_of_lt (Nat.le_trans (Nat.min_le_right _ _) h16p) (by decide)
        · exact fun b' o e => (upd_ne (ne_of_none e n3)).trans (p.1 b' o e)
        · rw [upd_same, take_snoc hpy2, List.map_append]
          rfl
    intro H3 p3
    have hal3 : ((ps.map fun p => wt * p).map nV).length = (ps.map fun p => wt * p / ps.sum).length := by rw [List.length_map, List.length_map, List.length_map]
    rw [hal3, List.take_length] at p3
    obtain ⟨s3, hD3⟩ := p3
    have hD23 := s3 _ _ hD2
    have s123 := s1.trans (s2.trans s3)
    have f3 : H D3 = none := (s1.trans s2).free n3
    have hD3i := hD3
    rw [nV_int] at hD3i hD23
    -- left_over
    refine ⟨_, rfl, _, rfl, D3, _, rfl, SqL.of hD3i, _, _, rfl, rfl, ?_⟩
    rw [cast_sum]
    -- by_fraction
    refine ⟨_, rfl, D2, _, rfl, .inl (SqL.of hD23), _, rfl, fun rr nr => ⟨rr, D2, (ps.map fun p => wt * p).map fun (n : Nat) => (n : Int), ((ps.sum : Nat) : Int), rfl, ?_, ?_, rfl, rfl, same_new nr _ _ hD23, ?_, (hT.ext s123).ext (same_new nr), fun H4 p4 e4 T4 np4 => ?_⟩⟩
    · rw [upd_same, List.length_map]
    · rw [List.length_map, List.length_map]
      omega
    · intro hne
      have : ps ≠ [] := fun z => hne (by rw [z]; rfl)
      obtain ⟨a0, l0, e0⟩ := List.exists_cons_of_ne_nil this
      have := hpos (i := 0) (p := a0) (by rw [e0]; rfl)
      omega
    rw [ord_is]
    have e5 : ExtN H (upd H4 p4 (.lst ((ordF ps wt).map fun (n : Nat) => V.int (n : Int)))) := fun b o h n => by
      have h4 := e4 b o (same_new nr b o (s123 b o h)) n
      exact (upd_ne (ne_of_none h4 np4)).trans h4
    have T5 : Tabs (tbS PT) (upd H4 p4 (.lst ((ordF ps wt).map fun (n : Nat) => V.int (n : Int)))) := T4.ext (same_new np4)
    have hD5 : (upd H4 p4 (.lst ((ordF ps wt).map fun (n : Nat) => V.int (n : Int)))) D3 = some (.lst ((ps.map fun p => wt * p / ps.sum).map nV)) := by
      have h4 := e4 D3 _ (same_new nr _ _ hD3) (fun ps z => by cases z)
      exact (upd_ne (ne_of_none h4 np4)).trans h4
    have hp5 : (upd H4 p4 (.lst ((ordF ps wt).map fun (n : Nat) => V.int (n : Int)))) p4 = some (.lst ((ordF ps wt).map nV)) := upd_same
    generalize upd H4 p4 (.lst ((ordF ps wt).map fun (n : Nat) => V.int (n : Int))) = H5 at *
    -- how many get one more
    obtain ⟨m0, hm0, hcut, hend⟩ : ∃ m0 : Nat, m0 ≤ ps.length ∧ cutV ((ordF ps wt).map nV) none (some ((wt : Int) - (((ps.map fun p => wt * p / ps.sum).sum : Nat) : Int))) = ((ordF ps wt).take m0).map nV ∧ stg ps wt m0 = Br.scaled ps wt := by
      by_cases hne : ps = []
      · subst hne
        refine ⟨0, Nat.le_refl _, ?_, rfl⟩
        have e : ordF [] wt = [] := List.eq_nil_of_length_eq_zero (ord_len [] wt)
        rw [e]
        unfold cutV
        simp
      · have hs : ps.sum ≠ 0 := sum_pos hne fun x hx => (h1p x hx).1
        refine ⟨over ps wt, Nat.le_of_lt (over_lt hs wt), ?_, stg_end hs wt⟩
        rw [over_eq hs]
        unfold cutV
        rw [HT.sIx_none, HT.sIx_nat, List.length_map, ord_len, Nat.min_eq_left (Nat.le_of_lt (over_lt hs wt)), List.drop_zero, Nat.sub_zero, List.map_take]
    -- the loop
    refine ⟨_, rfl, _, rfl, _, rfl, p4, _, rfl, SqL.of hp5, fun q6 n6 => ?_⟩
    rw [hcut]
    have f6 : H5 q6 = none := n6
    refine ⟨q6, rfl, ⟨_, SqL.of upd_same⟩, for_it (walk_list (K := K) (a := q6) (xs := ((ordF ps wt).take m0).map nV)) (fun i σ H' => ∃ v7, σ = [some (.ref l), some (.int (wt : Int)), some (.int ((ps.sum : Nat) : Int)), some (.ref D2), some (.ref D3), some (.int ((wt : Int) - (((ps.map fun p => wt * p / ps.sum).sum : Nat) : Int))), some (.ref p4), v7, none, none] ∧
      ExtN H H' ∧ Tabs (tbS PT) H' ∧ H' D3 = some (.lst ((stg ps wt i).map nV)) ∧ H' q6 = some (.lst (((ordF ps wt).take m0).map nV))) ?_ ?_ ?_ ?_⟩
    · refine ⟨none, rfl, fun b o h n => ?_, T5.ext (same_new n6), ?_, upd_same⟩
      · have h5 := e5 b o h n
        exact (upd_ne (ne_of_none h5 n6)).trans h5
      · rw [stg_zero]
        exact (upd_ne (ne_of_none hD5 n6)).trans hD5
    · rintro i σ H' hi ⟨v7, rfl, _, _, _, hq6⟩
      exact SqL.of hq6
    · rintro i u σ H' _ hi ⟨v7, rfl, eH, tH, hg, hq6⟩ ⟨rfl, hu⟩
      rw [List.getElem?_map] at hu
      cases ek : ((ordF ps wt).take m0)[i]? with
      | none => rw [ek] at hu; cases hu
      | some k =>
        rw [ek] at hu
        obtain rfl : u = nV k := (Option.some.inj hu).symm
        have ek2 : (ordF ps wt)[i]? = some k := by
          rw [List.getElem?_take] at ek
          split at ek
          · exact ek
          · cases ek
        have hk : k < ps.length := ord_mem.mp (List.mem_of_getElem? ek2)
        obtain ⟨hst, hnx⟩ := stg_step ek2
        have hat : ((stg ps wt i).map nV)[k]? = some (nV (wt * ps.getD k 0 / ps.sum)) := by rw [List.getElem?_map, hst]; rfl
        have n36 : D3 ≠ q6 := ne_of_none hD5 n6
        refine ⟨_, rfl, _, rfl, D3, _, (k : Int), _, rfl, rfl, SqL.of hg, atI_nat hat, _, _, rfl, rfl, _, rfl, _, rfl, D3, _, (k : Int), k, rfl, rfl, hg, ?_, ?_⟩
        · rw [List.length_map, stg_len]
          unfold ixN
          rw [if_pos (by omega), if_pos (by omega)]
          rfl
        · refine ⟨_, rfl, ext_upd eH f3, tabs_upd tH hg, ?_, (upd_ne n36.symm).trans hq6⟩
          rw [upd_same, hnx, List.map_set]
          rfl
    · rintro σ H' ⟨v7, rfl, eH, tH, hg, hq6⟩
      have el : (((ordF ps wt).take m0).map nV).length = m0 := by
        rw [List.length_map, List.length_take, ord_len]
        exact Nat.min_eq_left hm0
      rw [el, hend] at hg
      exact ⟨_, rfl, q H' D3 eH tH hg⟩
end
end My

set_option maxRecDepth 100000
set_option maxHeartbeats 2000000
namespace My
open PySem PySem.Spec PyProof.Rows L2
open Br (Line Recipe Bytes)
open LamX (ExtN Tabs)
abbrev sExt : Stmt := top 37
section
variable {P : Program} {w : World} {K : PySem.W.Frag} {mg : Str → Option Value} {base : Heap}
/-! ### what stands but the tables: ends of it -/
theorem ext_trans {H H1 H2 : Hp} (e : ExtN H H1) (s : ExtN H1 H2) : ExtN H H2 := fun b o h n => s b o (e b o h n) n
theorem ext_of {H H1 : Hp} (s : Same H H1) : ExtN H H1 := fun b o h _ => s b o h
/-! ### extract_of -/
theorem scExt : FnScope ["rows", "weight", "grams", "row"] ["rows", "weight"] (defScope sExt) := ⟨rfl, rfl, rfl, by decide +kernel, rfl, by decide +kernel, by decide +kernel⟩
def num1 (x : Line) : Nat := (lnums x).getD 1 0
def extL (es : Recipe) (wt : Nat) : List Nat := List.zipWith (fun (g : Nat) (y : Line) => g * num1 y) (Br.scaled (es.map partM) wt) es
theorem ext_malts (r : Recipe) (wt ml h : Nat) : (extL (ofRank 1 r) wt).sum = Br.extract r ⟨ml, wt, h⟩ := by
  unfold extL Br.extract Br.maltGrams
  rw [rank1, List.map_map, List.zipWith_map_right]
  rfl
theorem extL_len {es : Recipe} {wt : Nat} : (extL es wt).length = es.length := by
  unfold extL
  rw [List.length_zipWith, scaled_len, List.length_map, Nat.min_self]
def spExt (C PT : Addr) : Sp := fun vs H Q _ => ∃ (l : Addr) (wt : Nat) (as : List Addr) (es : Recipe), vs = [.ref l, .int (wt : Int)] ∧ H l = some (.lst (as.map V.ref)) ∧ RowsAt C H as es ∧ es.length ≤ 16 ∧ (∀ y ∈ es, ∃ r, lnums y = partM y :: r ∧ 1 ≤ partM y ∧ partM y ≤ 10000) ∧
  (∀ y ∈ es, ∃ p r, lnums y = p :: num1 y :: r ∧ num1 y ≤ 850) ∧ wt ≤ 10000000 ∧ Tabs (tbS PT) H ∧ ∀ H', ExtN H H' → Tabs (tbS PT) H' → Q (nV (extL es wt).sum) H'
theorem ok_ext {f fS C PT : Addr} {fd fdS : FuncData} (F : Fun K "extract_of" "extract_of" sExt f fd) (GS : Df P w K mg base 4 "scaled" ["rows", "weight"] (spScaled C PT) fS fdS) (T : RowT K mg C) (mz : mg "zip" = none) (ms : mg "sum" = none) (cX : Cn mg "EXTRACT" (.int 1)) :
    FnOk P w K mg base CX0 5 f fd ["rows", "weight"] (spExt C PT) := by
  obtain ⟨uX, gX, rX⟩ := cX
  refine F.ok scExt (fun vs H Q E h => ?_) (fun cdv A outer s H vs Q E hr h => ?_)
  · obtain ⟨l, wt, as, es, rfl, _⟩ := h
    rfl
  · obtain ⟨l, wt, as, es, rfl, hl, hR, h16, hpt, hxt, hwt, hT, q⟩ := h
    have nd := scExt.nd
    refine ⟨_, pss_one (ps_ret (pe_callB (cr_sum rfl) (by rfl) ms boot_sum (pa_cons (pe_lc (own := [("grams", 2), ("row", 3)]) (g := gTup K 2 (gCons (gName 2) (gCons (gName 3) gNil))) (tt := tYes) (te := tOp (rI CMul fun i j => .int (i * j)) (tVar 2) (tOp (rIxL K) (tFld K (tVar 3) "numbers") (tC (.int 1)))) rfl nd
        (pi_zip (by rfl) mz (pa_cons (pe_call GS.ok hr rfl GS.g GS.kp GS.b .nil pass0 (pa_cons (pv 0) (pa_cons (pv 1) pa_nil))) (pa_cons (pv 0) pa_nil))) (blkOk_by (N := ["rows", "weight", "grams", "row"]) (sc := defScope sExt) (by decide +kernel))
        (fun _ _ _ _ _ => pg_tup rfl (pgs_cons (pg_name (i := 2) nd rfl (Or.inl rfl)) (pgs_cons (pg_name (i := 3) nd rfl (Or.inl rfl)) pgs_nil))) (fun _ _ _ _ _ => pts_nil) (fun _ _ _ _ _ => by exact pe_op op_mul (pv 2) (pe_ix ix_list (pe_fld (pv 3) rfl) (pe_glob rfl gX rX) (fun _ _ => rfl)))) pa_nil))), ?_⟩
    refine ⟨_, rfl, _, rfl, l, wt, as, es, rfl, hl, hR, h16, hpt, hwt, hT, fun H1 p1 e1 T1 hp1 => ?_⟩
    have hl1 := e1 _ _ hl (fun ps z => by cases z)
    have hR1 := ExtN.rows e1 hR
    have hsc : (Br.scaled (es.map partM) wt).length = es.length := by rw [scaled_len, List.length_map]
    have hxl : (extL es wt).length = es.length := extL_len
    refine ⟨_, rfl, p1, l, _, _, rfl, SqL.of hp1, SqL.of hl1, fun D nD => lc_it (walk_zip (K := K) (a := p1) (b := l) (xs := (Br.scaled (es.map partM) wt).map nV) (ys := as.map V.ref) (n := es.length) (by rw [List.length_map, List.length_map, hsc, hR.len, Nat.min_self]))
      (fun i H' => Same H1 H' ∧ H' D = some (.lst (((extL es wt).take i).map nV))) ⟨same_new nD, upd_same⟩ (fun i H' _ p => ⟨SqL.of (p.1 _ _ hp1), SqL.of (p.1 _ _ hl1)⟩) ?_ ?_⟩
    · rintro i u H' H'' hi p ⟨t, x, y, rfl, nT, rfl, hx, hy⟩
      have hia : i < as.length := by rw [hR.len]; exact hi
      have his : i < (Br.scaled (es.map partM) wt).length := by rw [hsc]; exact hi
      dsimp only at hx hy
      rw [List.getElem?_map, List.getElem?_eq_getElem his] at hx
      rw [List.getElem?_map, List.getElem?_eq_getElem hia] at hy
      obtain rfl : x = nV (Br.scaled (es.map partM) wt)[i] := (Option.some.inj hx).symm
      obtain rfl : y = V.ref as[i] := (Option.some.inj hy).symm
      have sT := same_new (o := .tup [nV (Br.scaled (es.map partM) wt)[i], V.ref as[i]]) nT
      have hD2 := sT _ _ p.2
      obtain ⟨dy, qy, g1, g2⟩ := (hR1.at_ i as[i] es[i] (List.getElem?_eq_getElem hia) (List.getElem?_eq_getElem hi)).same (p.1.trans sT)
      obtain ⟨pp, r, er, hx8⟩ := hxt _ (List.getElem_mem hi)
      have g2' : (upd H' t (.tup [nV (Br.scaled (es.map partM) wt)[i], V.ref as[i]])) qy = some (.lst ((pp :: num1 es[i] :: r).map nV)) := by rw [← er]; exact g2
      have hat : (extL es wt)[i]? = some ((Br.scaled (es.map partM) wt)[i] * num1 es[i]) := by
        unfold extL
        rw [List.getElem?_zipWith, List.getElem?_eq_getElem his, List.getElem?_eq_getElem hi]
      refine ⟨t, _, rfl, .inl (.inl upd_same), rfl, _, _, rfl, _, _, rfl, rfl, rfl, _, rfl, _, rfl, as[i], C, dy, _, _, rfl, g1, T.cl, T.nU, rowF_nums _ _, qy, _, 1, nV (num1 es[i]), rfl, rfl, SqL.of g2', atI_nat (j := 1) rfl, _, _, rfl, rfl, .inr ⟨by omega, by omega⟩, _, hD2, ?_, ?_, ?_⟩
      · rw [List.length_map, List.length_take]
        exact Nat.lt_of_le_of_lt (Nat.le_trans (Nat.min_le_right _ _) (by rw [hxl]; exact h16)) (by decide)
      · exact fun b' o e => (upd_ne (ne_of_none e nD)).trans (sT _ _ (p.1 b' o e))
      · rw [upd_same, take_snoc hat, List.map_append]
        rfl
    · intro H2 p2
      rw [← hxl, List.take_length] at p2
      obtain ⟨s2, hD⟩ := p2
      rw [nV_int] at hD
      refine ⟨D, _, rfl, SqL.of hD, ?_⟩
      rw [cast_sum]
      exact q H2 (ext_trans e1 (ext_of s2)) (T1.ext s2)
end
end My

set_option maxRecDepth 100000
set_option maxHeartbeats 2000000
namespace My
open PySem PySem.Spec PyProof.Rows L2
open Br (Line Recipe Bytes)
open LamX (ExtN Tabs)
abbrev sLeast : Stmt := top 38
section
variable {P : Program} {w : World} {K : PySem.W.Frag} {mg : Str → Option Value} {base : Heap}
/-! ### least_to_try -/
theorem scLeast : FnScope ["rows", "needed", "extracts", "middle", "off", "together", "of_parts", "row", "extract"] ["rows", "needed"] (defScope sLeast) := ⟨rfl, rfl, rfl, by decide +kernel, rfl, by decide +kernel, by decide +kernel⟩
def spLeast (C : Addr) : Sp := fun vs H Q _ => ∃ (l : Addr) (nd : Nat) (as : List Addr) (es : Recipe), vs = [.ref l, nV nd] ∧ H l = some (.lst (as.map V.ref)) ∧ RowsAt C H as es ∧ es.length ≤ 16 ∧ es ≠ [] ∧
  (∀ y ∈ es, ∃ r, lnums y = partM y :: num1 y :: r ∧ (1 ≤ partM y ∧ partM y ≤ 10000) ∧ 1 ≤ num1 y ∧ num1 y ≤ 850) ∧
  ∀ (H' : Hp) (m : Int), Same H H' → Q (.int (lowW (es.map partM).sum (es.map fun y => partM y * num1 y).sum (offI m (es.map num1)) nd)) H'
theorem ok_least {f C : Addr} {fd : FuncData} (F : Fun K "least_to_try" "least_to_try" sLeast f fd) (T : RowT K mg C) (ml : mg "len" = none) (ms : mg "sum" = none) (mo : mg "sorted" = none) (mx : mg "max" = none) (mb : mg "abs" = none) (cX : Cn mg "EXTRACT" (.int 1)) (cP : Cn mg "PARTS" (.int 0)) :
    FnOk P w K mg base CX0 1 f fd ["rows", "needed"] (spLeast C) := by
  obtain ⟨uX, gX, rX⟩ := cX
  obtain ⟨uP, gP, rP⟩ := cP
  refine F.ok scLeast (fun vs H Q E h => ?_) (fun cdv A outer s H vs Q E hr h => ?_)
  · obtain ⟨l, nn, as, es, rfl, _⟩ := h
    rfl
  · obtain ⟨l, nn, as, es, rfl, hl, hR, h16, hne, hpt, q⟩ := h
    have nd := scLeast.nd
    have kx : (defScope sLeast).names.lookup (Str.ofString "extracts") = some .local := by decide +kernel
    refine ⟨_, pss_cons (ps_setLc (i := 2) (own := [("row", 7)]) (g := gName 7) (tt := tYes) (te := tOp (rIxL K) (tFld K (tVar 7) "numbers") (tC (.int 1))) rfl nd rfl kx rfl (pi_list (pv 0)) (blkOk_by (N := ["rows", "needed", "extracts", "middle", "off", "together", "of_parts", "row", "extract"]) (sc := defScope sLeast) (by decide +kernel))
        (fun _ _ _ _ _ => pg_name (i := 7) nd rfl (Or.inl rfl)) (fun _ _ _ _ _ => pts_nil) (fun _ _ _ _ _ => by exact pe_ix ix_list (pe_fld (pv 7) rfl) (pe_glob rfl gX rX) (fun _ _ => rfl))) <|
      pss_cons (ps_set (i := 3) nd rfl (.inr rfl) (pe_ix ix_list (pe_callB cr_sortedI (by rfl) mo boot_sorted (pa_cons (pv 2) pa_nil)) (pe_op op_fdiv (pe_callB call_len_seq (by rfl) ml PySem.boot_len (pa_cons (pv 2) pa_nil)) pe_int) (fun _ _ => rfl))) <|
      pss_cons (ps_set (i := 4) nd rfl (.inl rfl) (pe_callB (cr_sum rfl) (by rfl) ms boot_sum (pa_cons (pe_lc (own := [("extract", 8)]) (g := gName 8) (tt := tYes) (te := tCB (fun xs H Q => ∃ i, xs = [.int i] ∧ Q (.int (if i < 0 then -i else i)) H) (tCons (tOp (rI0 fun i j => .int (i - j)) (tVar 8) (tVar 3)) tNil)) rfl nd (pi_list (pv 2)) (blkOk_by (N := ["rows", "needed", "extracts", "middle", "off", "together", "of_parts", "row", "extract"]) (sc := defScope sLeast) (by decide +kernel))
          (fun _ _ _ _ _ => pg_name (i := 8) nd rfl (Or.inl rfl)) (fun _ _ _ _ _ => pts_nil) (fun _ _ _ _ _ => by exact pe_callB call_abs (by rfl) mb boot_abs (pa_cons (pe_op op_sub (pv 8) (pv 3)) pa_nil))) pa_nil))) <|
      pss_cons (ps_set (i := 5) nd rfl (.inl rfl) (pe_callB (cr_sum rfl) (by rfl) ms boot_sum (pa_cons (pe_lc (own := [("row", 7)]) (g := gName 7) (tt := tYes) (te := tOp (rIxL K) (tFld K (tVar 7) "numbers") (tC (.int 0))) rfl nd (pi_list (pv 0)) (blkOk_by (N := ["rows", "needed", "extracts", "middle", "off", "together", "of_parts", "row", "extract"]) (sc := defScope sLeast) (by decide +kernel))
          (fun _ _ _ _ _ => pg_name (i := 7) nd rfl (Or.inl rfl)) (fun _ _ _ _ _ => pts_nil) (fun _ _ _ _ _ => by exact pe_ix ix_list (pe_fld (pv 7) rfl) (pe_glob rfl gP rP) (fun _ _ => rfl))) pa_nil))) <|
      pss_cons (ps_set (i := 6) nd rfl (.inl rfl) (pe_callB (cr_sum rfl) (by rfl) ms boot_sum (pa_cons (pe_lc (own := [("row", 7)]) (g := gName 7) (tt := tYes) (te := tOp (rI CMul fun i j => .int (i * j)) (tOp (rIxL K) (tFld K (tVar 7) "numbers") (tC (.int 0))) (tOp (rIxL K) (tFld K (tVar 7) "numbers") (tC (.int 1)))) rfl nd (pi_list (pv 0)) (blkOk_by (N := ["rows", "needed", "extracts", "middle", "off", "together", "of_parts", "row", "extract"]) (sc := defScope sLeast) (by decide +kernel))
          (fun _ _ _ _ _ => pg_name (i := 7) nd rfl (Or.inl rfl)) (fun _ _ _ _ _ => pts_nil) (fun _ _ _ _ _ => by exact pe_op op_mul (pe_ix ix_list (pe_fld (pv 7) rfl) (pe_glob rfl gP rP) (fun _ _ => rfl)) (pe_ix ix_list (pe_fld (pv 7) rfl) (pe_glob rfl gX rX) (fun _ _ => rfl)))) pa_nil))) <|
      pss_one (ps_ret (pe_callB (call_max2 rfl) (by rfl) mx boot_max (pa_cons pe_int (pa_cons (pe_un un_neg (pe_op op_fdiv (pe_op op_mul (pe_op op_sub (pv 4) (pv 1)) (pv 5)) (pv 6))) pa_nil)))), ?_⟩
    have e16 : es.length < sizeLine := Nat.lt_of_le_of_lt h16 (by decide)
    -- a row
    have row : ∀ {H' : Hp} {i : Nat} {u : V}, Same H H' → (as.map V.ref)[i]? = some u → ∃ (b dy qy : Addr) (y : Line) (r : List Nat), u = .ref b ∧ es[i]? = some y ∧ H' b = some (.ins C dy (rowF (rk y) qy)) ∧ H' qy = some (.lst ((partM y :: num1 y :: r).map nV)) ∧ partM y ≤ 10000 ∧ num1 y ≤ 850 := fun {H' i u} sm hu => by
      rw [List.getElem?_map] at hu
      cases eb : as[i]? with
      | none => rw [eb] at hu; cases hu
      | some b =>
        rw [eb] at hu
        have hi : i < es.length := by rw [← hR.len]; exact (List.getElem?_eq_some_iff.mp eb).1
        have hy : es[i]? = some es[i] := List.getElem?_eq_getElem hi
        obtain ⟨dy, qy, g1, g2⟩ := (hR.at_ i b es[i] eb hy).same sm
        obtain ⟨r, er, h1, h2⟩ := hpt _ (List.getElem_mem hi)
        refine ⟨b, dy, qy, es[i], r, (Option.some.inj hu).symm, hy, g1, ?_, h1.2, h2.2⟩
        rw [← er]
        exact g2
    have hal : (as.map V.ref).length = es.length := by rw [List.length_map, hR.len]
    have small : ∀ {β : Type} (g : Line → β) (h : β → V) (i : Nat), (((es.map g).take i).map h).length < sizeLine := fun g h i => by
      rw [List.length_map, List.length_take, List.length_map]
      exact Nat.lt_of_le_of_lt (Nat.min_le_right _ _) e16
    -- extracts
    refine ⟨_, rfl, l, rfl, ⟨_, SqL.of hl⟩, fun D1 n1 => lc_list (K := K) (a := l) (xs := as.map V.ref) (fun i H' => Same H H' ∧ H' D1 = some (.lst (((es.map num1).take i).map nV))) ⟨same_new n1, upd_same⟩ (fun i H' _ p => SqL.of (p.1 _ _ hl)) ?_ ?_⟩
    · intro i u H' hu p
      obtain ⟨b, dy, qy, y, r, rfl, hy, g1, g2, b1, b2⟩ := row p.1 hu
      have hat : (es.map num1)[i]? = some (num1 y) := by rw [List.getElem?_map, hy]; rfl
      refine ⟨rfl, _, rfl, b, C, dy, _, _, rfl, g1, T.cl, T.nU, rowF_nums _ _, qy, _, 1, nV (num1 y), rfl, rfl, SqL.of g2, atI_nat (j := 1) rfl, _, p.2, small _ _ _, ?_, ?_⟩
      · exact fun b' o e => (upd_ne (ne_of_none e n1)).trans (p.1 b' o e)
      · rw [upd_same, take_snoc hat, List.map_append]
        rfl
    intro H1 p1
    have hl1 : (as.map V.ref).length = (es.map num1).length := by rw [hal, List.length_map]
    rw [hl1, List.take_length] at p1
    obtain ⟨s1, hD1⟩ := p1
    have hD1i := hD1
    rw [nV_int] at hD1i
    -- middle
    refine ⟨_, rfl, D1, _, rfl, SqL.of hD1i, fun ns2 p2 pm _ np2 => ?_⟩
    have s2 := same_new (o := .lst (ns2.map V.int)) np2
    have hlen2 : ns2.length = es.length := by rw [pm.length_eq, List.length_map, List.length_map]
    have hmid : es.length / 2 < ns2.length := by
      rw [hlen2]
      exact Nat.div_lt_self (List.length_pos_iff.mpr hne) (by decide)
    have hD12 := s2 _ _ hD1
    refine ⟨_, rfl, D1, _, rfl, .inl (SqL.of hD12), _, _, rfl, rfl, ⟨by decide, by decide⟩, p2, _, ((es.length / 2 : Nat) : Int), V.int ns2[es.length / 2], rfl, ?_, SqL.of upd_same, atI_nat (j := es.length / 2) ?_, ?_⟩
    · show V.int ((((es.map num1).map nV).length : Int) / 2) = _
      rw [List.length_map, List.length_map]
      rfl
    · rw [List.getElem?_map, List.getElem?_eq_getElem hmid]
      rfl
    generalize ns2[es.length / 2] = m
    generalize upd H1 p2 (.lst (ns2.map V.int)) = H2 at *
    have s12 := s1.trans s2
    -- off
    refine ⟨_, rfl, D1, rfl, ⟨_, SqL.of hD12⟩, fun D3 n3 => lc_list (K := K) (a := D1) (xs := (es.map num1).map nV) (fun i H' => Same H2 H' ∧ H' D3 = some (.lst ((((es.map num1).map fun (x : Nat) => absI ((x : Int) - m)).take i).map V.int))) ⟨same_new n3, upd_same⟩ (fun i H' _ p => SqL.of (p.1 _ _ hD12)) ?_ ?_⟩
    · intro i u H' hu p
      rw [List.getElem?_map] at hu
      cases ex : (es.map num1)[i]? with
      | none => rw [ex] at hu; cases hu
      | some x =>
        rw [ex] at hu
        obtain rfl : u = nV x := (Option.some.inj hu).symm
        have hat : ((es.map num1).map fun (x : Nat) => absI ((x : Int) - m))[i]? = some (absI ((x : Int) - m)) := by rw [List.getElem?_map, ex]; rfl
        refine ⟨rfl, _, rfl, _, rfl, _, _, rfl, rfl, _, rfl, _, p.2, ?_, ?_, ?_⟩
        · rw [List.length_map, List.length_take, List.length_map, List.length_map]
          exact Nat.lt_of_le_of_lt (Nat.min_le_right _ _) e16
        · exact fun b' o e => (upd_ne (ne_of_none e n3)).trans (p.1 b' o e)
        · rw [upd_same, take_snoc hat, List.map_append]
          rfl
    intro H3 p3
    have hl3 : ((es.map num1).map nV).length = ((es.map num1).map fun (x : Nat) => absI ((x : Int) - m)).length := (List.length_map ..).trans (List.length_map ..).symm
    rw [hl3, List.take_length] at p3
    obtain ⟨s3, hD3⟩ := p3
    have s13 := s12.trans s3
    refine ⟨D3, _, rfl, SqL.of hD3, ?_⟩
    -- together
    refine ⟨_, rfl, l, rfl, ⟨_, SqL.of (s13 _ _ hl)⟩, fun D4 n4 => lc_list (K := K) (a := l) (xs := as.map V.ref) (fun i H' => Same H3 H' ∧ H' D4 = some (.lst (((es.map partM).take i).map nV))) ⟨same_new n4, upd_same⟩ (fun i H' _ p => SqL.of (p.1 _ _ (s13 _ _ hl))) ?_ ?_⟩
    · intro i u H' hu p
      obtain ⟨b, dy, qy, y, r, rfl, hy, g1, g2, b1, b2⟩ := row (s13.trans p.1) hu
      have hat : (es.map partM)[i]? = some (partM y) := by rw [List.getElem?_map, hy]; rfl
      refine ⟨rfl, _, rfl, b, C, dy, _, _, rfl, g1, T.cl, T.nU, rowF_nums _ _, qy, _, 0, nV (partM y), rfl, rfl, SqL.of g2, atI_nat (j := 0) rfl, _, p.2, small _ _ _, ?_, ?_⟩
      · exact fun b' o e => (upd_ne (ne_of_none e n4)).trans (p.1 b' o e)
      · rw [upd_same, take_snoc hat, List.map_append]
        rfl
    intro H4 p4
    have hl4 : (as.map V.ref).length = (es.map partM).length := by rw [hal, List.length_map]
    rw [hl4, List.take_length] at p4
    obtain ⟨s4, hD4⟩ := p4
    have s14 := s13.trans s4
    rw [nV_int] at hD4
    refine ⟨D4, _, rfl, SqL.of hD4, ?_⟩
    rw [cast_sum]
    -- of_parts
    refine ⟨_, rfl, l, rfl, ⟨_, SqL.of (s14 _ _ hl)⟩, fun D5 n5 => lc_list (K := K) (a := l) (xs := as.map V.ref) (fun i H' => Same H4 H' ∧ H' D5 = some (.lst (((es.map fun y => partM y * num1 y).take i).map nV))) ⟨same_new n5, upd_same⟩ (fun i H' _ p => SqL.of (p.1 _ _ (s14 _ _ hl))) ?_ ?_⟩
    · intro i u H' hu p
      obtain ⟨b, dy, qy, y, r, rfl, hy, g1, g2, b1, b2⟩ := row (s14.trans p.1) hu
      have hat : (es.map fun y => partM y * num1 y)[i]? = some (partM y * num1 y) := by rw [List.getElem?_map, hy]; rfl
      refine ⟨rfl, _, rfl, b, C, dy, _, _, rfl, g1, T.cl, T.nU, rowF_nums _ _, qy, _, 0, nV (partM y), rfl, rfl, SqL.of g2, atI_nat (j := 0) rfl, _, rfl, b, C, dy, _, _, rfl, g1, T.cl, T.nU, rowF_nums _ _, qy, _, 1, nV (num1 y), rfl, rfl, SqL.of g2, atI_nat (j := 1) rfl, _, _, rfl, rfl, .inl ⟨by omega, by omega⟩, _, p.2, small _ _ _, ?_, ?_⟩
      · exact fun b' o e => (upd_ne (ne_of_none e n5)).trans (p.1 b' o e)
      · rw [upd_same, take_snoc hat, List.map_append]
        rfl
    intro H5 p5
    have hl5 : (as.map V.ref).length = (es.map fun y => partM y * num1 y).length := by rw [hal, List.length_map]
    rw [hl5, List.take_length] at p5
    obtain ⟨s5, hD5⟩ := p5
    rw [nV_int] at hD5
    refine ⟨D5, _, rfl, SqL.of hD5, ?_⟩
    rw [cast_sum]
    -- the end
    have hP : (es.map partM).sum ≤ 10000 * es.length := by
      have := sum_le (l := es.map partM) (b := 10000) fun x hx => by
        obtain ⟨y, hy, rfl⟩ := List.mem_map.mp hx
        obtain ⟨_, _, h, _⟩ := hpt y hy
        exact h.2
      rwa [List.length_map] at this
    have hSb : (es.map fun y => partM y * num1 y).sum ≤ 8500000 * es.length := by
      have := sum_le (l := es.map fun y => partM y * num1 y) (b := 8500000) fun x hx => by
        obtain ⟨y, hy, rfl⟩ := List.mem_map.mp hx
        obtain ⟨_, _, h1, h2⟩ := hpt y hy
        exact Nat.mul_le_mul h1.2 h2.2
      rwa [List.length_map] at this
    have hS0 : (es.map fun y => partM y * num1 y).sum ≠ 0 := sum_pos (fun z => hne (List.map_eq_nil_iff.mp z)) fun x hx => by
      obtain ⟨y, hy, rfl⟩ := List.mem_map.mp hx
      obtain ⟨_, _, h1, h2⟩ := hpt y hy
      exact Nat.mul_le_mul h1.1 h2.1
    have q' := q H5 m (s14.trans s5)
    unfold lowW offI at q'
    generalize (es.map partM).sum = PP at *
    generalize (es.map fun y => partM y * num1 y).sum = SS at *
    refine ⟨_, rfl, _, rfl, _, _, rfl, rfl, _, rfl, _, _, rfl, rfl, .inr ⟨by omega, by omega⟩, _, rfl, _, _, rfl, rfl, ⟨by omega, by omega⟩, _, rfl, _, _, rfl, q'⟩
end
end My

set_option maxRecDepth 100000
set_option maxHeartbeats 2000000
namespace My
open PySem PySem.Spec PyProof.Rows L2
open Br (Line Recipe Bytes)
open LamX (ExtN Tabs)
abbrev sMalt : Stmt := top 39
section
variable {P : Program} {w : World} {K : PySem.W.Frag} {mg : Str → Option Value} {base : Heap}
theorem scMalt : FnScope ["ml", "n", "d", "text", "reading", "rows", "needed", "weight"] ["ml", "n", "d", "text"] (defScope sMalt) := ⟨rfl, rfl, rfl, by decide +kernel, rfl, by decide +kernel, by decide +kernel⟩
def spMalt (K : PySem.W.Frag) (PT : Addr) : Sp := fun vs H Q _ => ∃ (ml n d : Int) (a : Addr) (ns : List Int), vs = [.int ml, .int n, .int d, .ref a] ∧ (0 ≤ ml ∧ ml ≤ 4294967295) ∧ (0 ≤ n ∧ n ≤ 4294967295) ∧ (0 ≤ d ∧ d ≤ 4294967295) ∧ SqL K H a (ns.map V.int) ∧ ns.length ≤ 40000 ∧ (∀ x ∈ ns, 0 ≤ x ∧ x ≤ 255) ∧ H PT = some (.tbl #[]) ∧
  ∀ (H' : Hp) (p : Addr), H' p = some (.lst ((PyWqatdl.malt ml n d ns).map V.int)) → Q (.ref p) H'
theorem malt_parts (r : Recipe) : (ofRank 1 r).map partM = (Br.malts r).map fun m => m.2.1 := by
  rw [rank1, List.map_map]
  rfl
theorem malt_both (r : Recipe) : ((ofRank 1 r).map fun y => partM y * num1 y) = (Br.malts r).map fun m => m.2.1 * m.2.2 := by
  rw [rank1, List.map_map]
  rfl
theorem malt_num1 (r : Recipe) : (ofRank 1 r).map num1 = (Br.malts r).map fun m => m.2.2 := by
  rw [rank1, List.map_map]
  rfl
theorem malt_ok {r : Recipe} (hc : Ch r) : ∀ y ∈ ofRank 1 r, ∃ l, lnums y = partM y :: l ∧ 1 ≤ partM y ∧ partM y ≤ 10000 := fun y hy => by
  rw [rank1] at hy
  obtain ⟨m, hm, rfl⟩ := List.mem_map.mp hy
  exact ⟨_, rfl, (malt_bounds hc hm).2.1⟩
theorem malt_ok2 {r : Recipe} (hc : Ch r) : ∀ y ∈ ofRank 1 r, ∃ p l, lnums y = p :: num1 y :: l ∧ num1 y ≤ 850 := fun y hy => by
  rw [rank1] at hy
  obtain ⟨m, hm, rfl⟩ := List.mem_map.mp hy
  exact ⟨_, _, rfl, (malt_bounds hc hm).2.2.2⟩
theorem malt_ok3 {r : Recipe} (hc : Ch r) : ∀ y ∈ ofRank 1 r, ∃ l, lnums y = partM y :: num1 y :: l ∧ (1 ≤ partM y ∧ partM y ≤ 10000) ∧ 1 ≤ num1 y ∧ num1 y ≤ 850 := fun y hy => by
  rw [rank1] at hy
  obtain ⟨m, hm, rfl⟩ := List.mem_map.mp hy
  exact ⟨_, rfl, (malt_bounds hc hm).2.1, (malt_bounds hc hm).2.2⟩
theorem batch0 (r : Recipe) (ml : Nat) : Br.batchOk r ⟨ml, 0, 0⟩ = Br.within 1 Br.MOST ml := by
  unfold Br.batchOk
  simp [Br.MOST]
theorem ok_malt {f fR fX fL C CG PT : Addr} {fd fdR fdX fdL : FuncData} (F : Fun K "malt" "malt" sMalt f fd) (GR : Df P w K mg base 7 "read_batch" ["ml", "malt", "hops", "text"] (spRB K C CG) fR fdR)
    (GX : Df P w K mg base 5 "extract_of" ["rows", "weight"] (spExt C PT) fX fdX) (GL : Df P w K mg base 1 "least_to_try" ["rows", "needed"] (spLeast C) fL fdL) (TG : ReaT K mg CG) (ml : mg "len" = none) (mr : mg "range" = none)
    (cG : Cn mg "MOST_GRAMS" (.int 10000000)) : FnOk P w K mg base CX0 8 f fd ["ml", "n", "d", "text"] (spMalt K PT) := by
  obtain ⟨uG, gG, rG⟩ := cG
  refine F.ok scMalt (fun vs H Q E h => ?_) (fun cdv A outer s H vs Q E hr h => ?_)
  · obtain ⟨m, mt, hp, a, ns, rfl, _⟩ := h
    rfl
  · obtain ⟨m, n, d, a, ns, rfl, hm, hn, hd, hS, hl, hb, hP, q⟩ := h
    have hu := hu_of hr
    have hr1 : Room 1 _ := hr.mono (by decide)
    have hr5 : Room 5 _ := hr.mono (by decide)
    have nd := scMalt.nd
    refine ⟨_, pss_cons (ps_set (i := 4) nd rfl (.inl rfl) (pe_call GR.ok hr rfl GR.g GR.kp GR.b .nil pass0 (pa_cons (pv 0) (pa_cons pe_int (pa_cons pe_int (pa_cons (pv 3) pa_nil)))))) <|
      pss_cons (ps_if (pt_cmpR op_gt (pe_callB call_len_seq (by rfl) ml PySem.boot_len (pa_cons (pe_fld (pv 4) rfl) pa_nil)) pe_int (nomark _)) (pss_one (ps_ret (pe_fld (pv 4) rfl))) pss_nil) <|
      pss_cons (ps_if (pt_cmpR op_eq (pv 2) pe_int (nomark _)) (pss_one (ps_ret (pe_lst (pa_cons (pe_un un_neg pe_int) pa_nil)))) pss_nil) <|
      pss_cons (ps_set (i := 5) nd rfl (.inl rfl) (pe_dget hu (pe_fld (pv 4) rfl) pe_str (fun _ _ => rfl))) <|
      pss_cons (ps_set (i := 6) nd rfl (.inl rfl) (pe_op op_fdivW (pe_op op_sub (pe_op op_add (pe_op op_mul (pv 1) (pv 0)) (pv 2)) pe_int) (pv 2))) <|
      pss_cons (ps_for PassesOwn.never rfl (pi_range2 (by rfl) mr (pa_cons (pe_call GL.ok hr1 rfl GL.g GL.kp GL.b .nil pass0 (pa_cons (pv 5) (pa_cons (pv 6) pa_nil))) (pa_cons (pe_op op_add (pe_glob rfl gG rG) pe_int) pa_nil))) (pg_name (i := 7) nd rfl (.inl rfl))
        (pss_one (ps_if (pt_cmpR op_ge (pe_call GX.ok hr5 rfl GX.g GX.kp GX.b .nil pass0 (pa_cons (pv 5) (pa_cons (pv 7) pa_nil))) (pv 6) (nomark _)) (pss_one (ps_ret (pe_lst (pa_cons pe_int (pa_cons (pv 7) pa_nil))))) pss_nil))) <|
      pss_one (ps_ret (pe_lst (pa_cons (pe_un un_neg pe_int) pa_nil))), ?_⟩
    rw [bytes_V ns hb] at hS
    have hl2 : (WqatdlNeutral.bytes ns).length ≤ 40000 := by
      show (ns.map _).length ≤ _
      rw [List.length_map]
      exact hl
    rw [malt_is] at q
    generalize WqatdlNeutral.bytes ns = bs at *
    obtain ⟨v, rfl⟩ : ∃ v : Nat, m = (v : Int) := ⟨m.toNat, by omega⟩
    obtain ⟨n, rfl⟩ : ∃ v : Nat, n = (v : Int) := ⟨n.toNat, by omega⟩
    obtain ⟨d, rfl⟩ : ∃ v : Nat, d = (v : Int) := ⟨d.toNat, by omega⟩
    rw [Int.toNat_natCast, Int.toNat_natCast, Int.toNat_natCast, onText_refB (b := ⟨v, 0, 0⟩) (f := maltM v n d) (fun r e => by rw [batch0] at e; exact if_pos (.inl e))] at q
    refine ⟨_, rfl, _, rfl, v, 0, 0, a, bs, rfl, hS, hl2, fun H1 g dg dd z hg hz hrec s1 => ?_⟩
    have hP1 := s1 _ _ hP
    refine ⟨_, rfl, g, CG, dg, _, _, rfl, hg, TG.cl, TG.nF, reaF_ref _ _, z, _, rfl, .inl (SqL.of hz), _, _, rfl, rfl, _, rfl, iteD (fun e => ?_) (fun e => ?_)⟩
    · have ne := len_ne (l := refB ⟨v, 0, 0⟩ bs) e
      rw [if_pos ne] at q
      refine ⟨_, rfl, g, CG, dg, _, _, rfl, hg, TG.cl, TG.nF, reaF_ref _ _, ?_⟩
      exact q H1 z hz
    · have e0 := len_nil (l := refB ⟨v, 0, 0⟩ bs) e
      obtain ⟨er, r, hr0, eB⟩ := refB_nil e0
      obtain ⟨hb16, _⟩ := refusal_ok er
      obtain ⟨ls, rs, R⟩ := hrec hb16 r hr0
      have hc := (read_ch hr0).1
      have h16 := told_16 hc
      obtain ⟨hPr, hSr⟩ := read_PS hr0
      rw [if_neg (fun t => t e0), hr0] at q
      dsimp only at q
      rw [batch0] at eB
      refine ⟨_, rfl, rfl, _, rfl, iteD (fun e => ?_) (fun e => ?_)⟩
      · have ed : d = 0 := by
          have := V.int.inj e
          omega
        have em : maltM v n d r = [-1] := if_pos (.inr ed)
        rw [em] at q
        refine ⟨_, rfl, (by show 1 ≤ sizeLine; decide), fun p np => ?_⟩
        exact q _ p upd_same
      · have hd0 : 0 < d := by
          rcases Nat.eq_zero_or_pos d with z0 | z0
          · exact absurd (by rw [z0]; rfl) e
          · exact z0
        have em : maltM v n d r = match Br.leastMalt r v n d with
            | some w => [0, (w : Int)]
            | none => [-3] := if_neg (fun t => t.elim (fun z0 => by rw [eB] at z0; cases z0) (fun z0 => by omega))
        rw [em] at q
        have hv : 1 ≤ v ∧ v ≤ 10000000 := by
          unfold Br.within Br.MOST at eB
          rw [Bool.and_eq_true, decide_eq_true_eq, decide_eq_true_eq] at eB
          exact eB
        have get : DGet H1 dd (V.str (S (kindN 1))) (some (.ref (ls 1))) := by
          have h := DGet.k (k := Sum.inr (S (kindN 1))) R.dict
          rw [kvs_get ls (by decide)] at h
          exact h
        have hT1 : Tabs (tbS PT) H1 := fun p hp => by
          rw [List.mem_singleton.mp hp]
          exact LamX.TabS.nil hP1
        have hne1 : ofRank 1 r ≠ [] := fun t => by
          have := read_malts hr0
          rw [rank1] at t
          exact this (List.map_eq_nil_iff.mp t)
        clear hrec hz hS
        -- rows
        refine ⟨_, rfl, g, CG, dg, _, _, rfl, hg, TG.cl, TG.nR, reaF_rows _ _, dd, .ref (ls 1), rfl, ?_, ?_⟩
        · rw [kM]
          exact get
        -- needed
        refine ⟨_, rfl, _, rfl, _, _, rfl, rfl, .inl ⟨by omega, by omega⟩, _, rfl, _, _, rfl, rfl, _, _, rfl, rfl, _, rfl, _, _, rfl, rfl, wide_div (b := 64) (by omega) (by show d < 2 ^ 64; omega) (by decide) (by decide), ?_⟩
        have en : ((n : Int) * (v : Int) + (d : Int) - 1) / (d : Int) = (((n * v + d - 1) / d : Nat) : Int) := by
          have : (n : Int) * (v : Int) + (d : Int) - 1 = ((n * v + d - 1 : Nat) : Int) := by
            rw [Int.ofNat_sub (by omega), Int.natCast_add, Int.natCast_mul]
            rfl
          rw [this, Int.natCast_ediv]
        have hneed : ∀ e0 : Nat, (n * v + d - 1) / d ≤ e0 ↔ n * v ≤ d * e0 := fun e0 => needed_iff hd0
        have hnb : (n * v + d - 1) / d ≤ n * v := by
          rw [hneed]
          exact Nat.le_mul_of_pos_left _ hd0
        have hnv : n * v ≤ 4294967295 * 10000000 := Nat.mul_le_mul (by omega) hv.2
        dsimp only
        rw [en]
        generalize (n * v + d - 1) / d = need at *
        -- the first weight
        refine ⟨_, rfl, _, rfl, ls 1, need, rs 1, ofRank 1 r, rfl, R.lst 1 (by decide), R.rows 1 (by decide), h16.1, hne1, malt_ok3 hc, fun H2 md s2 => ?_⟩
        rw [malt_parts, malt_both, malt_num1]
        have hlow : ∀ x : Nat, enoughM r v n d x → lowW (mP r) (mS r) (offI md ((Br.malts r).map fun t => t.2.2)) need ≤ (x : Int) := fun x hx => low_le hPr hSr (ml := v) md ((hneed _).mpr hx)
        have hl0 := lowW_nn (mP r) (mS r) (offI md ((Br.malts r).map fun t => t.2.2)) need
        have hl9 := low_bound (P := mP r) (S := mS r) (needed := need) (off_nn md ((Br.malts r).map fun t => t.2.2)) (mP_le_mS hc) hSr
        have eP : ((Br.malts r).map fun m => m.2.1).sum = mP r := rfl
        have eS : ((Br.malts r).map fun m => m.2.1 * m.2.2).sum = mS r := rfl
        rw [eP, eS]
        generalize lowW (mP r) (mS r) (offI md ((Br.malts r).map fun t => t.2.2)) need = lo at *
        obtain ⟨L, rfl⟩ : ∃ L : Nat, lo = (L : Int) := ⟨lo.toNat, by omega⟩
        have hT2 := hT1.ext s2
        have R2 := R.same s2
        refine ⟨_, _, rfl, rfl, _, _, rfl, ⟨by omega, by omega, by decide, by decide⟩, for_it walk_range (fun i σ H' => ∃ v7, σ = [some (nV v), some (nV n), some (nV d), some (.ref a), some (.ref g), some (.ref (ls 1)), some (nV need), v7] ∧ ExtN H2 H' ∧ Tabs (tbS PT) H' ∧ ∀ x : Nat, x < L + i → ¬ enoughM r v n d x) ?_ ?_ ?_ ?_⟩
        · refine ⟨none, rfl, fun b o h _ => h, hT2, fun x hx he => ?_⟩
          have := hlow x he
          omega
        · intros
          trivial
        · rintro i u σ H' H'' hi ⟨v7, rfl, eH, tH, hno⟩ ⟨rfl, rfl⟩
          have R3 := ExtN.rec eH R2
          have hwt : L + i ≤ 10000000 := by
            have : i < ((10000000 : Int) + 1 - (L : Int)).toNat := hi
            omega
          refine ⟨_, rfl, _, rfl, ls 1, L + i, rs 1, ofRank 1 r, rfl, R3.lst 1 (by decide), R3.rows 1 (by decide), h16.1, malt_ok hc, malt_ok2 hc, hwt, tH, fun H4 e4 T4 => ?_⟩
          rw [ext_malts r (L + i) v 0]
          refine ⟨_, rfl, _, _, rfl, rfl, _, rfl, iteD (fun e => ?_) (fun e => ?_)⟩
          · have he : need ≤ Br.extract r ⟨v, L + i, 0⟩ := by
              have : (need : Int) ≤ ((Br.extract r ⟨v, L + i, 0⟩ : Nat) : Int) := e
              omega
            have hls : Br.leastMalt r v n d = some (L + i) := (least_some hPr hSr (by omega)).mpr ⟨hwt, (hneed _).mp he, hno⟩
            rw [hls] at q
            refine ⟨_, rfl, (by show 2 ≤ sizeLine; decide), fun p np => ?_⟩
            exact q _ p upd_same
          · have he : ¬ enoughM r v n d (L + i) := fun t => e (by
              have := (hneed _).mpr t
              show (need : Int) ≤ ((Br.extract r ⟨v, L + i, 0⟩ : Nat) : Int)
              omega)
            refine ⟨_, rfl, ext_trans eH e4, T4, fun x hx => ?_⟩
            by_cases c : x = L + i
            · rw [c]
              exact he
            · exact hno x (by omega)
        · rintro σ H' ⟨v7, rfl, eH, tH, hno⟩
          have hln : Br.leastMalt r v n d = none := (least_none hPr hSr (by omega)).mpr fun x hx => hno x (by
            have : x ≤ 10000000 := hx
            omega)
          rw [hln] at q
          refine ⟨_, rfl, (by show 1 ≤ sizeLine; decide), fun p np => ?_⟩
          exact q _ p upd_same
end
end My

set_option maxRecDepth 100000
set_option maxHeartbeats 4000000
namespace My
open PySem PySem.Spec PyProof.Rows L2
open Br (Line Recipe Bytes)
theorem all_mk {P pq : Program} {w : World} {K : PySem.W.Frag} {h : Heap} {mg : Str → Option Value} {fa : Addr} (X : K.In h) (G : h.Ns mainGlobals mg) (hfa : mg "malt" = some (.ref fa)) (tb : TabsOf pq mg h) (hrec : ((recsOf pq).any fun e => e.name == Str.ofString "scaled") = true)
    {f0 : Addr} {od0 an0 : Option Addr} {sl0 : Array (Option Value)} {oc0 kV0 dc0 pm0 cd0 ct0 : Value}
    {f1 : Addr} {od1 an1 : Option Addr} {sl1 : Array (Option Value)} {oc1 kV1 dc1 pm1 cd1 ct1 : Value}
    {f2 : Addr} {od2 an2 : Option Addr} {sl2 : Array (Option Value)} {oc2 kV2 dc2 pm2 cd2 ct2 : Value}
    {f3 : Addr} {od3 an3 : Option Addr} {sl3 : Array (Option Value)} {oc3 kV3 dc3 pm3 cd3 ct3 : Value}
    {f4 : Addr} {od4 an4 : Option Addr} {sl4 : Array (Option Value)} {oc4 kV4 dc4 pm4 cd4 ct4 : Value}
    {f5 : Addr} {od5 an5 : Option Addr} {sl5 : Array (Option Value)} {oc5 kV5 dc5 pm5 cd5 ct5 : Value}
    {f6 : Addr} {od6 an6 : Option Addr} {sl6 : Array (Option Value)} {oc6 kV6 dc6 pm6 cd6 ct6 : Value}
    {f7 : Addr} {od7 an7 : Option Addr} {sl7 : Array (Option Value)} {oc7 kV7 dc7 pm7 cd7 ct7 : Value}
    {f8 : Addr} {od8 an8 : Option Addr} {sl8 : Array (Option Value)} {oc8 kV8 dc8 pm8 cd8 ct8 : Value}
    {f9 : Addr} {od9 an9 : Option Addr} {sl9 : Array (Option Value)} {oc9 kV9 dc9 pm9 cd9 ct9 : Value}
    {f10 : Addr} {od10 an10 : Option Addr} {sl10 : Array (Option Value)} {oc10 kV10 dc10 pm10 cd10 ct10 : Value}
    {f11 : Addr} {od11 an11 : Option Addr} {sl11 : Array (Option Value)} {oc11 kV11 dc11 pm11 cd11 ct11 : Value}
    {f12 : Addr} {od12 an12 : Option Addr} {sl12 : Array (Option Value)} {oc12 kV12 dc12 pm12 cd12 ct12 : Value}
    {f13 : Addr} {od13 an13 : Option Addr} {sl13 : Array (Option Value)} {oc13 kV13 dc13 pm13 cd13 ct13 : Value}
    {f14 : Addr} {od14 an14 : Option Addr} {sl14 : Array (Option Value)} {oc14 kV14 dc14 pm14 cd14 ct14 : Value}
    {cS PT : Addr} {eS : Value} {ddS : Option Addr} {vsS : Array Value} {slS : Array (Option Value)} {f15 : Addr} {od15 an15 : Option Addr} {sl15 : Array (Option Value)} {oc15 kV15 dc15 pm15 ct15 : Value}
    {f16 : Addr} {od16 an16 : Option Addr} {sl16 : Array (Option Value)} {oc16 kV16 dc16 pm16 cd16 ct16 : Value}
    {f17 : Addr} {od17 an17 : Option Addr} {sl17 : Array (Option Value)} {oc17 kV17 dc17 pm17 cd17 ct17 : Value}
    {f18 : Addr} {od18 an18 : Option Addr} {sl18 : Array (Option Value)} {oc18 kV18 dc18 pm18 cd18 ct18 : Value}
    {C0 : Addr} {f100 : Addr} {od100 an100 : Option Addr} {sl100 : Array (Option Value)} {oc100 kV100 dc100 pm100 cd100 ct100 : Value}
    {C1 : Addr} {f101 : Addr} {od101 an101 : Option Addr} {sl101 : Array (Option Value)} {oc101 kV101 dc101 pm101 cd101 ct101 : Value}
    {ti0 : Tok}
    {ti1 : Tok}
    {ti2 : Tok}
    {ti3 : Tok}
    {ti4 : Tok}
    {ti5 : Tok}
    {ti6 : Tok}
    {ti7 : Tok}
    {ti8 : Tok}
    {ti9 : Tok}
    {ti10 : Tok}
    {ti11 : Tok}
    {ti12 : Tok}
    {ts0 : Tok}
    {ts1 : Tok}
    {ts2 : Tok}
    {dB dM : Addr} {nB nM : Nat}
    {Bt0 : Tok} {Ba0 : Addr} {Bo0 : Option Addr} {Bn0 : Nat} {Bs0 : Array (Option Value)}
    {Bt1 : Tok} {Ba1 : Addr} {Bo1 : Option Addr} {Bn1 : Nat} {Bs1 : Array (Option Value)}
    {Bt2 : Tok} {Ba2 : Addr} {Bo2 : Option Addr} {Bn2 : Nat} {Bs2 : Array (Option Value)}
    {Bt3 : Tok} {Ba3 : Addr} {Bo3 : Option Addr} {Bn3 : Nat} {Bs3 : Array (Option Value)}
    {Bt4 : Tok} {Ba4 : Addr} {Bo4 : Option Addr} {Bn4 : Nat} {Bs4 : Array (Option Value)}
    {Mt0 : Tok} {Ma0 : Addr} {Mo0 : Option Addr} {Mn0 : Nat} {Ms0 : Array (Option Value)}
    {Mt1 : Tok} {Ma1 : Addr} {Mo1 : Option Addr} {Mn1 : Nat} {Ms1 : Array (Option Value)}
    {Mt2 : Tok} {Ma2 : Addr} {Mo2 : Option Addr} {Mn2 : Nat} {Ms2 : Array (Option Value)}
    {Mt3 : Tok} {Ma3 : Addr} {Mo3 : Option Addr} {Mn3 : Nat} {Ms3 : Array (Option Value)}
    {Mt4 : Tok} {Ma4 : Addr} {Mo4 : Option Addr} {Mn4 : Nat} {Ms4 : Array (Option Value)}
    {p1 : Addr} {q1 : Option Addr} {m1 : Nat} {r1 : Array (Option Value)} {u1 v1 : Tok}
    {p2 : Addr} {q2 : Option Addr} {m2 : Nat} {r2 : Array (Option Value)} {u2 v2 : Tok}
    {p3 : Addr} {q3 : Option Addr} {m3 : Nat} {r3 : Array (Option Value)} {u3 v3 : Tok}
    {p4 : Addr} {q4 : Option Addr} {m4 : Nat} {r4 : Array (Option Value)} {u4 v4 : Tok}
    {p5 : Addr} {q5 : Option Addr} {m5 : Nat} {r5 : Array (Option Value)} {u5 v5 : Tok}
    {p6 : Addr} {q6 : Option Addr} {m6 : Nat} {r6 : Array (Option Value)} {u6 v6 : Tok}
    {p7 : Addr} {q7 : Option Addr} {m7 : Nat} {r7 : Array (Option Value)} {u7 v7 : Tok}
    {y0 : Tok}
    {y1 : Tok}
    {y2 : Tok}
    {y3 : Tok}
    {y4 : Tok}
    {y5 : Tok}
    {y6 : Tok}
    {y7 : Tok}
    {y8 : Tok}
    {y9 : Tok}
    {y10 : Tok}
    (a0 : PySem.W.nsIn K mainGlobals "sign_of" = some (some (.ref f0)))
    (l0 : K.lookup f0 = some ⟨oc0, od0, .func (PySem.W.fnOf "sign_of" "sign_of" (defArgs sSign) (defBody sSign) (defScope sSign) .none kV0 dc0 pm0 an0 cd0 ct0), sl0⟩)
    (c0 : PySem.W.codeIn K cd0 "sign_of" = true)
    (k0 : PySem.W.keepIn K (.ref f0) = true)
    (a1 : PySem.W.nsIn K mainGlobals "spell" = some (some (.ref f1)))
    (l1 : K.lookup f1 = some ⟨oc1, od1, .func (PySem.W.fnOf "spell" "spell" (defArgs sSpell) (defBody sSpell) (defScope sSpell) .none kV1 dc1 pm1 an1 cd1 ct1), sl1⟩)
    (c1 : PySem.W.codeIn K cd1 "spell" = true)
    (k1 : PySem.W.keepIn K (.ref f1) = true)
    (a2 : PySem.W.nsIn K mainGlobals "is_made_of" = some (some (.ref f2)))
    (l2 : K.lookup f2 = some ⟨oc2, od2, .func (PySem.W.fnOf "is_made_of" "is_made_of" (defArgs sMade) (defBody sMade) (defScope sMade) .none kV2 dc2 pm2 an2 cd2 ct2), sl2⟩)
    (c2 : PySem.W.codeIn K cd2 "is_made_of" = true)
    (k2 : PySem.W.keepIn K (.ref f2) = true)
    (a3 : PySem.W.nsIn K mainGlobals "is_name" = some (some (.ref f3)))
    (l3 : K.lookup f3 = some ⟨oc3, od3, .func (PySem.W.fnOf "is_name" "is_name" (defArgs sName) (defBody sName) (defScope sName) .none kV3 dc3 pm3 an3 cd3 ct3), sl3⟩)
    (c3 : PySem.W.codeIn K cd3 "is_name" = true)
    (k3 : PySem.W.keepIn K (.ref f3) = true)
    (a4 : PySem.W.nsIn K mainGlobals "is_number" = some (some (.ref f4)))
    (l4 : K.lookup f4 = some ⟨oc4, od4, .func (PySem.W.fnOf "is_number" "is_number" (defArgs sNum) (defBody sNum) (defScope sNum) .none kV4 dc4 pm4 an4 cd4 ct4), sl4⟩)
    (c4 : PySem.W.codeIn K cd4 "is_number" = true)
    (k4 : PySem.W.keepIn K (.ref f4) = true)
    (a5 : PySem.W.nsIn K mainGlobals "numbers_in" = some (some (.ref f5)))
    (l5 : K.lookup f5 = some ⟨oc5, od5, .func (PySem.W.fnOf "numbers_in" "numbers_in" (defArgs sNums) (defBody sNums) (defScope sNums) .none kV5 dc5 pm5 an5 cd5 ct5), sl5⟩)
    (c5 : PySem.W.codeIn K cd5 "numbers_in" = true)
    (k5 : PySem.W.keepIn K (.ref f5) = true)
    (a6 : PySem.W.nsIn K mainGlobals "row_of" = some (some (.ref f6)))
    (l6 : K.lookup f6 = some ⟨oc6, od6, .func (PySem.W.fnOf "row_of" "row_of" (defArgs sRow) (defBody sRow) (defScope sRow) .none kV6 dc6 pm6 an6 cd6 ct6), sl6⟩)
    (c6 : PySem.W.codeIn K cd6 "row_of" = true)
    (k6 : PySem.W.keepIn K (.ref f6) = true)
    (a7 : PySem.W.nsIn K mainGlobals "hop_clashes" = some (some (.ref f7)))
    (l7 : K.lookup f7 = some ⟨oc7, od7, .func (PySem.W.fnOf "hop_clashes" "hop_clashes" (defArgs sHopC) (defBody sHopC) (defScope sHopC) .none kV7 dc7 pm7 an7 cd7 ct7), sl7⟩)
    (c7 : PySem.W.codeIn K cd7 "hop_clashes" = true)
    (k7 : PySem.W.keepIn K (.ref f7) = true)
    (a8 : PySem.W.nsIn K mainGlobals "clashes" = some (some (.ref f8)))
    (l8 : K.lookup f8 = some ⟨oc8, od8, .func (PySem.W.fnOf "clashes" "clashes" (defArgs sClash) (defBody sClash) (defScope sClash) .none kV8 dc8 pm8 an8 cd8 ct8), sl8⟩)
    (c8 : PySem.W.codeIn K cd8 "clashes" = true)
    (k8 : PySem.W.keepIn K (.ref f8) = true)
    (a9 : PySem.W.nsIn K mainGlobals "why_wrong" = some (some (.ref f9)))
    (l9 : K.lookup f9 = some ⟨oc9, od9, .func (PySem.W.fnOf "why_wrong" "why_wrong" (defArgs sWhy) (defBody sWhy) (defScope sWhy) .none kV9 dc9 pm9 an9 cd9 ct9), sl9⟩)
    (c9 : PySem.W.codeIn K cd9 "why_wrong" = true)
    (k9 : PySem.W.keepIn K (.ref f9) = true)
    (a10 : PySem.W.nsIn K mainGlobals "why_wrong_at_end" = some (some (.ref f10)))
    (l10 : K.lookup f10 = some ⟨oc10, od10, .func (PySem.W.fnOf "why_wrong_at_end" "why_wrong_at_end" (defArgs sWhyE) (defBody sWhyE) (defScope sWhyE) .none kV10 dc10 pm10 an10 cd10 ct10), sl10⟩)
    (c10 : PySem.W.codeIn K cd10 "why_wrong_at_end" = true)
    (k10 : PySem.W.keepIn K (.ref f10) = true)
    (a11 : PySem.W.nsIn K mainGlobals "read_lines" = some (some (.ref f11)))
    (l11 : K.lookup f11 = some ⟨oc11, od11, .func (PySem.W.fnOf "read_lines" "read_lines" (defArgs sLines) (defBody sLines) (defScope sLines) .none kV11 dc11 pm11 an11 cd11 ct11), sl11⟩)
    (c11 : PySem.W.codeIn K cd11 "read_lines" = true)
    (k11 : PySem.W.keepIn K (.ref f11) = true)
    (a12 : PySem.W.nsIn K mainGlobals "read_text" = some (some (.ref f12)))
    (l12 : K.lookup f12 = some ⟨oc12, od12, .func (PySem.W.fnOf "read_text" "read_text" (defArgs sText) (defBody sText) (defScope sText) .none kV12 dc12 pm12 an12 cd12 ct12), sl12⟩)
    (c12 : PySem.W.codeIn K cd12 "read_text" = true)
    (k12 : PySem.W.keepIn K (.ref f12) = true)
    (a13 : PySem.W.nsIn K mainGlobals "is_batch" = some (some (.ref f13)))
    (l13 : K.lookup f13 = some ⟨oc13, od13, .func (PySem.W.fnOf "is_batch" "is_batch" (defArgs sBatch) (defBody sBatch) (defScope sBatch) .none kV13 dc13 pm13 an13 cd13 ct13), sl13⟩)
    (c13 : PySem.W.codeIn K cd13 "is_batch" = true)
    (k13 : PySem.W.keepIn K (.ref f13) = true)
    (a14 : PySem.W.nsIn K mainGlobals "read_batch" = some (some (.ref f14)))
    (l14 : K.lookup f14 = some ⟨oc14, od14, .func (PySem.W.fnOf "read_batch" "read_batch" (defArgs sRB) (defBody sRB) (defScope sRB) .none kV14 dc14 pm14 an14 cd14 ct14), sl14⟩)
    (c14 : PySem.W.codeIn K cd14 "read_batch" = true)
    (k14 : PySem.W.keepIn K (.ref f14) = true)
    (a15 : PySem.W.nsIn K mainGlobals "scaled" = some (some (.ref f15)))
    (l15 : K.lookup f15 = some ⟨oc15, od15, .func (PySem.W.fnOf "scaled" "scaled" (defArgs sScaled) (defBody sScaled) (defScope sScaled) .none kV15 dc15 pm15 an15 (.ref cS) ct15), sl15⟩)
    (c15 : PySem.W.codeIn K (.ref cS) "scaled" = true)
    (k15 : PySem.W.keepIn K (.ref f15) = true)
    (hcS : K.lookup cS = some ⟨eS, ddS, .fields vsS, slS⟩)
    (hvS : vsS[11]? = some (.ref PT))
    (nT : K.lookup PT = none)
    (a16 : PySem.W.nsIn K mainGlobals "extract_of" = some (some (.ref f16)))
    (l16 : K.lookup f16 = some ⟨oc16, od16, .func (PySem.W.fnOf "extract_of" "extract_of" (defArgs sExt) (defBody sExt) (defScope sExt) .none kV16 dc16 pm16 an16 cd16 ct16), sl16⟩)
    (c16 : PySem.W.codeIn K cd16 "extract_of" = true)
    (k16 : PySem.W.keepIn K (.ref f16) = true)
    (a17 : PySem.W.nsIn K mainGlobals "least_to_try" = some (some (.ref f17)))
    (l17 : K.lookup f17 = some ⟨oc17, od17, .func (PySem.W.fnOf "least_to_try" "least_to_try" (defArgs sLeast) (defBody sLeast) (defScope sLeast) .none kV17 dc17 pm17 an17 cd17 ct17), sl17⟩)
    (c17 : PySem.W.codeIn K cd17 "least_to_try" = true)
    (k17 : PySem.W.keepIn K (.ref f17) = true)
    (a18 : PySem.W.nsIn K mainGlobals "malt" = some (some (.ref f18)))
    (l18 : K.lookup f18 = some ⟨oc18, od18, .func (PySem.W.fnOf "malt" "malt" (defArgs sMalt) (defBody sMalt) (defScope sMalt) .none kV18 dc18 pm18 an18 cd18 ct18), sl18⟩)
    (c18 : PySem.W.codeIn K cd18 "malt" = true)
    (k18 : PySem.W.keepIn K (.ref f18) = true)
    (aC0 : PySem.W.nsIn K mainGlobals "Row" = some (some (.ref C0)))
    (a100 : PySem.W.findIn K (.ref C0) "__init__" = some (some (.ref f100)))
    (i100 : PySem.W.isFn K (.ref f100) = true)
    (l100 : K.lookup f100 = some ⟨oc100, od100, .func (PySem.W.fnOf "__init__" "Row.__init__" (defArgs sRowI) (defBody sRowI) (defScope sRowI) .none kV100 dc100 pm100 an100 cd100 ct100), sl100⟩)
    (c100 : PySem.W.codeIn K cd100 "Row.__init__" = true)
    (k100 : PySem.W.keepIn K (.ref f100) = true)
    (pg0 : PySem.W.plainGet K C0 Str.empty = true)
    (hd0 : PySem.W.hasDictIn K C0 = true)
    (po0 : PySem.W.plainOver K C0 = true)
    (sa0 : PySem.W.findIn K (.ref C0) "__setattr__" = some (some (.builtin "object.__setattr__")))
    (mk0 : PySem.W.makesIn K C0 = true)
    (kc0 : PySem.W.keepIn K (.ref C0) = true)
    (n0_0 : PySem.W.findIn K (.ref C0) "kind" = some none)
    (n0_1 : PySem.W.findIn K (.ref C0) "name" = some none)
    (n0_2 : PySem.W.findIn K (.ref C0) "numbers" = some none)
    (aC1 : PySem.W.nsIn K mainGlobals "Reading" = some (some (.ref C1)))
    (a101 : PySem.W.findIn K (.ref C1) "__init__" = some (some (.ref f101)))
    (i101 : PySem.W.isFn K (.ref f101) = true)
    (l101 : K.lookup f101 = some ⟨oc101, od101, .func (PySem.W.fnOf "__init__" "Reading.__init__" (defArgs sReaI) (defBody sReaI) (defScope sReaI) .none kV101 dc101 pm101 an101 cd101 ct101), sl101⟩)
    (c101 : PySem.W.codeIn K cd101 "Reading.__init__" = true)
    (k101 : PySem.W.keepIn K (.ref f101) = true)
    (pg1 : PySem.W.plainGet K C1 Str.empty = true)
    (hd1 : PySem.W.hasDictIn K C1 = true)
    (po1 : PySem.W.plainOver K C1 = true)
    (sa1 : PySem.W.findIn K (.ref C1) "__setattr__" = some (some (.builtin "object.__setattr__")))
    (mk1 : PySem.W.makesIn K C1 = true)
    (kc1 : PySem.W.keepIn K (.ref C1) = true)
    (n1_0 : PySem.W.findIn K (.ref C1) "rows" = some none)
    (n1_1 : PySem.W.findIn K (.ref C1) "refusal" = some none)
    (gi0 : PySem.W.nsIn K mainGlobals "MOST_BYTES" = some (some (.int 16384 ti0)))
    (gi1 : PySem.W.nsIn K mainGlobals "MOST_OF_A_KIND" = some (some (.int 16 ti1)))
    (gi2 : PySem.W.nsIn K mainGlobals "MOST_NAME_SIGNS" = some (some (.int 12 ti2)))
    (gi3 : PySem.W.nsIn K mainGlobals "MOST_DIGITS" = some (some (.int 6 ti3)))
    (gi4 : PySem.W.nsIn K mainGlobals "UNFORMED" = some (some (.int 1 ti4)))
    (gi5 : PySem.W.nsIn K mainGlobals "TOO_MUCH" = some (some (.int 2 ti5)))
    (gi6 : PySem.W.nsIn K mainGlobals "CANNOT_STAND" = some (some (.int 3 ti6)))
    (gi7 : PySem.W.nsIn K mainGlobals "CLASHES" = some (some (.int 4 ti7)))
    (gi8 : PySem.W.nsIn K mainGlobals "MINUTES" = some (some (.int 2 ti8)))
    (gi9 : PySem.W.nsIn K mainGlobals "PARTS" = some (some (.int 0 ti9)))
    (gi10 : PySem.W.nsIn K mainGlobals "EXTRACT" = some (some (.int 1 ti10)))
    (gi11 : PySem.W.nsIn K mainGlobals "MOST_ML" = some (some (.int 10000000 ti11)))
    (gi12 : PySem.W.nsIn K mainGlobals "MOST_GRAMS" = some (some (.int 10000000 ti12)))
    (gs0 : PySem.W.nsIn K mainGlobals "LETTERS" = some (some (.str "abcdefghijklmnopqrstuvwxyz" ts0)))
    (gs1 : PySem.W.nsIn K mainGlobals "DIGITS" = some (some (.str "0123456789" ts1)))
    (gs2 : PySem.W.nsIn K mainGlobals "OTHER" = some (some (.str "?" ts2)))
    (z0 : PySem.W.nsIn K mainGlobals "len" = some none)
    (z1 : PySem.W.nsIn K mainGlobals "ord" = some none)
    (z2 : PySem.W.nsIn K mainGlobals "int" = some none)
    (z3 : PySem.W.nsIn K mainGlobals "zip" = some none)
    (z4 : PySem.W.nsIn K mainGlobals "enumerate" = some none)
    (z5 : PySem.W.nsIn K mainGlobals "sum" = some none)
    (z6 : PySem.W.nsIn K mainGlobals "sorted" = some none)
    (z7 : PySem.W.nsIn K mainGlobals "range" = some none)
    (z8 : PySem.W.nsIn K mainGlobals "max" = some none)
    (z9 : PySem.W.nsIn K mainGlobals "abs" = some none)
    (gB : PySem.W.nsIn K mainGlobals "BOUNDS" = some (some (.ref dB)))
    (lB : K.lookup dB = some (dictObj #[ent w "recipe" Bt0 Ba0, ent w "malt" Bt1 Ba1, ent w "hop" Bt2 Ba2, ent w "add" Bt3 Ba3, ent w "yeast" Bt4 Ba4] nB))
    (gM : PySem.W.nsIn K mainGlobals "MAY_FOLLOW" = some (some (.ref dM)))
    (lM : K.lookup dM = some (dictObj #[ent w "recipe" Mt0 Ma0, ent w "malt" Mt1 Ma1, ent w "hop" Mt2 Ma2, ent w "add" Mt3 Ma3, ent w "yeast" Mt4 Ma4] nM))
    (hB0 : K.lookup Ba0 = some (tupObj Bo0 #[] Bn0 Bs0))
    (hB1 : K.lookup Ba1 = some (tupObj Bo1 #[.ref p1, .ref p2] Bn1 Bs1))
    (hB2 : K.lookup Ba2 = some (tupObj Bo2 #[.ref p3, .ref p4, .ref p5] Bn2 Bs2))
    (hB3 : K.lookup Ba3 = some (tupObj Bo3 #[.ref p6] Bn3 Bs3))
    (hB4 : K.lookup Ba4 = some (tupObj Bo4 #[.ref p7] Bn4 Bs4))
    (hP1 : K.lookup p1 = some (tupObj q1 #[.int 1 u1, .int 10000 v1] m1 r1))
    (hP2 : K.lookup p2 = some (tupObj q2 #[.int 1 u2, .int 850 v2] m2 r2))
    (hP3 : K.lookup p3 = some (tupObj q3 #[.int 1 u3, .int 10000 v3] m3 r3))
    (hP4 : K.lookup p4 = some (tupObj q4 #[.int 1 u4, .int 2500 v4] m4 r4))
    (hP5 : K.lookup p5 = some (tupObj q5 #[.int 0 u5, .int 120 v5] m5 r5))
    (hP6 : K.lookup p6 = some (tupObj q6 #[.int 1 u6, .int 100000 v6] m6 r6))
    (hP7 : K.lookup p7 = some (tupObj q7 #[.int 1 u7, .int 950 v7] m7 r7))
    (hM0 : K.lookup Ma0 = some (tupObj Mo0 #[.str "" y0] Mn0 Ms0))
    (hM1 : K.lookup Ma1 = some (tupObj Mo1 #[.str "recipe" y1, .str "malt" y2] Mn1 Ms1))
    (hM2 : K.lookup Ma2 = some (tupObj Mo2 #[.str "malt" y3, .str "hop" y4] Mn2 Ms2))
    (hM3 : K.lookup Ma3 = some (tupObj Mo3 #[.str "malt" y5, .str "hop" y6, .str "add" y7] Mn3 Ms3))
    (hM4 : K.lookup Ma4 = some (tupObj Mo4 #[.str "malt" y8, .str "hop" y9, .str "add" y10] Mn4 Ms4))
    (loB : (dB == sysModules) = false) (loM : (dM == sysModules) = false) :
    ∃ (fd : FuncData) (c PT : Addr), h.get? PT = some tab0 ∧ K.lookup PT = none ∧ PySem.W.CodeHd h c PT ∧ (∀ (s : Shared) (us : List Value), us.length = (["ml", "n", "d", "text"] : List Str).length → BindsTo s fd ⟨us, []⟩ ((["ml", "n", "d", "text"] : List Str).zip us)) ∧ ∀ base : Heap, K.In base → base.Ns mainGlobals mg → LamX.TabB base mg c PT → FnOk P w K mg base CX0 8 fa fd ["ml", "n", "d", "text"] (spMalt K PT) := by
  have e := hfa.symm.trans (PySem.W.mg_of X G a18)
  cases e
  have F0 := fun_mk (st := sSign) l0 c0 k0
  have b0 := F0.binds (ps := ["byte"]) fun _ _ _ _ _ _ us hl => match us, hl with | [_], _ => rfl
  have F1 := fun_mk (st := sSpell) l1 c1 k1
  have b1 := F1.binds (ps := ["text"]) fun _ _ _ _ _ _ us hl => match us, hl with | [_], _ => rfl
  have F2 := fun_mk (st := sMade) l2 c2 k2
  have b2 := F2.binds (ps := ["word", "signs"]) fun _ _ _ _ _ _ us hl => match us, hl with | [_, _], _ => rfl
  have F3 := fun_mk (st := sName) l3 c3 k3
  have b3 := F3.binds (ps := ["word"]) fun _ _ _ _ _ _ us hl => match us, hl with | [_], _ => rfl
  have F4 := fun_mk (st := sNum) l4 c4 k4
  have b4 := F4.binds (ps := ["word"]) fun _ _ _ _ _ _ us hl => match us, hl with | [_], _ => rfl
  have F5 := fun_mk (st := sNums) l5 c5 k5
  have b5 := F5.binds (ps := ["words", "kind"]) fun _ _ _ _ _ _ us hl => match us, hl with | [_, _], _ => rfl
  have F6 := fun_mk (st := sRow) l6 c6 k6
  have b6 := F6.binds (ps := ["signs"]) fun _ _ _ _ _ _ us hl => match us, hl with | [_], _ => rfl
  have F7 := fun_mk (st := sHopC) l7 c7 k7
  have b7 := F7.binds (ps := ["row", "earlier"]) fun _ _ _ _ _ _ us hl => match us, hl with | [_, _], _ => rfl
  have F8 := fun_mk (st := sClash) l8 c8 k8
  have b8 := F8.binds (ps := ["row", "earlier"]) fun _ _ _ _ _ _ us hl => match us, hl with | [_, _], _ => rfl
  have F9 := fun_mk (st := sWhy) l9 c9 k9
  have b9 := F9.binds (ps := ["row", "before", "earlier"]) fun _ _ _ _ _ _ us hl => match us, hl with | [_, _, _], _ => rfl
  have F10 := fun_mk (st := sWhyE) l10 c10 k10
  have b10 := F10.binds (ps := ["rest", "before"]) fun _ _ _ _ _ _ us hl => match us, hl with | [_, _], _ => rfl
  have F11 := fun_mk (st := sLines) l11 c11 k11
  have b11 := F11.binds (ps := ["reading", "text"]) fun _ _ _ _ _ _ us hl => match us, hl with | [_, _], _ => rfl
  have F12 := fun_mk (st := sText) l12 c12 k12
  have b12 := F12.binds (ps := ["text"]) fun _ _ _ _ _ _ us hl => match us, hl with | [_], _ => rfl
  have F13 := fun_mk (st := sBatch) l13 c13 k13
  have b13 := F13.binds (ps := ["ml", "malt", "hops", "reading"]) fun _ _ _ _ _ _ us hl => match us, hl with | [_, _, _, _], _ => rfl
  have F14 := fun_mk (st := sRB) l14 c14 k14
  have b14 := F14.binds (ps := ["ml", "malt", "hops", "text"]) fun _ _ _ _ _ _ us hl => match us, hl with | [_, _, _, _], _ => rfl
  have F15 := fun_mk (st := sScaled) l15 c15 k15
  have b15 := F15.binds (ps := ["rows", "weight"]) fun _ _ _ _ _ _ us hl => match us, hl with | [_, _], _ => rfl
  have F16 := fun_mk (st := sExt) l16 c16 k16
  have b16 := F16.binds (ps := ["rows", "weight"]) fun _ _ _ _ _ _ us hl => match us, hl with | [_, _], _ => rfl
  have F17 := fun_mk (st := sLeast) l17 c17 k17
  have b17 := F17.binds (ps := ["rows", "needed"]) fun _ _ _ _ _ _ us hl => match us, hl with | [_, _], _ => rfl
  have F18 := fun_mk (st := sMalt) l18 c18 k18
  have b18 := F18.binds (ps := ["ml", "n", "d", "text"]) fun _ _ _ _ _ _ us hl => match us, hl with | [_, _, _, _], _ => rfl
  have F100 := fun_mk (st := sRowI) l100 c100 k100
  have b100 := F100.binds (ps := ["self", "kind", "name", "numbers"]) fun _ _ _ _ _ _ us hl => match us, hl with | [_, _, _, _], _ => rfl
  have F101 := fun_mk (st := sReaI) l101 c101 k101
  have b101 := F101.binds (ps := ["self"]) fun _ _ _ _ _ _ us hl => match us, hl with | [_], _ => rfl
  have m_len := PySem.W.mg_none_of X G z0
  have m_ord := PySem.W.mg_none_of X G z1
  have m_int := PySem.W.mg_none_of X G z2
  have m_zip := PySem.W.mg_none_of X G z3
  have m_enumerate := PySem.W.mg_none_of X G z4
  have m_sum := PySem.W.mg_none_of X G z5
  have m_sorted := PySem.W.mg_none_of X G z6
  have m_range := PySem.W.mg_none_of X G z7
  have m_max := PySem.W.mg_none_of X G z8
  have m_abs := PySem.W.mg_none_of X G z9
  have c_MOST_BYTES := cn_int (PySem.W.mg_of X G gi0)
  have c_MOST_OF_A_KIND := cn_int (PySem.W.mg_of X G gi1)
  have c_MOST_NAME_SIGNS := cn_int (PySem.W.mg_of X G gi2)
  have c_MOST_DIGITS := cn_int (PySem.W.mg_of X G gi3)
  have c_UNFORMED := cn_int (PySem.W.mg_of X G gi4)
  have c_TOO_MUCH := cn_int (PySem.W.mg_of X G gi5)
  have c_CANNOT_STAND := cn_int (PySem.W.mg_of X G gi6)
  have c_CLASHES := cn_int (PySem.W.mg_of X G gi7)
  have c_MINUTES := cn_int (PySem.W.mg_of X G gi8)
  have c_PARTS := cn_int (PySem.W.mg_of X G gi9)
  have c_EXTRACT := cn_int (PySem.W.mg_of X G gi10)
  have c_MOST_ML := cn_int (PySem.W.mg_of X G gi11)
  have c_MOST_GRAMS := cn_int (PySem.W.mg_of X G gi12)
  have c_LETTERS := cn_str (PySem.W.mg_of X G gs0) S_let
  have c_DIGITS := cn_str (PySem.W.mg_of X G gs1) S_dig
  have c_OTHER := cn_str (PySem.W.mg_of X G gs2) S_q
  have TR : RowT K mg C0 := ⟨⟨pg0, hd0, po0, sa0⟩, n0_0, n0_1, n0_2, PySem.W.mg_of X G aC0⟩
  have TG : ReaT K mg C1 := ⟨⟨pg1, hd1, po1, sa1⟩, n1_0, n1_1, PySem.W.mg_of X G aC1⟩
  have B := mk_bnd (w := w) (PySem.W.mg_of X G gB) loB lB hB0 hB1 hB2 hB3 hB4 hP1 hP2 hP3 hP4 hP5 hP6 hP7
  have Y := mk_may (w := w) (PySem.W.mg_of X G gM) loM lM hM0 hM1 hM2 hM3 hM4
  obtain ⟨t0, t2⟩ := tab_of X tb hrec (PySem.W.mg_of X G a15) l15 rfl rfl hcS hvS
  refine ⟨PySem.W.fnOf "malt" "malt" (defArgs sMalt) (defBody sMalt) (defScope sMalt) .none kV18 dc18 pm18 an18 cd18 ct18, cS, PT, t0, nT, t2, fun s us hu => match us, hu with | [_, _, _, _], _ => .of_eq rfl, fun base _ _ TB => ?_⟩
  have D0 : Df P w K mg base 1 "sign_of" ["byte"] spSign f0 _ := ⟨PySem.W.mg_of X G a0, k0, b0, ok_sign F0 m_ord c_DIGITS c_LETTERS c_OTHER⟩
  have D1 : Df P w K mg base 2 "spell" ["text"] (spSpell K) f1 _ := ⟨PySem.W.mg_of X G a1, k1, b1, ok_spell F1 D0⟩
  have D2 : Df P w K mg base 1 "is_made_of" ["word", "signs"] spMade f2 _ := ⟨PySem.W.mg_of X G a2, k2, b2, ok_made F2⟩
  have D3 : Df P w K mg base 2 "is_name" ["word"] spName f3 _ := ⟨PySem.W.mg_of X G a3, k3, b3, ok_name F3 D2 m_len c_MOST_NAME_SIGNS c_DIGITS c_LETTERS⟩
  have D4 : Df P w K mg base 2 "is_number" ["word"] spNum f4 _ := ⟨PySem.W.mg_of X G a4, k4, b4, ok_num F4 D2 m_len c_MOST_DIGITS c_DIGITS⟩
  have D5 : Df P w K mg base 3 "numbers_in" ["words", "kind"] (spNums K) f5 _ := ⟨PySem.W.mg_of X G a5, k5, b5, ok_nums F5 D4 B m_zip m_int⟩
  have I0 : FnOk P w K mg base CX0 1 f100 _ ["self", "kind", "name", "numbers"] (spRowI C0) := ok_rowI F100 TR
  have I1 : FnOk P w K mg base CX0 1 f101 _ ["self"] (spReaI C0 C1) := ok_reaI F101 TG
  have D6 : Df P w K mg base 4 "row_of" ["signs"] (spRow C0) f6 _ := ⟨PySem.W.mg_of X G a6, k6, b6, ok_row F6 D3 D5 B TR ⟨mk0, a100, i100, kc0⟩ b100 I0 m_len⟩
  have D7 : Df P w K mg base 1 "hop_clashes" ["row", "earlier"] (spHopC C0) f7 _ := ⟨PySem.W.mg_of X G a7, k7, b7, ok_hopC F7 TR m_len c_MINUTES⟩
  have D8 : Df P w K mg base 2 "clashes" ["row", "earlier"] (spClash C0) f8 _ := ⟨PySem.W.mg_of X G a8, k8, b8, ok_clash F8 D7 TR⟩
  have D9 : Df P w K mg base 3 "why_wrong" ["row", "before", "earlier"] (spWhy C0) f9 _ := ⟨PySem.W.mg_of X G a9, k9, b9, ok_why F9 D8 TR Y m_len c_UNFORMED c_CANNOT_STAND c_CLASHES c_TOO_MUCH c_MOST_OF_A_KIND⟩
  have D10 : Df P w K mg base 1 "why_wrong_at_end" ["rest", "before"] spWhyE f10 _ := ⟨PySem.W.mg_of X G a10, k10, b10, ok_whyE F10 c_UNFORMED c_CANNOT_STAND⟩
  have D11 : Df P w K mg base 5 "read_lines" ["reading", "text"] (spLines K C0 C1) f11 _ := ⟨PySem.W.mg_of X G a11, k11, b11, ok_lines F11 D1 D6 D9 D10 TR TG m_len m_enumerate⟩
  have D12 : Df P w K mg base 6 "read_text" ["text"] (spText K C0 C1) f12 _ := ⟨PySem.W.mg_of X G a12, k12, b12, ok_text F12 D11 TG ⟨mk1, a101, i101, kc1⟩ b101 I1 m_len c_MOST_BYTES⟩
  have D13 : Df P w K mg base 1 "is_batch" ["ml", "malt", "hops", "reading"] (spBatch C0 C1) f13 _ := ⟨PySem.W.mg_of X G a13, k13, b13, ok_batch F13 TG m_len c_MOST_ML c_MOST_GRAMS⟩
  have D14 : Df P w K mg base 7 "read_batch" ["ml", "malt", "hops", "text"] (spRB K C0 C1) f14 _ := ⟨PySem.W.mg_of X G a14, k14, b14, ok_RB F14 D12 D13 TG m_len⟩
  have D15 : Df P w K mg base 4 "scaled" ["rows", "weight"] (spScaled C0 PT) f15 _ := ⟨PySem.W.mg_of X G a15, k15, b15, ok_scaled l15 c15 TB TR m_len m_sum m_sorted m_range c_PARTS⟩
  have D16 : Df P w K mg base 5 "extract_of" ["rows", "weight"] (spExt C0 PT) f16 _ := ⟨PySem.W.mg_of X G a16, k16, b16, ok_ext F16 D15 TR m_zip m_sum c_EXTRACT⟩
  have D17 : Df P w K mg base 1 "least_to_try" ["rows", "needed"] (spLeast C0) f17 _ := ⟨PySem.W.mg_of X G a17, k17, b17, ok_least F17 TR m_len m_sum m_sorted m_max m_abs c_EXTRACT c_PARTS⟩
  exact ok_malt F18 D14 D16 D17 TG m_len m_range c_MOST_GRAMS
end My
open PySem PySem.W PyProof.Rows
set_option maxRecDepth 100000 in
set_option maxHeartbeats 8000000 in
theorem PySem.Challenge.cw_brewrecipes_s07_malt_holds : PySem.Challenge.rw_brewrecipes_s07_malt.Holds := by
  w_on; k_headS; (case hw => exact ⟨[.int 0, .int 0, .int 0, .list []], by decide +kernel, by decide +kernel⟩)
  k_fillS
  refine My.walkT (r := PySem.Challenge.rw_brewrecipes_s07_malt) (k := 8) (ps := ["ml", "n", "d", "text"]) (sp := My.spMalt) (by decide +kernel) rfl rfl ⟨rfl, by decide, by decide⟩ (fun w h Y => PySem.W.kIn_of Y) ?F ?S
  case F =>
    intro w mg fa h Y KX G hmg tb
    refine' My.all_mk (w := w) KX G hmg tb (by decide +kernel) ?a0 ?l0 ?c0 ?k0 ?a1 ?l1 ?c1 ?k1 ?a2 ?l2 ?c2 ?k2 ?a3 ?l3 ?c3 ?k3 ?a4 ?l4 ?c4 ?k4 ?a5 ?l5 ?c5 ?k5 ?a6 ?l6 ?c6 ?k6 ?a7 ?l7 ?c7 ?k7 ?a8 ?l8 ?c8 ?k8 ?a9 ?l9 ?c9 ?k9 ?a10 ?l10 ?c10 ?k10 ?a11 ?l11 ?c11 ?k11 ?a12 ?l12 ?c12 ?k12 ?a13 ?l13 ?c13 ?k13 ?a14 ?l14 ?c14 ?k14 ?a15 ?l15 ?c15 ?k15 ?hcS ?hvS ?nT ?a16 ?l16 ?c16 ?k16 ?a17 ?l17 ?c17 ?k17 ?a18 ?l18 ?c18 ?k18 ?aC0 ?a100 ?i100 ?l100 ?c100 ?k100 ?pg0 ?hd0 ?po0 ?sa0 ?mk0 ?kc0 ?n0_0 ?n0_1 ?n0_2 ?aC1 ?a101 ?i101 ?l101 ?c101 ?k101 ?pg1 ?hd1 ?po1 ?sa1 ?mk1 ?kc1 ?n1_0 ?n1_1 ?gi0 ?gi1 ?gi2 ?gi3 ?gi4 ?gi5 ?gi6 ?gi7 ?gi8 ?gi9 ?gi10 ?gi11 ?gi12 ?gs0 ?gs1 ?gs2 ?z0 ?z1 ?z2 ?z3 ?z4 ?z5 ?z6 ?z7 ?z8 ?z9 ?gB ?lB ?gM ?lM ?hB0 ?hB1 ?hB2 ?hB3 ?hB4 ?hP1 ?hP2 ?hP3 ?hP4 ?hP5 ?hP6 ?hP7 ?hM0 ?hM1 ?hM2 ?hM3 ?hM4 ?loB ?loM
    (case a0 => k_is)
    (case l0 => k_is)
    (case c0 => k_is)
    (case k0 => k_is)
    (case a1 => k_is)
    (case l1 => k_is)
    (case c1 => k_is)
    (case k1 => k_is)
    (case a2 => k_is)
    (case l2 => k_is)
    (case c2 => k_is)
    (case k2 => k_is)
    (case a3 => k_is)
    (case l3 => k_is)
    (case c3 => k_is)
    (case k3 => k_is)
    (case a4 => k_is)
    (case l4 => k_is)
    (case c4 => k_is)
    (case k4 => k_is)
    (case a5 => k_is)
    (case l5 => k_is)
    (case c5 => k_is)
    (case k5 => k_is)
    (case a6 => k_is)
    (case l6 => k_is)
    (case c6 => k_is)
    (case k6 => k_is)
    (case a7 => k_is)
    (case l7 => k_is)
    (case c7 => k_is)
    (case k7 => k_is)
    (case a8 => k_is)
    (case l8 => k_is)
    (case c8 => k_is)
    (case k8 => k_is)
    (case a9 => k_is)
    (case l9 => k_is)
    (case c9 => k_is)
    (case k9 => k_is)
    (case a10 => k_is)
    (case l10 => k_is)
    (case c10 => k_is)
    (case k10 => k_is)
    (case a11 => k_is)
    (case l11 => k_is)
    (case c11 => k_is)
    (case k11 => k_is)
    (case a12 => k_is)
    (case l12 => k_is)
    (case c12 => k_is)
    (case k12 => k_is)
    (case a13 => k_is)
    (case l13 => k_is)
    (case c13 => k_is)
    (case k13 => k_is)
    (case a14 => k_is)
    (case l14 => k_is)
    (case c14 => k_is)
    (case k14 => k_is)
    (case a15 => k_is)
    (case l15 => k_is)
    (case c15 => k_is)
    (case k15 => k_is)
    (case hcS => k_is)
    (case hvS => rfl)
    (case nT => first | k_is | rfl)
    (case a16 => k_is)
    (case l16 => k_is)
    (case c16 => k_is)
    (case k16 => k_is)
    (case a17 => k_is)
    (case l17 => k_is)
    (case c17 => k_is)
    (case k17 => k_is)
    (case a18 => k_is)
    (case l18 => k_is)
    (case c18 => k_is)
    (case k18 => k_is)
    (case aC0 => k_is)
    (case a100 => k_is)
    (case i100 => k_is)
    (case l100 => k_is)
    (case c100 => k_is)
    (case k100 => k_is)
    (case pg0 => k_is)
    (case hd0 => k_is)
    (case po0 => k_is)
    (case sa0 => k_is)
    (case mk0 => k_is)
    (case kc0 => k_is)
    (case n0_0 => k_is)
    (case n0_1 => k_is)
    (case n0_2 => k_is)
    (case aC1 => k_is)
    (case a101 => k_is)
    (case i101 => k_is)
    (case l101 => k_is)
    (case c101 => k_is)
    (case k101 => k_is)
    (case pg1 => k_is)
    (case hd1 => k_is)
    (case po1 => k_is)
    (case sa1 => k_is)
    (case mk1 => k_is)
    (case kc1 => k_is)
    (case n1_0 => k_is)
    (case n1_1 => k_is)
    (case gi0 => k_is)
    (case gi1 => k_is)
    (case gi2 => k_is)
    (case gi3 => k_is)
    (case gi4 => k_is)
    (case gi5 => k_is)
    (case gi6 => k_is)
    (case gi7 => k_is)
    (case gi8 => k_is)
    (case gi9 => k_is)
    (case gi10 => k_is)
    (case gi11 => k_is)
    (case gi12 => k_is)
    (case gs0 => k_is)
    (case gs1 => k_is)
    (case gs2 => k_is)
    (case z0 => k_is)
    (case z1 => k_is)
    (case z2 => k_is)
    (case z3 => k_is)
    (case z4 => k_is)
    (case z5 => k_is)
    (case z6 => k_is)
    (case z7 => k_is)
    (case z8 => k_is)
    (case z9 => k_is)
    (case gB => k_is)
    (case lB => k_is)
    (case gM => k_is)
    (case lM => k_is)
    (case hB0 => k_is)
    (case hB1 => k_is)
    (case hB2 => k_is)
    (case hB3 => k_is)
    (case hB4 => k_is)
    (case hP1 => k_is)
    (case hP2 => k_is)
    (case hP3 => k_is)
    (case hP4 => k_is)
    (case hP5 => k_is)
    (case hP6 => k_is)
    (case hP7 => k_is)
    (case hM0 => k_is)
    (case hM1 => k_is)
    (case hM2 => k_is)
    (case hM3 => k_is)
    (case hM4 => k_is)
    (case loB => first | rfl | decide)
    (case loM => first | rfl | decide)
  case S =>
    intro K PT H xs a hP hwi hask hx
    cases hx with
    | cons h0 hx =>
      cases h0
      cases hx with
      | cons h1 hx =>
        cases h1
        cases hx with
        | cons h2 hx =>
          cases h2
          cases hx with
          | cons h1 h2 =>
            cases h2
            cases h1 with
            | lst hs ha =>
              have e := L2.ints_dw a.2.2.2.1 _ ha
              subst e
              have q : (Codec.inInt 0 4294967295 a.1 && (Codec.inInt 0 4294967295 a.2.1 && (Codec.inInt 0 4294967295 a.2.2.1 && ((Codec.inLen 0 40000 a.2.2.2.1 && a.2.2.2.1.all (Codec.inInt 0 255)) && true)))) = true := hwi
              rw [Bool.and_eq_true, Bool.and_eq_true, Bool.and_eq_true, Bool.and_eq_true, Bool.and_eq_true] at q
              exact ⟨a.1, a.2.1, a.2.2.1, _, a.2.2.2.1, rfl, Codec.inInt_iff.mp q.1, Codec.inInt_iff.mp q.2.1, Codec.inInt_iff.mp q.2.2.1, hs, (Codec.inNat_iff.mp q.2.2.2.1.1).2, fun x hx => Codec.inInt_iff.mp (List.all_eq_true.mp q.2.2.2.1.2 x hx), hP, fun H' p hp => .lst (L2.SqL.of hp) (L2.dw_ints _)⟩

