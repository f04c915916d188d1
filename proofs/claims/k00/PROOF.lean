import PyProof.Rows.All
import Wide.All
import OpenK.AllK
import Wide.FinOn
import HandS.ForMost
import HandS.ForExc
import HandS.Exc
import HandS.ExcInit
import HandS.ExcField
import HandS.StrMore
import HandS.IsInst
import HandS.NoneIn
import HandS.Style
import HandS.CallSlots
import HandS.TupAny
import KE.KExcSuper
import PySem.Challenge.RW_fascicle_k00_tokens
import HandS.ExcSuper
import PyProof.ReprRoads
import PyProof.ReprLen
import KE.RegKSuper
set_option maxRecDepth 100000
namespace Lx
def LET : List Nat := [97,98,99,100,101,102,103,104,105,106,107,108,109,110,111,112,113,114,115,116,117,118,119,120,121,122,65,66,67,68,69,70,71,72,73,74,75,76,77,78,79,80,81,82,83,84,85,86,87,88,89,90]
def WCH : List Nat := LET ++ [95,48,49,50,51,52,53,54,55,56,57]
def isL (c : Nat) : Bool := decide (c ∈ LET)
def isW (c : Nat) : Bool := decide (c ∈ WCH)
def isB (c : Nat) : Bool := decide (c ∈ [32, 9, 10])
def isD (c : Nat) : Bool := decide (48 ≤ c) && decide (c ≤ 57)
/-- reserved words, signs -/
def RES : List (List Nat) := (["and", "as", "ask", "catch", "else", "export", "false", "from", "fun", "if"].map fun s => s.toList.map Char.toNat) ++
  [105,109,112,111,114,116] :: ["let", "none", "not", "or", "repeat", "return", "tell", "throw", "true", "try"].map fun s => s.toList.map Char.toNat
def SGN : List (List Nat) := [[61,61],[61],[60],[43],[45],[42],[46],[44],[59],[40],[41],[123],[125]]
def kW : List Nat := [119,111,114,100]
def kN : List Nat := [110,97,109,101]
def kI : List Nat := [110,117,109,98,101,114]
def kS : List Nat := [115,116,114,105,110,103]
def kG : List Nat := [115,105,103,110]
def wd (l : List Nat) : List Nat := l.takeWhile isW
/-- how many signs from here on a gap takes; true: within a comment -/
def gap : Bool → List Nat → Nat
  | _, [] => 0
  | false, c :: r => if c = 35 then gap true r + 1 else if isB c then gap false r + 1 else 0
  | true, c :: r => if c = 10 then gap false r + 1 else gap true r + 1
def dv (l : List Nat) : Nat := l.foldl (fun a c => a * 10 + (c - 48)) 0
abbrev Tv := Sum (List Nat) Nat
def tok (l : List Nat) : Option (List Nat × Tv) × Nat :=
  match l with
  | [] => (none, 0)
  | c :: r =>
    if isL c then
      (if wd (c :: r) ∈ RES then some (kW, .inl (wd (c :: r))) else if (wd (c :: r)).length ≤ 20 then some (kN, .inl (wd (c :: r))) else none, (wd (c :: r)).length)
    else if isW c then
      (if !(wd (c :: r)).all isD || decide (5 < (wd (c :: r)).length) then none else if c = 48 ∧ wd (c :: r) ≠ [48] then none else if 65535 < dv (wd (c :: r)) then none
        else some (kI, .inr (dv (wd (c :: r)))), (wd (c :: r)).length)
    else if c = 34 then
      (if wd r = [] ∨ 20 < (wd r).length ∨ (r.drop (wd r).length).head? ≠ some 34 then (none, (wd r).length + 1) else (some (kS, .inl (wd r)), (wd r).length + 2))
    else match SGN.find? (fun s => s.isPrefixOf (c :: r)) with
      | some s => (some (kG, .inl s), s.length)
      | none => (none, 0)
structure Tk where
  k : List Nat
  v : Tv
  i : Nat
/-- reading on at i, where the rest is l -/
inductive Lex : Nat → List Nat → List Tk → Option Nat → Prop where
  | done (i : Nat) : Lex i [] [] none
  | bad {i : Nat} {l : List Nat} (h0 : l ≠ []) (h : (tok l).1 = none) : Lex i l [] (some i)
  | more {i n g : Nat} {l : List Nat} {k : List Nat} {v : Tv} {ts : List Tk} {b : Option Nat} (h0 : l ≠ []) (h : tok l = (some (k, v), n)) (hg : gap false (l.drop n) = g) (r : Lex (i + n + g) (l.drop (n + g)) ts b) :
    Lex i l (⟨k, v, i⟩ :: ts) b
theorem gap_le : ∀ (b : Bool) (l : List Nat), gap b l ≤ l.length
  | _, [] => by cases ‹Bool› <;> simp [gap]
  | false, c :: r => by
    have h1 := gap_le true r
    have h2 := gap_le false r
    unfold gap
    simp only [List.length_cons]
    split
    · omega
    · split <;> omega
  | true, c :: r => by
    have h1 := gap_le true r
    have h2 := gap_le false r
    unfold gap
    simp only [List.length_cons]
    split <;> omega
theorem tw_append {p : Nat → Bool} {w : List Nat} {b : Nat} {X : List Nat} (h : ∀ c ∈ w, p c = true) (hb : p b = false) : (w ++ b :: X).takeWhile p = w := by
  induction w with
  | nil => simp [List.takeWhile, hb]
  | cons a w ih =>
    have ha := h a (List.mem_cons_self ..)
    rw [List.cons_append, List.takeWhile_cons, if_pos ha, ih fun c hc => h c (List.mem_cons_of_mem _ hc)]
theorem wd_append {w : List Nat} {b : Nat} {X : List Nat} (h : ∀ c ∈ w, isW c = true) (hb : isW b = false) : wd (w ++ b :: X) = w := tw_append h hb
theorem b_notW {b : Nat} (h : isB b = true) : isW b = false := by
  have h' : b ∈ [32, 9, 10] := of_decide_eq_true h
  simp only [List.mem_cons, List.not_mem_nil, or_false] at h'
  rcases h' with rfl | rfl | rfl <;> decide
theorem L_W {c : Nat} (h : isL c = true) : isW c = true := by
  have h' : c ∈ LET := of_decide_eq_true h
  exact decide_eq_true (List.mem_append_left _ h')
/-- a sign of a word begins no gap -/
theorem W_plain {c : Nat} (h : isW c = true) : c ≠ 35 ∧ isB c = false := by
  have h' : c ∈ WCH := of_decide_eq_true h
  have key : ∀ x ∈ WCH, x ≠ 35 ∧ isB x = false := by decide
  exact key c h'
/-- a letter first, then letters, digits and underscores; at most 20 -/
structure Wd (w : List Nat) : Prop where
  ne : w ≠ []
  hd : ∀ c r, w = c :: r → isL c = true
  all : ∀ c ∈ w, isW c = true
  len : w.length ≤ 20
def isName (w : List Nat) : Prop := Wd w ∧ w ∉ RES
/-- what a drawn token is: its kind, its value, how it is shown -/
structure TokOk (k : List Nat) (v : Tv) (sh : List Nat) : Prop where
  ne : sh ≠ []
  len : sh.length ≤ 22
  gap0 : ∀ X, gap false (sh ++ X) = 0
  tok : ∀ b X, isB b = true → tok (sh ++ b :: X) = (some (k, v), sh.length)
  kinds : k = kW ∨ k = kN ∨ k = kI ∨ k = kS ∨ k = kG
  vals : (∃ w, v = .inl w ∧ w.length ≤ 20 ∧ ∀ c ∈ w, c < 128) ∨ ∃ n, v = .inr n ∧ n < 65536
  word : (k = kW ∨ k = kN) → ∃ w, v = .inl w ∧ Wd w ∧ (w ∈ RES ↔ k = kW)
theorem gap0_W {c : Nat} {r X : List Nat} (h : isW c = true) : gap false ((c :: r) ++ X) = 0 := by
  obtain ⟨h1, h2⟩ := W_plain h
  rw [List.cons_append]
  unfold gap
  rw [if_neg h1, h2]
  simp
theorem res_wd : ∀ w ∈ RES, Wd w := by
  have key : ∀ w ∈ RES, w ≠ [] ∧ (∀ c ∈ w.take 1, isL c = true) ∧ (∀ c ∈ w, isW c = true) ∧ w.length ≤ 20 := by decide
  intro w h
  obtain ⟨a, b, c, d⟩ := key w h
  exact ⟨a, fun c r e => b c (by rw [e]; simp), c, d⟩
theorem W_128 {c : Nat} (h : isW c = true) : c < 128 := by
  have h' : c ∈ WCH := of_decide_eq_true h
  have key : ∀ x ∈ WCH, x < 128 := by decide
  exact key c h'
theorem tok_word {w : List Nat} (W : Wd w) {b : Nat} {X : List Nat} (hb : isB b = true) : tok (w ++ b :: X) = (some (if w ∈ RES then (kW, .inl w) else (kN, .inl w)), w.length) := by
  have e := wd_append (X := X) W.all (b_notW hb)
  cases hw : w with
  | nil => exact absurd hw W.ne
  | cons c r =>
    have hc := W.hd c r hw
    rw [hw] at e
    rw [List.cons_append] at e ⊢
    unfold tok
    simp only [e, hc, if_true]
    have hl := W.len
    rw [hw] at hl
    by_cases hr : c :: r ∈ RES
    · simp [hr]
    · simp only [hr, hl, if_true, if_false]
theorem ok_reserved {w : List Nat} (h : w ∈ RES) : TokOk kW (.inl w) w := by
  have W := res_wd w h
  refine ⟨W.ne, by have := W.len; omega, fun X => ?_, fun b X hb => ?_, .inl rfl, .inl ⟨w, rfl, W.len, fun c hc => W_128 (W.all c hc)⟩, fun _ => ⟨w, rfl, W, ⟨fun _ => rfl, fun _ => h⟩⟩⟩
  · cases hw : w with
    | nil => exact absurd hw W.ne
    | cons c r => exact gap0_W (L_W (W.hd c r hw))
  · rw [tok_word W hb, if_pos h]
theorem ok_name {w : List Nat} (W : Wd w) (h : w ∉ RES) : TokOk kN (.inl w) w := by
  refine ⟨W.ne, by have := W.len; omega, fun X => ?_, fun b X hb => ?_, .inr (.inl rfl), .inl ⟨w, rfl, W.len, fun c hc => W_128 (W.all c hc)⟩, fun _ => ⟨w, rfl, W, ⟨fun z => absurd z h, fun z => absurd z (by decide)⟩⟩⟩
  · cases hw : w with
    | nil => exact absurd hw W.ne
    | cons c r => exact gap0_W (L_W (W.hd c r hw))
  · rw [tok_word W hb, if_neg h]
theorem ok_string {w : List Nat} (W : Wd w) : TokOk kS (.inl w) (34 :: (w ++ [34])) := by
  refine ⟨by simp, by have := W.len; simp; omega, fun X => ?_, fun b X hb => ?_, .inr (.inr (.inr (.inl rfl))), .inl ⟨w, rfl, W.len, fun c hc => W_128 (W.all c hc)⟩, fun z => by rcases z with z | z <;> exact absurd z (by decide)⟩
  · rw [List.cons_append]
    unfold gap
    simp [isB]
  · have hl := W.len
    have e : wd (w ++ 34 :: (b :: X)) = w := wd_append W.all (by decide)
    have e' : (w ++ [34]) ++ b :: X = w ++ 34 :: (b :: X) := by simp
    rw [List.cons_append, e']
    unfold tok
    have n1 : isL 34 = false := by decide
    have n2 : isW 34 = false := by decide
    simp only [n1, n2, e, Bool.false_eq_true, if_false, if_true]
    have hd : ((w ++ 34 :: (b :: X)).drop w.length).head? = some 34 := by rw [List.drop_left]; rfl
    rw [if_neg (by
      rintro (z | z | z)
      · exact W.ne z
      · omega
      · exact z hd)]
    simp
theorem ok_sign {s : List Nat} (h : s ∈ SGN) : TokOk kG (.inl s) s := by
  have key : ∀ s ∈ SGN, s ≠ [] ∧ s.length ≤ 2 ∧ (∀ c ∈ s, c < 128) := by decide
  obtain ⟨k1, k2, k3⟩ := key s h
  refine ⟨k1, by omega, fun X => ?_, fun b X hb => ?_, .inr (.inr (.inr (.inr rfl))), .inl ⟨s, rfl, by omega, k3⟩, fun z => by rcases z with z | z <;> exact absurd z (by decide)⟩
  · simp only [SGN, List.mem_cons, List.not_mem_nil, or_false] at h
    rcases h with rfl | rfl | rfl | rfl | rfl | rfl | rfl | rfl | rfl | rfl | rfl | rfl | rfl <;> simp [gap, isB]
  · have h' : b ∈ [32, 9, 10] := of_decide_eq_true hb
    simp only [List.mem_cons, List.not_mem_nil, or_false] at h'
    simp only [SGN, List.mem_cons, List.not_mem_nil, or_false] at h
    rcases h with rfl | rfl | rfl | rfl | rfl | rfl | rfl | rfl | rfl | rfl | rfl | rfl | rfl <;> rcases h' with rfl | rfl | rfl <;> simp [tok, isL, isW, LET, WCH, SGN, List.isPrefixOf, List.find?]
/-- a number's digits -/
structure Nm (n : Nat) (l : List Nat) : Prop where
  ne : l ≠ []
  all : ∀ c ∈ l, isD c = true
  len : l.length ≤ 5
  zero : ∀ r, l = 48 :: r → r = []
  val : dv l = n
  le : n < 65536
theorem D_W {c : Nat} (h : isD c = true) : isW c = true ∧ isL c = false := by
  unfold isD at h
  have h1 : 48 ≤ c ∧ c ≤ 57 := by
    simp only [Bool.and_eq_true, decide_eq_true_eq] at h
    exact h
  have key : ∀ d, d < 58 → 48 ≤ d → isW d = true ∧ isL d = false := by decide
  exact key c (by omega) h1.1
theorem ok_number {n : Nat} {l : List Nat} (N : Nm n l) : TokOk kI (.inr n) l := by
  have hw : ∀ c ∈ l, isW c = true := fun c hc => (D_W (N.all c hc)).1
  refine ⟨N.ne, by have := N.len; omega, fun X => ?_, fun b X hb => ?_, .inr (.inr (.inl rfl)), .inr ⟨n, rfl, N.le⟩, fun z => by rcases z with z | z <;> exact absurd z (by decide)⟩
  · cases hl : l with
    | nil => exact absurd hl N.ne
    | cons c r => exact gap0_W (hw c (by rw [hl]; exact List.mem_cons_self ..))
  · have e := wd_append (X := X) hw (b_notW hb)
    have hall : l.all isD = true := List.all_eq_true.mpr N.all
    have hlen := N.len
    have hv := N.val
    have hle := N.le
    cases hl : l with
    | nil => exact absurd hl N.ne
    | cons c r =>
      have hz := N.zero r
      obtain ⟨c1, c2⟩ := D_W (N.all c (by rw [hl]; exact List.mem_cons_self ..))
      rw [hl] at e hall hlen hv hz
      rw [List.cons_append] at e ⊢
      unfold tok
      simp only [e, c1, c2, hall, hv, Bool.false_eq_true, if_false, if_true, Bool.not_true, Bool.false_or]
      rw [if_neg (by simp only [decide_eq_true_eq]; omega), if_neg (by
        rintro ⟨rfl, z⟩
        exact z (by rw [hz rfl])), if_neg (by omega)]
/-- what stands between two tokens -/
structure SpOk (s : List Nat) : Prop where
  hd : ∃ b r, s = b :: r ∧ isB b = true
  gap : ∀ X, gap false (s ++ X) = s.length + gap false X
  len : s.length ≤ 10
def SPC : List (List Nat) := [" ", "\n", "\t", "  ", " # == fun\n", "\n\n"].map fun s => s.toList.map Char.toNat
theorem ok_space {s : List Nat} (h : s ∈ SPC) : SpOk s := by
  have e : SPC = [[32], [10], [9], [32, 32], [32, 35, 32, 61, 61, 32, 102, 117, 110, 10], [10, 10]] := by decide
  rw [e] at h
  simp only [List.mem_cons, List.not_mem_nil, or_false] at h
  rcases h with rfl | rfl | rfl | rfl | rfl | rfl
  all_goals refine ⟨⟨_, _, rfl, by decide⟩, fun X => ?_, by decide⟩
  all_goals simp [gap, isB]
  all_goals omega
def BADS : List (List Nat) := ["@", "65536", "01", "7a", "\"", "\"a", "\"\"", "aaaaaaaaaaaaaaaaaaaaa", "!", "\"bbbbbbbbbbbbbbbbbbbbb\"", "\"a b\"", "$"].map fun s => s.toList.map Char.toNat
theorem ok_bad {s : List Nat} (h : s ∈ BADS) : s ≠ [] ∧ s.length ≤ 23 ∧ gap false (s ++ [32, 120]) = 0 ∧ (tok (s ++ [32, 120])).1 = none := by
  have key : ∀ s ∈ BADS, s ≠ [] ∧ s.length ≤ 23 ∧ gap false (s ++ [32, 120]) = 0 ∧ (tok (s ++ [32, 120])).1 = none := by decide +kernel
  exact key s h
/-- a text so far: whatever is read on behind it, its tokens come first -/
structure Pre (ts : List Tk) (l : List Nat) : Prop where
  go : ∀ R tl b, gap false R = 0 → Lex l.length R tl b → Lex (gap false (l ++ R)) ((l ++ R).drop (gap false (l ++ R))) (ts ++ tl) b
  at0 : ∀ R, gap false R = 0 → gap false (l ++ R) = 0
theorem pre_nil : Pre [] [] := ⟨fun R tl b h x => by
  simp only [List.nil_append, h]
  exact x, fun R h => h⟩
theorem pre_more {ts : List Tk} {l k sh sp : List Nat} {v : Tv} (P : Pre ts l) (T : TokOk k v sh) (S : SpOk sp) : Pre (ts ++ [⟨k, v, l.length⟩]) (l ++ sh ++ sp) := by
  have e0 : ∀ R, l ++ sh ++ sp ++ R = l ++ (sh ++ (sp ++ R)) := fun R => by simp
  refine ⟨fun R tl b h x => ?_, fun R h => ?_⟩
  · obtain ⟨c, r, ec, hc⟩ := S.hd
    have e1 : tok (sh ++ (sp ++ R)) = (some (k, v), sh.length) := by
      rw [ec, List.cons_append]
      exact T.tok c _ hc
    have e2 : gap false (sp ++ R) = sp.length := by
      have z := S.gap R
      omega
    have d1 : (sh ++ (sp ++ R)).drop sh.length = sp ++ R := List.drop_left
    have d2 : (sh ++ (sp ++ R)).drop (sh.length + sp.length) = R := by
      rw [← List.drop_drop, d1, List.drop_left]
    have y : Lex l.length (sh ++ (sp ++ R)) (⟨k, v, l.length⟩ :: tl) b := by
      refine .more (n := sh.length) (g := sp.length) ?_ e1 (by rw [d1]; exact e2) ?_
      · intro z
        exact T.ne (List.append_eq_nil_iff.mp z).1
      · rw [d2]
        have e3 : l.length + sh.length + sp.length = (l ++ sh ++ sp).length := by simp; omega
        rw [e3]
        exact x
    have w := P.go _ _ b (T.gap0 _) y
    rw [e0, List.append_assoc]
    exact w
  · rw [e0]
    exact P.at0 _ (T.gap0 _)
theorem pre_all {ts : List Tk} {l : List Nat} (P : Pre ts l) : Lex (gap false l) (l.drop (gap false l)) ts none := by
  have w := P.go [] [] none (by simp [gap]) (.done _)
  simpa using w
theorem pre_bad {ts : List Tk} {l bad : List Nat} (P : Pre ts l) (h : bad ∈ BADS) : Lex (gap false (l ++ (bad ++ [32, 120]))) ((l ++ (bad ++ [32, 120])).drop (gap false (l ++ (bad ++ [32, 120])))) ts (some l.length) := by
  obtain ⟨h1, _, h2, h3⟩ := ok_bad h
  have w := P.go (bad ++ [32, 120]) [] (some l.length) h2 (.bad (by intro z; exact h1 (List.append_eq_nil_iff.mp z).1) h3)
  rw [List.append_nil] at w
  exact w
end Lx

set_option Elab.async false
set_option linter.all false
set_option maxRecDepth 100000
namespace Tk
open PySem L2 Lx
def top (i : Nat) : Stmt := PySem.Challenge.pw_fascicle_k00_tokens.main.body.getD i (.Pass ⟨0, 0, 0, 0⟩)
abbrev sTokens : Stmt := top 13
abbrev sIsName : Stmt := top 14
abbrev sFits : Stmt := top 15
abbrev sGap : Stmt := top 16
abbrev sCom : Stmt := top 17
abbrev sWend : Stmt := top 18
abbrev sTokAt : Stmt := top 19
abbrev sWordAt : Stmt := top 20
abbrev sNumAt : Stmt := top 21
abbrev sStrAt : Stmt := top 22
abbrev sSignAt : Stmt := top 23
abbrev sCell : Stmt := top 25
abbrev sWord : Stmt := top 26
abbrev sTok : Stmt := top 27
abbrev sSpace : Stmt := top 28
abbrev sBad : Stmt := top 29
abbrev sLaw : Stmt := top 30
/-- a text of these signs -/
def tx (l : List Nat) : Str := ⟨l.toArray⟩
theorem tl_tx (l : List Nat) : TL.tl (tx l) = l := rfl
theorem tx_len (l : List Nat) : (tx l).length = l.length := by rw [TL.len_tl, tl_tx]
theorem tx_tl (z : Str) : tx (TL.tl z) = z := TL.mk_tl z
theorem tx_inj {a b : List Nat} (h : tx a = tx b) : a = b := by
  have e := congrArg TL.tl h
  rwa [tl_tx, tl_tx] at e
theorem tx_app (a b : List Nat) : tx a ++ tx b = tx (a ++ b) := TL.ext_tl (by rw [TL.tl_append, tl_tx, tl_tx, tl_tx])
/-- a token's value -/
def tv : Tv → V
  | .inl w => .str (tx w)
  | .inr n => .int (n : Int)
theorem line20 {n : Nat} (h : n ≤ 20000) : n ≤ sizeLine := Nat.le_trans h (by decide)
/-- what the top has left: built-ins that are not shadowed, constants -/
structure Txt (K : PySem.W.Frag) (mg : Str → Option Value) : Prop where
  len : mg "len" = none
  abs : mg "abs" = none
  int : mg "int" = none
  str : mg "str" = none
  min : mg "min" = none
  range : mg "range" = none
  isinst : mg "isinstance" = none
  repr : mg "repr" = none
  list : mg "list" = none
  letters : ∃ t, mg "LETTERS" = some (.str (tx LET) t)
  wch : ∃ z t, mg "WORD_CHARACTERS" = some (.str z t) ∧ TL.tl z = WCH
  most : ∃ t, mg "MOST_CHARACTERS" = some (.int 20000 t)
  longest : ∃ t, mg "LONGEST_WORD" = some (.int 20 t)
  digits : ∃ t, mg "MOST_DIGITS" = some (.int 5 t)
  greatest : ∃ t, mg "GREATEST_NUMBER" = some (.int 65535 t)
  res : ∃ a, mg "RESERVED" = some (.ref a) ∧ ∀ H, SqT K H a (RES.map fun w => V.str (tx w))
  sgn : ∃ a, mg "SIGNS" = some (.ref a) ∧ ∀ H, SqT K H a (SGN.map fun w => V.str (tx w))
theorem ifT {c : Bool} {A B : Prop} (hc : c = true) (h : A) : if c = true then A else B := by
  rw [if_pos hc]
  exact h
theorem ifF {c : Bool} {A B : Prop} (hc : c = false) (h : B) : if c = true then A else B := by
  rw [hc, if_neg Bool.false_ne_true]
  exact h
/-! ### promises -/
/-- word_end(text, at) -/
def spWend : Sp := fun vs H Q _ => ∃ (z : Str) (n : Nat), vs = [.str z, .int (n : Int)] ∧ n ≤ z.length ∧ z.length ≤ 20000 ∧ Q (.int ((n + (wd ((TL.tl z).drop n)).length : Nat) : Int)) H
section
variable {P : Program} {w : World} {K : PySem.W.Frag} {mg : Str → Option Value} {base : Heap}
theorem scWend : FnScope ["text", "at"] ["text", "at"] (defScope sWend) := ⟨rfl, rfl, rfl, by decide +kernel, rfl, by decide +kernel, by decide +kernel⟩
theorem drop_cons {l : List Nat} {n : Nat} (h : n < l.length) : ∃ c, l[n]? = some c ∧ l.drop n = c :: l.drop (n + 1) := ⟨l[n], List.getElem?_eq_getElem h, List.drop_eq_getElem_cons h⟩
theorem ok_wend {f : Addr} {fd : FuncData} (F : Fun K "word_end" "word_end" sWend f fd) (T : Txt K mg) : FnOk P w K mg base CX0 1 f fd ["text", "at"] spWend := by
  refine F.ok scWend (fun vs H Q E h => ?_) (fun cdv A outer s H vs Q E hr h => ?_)
  · obtain ⟨z, n, rfl, _⟩ := h
    rfl
  · obtain ⟨z, n, rfl, hn, hz, k⟩ := h
    obtain ⟨zw, tw, mw, ew⟩ := T.wch
    have hlen : z.length = (TL.tl z).length := TL.len_tl z
    refine ⟨_, pss_cons (ps_while PassesOwn.never
        (PW.pt (pw_and (pt_cmpR op_lt (pv 1) (pe_callB call_len_str (by rfl) T.len PySem.boot_len (pa_cons (pv 0) pa_nil)) (nomark _))
          (pw_and1 (pt_cmpR op_in_sign (pe_item_str (pv 0) (pv 1) (fun _ _ => rfl)) (pe_glob (v := .str zw) rfl mw ⟨_, rfl⟩) (by rfl)))))
        (pss_one (ps_aug (i := 1) scWend.nd rfl (.inl rfl) pe_int ip_add)))
      (pss_one (ps_ret (pv 1))), ?_⟩
    let W : Nat → St → Hp → Prop := fun m σ H' => ∃ j : Nat, H' = H ∧ σ = [some (.str z), some (.int (j : Int))] ∧ j ≤ z.length ∧ m = z.length - j ∧ j + (wd ((TL.tl z).drop j)).length = n + (wd ((TL.tl z).drop n)).length
    refine ⟨W, ⟨_, n, rfl, rfl, hn, rfl, rfl⟩, ?_⟩
    rintro m σ H' ⟨j, rfl, rfl, hj, rfl, e⟩
    refine ⟨_, rfl, _, rfl, z, rfl, line20 hz, _, _, rfl, rfl, _, rfl, ?_⟩
    by_cases hlt : j < z.length
    · refine ifT (decide_eq_true (by omega)) ?_
      obtain ⟨c, hc, hd⟩ := drop_cons (l := TL.tl z) (n := j) (by omega)
      refine ⟨_, rfl, _, rfl, z, _, c, rfl, rfl, by omega, by omega, by omega, ?_, c, zw, rfl, rfl, _, rfl, ?_⟩
      · rw [Int.toNat_natCast]
        exact (Array.getElem?_toList (xs := z.cps)).symm.trans hc
      · by_cases hw : c ∈ WCH
        · refine ifT (decide_eq_true (show c ∈ TL.tl zw by rw [ew]; exact hw)) ?_
          have e1 : wd ((TL.tl z).drop j) = c :: wd ((TL.tl z).drop (j + 1)) := by
            rw [hd]
            exact List.takeWhile_cons_of_pos (decide_eq_true hw)
          rw [e1, List.length_cons] at e
          refine ⟨fun σ' H' => ∃ m', m' < z.length - j ∧ W m' σ' H', fun _ _ h => h, ?_⟩
          refine ⟨_, rfl, _, _, rfl, rfl, z.length - (j + 1), by omega, j + 1, rfl, rfl, by omega, rfl, by omega⟩
        · refine ifF (decide_eq_false (show ¬ c ∈ TL.tl zw by rw [ew]; exact hw)) ?_
          have e1 : wd ((TL.tl z).drop j) = [] := by
            rw [hd]
            exact List.takeWhile_cons_of_neg (by simpa [isW] using hw)
          rw [e1, List.length_nil, Nat.add_zero] at e
          refine ⟨_, rfl, ?_⟩
          rw [← e] at k
          exact k
    · refine ifF (decide_eq_false (by omega)) ?_
      have e1 : wd ((TL.tl z).drop j) = [] := by
        rw [List.drop_of_length_le (by omega)]
        rfl
      rw [e1, List.length_nil, Nat.add_zero] at e
      refine ⟨_, rfl, ?_⟩
      rw [← e] at k
      exact k
end
end Tk

set_option Elab.async false
set_option linter.all false
set_option maxRecDepth 100000
namespace Tk
open PySem L2 Lx
/-! ### the mathematics of texts -/
theorem wd_take (l : List Nat) : l.take (wd l).length = wd l := by
  unfold wd
  induction l with
  | nil => rfl
  | cons c r ih =>
    rw [List.takeWhile_cons]
    split
    · rw [List.length_cons, List.take_succ_cons, ih]
    · rfl
theorem wd_len (l : List Nat) : (wd l).length ≤ l.length := by
  have e := congrArg List.length (wd_take l)
  rw [List.length_take] at e
  omega
theorem cut_eq {z : Str} {n m : Nat} (h1 : n ≤ m) (h2 : m ≤ z.length) : cutS z (some (n : Int)) (some (m : Int)) = tx (((TL.tl z).drop n).take (m - n)) := by
  unfold cutS tx
  rw [HT.sIx_nat, HT.sIx_nat, Nat.min_eq_left (Nat.le_trans h1 h2), Nat.min_eq_left h2]
theorem cut_wd {z : Str} {n k : Nat} (h : n ≤ z.length) (hk : k = (wd ((TL.tl z).drop n)).length) : cutS z (some (n : Int)) (some ((n + k : Nat) : Int)) = tx (wd ((TL.tl z).drop n)) := by
  have hl := wd_len ((TL.tl z).drop n)
  rw [List.length_drop, ← TL.len_tl] at hl
  rw [cut_eq (by omega) (by omega), show n + k - n = (wd ((TL.tl z).drop n)).length by omega, wd_take]
theorem str_eq (a b : Str) : decide (V.str a = V.str b) = decide (TL.tl a = TL.tl b) := by
  by_cases h : TL.tl a = TL.tl b
  · rw [decide_eq_true h, decide_eq_true (congrArg V.str (TL.ext_tl h))]
  · rw [decide_eq_false h]
    exact decide_eq_false fun z => h (congrArg TL.tl (V.str.inj z))
theorem beq_tx (a b : List Nat) : (tx a == tx b) = decide (a = b) := by
  by_cases h : a = b
  · subst h
    simp
  · rw [decide_eq_false h]
    exact beq_eq_false_iff_ne.mpr fun z => h (tx_inj z)
theorem in_txs (z : Str) (l : List (List Nat)) : inV (.str z) (l.map fun w => V.str (tx w)) = decide (TL.tl z ∈ l) := by
  rw [← tx_tl z, tl_tx]
  generalize TL.tl z = w
  unfold inV
  induction l with
  | nil => rfl
  | cons a l ih =>
    rw [List.map_cons, List.any_cons, ih]
    show ((tx a == tx w) || _) = _
    rw [beq_tx]
    by_cases h : a = w
    · subst h
      simp
    · have h' : ¬ w = a := fun z => h z.symm
      simp [h, h']
theorem flat_txs (l : List (List Nat)) : (l.map fun w => V.str (tx w)).all flatV = true := by
  rw [List.all_map]
  exact List.all_eq_true.mpr fun _ _ => rfl
/-! ### the gap -/
theorem gap_comment (l : List Nat) (e : Nat) (he : e ≤ l.length) (hend : e = l.length ∨ l[e]? = some 10) : ∀ (d j : Nat), j + d = e → (∀ m, j ≤ m → m < e → l[m]? ≠ some 10) →
    j + gap true (l.drop j) = e + gap false (l.drop e)
  | 0, j, hj, _ => by
    have hj' : j = e := by omega
    subst hj'
    rcases hend with h | h
    · rw [List.drop_of_length_le (by omega)]
      rfl
    · have hlt : j < l.length := (List.getElem?_eq_some_iff.mp h).1
      obtain ⟨c, hc, hd⟩ := drop_cons hlt
      rw [h] at hc
      cases hc
      rw [hd]
      simp [gap, isB]
  | d + 1, j, hj, hn => by
    have ih := gap_comment l e he hend d (j + 1) (by omega) fun m h1 h2 => hn m (by omega) h2
    have hlt : j < l.length := by omega
    obtain ⟨c, hc, hd⟩ := drop_cons hlt
    have hne : c ≠ 10 := fun z => hn j (Nat.le_refl _) (by omega) (by rw [hc, z])
    rw [hd, show gap true (c :: l.drop (j + 1)) = gap true (l.drop (j + 1)) + 1 from by simp [gap, hne]]
    omega
/-- comment_end(text, at) -/
def spCom : Sp := fun vs H Q _ => ∃ (z : Str) (n : Nat), vs = [.str z, .int (n : Int)] ∧ n ≤ z.length ∧ z.length ≤ 20000 ∧
  ∀ e : Nat, n ≤ e → e ≤ z.length → (e = z.length ∨ (TL.tl z)[e]? = some 10) → (∀ m, n ≤ m → m < e → (TL.tl z)[m]? ≠ some 10) → Q (.int (e : Int)) H
/-- gap_end(text, at) -/
def spGap : Sp := fun vs H Q _ => ∃ (z : Str) (n : Nat), vs = [.str z, .int (n : Int)] ∧ n ≤ z.length ∧ z.length ≤ 20000 ∧ Q (.int ((n + gap false ((TL.tl z).drop n) : Nat) : Int)) H
def spFits : Sp := fun vs H Q _ => ∃ z : Str, vs = [.str z] ∧ z.length ≤ 20000 ∧ Q (.bl (decide (z.length ≤ 20) && !decide (TL.tl z ∈ RES))) H
/-- a token, or None, and an index: new tuples -/
def RetTok (Q : VK) (H : Hp) (o : Option (List Nat × Tv)) (i e : Nat) : Prop :=
  (o = none → ∀ (x : Int) p, H p = none → Q (.ref p) (upd H p (.tup [.non, .int x]))) ∧
  ∀ k v, o = some (k, v) → ∀ q p, H q = none → upd H q (.tup [.str (tx k), tv v, .int (i : Int)]) p = none → Q (.ref p) (upd (upd H q (.tup [.str (tx k), tv v, .int (i : Int)])) p (.tup [.ref q, .int (e : Int)]))
def wordO (w : List Nat) : Option (List Nat × Tv) := if w ∈ RES then some (kW, .inl w) else if w.length ≤ 20 then some (kN, .inl w) else none
def numO (c : Nat) (w : List Nat) : Option (List Nat × Tv) := if !w.all isD || decide (5 < w.length) then none else if c = 48 ∧ w ≠ [48] then none else if 65535 < dv w then none else some (kI, .inr (dv w))
def spWordAt : Sp := fun vs H Q _ => ∃ (z : Str) (n : Nat), vs = [.str z, .int (n : Int)] ∧ n ≤ z.length ∧ z.length ≤ 20000 ∧ RetTok Q H (wordO (wd ((TL.tl z).drop n))) n (n + (wd ((TL.tl z).drop n)).length)
def spNumAt : Sp := fun vs H Q _ => ∃ (z : Str) (n c : Nat) (r : List Nat), vs = [.str z, .int (n : Int)] ∧ (TL.tl z).drop n = c :: r ∧ isW c = true ∧ z.length ≤ 20000 ∧ RetTok Q H (numO c (wd (c :: r))) n (n + (wd (c :: r)).length)
def strO (r : List Nat) : Option (List Nat × Tv) := if wd r = [] ∨ 20 < (wd r).length ∨ (r.drop (wd r).length).head? ≠ some 34 then none else some (kS, .inl (wd r))
def spStrAt : Sp := fun vs H Q _ => ∃ (z : Str) (n : Nat), vs = [.str z, .int (n : Int)] ∧ n + 1 ≤ z.length ∧ z.length ≤ 20000 ∧ RetTok Q H (strO ((TL.tl z).drop (n + 1))) n (n + ((wd ((TL.tl z).drop (n + 1))).length + 2))
def sgnO (l : List Nat) : Option (List Nat × Tv) × Nat := match SGN.find? (fun s => s.isPrefixOf l) with
  | some s => (some (kG, .inl s), s.length)
  | none => (none, 0)
def spSignAt : Sp := fun vs H Q _ => ∃ (z : Str) (n : Nat), vs = [.str z, .int (n : Int)] ∧ n ≤ z.length ∧ z.length ≤ 20000 ∧ RetTok Q H (sgnO ((TL.tl z).drop n)).1 n (n + (sgnO ((TL.tl z).drop n)).2)
def spTokAt : Sp := fun vs H Q _ => ∃ (z : Str) (n : Nat), vs = [.str z, .int (n : Int)] ∧ n < z.length ∧ z.length ≤ 20000 ∧ RetTok Q H (tok ((TL.tl z).drop n)).1 n (n + (tok ((TL.tl z).drop n)).2)
section
variable {P : Program} {w : World} {K : PySem.W.Frag} {mg : Str → Option Value} {base : Heap}
theorem scCom : FnScope ["text", "at", "end"] ["text", "at"] (defScope sCom) := ⟨rfl, rfl, rfl, by decide +kernel, rfl, by decide +kernel, by decide +kernel⟩
theorem getD_iff {z : Str} {m c : Nat} (h : m < z.length) : z.cps.getD m 0 = c ↔ (TL.tl z)[m]? = some c := by
  have h' : m < (TL.tl z).length := by rw [← TL.len_tl]; exact h
  have e : (TL.tl z)[m]? = z.cps[m]? := Array.getElem?_toList
  rw [e, Array.getD_eq_getD_getElem?]
  have h2 : m < z.cps.size := h
  rw [Array.getElem?_eq_getElem h2]
  simp
theorem ok_com {f : Addr} {fd : FuncData} (F : Fun K "comment_end" "comment_end" sCom f fd) (T : Txt K mg) : FnOk P w K mg base CX0 1 f fd ["text", "at"] spCom := by
  refine F.ok scCom (fun vs H Q E h => ?_) (fun cdv A outer s H vs Q E hr h => ?_)
  · obtain ⟨z, n, rfl, _⟩ := h
    rfl
  · obtain ⟨z, n, rfl, hn, hz, k⟩ := h
    refine ⟨_, pss_cons (ps_set (i := 2) scCom.nd rfl (.inl rfl) (pe_bm PySem.F.plainAttrs_str PySem.F.slot_str_find PySem.F.type_str_find mt_find3 (pv 0) (pa_cons pe_str (pa_cons (pv 1) pa_nil))))
      (pss_cons (ps_if (pt_cmpR op_lt (pv 2) pe_int (nomark _)) (pss_one (ps_ret (pe_callB call_len_str (by rfl) T.len PySem.boot_len (pa_cons (pv 0) pa_nil)))) pss_nil)
      (pss_one (ps_ret (pv 2)))), ?_⟩
    refine ⟨_, rfl, rfl, _, rfl, z, _, _, rfl, rfl, ?_⟩
    have fi : PySem.fromIndex z.length (n : Int) = n := by
      unfold PySem.fromIndex
      rw [if_neg (by omega)]
      omega
    rcases PySem.StrLaws.find3_spec z 10 (n : Int) with ⟨e, h⟩ | ⟨j, e, h1, h2, h3, h4⟩
    · refine ⟨_, rfl, _, _, rfl, rfl, _, rfl, ?_⟩
      refine ifT (decide_eq_true (show Txt.find3 z ⟨#[10]⟩ (n : Int) < 0 by omega)) ?_
      refine ⟨_, rfl, z, rfl, line20 hz, ?_⟩
      refine k z.length hn (Nat.le_refl _) (.inl rfl) fun m m1 m2 q => ?_
      exact h m (by omega) m2 ((getD_iff m2).mpr q)
    · refine ⟨_, rfl, _, _, rfl, rfl, _, rfl, ?_⟩
      refine ifF (decide_eq_false (show ¬ Txt.find3 z ⟨#[10]⟩ (n : Int) < 0 by omega)) ?_
      refine ⟨_, rfl, ?_⟩
      show Q (.int (Txt.find3 z ⟨#[10]⟩ (n : Int))) H
      rw [e]
      exact k j (by omega) (by omega) (.inr ((getD_iff h2).mp h3)) fun m m1 m2 q => h4 m (by omega) m2 ((getD_iff (by omega)).mpr q)
theorem scGap : FnScope ["text", "at"] ["text", "at"] (defScope sGap) := ⟨rfl, rfl, rfl, by decide +kernel, rfl, by decide +kernel, by decide +kernel⟩
theorem ok_gap {f fC : Addr} {fd fdC : FuncData} (F : Fun K "gap_end" "gap_end" sGap f fd) (T : Txt K mg) (FC : Fun K "comment_end" "comment_end" sCom fC fdC) (bC : Binds K fdC ["text", "at"] []) (gC : mg "comment_end" = some (.ref fC)) :
    FnOk P w K mg base CX0 2 f fd ["text", "at"] spGap := by
  have GC : FnOk P w K mg base CX0 1 fC fdC ["text", "at"] spCom := ok_com FC T
  refine F.ok scGap (fun vs H Q E h => ?_) (fun cdv A outer s H vs Q E hr h => ?_)
  · obtain ⟨z, n, rfl, _⟩ := h
    rfl
  · obtain ⟨z, n, rfl, hn, hz, k⟩ := h
    have hlen : z.length = (TL.tl z).length := TL.len_tl z
    refine ⟨_, pss_cons (ps_while PassesOwn.never
        (pt_cmpR op_lt (pv 1) (pe_callB call_len_str (by rfl) T.len PySem.boot_len (pa_cons (pv 0) pa_nil)) (nomark _))
        (pss_one (ps_if (pt_cmpR op_eq (pe_item_str (pv 0) (pv 1) (fun _ _ => rfl)) pe_str (nomark _))
          (pss_one (ps_set (i := 1) scGap.nd rfl (.inl rfl) (pe_call GC hr rfl gC FC.kp bC .nil pass0 (pa_cons (pv 0) (pa_cons (pv 1) pa_nil)))))
          (pss_one (ps_if (pt_cmpR op_in_sign (pe_item_str (pv 0) (pv 1) (fun _ _ => rfl)) pe_str (by rfl))
            (pss_one (ps_aug (i := 1) scGap.nd rfl (.inl rfl) pe_int ip_add))
            (pss_one (ps_ret (pv 1))))))))
      (pss_one (ps_ret (pv 1))), ?_⟩
    let W : Nat → St → Hp → Prop := fun m σ H' => ∃ j : Nat, H' = H ∧ σ = [some (.str z), some (.int (j : Int))] ∧ j ≤ z.length ∧ m = z.length - j ∧ j + gap false ((TL.tl z).drop j) = n + gap false ((TL.tl z).drop n)
    refine ⟨W, ⟨_, n, rfl, rfl, hn, rfl, rfl⟩, ?_⟩
    rintro m σ H' ⟨j, rfl, rfl, hj, rfl, e⟩
    refine ⟨_, rfl, _, rfl, z, rfl, line20 hz, _, _, rfl, rfl, _, rfl, ?_⟩
    by_cases hlt : j < z.length
    · refine ifT (decide_eq_true (by omega)) ?_
      obtain ⟨c, hc, hd⟩ := drop_cons (l := TL.tl z) (n := j) (by omega)
      refine ⟨fun σ' H' => ∃ m', m' < z.length - j ∧ W m' σ' H', fun _ _ h => h, ?_⟩
      refine ⟨_, rfl, _, rfl, z, _, c, rfl, rfl, by omega, by omega, by omega, ?_, rfl, _, rfl, ?_⟩
      · rw [Int.toNat_natCast]
        exact (Array.getElem?_toList (xs := z.cps)).symm.trans hc
      have eqc : decide (V.str ⟨#[c]⟩ = V.str (PySem.Str.ofString "#")) = decide (c = 35) := by
        rw [str_eq]
        by_cases h : c = 35
        · subst h
          decide +kernel
        · rw [decide_eq_false h]
          refine decide_eq_false fun q => h ?_
          have q' : [c] = [35] := q.trans (by decide +kernel)
          exact (List.cons.inj q').1
      by_cases h35 : c = 35
      · refine ifT (eqc.trans (decide_eq_true h35)) ?_
        refine ⟨_, rfl, _, rfl, z, j, rfl, by omega, hz, fun e' he1 he2 he3 he4 => ?_⟩
        have hne : j < e' := by
          rcases Nat.lt_or_ge j e' with q | q
          · exact q
          · have q' : e' = j := by omega
            rw [q'] at he3
            rcases he3 with he3 | he3
            · omega
            · rw [hc, h35] at he3
              cases he3
        refine ⟨z.length - e', by omega, e', rfl, rfl, he2, rfl, ?_⟩
        rw [← e, hd, h35]
        have g := gap_comment (TL.tl z) e' (by omega) (by rcases he3 with q | q; exact .inl (by omega); exact .inr q) (e' - (j + 1)) (j + 1) (by omega) fun m m1 m2 => he4 m (by omega) m2
        have g2 : gap false (35 :: (TL.tl z).drop (j + 1)) = gap true ((TL.tl z).drop (j + 1)) + 1 := by simp [gap]
        omega
      · refine ifF (eqc.trans (decide_eq_false h35)) ?_
        refine ⟨_, rfl, _, rfl, z, _, c, rfl, rfl, by omega, by omega, by omega, ?_, c, _, rfl, rfl, _, rfl, ?_⟩
        · rw [Int.toNat_natCast]
          exact (Array.getElem?_toList (xs := z.cps)).symm.trans hc
        have inc : decide (c ∈ (PySem.Str.ofString " \t\n").cps.toList) = isB c := by
          have q : (PySem.Str.ofString " \t\n").cps.toList = [32, 9, 10] := by decide +kernel
          rw [q] <;> rfl
        by_cases hB : isB c = true
        · refine ifT (inc.trans hB) ?_
          refine ⟨_, rfl, _, _, rfl, rfl, z.length - (j + 1), by omega, j + 1, rfl, rfl, by omega, rfl, ?_⟩
          rw [← e, hd]
          have g2 : gap false (c :: (TL.tl z).drop (j + 1)) = gap false ((TL.tl z).drop (j + 1)) + 1 := by
            conv => lhs; unfold gap
            rw [if_neg h35, if_pos hB]
          omega
        · have hB' : isB c = false := by simpa using hB
          refine ifF (inc.trans hB') ?_
          refine ⟨_, rfl, ?_⟩
          have g2 : gap false (c :: (TL.tl z).drop (j + 1)) = 0 := by
            conv => lhs; unfold gap
            rw [if_neg h35, if_neg (by rw [hB']; decide)]
          rw [hd, g2, Nat.add_zero] at e
          rw [← e] at k
          exact k
    · refine ifF (decide_eq_false (by omega)) ?_
      refine ⟨_, rfl, ?_⟩
      rw [List.drop_of_length_le (by omega)] at e
      have e2 : j = n + gap false ((TL.tl z).drop n) := e
      rw [← e2] at k
      exact k
theorem scFits : FnScope ["word"] ["word"] (defScope sFits) := ⟨rfl, rfl, rfl, by decide +kernel, rfl, by decide +kernel, by decide +kernel⟩
theorem ok_fits {f : Addr} {fd : FuncData} (F : Fun K "name_fits" "name_fits" sFits f fd) (T : Txt K mg) : FnOk P w K mg base CX0 1 f fd ["word"] spFits := by
  refine F.ok scFits (fun vs H Q E h => ?_) (fun cdv A outer s H vs Q E hr h => ?_)
  · obtain ⟨z, rfl, _⟩ := h
    rfl
  · obtain ⟨z, rfl, hz, k⟩ := h
    obtain ⟨tl', mL⟩ := T.longest
    obtain ⟨aR, mR, sR⟩ := T.res
    refine ⟨_, pss_one (ps_ret (pe_and (pe_cmp (pc_le (pe_callB call_len_str (by rfl) T.len PySem.boot_len (pa_cons (pv 0) pa_nil)) (pe_glob (v := .int 20) rfl mL ⟨_, rfl⟩)) rfl)
      (pe_one (pe_cmpR op_notIn_seq (pv 0) (pe_glob (v := .ref aR) rfl mR rfl) (by rfl))))), ?_⟩
    refine ⟨_, rfl, z, rfl, line20 hz, _, _, rfl, rfl, _, rfl, ?_⟩
    by_cases h20 : z.length ≤ 20
    · refine ifT (decide_eq_true (by omega)) ?_
      refine ⟨_, rfl, aR, _, rfl, .inr (sR H), rfl, flat_txs _, ?_⟩
      rw [in_txs]
      rw [decide_eq_true h20, Bool.true_and] at k
      exact k
    · refine ifF (decide_eq_false (by omega)) ?_
      rw [decide_eq_false h20, Bool.false_and] at k
      exact k
end
end Tk

set_option Elab.async false
set_option linter.all false
set_option maxRecDepth 100000
namespace Tk
open PySem L2 Lx
section
variable {P : Program} {w : World} {K : PySem.W.Frag} {mg : Str → Option Value} {base : Heap}
/-- (('kind', value, at), end) and (None, end): what the two displays ask -/
theorem ret_some {Q : VK} {H : Hp} {o : Option (List Nat × Tv)} {i e : Nat} {k : List Nat} {v : Tv} (R : RetTok Q H o i e) (h : o = some (k, v)) :
    3 ≤ sizeLine ∧ ∀ q, H q = none → 2 ≤ sizeLine ∧ ∀ p, upd H q (.tup [.str (tx k), tv v, .int (i : Int)]) p = none → Q (.ref p) (upd (upd H q (.tup [.str (tx k), tv v, .int (i : Int)])) p (.tup [.ref q, .int (e : Int)])) :=
  ⟨by decide, fun q hq => ⟨by decide, fun p hp => R.2 k v h q p hq hp⟩⟩
theorem ret_none {Q : VK} {H : Hp} {o : Option (List Nat × Tv)} {i e : Nat} {x : Int} (R : RetTok Q H o i e) (h : o = none) :
    2 ≤ sizeLine ∧ ∀ p, H p = none → Q (.ref p) (upd H p (.tup [.non, .int x])) := ⟨by decide, fun p hp => R.1 h x p hp⟩
theorem kW_eq : PySem.Str.ofString "word" = tx kW := TL.ext_tl (by decide +kernel)
theorem kN_eq : PySem.Str.ofString "name" = tx kN := TL.ext_tl (by decide +kernel)
theorem kI_eq : PySem.Str.ofString "number" = tx kI := TL.ext_tl (by decide +kernel)
theorem kS_eq : PySem.Str.ofString "string" = tx kS := TL.ext_tl (by decide +kernel)
theorem kG_eq : PySem.Str.ofString "sign" = tx kG := TL.ext_tl (by decide +kernel)
theorem scWordAt : FnScope ["text", "at", "end", "word"] ["text", "at"] (defScope sWordAt) := ⟨rfl, rfl, rfl, by decide +kernel, rfl, by decide +kernel, by decide +kernel⟩
theorem ok_wordAt {f fE fF : Addr} {fd fdE fdF : FuncData} (F : Fun K "word_at" "word_at" sWordAt f fd) (T : Txt K mg) (FE : Fun K "word_end" "word_end" sWend fE fdE) (bE : Binds K fdE ["text", "at"] []) (gE : mg "word_end" = some (.ref fE))
    (FF : Fun K "name_fits" "name_fits" sFits fF fdF) (bF : Binds K fdF ["word"] []) (gF : mg "name_fits" = some (.ref fF)) : FnOk P w K mg base CX0 2 f fd ["text", "at"] spWordAt := by
  have GE : FnOk P w K mg base CX0 1 fE fdE ["text", "at"] spWend := ok_wend FE T
  have GF : FnOk P w K mg base CX0 1 fF fdF ["word"] spFits := ok_fits FF T
  refine F.ok scWordAt (fun vs H Q E h => ?_) (fun cdv A outer s H vs Q E hr h => ?_)
  · obtain ⟨z, n, rfl, _⟩ := h
    rfl
  · obtain ⟨z, n, rfl, hn, hz, R⟩ := h
    obtain ⟨aR, mR, sR⟩ := T.res
    refine ⟨_, pss_cons (ps_set (i := 2) scWordAt.nd rfl (.inl rfl) (pe_call GE hr rfl gE FE.kp bE .nil pass0 (pa_cons (pv 0) (pa_cons (pv 1) pa_nil))))
      (pss_cons (ps_set (i := 3) scWordAt.nd rfl (.inl rfl) (pe_slice sl_str (pv 0) (po_some (pv 1)) (po_some (pv 2))))
      (pss_cons (ps_if (pt_cmpR op_in_seq (pv 3) (pe_glob (v := .ref aR) rfl mR rfl) (by rfl)) (pss_one (ps_ret (pe_tup (pa_cons (pe_tup (pa_cons pe_str (pa_cons (pv 3) (pa_cons (pv 1) pa_nil)))) (pa_cons (pv 2) pa_nil))))) pss_nil)
      (pss_cons (ps_if (pt_val (pe_call GF hr rfl gF FF.kp bF .nil pass0 (pa_cons (pv 3) pa_nil))) (pss_one (ps_ret (pe_tup (pa_cons (pe_tup (pa_cons pe_str (pa_cons (pv 3) (pa_cons (pv 1) pa_nil)))) (pa_cons (pv 2) pa_nil))))) pss_nil)
      (pss_one (ps_ret (pe_tup (pa_cons pe_non (pa_cons (pv 2) pa_nil)))))))), ?_⟩
    refine ⟨_, rfl, _, rfl, z, n, rfl, hn, hz, ?_⟩
    refine ⟨_, rfl, _, rfl, _, rfl, _, rfl, _, rfl, z, rfl, line20 hz, ?_⟩
    rw [cut_wd hn rfl]
    have hl := wd_len ((TL.tl z).drop n)
    rw [List.length_drop, ← TL.len_tl] at hl
    generalize hw : wd ((TL.tl z).drop n) = ww at R hl ⊢
    refine ⟨_, rfl, aR, _, rfl, .inr (sR H), rfl, flat_txs _, _, rfl, ?_⟩
    by_cases h1 : ww ∈ RES
    · refine ifT ((in_txs _ _).trans (decide_eq_true h1)) ?_
      refine ⟨_, rfl, _, rfl, ?_⟩
      rw [kW_eq]
      obtain ⟨a, b⟩ := ret_some R (k := kW) (v := .inl ww) (if_pos h1)
      exact ⟨a, fun q hq => ⟨_, rfl, b q hq⟩⟩
    · refine ifF ((in_txs _ _).trans (decide_eq_false h1)) ?_
      refine ⟨_, rfl, tx ww, rfl, by rw [tx_len]; omega, _, rfl, ?_⟩
      rw [tx_len]
      by_cases h2 : ww.length ≤ 20
      · refine ifT (by rw [decide_eq_true h2, tl_tx, decide_eq_false h1] <;> rfl) ?_
        refine ⟨_, rfl, _, rfl, ?_⟩
        rw [kN_eq]
        obtain ⟨a, b⟩ := ret_some R (k := kN) (v := .inl ww) ((if_neg h1).trans (if_pos h2))
        exact ⟨a, fun q hq => ⟨_, rfl, b q hq⟩⟩
      · refine ifF (by rw [decide_eq_false h2] <;> rfl) ?_
        exact ⟨_, rfl, ret_none R ((if_neg h1).trans (if_neg h2))⟩
theorem isdigit_tx {l : List Nat} (hne : l ≠ []) (h : ∀ c ∈ l, isW c = true) : Txt.isdigit (tx l) = l.all isD := by
  have key : ∀ c ∈ WCH, PySem.Unicode.isDigit c = isD c := by decide +kernel
  unfold Txt.isdigit
  have e1 : decide ((tx l).length > 0) = true := decide_eq_true (by rw [tx_len]; exact List.length_pos_iff.mpr hne)
  rw [e1, Bool.true_and]
  have e2 : (tx l).cps.all PySem.Unicode.isDigit = l.all PySem.Unicode.isDigit := by
    unfold tx
    simp
  rw [e2]
  clear e1 e2 hne
  induction l with
  | nil => rfl
  | cons a l ih =>
    rw [List.all_cons, List.all_cons, ih fun c hc => h c (List.mem_cons_of_mem _ hc), key a (of_decide_eq_true (h a (List.mem_cons_self ..)))]
theorem wd_all (l : List Nat) : ∀ c ∈ wd l, isW c = true := fun c hc => by
  unfold wd at hc
  induction l with
  | nil => cases hc
  | cons a l ih =>
    rw [List.takeWhile_cons] at hc
    split at hc
    · rename_i ha
      rcases List.mem_cons.mp hc with rfl | hc
      · exact ha
      · exact ih hc
    · cases hc
theorem scNumAt : FnScope ["text", "at", "end", "digits"] ["text", "at"] (defScope sNumAt) := ⟨rfl, rfl, rfl, by decide +kernel, rfl, by decide +kernel, by decide +kernel⟩
theorem ok_numAt {f fE : Addr} {fd fdE : FuncData} (F : Fun K "number_at" "number_at" sNumAt f fd) (T : Txt K mg) (FE : Fun K "word_end" "word_end" sWend fE fdE) (bE : Binds K fdE ["text", "at"] []) (gE : mg "word_end" = some (.ref fE)) :
    FnOk P w K mg base CX0 2 f fd ["text", "at"] spNumAt := by
  have GE : FnOk P w K mg base CX0 1 fE fdE ["text", "at"] spWend := ok_wend FE T
  refine F.ok scNumAt (fun vs H Q E h => ?_) (fun cdv A outer s H vs Q E hr h => ?_)
  · obtain ⟨z, n, c, r, rfl, _⟩ := h
    rfl
  · obtain ⟨z, n, c, r, rfl, hd, hc, hz, R⟩ := h
    obtain ⟨tD, mD⟩ := T.digits
    obtain ⟨tG, mG⟩ := T.greatest
    have hn : n ≤ z.length := by
      have e := congrArg List.length hd
      rw [List.length_drop, ← TL.len_tl] at e
      simp only [List.length_cons] at e
      omega
    have none2 : ∀ X : Cx, True := fun _ => trivial
    refine ⟨_, pss_cons (ps_set (i := 2) scNumAt.nd rfl (.inl rfl) (pe_call GE hr rfl gE FE.kp bE .nil pass0 (pa_cons (pv 0) (pa_cons (pv 1) pa_nil))))
      (pss_cons (ps_set (i := 3) scNumAt.nd rfl (.inl rfl) (pe_slice sl_str (pv 0) (po_some (pv 1)) (po_some (pv 2))))
      (pss_cons (ps_if (PW.pt (pw_or (pt_not (pt_val (pe_m0 PySem.F.slot_str_isdigit PySem.F.type_str_isdigit mt_isdigit (pv 3))))
          (pw_or1 (pt_cmpR op_gt (pe_callB call_len_str (by rfl) T.len PySem.boot_len (pa_cons (pv 3) pa_nil)) (pe_glob (v := .int 5) rfl mD ⟨_, rfl⟩) (nomark _)))))
        (pss_one (ps_ret (pe_tup (pa_cons pe_non (pa_cons (pv 2) pa_nil))))) pss_nil)
      (pss_cons (ps_if (PW.pt (pw_and (pt_cmpR op_eq (pe_item_str (pv 3) pe_int (fun _ _ => rfl)) pe_str (nomark _)) (pw_and1 (pt_cmpR op_ne (pv 3) pe_str (nomark _)))))
        (pss_one (ps_ret (pe_tup (pa_cons pe_non (pa_cons (pv 2) pa_nil))))) pss_nil)
      (pss_cons (ps_if (pt_cmpR op_gt (pe_callTy call_int_str (by rfl) T.int (by decide +kernel) (pa_cons (pv 3) pa_nil)) (pe_glob (v := .int 65535) rfl mG ⟨_, rfl⟩) (nomark _))
        (pss_one (ps_ret (pe_tup (pa_cons pe_non (pa_cons (pv 2) pa_nil))))) pss_nil)
      (pss_one (ps_ret (pe_tup (pa_cons (pe_tup (pa_cons pe_str (pa_cons (pe_callTy call_int_str (by rfl) T.int (by decide +kernel) (pa_cons (pv 3) pa_nil)) (pa_cons (pv 1) pa_nil)))) (pa_cons (pv 2) pa_nil))))))))), ?_⟩
    refine ⟨_, rfl, _, rfl, z, n, rfl, hn, hz, ?_⟩
    refine ⟨_, rfl, _, rfl, _, rfl, _, rfl, _, rfl, z, rfl, line20 hz, ?_⟩
    rw [cut_wd hn rfl]
    have hl := wd_len ((TL.tl z).drop n)
    rw [List.length_drop, ← TL.len_tl] at hl
    have hall := wd_all ((TL.tl z).drop n)
    have hw0 : wd ((TL.tl z).drop n) = c :: wd r := by
      rw [hd]
      exact List.takeWhile_cons_of_pos hc
    have hw1 : wd (c :: r) = c :: wd r := List.takeWhile_cons_of_pos hc
    rw [hw1] at R
    rw [hw0] at hl hall ⊢
    generalize hw : c :: wd r = ww at R hl hall ⊢
    have hne : ww ≠ [] := by rw [← hw]; simp
    have hl2 : (tx ww).length ≤ sizeLine := by rw [tx_len]; exact line20 (by omega)
    -- not digits.isdigit() or len(digits) > 5
    refine ⟨_, rfl, ⟨_, rfl⟩, _, rfl, rfl, trivial, _, rfl, ?_⟩
    rw [isdigit_tx hne hall]
    by_cases h1 : ww.all isD = true
    · refine ifF (by rw [h1] <;> rfl) ?_
      refine ⟨_, rfl, _, rfl, hl2, _, _, rfl, rfl, _, rfl, ?_⟩
      rw [tx_len]
      by_cases h2 : 5 < ww.length
      · refine ifT (decide_eq_true (by omega)) ?_
        exact ⟨_, rfl, ret_none R (if_pos (by rw [decide_eq_true h2, Bool.or_true]))⟩
      · refine ifF (decide_eq_false (by omega)) ?_
        have c1 : ¬ (!ww.all isD || decide (5 < ww.length)) = true := by
          rw [h1, decide_eq_false h2]
          decide
        have it : (tx ww).cps[(0 : Int).toNat]? = some c := by
          rw [← hw]
          rfl
        refine ⟨_, rfl, _, _, c, rfl, rfl, by omega, by omega, ?_, it, rfl, _, rfl, ?_⟩
        · rw [tx_len]
          have := List.length_pos_iff.mpr hne
          omega
        have q0 : TL.tl (PySem.Str.ofString "0") = [48] := by decide +kernel
        have eqc : decide (V.str ⟨#[c]⟩ = V.str (PySem.Str.ofString "0")) = decide (c = 48) := by
          rw [str_eq, q0]
          by_cases h : c = 48
          · subst h
            decide
          · rw [decide_eq_false h]
            exact decide_eq_false fun q => h (List.cons.inj q).1
        -- the number itself
        have last : ¬ (c = 48 ∧ ww ≠ [48]) →
            tSeq (tIfS (tTest (tOp (rI0 fun i j => .bl (decide (j < i))) (tCB (fun xs H Q => ∃ a n, xs = [.str a] ∧ PySem.intText? a = some n ∧ a.length ≤ 640 ∧ Q (.int n) H) (tCons (tVar 3) tNil)) (tC (.int 65535))))
              (tRet (tTup (tCons (tC .non) (tCons (tVar 2) tNil)))) tNext)
              (tRet (tTup (tCons (tTup (tCons (tC (.str (PySem.Str.ofString "number"))) (tCons (tCB (fun xs H Q => ∃ a n, xs = [.str a] ∧ PySem.intText? a = some n ∧ a.length ≤ 640 ∧ Q (.int n) H) (tCons (tVar 3) tNil)) (tCons (tVar 1) tNil)))) (tCons (tVar 2) tNil))))
              { nx := fun _ H' => Q .non H', rt := Q } [some (.str z), some (.int (n : Int)), some (.int ((n + ww.length : Nat) : Int)), some (.str (tx ww))] H := fun c2 => by
          have iv : PySem.intText? (tx ww) = some ((dv ww : Nat) : Int) := by
            refine PySem.intText_digits (x := tx ww) (fun d hd' => ?_) hne (by rw [tx_len]; omega)
            have z1 := List.all_eq_true.mp h1 d hd'
            unfold isD at z1
            simp only [Bool.and_eq_true, decide_eq_true_eq] at z1
            exact z1
          have l640 : (tx ww).length ≤ 640 := by rw [tx_len]; omega
          refine ⟨_, rfl, _, _, rfl, iv, l640, _, _, rfl, rfl, _, rfl, ?_⟩
          by_cases h3 : 65535 < dv ww
          · refine ifT (decide_eq_true (by omega)) ?_
            exact ⟨_, rfl, ret_none R ((if_neg c1).trans ((if_neg c2).trans (if_pos h3)))⟩
          · refine ifF (decide_eq_false (by omega)) ?_
            refine ⟨_, rfl, _, _, rfl, iv, l640, _, rfl, ?_⟩
            rw [kI_eq]
            obtain ⟨a, b⟩ := ret_some R (k := kI) (v := .inr (dv ww)) ((if_neg c1).trans ((if_neg c2).trans (if_neg h3)))
            exact ⟨a, fun q hq => ⟨_, rfl, b q hq⟩⟩
        by_cases h48 : c = 48
        · refine ifT (eqc.trans (decide_eq_true h48)) ?_
          refine ⟨_, rfl, rfl, _, rfl, ?_⟩
          by_cases h9 : ww = [48]
          · refine ifF (by rw [str_eq, q0, tl_tx, decide_eq_true h9] <;> rfl) ?_
            exact last fun q => q.2 h9
          · refine ifT (by rw [str_eq, q0, tl_tx, decide_eq_false h9] <;> rfl) ?_
            exact ⟨_, rfl, ret_none R ((if_neg c1).trans (if_pos ⟨h48, h9⟩))⟩
        · refine ifF (eqc.trans (decide_eq_false h48)) ?_
          exact last fun q => h48 q.1
    · have h1' : ww.all isD = false := by simpa using h1
      refine ifT (by rw [h1'] <;> rfl) ?_
      exact ⟨_, rfl, ret_none R (if_pos (by rw [h1'] <;> rfl))⟩
end
end Tk

set_option Elab.async false
set_option linter.all false
set_option maxRecDepth 100000
namespace Tk
open PySem L2 Lx
theorem sw3 {z y : Str} {n : Nat} (hn : n ≤ z.length) (hy : TL.tl y ≠ []) : Txt.startswith3 z y (n : Int) = TL.pre (TL.tl y) ((TL.tl z).drop n) := by
  have fi : PySem.fromIndex z.length (n : Int) = n := by
    unfold PySem.fromIndex
    rw [if_neg (by omega)]
    omega
  have h := TL.at_iff (x := z) hy n
  unfold Txt.startswith3
  rw [fi]
  cases hp : TL.pre (TL.tl y) ((TL.tl z).drop n) with
  | true =>
    obtain ⟨a, b⟩ := h.mpr hp
    rw [b, decide_eq_true a] <;> rfl
  | false =>
    cases hq : (decide (n + y.length ≤ z.length) && PySem.Builtin.Str.subAt z y n) with
    | false => rfl
    | true =>
      obtain ⟨a, b⟩ := Bool.and_eq_true_iff.mp hq
      have c := h.mp ⟨of_decide_eq_true a, b⟩
      rw [hp] at c
      cases c
theorem pre_one (c : Nat) (l : List Nat) : TL.pre [c] l = decide (l.head? = some c) := by
  cases l with
  | nil => rfl
  | cons a r =>
    show ([a] == [c]) = decide (some a = some c)
    by_cases h : a = c
    · subst h
      simp
    · rw [decide_eq_false (by simpa using h)]
      exact beq_eq_false_iff_ne.mpr (by simpa using h)
theorem pre_isPrefix (s l : List Nat) : TL.pre s l = s.isPrefixOf l := by
  unfold TL.pre
  induction s generalizing l with
  | nil => simp
  | cons a s ih =>
    cases l with
    | nil => rfl
    | cons b l =>
      rw [List.length_cons, List.take_succ_cons, List.isPrefixOf_cons₂, ← ih l]
      show (b == a && _) = _
      by_cases h : a = b
      · subst h
        rfl
      · have h' : ¬ b = a := fun q => h q.symm
        rw [beq_eq_false_iff_ne.mpr h, beq_eq_false_iff_ne.mpr h'] <;> rfl
section
variable {P : Program} {w : World} {K : PySem.W.Frag} {mg : Str → Option Value} {base : Heap}
theorem scStrAt : FnScope ["text", "at", "end", "word"] ["text", "at"] (defScope sStrAt) := ⟨rfl, rfl, rfl, by decide +kernel, rfl, by decide +kernel, by decide +kernel⟩
theorem ok_strAt {f fE : Addr} {fd fdE : FuncData} (F : Fun K "string_at" "string_at" sStrAt f fd) (T : Txt K mg) (FE : Fun K "word_end" "word_end" sWend fE fdE) (bE : Binds K fdE ["text", "at"] []) (gE : mg "word_end" = some (.ref fE)) :
    FnOk P w K mg base CX0 2 f fd ["text", "at"] spStrAt := by
  have GE : FnOk P w K mg base CX0 1 fE fdE ["text", "at"] spWend := ok_wend FE T
  refine F.ok scStrAt (fun vs H Q E h => ?_) (fun cdv A outer s H vs Q E hr h => ?_)
  · obtain ⟨z, n, rfl, _⟩ := h
    rfl
  · obtain ⟨z, n, rfl, hn, hz, R⟩ := h
    obtain ⟨tL, mL⟩ := T.longest
    refine ⟨_, pss_cons (ps_set (i := 2) scStrAt.nd rfl (.inl rfl) (pe_call GE hr rfl gE FE.kp bE .nil pass0 (pa_cons (pv 0) (pa_cons (pe_op op_add (pv 1) pe_int) pa_nil))))
      (pss_cons (ps_set (i := 3) scStrAt.nd rfl (.inl rfl) (pe_slice sl_str (pv 0) (po_some (pe_op op_add (pv 1) pe_int)) (po_some (pv 2))))
      (pss_cons (ps_if (PW.pt (pw_or (pt_cmpR op_eq (pv 3) pe_str (nomark _)) (pw_or (pt_cmpR op_gt (pe_callB call_len_str (by rfl) T.len PySem.boot_len (pa_cons (pv 3) pa_nil)) (pe_glob (v := .int 20) rfl mL ⟨_, rfl⟩) (nomark _))
          (pw_or1 (pt_not (pt_val (pe_bm PySem.F.plainAttrs_str PySem.F.slot_str_startswith PySem.F.type_str_startswith mt_startswith3 (pv 0) (pa_cons pe_str (pa_cons (pv 2) pa_nil)))))))))
        (pss_one (ps_ret (pe_tup (pa_cons pe_non (pa_cons (pv 2) pa_nil))))) pss_nil)
      (pss_one (ps_ret (pe_tup (pa_cons (pe_tup (pa_cons pe_str (pa_cons (pv 3) (pa_cons (pv 1) pa_nil)))) (pa_cons (pe_op op_add (pv 2) pe_int) pa_nil))))))), ?_⟩
    refine ⟨_, rfl, _, rfl, _, _, rfl, rfl, z, n + 1, by rfl, hn, hz, ?_⟩
    refine ⟨_, rfl, _, rfl, _, _, rfl, rfl, _, rfl, _, rfl, _, rfl, z, rfl, line20 hz, ?_⟩
    have e1 : ((n : Int) + 1) = ((n + 1 : Nat) : Int) := by omega
    rw [e1, cut_wd hn rfl]
    have hl := wd_len ((TL.tl z).drop (n + 1))
    rw [List.length_drop, ← TL.len_tl] at hl
    have e34 : (((TL.tl z).drop (n + 1)).drop (wd ((TL.tl z).drop (n + 1))).length) = (TL.tl z).drop (n + 1 + (wd ((TL.tl z).drop (n + 1))).length) := by rw [List.drop_drop]
    unfold strO at R
    rw [e34] at R
    generalize hw : wd ((TL.tl z).drop (n + 1)) = ww at R hl ⊢
    have hl2 : (tx ww).length ≤ sizeLine := by rw [tx_len]; exact line20 (by omega)
    have q0 : TL.tl (PySem.Str.ofString "") = [] := by decide +kernel
    have q1 : TL.tl (PySem.Str.ofString "\"") = [34] := by decide +kernel
    refine ⟨_, rfl, rfl, _, rfl, ?_⟩
    by_cases h1 : ww = []
    · refine ifT (by rw [str_eq, q0, tl_tx, decide_eq_true h1]) ?_
      exact ⟨_, rfl, ret_none R (if_pos (.inl h1))⟩
    · refine ifF (by rw [str_eq, q0, tl_tx, decide_eq_false h1]) ?_
      refine ⟨_, rfl, _, rfl, hl2, _, _, rfl, rfl, _, rfl, ?_⟩
      rw [tx_len]
      by_cases h2 : 20 < ww.length
      · refine ifT (decide_eq_true (by omega)) ?_
        exact ⟨_, rfl, ret_none R (if_pos (.inr (.inl h2)))⟩
      · refine ifF (decide_eq_false (by omega)) ?_
        refine ⟨_, rfl, rfl, _, rfl, z, _, _, rfl, rfl, _, rfl, ?_⟩
        rw [sw3 (by omega) (by rw [q1]; simp), q1, pre_one]
        by_cases h3 : ((TL.tl z).drop (n + 1 + ww.length)).head? = some 34
        · refine ifF (by rw [decide_eq_true h3] <;> rfl) ?_
          refine ⟨_, rfl, _, rfl, ?_⟩
          rw [kS_eq]
          obtain ⟨a, b⟩ := ret_some R (k := kS) (v := .inl ww) (if_neg (by
            rintro (q | q | q)
            · exact h1 q
            · exact h2 q
            · exact q h3))
          refine ⟨a, fun q hq => ⟨_, rfl, _, _, rfl, rfl, ?_⟩⟩
          have e2 : (((n + 1 + ww.length : Nat) : Int) + 1) = ((n + (ww.length + 2) : Nat) : Int) := by omega
          have b2 := b q hq
          rw [← e2] at b2
          exact b2
        · refine ifT (by rw [decide_eq_false h3] <;> rfl) ?_
          exact ⟨_, rfl, ret_none R (if_pos (.inr (.inr h3)))⟩
theorem scSignAt : FnScope ["text", "at", "sign"] ["text", "at"] (defScope sSignAt) := ⟨rfl, rfl, rfl, by decide +kernel, rfl, by decide +kernel, by decide +kernel⟩
theorem sgn_facts : ∀ s ∈ SGN, s ≠ [] ∧ s.length ≤ 2 := by decide
theorem find_at {p : List Nat → Bool} : ∀ {l : List (List Nat)} {i : Nat} {s : List Nat}, l[i]? = some s → p s = true → (∀ j t, j < i → l[j]? = some t → p t = false) → l.find? p = some s
  | [], i, s, h, _, _ => by simp at h
  | a :: l, 0, s, h, hp, _ => by
    cases h
    exact List.find?_cons_of_pos hp
  | a :: l, i + 1, s, h, hp, hn => by
    have ha := hn 0 a (by omega) rfl
    rw [List.find?_cons_of_neg (by rw [ha]; decide)]
    exact find_at (i := i) (by simpa using h) hp fun j t hj ht => hn (j + 1) t (by omega) (by simpa using ht)
theorem ok_signAt {f : Addr} {fd : FuncData} (F : Fun K "sign_at" "sign_at" sSignAt f fd) (T : Txt K mg) : FnOk P w K mg base CX0 1 f fd ["text", "at"] spSignAt := by
  refine F.ok scSignAt (fun vs H Q E h => ?_) (fun cdv A outer s H vs Q E hr h => ?_)
  · obtain ⟨z, n, rfl, _⟩ := h
    rfl
  · obtain ⟨z, n, rfl, hn, hz, R⟩ := h
    obtain ⟨aS, mS, sS⟩ := T.sgn
    refine ⟨_, pss_cons (ps_for PassesOwn.never rfl (pi_tup (pe_glob (v := .ref aS) rfl mS rfl)) (pg_name (i := 2) scSignAt.nd rfl (.inl rfl))
        (pss_one (ps_if (pt_val (pe_bm PySem.F.plainAttrs_str PySem.F.slot_str_startswith PySem.F.type_str_startswith mt_startswith3 (pv 0) (pa_cons (pv 2) (pa_cons (pv 1) pa_nil))))
          (pss_one (ps_ret (pe_tup (pa_cons (pe_tup (pa_cons pe_str (pa_cons (pv 2) (pa_cons (pv 1) pa_nil)))) (pa_cons (pe_op op_add (pv 1) (pe_callB call_len_str (by rfl) T.len PySem.boot_len (pa_cons (pv 2) pa_nil))) pa_nil))))) pss_nil)))
      (pss_one (ps_ret (pe_tup (pa_cons pe_non (pa_cons (pv 1) pa_nil))))), ?_⟩
    refine ⟨aS, rfl, ⟨_, sS H⟩, for_tup (K := K) (a := aS) (xs := SGN.map fun w => V.str (tx w))
      (fun i σ H' => H' = H ∧ (∃ v : Option V, σ = [some (.str z), some (.int (n : Int)), v]) ∧ ∀ j t, j < i → SGN[j]? = some t → t.isPrefixOf ((TL.tl z).drop n) = false)
      ⟨rfl, ⟨none, rfl⟩, fun j t h => absurd h (by omega)⟩ (fun i σ H' _ ⟨q, _⟩ => by rw [q]; exact sS H) ?_ ?_⟩
    · rintro i x σ H' hx ⟨rfl, ⟨v, rfl⟩, hno⟩
      obtain ⟨t, ht, rfl⟩ : ∃ t, SGN[i]? = some t ∧ x = V.str (tx t) := by
        rw [List.getElem?_map] at hx
        cases e : SGN[i]? with
        | none =>
          rw [e] at hx
          cases hx
        | some t =>
          rw [e] at hx
          exact ⟨t, rfl, (Option.some.inj hx).symm⟩
      obtain ⟨tne, tl2⟩ := sgn_facts t (List.mem_of_getElem? ht)
      refine ⟨_, rfl, rfl, _, rfl, _, rfl, z, tx t, (n : Int), rfl, rfl, _, rfl, ?_⟩
      rw [sw3 hn (by rw [tl_tx]; exact tne), tl_tx, pre_isPrefix]
      by_cases hp : t.isPrefixOf ((TL.tl z).drop n) = true
      · refine ifT hp ?_
        have ef : sgnO ((TL.tl z).drop n) = (some (kG, .inl t), t.length) := by
          unfold sgnO
          rw [find_at (p := fun s => s.isPrefixOf ((TL.tl z).drop n)) ht hp hno]
        rw [ef] at R
        refine ⟨_, rfl, _, rfl, ?_⟩
        rw [kG_eq]
        obtain ⟨a, b⟩ := ret_some R (k := kG) (v := .inl t) rfl
        refine ⟨a, fun q hq => ⟨_, rfl, _, rfl, tx t, rfl, by rw [tx_len]; exact line20 (by omega), _, _, rfl, rfl, ?_⟩⟩
        rw [tx_len]
        exact b q hq
      · have hp' : t.isPrefixOf ((TL.tl z).drop n) = false := Bool.eq_false_iff.mpr hp
        refine ifF hp' ?_
        refine ⟨rfl, ⟨_, rfl⟩, fun j u hj hu => ?_⟩
        rcases Nat.lt_or_ge j i with q | q
        · exact hno j u q hu
        · have q' : j = i := by omega
          rw [q', ht] at hu
          cases hu
          exact hp'
    · rintro σ H' ⟨rfl, ⟨v, rfl⟩, hno⟩
      have ef : sgnO ((TL.tl z).drop n) = (none, 0) := by
        unfold sgnO
        have e : SGN.find? (fun s => s.isPrefixOf ((TL.tl z).drop n)) = none := by
          rw [List.find?_eq_none]
          intro t ht q
          obtain ⟨j, hj⟩ := List.getElem?_of_mem ht
          have hj' : j < SGN.length := (List.getElem?_eq_some_iff.mp hj).1
          rw [hno j t (by rw [List.length_map]; exact hj') hj] at q
          cases q
        rw [e]
      rw [ef] at R
      exact ⟨_, rfl, ret_none R rfl⟩
theorem scTokAt : FnScope ["text", "at"] ["text", "at"] (defScope sTokAt) := ⟨rfl, rfl, rfl, by decide +kernel, rfl, by decide +kernel, by decide +kernel⟩
theorem ok_tokAt {f fW fN fS fG : Addr} {fd fdW fdN fdS fdG : FuncData} (F : Fun K "token_at" "token_at" sTokAt f fd) (T : Txt K mg)
    (GW : FnOk P w K mg base CX0 2 fW fdW ["text", "at"] spWordAt) (kW' : PySem.W.keepIn K (.ref fW) = true) (bW : Binds K fdW ["text", "at"] []) (gW : mg "word_at" = some (.ref fW))
    (GN : FnOk P w K mg base CX0 2 fN fdN ["text", "at"] spNumAt) (kN' : PySem.W.keepIn K (.ref fN) = true) (bN : Binds K fdN ["text", "at"] []) (gN : mg "number_at" = some (.ref fN))
    (GS : FnOk P w K mg base CX0 2 fS fdS ["text", "at"] spStrAt) (kS' : PySem.W.keepIn K (.ref fS) = true) (bS : Binds K fdS ["text", "at"] []) (gS : mg "string_at" = some (.ref fS))
    (GG : FnOk P w K mg base CX0 1 fG fdG ["text", "at"] spSignAt) (kG' : PySem.W.keepIn K (.ref fG) = true) (bG : Binds K fdG ["text", "at"] []) (gG : mg "sign_at" = some (.ref fG)) :
    FnOk P w K mg base CX0 3 f fd ["text", "at"] spTokAt := by
  refine F.ok scTokAt (fun vs H Q E h => ?_) (fun cdv A outer s H vs Q E hr h => ?_)
  · obtain ⟨z, n, rfl, _⟩ := h
    rfl
  · obtain ⟨z, n, rfl, hn, hz, R⟩ := h
    obtain ⟨tL, mL⟩ := T.letters
    obtain ⟨zw, tw, mw, ew⟩ := T.wch
    have hr1 : Room 1 _ := hr.mono (by decide)
    refine ⟨_, pss_cons (ps_if (pt_cmpR op_in_sign (pe_item_str (pv 0) (pv 1) (fun _ _ => rfl)) (pe_glob (v := .str (tx LET)) rfl mL ⟨_, rfl⟩) (by rfl))
          (pss_one (ps_ret (pe_call GW hr rfl gW kW' bW .nil pass0 (pa_cons (pv 0) (pa_cons (pv 1) pa_nil))))) pss_nil)
      (pss_cons (ps_if (pt_cmpR op_in_sign (pe_item_str (pv 0) (pv 1) (fun _ _ => rfl)) (pe_glob (v := .str zw) rfl mw ⟨_, rfl⟩) (by rfl))
          (pss_one (ps_ret (pe_call GN hr rfl gN kN' bN .nil pass0 (pa_cons (pv 0) (pa_cons (pv 1) pa_nil))))) pss_nil)
      (pss_cons (ps_if (pt_cmpR op_eq (pe_item_str (pv 0) (pv 1) (fun _ _ => rfl)) pe_str (nomark _))
          (pss_one (ps_ret (pe_call GS hr rfl gS kS' bS .nil pass0 (pa_cons (pv 0) (pa_cons (pv 1) pa_nil))))) pss_nil)
      (pss_one (ps_ret (pe_call GG hr1 rfl gG kG' bG .nil pass0 (pa_cons (pv 0) (pa_cons (pv 1) pa_nil))))))), ?_⟩
    have hlen : z.length = (TL.tl z).length := TL.len_tl z
    obtain ⟨c, hc, hd⟩ := drop_cons (l := TL.tl z) (n := n) (by omega)
    have it : z.cps[(n : Int).toNat]? = some c := by
      rw [Int.toNat_natCast]
      exact (Array.getElem?_toList (xs := z.cps)).symm.trans hc
    have b1 : (n : Int) < 2 ^ 63 := by omega
    refine ⟨_, rfl, _, rfl, z, _, c, rfl, rfl, by omega, b1, by omega, it, c, _, rfl, rfl, _, rfl, ?_⟩
    by_cases h1 : isL c = true
    · refine ifT h1 ?_
      refine ⟨_, rfl, _, rfl, z, n, rfl, by omega, hz, ?_⟩
      have e : tok ((TL.tl z).drop n) = (wordO (wd ((TL.tl z).drop n)), (wd ((TL.tl z).drop n)).length) := by
        rw [hd]
        exact if_pos h1
      rw [e] at R
      exact R
    · have h1' : isL c = false := by simpa using h1
      refine ifF h1' ?_
      refine ⟨_, rfl, _, rfl, z, _, c, rfl, rfl, by omega, b1, by omega, it, c, _, rfl, rfl, _, rfl, ?_⟩
      have ew' : decide (c ∈ zw.cps.toList) = isW c := by
        show decide (c ∈ TL.tl zw) = _
        rw [ew] <;> rfl
      by_cases h2 : isW c = true
      · refine ifT (ew'.trans h2) ?_
        refine ⟨_, rfl, _, rfl, z, n, c, _, rfl, hd, h2, hz, ?_⟩
        have e : tok ((TL.tl z).drop n) = (numO c (wd (c :: (TL.tl z).drop (n + 1))), (wd (c :: (TL.tl z).drop (n + 1))).length) := by
          rw [hd]
          exact (if_neg h1).trans (if_pos h2)
        rw [e] at R
        exact R
      · have h2' : isW c = false := by simpa using h2
        refine ifF (ew'.trans h2') ?_
        refine ⟨_, rfl, _, rfl, z, _, c, rfl, rfl, by omega, b1, by omega, it, rfl, _, rfl, ?_⟩
        have q1 : TL.tl (PySem.Str.ofString "\"") = [34] := by decide +kernel
        have eqc : decide (V.str ⟨#[c]⟩ = V.str (PySem.Str.ofString "\"")) = decide (c = 34) := by
          rw [str_eq, q1]
          by_cases h : c = 34
          · subst h
            decide
          · rw [decide_eq_false h]
            exact decide_eq_false fun q => h (List.cons.inj q).1
        by_cases h3 : c = 34
        · refine ifT (eqc.trans (decide_eq_true h3)) ?_
          refine ⟨_, rfl, _, rfl, z, n, rfl, by omega, hz, ?_⟩
          have e : tok ((TL.tl z).drop n) = (strO ((TL.tl z).drop (n + 1)), (tok ((TL.tl z).drop n)).2) ∧ (strO ((TL.tl z).drop (n + 1)) ≠ none → (tok ((TL.tl z).drop n)).2 = (wd ((TL.tl z).drop (n + 1))).length + 2) := by
            rw [hd]
            have e0 : tok (c :: (TL.tl z).drop (n + 1)) = if wd ((TL.tl z).drop (n + 1)) = [] ∨ 20 < (wd ((TL.tl z).drop (n + 1))).length ∨ (((TL.tl z).drop (n + 1)).drop (wd ((TL.tl z).drop (n + 1))).length).head? ≠ some 34
                then (none, (wd ((TL.tl z).drop (n + 1))).length + 1) else (some (kS, .inl (wd ((TL.tl z).drop (n + 1)))), (wd ((TL.tl z).drop (n + 1))).length + 2) := (if_neg h1).trans ((if_neg h2).trans (if_pos h3))
            rw [e0]
            unfold strO
            split
            · exact ⟨rfl, fun q => absurd rfl q⟩
            · exact ⟨rfl, fun _ => rfl⟩
          obtain ⟨e1, e2⟩ := e
          rw [e1] at R
          refine ⟨fun ho x p hp => R.1 ho x p hp, fun k v ho q p hq hp => ?_⟩
          have e3 := e2 (by rw [ho]; simp)
          have R2 := R.2 k v ho q p hq hp
          have e4 : (tok ((TL.tl z).drop n)).2 = (wd ((TL.tl z).drop (n + 1))).length + 2 := e3
          simp only [e4] at R2
          exact R2
        · refine ifF (eqc.trans (decide_eq_false h3)) ?_
          refine ⟨_, rfl, _, rfl, z, n, rfl, by omega, hz, ?_⟩
          have e : tok ((TL.tl z).drop n) = sgnO ((TL.tl z).drop n) := by
            rw [hd]
            exact (if_neg h1).trans ((if_neg h2).trans (if_neg h3))
          rw [e] at R
          exact R
end
end Tk

set_option Elab.async false
set_option linter.all false
set_option maxRecDepth 100000
set_option maxHeartbeats 2000000
namespace Tk
open PySem PySem.W PySem.Calls PyProof.Rows PySem.HandSPX
abbrev sMalI : Stmt := L2.inClass (top 2) 0
abbrev mN : Str := PySem.Str.ofString "module"
abbrev aN : Str := PySem.Str.ofString "at"
/-- what the written part says of Malformed, at C, of its __init__, at fI, and of the cell __class__, at cc -/
structure MalTxt (P : Program) (K : Frag) (mg : Str → Option Value) (C fI cc cda : Addr) : Prop where
  gC : mg "Malformed" = some (.ref C)
  gS : mg "super" = none
  cls : ∃ nm q N bs bm sn sub ab col dd k0 k1 k2 k3 k5, K.lookup C = some (excClassObj nm q C N bs bm true sn sub ab col dd k0 k1 k2 k3 k5 "ValueError.__new__") ∧ refsVE bm = true
  sa : findIn K (.ref C) "__setattr__" = some (some (.builtin "object.__setattr__"))
  iC : findIn K (.ref C) "__init__" = some (some (.ref fI))
  tC : typeIn K (.ref fI) = some (.type "function")
  kC : keepIn K (.ref C) = true
  exC : subIn K (.ref C) (.type "BaseException") = some true
  exV : subIn K (.ref C) (.type "ValueError") = some true
  mro : mroIn K C (.ref C) = some true
  tyC : typeIn K (.ref C) = some (.type "type")
  nM : findIn K (.ref C) "module" = some none
  nA : findIn K (.ref C) "at" = some none
  te : exmOne K (.ref C) (.ref C) = some true
  xf : L2.XfC K C
  opq : nsIn K cStatics "thirdparty.any" = some none
  sup : ks_superIn K C C "__init__" = some (some (.builtin "ValueError.__init__"))
  cell : ∃ cl cld csl, K.lookup cc = some ⟨cl, cld, .cell (some (.ref C)), csl⟩
  code : ∃ (ccl : Value) (cdd : Option Addr) (vs : Array Value) (ccs : Array (Option Value)) (file : Str) (tf : Tok), K.lookup cda = some ⟨ccl, cdd, .fields vs, ccs⟩ ∧ vs[2]? = some (.str file tf) ∧ ((P.main.file : Str) == file) = true
  top : (P.main.scope.names.lookup ("super" : Str)).isSome = false
  cdi : codeIn K (.ref cda) "Malformed.__init__" = true
  fn : ∃ (oc : Value) (od : Option Addr) (kV doc pm : Value) (an : Option Addr) (ct : Value) (osl : Array (Option Value)),
    K.lookup fI = some ⟨oc, od, .func (ksFn "__init__" "Malformed.__init__" (L2.defArgs sMalI) (L2.defBody sMalI) (L2.defScope sMalI) .none kV doc pm an (.ref cda) ct cc), osl⟩
/-- what __init__ leaves of a fresh exception at x -/
structure MalEnd (h h' : Heap) (x C dx t1 : Addr) (m n : Value) : Prop where
  keep : ∀ b o, b ≠ x → h.get? b = some o → h'.get? b = some o
  obj : h'.get? x = some { cls := .ref C, dict := some dx, data := .fields #[.ref t1, .none, .none, .none, .bool false, .none] }
  dbig : h.objs.size ≤ dx
  dne : dx ≠ x
  ns : h'.Ns1 dx (fun y => if y = aN then some n else if y = mN then some m else none)
theorem ns_keep {h h' : Heap} {L : Addr} {m : Str → Option Value} (n : h.Ns L m) (k : ∀ o, h.get? L = some o → h'.get? L = some o) : h'.Ns L m := by
  obtain ⟨o, es, ep, e, r⟩ := n
  exact ⟨o, es, ep, k o e, r⟩
theorem ns1_keep {h h' : Heap} {L : Addr} {m : Str → Option Value} (n : h.Ns1 L m) (k : ∀ o, h.get? L = some o → h'.get? L = some o) : h'.Ns1 L m := by
  obtain ⟨o, es, ep, e, r⟩ := n
  exact ⟨o, es, ep, k o e, r⟩
section
variable {prog : Program} {w : World} {A : Around} {R : Result → Shared → Prop} {K : Frag} {mg mb : Str → Option Value} {C fI cc cda : Addr}
/-- f'..{a}..{b}', a a text, b an int: some text -/
theorem msg2 {E : Value → Shared → Prop} {env : Env} {h : Heap} {g : Array GenState} {d : Drawn} {tk : Nat} {os : OsState} {mm : Str → Option Value} {a b c1 c2 m : Str} {tm tn : Tok} {n : Int} {p1 p2 p3 p4 p5 p6 p7 : Pos} {j1 j2 : Nat} {Q : Value → Shared → Prop}
    (hns : h.Ns env.locals mm) (hk : env.scope.kind = .function) (ha : mm a = some (.str m tm)) (hb : mm b = some (.int n tn)) (la : env.kindOf a = some .local) (lb : env.kindOf b = some .local)
    (da : (a == ("__debug__" : Str)) = false) (db : (b == ("__debug__" : Str)) = false) (s1 : c1.length ≤ 1000) (s2 : c2.length ≤ 1000) (sm : m.length ≤ 1000) (hn : n.natAbs.log2 < 1920) (sn : (PySem.Str.ofString (toString n)).length ≤ 1000)
    (hQ : ∀ out t tk', Q (.str out t) ⟨h, g, d, tk', os⟩) :
    wpAny (model prog w) A (eval (.JoinedStr [.Constant (.str c1) j1 p1, .FormattedValue (.Name a p2) (-1) none p3, .Constant (.str c2) j2 p4, .FormattedValue (.Name b p5) (-1) none p6] p7) env) Q E ⟨h, g, d, tk, os⟩ := by
  have lin : ∀ {k : Nat}, k ≤ 4000 → k ≤ sizeLine := fun h => Nat.le_trans h (by decide)
  have le : ∀ x y : Str, (x ++ y).length = x.length + y.length := fun x y => by
    rw [TL.len_tl, TL.tl_append, List.length_append, ← TL.len_tl, ← TL.len_tl]
  have e0 : (Str.empty ++ c1).length = c1.length := by rw [le]; show 0 + c1.length = c1.length; omega
  refine wpAny_JoinedStr ?_
  show Joins _ _ _ [eval _ _, eval _ _, eval _ _, eval _ _] _ _ _
  refine Calls.Constant_str ⟨c1, _, rfl, by rw [e0]; exact lin (by omega), ?_⟩
  have last : ∀ (t : Tok) (tk' : Nat), Joins (model prog w) A E [eval (.Constant (.str c2) j2 p4) env, eval (.FormattedValue (.Name b p5) (-1) none p6) env] (Str.empty ++ c1 ++ m)
      (fun out s₁ => out.length ≤ sizeLine ∧ Q (.str out s₁.toks) { s₁ with toks := s₁.toks + 1 }) ⟨h, g, d, tk', os⟩ := fun t tk' => by
    refine Calls.Constant_str ⟨c2, _, rfl, by rw [le, le, e0]; exact lin (by omega), ?_⟩
    refine wpAny_FormattedValue_plain (ESX.ldL hns hb ?_ hk lb db)
    refine wpAny_formatField_int hn ⟨_, _, rfl, ?_, ?_, ?_⟩
    · rw [le, le, le, e0]; exact lin (by omega)
    · show ((Str.empty ++ c1 ++ m ++ c2 ++ PySem.Str.ofString (toString n)).length) ≤ sizeLine
      rw [le, le, le, e0]; exact lin (by omega)
    · exact hQ _ _ _
  refine wpAny_FormattedValue_plain (ESX.ldL hns ha ?_ hk la da)
  have sz : (Str.empty ++ c1 ++ m).length ≤ sizeLine := by rw [le, e0]; exact lin (by omega)
  exact wpAny_formatField_str ⟨m, _, rfl, sz, last tm _⟩ ⟨m, _, rfl, sz, last tm _⟩ (lin (by omega))
theorem mal_init (T : MalTxt prog K mg C fI cc cda) {hp : Heap} {g : Array GenState} {d : Drawn} {tk : Nat} {os : OsState} {x t0 : Addr} {m : Str} {tm : Tok} {n : Int} {tn : Tok} (X : K.In hp) (hlim : hp.NoLimit) (hG : hp.Ns mainGlobals mg) (hB : hp.Ns builtinsNs mb)
    (hb : mb "super" = bootBuiltins "super") (hm : m.length ≤ 1000) (hn : n.natAbs.log2 < 1920) (hz : (PySem.Str.ofString (toString n)).length ≤ 1000) (hx : hp.get? x = some (excO C t0)) (hnx : K.lookup x = none) (hroom : A.depth < recursionLimit)
    (hq : ∀ h' tk' dx t1, MalEnd hp h' x C dx t1 (.str m tm) (.int n tn) → R (.ok (.ret .none)) ⟨h', g, d, tk', os⟩) :
    codeAny (model prog w) A (.call (.ref fI) ⟨[.ref x, .str m tm, .int n tn], []⟩) R ⟨hp, g, d, tk, os⟩ := by
  obtain ⟨oc, od, kV, doc, pm, an, ct, osl, ho⟩ := T.fn
  obtain ⟨nm, q, N, bs, bm, sn, sub, ab, col, dd, k0, k1, k2, k3, k5, hC, hbm⟩ := T.cls
  obtain ⟨cl, cld, csl, hcell⟩ := T.cell
  obtain ⟨ccl, cdd, vs, ccs, file, tf, hcode, hvs, hfile⟩ := T.code
  have hcl : clsIn K C = some { name := nm, bases := bs, mro := .ref C :: bm, ns := N, qualname := q, hasDict := true, slotNames := sn, subclasses := sub, abstract := ab, collection := col, hasDel := false } := by unfold clsIn; rw [hC] <;> rfl
  have hxL : hp.objs.size ≠ x := Nat.ne_of_gt (Heap.lt_size hx)
  refine ks_codeAny_call_defAt (binds := [("self", .ref x), ("module", .str m tm), ("at", .int n tn)]) hroom (X _ _ ho) rfl hlim (codeRec_of X T.cdi) rfl (BindsTo.of_eq (by first | rfl | with_unfolding_all rfl))
    (show ∀ y ∈ (L2.defScope sMalI).names, y.2 ≠ .cell by decide +kernel) (locs rfl) (fun h1 hns1 k1' => ?_) (by rfl) (by rfl) (by rfl)
  have X1 : K.In h1 := X.keeps k1'
  have hx1 := k1' _ _ hx
  show _root_.PySem.wpAt _ _ _ (execs _ _) _ _ _
  refine ks_wpAt_execs_cons (ks_wpAt_Expr_any (ks_wpAt_MethodCall ?_))
  refine ks_wpAt_super_base (by rfl) (by rfl) (by decide) rfl (X1 _ _ ho) rfl rfl rfl (X1 _ _ hcode) rfl hvs hfile T.top ?_
  refine ks_loadName_global rfl (by rfl) (Calls.loadGlobal_builtin (ns_keep hG fun o => k1' _ o) T.gS (ns_keep hB fun o => k1' _ o) (hb.trans (by first | boot_by_name | rfl | kernel_rfl)) ⟨rfl, ?_⟩)
  refine wpAny_loadName_free rfl (by rfl) rfl ⟨_, X1 _ _ hcell, rfl⟩ ?_
  refine wpAny_loadName_local rfl (by rfl) hns1 (v := .ref x) (by first | rfl | with_unfolding_all rfl | kernel_rfl) ?_
  have hC1 := X1 _ _ hC
  refine ks_wpAny_isType_cls hC1 rfl ⟨rfl, ?_⟩
  refine ks_wpAny_call_super hC1 rfl hx1 rfl (fun c e => by cases e) (looks_mroIn X1 T.mro) (fun h2 hso k2' => ?_)
  have X2 : K.In h2 := X1.keeps k2'
  have hx2 := k2' _ _ hx1
  have I2 : W.InstAt h2 x (excO C t0) C none := ⟨hx2, rfl, rfl, trivial⟩
  have hI2 : Looks (model prog w) h2 (isInstance (.ref x) (.type "ValueError")) true := I2.type.andThen (looks_subIn X2 T.exV)
  have hxC : x ≠ C := ks_ne X2 I2 hcl
  have hsup := T.sup
  unfold ks_superIn at hsup
  rw [hcl] at hsup
  refine kxs_getMethod kxs_ValueError hso (looks_opaque X2 T.opq) (l₀ := .ref C :: bm) (fun A Q E s k q => wpAny_bind ((looks_clsIn X2 hcl) A _ E s k (wpAny_pure q))) rfl X2 hsup hI2 hxC (by decide) ?_
  -- the call of the bound __init__
  have k3' : ∀ b o, h2.get? b = some o → (h2.push (kxs_mw "ValueError.__init__" x)).get? b = some o := fun b o e => Heap.get?_push_of_some _ e
  have hns3 := ns_keep hns1 fun o e => k3' _ _ (k2' _ _ e)
  have hu : (h2.push (kxs_mw "ValueError.__init__" x)).get? h2.objs.size = some (kxs_mw "ValueError.__init__" x) := Heap.get?_push_size _ rfl
  have hx3 := k3' _ _ hx2
  have X3 : K.In (h2.push (kxs_mw "ValueError.__init__" x)) := X2.keeps k3'
  have old3 : ∀ b o, hp.get? b = some o → (h2.push (kxs_mw "ValueError.__init__" x)).get? b = some o := fun b o e => k3' _ _ (k2' _ _ (k1' _ _ e))
  have big : hp.objs.size ≤ (h2.push (kxs_mw "ValueError.__init__" x)).objs.size := by
    have z1 := hns3.lt
    exact Nat.le_of_lt z1
  generalize h2.push (kxs_mw "ValueError.__init__" x) = h3 at hns3 hu hx3 X3 old3 big ⊢
  refine kxs_callWith (i := "ValueError.__init__") (x := x) (by rfl) ?_
  refine evalArgs_plain ?_
  refine Calls.spliced_cons (msg2 (p7 := ⟨7, 25, 7, 64⟩) hns3 rfl (by rfl) (by rfl) (by rfl) (by rfl) (by decide) (by decide) (by decide +kernel) (by decide +kernel) hm hn hz fun out t tk' => ?_)
  refine Calls.spliced_nil ⟨hu, ?_⟩
  show wpAny _ _ (call (.ref h2.objs.size) [.str out t]) _ _ _
  have hC3 := X3 _ _ hC
  refine wpAny_call (codeAny_of_tree ?_)
  show wpAny _ (Around.in1 _) (callAny (.ref h2.objs.size) ⟨[.str out t], []⟩) _ _ _
  simp only [callAny]
  refine wpAny_bind (wpAny_load hu ?_)
  simp only [kxs_mw, show (Value.type "method-wrapper" == Value.type "method" || Value.type "method-wrapper" == Value.type "builtin_function_or_method" || Value.type "method-wrapper" == Value.type "method-wrapper") = true by decide, if_true]
  refine KFB.if_so (by decide) ?_
  refine wpAny_bind (check_bound_init F.excBase_ValueError.toExcCallFacts hC3 hx3 rfl (wpAny_bind (wpAny_pure (wpAny_pure ?_))))
  refine ⟨plainId_quiet F.excBase_ValueError.init.plain _, codeAny_builtin F.excBase_ValueError.initEntry ?_⟩
  refine exc_init_tree (cls := .ref C) (t0 := t0) (dv := none) (c2 := .none) (c3 := .none) (b4 := .bool false) hx3 (by show 1 ≤ sizeLine; decide) fun h4 k4 hx4 _ => ?_
  -- self.module = module; self.at = at
  have X4 : K.In h4 := fun b o e => k4 b o (fun z => by rw [z, hnx] at e; cases e) (X3 b o e)
  have hns4 := ns_keep hns3 fun o e => k4 _ o hxL e
  show _root_.PySem.wpAt _ _ _ (execs _ _) _ _ _
  refine wpAt_of_wpAny (wpAny_execs_cons (plainObj_wpAny_Assign_Attribute ?_))
  refine ESX.ldL (v := .str m tm) hns4 (by rfl) (ESX.ldL (v := .ref x) hns4 (by rfl) ?_)
  refine set_plain X4 (ox := excO C h3.objs.size) (od := none) ⟨hx4, rfl, rfl, trivial⟩ T.sa ?_
  refine exc_osa X4 hx4 hcl (show refsVE (.ref C :: bm) = true from hbm) rfl T.nM (fun h5 tk5 dx k5' dn dne hx5 hn5 => ?_)
  show wpAny _ _ (execs _ _) _ _ _
  have X5 : K.In h5 := fun b o e => k5' b o (fun z => by rw [z, hnx] at e; cases e) (X4 b o e)
  have hns5 := ns_keep hns4 fun o e => k5' _ o hxL e
  refine wpAny_execs_cons (plainObj_wpAny_Assign_Attribute ?_)
  refine ESX.ldL (v := .int n tn) hns5 (by rfl) (ESX.ldL (v := .ref x) hns5 (by rfl) ?_)
  obtain ⟨oD, esD, epD, hoD, rD⟩ := id hn5
  have wi : PySem.Within (fun y => if y = mN then some (Value.str m tm) else none) [mN] := fun y hy => by
    by_cases c : y = mN
    · rw [c]
      exact List.mem_singleton.mpr rfl
    · exact absurd (if_neg c) hy
  refine set_plain X5 (ox := { cls := .ref C, dict := some dx, data := .fields #[.ref h3.objs.size, .none, .none, .none, .bool false, .none] }) (od := some oD) ⟨hx5, rfl, rfl, hoD⟩ T.sa ?_
  refine OEX.osa_old X5 hx5 hn5 wi (by decide) hcl (show refsVE (.ref C :: bm) = true from hbm) rfl T.nA (fun h6 tk6 k6' hn6 => ?_)
  show wpAny _ _ (execs _ _) _ _ _
  have s3 : hp.objs.size ≤ h4.objs.size := Nat.le_of_lt hns4.lt
  have dxb : hp.objs.size ≤ dx := Nat.le_trans s3 dn
  refine wpAny_execs_nil (hq h6 tk6 dx h3.objs.size ⟨fun b o hb e => ?_, k6' _ _ (Ne.symm dne) hx5, dxb, dne, hn6⟩)
  have nd : b ≠ dx := Nat.ne_of_lt (Nat.lt_of_lt_of_le (Heap.lt_size e) dxb)
  exact k6' b o nd (k5' b o hb (k4 b o hb (old3 b o e)))
/-- a made Malformed -/
structure MalMade (h h' : Heap) (e C d : Addr) (m n : Value) : Prop where
  keep : ∀ b o, h.get? b = some o → h'.get? b = some o
  new : h.objs.size ≤ e
  obj : ∃ oe vs, h'.get? e = some oe ∧ oe.cls = .ref C ∧ oe.dict = some d ∧ oe.data = .fields vs ∧ vs[1]? = some .none
  dbig : h.objs.size ≤ d
  dne : d ≠ e
  ns : h'.Ns1 d (fun y => if y = aN then some n else if y = mN then some m else none)
theorem mal_made (T : MalTxt prog K mg C fI cc cda) {hp : Heap} {g : Array GenState} {d : Drawn} {tk : Nat} {os : OsState} {m : Str} {tm : Tok} {n : Int} {tn : Tok} (X : K.In hp) (hlim : hp.NoLimit) (hG : hp.Ns mainGlobals mg) (hB : hp.Ns builtinsNs mb)
    (hb : mb "super" = bootBuiltins "super") (hm : m.length ≤ 1000) (hn : n.natAbs.log2 < 1920) (hz : (PySem.Str.ofString (toString n)).length ≤ 1000) (hroom : A.depth + 1 < recursionLimit)
    (hq : ∀ h' tk' e dx, MalMade hp h' e C dx (.str m tm) (.int n tn) → R (.ok (.ret (.ref e))) ⟨h', g, d, tk', os⟩) :
    codeAny (model prog w) A (.call (.ref C) ⟨[.str m tm, .int n tn], []⟩) R ⟨hp, g, d, tk, os⟩ := by
  obtain ⟨nm, q, N, bs, bm, sn, sub, ab, col, dd, k0, k1, k2, k3, k5, hC, hbm⟩ := T.cls
  have kk : ∀ b o, hp.get? b = some o → ((hp.push (kdv_tup [.str m tm, .int n tn])).push (excO C hp.objs.size)).get? b = some o := fun b o e => Heap.get?_push_of_some _ (Heap.get?_push_of_some _ e)
  have hget : ((hp.push (kdv_tup [.str m tm, .int n tn])).push (excO C hp.objs.size)).get? (hp.objs.size + 1) = some (excO C hp.objs.size) := by heap_get
  have hnx : K.lookup (hp.objs.size + 1) = none := by
    cases e : K.lookup (hp.objs.size + 1) with
    | none => rfl
    | some o => exact absurd (Nat.lt_of_succ_lt (Heap.lt_size (show hp.get? (hp.objs.size + 1) = some o from X _ _ e))) (Nat.lt_irrefl _)
  refine call_own F.excBase_ValueError (fun Y => refsVE_contains Y bm hbm) (X _ _ hC) (looks_findIn X T.iC) (fun self => bind_fn X self T.tC) (by show 2 ≤ sizeLine; decide) ?_
  refine mal_init (mb := mb) T (X.keeps kk) (hlim.keeps kk) (ns_keep hG fun o => kk _ o) (ns_keep hB fun o => kk _ o) hb hm hn hz hget hnx (by show A.depth + 1 < recursionLimit; exact hroom) fun h' tk' dx t1 ⟨k', hx, dn, dne, hns⟩ => ?_
  have old : ∀ b o, hp.get? b = some o → h'.get? b = some o := fun b o e => k' b o (Nat.ne_of_lt (Nat.lt_succ_of_lt (Heap.lt_size e))) (kk b o e)
  have z : hp.objs.size ≤ dx := by
    refine Nat.le_trans ?_ dn
    rw [Heap.size_push, Heap.size_push]
    omega
  exact ⟨rfl, hq h' tk' (hp.objs.size + 1) dx ⟨old, Nat.le_succ _, ⟨_, _, hx, rfl, rfl, rfl, rfl⟩, z, dne, hns⟩⟩
end
end Tk
namespace Tk
open PySem L2 Lx PyProof.Rows
def malF (m n : V) : List (Str × V) := [(aN, n), (mN, m)]
theorem malF_at (m n : V) : List.lookup aN (malF m n) = some n := by
  unfold malF
  simp [List.lookup]
theorem malF_mod (m n : V) : List.lookup mN (malF m n) = some m := by
  unfold malF
  have e : (mN == aN) = false := by decide +kernel
  simp [List.lookup, e]
theorem relO_mal {m n : V} {m' n' : Value} (rm : RelV m m') (rn : RelV n n') (f : Str) : RelO (List.lookup f (malF m n)) (if f = aN then some n' else if f = mN then some m' else none) := by
  have z0 : ∀ f, RelO (List.lookup f [(mN, m)]) (if f = mN then some m' else none) := relO_put (fs := []) (mA := fun _ => none) rm fun _ => True.intro
  exact relO_put rn z0 f
section
variable {X : Cx} {C fI cc cda : Addr}
/-- Malformed(module, at) -/
def tMkMal (C : Addr) (ta : TA) : L2.St → Hp → XK → Prop := fun σ H Q => ta σ H fun vs H1 => ∃ (m : Str) (n : Int), vs = [.str m, .int n] ∧ m.length ≤ 1000 ∧ n.natAbs.log2 < 1920 ∧ (PySem.Str.ofString (toString n)).length ≤ 1000 ∧
  ∀ d, H1 d = none → Q (.ref C) (some d) (upd H1 d (.xd (malF (.str m) (.int n))))
theorem pmk_mal {a b : Expr} {ta : TA} {p pos : Pos} {k : Nat} (T : MalTxt X.prog X.K X.mg C fI cc cda) (hr : Room k X.A) (ha : PA X [a, b] ta) (hg : Gl X "Malformed" := by rfl)
    (he : starEach (a :: [b]) X.env = (false, eval a X.env) :: starEach [b] X.env := by rfl) (hpl : (backTo pos (starEach [b] X.env)).any (·.1) = false := by rfl) :
    PMk X (.Call (.Name "Malformed" p) [a, b] [] pos) (tMkMal C ta) := by
  intro pins s σ H Q I h
  refine wpAny_Call_Name_kw (ld_glob I hg T.gC ?_)
  refine PySem.W.callWith_K (h₀ := X.base) I.ok.mod.kin T.kC (thn (ha.run pos pins s σ H _ I h) fun us s1 hh => ?_) he hpl
  obtain ⟨vs, H1, I1, r1, m, n, ev, hm, hn, hz, q1⟩ := hh
  subst ev
  refine ⟨I1.kIn, ?_⟩
  obtain ⟨u1, u2, eus, rm, rn⟩ : ∃ u1 u2, us = [u1, u2] ∧ RelV (V.str m) u1 ∧ RelV (V.int n) u2 := by
    cases r1 with
    | cons ra rr =>
      cases rr with
      | cons rb rc =>
        cases rc
        exact ⟨_, _, rfl, ra, rb⟩
  subst eus
  obtain ⟨tm, em⟩ := id rm
  obtain ⟨tn, en⟩ := id rn
  subst em
  subst en
  have hlim := I1.nolimit
  obtain ⟨mb, hB, hbb⟩ := I1.mod.blt
  have hG1 : s1.heap.Ns mainGlobals X.mg := I1.mod.glob.keeps I1.bk
  have hB1 : s1.heap.Ns builtinsNs mb := hB.keeps I1.bk
  have hK1 := I1.kIn
  obtain ⟨hp, g, dr, tk, os⟩ := s1
  refine wpAny_call (mal_made (mb := mb) T hK1 hlim hG1 hB1 (hbb _ (by decide)) hm hn hz (by have := hr.dp; omega) fun h' tk' e d M => ?_)
  show MkP X pins σ Q (.ref e) ⟨h', g, dr, tk', os⟩
  obtain ⟨oe, fv, hoe, hc, hd, hdat, h1⟩ := M.obj
  have hns := M.ns
  obtain ⟨G', g1, g2⟩ := restrict h' fun b => decide (b ≠ e)
  have gk : ∀ b, b ≠ e → G'.get? b = h'.get? b := fun b hb => g1 b (decide_eq_true hb)
  have ge : G'.get? e = none := g2 e (by simp)
  have old : ∀ b o, hp.get? b = some o → G'.get? b = some o := fun b o q => (gk b (Nat.ne_of_lt (Nat.lt_of_lt_of_le (Heap.lt_size q) M.new))).trans (M.keep b o q)
  have ob : ObjOk X.prog X.w (upd H1 d (.xd (malF (.str m) (.int n)))) G' d (.xd (malF (.str m) (.int n))) := ⟨_, hns.at (fun o q => (gk d M.dne).trans q), fun f => relO_mal rm rn f⟩
  have J : Inv X pins σ (upd H1 d (.xd (malF (.str m) (.int n)))) ⟨G', g, dr, tk', os⟩ := I1.laid (t' := tk') old M.dbig ob
  refine ⟨e, oe, fv, ⟨G', g, dr, tk', os⟩, _, .ref C, some d, rfl, J, fun b o q => ?_, ge, hoe, ⟨hc, hd⟩, hdat, h1, ?_, rfl, I1.bare, raises_own T.exC T.tyC, q1 d (I1.hok.fresh M.dbig)⟩
  · by_cases hb : b = e
    · have q' : G'.get? b = some o := q
      rw [hb, ge] at q'
      cases q'
    · exact (gk b hb).symm.trans q
  · rw [upd_ne (Ne.symm M.dne)]
    exact I1.hok.fresh M.new
/-- raise Malformed(module, at) -/
def tRaiseMal (C : Addr) (W : WX) (ta : TA) : TS := fun _ σ H => tMkMal C ta σ H fun cls d H' => W cls d σ H'
theorem ps_raiseMal {a b : Expr} {ta : TA} {W : WX} {p pos pos2 : Pos} {k : Nat} (hc : X.calm = true) (T : MalTxt X.prog X.K X.mg C fI cc cda) (hr : Room k X.A) (tk : Takes X W) (ha : PA X [a, b] ta) (hg : Gl X "Malformed" := by rfl)
    (he : starEach (a :: [b]) X.env = (false, eval a X.env) :: starEach [b] X.env := by rfl) (hpl : (backTo pos (starEach [b] X.env)).any (·.1) = false := by rfl) :
    PS X (.Raise (some (.Call (.Name "Malformed" p) [a, b] [] pos)) none pos2) (tRaiseMal C W ta) := ps_raise hc tk (pmk_mal T hr ha hg he hpl)
end
end Tk

set_option Elab.async false
set_option linter.all false
set_option maxRecDepth 100000
namespace Tk
open PySem L2 Lx
/-! ### a token takes some signs, all of them there -/
theorem tok_len {l : List Nat} {k : List Nat} {v : Tv} {n : Nat} (h : tok l = (some (k, v), n)) : 0 < n ∧ n ≤ l.length := by
  cases l with
  | nil => cases h
  | cons c r =>
    by_cases h1 : isL c = true
    · have e : (tok (c :: r)).2 = (wd (c :: r)).length := congrArg Prod.snd (if_pos h1)
      have e2 : wd (c :: r) = c :: wd r := List.takeWhile_cons_of_pos (L_W h1)
      have e3 := wd_len (c :: r)
      rw [h] at e
      have e4 : n = (wd (c :: r)).length := e
      rw [e2, List.length_cons] at e4 e3
      omega
    · by_cases h2 : isW c = true
      · have e : (tok (c :: r)).2 = (wd (c :: r)).length := congrArg Prod.snd ((if_neg h1).trans (if_pos h2))
        have e2 : wd (c :: r) = c :: wd r := List.takeWhile_cons_of_pos h2
        have e3 := wd_len (c :: r)
        rw [h] at e
        have e4 : n = (wd (c :: r)).length := e
        rw [e2, List.length_cons] at e4 e3
        omega
      · by_cases h3 : c = 34
        · have e0 : tok (c :: r) = if wd r = [] ∨ 20 < (wd r).length ∨ (r.drop (wd r).length).head? ≠ some 34 then (none, (wd r).length + 1) else (some (kS, .inl (wd r)), (wd r).length + 2) :=
            (if_neg h1).trans ((if_neg h2).trans (if_pos h3))
          rw [h] at e0
          split at e0
          · cases e0
          · rename_i hn
            have e1 : n = (wd r).length + 2 := congrArg Prod.snd e0
            have h5 : (r.drop (wd r).length).head? = some 34 := Classical.byContradiction fun z => hn (.inr (.inr z))
            have h6 : (wd r).length < r.length := by
              rcases Nat.lt_or_ge (wd r).length r.length with q | q
              · exact q
              · rw [List.drop_of_length_le q] at h5
                cases h5
            rw [List.length_cons]
            omega
        · have e0 : tok (c :: r) = sgnO (c :: r) := (if_neg h1).trans ((if_neg h2).trans (if_neg h3))
          rw [h] at e0
          unfold sgnO at e0
          cases hf : SGN.find? (fun s => s.isPrefixOf (c :: r)) with
          | none =>
            rw [hf] at e0
            cases e0
          | some s =>
            rw [hf] at e0
            have e1 : n = s.length := congrArg Prod.snd e0
            have hs := sgn_facts s (List.mem_of_find?_eq_some hf)
            have hp := List.find?_some hf
            have hp2 := List.IsPrefix.length_le (List.isPrefixOf_iff_prefix.mp hp)
            have := List.length_pos_iff.mpr hs.1
            omega
/-! ### the list of tokens -/
def tkV (t : Tk) : List V := [.str (tx t.k), tv t.v, .int (t.i : Int)]
inductive TkL (H : Hp) : List V → List Tk → Prop where
  | nil : TkL H [] []
  | cons {a : Addr} {rs : List V} {t : Tk} {ts : List Tk} (h : H a = some (.tup (tkV t))) (r : TkL H rs ts) : TkL H (.ref a :: rs) (t :: ts)
theorem TkL.len {H : Hp} {rs : List V} {ts : List Tk} (h : TkL H rs ts) : rs.length = ts.length := by
  induction h with
  | nil => rfl
  | cons h r ih => rw [List.length_cons, List.length_cons, ih]
theorem TkL.snoc {H : Hp} {rs : List V} {ts : List Tk} {a : Addr} {t : Tk} (h : TkL H rs ts) (ha : H a = some (.tup (tkV t))) : TkL H (rs ++ [.ref a]) (ts ++ [t]) := by
  induction h with
  | nil => exact .cons ha .nil
  | cons h r ih => exact .cons h ih
theorem TkL.keep {H H' : Hp} {rs : List V} {ts : List Tk} (h : TkL H rs ts) (k : ∀ a xs, H a = some (.tup xs) → H' a = some (.tup xs)) : TkL H' rs ts := by
  induction h with
  | nil => exact .nil
  | cons h r ih => exact .cons (k _ _ h) ih
theorem TkL.get {H : Hp} {rs : List V} {ts : List Tk} (h : TkL H rs ts) : ∀ {i : Nat} {r : V}, rs[i]? = some r → ∃ a t, r = .ref a ∧ ts[i]? = some t ∧ H a = some (.tup (tkV t)) := by
  induction h with
  | nil => intro i r e; simp at e
  | @cons a rs t ts h r ih =>
    intro i x e
    cases i with
    | zero =>
      cases e
      exact ⟨a, t, rfl, rfl, h⟩
    | succ i => exact ih (i := i) (by simpa using e)
theorem small_log {n : Nat} (h : n ≤ 20000) : (n : Int).natAbs.log2 < 1920 := by
  rw [Int.natAbs_natCast]
  by_cases h0 : n = 0
  · subst h0
    decide
  · have h1 : n.log2 < 15 := (Nat.log2_lt h0).mpr (by omega)
    omega
theorem small_txt {n : Nat} (h : n ≤ 20000) : (PySem.Str.ofString (toString (n : Int))).length ≤ 1000 :=
  Nat.le_trans (PyProof.Rows.toString_length_le (v := (n : Int)) (by omega) (k := 5) (by decide) (by omega)) (by decide)
/-- tokens(text, module) -/
def spToks (C : Addr) : Sp := fun vs H Q E => ∃ (z m : Str) (ts : List Tk) (b : Option Nat), vs = [.str z, .str m] ∧ z.length ≤ 20000 ∧ m.length ≤ 1000 ∧ Lex (gap false (TL.tl z)) ((TL.tl z).drop (gap false (TL.tl z))) ts b ∧
  (b = none → ∀ (H' : Hp) (p : Addr) (rs : List V), Same H H' → H p = none → H' p = some (.lst rs) → TkL H' rs ts → Q (.ref p) H') ∧
  ∀ i : Nat, b = some i → ∀ (H' : Hp) (d : Addr), Same H H' → H' d = some (.xd (malF (.str m) (.int (i : Int)))) → E (.ref C) (some d) H'
def nameB (l : List Nat) : Bool := match l with
  | [] => false
  | c :: r => isL c && (decide ((wd (c :: r)).length = (c :: r).length) && (decide ((c :: r).length ≤ 20) && !decide ((c :: r) ∈ RES)))
def spIsName : Sp := fun vs H Q _ => ∃ v, vs = [v] ∧ ((∃ z : Str, v = .str z ∧ z.length ≤ 20000 ∧ Q (.bl (nameB (TL.tl z))) H) ∨ ∃ i : Int, v = .int i ∧ Q (.bl false) H)
section
variable {P : Program} {w : World} {K : PySem.W.Frag} {mg : Str → Option Value} {base : Heap}
theorem scToks : FnScope ["text", "module", "found", "at", "token", "end"] ["text", "module"] (defScope sTokens) := ⟨rfl, rfl, rfl, by decide +kernel, rfl, by decide +kernel, by decide +kernel⟩
theorem ok_toks {f fG fT C fI cc cda : Addr} {fd fdG fdT : FuncData} (F : Fun K "tokens" "tokens" sTokens f fd) (T : Txt K mg) (M : MalTxt P K mg C fI cc cda)
    (GG : FnOk P w K mg base CX0 2 fG fdG ["text", "at"] spGap) (kG' : PySem.W.keepIn K (.ref fG) = true) (bG : Binds K fdG ["text", "at"] []) (gG : mg "gap_end" = some (.ref fG))
    (GT : FnOk P w K mg base CX0 3 fT fdT ["text", "at"] spTokAt) (kT' : PySem.W.keepIn K (.ref fT) = true) (bT : Binds K fdT ["text", "at"] []) (gT : mg "token_at" = some (.ref fT)) :
    FnOk P w K mg base (L2.CX P w) 4 f fd ["text", "module"] (spToks C) := by
  refine F.okX scToks (fun vs H Q E h => ?_) (fun cdv A outer s H vs Q E hr h => ?_)
  · obtain ⟨z, m, ts, b, rfl, _⟩ := h
    rfl
  · obtain ⟨z, m, ts, b, rfl, hz, hm, hL, kQ, kE⟩ := h
    obtain ⟨tM, mM⟩ := T.most
    have hr2 : Room 2 _ := hr.mono (by decide)
    have hlen : z.length = (TL.tl z).length := TL.len_tl z
    refine ⟨_, pss_cons (ps_if (pt_cmpR op_gt (pe_callB call_len_str (by rfl) T.len PySem.boot_len (pa_cons (pv 0) pa_nil)) (pe_glob (v := .int 20000) rfl mM ⟨_, rfl⟩) (nomark _)) (pss_one ps_never) pss_nil)
      (pss_cons (ps_set (i := 2) scToks.nd rfl (.inl rfl) (pe_lst pa_nil))
      (pss_cons (ps_set (i := 3) scToks.nd rfl (.inl rfl) (pe_call GG hr2 rfl gG kG' bG .nil pass0 (pa_cons (pv 0) (pa_cons pe_int pa_nil))))
      (pss_cons (ps_while (passes_of rfl) (pt_cmpR op_lt (pv 3) (pe_callB call_len_str (by rfl) T.len PySem.boot_len (pa_cons (pv 0) pa_nil)) (nomark _))
        (pss_cons (ps_asg (pe_call GT hr rfl gT kT' bT .nil pass0 (pa_cons (pv 0) (pa_cons (pv 3) pa_nil))) (pg_tup rfl (pgs_cons (pg_name (i := 4) scToks.nd rfl (.inl rfl)) (pgs_cons (pg_name (i := 5) scToks.nd rfl (.inl rfl)) pgs_nil))))
        (pss_cons (ps_if (pt_cmpR op_isN (pv 4) pe_non (nomark _)) (pss_one (ps_raiseMal rfl M hr (takes_of rfl rfl rfl rfl) (pa_cons (pv 1) (pa_cons (pv 3) pa_nil)))) pss_nil)
        (pss_cons (ps_expr (pe_bm PySem.F.plainAttrs_list PySem.F.slot_list_append PySem.F.type_list_append mt_append (pv 2) (pa_cons (pv 4) pa_nil)))
        (pss_one (ps_set (i := 3) scToks.nd rfl (.inl rfl) (pe_call GG hr2 rfl gG kG' bG .nil pass0 (pa_cons (pv 0) (pa_cons (pv 5) pa_nil)))))))))
      (pss_one (ps_ret (pv 2)))))), ?_⟩
    -- the length; found = []; at = gap_end(text, 0)
    refine ⟨_, rfl, z, rfl, line20 hz, _, _, rfl, rfl, _, rfl, ifF (decide_eq_false (by omega)) ?_⟩
    refine ⟨Nat.zero_le _, fun D hD => ?_⟩
    refine ⟨_, rfl, z, 0, rfl, Nat.zero_le _, hz, ?_⟩
    rw [List.drop_zero, Nat.zero_add]
    have hg0 := gap_le false (TL.tl z)
    let W : Nat → St → Hp → Prop := fun x σ H' => ∃ (j : Nat) (dn rest : List Tk) (v1 v2 : Option V) (rs : List V), Same H H' ∧ H' D = some (.lst rs) ∧ TkL H' rs dn ∧
      σ = [some (.str z), some (.str m), some (.ref D), some (.int (j : Int)), v1, v2] ∧ j ≤ z.length ∧ Lex j ((TL.tl z).drop j) rest b ∧ ts = dn ++ rest ∧ x = rest.length ∧ dn.length ≤ j
    refine ⟨W, ⟨_, gap false (TL.tl z), [], ts, none, none, [], fun c o e => ?_, upd_same, .nil, rfl, by omega, hL, rfl, rfl, Nat.zero_le _⟩, ?_⟩
    · rw [upd_ne (ne_of_none e hD)]
      exact e
    rintro x σ H' ⟨j, dn, rest, v1, v2, rs, hS, hF, hT, rfl, hj, hX, hts, rfl, hdn⟩
    refine ⟨_, rfl, _, rfl, z, rfl, line20 hz, _, _, rfl, rfl, _, rfl, ?_⟩
    by_cases hlt : j < z.length
    · refine ifT (decide_eq_true (by omega)) ?_
      have hne : (TL.tl z).drop j ≠ [] := by
        obtain ⟨c, _, hd⟩ := drop_cons (l := TL.tl z) (n := j) (by omega)
        rw [hd]
        simp
      refine ⟨fun σ' H' => ∃ m', m' < rest.length ∧ W m' σ' H', fun _ _ h => h, ?_⟩
      refine ⟨_, rfl, _, rfl, z, j, rfl, hlt, hz, ?_, ?_⟩
      · -- no token: raised
        intro ho y p hp
        refine ⟨p, _, rfl, SqT.of upd_same, rfl, _, _, rfl, _, _, rfl, rfl, ?_⟩
        refine ⟨_, rfl, rfl, _, rfl, ifT (decide_eq_true rfl) ?_⟩
        refine ⟨_, rfl, _, rfl, m, (j : Int), rfl, hm, small_log (by omega), small_txt (by omega), fun d hd => ?_⟩
        have hb : b = some j := by
          generalize hl : (TL.tl z).drop j = l at hX ho hne
          cases hX with
          | done => exact absurd rfl hne
          | bad h0 h => rfl
          | more h0 h hg r =>
            rw [h] at ho
            cases ho
        refine kE j hb _ d (fun c o e => ?_) upd_same
        have e1 := hS c o e
        rw [upd_ne (ne_of_none (by rw [upd_ne (ne_of_none e1 hp)]; exact e1) hd), upd_ne (ne_of_none e1 hp)]
        exact e1
      · -- a token more
        intro k v ho q p hq hp
        obtain ⟨n, g, tl', hr', hrest, htok, hg, hX'⟩ : ∃ n g tl', True ∧ rest = ⟨k, v, j⟩ :: tl' ∧ tok ((TL.tl z).drop j) = (some (k, v), n) ∧ gap false (((TL.tl z).drop j).drop n) = g ∧ Lex (j + n + g) (((TL.tl z).drop j).drop (n + g)) tl' b := by
          generalize hl : (TL.tl z).drop j = l at hX ho hne
          cases hX with
          | done => exact absurd rfl hne
          | bad h0 h =>
            rw [h] at ho
            cases ho
          | @more _ n g _ k' v' tl' _ h0 h hg r =>
            rw [h] at ho
            have e : (k', v') = (k, v) := Option.some.inj ho
            cases e
            exact ⟨n, g, tl', trivial, rfl, h, hg, r⟩
        obtain ⟨n1, n2⟩ := tok_len htok
        rw [List.length_drop] at n2
        have e2 : (tok ((TL.tl z).drop j)).2 = n := by rw [htok]
        rw [e2]
        have eq : upd (upd H' q (.tup [.str (tx k), tv v, .int (j : Int)])) p (.tup [.ref q, .int ((j + n : Nat) : Int)]) q = some (.tup (tkV ⟨k, v, j⟩)) := by
          have nqp : q ≠ p := fun z => by
            rw [← z, upd_same] at hp
            cases hp
          rw [upd_ne nqp, upd_same]
          rfl
        have pn : H' p = none := by
          by_cases c : p = q
          · rw [c, upd_same] at hp
            cases hp
          · rw [upd_ne c] at hp
            exact hp
        have keep : ∀ c o, H' c = some o → upd (upd H' q (.tup [.str (tx k), tv v, .int (j : Int)])) p (.tup [.ref q, .int ((j + n : Nat) : Int)]) c = some o := fun c o e => by
          rw [upd_ne (ne_of_none e pn), upd_ne (ne_of_none e hq)]
          exact e
        refine ⟨p, _, rfl, SqT.of upd_same, rfl, _, _, rfl, _, _, rfl, rfl, ?_⟩
        refine ⟨_, rfl, rfl, _, rfl, ifF (decide_eq_false (by simp)) ?_⟩
        have hD2 := keep D _ hF
        have hlrs := hT.len
        refine ⟨_, rfl, .inl ⟨rfl, _, SqL.of hD2⟩, _, rfl, D, _, _, rfl, rfl, hD2, Nat.lt_of_le_of_lt (show rs.length ≤ 20000 by omega) (by decide), ?_⟩
        have hgl := gap_le false (((TL.tl z).drop j).drop n)
        rw [hg, List.drop_drop, List.length_drop] at hgl
        refine ⟨_, rfl, _, rfl, z, j + n, rfl, by omega, hz, ?_⟩
        have e3 : gap false ((TL.tl z).drop (j + n)) = g := by
          rw [← hg, List.drop_drop]
        rw [e3]
        have e4 : ((TL.tl z).drop j).drop (n + g) = (TL.tl z).drop (j + n + g) := by rw [List.drop_drop, Nat.add_assoc]
        rw [e4] at hX'
        have tupD : ∀ {a : Addr} {xs : List V}, H' a = some (.tup xs) → a ≠ D := fun {a xs} e z => by
          rw [z, hF] at e
          cases e
        refine ⟨tl'.length, by rw [hrest]; simp, j + n + g, dn ++ [⟨k, v, j⟩], tl', _, _, _, fun c o e => ?_, upd_same, ?_, rfl, by omega, hX', by rw [hts, hrest]; simp, rfl, by rw [List.length_append, List.length_singleton]; omega⟩
        · have nD : c ≠ D := ne_of_none e hD
          rw [upd_ne nD]
          exact keep c o (hS c o e)
        · refine TkL.snoc (hT.keep fun a xs e => ?_) ?_
          · rw [upd_ne (tupD e)]
            exact keep a _ e
          · have nqD : q ≠ D := fun z => by
              rw [z, hF] at hq
              cases hq
            rw [upd_ne nqD]
            exact eq
    · refine ifF (decide_eq_false (by omega)) ?_
      rw [List.drop_of_length_le (by omega)] at hX
      have e : rest = [] ∧ b = none := by
        cases hX with
        | done => exact ⟨rfl, rfl⟩
        | bad h0 h => exact absurd rfl h0
        | more h0 h hg r => exact absurd rfl h0
      obtain ⟨e1, e2⟩ := e
      rw [e1, List.append_nil] at hts
      refine ⟨_, rfl, kQ e2 H' D rs hS hD hF ?_⟩
      rw [hts]
      exact hT
theorem scIsName : FnScope ["value"] ["value"] (defScope sIsName) := ⟨rfl, rfl, rfl, by decide +kernel, rfl, by decide +kernel, by decide +kernel⟩
theorem ok_isName {f fE fF : Addr} {fd fdE fdF : FuncData} (F : Fun K "is_name" "is_name" sIsName f fd) (T : Txt K mg) (FE : Fun K "word_end" "word_end" sWend fE fdE) (bE : Binds K fdE ["text", "at"] []) (gE : mg "word_end" = some (.ref fE))
    (FF : Fun K "name_fits" "name_fits" sFits fF fdF) (bF : Binds K fdF ["word"] []) (gF : mg "name_fits" = some (.ref fF)) : FnOk P w K mg base CX0 2 f fd ["value"] spIsName := by
  have GE : FnOk P w K mg base CX0 1 fE fdE ["text", "at"] spWend := ok_wend FE T
  have GF : FnOk P w K mg base CX0 1 fF fdF ["word"] spFits := ok_fits FF T
  refine F.ok scIsName (fun vs H Q E h => ?_) (fun cdv A outer s H vs Q E hr h => ?_)
  · obtain ⟨v, rfl, _⟩ := h
    rfl
  · obtain ⟨v, rfl, h⟩ := h
    obtain ⟨tL, mL⟩ := T.letters
    refine ⟨_, pss_cons (ps_if (PW.pt (pw_or (pt_not (pt_val (pe_callB call_isi (by rfl) T.isinst (by decide +kernel) (pa_cons (pv 0) (pa_cons (pe_bltn (v := .ty "str") (by rfl) T.str (by decide +kernel) rfl) pa_nil)))))
          (pw_or1 (pt_cmpR op_eq (pv 0) pe_str (nomark _))))) (pss_one (ps_ret pe_bl)) pss_nil)
      (pss_one (ps_ret (pe_and (pe_cmpR op_in_sign (pe_item_str (pv 0) pe_int (fun _ _ => rfl)) (pe_glob (v := .str (tx LET)) rfl mL ⟨_, rfl⟩) (by rfl))
        (pe_and (pe_cmpR op_eq (pe_call GE hr rfl gE FE.kp bE .nil pass0 (pa_cons (pv 0) (pa_cons pe_int pa_nil))) (pe_callB call_len_str (by rfl) T.len PySem.boot_len (pa_cons (pv 0) pa_nil)) (nomark _))
          (pe_one (pe_call GF hr rfl gF FF.kp bF .nil pass0 (pa_cons (pv 0) pa_nil))))))), ?_⟩
    rcases h with ⟨z, rfl, hz, k⟩ | ⟨i, rfl, k⟩
    · refine ⟨_, rfl, _, _, _, _, true, rfl, .ty "str", .base (.str z), kit_ty (by decide +kernel), _, rfl, ifF rfl ?_⟩
      refine ⟨_, rfl, rfl, _, rfl, ?_⟩
      have q0 : TL.tl (PySem.Str.ofString "") = [] := by decide +kernel
      have hlen : z.length = (TL.tl z).length := TL.len_tl z
      cases hl : TL.tl z with
      | nil =>
        refine ifT (by rw [str_eq, q0]; exact decide_eq_true hl) ?_
        rw [hl] at k
        exact k
      | cons c r =>
        refine ifF (by rw [str_eq, q0]; exact decide_eq_false (by rw [hl]; simp)) ?_
        have it : z.cps[(0 : Int).toNat]? = some c := by
          have e : (TL.tl z)[0]? = z.cps[0]? := Array.getElem?_toList
          rw [hl] at e
          exact e.symm
        rw [hl] at k hlen
        refine ⟨_, rfl, z, _, c, rfl, rfl, by omega, by omega, by rw [hlen]; simp, it, c, _, rfl, rfl, _, rfl, ?_⟩
        have en : nameB (c :: r) = (isL c && (decide ((wd (c :: r)).length = (c :: r).length) && (decide ((c :: r).length ≤ 20) && !decide ((c :: r) ∈ RES)))) := rfl
        rw [en] at k
        by_cases h1 : isL c = true
        · refine ifT h1 ?_
          rw [h1, Bool.true_and] at k
          refine ⟨_, rfl, z, 0, rfl, Nat.zero_le _, hz, _, rfl, z, rfl, line20 hz, ?_⟩
          rw [List.drop_zero, Nat.zero_add, hl, hlen]
          refine ⟨rfl, _, rfl, ?_⟩
          by_cases h2 : (wd (c :: r)).length = (c :: r).length
          · refine ifT (decide_eq_true (by rw [h2])) ?_
            rw [decide_eq_true h2, Bool.true_and] at k
            refine ⟨_, rfl, z, rfl, hz, ?_⟩
            rw [hl, hlen]
            exact k
          · refine ifF (decide_eq_false fun q => h2 (by have := V.int.inj q; omega)) ?_
            rw [decide_eq_false h2, Bool.false_and] at k
            exact k
        · have h1' : isL c = false := Bool.eq_false_iff.mpr h1
          refine ifF h1' ?_
          rw [h1', Bool.false_and] at k
          exact k
    · refine ⟨_, rfl, _, _, _, _, false, rfl, .ty "str", .base (.int i), kit_ty (by decide +kernel), _, rfl, ifT rfl ?_⟩
      exact k
end
end Tk

set_option Elab.async false
set_option linter.all false
set_option maxRecDepth 100000
namespace Tk
open PySem L2 Lx
/-! ### numbers and drawn words -/
theorem numL_zero : ∀ (n : Nat) (r : List Nat), TL.numL n = 48 :: r → r = [] := fun n => by
  induction n using Nat.strongRecOn with
  | _ n ih =>
    intro r h
    by_cases h1 : n < 10
    · rw [TL.numL_lt h1] at h
      exact (List.cons.inj h).2.symm
    · rw [TL.numL_step (by omega)] at h
      cases hq : TL.numL (n / 10) with
      | nil => exact absurd hq (TL.numL_ne _)
      | cons a l =>
        rw [hq, List.cons_append] at h
        have ha : a = 48 := (List.cons.inj h).1
        rw [ha] at hq
        have hl := ih (n / 10) (by omega) l hq
        rw [hl] at hq
        have z : TL.numL (n / 10) = TL.numL 0 := hq
        have := TL.numL_inj z
        omega
theorem nm_num {n : Nat} (h : n < 65536) : Nm n (TL.numL n) := by
  refine ⟨TL.numL_ne n, fun c hc => ?_, TL.numL_len (by decide) (Nat.lt_of_lt_of_le h (by decide)), fun r => numL_zero n r, TL.numL_val n, h⟩
  have z := TL.numL_digits n c hc
  unfold isD
  rw [decide_eq_true z.1, decide_eq_true z.2] <;> rfl
def MORE : List Nat := LET ++ [48,49,50,51,52,53,54,55,56,57,95]
theorem more_W : ∀ c ∈ MORE, isW c = true := by decide +kernel
theorem letters_eq : TL.tl (PySem.Str.ofString "abcdefghijklmnopqrstuvwxyzABCDEFGHIJKLMNOPQRSTUVWXYZ") = LET := by decide +kernel
theorem digits_eq : TL.tl (PySem.Str.ofString "0123456789_") = [48,49,50,51,52,53,54,55,56,57,95] := by decide +kernel
theorem at_mod {z : Str} {l : List Nat} (e : TL.tl z = l) {x m : Int} (hm : (l.length : Int) = m) (h0 : 0 < m) : 0 ≤ x % m ∧ x % m < (z.length : Int) ∧ ∃ c, z.cps[(x % m).toNat]? = some c ∧ c ∈ l := by
  have h1 : 0 ≤ x % m := Int.emod_nonneg _ (by omega)
  have h2 : x % m < m := Int.emod_lt_of_pos _ h0
  have hz : z.length = l.length := by rw [TL.len_tl, e]
  refine ⟨h1, by rw [hz]; omega, ?_⟩
  have h3 : (x % m).toNat < l.length := by omega
  refine ⟨l[(x % m).toNat], ?_, List.getElem_mem h3⟩
  have q : (TL.tl z)[(x % m).toNat]? = z.cps[(x % m).toNat]? := Array.getElem?_toList
  rw [← q, e]
  exact List.getElem?_eq_getElem h3
theorem item_mod {xs : List V} {x m : Int} (hm : (xs.length : Int) = m) (h0 : 0 < m) : ∃ v, atI xs (x % m) = some v ∧ v ∈ xs := by
  have h1 : 0 ≤ x % m := Int.emod_nonneg _ (by omega)
  have h2 : x % m < m := Int.emod_lt_of_pos _ h0
  have h3 : (x % m).toNat < xs.length := by omega
  exact ⟨xs[(x % m).toNat], at_of (j := (x % m).toNat) (by omega) (List.getElem?_eq_getElem h3), List.getElem_mem h3⟩
theorem mem_txs {l : List (List Nat)} {v : V} (h : v ∈ l.map fun w => V.str (tx w)) : ∃ w, w ∈ l ∧ v = .str (tx w) := by
  obtain ⟨w, hw, e⟩ := List.mem_map.mp h
  exact ⟨w, hw, e.symm⟩
section
variable {X : Cx}
theorem op_mulS : OpR X (binaryOp .Mult) (fun x y H Q => ∃ (z : Str) (n : Int), x = .str z ∧ y = .int n ∧ MulOk z n ∧ Q (.str (Txt.mul z n)) H) := by
  intro pins s σ H x y v u Q I rx ry h
  obtain ⟨z, n, rfl, rfl, ok, q⟩ := h
  obtain ⟨t, rfl⟩ := rx
  obtain ⟨t', rfl⟩ := ry
  exact PySem.SB.mul ok fun t' k => ⟨.str (Txt.mul z n), H, I.tok _, ⟨_, rfl⟩, q⟩
end
/-! ### promises -/
def spCell (K : PySem.W.Frag) : Sp := fun vs H Q _ => ∃ (a : Addr) (ns : List Int) (k : Nat), vs = [.ref a, .int (k : Int)] ∧ SqL K H a (ns.map V.int) ∧ Q (.int (ns.getD k 0)) H
def spWord : Sp := fun vs H Q _ => ∃ n : Int, vs = [.int n] ∧ ∀ l : List Nat, Wd l → Q (.str (tx l)) H
def spTok : Sp := fun vs H Q _ => ∃ n : Int, vs = [.int n] ∧ ∀ (k : List Nat) (v : Tv) (sh : List Nat), TokOk k v sh → ∀ (H' : Hp) (p : Addr), Same H H' → H p = none → H' p = some (.lst [.str (tx k), tv v, .str (tx sh)]) → Q (.ref p) H'
def spSpace : Sp := fun vs H Q _ => ∃ n : Int, vs = [.int n] ∧ ∀ (l : List Nat) (H' : Hp), l ∈ SPC → Same H H' → Q (.str (tx l)) H'
def spBad : Sp := fun vs H Q _ => ∃ n : Int, vs = [.int n] ∧ ∀ (l : List Nat) (H' : Hp), l ∈ BADS → Same H H' → Q (.str (tx l)) H'
section
variable {P : Program} {w : World} {K : PySem.W.Frag} {mg : Str → Option Value} {base : Heap}
theorem same_new {H : Hp} {l : Addr} {o : HO} (h : H l = none) : Same H (upd H l o) := fun c u e => by
  rw [upd_ne (ne_of_none e h)]
  exact e
theorem scCell : FnScope ["script", "k"] ["script", "k"] (defScope sCell) := ⟨rfl, rfl, rfl, by decide +kernel, rfl, by decide +kernel, by decide +kernel⟩
theorem ok_cell {f : Addr} {fd : FuncData} (F : Fun K "_law_cell" "_law_cell" sCell f fd) (T : Txt K mg) : FnOk P w K mg base CX0 1 f fd ["script", "k"] (spCell K) := by
  refine F.ok scCell (fun vs H Q E h => ?_) (fun cdv A outer s H vs Q E hr h => ?_)
  · obtain ⟨a, ns, k, rfl, _⟩ := h
    rfl
  · obtain ⟨a, ns, k, rfl, hS, q⟩ := h
    refine ⟨_, pss_cons (ps_if (pt_cmpR op_lt (pv 1) (pe_callB call_len_seq (by rfl) T.len PySem.boot_len (pa_cons (pv 0) pa_nil)) (nomark _))
        (pss_one (ps_ret (pe_callTy call_int1 (by rfl) T.int (by decide +kernel) (pa_cons (pe_ix ix_list (pv 0) (pv 1) (fun _ _ => rfl)) pa_nil)))) pss_nil)
      (pss_one (ps_ret pe_int)), ?_⟩
    refine ⟨_, rfl, _, rfl, a, _, rfl, .inl hS, _, _, rfl, rfl, _, rfl, ?_⟩
    rw [List.length_map]
    by_cases h : k < ns.length
    · refine ifT (decide_eq_true (by omega)) ?_
      have e : (ns.map V.int)[k]? = some (.int (ns.getD k 0)) := by
        rw [List.getElem?_map, List.getElem?_eq_getElem h, List.getD_eq_getElem?_getD, List.getElem?_eq_getElem h] <;> rfl
      exact ⟨_, rfl, _, rfl, a, _, _, _, rfl, rfl, hS, atI_nat e, .inl ⟨_, rfl, q⟩⟩
    · refine ifF (decide_eq_false (by omega)) ?_
      have e : ns.getD k 0 = 0 := by
        rw [List.getD_eq_getElem?_getD, List.getElem?_eq_none (by omega)] <;> rfl
      rw [e] at q
      exact q
theorem scWord : FnScope ["cell", "letters", "more", "text", "rest", "k"] ["cell"] (defScope sWord) := ⟨rfl, rfl, rfl, by decide +kernel, rfl, by decide +kernel, by decide +kernel⟩
theorem ok_word {f : Addr} {fd : FuncData} (F : Fun K "_law_word" "_law_word" sWord f fd) (T : Txt K mg) : FnOk P w K mg base CX0 1 f fd ["cell"] spWord := by
  refine F.ok scWord (fun vs H Q E h => ?_) (fun cdv A outer s H vs Q E hr h => ?_)
  · obtain ⟨n, rfl, _⟩ := h
    rfl
  · obtain ⟨n, rfl, q⟩ := h
    refine ⟨_, pss_cons (ps_set (i := 1) scWord.nd rfl (.inl rfl) pe_str)
      (pss_cons (ps_set (i := 2) scWord.nd rfl (.inl rfl) (pe_op op_add_str (pv 1) pe_str))
      (pss_cons (ps_set (i := 3) scWord.nd rfl (.inl rfl) (pe_item_str (pv 1) (pe_op op_mod (pe_callTy call_int1 (by rfl) T.int (by decide +kernel) (pa_cons (pv 0) pa_nil)) pe_int) (fun _ _ => rfl)))
      (pss_cons (ps_set (i := 4) scWord.nd rfl (.inl rfl) (pe_op op_fdiv (pv 0) pe_int))
      (pss_cons (ps_for PassesOwn.never rfl (pi_range1 (by rfl) T.range (pa_cons (pe_op op_mod (pe_callTy call_int1 (by rfl) T.int (by decide +kernel) (pa_cons (pv 4) pa_nil)) pe_int) pa_nil)) (pg_name (i := 5) scWord.nd rfl (.inl rfl))
        (pss_one (ps_set (i := 3) scWord.nd rfl (.inl rfl) (pe_op op_add_str (pv 3) (pe_item_str (pv 2) (pe_op op_mod (pe_callTy call_int1 (by rfl) T.int (by decide +kernel)
          (pa_cons (pe_op op_fdivN (pv 4) (pe_op op_add pe_int (pv 5))) pa_nil)) pe_int) (fun _ _ => rfl))))))
      (pss_one (ps_ret (pv 3))))))), ?_⟩
    have eM : TL.tl (PySem.Str.ofString "abcdefghijklmnopqrstuvwxyzABCDEFGHIJKLMNOPQRSTUVWXYZ" ++ PySem.Str.ofString "0123456789_") = MORE := by
      rw [TL.tl_append, letters_eq, digits_eq] <;> rfl
    have lM : (PySem.Str.ofString "abcdefghijklmnopqrstuvwxyzABCDEFGHIJKLMNOPQRSTUVWXYZ" ++ PySem.Str.ofString "0123456789_").length = 63 := by
      rw [TL.len_tl, eM]
      decide
    refine ⟨_, rfl, _, _, rfl, rfl, by decide +kernel, ?_⟩
    generalize PySem.Str.ofString "abcdefghijklmnopqrstuvwxyzABCDEFGHIJKLMNOPQRSTUVWXYZ" ++ PySem.Str.ofString "0123456789_" = zM at eM lM
    obtain ⟨a1, a2, c, a3, a4⟩ := at_mod letters_eq (x := n) (m := 52) (by decide) (by decide)
    refine ⟨_, rfl, _, rfl, .inl ⟨n, rfl, _, _, rfl, rfl, (by show (0 : Int) < 52; decide), _, _, c, rfl, rfl, a1, by have := Int.emod_lt_of_pos n (show (0 : Int) < 52 by decide); omega, a2, a3, ?_⟩⟩
    refine ⟨_, rfl, _, _, rfl, rfl, ⟨by decide, by decide⟩, ?_⟩
    have r1 : 0 ≤ (n / 52) % 20 := Int.emod_nonneg _ (by decide)
    have r2 : (n / 52) % 20 < 20 := Int.emod_lt_of_pos _ (by decide)
    refine ⟨_, rfl, .inl ⟨_, rfl, _, _, rfl, rfl, (by show (0 : Int) < 20; decide), _, rfl, by omega, by omega, ?_⟩⟩
    refine for_range (lo := 0) (n := ((n / 52) % 20).toNat) (fun i σ H' => H' = H ∧ ∃ (l : List Nat) (v : Option V), Wd l ∧ l.length = i + 1 ∧ σ = [some (.int n), some (.str (PySem.Str.ofString "abcdefghijklmnopqrstuvwxyzABCDEFGHIJKLMNOPQRSTUVWXYZ")), some (.str zM), some (.str (tx l)), some (.int (n / 52)), v])
      ⟨rfl, [c], none, ⟨by simp, fun d r e => ?_, fun d hd => ?_, by simp⟩, rfl, rfl⟩ ?_ ?_
    · rw [← (List.cons.inj e).1]
      exact decide_eq_true a4
    · rw [List.mem_singleton.mp hd]
      exact L_W (decide_eq_true a4)
    · rintro i σ H' hi ⟨rfl, l, v, hW, hl, rfl⟩
      obtain ⟨b1, b2, d, b3, b4⟩ := at_mod eM (x := (n / 52).fdiv (3 + (0 + (i : Int)))) (m := 63) (by decide) (by decide)
      have lt1 : ((n / 52).fdiv (3 + (0 + (i : Int)))) % 63 < 63 := Int.emod_lt_of_pos _ (by decide)
      refine ⟨_, rfl, _, rfl, _, rfl, _, rfl, _, _, rfl, rfl, _, _, rfl, rfl, ⟨by omega, by omega⟩, .inl ⟨_, rfl, _, _, rfl, rfl, (by show (0 : Int) < 63; decide), _, _, d, rfl, rfl, b1, by omega, b2, b3, _, _, rfl, rfl, ?_, ?_⟩⟩
      · rw [tx_len]
        show l.length + 1 ≤ sizeLine
        exact line20 (by omega)
      · have e : tx l ++ (⟨#[d]⟩ : Str) = tx (l ++ [d]) := tx_app l [d]
        refine ⟨rfl, l ++ [d], some (.int (0 + (i : Int))), ⟨by simp, fun x r e' => ?_, fun x hx => ?_, by rw [List.length_append, List.length_singleton]; omega⟩, by rw [List.length_append, List.length_singleton]; omega, ?_⟩
        · cases hl0 : l with
          | nil => exact absurd hl0 hW.ne
          | cons y r' =>
            rw [hl0, List.cons_append] at e'
            rw [← (List.cons.inj e').1]
            exact hW.hd y r' hl0
        · rcases List.mem_append.mp hx with hx | hx
          · exact hW.all x hx
          · rw [List.mem_singleton.mp hx]
            exact more_W d b4
        · rw [← e]
          rfl
    · rintro σ H' ⟨rfl, l, v, hW, hl, rfl⟩
      exact ⟨_, rfl, q l hW⟩
theorem scTok : FnScope ["cell", "kind", "rest", "word", "signs", "sign"] ["cell"] (defScope sTok) := ⟨rfl, rfl, rfl, by decide +kernel, rfl, by decide +kernel, by decide +kernel⟩
theorem eqI (a b : Int) : decide (V.int a = V.int b) = decide (a = b) := by
  by_cases h : a = b
  · rw [h, decide_eq_true rfl, decide_eq_true rfl]
  · rw [decide_eq_false h]
    exact decide_eq_false fun q => h (V.int.inj q)
theorem ok_tok {f fW : Addr} {fd fdW : FuncData} (F : Fun K "_law_token" "_law_token" sTok f fd) (T : Txt K mg) (FW : Fun K "_law_word" "_law_word" sWord fW fdW) (bW : Binds K fdW ["cell"] []) (gW : mg "_law_word" = some (.ref fW)) :
    FnOk P w K mg base CX0 2 f fd ["cell"] spTok := by
  have GW : FnOk P w K mg base CX0 1 fW fdW ["cell"] spWord := ok_word FW T
  refine F.ok scTok (fun vs H Q E h => ?_) (fun cdv A outer s H vs Q E hr h => ?_)
  · obtain ⟨n, rfl, _⟩ := h
    rfl
  · obtain ⟨n, rfl, q⟩ := h
    obtain ⟨aR, mR, sR⟩ := T.res
    refine ⟨_, pss_cons (ps_set (i := 1) scTok.nd rfl (.inl rfl) (pe_op op_mod (pe_callTy call_int1 (by rfl) T.int (by decide +kernel) (pa_cons (pv 0) pa_nil)) pe_int))
      (pss_cons (ps_set (i := 2) scTok.nd rfl (.inl rfl) (pe_op op_fdiv (pv 0) pe_int))
      (pss_cons (ps_if (pt_cmpR op_eq (pv 1) pe_int (nomark _))
        (pss_cons (ps_set (i := 3) scTok.nd rfl (.inl rfl) (pe_ix ix_tup (pe_glob (v := .ref aR) rfl mR rfl) (pe_op op_mod (pe_callTy call_int1 (by rfl) T.int (by decide +kernel) (pa_cons (pv 2) pa_nil)) (pe_callB call_len_seq (by rfl) T.len PySem.boot_len (pa_cons (pe_glob (v := .ref aR) rfl mR rfl) pa_nil))) (fun _ _ => rfl)))
          (pss_one (ps_ret (pe_lst (pa_cons pe_str (pa_cons (pv 3) (pa_cons (pv 3) pa_nil))))))) pss_nil)
      (pss_cons (ps_if (pt_cmpR op_eq (pv 1) pe_int (nomark _))
        (pss_cons (ps_set (i := 3) scTok.nd rfl (.inl rfl) (pe_call GW hr rfl gW FW.kp bW .nil pass0 (pa_cons (pv 2) pa_nil)))
          (pss_cons (ps_if (pt_cmpR op_in_seq (pv 3) (pe_glob (v := .ref aR) rfl mR rfl) (by rfl)) (pss_one (ps_ret (pe_lst (pa_cons pe_str (pa_cons (pv 3) (pa_cons (pv 3) pa_nil)))))) pss_nil)
          (pss_one (ps_ret (pe_lst (pa_cons pe_str (pa_cons (pv 3) (pa_cons (pv 3) pa_nil)))))))) pss_nil)
      (pss_cons (ps_if (pt_cmpR op_eq (pv 1) pe_int (nomark _))
        (pss_one (ps_ret (pe_lst (pa_cons pe_str (pa_cons (pe_op op_mod (pe_callTy call_int1 (by rfl) T.int (by decide +kernel) (pa_cons (pv 2) pa_nil)) pe_int)
          (pa_cons (pe_callTy call_str_int (by rfl) T.str (by decide +kernel) (pa_cons (pe_op op_mod (pe_callTy call_int1 (by rfl) T.int (by decide +kernel) (pa_cons (pv 2) pa_nil)) pe_int) pa_nil)) pa_nil)))))) pss_nil)
      (pss_cons (ps_if (pt_cmpR op_eq (pv 1) pe_int (nomark _))
        (pss_cons (ps_set (i := 3) scTok.nd rfl (.inl rfl) (pe_call GW hr rfl gW FW.kp bW .nil pass0 (pa_cons (pv 2) pa_nil)))
          (pss_one (ps_ret (pe_lst (pa_cons pe_str (pa_cons (pv 3) (pa_cons (pe_op op_add_str (pe_op op_add_str pe_str (pv 3)) pe_str) pa_nil))))))) pss_nil)
      (pss_cons (ps_set (i := 4) scTok.nd rfl (.inl rfl) (pe_lst (pa_cons pe_str (pa_cons pe_str (pa_cons pe_str (pa_cons pe_str (pa_cons pe_str (pa_cons pe_str (pa_cons pe_str (pa_cons pe_str (pa_cons pe_str (pa_cons pe_str (pa_cons pe_str (pa_cons pe_str (pa_cons pe_str pa_nil)))))))))))))))
      (pss_cons (ps_set (i := 5) scTok.nd rfl (.inl rfl) (pe_ix ix_list (pv 4) (pe_op op_mod (pe_callTy call_int1 (by rfl) T.int (by decide +kernel) (pa_cons (pv 2) pa_nil)) pe_int) (fun _ _ => rfl)))
      (pss_one (ps_ret (pe_lst (pa_cons pe_str (pa_cons (pv 5) (pa_cons (pv 5) pa_nil))))))))))))), ?_⟩
    -- what each return asks
    have fin : ∀ {k : List Nat} {v : Tv} {sh : List Nat} {H' : Hp}, Same H H' → TokOk k v sh → ([V.str (tx k), tv v, V.str (tx sh)].length ≤ sizeLine ∧ ∀ p, H' p = none → Q (.ref p) (upd H' p (.lst [.str (tx k), tv v, .str (tx sh)]))) := fun {k v sh H'} hS hT =>
      ⟨(by show 3 ≤ sizeLine; decide), fun p hp => q k v sh hT _ p (hS.trans (same_new hp)) (hS.free hp) upd_same⟩
    have mp : (0 : Int) < 6 := by decide
    refine ⟨_, rfl, .inl ⟨n, rfl, _, _, rfl, rfl, mp, _, rfl, _, _, rfl, rfl, ⟨by decide, by decide⟩, ?_⟩⟩
    refine ⟨_, rfl, rfl, _, rfl, ?_⟩
    by_cases c0 : n % 6 = 0
    · refine ifT ((eqI _ _).trans (decide_eq_true c0)) ?_
      obtain ⟨v, hv, hm⟩ := item_mod (xs := RES.map fun w => V.str (tx w)) (x := (n / 6)) (m := 21) (by decide) (by decide)
      obtain ⟨wd', hw, rfl⟩ := mem_txs hm
      refine ⟨_, rfl, .inl ⟨(n / 6), rfl, aR, _, rfl, .inr (sR H), _, _, rfl, rfl, (by show (0 : Int) < 21; decide), aR, _, _, _, rfl, rfl, sR H, hv, ?_⟩⟩
      refine ⟨_, rfl, _, rfl, ?_⟩
      rw [kW_eq]
      exact fin (Same.refl H) (ok_reserved hw)
    refine ifF ((eqI _ _).trans (decide_eq_false c0)) ?_
    refine ⟨_, rfl, rfl, _, rfl, ?_⟩
    by_cases c1 : n % 6 = 1
    · refine ifT ((eqI _ _).trans (decide_eq_true c1)) ?_
      refine ⟨_, rfl, (n / 6), rfl, fun l hl => ?_⟩
      refine ⟨_, rfl, aR, _, rfl, .inr (sR H), rfl, flat_txs _, _, rfl, ?_⟩
      by_cases h1 : l ∈ RES
      · refine ifT ((in_txs _ _).trans (decide_eq_true h1)) ?_
        refine ⟨_, rfl, _, rfl, ?_⟩
        rw [kW_eq]
        exact fin (Same.refl H) (ok_reserved h1)
      · refine ifF ((in_txs _ _).trans (decide_eq_false h1)) ?_
        refine ⟨_, rfl, _, rfl, ?_⟩
        rw [kN_eq]
        exact fin (Same.refl H) (ok_name hl h1)
    refine ifF ((eqI _ _).trans (decide_eq_false c1)) ?_
    refine ⟨_, rfl, rfl, _, rfl, ?_⟩
    by_cases c2 : n % 6 = 2
    · refine ifT ((eqI _ _).trans (decide_eq_true c2)) ?_
      have m0 : (0 : Int) < 65536 := by decide
      have e1 : 0 ≤ (n / 6) % 65536 := Int.emod_nonneg _ (by decide)
      have e2 : (n / 6) % 65536 < 65536 := Int.emod_lt_of_pos _ m0
      obtain ⟨m, hm⟩ := Int.eq_ofNat_of_zero_le e1
      have hm2 : m < 65536 := by omega
      refine ⟨_, rfl, .inl ⟨(n / 6), rfl, _, _, rfl, rfl, m0, _, rfl, .inl ⟨(n / 6), rfl, _, _, rfl, rfl, m0, _, rfl, ?_, ?_⟩⟩⟩
      · rw [hm, Int.natAbs_natCast]
        by_cases h0 : m = 0
        · rw [h0]
          decide
        · have h1 : m.log2 < 16 := (Nat.log2_lt h0).mpr (by omega)
          omega
      · have e3 : (PySem.Str.ofString (toString ((n / 6) % 65536)) : Str) = tx (TL.numL m) := by
          rw [hm]
          exact TL.ext_tl (TL.tl_num m)
        have e4 : tv (.inr m) = V.int ((n / 6) % 65536) := by
          rw [hm] <;> rfl
        have f := fin (k := kI) (v := .inr m) (sh := TL.numL m) (Same.refl H) (ok_number (nm_num hm2))
        rw [← e3, e4, ← kI_eq] at f
        exact f
    refine ifF ((eqI _ _).trans (decide_eq_false c2)) ?_
    refine ⟨_, rfl, rfl, _, rfl, ?_⟩
    by_cases c3 : n % 6 = 3
    · refine ifT ((eqI _ _).trans (decide_eq_true c3)) ?_
      refine ⟨_, rfl, (n / 6), rfl, fun l hl => ?_⟩
      have q1 : PySem.Str.ofString "\"" = tx [34] := TL.ext_tl (by decide +kernel)
      have hl20 := hl.len
      rw [q1]
      refine ⟨_, rfl, _, rfl, _, _, rfl, rfl, ?_, _, _, rfl, rfl, ?_, ?_⟩
      · rw [tx_len, tx_len]
        exact line20 (by simp; omega)
      · rw [tx_app, tx_len, tx_len]
        exact line20 (by simp; omega)
      · rw [tx_app, tx_app, kS_eq]
        exact fin (Same.refl H) (ok_string hl)
    refine ifF ((eqI _ _).trans (decide_eq_false c3)) ?_
    refine ⟨(by show 13 ≤ sizeLine; decide), fun L hL => ?_⟩
    have eS : ([V.str (PySem.Str.ofString "=="), V.str (PySem.Str.ofString "="), V.str (PySem.Str.ofString "<"), V.str (PySem.Str.ofString "+"), V.str (PySem.Str.ofString "-"), V.str (PySem.Str.ofString "*"), V.str (PySem.Str.ofString "."), V.str (PySem.Str.ofString ","),
      V.str (PySem.Str.ofString ";"), V.str (PySem.Str.ofString "("), V.str (PySem.Str.ofString ")"), V.str (PySem.Str.ofString "{"), V.str (PySem.Str.ofString "}")] : List V) = SGN.map fun w => V.str (tx w) := by decide +kernel
    rw [eS]
    obtain ⟨v, hv, hm⟩ := item_mod (xs := SGN.map fun w => V.str (tx w)) (x := (n / 6)) (m := 13) (by decide) (by decide)
    obtain ⟨wd', hw, rfl⟩ := mem_txs hm
    refine ⟨_, rfl, _, rfl, .inl ⟨(n / 6), rfl, _, _, rfl, rfl, (by show (0 : Int) < 13; decide), L, _, _, _, rfl, rfl, SqL.of upd_same, hv, ?_⟩⟩
    refine ⟨_, rfl, _, rfl, ?_⟩
    rw [kG_eq]
    exact fin (same_new hL) (ok_sign hw)
theorem scSpace : FnScope ["cell"] ["cell"] (defScope sSpace) := ⟨rfl, rfl, rfl, by decide +kernel, rfl, by decide +kernel, by decide +kernel⟩
theorem ok_space' {f : Addr} {fd : FuncData} (F : Fun K "_law_space" "_law_space" sSpace f fd) (T : Txt K mg) : FnOk P w K mg base CX0 1 f fd ["cell"] spSpace := by
  refine F.ok scSpace (fun vs H Q E h => ?_) (fun cdv A outer s H vs Q E hr h => ?_)
  · obtain ⟨n, rfl, _⟩ := h
    rfl
  · obtain ⟨n, rfl, q⟩ := h
    refine ⟨_, pss_one (ps_ret (pe_ix ix_list (pe_lst (pa_cons pe_str (pa_cons pe_str (pa_cons pe_str (pa_cons pe_str (pa_cons pe_str (pa_cons pe_str pa_nil)))))))
      (pe_op op_mod (pe_callTy call_int1 (by rfl) T.int (by decide +kernel) (pa_cons (pv 0) pa_nil)) pe_int) (fun _ _ => rfl))), ?_⟩
    refine ⟨(by show 6 ≤ sizeLine; decide), fun L hL => ?_⟩
    have eS : ([V.str (PySem.Str.ofString " "), V.str (PySem.Str.ofString "\n"), V.str (PySem.Str.ofString "\t"), V.str (PySem.Str.ofString "  "), V.str (PySem.Str.ofString " # == fun\n"), V.str (PySem.Str.ofString "\n\n")] : List V) = SPC.map fun w => V.str (tx w) := by decide +kernel
    rw [eS]
    obtain ⟨v, hv, hm⟩ := item_mod (xs := SPC.map fun w => V.str (tx w)) (x := n) (m := 6) (by decide) (by decide)
    obtain ⟨wd', hw, rfl⟩ := mem_txs hm
    exact ⟨_, rfl, .inl ⟨n, rfl, _, _, rfl, rfl, (by show (0 : Int) < 6; decide), L, _, _, _, rfl, rfl, SqL.of upd_same, hv, q wd' _ hw (same_new hL)⟩⟩
theorem scBad : FnScope ["cell"] ["cell"] (defScope sBad) := ⟨rfl, rfl, rfl, by decide +kernel, rfl, by decide +kernel, by decide +kernel⟩
theorem mul_ok (c : Str) (h : c.length = 1) : MulOk c 21 := ⟨by decide, fun _ _ => by rw [h]; decide, fun _ _ => by rw [h]; decide⟩
theorem ok_bad' {f : Addr} {fd : FuncData} (F : Fun K "_law_bad" "_law_bad" sBad f fd) (T : Txt K mg) : FnOk P w K mg base CX0 1 f fd ["cell"] spBad := by
  refine F.ok scBad (fun vs H Q E h => ?_) (fun cdv A outer s H vs Q E hr h => ?_)
  · obtain ⟨n, rfl, _⟩ := h
    rfl
  · obtain ⟨n, rfl, q⟩ := h
    refine ⟨_, pss_one (ps_ret (pe_ix ix_list (pe_lst (pa_cons pe_str (pa_cons pe_str (pa_cons pe_str (pa_cons pe_str (pa_cons pe_str (pa_cons pe_str (pa_cons pe_str
        (pa_cons (pe_op op_mulS pe_str pe_int) (pa_cons pe_str (pa_cons (pe_op op_add_str (pe_op op_add_str pe_str (pe_op op_mulS pe_str pe_int)) pe_str) (pa_cons pe_str (pa_cons pe_str pa_nil)))))))))))))
      (pe_op op_mod (pe_callTy call_int1 (by rfl) T.int (by decide +kernel) (pa_cons (pv 0) pa_nil)) pe_int) (fun _ _ => rfl))), ?_⟩
    refine ⟨_, _, rfl, rfl, mul_ok _ (by decide +kernel), _, _, rfl, rfl, mul_ok _ (by decide +kernel), _, _, rfl, rfl, by decide +kernel, _, _, rfl, rfl, by decide +kernel, (by show 12 ≤ sizeLine; decide), fun L hL => ?_⟩
    have eS : ([V.str (PySem.Str.ofString "@"), V.str (PySem.Str.ofString "65536"), V.str (PySem.Str.ofString "01"), V.str (PySem.Str.ofString "7a"), V.str (PySem.Str.ofString "\""), V.str (PySem.Str.ofString "\"a"), V.str (PySem.Str.ofString "\"\""),
      V.str (Txt.mul (PySem.Str.ofString "a") 21), V.str (PySem.Str.ofString "!"), V.str (PySem.Str.ofString "\"" ++ Txt.mul (PySem.Str.ofString "b") 21 ++ PySem.Str.ofString "\""), V.str (PySem.Str.ofString "\"a b\""), V.str (PySem.Str.ofString "$")] : List V) = BADS.map fun w => V.str (tx w) := by decide +kernel
    rw [eS]
    obtain ⟨v, hv, hm⟩ := item_mod (xs := BADS.map fun w => V.str (tx w)) (x := n) (m := 12) (by decide) (by decide)
    obtain ⟨wd', hw, rfl⟩ := mem_txs hm
    exact ⟨_, rfl, .inl ⟨n, rfl, _, _, rfl, rfl, (by show (0 : Int) < 12; decide), L, _, _, _, rfl, rfl, SqL.of upd_same, hv, q wd' _ hw (same_new hL)⟩⟩
end
end Tk

set_option Elab.async false
set_option linter.all false
set_option maxRecDepth 100000
namespace Tk
open PySem L2 Lx
/-! ### the list of tokens as data, its text -/
def tvD : Tv → PyData
  | .inl w => .str (tx w)
  | .inr n => .int (n : Int)
def tkD (t : Tk) : PyData := .tuple [.str (tx t.k), tvD t.v, .int (t.i : Int)]
theorem tv_dp {K : PySem.W.Frag} {H : Hp} (v : Tv) : Dp K H (tv v) (tvD v) := by
  cases v with
  | inl w => exact .str _
  | inr n => exact .int _
theorem TkL.dp {K : PySem.W.Frag} {H : Hp} {rs : List V} {ts : List Tk} (h : TkL H rs ts) : DpAll K H rs (ts.map tkD) := by
  induction h with
  | nil => exact .nil
  | cons h r ih => exact .cons (.tup (SqT.of h) (.cons (.str _) (.cons (tv_dp _) (.cons (.int _) .nil)))) ih
/-- a drawn token at a place -/
structure TkG (t : Tk) : Prop where
  ok : ∃ sh, TokOk t.k t.v sh
  at_ : t.i ≤ 2100
theorem kind_len {k : List Nat} (h : k = kW ∨ k = kN ∨ k = kI ∨ k = kS ∨ k = kG) : k.length ≤ 6 ∧ ∀ c ∈ k, c < 16 ^ 8 := by
  rcases h with rfl | rfl | rfl | rfl | rfl <;> decide
theorem int_short {n : Nat} (h : n ≤ 70000) : (PyData.shown (.int (n : Int))).length ≤ 10 :=
  Nat.le_trans (PyProof.Rows.toString_length_le (v := (n : Int)) (by omega) (k := 5) (by decide) (by omega)) (by decide)
theorem int_log {n : Nat} (h : n ≤ 70000) : (n : Int).natAbs.log2 < 17 := by
  rw [Int.natAbs_natCast]
  by_cases h0 : n = 0
  · rw [h0]
    decide
  · exact (Nat.log2_lt h0).mpr (by omega)
theorem int_weight {n : Nat} (h : n ≤ 70000) : (PyData.int (n : Int)).weight ≤ 17 := by
  have := int_log h
  simp only [PyData.weight]
  split <;> omega
theorem tk_data {t : Tk} (g : TkG t) : (tkD t).showable = true ∧ (tkD t).hasDict = false ∧ (tkD t).depth ≤ 1 ∧ (tkD t).leavesShort 10 = true ∧ (tkD t).weight ≤ 60 := by
  obtain ⟨sh, T⟩ := g.ok
  obtain ⟨k1, k2⟩ := kind_len T.kinds
  have a1 := int_short (n := t.i) (by have := g.at_; omega)
  have a2 := int_log (n := t.i) (by have := g.at_; omega)
  have a3 := int_weight (n := t.i) (by have := g.at_; omega)
  have kall : (tx t.k).cps.toList.all (fun c => decide (c < 16 ^ 8)) = true := List.all_eq_true.mpr fun c hc => decide_eq_true (k2 c hc)
  have ksz : (tx t.k).cps.size = t.k.length := tx_len t.k
  have lst : decide ((t.i : Int).natAbs.log2 < 1920) = true := decide_eq_true (by omega)
  have v : (tvD t.v).showable = true ∧ (tvD t.v).hasDict = false ∧ (tvD t.v).depth = 0 ∧ (tvD t.v).leavesShort 10 = true ∧ (tvD t.v).weight ≤ 20 := by
    rcases T.vals with ⟨w, e, h1, h2⟩ | ⟨n, e, h1⟩
    · rw [e]
      refine ⟨by simp only [tvD, PyData.showable], by simp only [tvD, PyData.hasDict], by simp only [tvD, PyData.depth], ?_, ?_⟩
      · show (tx w).cps.toList.all (fun c => decide (c < 16 ^ 8)) = true
        exact List.all_eq_true.mpr fun c hc => decide_eq_true (Nat.lt_of_lt_of_le (h2 c hc) (by decide))
      · simp only [tvD, PyData.weight]
        have : (tx w).cps.size = w.length := tx_len w
        omega
    · rw [e]
      have b1 := int_short (n := n) (by omega)
      have b2 := int_log (n := n) (by omega)
      have b3 := int_weight (n := n) (by omega)
      refine ⟨?_, by simp only [tvD, PyData.hasDict], by simp only [tvD, PyData.depth], ?_, by simp only [tvD]; omega⟩
      · simp only [tvD, PyData.showable]
        exact decide_eq_true (by omega)
      · simp only [tvD, PyData.leavesShort]
        exact decide_eq_true b1
  obtain ⟨v1, v2, v3, v4, v5⟩ := v
  refine ⟨?_, ?_, ?_, ?_, ?_⟩
  · simp only [tkD, PyData.showable, PyData.showableAll, v1, lst, Bool.and_true]
  · simp only [tkD, PyData.hasDict, PyData.hasDictAll, v2, Bool.or_false]
  · simp only [tkD, PyData.depth, PyData.depthAll, v3]
    omega
  · simp only [tkD, PyData.leavesShort, PyData.leavesShortAll, v4, kall, Bool.and_true, Bool.true_and]
    exact decide_eq_true a1
  · simp only [tkD, PyData.weight, PyData.weightAll] at a3 ⊢
    omega
theorem data_ok : ∀ {ts : List Tk}, (∀ t ∈ ts, TkG t) → PyData.showableAll (ts.map tkD) = true ∧ PyData.hasDictAll (ts.map tkD) = false ∧ PyData.depthAll (ts.map tkD) ≤ 1 ∧ PyData.leavesShortAll 10 (ts.map tkD) = true ∧ PyData.weightAll (ts.map tkD) ≤ 61 * ts.length
  | [], _ => ⟨rfl, rfl, Nat.zero_le _, rfl, Nat.le_refl _⟩
  | t :: ts, h => by
    obtain ⟨a1, a2, a3, a4, a5⟩ := tk_data (h t (List.mem_cons_self ..))
    obtain ⟨b1, b2, b3, b4, b5⟩ := data_ok (ts := ts) fun x hx => h x (List.mem_cons_of_mem _ hx)
    rw [List.map_cons]
    refine ⟨?_, ?_, ?_, ?_, ?_⟩
    · simp only [PyData.showableAll, a1, b1, Bool.and_true]
    · simp only [PyData.hasDictAll, a2, b2, Bool.or_false]
    · simp only [PyData.depthAll]
      omega
    · simp only [PyData.leavesShortAll, a4, b4, Bool.and_true]
    · simp only [PyData.weightAll, List.length_cons]
      omega
theorem list_ok {ts : List Tk} (h : ∀ t ∈ ts, TkG t) (hl : ts.length ≤ 100) : (PyData.list (ts.map tkD)).showable = true ∧ (PyData.list (ts.map tkD)).hasDict = false ∧ (PyData.list (ts.map tkD)).depth ≤ 5 ∧ (PyData.list (ts.map tkD)).shown.length ≤ sizeLine := by
  obtain ⟨b1, b2, b3, b4, b5⟩ := data_ok h
  refine ⟨by simp only [PyData.showable, b1], by simp only [PyData.hasDict, b2], by simp only [PyData.depth]; omega, ?_⟩
  refine PyData.shown_fits (B := 10) (by decide) (by decide) (by simp only [PyData.leavesShort, b4]) ?_
  simp only [PyData.weight]
  have : (2 : Nat) ^ 20 = 1048576 := by decide
  omega
/-- repr of data, where no repr runs around -/
theorem call_repr_data {X : Cx} (hg : X.A.guards = some []) (hu : X.A.units + 10 < cLine) : CallR X (.builtin "repr") (fun xs H Q => ∃ (a : Addr) (d : PyData), xs = [.ref a] ∧ Dp X.K H (.ref a) d ∧ d.showable = true ∧ d.hasDict = false ∧ d.depth ≤ 5 ∧
    d.shown.length ≤ sizeLine ∧ Q (.str d.shown) H) := by
  intro pins s σ H xs us Q I r h
  obtain ⟨a, d, rfl, hd, hs, hn, hp, hz, q⟩ := h
  cases r with
  | cons r1 rr =>
    cases rr
    obtain rfl : _ = Value.ref a := r1
    obtain ⟨as, R⟩ := Dp.reads I d (.ref a) (.ref a) hd rfl
    exact repr_of_reads' (h₀ := s.heap) R hs (PyData.noDict_hsm hn) hg (by omega) (fun _ _ e => e) (fun h' u tk hk => ⟨.str d.shown, H, I.kept (t' := tk) hk, ⟨u, rfl⟩, q⟩) hz
/-! ### what is_name says of drawn tokens -/
theorem wd_self {l : List Nat} (h : ∀ c ∈ l, isW c = true) : wd l = l := by
  unfold wd
  induction l with
  | nil => rfl
  | cons a l ih => rw [List.takeWhile_cons, if_pos (h a (List.mem_cons_self ..)), ih fun c hc => h c (List.mem_cons_of_mem _ hc)]
theorem nameB_wd {l : List Nat} (W : Wd l) : nameB l = !decide (l ∈ RES) := by
  cases hl : l with
  | nil => exact absurd hl W.ne
  | cons c r =>
    have h1 := W.hd c r hl
    have h2 := wd_self W.all
    have h3 := W.len
    rw [hl] at h2 h3
    show (isL c && (decide ((wd (c :: r)).length = (c :: r).length) && (decide ((c :: r).length ≤ 20) && !decide ((c :: r) ∈ RES)))) = _
    rw [h1, h2, decide_eq_true rfl, decide_eq_true h3] <;> rfl
def spLaw (K : PySem.W.Frag) : Sp := fun vs H Q _ => ∃ (a : Addr) (ns : List Int), vs = [.ref a] ∧ SqL K H a (ns.map V.int) ∧ ns.length ≤ 63 ∧ ∀ H', Q (.bl true) H'
section
variable {P : Program} {w : World} {K : PySem.W.Frag} {mg : Str → Option Value} {base : Heap}
theorem scLaw : FnScope ["script", "text", "due", "k", "kind", "value", "shown", "actual", "at", "bad", "e"] ["script"] (defScope sLaw) := ⟨rfl, rfl, rfl, by decide +kernel, rfl, by decide +kernel, by decide +kernel⟩
/-- the call in the try -/
abbrev tTry (C : Addr) (W : WX) : TS := tDrop (tCallS (spToks C) (WE W) (tCons (tOp (fun x y H Q => ∃ i j, x = .str i ∧ y = .str j ∧ i.length + j.length ≤ sizeLine ∧ Q (.str (i ++ j)) H)
  (tOp (fun x y H Q => ∃ i j, x = .str i ∧ y = .str j ∧ i.length + j.length ≤ sizeLine ∧ Q (.str (i ++ j)) H) (tVar 1) (tVar 9)) (tC (.str " x"))) (tCons (tC (.str "m7")) tNil)))
end
end Tk

set_option Elab.async false
set_option linter.all false
set_option maxRecDepth 100000
namespace Tk
open PySem L2 Lx
structure Defs (P : Program) (w : World) (K : PySem.W.Frag) (mg : Str → Option Value) (base : Heap) (C : Addr) (fCell fTok fSp fBad fToks fIs : Addr) (dCell dTok dSp dBad dToks dIs : FuncData) : Prop where
  gCell : FnOk P w K mg base CX0 1 fCell dCell ["script", "k"] (spCell K)
  gTok : FnOk P w K mg base CX0 2 fTok dTok ["cell"] spTok
  gSp : FnOk P w K mg base CX0 1 fSp dSp ["cell"] spSpace
  gBad : FnOk P w K mg base CX0 1 fBad dBad ["cell"] spBad
  gToks : FnOk P w K mg base (L2.CX P w) 4 fToks dToks ["text", "module"] (spToks C)
  gIs : FnOk P w K mg base CX0 2 fIs dIs ["value"] spIsName
  mCell : mg "_law_cell" = some (.ref fCell)
  mTok : mg "_law_token" = some (.ref fTok)
  mSp : mg "_law_space" = some (.ref fSp)
  mBad : mg "_law_bad" = some (.ref fBad)
  mToks : mg "tokens" = some (.ref fToks)
  mIs : mg "is_name" = some (.ref fIs)
  kCell : PySem.W.keepIn K (.ref fCell) = true
  kTok : PySem.W.keepIn K (.ref fTok) = true
  kSp : PySem.W.keepIn K (.ref fSp) = true
  kBad : PySem.W.keepIn K (.ref fBad) = true
  kToks : PySem.W.keepIn K (.ref fToks) = true
  kIs : PySem.W.keepIn K (.ref fIs) = true
  bCell : Binds K dCell ["script", "k"] []
  bTok : Binds K dTok ["cell"] []
  bSp : Binds K dSp ["cell"] []
  bBad : Binds K dBad ["cell"] []
  bToks : Binds K dToks ["text", "module"] []
  bIs : Binds K dIs ["value"] []
section
variable {P : Program} {w : World} {K : PySem.W.Frag} {mg : Str → Option Value} {base : Heap}
theorem law_body {f C fI cc cda fCell fTok fSp fBad fToks fIs : Addr} {dCell dTok dSp dBad dToks dIs : FuncData} (T : Txt K mg) (M : MalTxt P K mg C fI cc cda) (D : Defs P w K mg base C fCell fTok fSp fBad fToks fIs dCell dTok dSp dBad dToks dIs)
    {cdv : Value} {A : Around} {outer : List Env} {s : Shared} {H : Hp} {vs : List V} {Q : VK} {E : XK} (hA : A.guards = some []) (hr : Room 6 (A.deeper (PyProof.Rows.envOfC "law" (defScope sLaw) s.heap.objs.size f cdv))) (h : spLaw K vs H Q E) :
    ∃ t, PSs (cxOf CX0 P w K mg base ["script", "text", "due", "k", "kind", "value", "shown", "actual", "at", "bad", "e"] "law" (defScope sLaw) f cdv A outer s H E).nox (defBody sLaw) t ∧
      t { nx := fun _ H' => Q .non H', rt := Q } (start ["script", "text", "due", "k", "kind", "value", "shown", "actual", "at", "bad", "e"] vs) H := by
  obtain ⟨a, ns, rfl, hS, hlen, q⟩ := h
  have hr1 : Room 1 _ := hr.mono (by decide)
  have hr2 : Room 2 _ := hr.mono (by decide)
  have hr4 : Room 4 _ := hr.mono (by decide)
  have hgd : (A.deeper (PyProof.Rows.envOfC "law" (defScope sLaw) s.heap.objs.size f cdv)).guards = some [] := hA
  have hun : (A.deeper (PyProof.Rows.envOfC "law" (defScope sLaw) s.heap.objs.size f cdv)).units + 10 < cLine := by
    have := hr.un
    omega
  refine ⟨_, pss_cons (ps_set (i := 1) scLaw.nd rfl (.inl rfl) pe_str)
    (pss_cons (ps_set (i := 2) scLaw.nd rfl (.inl rfl) (pe_lst pa_nil))
    (pss_cons (ps_for PassesOwn.never rfl (pi_range2 (by rfl) T.range (pa_cons pe_int (pa_cons (pe_callB (call_min2 rfl) (by rfl) T.min (by decide +kernel)
        (pa_cons (pe_callB call_len_seq (by rfl) T.len PySem.boot_len (pa_cons (pv 0) pa_nil)) (pa_cons pe_int pa_nil))) pa_nil))) (pg_name (i := 3) scLaw.nd rfl (.inl rfl))
      (pss_cons (ps_asg (pe_call D.gTok hr2 rfl D.mTok D.kTok D.bTok .nil pass0 (pa_cons (pe_callB call_abs (by rfl) T.abs (by decide +kernel) (pa_cons (pe_call D.gCell hr1 rfl D.mCell D.kCell D.bCell .nil pass0 (pa_cons (pv 0) (pa_cons (pv 3) pa_nil))) pa_nil)) pa_nil))
          (pg_unl rfl (pgs_cons (pg_name (i := 4) scLaw.nd rfl (.inl rfl)) (pgs_cons (pg_name (i := 5) scLaw.nd rfl (.inl rfl)) (pgs_cons (pg_name (i := 6) scLaw.nd rfl (.inl rfl)) pgs_nil)))))
      (pss_cons (ps_expr (pe_bm PySem.F.plainAttrs_list PySem.F.slot_list_append PySem.F.type_list_append mt_append (pv 2) (pa_cons (pe_tup (pa_cons (pv 4) (pa_cons (pv 5) (pa_cons (pe_callB call_len_str (by rfl) T.len PySem.boot_len (pa_cons (pv 1) pa_nil)) pa_nil)))) pa_nil)))
      (pss_one (ps_set (i := 1) scLaw.nd rfl (.inl rfl) (pe_op op_add_str (pe_op op_add_str (pv 1) (pv 6)) (pe_call D.gSp hr1 rfl D.mSp D.kSp D.bSp .nil pass0
        (pa_cons (pe_op op_fdiv (pe_callB call_abs (by rfl) T.abs (by decide +kernel) (pa_cons (pe_call D.gCell hr1 rfl D.mCell D.kCell D.bCell .nil pass0 (pa_cons (pv 0) (pa_cons (pv 3) pa_nil))) pa_nil)) pe_int) pa_nil))))))))
    (pss_cons (ps_set (i := 7) scLaw.nd rfl (.inl rfl) (pe_call D.gToks hr4 rfl D.mToks D.kToks D.bToks .nil passL (pa_cons (pv 1) (pa_cons pe_str pa_nil))))
    (pss_cons (ps_if (PW.pt (pw_or (pt_not (pt_val (pe_callB call_isi (by rfl) T.isinst (by decide +kernel) (pa_cons (pv 7) (pa_cons (pe_bltn (v := .ty "list") (by rfl) T.list (by decide +kernel) rfl) pa_nil)))))
        (pw_or1 (pt_cmpR op_ne (pe_callB (call_repr_data hgd hun) (by rfl) T.repr (by decide +kernel) (pa_cons (pv 7) pa_nil)) (pe_callB (call_repr_data hgd hun) (by rfl) T.repr (by decide +kernel) (pa_cons (pv 2) pa_nil)) (nomark _)))))
      (pss_one (ps_ret pe_bl)) pss_nil)
    (pss_cons (ps_for PassesOwn.never rfl (pi_list (pv 2)) (pg_tup rfl (pgs_cons (pg_name (i := 4) scLaw.nd rfl (.inl rfl)) (pgs_cons (pg_name (i := 5) scLaw.nd rfl (.inl rfl)) (pgs_cons (pg_name (i := 8) scLaw.nd rfl (.inl rfl)) pgs_nil))))
      (pss_one (ps_if (PW.pt (pw_and (pt_cmpR op_in_seq (pv 4) (pe_lst (pa_cons pe_str (pa_cons pe_str pa_nil))) (by rfl))
          (pw_and1 (pt_cmpR op_ne (pe_call D.gIs hr2 rfl D.mIs D.kIs D.bIs .nil pass0 (pa_cons (pv 5) pa_nil)) (pe_cmpR op_eq (pv 4) pe_str (nomark _)) (nomark _)))))
        (pss_one (ps_ret pe_bl)) pss_nil)))
    (pss_cons (ps_if (PW.pt (pw_or (pt_cmpR op_notBl (pe_call D.gIs hr2 rfl D.mIs D.kIs D.bIs .nil pass0 (pa_cons pe_str pa_nil)) pe_bl (nomark _))
        (pw_or (pt_cmpR op_notBl (pe_call D.gIs hr2 rfl D.mIs D.kIs D.bIs .nil pass0 (pa_cons (pe_op op_mulS pe_str pe_int) pa_nil)) pe_bl (nomark _))
        (pw_or (pt_cmpR op_notBl (pe_call D.gIs hr2 rfl D.mIs D.kIs D.bIs .nil pass0 (pa_cons pe_int pa_nil)) pe_bl (nomark _))
        (pw_or1 (pt_cmpR op_notBl (pe_call D.gIs hr2 rfl D.mIs D.kIs D.bIs .nil pass0 (pa_cons pe_str pa_nil)) pe_bl (nomark _)))))))
      (pss_one (ps_ret pe_bl)) pss_nil)
    (pss_cons (ps_set (i := 9) scLaw.nd rfl (.inl rfl) (pe_call D.gBad hr1 rfl D.mBad D.kBad D.bBad .nil pass0 (pa_cons (pe_callB call_abs (by rfl) T.abs (by decide +kernel) (pa_cons (pe_call D.gCell hr1 rfl D.mCell D.kCell D.bCell .nil pass0 (pa_cons (pv 0) (pa_cons pe_int pa_nil))) pa_nil)) pa_nil)))
    (pss_cons (ps_try_as (i := 10) (Wout := fun _ _ _ _ => False) rfl rfl scLaw.nd rfl rfl ⟨rfl, by decide, Or.inl M.gC⟩ takes0
        (fun W pn xe tk _ => pss_one (ps_expr (by exact (pe_callS D.gToks hr4 rfl D.mToks D.kToks D.bToks (fun σ => passAt tk σ) (by exact (pa_cons (pe_op op_add_str (pe_op op_add_str (pv 1) (pv 9)) pe_str) (pa_cons pe_str pa_nil)))))))
        (fun a oe cls d pn hz hf => pss_one (ps_ret (by exact (pe_and (pe_cmpR op_eq (pe_xf M.xf M.nM hz hf (pv 10)) pe_str (nomark _)) (pe_one (pe_cmpR op_eq (pe_xf M.xf M.nA hz hf (pv 10)) (pe_callB call_len_str (by rfl) T.len PySem.boot_len (pa_cons (pv 1) pa_nil)) (nomark _))))))))
    (pss_one (ps_ret pe_bl)))))))))), ?_⟩
  -- text = ''; due = []
  refine ⟨Nat.zero_le _, fun L hL => ?_⟩
  have s0 : Same H (upd H L (.lst [])) := same_new hL
  have hml : ((ns.map V.int).length : Int) ≤ 63 := by
    rw [List.length_map]
    omega
  refine ⟨_, rfl, a, _, rfl, .inl (s0.seq hS), _, _, rfl, 1, _, rfl, ?_, ?_⟩
  · split <;> omega
  have hN : ((if (61 : Int) < ((ns.map V.int).length : Int) then 61 else ((ns.map V.int).length : Int)) - 1).toNat ≤ 60 := by split <;> omega
  let Pv : Nat → St → Hp → Prop := fun i σ H' => ∃ (ts : List Tk) (l : List Nat) (rs : List V) (v3 v4 v5 v6 : Option V), Same H H' ∧ H' L = some (.lst rs) ∧ TkL H' rs ts ∧ Pre ts l ∧ l.length ≤ 32 * i ∧ ts.length = i ∧ (∀ t ∈ ts, TkG t) ∧
    σ = [some (.ref a), some (.str (tx l)), some (.ref L), v3, v4, v5, v6, none, none, none, none]
  refine for_range (lo := 1) Pv ?h0 ?hs ?hd
  case h0 =>
    have e0 : tx [] = PySem.Str.ofString "" := TL.ext_tl (by decide +kernel)
    refine ⟨[], [], [], none, none, none, none, s0, upd_same, .nil, pre_nil, Nat.le_refl _, rfl, fun t h => (by cases h), ?_⟩
    rw [e0]
    rfl
  case hs =>
    -- a turn
    rintro i σ H' hi ⟨ts, l, rs, v3, v4, v5, v6, hS', hL', hT', hP, hll, hts, hG, rfl⟩
    have hi60 : i < 60 := Nat.lt_of_lt_of_le hi hN
    refine ⟨_, rfl, _, rfl, a, ns, 1 + i, rfl, hS'.seq hS, _, rfl, _, rfl, fun k v sh hT H2 p hS2 hn2 hp2 => ?_⟩
    refine ⟨p, _, rfl, SqL.of hp2, rfl, _, _, rfl, _, _, rfl, _, _, rfl, rfl, ?_⟩
    have hL2 := hS2 _ _ hL'
    have hlen2 : (tx l).length ≤ sizeLine := by rw [tx_len]; exact line20 (by omega)
    refine ⟨_, rfl, .inl ⟨rfl, _, SqL.of hL2⟩, _, rfl, _, rfl, _, rfl, tx l, rfl, hlen2, (by show 3 ≤ sizeLine; decide), fun tp htp => ?_⟩
    have ntL : L ≠ tp := ne_of_none hL2 htp
    have hL3 : upd H2 tp (.tup [.str (tx k), tv v, .int (((tx l).length : Nat) : Int)]) L = some (.lst rs) := by
      rw [upd_ne ntL]
      exact hL2
    have hrs := hT'.len
    refine ⟨L, _, _, rfl, rfl, hL3, Nat.lt_of_le_of_lt (show rs.length ≤ 100 by omega) (by decide), ?_⟩
    have s3 : Same H (upd (upd H2 tp (.tup [.str (tx k), tv v, .int (((tx l).length : Nat) : Int)])) L (.lst (rs ++ [.ref tp]))) := fun c o e => by
      have e1 := hS2 _ _ (hS' _ _ e)
      rw [upd_ne (ne_of_none e hL), upd_ne (ne_of_none e1 htp)]
      exact e1
    have tshl := hT.len
    refine ⟨_, rfl, _, rfl, _, _, rfl, rfl, (by rw [tx_len, tx_len]; exact line20 (by omega)), _, rfl, _, rfl, a, ns, 1 + i, rfl, s3.seq hS, _, rfl, _, _, rfl, rfl, ⟨by decide, by decide⟩, _, rfl, fun l2 H4 hl2 hS4 => ?_⟩
    have sp := ok_space hl2
    have spl := sp.len
    refine ⟨_, _, rfl, rfl, (by rw [tx_app, tx_len, tx_len, List.length_append]; exact line20 (by omega)), ?_⟩
    have tl4 : TkL H4 (rs ++ [.ref tp]) (ts ++ [⟨k, v, l.length⟩]) := by
      refine TkL.snoc (hT'.keep fun b xs e => ?_) ?_
      · have nb : b ≠ L := fun z => by
          rw [z, hL'] at e
          cases e
        refine hS4 _ _ ?_
        rw [upd_ne nb, upd_ne (ne_of_none (hS2 _ _ e) htp)]
        exact hS2 _ _ e
      · refine hS4 _ _ ?_
        rw [upd_ne (Ne.symm ntL), upd_same]
        show some (HO.tup [.str (tx k), tv v, .int (((tx l).length : Nat) : Int)]) = some (HO.tup [.str (tx k), tv v, .int ((l.length : Nat) : Int)])
        rw [tx_len]
    have e5 : tx l ++ tx sh ++ tx l2 = tx (l ++ sh ++ l2) := by rw [tx_app, tx_app]
    refine ⟨ts ++ [⟨k, v, l.length⟩], l ++ sh ++ l2, rs ++ [.ref tp], some (.int (1 + (i : Int))), some (.str (tx k)), some (tv v), some (.str (tx sh)), s3.trans hS4, hS4 _ _ upd_same, tl4, pre_more hP hT sp, ?_, by rw [List.length_append, List.length_singleton]; omega, fun t ht => ?_, ?_⟩
    · rw [List.length_append, List.length_append]
      omega
    · rcases List.mem_append.mp ht with ht | ht
      · exact hG t ht
      · rw [List.mem_singleton.mp ht]
        exact ⟨⟨sh, hT⟩, by show l.length ≤ 2100; omega⟩
    · rw [← e5]
      rfl
  case hd =>
    -- behind the loop
    rintro σ H1 ⟨ts, l, rs, v3, v4, v5, v6, hS1, hL1, hT1, hP, hll, hts, hG, rfl⟩
    have hl2000 : l.length ≤ 2000 := by omega
    have hts60 : ts.length ≤ 100 := by omega
    refine ⟨_, rfl, tx l, PySem.Str.ofString "m", ts, none, rfl, by rw [tx_len]; omega, by decide +kernel, pre_all hP, fun _ H2 p rs2 hS2 hn2 hp2 hT2 => ?_, fun i e => nomatch e⟩
    obtain ⟨d1, d2, d3, d4⟩ := list_ok hG hts60
    have hL2 := hS2 _ _ hL1
    have hTd : TkL H2 rs ts := hT1.keep fun b xs e => hS2 _ _ e
    refine ⟨_, rfl, _, _, _, _, true, rfl, .ty "list", .base (.lst hp2), kit_ty (by decide +kernel), _, rfl, ifF rfl ?_⟩
    refine ⟨_, rfl, p, _, rfl, .lst (SqL.of hp2) hT2.dp, d1, d2, d3, d4, _, rfl, L, _, rfl, .lst (SqL.of hL2) hTd.dp, d1, d2, d3, d4, rfl, _, rfl, ifF ?_ ?_⟩
    · rw [decide_eq_true rfl] <;> rfl
    refine ⟨_, rfl, L, rfl, ⟨_, SqL.of hL2⟩, for_list (K := K) (a := L) (xs := rs) (fun i σ H' => ∃ v4 v5 v8 : Option V, Same H2 H' ∧ σ = [some (.ref a), some (.str (tx l)), some (.ref L), v3, v4, v5, v6, some (.ref p), v8, none, none])
      ⟨_, _, _, Same.refl H2, rfl⟩ (fun i σ H' _ ⟨_, _, _, hs, _⟩ => hs.seq (SqL.of hL2)) ?_ ?_⟩
    · rintro i x σ H' hx ⟨w4, w5, w8, hs, rfl⟩
      obtain ⟨ad, t, rfl, ht, had⟩ := hTd.get hx
      obtain ⟨sh, tok'⟩ := (hG t (List.mem_of_getElem? ht)).ok
      refine ⟨ad, _, rfl, SqT.of (hs _ _ had), rfl, _, _, rfl, _, _, rfl, _, _, rfl, rfl, ?_⟩
      refine ⟨_, rfl, (by show 2 ≤ sizeLine; decide), fun n hn => ⟨n, _, rfl, .inl (SqL.of upd_same), rfl, rfl, _, rfl, ?_⟩⟩
      have sN : Same H2 (upd H' n (.lst [.str (PySem.Str.ofString "name"), .str (PySem.Str.ofString "word")])) := hs.trans (same_new hn)
      have ein : inV (.str (tx t.k)) [.str (PySem.Str.ofString "name"), .str (PySem.Str.ofString "word")] = decide (t.k ∈ [kN, kW]) := by
        rw [kN_eq, kW_eq]
        exact in_txs (tx t.k) [kN, kW]
      by_cases hk : t.k ∈ [kN, kW]
      · refine ifT (ein.trans (decide_eq_true hk)) ?_
        have hk' : t.k = kW ∨ t.k = kN := by
          simp only [List.mem_cons, List.not_mem_nil, or_false] at hk
          rcases hk with h | h
          · exact .inr h
          · exact .inl h
        obtain ⟨wv, ev, W, hres⟩ := tok'.word hk'
        have wl := W.len
        refine ⟨_, rfl, _, rfl, .inl ⟨tx wv, by rw [ev] <;> rfl, by rw [tx_len]; omega, _, rfl, rfl, rfl, _, rfl, ifF ?_ ⟨_, _, _, sN, rfl⟩⟩⟩
        have e1 : nameB (TL.tl (tx wv)) = decide (V.str (tx t.k) = V.str (PySem.Str.ofString "name")) := by
          rw [tl_tx, nameB_wd W, kN_eq, str_eq, tl_tx, tl_tx]
          rcases hk' with h | h
          · have r1 := hres.mpr h
            rw [decide_eq_true r1, h]
            decide
          · have r1 : wv ∉ RES := fun z => by
              have z2 := hres.mp z
              rw [h] at z2
              exact absurd z2 (by decide)
            rw [decide_eq_false r1, h]
            decide
        rw [e1, decide_eq_true rfl] <;> rfl
      · refine ifF (ein.trans (decide_eq_false hk)) ?_
        exact ifF rfl ⟨_, _, _, sN, rfl⟩
    · rintro σ H3 ⟨w4, w5, w8, hs3, rfl⟩
      refine ⟨_, rfl, .inl ⟨_, rfl, by decide +kernel, _, _, rfl, rfl, _, rfl, ifF (by decide +kernel) ?_⟩⟩
      refine ⟨_, _, rfl, rfl, mul_ok _ (by decide +kernel), _, rfl, .inl ⟨_, rfl, by decide +kernel, _, _, rfl, rfl, _, rfl, ifF (by decide +kernel) ?_⟩⟩
      refine ⟨_, rfl, .inr ⟨_, rfl, _, _, rfl, rfl, _, rfl, ifF (by decide +kernel) ?_⟩⟩
      refine ⟨_, rfl, .inl ⟨_, rfl, by decide +kernel, _, _, rfl, rfl, _, rfl, ifF (by decide +kernel) ?_⟩⟩
      have sH3 : Same H H3 := hS1.trans (hS2.trans hs3)
      refine ⟨_, rfl, a, ns, 0, rfl, sH3.seq hS, _, rfl, _, rfl, fun lb Hb hb hSb => ?_⟩
      obtain ⟨_, lb23, _, _⟩ := ok_bad hb
      have ex : PySem.Str.ofString " x" = tx [32, 120] := TL.ext_tl (by decide +kernel)
      have e9 : tx l ++ tx lb ++ PySem.Str.ofString " x" = tx (l ++ (lb ++ [32, 120])) := by rw [ex, tx_app, tx_app, List.append_assoc]
      have z1 : (tx l).length + (tx lb).length ≤ sizeLine := by rw [tx_len, tx_len]; exact line20 (by omega)
      have z2 : (tx l ++ tx lb).length + (PySem.Str.ofString " x").length ≤ sizeLine := by
        rw [ex, tx_app, tx_len, tx_len, List.length_append]
        exact line20 (by simp; omega)
      refine ⟨_, rfl, _, rfl, _, _, rfl, rfl, z1, _, _, rfl, rfl, z2, tx (l ++ (lb ++ [32, 120])), PySem.Str.ofString "m7", ts, some l.length, congrArg (fun z => [V.str z, V.str (PySem.Str.ofString "m7")]) e9, ?_, by decide +kernel, pre_bad hP hb, fun e => (by cases e), fun i hi H9 d hS9 hd9 => ?_⟩
      · rw [tx_len, List.length_append, List.length_append]
        simp
        omega
      cases hi
      refine ⟨true, M.te, fun _ a0 _ => ?_, fun q => Bool.noConfusion q⟩
      refine ⟨_, rfl, rfl, rfl, d, _, _, rfl, hd9, malF_mod _ _, rfl, _, rfl, ifT (decide_eq_true rfl) ?_⟩
      refine ⟨_, rfl, rfl, rfl, d, _, _, rfl, hd9, malF_at _ _, _, rfl, tx l, rfl, by rw [tx_len]; exact line20 (by omega), rfl, ?_⟩
      have ef : decide (V.int ((l.length : Nat) : Int) = V.int (((tx l).length : Nat) : Int)) = true := decide_eq_true (by rw [tx_len])
      show Q (V.bl (decide (V.int ((l.length : Nat) : Int) = V.int (((tx l).length : Nat) : Int)))) _
      rw [ef]
      exact q _
end
end Tk

set_option Elab.async false
set_option linter.all false
set_option maxRecDepth 100000
namespace Tk
open PySem L2 Lx
section
variable {P : Program} {w : World} {K : PySem.W.Frag} {mg mb : Str → Option Value}
/-- the law's call where no repr runs around: its body, entered from the caller -/
theorem law_at {base : Heap} {f C fI cc cda fCell fTok fSp fBad fToks fIs : Addr} {fd dCell dTok dSp dBad dToks dIs : FuncData} (F : Fun K "law" "law" sLaw f fd) (T : Txt K mg) (M : MalTxt P K mg C fI cc cda)
    (D : Defs P w K mg base C fCell fTok fSp fBad fToks fIs dCell dTok dSp dBad dToks dIs) (hb : ∀ (s : Shared) (u : Value), BindsTo s fd ⟨[u], []⟩ [("script", u)]) {s : Shared} {H : Hp} {a : Addr} (e0 : Env0 P w K mg base callerA [] s H)
    (h : spLaw K [.ref a] H (fun v _ => v = .bl true) E0) : codeAny (model P w) callerA (.call (.ref f) ⟨[.ref a], []⟩) (CR CX0 [] P w H s (fun v _ => v = .bl true) E0) s := by
  obtain ⟨oc, od, kV, doc, pm, an, cdv, ct, osl, rfl, lk, hcd⟩ := F.ex
  have hr : Room 7 callerA := ⟨rfl, by decide, by decide⟩
  have KX : K.In s.heap := (e0.mod.kin).keeps (fun b o e => (e0.bs b o e).1)
  have NL : s.heap.NoLimit := (e0.mod.nolimit).keeps (fun b o e => (e0.bs b o e).1)
  refine codeAny_call_function (hr.depth) (KX _ _ lk) rfl (scLaw.co) (scLaw.gen) rfl (PySem.W.codeRec_of KX hcd) ((hb s (.ref a)) _ _ _ _ ?_)
  refine wpAny_newFunctionEnv_cells (scLaw.kind) (fun y hy => ?_) (fun env he s1 x => ?_)
  · obtain rfl : y = (("script" : Str), Value.ref a) := List.mem_singleton.mp hy
    exact .inl (show List.lookup ("script" : Str) (defScope sLaw).names = some NameKind.local by decide +kernel)
  subst he
  obtain ⟨t, ht, hq⟩ := law_body (cdv := cdv) (A := callerA) (outer := []) (s := s) T M D rfl (hr.deeper _) h
  have I0 := inv_start (CX := CX0) (E := E0) scLaw rfl e0 (us := [.ref a]) (vs := [.ref a]) rfl (.cons rfl .nil) x
  refine ⟨NL.keeps (x.toInCall.keep), codeAny_func (wpAny_mono (ht.nox.run [] s1 _ H _ I0 hq) (fun fl s' hs => ?_) (fun e s' hs => hs))⟩
  cases fl with
  | ret u =>
    obtain ⟨v, σ', H', J, rv, q⟩ := hs
    exact ⟨v, H', J.os, J.bare, J.base, J.hok, rv, q⟩
  | next =>
    obtain ⟨σ', H', J, q⟩ := hs
    exact ⟨V.non, H', J.os, J.bare, J.base, J.hok, (show Value.none = Value.none from rfl), q⟩
  | brk => exact False.elim (by obtain ⟨_, _, _, q⟩ := hs; exact q)
  | cont => exact False.elim (by obtain ⟨_, _, _, q⟩ := hs; exact q)
/-- the script, known to its object -/
def scriptO (vs : List Value) : Obj := { cls := .type "list", data := .seq vs.toArray }
open PySem.Spec PyProof.Rows in
/-- from the heap behind the top: nothing is tracked but the script, where it is none of the module's own objects -/
theorem law_top {fa a : Addr} {s₁ : Shared} {vs : List Value} {ns : List Int} (KX : K.In s₁.heap) (hG : s₁.heap.Ns mainGlobals mg) (hB : s₁.heap.Ns builtinsNs mb) (hbb : ∀ x : Str, x ≠ "__name__" → mb x = bootBuiltins x) (hL : s₁.heap.NoLimit) (hg : s₁.gens = #[])
    (ha : s₁.heap.get? a = some (scriptO vs)) (hi : IntsAre vs ns) (hl : ns.length ≤ 63)
    (F : ∀ base : Heap, K.In base → base.Ns mainGlobals mg → ∀ H : Hp, Env0 P w K mg base callerA [] s₁ H → SqL K H a (ns.map V.int) → codeAny (model P w) callerA (.call (.ref fa) ⟨[.ref a], []⟩) (CR CX0 [] P w H s₁ (fun v _ => v = .bl true) E0) s₁) :
    codeAny (model P w) callerA (.call (.ref fa) ⟨[.ref a], []⟩) (fun r s' => r = .ok (.ret (.bool true)) ∧ OldK s₁.heap s'.heap ∧ s'.os = s₁.os ∧ AllBare s'.gens) s₁ := by
  have rv : Vals (ns.map V.int) vs := vals_ints hi
  have lv : vs.length = ns.length := hi.length
  let H0 : Hp := fun b => if b = a ∧ K.lookup a = none then some (.frz (scriptO vs) (.lst (ns.map V.int))) else none
  have hH : ∀ b u, H0 b = some u → b = a ∧ K.lookup a = none ∧ u = .frz (scriptO vs) (.lst (ns.map V.int)) := fun b u e => by
    by_cases c : b = a ∧ K.lookup a = none
    · have e' : some (HO.frz (scriptO vs) (.lst (ns.map V.int))) = some u := (if_pos c).symm.trans e
      exact ⟨c.1, c.2, (Option.some.inj e').symm⟩
    · have e' : (none : Option HO) = some u := (if_neg c).symm.trans e
      cases e'
  have hno : ∀ b, (b = a → K.lookup a = none → False) → H0 b = none := fun b h => if_neg fun z => h z.1 z.2
  have hS : SqL K H0 a (ns.map V.int) := by
    cases hk : K.lookup a with
    | some o =>
      have e := KX a o hk
      rw [ha] at e
      cases e
      exact .inr ⟨_, vs.toArray, _, hk, rfl, rfl, rfl, Nat.le_trans (show vs.toArray.size ≤ 63 by rw [List.size_toArray]; omega) (by decide), rv⟩
    | none => exact .inl (.inr ⟨scriptO vs, if_pos ⟨rfl, hk⟩⟩)
  have hok : HOk P w H0 s₁.heap := fun b u e => by
    obtain ⟨e1, _, e2⟩ := hH b u e
    rw [e1, e2]
    exact ⟨ha, Nat.le_trans (show (ns.map V.int).length ≤ 63 by rw [List.length_map]; exact hl) (by decide), vs, _, rv, ha⟩
  have nsB : ∀ {b : Addr} {m : Str → Option Value}, s₁.heap.Ns b m → (hidT s₁.heap H0).Ns b m := fun {b m} ⟨o, es, ep, e, dd, r⟩ => by
    refine ⟨o, es, ep, hidT_get e (hno b fun z _ => ?_), dd, r⟩
    rw [z, ha] at e
    have e' := Option.some.inj e
    rw [← e'] at dd
    cases dd
  have KB : K.In (hidT s₁.heap H0) := fun b o e => hidT_get (KX b o e) (hno b fun z hn => by
    rw [z, hn] at e
    cases e)
  have LB : (hidT s₁.heap H0).NoLimit := by
    obtain ⟨mc, h1, h2⟩ := hL
    exact ⟨mc, nsB h1, h2⟩
  have e0 : Env0 P w K mg (hidT s₁.heap H0) callerA [] s₁ H0 :=
    ⟨rfl, ⟨KB, nsB hG, ⟨mb, nsB hB, hbb⟩, LB⟩, fun b o e => of_hidT e, Nat.le_of_eq (hidT_size _ _), trivial, fun b hm => (by cases hm), hok, .of_eq hg⟩
  refine codeAny_mono (F _ KB (nsB hG) H0 e0 hS) fun r s' h => ?_
  cases r with
  | error e => exact False.elim h
  | ok fl =>
    cases fl with
    | next => exact False.elim h
    | brk => exact False.elim h
    | cont => exact False.elim h
    | ret u =>
      obtain ⟨v, H', os, bare, un, hok', r', q⟩ := h
      have q' : v = .bl true := q
      subst q'
      obtain rfl : u = Value.bool true := r'
      refine ⟨rfl, OldK.of_keep (fun b o e => ?_), os, bare⟩
      cases c : H0 b with
      | none => exact un.keep b o e c (fun z => by cases z) (fun z => by cases z)
      | some u =>
        obtain ⟨e1, _, e2⟩ := hH b u c
        rw [e2] at c
        obtain ⟨g1, _⟩ := hok' b _ (un.frzs b _ _ c)
        rw [e1, ha] at e
        rw [e1] at g1 ⊢
        rw [← Option.some.inj e]
        exact g1
end
/-- the goal that the head leaves -/
theorem law_walk {l : PySem.W.OpenLaw} {q : Program} {loose : List Str} {XP : (Str → Option Value) → Heap → Prop} {YP : World → Heap → Prop} {d : DefRec} {K : Params → PySem.W.Frag} (hn : l.most = some 63) (hdf : d.params.defaults = []) (hY : ∀ (w : World) (h : Heap), YP w h → (K w.params).In h)
    (F : ∀ (w : World) (mg : Str → Option Value) (fa : Addr) (h : Heap), (K w.params).In h → h.Ns mainGlobals mg → mg d.name = some (.ref fa) → ∀ base : Heap, (K w.params).In base → base.Ns mainGlobals mg → ∀ (s : Shared) (H : Hp) (a : Addr), Env0 l.prog w (K w.params) mg base callerA [] s H →
      spLaw (K w.params) [.ref a] H (fun v _ => v = .bl true) E0 → codeAny (model l.prog w) callerA (.call (.ref fa) ⟨[.ref a], []⟩) (CR CX0 [] l.prog w H s (fun v _ => v = .bl true) E0) s) :
    PySem.W.WalkO q loose XP YP l.row.toRowW d [] (fun f vs => PySem.call f vs) := by
  refine Att.attach_call hn hdf (fun w s₀ s₁ mg mb fa o pm cd doc a vs ns G Y ho hd hcd hmg hobj hints hlen hg => ?_)
  have KX := hY w _ Y
  exact law_top KX G.T.g G.T.b G.T.builtins G.T.nolimit hg hobj hints hlen fun base KB NB H e0 hS => F w mg fa _ KX G.T.g hmg base KB NB s₁ H a e0 ⟨a, ns, rfl, hS, hlen, fun _ => rfl⟩
/-! ### what the top has left -/
theorem relV_str {u : Value} {x : Str} (h : absV u = some (.str x)) : RelV (.str x) u := by
  cases u <;> first | (cases h; exact ⟨_, rfl⟩) | cases h
theorem vals_strs' : ∀ {l : List (List Nat)} {us : List Value}, us.map absV = l.map (fun w => some (V.str (tx w))) → Vals (l.map fun w => V.str (tx w)) us
  | [], [], _ => .nil
  | [], _ :: _, h => by cases h
  | _ :: _, [], h => by cases h
  | a :: l, u :: us, h => by
    rw [List.map_cons, List.map_cons] at h
    exact .cons (relV_str (List.cons.inj h).1) (vals_strs' (List.cons.inj h).2)
theorem tup_of {K : PySem.W.Frag} {a : Addr} {dd : Option Addr} {its : Array Value} {n : Nat} {sl : Array (Option Value)} {l : List (List Nat)} (h : K.lookup a = some ⟨.type "tuple", dd, .seq its n, sl⟩) (hv : its.toList.map absV = l.map (fun w => some (V.str (tx w)))) (hs : its.size ≤ sizeLine) (H : Hp) :
    SqT K H a (l.map fun w => V.str (tx w)) := .inr ⟨_, its, n, h, rfl, rfl, hs, vals_strs' hv⟩
/-- a def of the top -/
structure DefAt (K : PySem.W.Frag) (name : Str) (st : Stmt) (f : Addr) : Prop where
  a : PySem.W.nsIn K mainGlobals name = some (some (.ref f))
  l : ∃ (oc : Value) (od : Option Addr) (kV doc pm : Value) (an : Option Addr) (cdv ct : Value) (osl : Array (Option Value)), K.lookup f = some ⟨oc, od, .func (PySem.W.fnOf name name (defArgs st) (defBody st) (defScope st) .none kV doc pm an cdv ct), osl⟩ ∧ PySem.W.codeIn K cdv name = true
  k : PySem.W.keepIn K (.ref f) = true
theorem DefAt.fn {K : PySem.W.Frag} {name : Str} {st : Stmt} {f : Addr} (D : DefAt K name st f) : ∃ fd, Fun K name name st f fd := by
  obtain ⟨oc, od, kV, doc, pm, an, cdv, ct, osl, h1, h2⟩ := D.l
  exact ⟨_, fun_mk h1 h2 D.k⟩
structure AllDefs (K : PySem.W.Frag) (f13 f14 f15 f16 f17 f18 f19 f20 f21 f22 f23 f25 f26 f27 f28 f29 f30 : Addr) : Prop where
  d13 : DefAt K "tokens" sTokens f13
  d14 : DefAt K "is_name" sIsName f14
  d15 : DefAt K "name_fits" sFits f15
  d16 : DefAt K "gap_end" sGap f16
  d17 : DefAt K "comment_end" sCom f17
  d18 : DefAt K "word_end" sWend f18
  d19 : DefAt K "token_at" sTokAt f19
  d20 : DefAt K "word_at" sWordAt f20
  d21 : DefAt K "number_at" sNumAt f21
  d22 : DefAt K "string_at" sStrAt f22
  d23 : DefAt K "sign_at" sSignAt f23
  d25 : DefAt K "_law_cell" sCell f25
  d26 : DefAt K "_law_word" sWord f26
  d27 : DefAt K "_law_token" sTok f27
  d28 : DefAt K "_law_space" sSpace f28
  d29 : DefAt K "_law_bad" sBad f29
  d30 : DefAt K "law" sLaw f30
theorem all_run {P : Program} {w : World} {K : PySem.W.Frag} {h : Heap} {mg : Str → Option Value} {fa C fI cc cda f13 f14 f15 f16 f17 f18 f19 f20 f21 f22 f23 f25 f26 f27 f28 f29 f30 : Addr} (X : K.In h) (G : h.Ns mainGlobals mg) (hfa : mg "law" = some (.ref fa))
    (A : AllDefs K f13 f14 f15 f16 f17 f18 f19 f20 f21 f22 f23 f25 f26 f27 f28 f29 f30) (T : Txt K mg) (M : MalTxt P K mg C fI cc cda) :
    ∀ base : Heap, K.In base → base.Ns mainGlobals mg → ∀ (s : Shared) (H : Hp) (a : Addr), Env0 P w K mg base callerA [] s H → spLaw K [.ref a] H (fun v _ => v = .bl true) E0 →
      codeAny (model P w) callerA (.call (.ref fa) ⟨[.ref a], []⟩) (CR CX0 [] P w H s (fun v _ => v = .bl true) E0) s := by
  intro base KB NB s H a e0 hsp
  have e := hfa.symm.trans (PySem.W.mg_of X G A.d30.a)
  cases e
  obtain ⟨_, F13⟩ := A.d13.fn
  obtain ⟨_, F14⟩ := A.d14.fn
  obtain ⟨_, F15⟩ := A.d15.fn
  obtain ⟨_, F16⟩ := A.d16.fn
  obtain ⟨_, F17⟩ := A.d17.fn
  obtain ⟨_, F18⟩ := A.d18.fn
  obtain ⟨_, F19⟩ := A.d19.fn
  obtain ⟨_, F20⟩ := A.d20.fn
  obtain ⟨_, F21⟩ := A.d21.fn
  obtain ⟨_, F22⟩ := A.d22.fn
  obtain ⟨_, F23⟩ := A.d23.fn
  obtain ⟨_, F25⟩ := A.d25.fn
  obtain ⟨_, F26⟩ := A.d26.fn
  obtain ⟨_, F27⟩ := A.d27.fn
  obtain ⟨_, F28⟩ := A.d28.fn
  obtain ⟨_, F29⟩ := A.d29.fn
  obtain ⟨_, F30⟩ := A.d30.fn
  have b13 := F13.binds (ps := ["text", "module"]) fun _ _ _ _ _ _ us hl => match us, hl with | [_, _], _ => rfl
  have b14 := F14.binds (ps := ["value"]) fun _ _ _ _ _ _ us hl => match us, hl with | [_], _ => rfl
  have b15 := F15.binds (ps := ["word"]) fun _ _ _ _ _ _ us hl => match us, hl with | [_], _ => rfl
  have b16 := F16.binds (ps := ["text", "at"]) fun _ _ _ _ _ _ us hl => match us, hl with | [_, _], _ => rfl
  have b17 := F17.binds (ps := ["text", "at"]) fun _ _ _ _ _ _ us hl => match us, hl with | [_, _], _ => rfl
  have b18 := F18.binds (ps := ["text", "at"]) fun _ _ _ _ _ _ us hl => match us, hl with | [_, _], _ => rfl
  have b19 := F19.binds (ps := ["text", "at"]) fun _ _ _ _ _ _ us hl => match us, hl with | [_, _], _ => rfl
  have b20 := F20.binds (ps := ["text", "at"]) fun _ _ _ _ _ _ us hl => match us, hl with | [_, _], _ => rfl
  have b21 := F21.binds (ps := ["text", "at"]) fun _ _ _ _ _ _ us hl => match us, hl with | [_, _], _ => rfl
  have b22 := F22.binds (ps := ["text", "at"]) fun _ _ _ _ _ _ us hl => match us, hl with | [_, _], _ => rfl
  have b23 := F23.binds (ps := ["text", "at"]) fun _ _ _ _ _ _ us hl => match us, hl with | [_, _], _ => rfl
  have b25 := F25.binds (ps := ["script", "k"]) fun _ _ _ _ _ _ us hl => match us, hl with | [_, _], _ => rfl
  have b26 := F26.binds (ps := ["cell"]) fun _ _ _ _ _ _ us hl => match us, hl with | [_], _ => rfl
  have b27 := F27.binds (ps := ["cell"]) fun _ _ _ _ _ _ us hl => match us, hl with | [_], _ => rfl
  have b28 := F28.binds (ps := ["cell"]) fun _ _ _ _ _ _ us hl => match us, hl with | [_], _ => rfl
  have b29 := F29.binds (ps := ["cell"]) fun _ _ _ _ _ _ us hl => match us, hl with | [_], _ => rfl
  have mg_ : ∀ {n : Str} {f : Addr} {st : Stmt}, DefAt K n st f → mg n = some (.ref f) := fun D => PySem.W.mg_of X G D.a
  have GT := ok_tokAt (P := P) (w := w) (base := base) F19 T (ok_wordAt F20 T F18 b18 (mg_ A.d18) F15 b15 (mg_ A.d15)) A.d20.k b20 (mg_ A.d20) (ok_numAt F21 T F18 b18 (mg_ A.d18)) A.d21.k b21 (mg_ A.d21)
    (ok_strAt F22 T F18 b18 (mg_ A.d18)) A.d22.k b22 (mg_ A.d22) (ok_signAt F23 T) A.d23.k b23 (mg_ A.d23)
  have D : Defs P w K mg base C f25 f27 f28 f29 f13 f14 _ _ _ _ _ _ :=
    { gCell := ok_cell F25 T, gTok := ok_tok F27 T F26 b26 (mg_ A.d26), gSp := ok_space' F28 T, gBad := ok_bad' F29 T, gToks := ok_toks F13 T M (ok_gap F16 T F17 b17 (mg_ A.d17)) A.d16.k b16 (mg_ A.d16) GT A.d19.k b19 (mg_ A.d19), gIs := ok_isName F14 T F18 b18 (mg_ A.d18) F15 b15 (mg_ A.d15),
      mCell := mg_ A.d25, mTok := mg_ A.d27, mSp := mg_ A.d28, mBad := mg_ A.d29, mToks := mg_ A.d13, mIs := mg_ A.d14, kCell := A.d25.k, kTok := A.d27.k, kSp := A.d28.k, kBad := A.d29.k, kToks := A.d13.k, kIs := A.d14.k, bCell := b25, bTok := b27, bSp := b28, bBad := b29, bToks := b13, bIs := b14 }
  refine law_at F30 T M D (fun s u => ?_) e0 hsp
  obtain ⟨oc, od, kV, doc, pm, an, cdv, ct, osl, rfl, lk, hcd⟩ := F30.ex
  exact .of_eq rfl
end Tk

set_option Elab.async false
set_option linter.all false
set_option maxRecDepth 100000
namespace Tk
open PySem L2 Lx
theorem def_mk {K : PySem.W.Frag} {name : Str} {st : Stmt} {f : Addr} {oc : Value} {od an : Option Addr} {kV doc pm cdv ct : Value} {osl : Array (Option Value)} (a : PySem.W.nsIn K mainGlobals name = some (some (.ref f)))
    (l : K.lookup f = some ⟨oc, od, .func (PySem.W.fnOf name name (defArgs st) (defBody st) (defScope st) .none kV doc pm an cdv ct), osl⟩) (c : PySem.W.codeIn K cdv name = true) (k : PySem.W.keepIn K (.ref f) = true) : DefAt K name st f := ⟨a, ⟨oc, od, kV, doc, pm, an, cdv, ct, osl, l, c⟩, k⟩
/-- an error of the class at S is what an except clause that names S takes -/
theorem exm_me {K : PySem.W.Frag} {S : Addr} (h1 : PySem.W.subIn K (.ref S) (.type "BaseException") = some true) (h2 : PySem.W.isClsIn K S = true) (h3 : PySem.W.typeIn K (.ref S) = some (.type "type")) (h4 : PySem.W.subIn K (.ref S) (.ref S) = some true) : PySem.W.exmOne K (.ref S) (.ref S) = some true := by
  have e1 : (PySem.W.subIn K (.ref S) (.type "BaseException") == some true) = true := by rw [h1] <;> rfl
  have e2 : ((PySem.W.clsIn K S).isSome && PySem.W.typeIn K (.ref S) == some (.type "type")) = true := by rw [show (PySem.W.clsIn K S).isSome = true from h2, h3] <;> rfl
  exact (if_pos e1).trans ((if_pos e2).trans h4)
theorem txt_mk {K : PySem.W.Frag} {h : Heap} {mg : Str → Option Value} (X : K.In h) (G : h.Ns mainGlobals mg) {zL zW : Str} {tL tW tM tO tD tG : Tok} {aR aS : Addr} {ddR ddS : Option Addr} {itR itS : Array Value} {nR nS : Nat} {slR slS : Array (Option Value)}
    (z1 : PySem.W.nsIn K mainGlobals "len" = some none) (z2 : PySem.W.nsIn K mainGlobals "abs" = some none) (z3 : PySem.W.nsIn K mainGlobals "int" = some none) (z4 : PySem.W.nsIn K mainGlobals "str" = some none) (z5 : PySem.W.nsIn K mainGlobals "min" = some none)
    (z6 : PySem.W.nsIn K mainGlobals "range" = some none) (z7 : PySem.W.nsIn K mainGlobals "isinstance" = some none) (z8 : PySem.W.nsIn K mainGlobals "repr" = some none) (z9 : PySem.W.nsIn K mainGlobals "list" = some none)
    (cL : PySem.W.nsIn K mainGlobals "LETTERS" = some (some (.str zL tL))) (eL : TL.tl zL = LET) (cW : PySem.W.nsIn K mainGlobals "WORD_CHARACTERS" = some (some (.str zW tW))) (eW : TL.tl zW = WCH)
    (cM : PySem.W.nsIn K mainGlobals "MOST_CHARACTERS" = some (some (.int 20000 tM))) (cO : PySem.W.nsIn K mainGlobals "LONGEST_WORD" = some (some (.int 20 tO))) (cD : PySem.W.nsIn K mainGlobals "MOST_DIGITS" = some (some (.int 5 tD)))
    (cG : PySem.W.nsIn K mainGlobals "GREATEST_NUMBER" = some (some (.int 65535 tG)))
    (cR : PySem.W.nsIn K mainGlobals "RESERVED" = some (some (.ref aR))) (lR : K.lookup aR = some ⟨.type "tuple", ddR, .seq itR nR, slR⟩) (vR : itR.toList.map absV = RES.map (fun w => some (V.str (tx w)))) (sR : itR.size ≤ sizeLine)
    (cS : PySem.W.nsIn K mainGlobals "SIGNS" = some (some (.ref aS))) (lS : K.lookup aS = some ⟨.type "tuple", ddS, .seq itS nS, slS⟩) (vS : itS.toList.map absV = SGN.map (fun w => some (V.str (tx w)))) (sS : itS.size ≤ sizeLine) : Txt K mg :=
  { len := PySem.W.mg_none_of X G z1, abs := PySem.W.mg_none_of X G z2, int := PySem.W.mg_none_of X G z3, str := PySem.W.mg_none_of X G z4, min := PySem.W.mg_none_of X G z5, range := PySem.W.mg_none_of X G z6, isinst := PySem.W.mg_none_of X G z7, repr := PySem.W.mg_none_of X G z8, list := PySem.W.mg_none_of X G z9,
    letters := ⟨tL, (PySem.W.mg_of X G cL).trans (by rw [show zL = tx LET from TL.ext_tl eL])⟩, wch := ⟨zW, tW, PySem.W.mg_of X G cW, eW⟩, most := ⟨tM, PySem.W.mg_of X G cM⟩, longest := ⟨tO, PySem.W.mg_of X G cO⟩, digits := ⟨tD, PySem.W.mg_of X G cD⟩, greatest := ⟨tG, PySem.W.mg_of X G cG⟩,
    res := ⟨aR, PySem.W.mg_of X G cR, tup_of lR vR sR⟩, sgn := ⟨aS, PySem.W.mg_of X G cS, tup_of lS vS sS⟩ }
theorem mal_mk {P : Program} {K : PySem.W.Frag} {h : Heap} {mg : Str → Option Value} (X : K.In h) (G : h.Ns mainGlobals mg) {C fI cc cda N : Addr} {nm q : Str} {bs bm : List Value} {sn : List Str} {sub : List Value} {ab : Bool} {col : Option Bool} {dd : Option Addr} {m0 m1 m2 m3 m5 : Option Value}
    {oc kV doc pm ct cl ccl : Value} {od an cld cdd : Option Addr} {osl csl ccs : Array (Option Value)} {vs : Array Value} {file : Str} {tf : Tok}
    (aC : PySem.W.nsIn K mainGlobals "Malformed" = some (some (.ref C))) (zS : PySem.W.nsIn K mainGlobals "super" = some none)
    (xL : K.lookup C = some (excClassObj nm q C N bs bm true sn sub ab col dd m0 m1 m2 m3 m5 "ValueError.__new__")) (hbm : PySem.HandSPX.refsVE bm = true)
    (sa : PySem.W.findIn K (.ref C) "__setattr__" = some (some (.builtin "object.__setattr__"))) (iC : PySem.W.findIn K (.ref C) "__init__" = some (some (.ref fI))) (tI : PySem.W.typeIn K (.ref fI) = some (.type "function"))
    (kC : PySem.W.keepIn K (.ref C) = true) (eB : PySem.W.subIn K (.ref C) (.type "BaseException") = some true) (eV : PySem.W.subIn K (.ref C) (.type "ValueError") = some true) (mC : PySem.W.mroIn K C (.ref C) = some true) (tC : PySem.W.typeIn K (.ref C) = some (.type "type"))
    (nM : PySem.W.findIn K (.ref C) "module" = some none) (nA : PySem.W.findIn K (.ref C) "at" = some none) (sC : PySem.W.subIn K (.ref C) (.ref C) = some true) (cC : PySem.W.isClsIn K C = true)
    (ga : PySem.W.findIn K (.ref C) "__getattribute__" = some (some (.builtin "BaseException.__getattribute__"))) (gg : PySem.W.findIn K (.ref C) "__getattr__" = some none) (hC : PySem.W.hasDictIn K C = true)
    (opq : PySem.W.nsIn K cStatics "thirdparty.any" = some none) (sup : PySem.W.ks_superIn K C C "__init__" = some (some (.builtin "ValueError.__init__")))
    (lI : K.lookup fI = some ⟨oc, od, .func (PySem.W.ksFn "__init__" "Malformed.__init__" (defArgs sMalI) (defBody sMalI) (defScope sMalI) .none kV doc pm an (.ref cda) ct cc), osl⟩)
    (lc : K.lookup cc = some ⟨cl, cld, .cell (some (.ref C)), csl⟩) (ld : K.lookup cda = some ⟨ccl, cdd, .fields vs, ccs⟩) (hv : vs[2]? = some (.str file tf)) (hf : ((P.main.file : Str) == file) = true)
    (htop : (P.main.scope.names.lookup ("super" : Str)).isSome = false) (cdi : PySem.W.codeIn K (.ref cda) "Malformed.__init__" = true) : MalTxt P K mg C fI cc cda :=
  { gC := PySem.W.mg_of X G aC, gS := PySem.W.mg_none_of X G zS, cls := ⟨nm, q, N, bs, bm, sn, sub, ab, col, dd, m0, m1, m2, m3, m5, xL, hbm⟩, sa := sa, iC := iC, tC := tI, kC := kC, exC := eB, exV := eV, mro := mC, tyC := tC, nM := nM, nA := nA, te := exm_me eB cC tC sC,
    xf := ⟨ga, gg, eB, hC⟩, opq := opq, sup := sup, cell := ⟨cl, cld, csl, lc⟩, code := ⟨ccl, cdd, vs, ccs, file, tf, ld, hv, hf⟩, top := htop, cdi := cdi, fn := ⟨oc, od, kV, doc, pm, an, ct, osl, lI⟩ }
end Tk
open PySem PySem.W PyProof.Rows
set_option maxRecDepth 100000 in
set_option maxHeartbeats 0 in
theorem PySem.Challenge.cw_fascicle_k00_tokens_holds : PySem.Challenge.rw_fascicle_k00_tokens.Holds := by
  w_on; o_law; k_head; (case hw => w_witness2)
  k_fill
  refine Tk.law_walk (l := PySem.Challenge.rw_fascicle_k00_tokens) rfl rfl (fun w h Y => PySem.W.kIn_of Y) ?F
  case F =>
    intro w mg fa h KX G hmg
    refine' Tk.all_run KX G hmg ⟨Tk.def_mk ?a13 ?l13 ?c13 ?k13, Tk.def_mk ?a14 ?l14 ?c14 ?k14, Tk.def_mk ?a15 ?l15 ?c15 ?k15, Tk.def_mk ?a16 ?l16 ?c16 ?k16, Tk.def_mk ?a17 ?l17 ?c17 ?k17, Tk.def_mk ?a18 ?l18 ?c18 ?k18, Tk.def_mk ?a19 ?l19 ?c19 ?k19, Tk.def_mk ?a20 ?l20 ?c20 ?k20, Tk.def_mk ?a21 ?l21 ?c21 ?k21, Tk.def_mk ?a22 ?l22 ?c22 ?k22, Tk.def_mk ?a23 ?l23 ?c23 ?k23, Tk.def_mk ?a25 ?l25 ?c25 ?k25, Tk.def_mk ?a26 ?l26 ?c26 ?k26, Tk.def_mk ?a27 ?l27 ?c27 ?k27, Tk.def_mk ?a28 ?l28 ?c28 ?k28, Tk.def_mk ?a29 ?l29 ?c29 ?k29, Tk.def_mk ?a30 ?l30 ?c30 ?k30⟩ (Tk.txt_mk KX G ?z1 ?z2 ?z3 ?z4 ?z5 ?z6 ?z7 ?z8 ?z9 ?cL ?eL ?cW ?eW ?cM ?cO ?cD ?cG ?cR ?lR ?vR ?sR ?cS ?lS ?vS ?sS) (Tk.mal_mk KX G ?aC ?zS ?xL ?hbm ?sa ?iC ?tI ?kC ?eB ?eV ?mC ?tC ?nM ?nA ?sC ?cC ?ga ?gg ?hC ?opq ?sup ?lI ?lc ?ld ?hv ?hf ?htop ?cdi)
    (case a13 => k_is); (case l13 => k_is); (case c13 => k_is); (case k13 => k_is)
    (case a14 => k_is); (case l14 => k_is); (case c14 => k_is); (case k14 => k_is)
    (case a15 => k_is); (case l15 => k_is); (case c15 => k_is); (case k15 => k_is)
    (case a16 => k_is); (case l16 => k_is); (case c16 => k_is); (case k16 => k_is)
    (case a17 => k_is); (case l17 => k_is); (case c17 => k_is); (case k17 => k_is)
    (case a18 => k_is); (case l18 => k_is); (case c18 => k_is); (case k18 => k_is)
    (case a19 => k_is); (case l19 => k_is); (case c19 => k_is); (case k19 => k_is)
    (case a20 => k_is); (case l20 => k_is); (case c20 => k_is); (case k20 => k_is)
    (case a21 => k_is); (case l21 => k_is); (case c21 => k_is); (case k21 => k_is)
    (case a22 => k_is); (case l22 => k_is); (case c22 => k_is); (case k22 => k_is)
    (case a23 => k_is); (case l23 => k_is); (case c23 => k_is); (case k23 => k_is)
    (case a25 => k_is); (case l25 => k_is); (case c25 => k_is); (case k25 => k_is)
    (case a26 => k_is); (case l26 => k_is); (case c26 => k_is); (case k26 => k_is)
    (case a27 => k_is); (case l27 => k_is); (case c27 => k_is); (case k27 => k_is)
    (case a28 => k_is); (case l28 => k_is); (case c28 => k_is); (case k28 => k_is)
    (case a29 => k_is); (case l29 => k_is); (case c29 => k_is); (case k29 => k_is)
    (case a30 => k_is); (case l30 => k_is); (case c30 => k_is); (case k30 => k_is)
    (case z1 => k_is)
    (case z2 => k_is)
    (case z3 => k_is)
    (case z4 => k_is)
    (case z5 => k_is)
    (case z6 => k_is)
    (case z7 => k_is)
    (case z8 => k_is)
    (case z9 => k_is)
    (case cL => k_is)
    (case eL => decide +kernel)
    (case cW => k_is)
    (case eW => decide +kernel)
    (case cM => k_is)
    (case cO => k_is)
    (case cD => k_is)
    (case cG => k_is)
    (case cR => k_is)
    (case lR => k_is)
    (case vR => decide +kernel)
    (case sR => decide +kernel)
    (case cS => k_is)
    (case lS => k_is)
    (case vS => decide +kernel)
    (case sS => decide +kernel)
    (case aC => k_is)
    (case zS => k_is)
    (case xL => k_is)
    (case hbm => decide +kernel)
    (case sa => k_is)
    (case iC => k_is)
    (case tI => k_is)
    (case kC => k_is)
    (case eB => k_is)
    (case eV => k_is)
    (case mC => k_is)
    (case tC => k_is)
    (case nM => k_is)
    (case nA => k_is)
    (case sC => first | rfl | k_is)
    (case cC => k_is)
    (case ga => k_is)
    (case gg => k_is)
    (case hC => k_is)
    (case opq => k_is)
    (case sup => ks_is)
    (case lI => k_is)
    (case lc => k_is)
    (case ld => k_is)
    (case hv => rfl)
    (case hf => first | rfl | decide +kernel)
    (case htop => first | rfl | decide +kernel)
    (case cdi => k_is)
#print axioms PySem.Challenge.cw_fascicle_k00_tokens_holds

