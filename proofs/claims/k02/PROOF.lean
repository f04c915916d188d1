import PyProof.Rows.All
import Wide.All
import OpenK.AllK
import Wide.FinOn
import HandS.ForMost
import HandS.ForExc
import HandS.Exc
import HandS.ExcInit
import HandS.ExcField
import HandS.StrMore
import HandS.IsInst
import HandS.NoneIn
import HandS.Style
import HandS.CallSlots
import HandS.TupAny
import KE.KExcSuper
import PySem.Challenge.RW_fascicle_k02_chains_of_operators
import HandS.ExcSuper
import HandS.Star
import PyProof.ReprRoads
import PyProof.ReprLen
import KE.RegKSuper
set_option maxRecDepth 100000
namespace Lx
def LET : List Nat := [97,98,99,100,101,102,103,104,105,106,107,108,109,110,111,112,113,114,115,116,117,118,119,120,121,122,65,66,67,68,69,70,71,72,73,74,75,76,77,78,79,80,81,82,83,84,85,86,87,88,89,90]
def WCH : List Nat := LET ++ [95,48,49,50,51,52,53,54,55,56,57]
def isL (c : Nat) : Bool := decide (c ∈ LET)
def isW (c : Nat) : Bool := decide (c ∈ WCH)
def isB (c : Nat) : Bool := decide (c ∈ [32, 9, 10])
def isD (c : Nat) : Bool := decide (48 ≤ c) && decide (c ≤ 57)
/-- reserved words, signs -/
def RES : List (List Nat) := (["and", "as", "ask", "catch", "else", "export", "false", "from", "fun", "if"].map fun s => s.toList.map Char.toNat) ++
  [105,109,112,111,114,116] :: ["let", "none", "not", "or", "repeat", "return", "tell", "throw", "true", "try"].map fun s => s.toList.map Char.toNat
def SGN : List (List Nat) := [[61,61],[61],[60],[43],[45],[42],[46],[44],[59],[40],[41],[123],[125]]
def kW : List Nat := [119,111,114,100]
def kN : List Nat := [110,97,109,101]
def kI : List Nat := [110,117,109,98,101,114]
def kS : List Nat := [115,116,114,105,110,103]
def kG : List Nat := [115,105,103,110]
def wd (l : List Nat) : List Nat := l.takeWhile isW
/-- how many signs from here on a gap takes; true: within a comment -/
def gap : Bool → List Nat → Nat
  | _, [] => 0
  | false, c :: r => if c = 35 then gap true r + 1 else if isB c then gap false r + 1 else 0
  | true, c :: r => if c = 10 then gap false r + 1 else gap true r + 1
def dv (l : List Nat) : Nat := l.foldl (fun a c => a * 10 + (c - 48)) 0
abbrev Tv := Sum (List Nat) Nat
def tok (l : List Nat) : Option (List Nat × Tv) × Nat :=
  match l with
  | [] => (none, 0)
  | c :: r =>
    if isL c then
      (if wd (c :: r) ∈ RES then some (kW, .inl (wd (c :: r))) else if (wd (c :: r)).length ≤ 20 then some (kN, .inl (wd (c :: r))) else none, (wd (c :: r)).length)
    else if isW c then
      (if !(wd (c :: r)).all isD || decide (5 < (wd (c :: r)).length) then none else if c = 48 ∧ wd (c :: r) ≠ [48] then none else if 65535 < dv (wd (c :: r)) then none
        else some (kI, .inr (dv (wd (c :: r)))), (wd (c :: r)).length)
    else if c = 34 then
      (if wd r = [] ∨ 20 < (wd r).length ∨ (r.drop (wd r).length).head? ≠ some 34 then (none, (wd r).length + 1) else (some (kS, .inl (wd r)), (wd r).length + 2))
    else match SGN.find? (fun s => s.isPrefixOf (c :: r)) with
      | some s => (some (kG, .inl s), s.length)
      | none => (none, 0)
structure Tk where
  k : List Nat
  v : Tv
  i : Nat
/-- reading on at i, where the rest is l -/
inductive Lex : Nat → List Nat → List Tk → Option Nat → Prop where
  | done (i : Nat) : Lex i [] [] none
  | bad {i : Nat} {l : List Nat} (h0 : l ≠ []) (h : (tok l).1 = none) : Lex i l [] (some i)
  | more {i n g : Nat} {l : List Nat} {k : List Nat} {v : Tv} {ts : List Tk} {b : Option Nat} (h0 : l ≠ []) (h : tok l = (some (k, v), n)) (hg : gap false (l.drop n) = g) (r : Lex (i + n + g) (l.drop (n + g)) ts b) :
    Lex i l (⟨k, v, i⟩ :: ts) b
theorem gap_le : ∀ (b : Bool) (l : List Nat), gap b l ≤ l.length
  | _, [] => by cases ‹Bool› <;> simp [gap]
  | false, c :: r => by
    have h1 := gap_le true r
    have h2 := gap_le false r
    unfold gap
    simp only [List.length_cons]
    split
    · omega
    · split <;> omega
  | true, c :: r => by
    have h1 := gap_le true r
    have h2 := gap_le false r
    unfold gap
    simp only [List.length_cons]
    split <;> omega
theorem tw_append {p : Nat → Bool} {w : List Nat} {b : Nat} {X : List Nat} (h : ∀ c ∈ w, p c = true) (hb : p b = false) : (w ++ b :: X).takeWhile p = w := by
  induction w with
  | nil => simp [List.takeWhile, hb]
  | cons a w ih =>
    have ha := h a (List.mem_cons_self ..)
    rw [List.cons_append, List.takeWhile_cons, if_pos ha, ih fun c hc => h c (List.mem_cons_of_mem _ hc)]
theorem wd_append {w : List Nat} {b : Nat} {X : List Nat} (h : ∀ c ∈ w, isW c = true) (hb : isW b = false) : wd (w ++ b :: X) = w := tw_append h hb
theorem b_notW {b : Nat} (h : isB b = true) : isW b = false := by
  have h' : b ∈ [32, 9, 10] := of_decide_eq_true h
  simp only [List.mem_cons, List.not_mem_nil, or_false] at h'
  rcases h' with rfl | rfl | rfl <;> decide
theorem L_W {c : Nat} (h : isL c = true) : isW c = true := by
  have h' : c ∈ LET := of_decide_eq_true h
  exact decide_eq_true (List.mem_append_left _ h')
/-- a sign of a word begins no gap -/
theorem W_plain {c : Nat} (h : isW c = true) : c ≠ 35 ∧ isB c = false := by
  have h' : c ∈ WCH := of_decide_eq_true h
  have key : ∀ x ∈ WCH, x ≠ 35 ∧ isB x = false := by decide
  exact key c h'
/-- a letter first, then letters, digits and underscores; at most 20 -/
structure Wd (w : List Nat) : Prop where
  ne : w ≠ []
  hd : ∀ c r, w = c :: r → isL c = true
  all : ∀ c ∈ w, isW c = true
  len : w.length ≤ 20
def isName (w : List Nat) : Prop := Wd w ∧ w ∉ RES
/-- what a drawn token is: its kind, its value, how it is shown -/
structure TokOk (k : List Nat) (v : Tv) (sh : List Nat) : Prop where
  ne : sh ≠ []
  len : sh.length ≤ 22
  gap0 : ∀ X, gap false (sh ++ X) = 0
  tok : ∀ b X, isB b = true → tok (sh ++ b :: X) = (some (k, v), sh.length)
  kinds : k = kW ∨ k = kN ∨ k = kI ∨ k = kS ∨ k = kG
  vals : (∃ w, v = .inl w ∧ w.length ≤ 20 ∧ ∀ c ∈ w, c < 128) ∨ ∃ n, v = .inr n ∧ n < 65536
  word : (k = kW ∨ k = kN) → ∃ w, v = .inl w ∧ Wd w ∧ (w ∈ RES ↔ k = kW)
theorem gap0_W {c : Nat} {r X : List Nat} (h : isW c = true) : gap false ((c :: r) ++ X) = 0 := by
  obtain ⟨h1, h2⟩ := W_plain h
  rw [List.cons_append]
  unfold gap
  rw [if_neg h1, h2]
  simp
theorem res_wd : ∀ w ∈ RES, Wd w := by
  have key : ∀ w ∈ RES, w ≠ [] ∧ (∀ c ∈ w.take 1, isL c = true) ∧ (∀ c ∈ w, isW c = true) ∧ w.length ≤ 20 := by decide
  intro w h
  obtain ⟨a, b, c, d⟩ := key w h
  exact ⟨a, fun c r e => b c (by rw [e]; simp), c, d⟩
theorem W_128 {c : Nat} (h : isW c = true) : c < 128 := by
  have h' : c ∈ WCH := of_decide_eq_true h
  have key : ∀ x ∈ WCH, x < 128 := by decide
  exact key c h'
theorem tok_word {w : List Nat} (W : Wd w) {b : Nat} {X : List Nat} (hb : isB b = true) : tok (w ++ b :: X) = (some (if w ∈ RES then (kW, .inl w) else (kN, .inl w)), w.length) := by
  have e := wd_append (X := X) W.all (b_notW hb)
  cases hw : w with
  | nil => exact absurd hw W.ne
  | cons c r =>
    have hc := W.hd c r hw
    rw [hw] at e
    rw [List.cons_append] at e ⊢
    unfold tok
    simp only [e, hc, if_true]
    have hl := W.len
    rw [hw] at hl
    by_cases hr : c :: r ∈ RES
    · simp [hr]
    · simp only [hr, hl, if_true, if_false]
theorem ok_reserved {w : List Nat} (h : w ∈ RES) : TokOk kW (.inl w) w := by
  have W := res_wd w h
  refine ⟨W.ne, by have := W.len; omega, fun X => ?_, fun b X hb => ?_, .inl rfl, .inl ⟨w, rfl, W.len, fun c hc => W_128 (W.all c hc)⟩, fun _ => ⟨w, rfl, W, ⟨fun _ => rfl, fun _ => h⟩⟩⟩
  · cases hw : w with
    | nil => exact absurd hw W.ne
    | cons c r => exact gap0_W (L_W (W.hd c r hw))
  · rw [tok_word W hb, if_pos h]
theorem ok_name {w : List Nat} (W : Wd w) (h : w ∉ RES) : TokOk kN (.inl w) w := by
  refine ⟨W.ne, by have := W.len; omega, fun X => ?_, fun b X hb => ?_, .inr (.inl rfl), .inl ⟨w, rfl, W.len, fun c hc => W_128 (W.all c hc)⟩, fun _ => ⟨w, rfl, W, ⟨fun z => absurd z h, fun z => absurd z (by decide)⟩⟩⟩
  · cases hw : w with
    | nil => exact absurd hw W.ne
    | cons c r => exact gap0_W (L_W (W.hd c r hw))
  · rw [tok_word W hb, if_neg h]
theorem ok_string {w : List Nat} (W : Wd w) : TokOk kS (.inl w) (34 :: (w ++ [34])) := by
  refine ⟨by simp, by have := W.len; simp; omega, fun X => ?_, fun b X hb => ?_, .inr (.inr (.inr (.inl rfl))), .inl ⟨w, rfl, W.len, fun c hc => W_128 (W.all c hc)⟩, fun z => by rcases z with z | z <;> exact absurd z (by decide)⟩
  · rw [List.cons_append]
    unfold gap
    simp [isB]
  · have hl := W.len
    have e : wd (w ++ 34 :: (b :: X)) = w := wd_append W.all (by decide)
    have e' : (w ++ [34]) ++ b :: X = w ++ 34 :: (b :: X) := by simp
    rw [List.cons_append, e']
    unfold tok
    have n1 : isL 34 = false := by decide
    have n2 : isW 34 = false := by decide
    simp only [n1, n2, e, Bool.false_eq_true, if_false, if_true]
    have hd : ((w ++ 34 :: (b :: X)).drop w.length).head? = some 34 := by rw [List.drop_left]; rfl
    rw [if_neg (by
      rintro (z | z | z)
      · exact W.ne z
      · omega
      · exact z hd)]
    simp
theorem ok_sign {s : List Nat} (h : s ∈ SGN) : TokOk kG (.inl s) s := by
  have key : ∀ s ∈ SGN, s ≠ [] ∧ s.length ≤ 2 ∧ (∀ c ∈ s, c < 128) := by decide
  obtain ⟨k1, k2, k3⟩ := key s h
  refine ⟨k1, by omega, fun X => ?_, fun b X hb => ?_, .inr (.inr (.inr (.inr rfl))), .inl ⟨s, rfl, by omega, k3⟩, fun z => by rcases z with z | z <;> exact absurd z (by decide)⟩
  · simp only [SGN, List.mem_cons, List.not_mem_nil, or_false] at h
    rcases h with rfl | rfl | rfl | rfl | rfl | rfl | rfl | rfl | rfl | rfl | rfl | rfl | rfl <;> simp [gap, isB]
  · have h' : b ∈ [32, 9, 10] := of_decide_eq_true hb
    simp only [List.mem_cons, List.not_mem_nil, or_false] at h'
    simp only [SGN, List.mem_cons, List.not_mem_nil, or_false] at h
    rcases h with rfl | rfl | rfl | rfl | rfl | rfl | rfl | rfl | rfl | rfl | rfl | rfl | rfl <;> rcases h' with rfl | rfl | rfl <;> simp [tok, isL, isW, LET, WCH, SGN, List.isPrefixOf, List.find?]
/-- a number's digits -/
structure Nm (n : Nat) (l : List Nat) : Prop where
  ne : l ≠ []
  all : ∀ c ∈ l, isD c = true
  len : l.length ≤ 5
  zero : ∀ r, l = 48 :: r → r = []
  val : dv l = n
  le : n < 65536
theorem D_W {c : Nat} (h : isD c = true) : isW c = true ∧ isL c = false := by
  unfold isD at h
  have h1 : 48 ≤ c ∧ c ≤ 57 := by
    simp only [Bool.and_eq_true, decide_eq_true_eq] at h
    exact h
  have key : ∀ d, d < 58 → 48 ≤ d → isW d = true ∧ isL d = false := by decide
  exact key c (by omega) h1.1
theorem ok_number {n : Nat} {l : List Nat} (N : Nm n l) : TokOk kI (.inr n) l := by
  have hw : ∀ c ∈ l, isW c = true := fun c hc => (D_W (N.all c hc)).1
  refine ⟨N.ne, by have := N.len; omega, fun X => ?_, fun b X hb => ?_, .inr (.inr (.inl rfl)), .inr ⟨n, rfl, N.le⟩, fun z => by rcases z with z | z <;> exact absurd z (by decide)⟩
  · cases hl : l with
    | nil => exact absurd hl N.ne
    | cons c r => exact gap0_W (hw c (by rw [hl]; exact List.mem_cons_self ..))
  · have e := wd_append (X := X) hw (b_notW hb)
    have hall : l.all isD = true := List.all_eq_true.mpr N.all
    have hlen := N.len
    have hv := N.val
    have hle := N.le
    cases hl : l with
    | nil => exact absurd hl N.ne
    | cons c r =>
      have hz := N.zero r
      obtain ⟨c1, c2⟩ := D_W (N.all c (by rw [hl]; exact List.mem_cons_self ..))
      rw [hl] at e hall hlen hv hz
      rw [List.cons_append] at e ⊢
      unfold tok
      simp only [e, c1, c2, hall, hv, Bool.false_eq_true, if_false, if_true, Bool.not_true, Bool.false_or]
      rw [if_neg (by simp only [decide_eq_true_eq]; omega), if_neg (by
        rintro ⟨rfl, z⟩
        exact z (by rw [hz rfl])), if_neg (by omega)]
/-- what stands between two tokens -/
structure SpOk (s : List Nat) : Prop where
  hd : ∃ b r, s = b :: r ∧ isB b = true
  gap : ∀ X, gap false (s ++ X) = s.length + gap false X
  len : s.length ≤ 10
def SPC : List (List Nat) := [" ", "\n", "\t", "  ", " # == fun\n", "\n\n"].map fun s => s.toList.map Char.toNat
theorem ok_space {s : List Nat} (h : s ∈ SPC) : SpOk s := by
  have e : SPC = [[32], [10], [9], [32, 32], [32, 35, 32, 61, 61, 32, 102, 117, 110, 10], [10, 10]] := by decide
  rw [e] at h
  simp only [List.mem_cons, List.not_mem_nil, or_false] at h
  rcases h with rfl | rfl | rfl | rfl | rfl | rfl
  all_goals refine ⟨⟨_, _, rfl, by decide⟩, fun X => ?_, by decide⟩
  all_goals simp [gap, isB]
  all_goals omega
def BADS : List (List Nat) := ["@", "65536", "01", "7a", "\"", "\"a", "\"\"", "aaaaaaaaaaaaaaaaaaaaa", "!", "\"bbbbbbbbbbbbbbbbbbbbb\"", "\"a b\"", "$"].map fun s => s.toList.map Char.toNat
theorem ok_bad {s : List Nat} (h : s ∈ BADS) : s ≠ [] ∧ s.length ≤ 23 ∧ gap false (s ++ [32, 120]) = 0 ∧ (tok (s ++ [32, 120])).1 = none := by
  have key : ∀ s ∈ BADS, s ≠ [] ∧ s.length ≤ 23 ∧ gap false (s ++ [32, 120]) = 0 ∧ (tok (s ++ [32, 120])).1 = none := by decide +kernel
  exact key s h
/-- a text so far: whatever is read on behind it, its tokens come first -/
structure Pre (ts : List Tk) (l : List Nat) : Prop where
  go : ∀ R tl b, gap false R = 0 → Lex l.length R tl b → Lex (gap false (l ++ R)) ((l ++ R).drop (gap false (l ++ R))) (ts ++ tl) b
  at0 : ∀ R, gap false R = 0 → gap false (l ++ R) = 0
theorem pre_nil : Pre [] [] := ⟨fun R tl b h x => by
  simp only [List.nil_append, h]
  exact x, fun R h => h⟩
theorem pre_more {ts : List Tk} {l k sh sp : List Nat} {v : Tv} (P : Pre ts l) (T : TokOk k v sh) (S : SpOk sp) : Pre (ts ++ [⟨k, v, l.length⟩]) (l ++ sh ++ sp) := by
  have e0 : ∀ R, l ++ sh ++ sp ++ R = l ++ (sh ++ (sp ++ R)) := fun R => by simp
  refine ⟨fun R tl b h x => ?_, fun R h => ?_⟩
  · obtain ⟨c, r, ec, hc⟩ := S.hd
    have e1 : tok (sh ++ (sp ++ R)) = (some (k, v), sh.length) := by
      rw [ec, List.cons_append]
      exact T.tok c _ hc
    have e2 : gap false (sp ++ R) = sp.length := by
      have z := S.gap R
      omega
    have d1 : (sh ++ (sp ++ R)).drop sh.length = sp ++ R := List.drop_left
    have d2 : (sh ++ (sp ++ R)).drop (sh.length + sp.length) = R := by
      rw [← List.drop_drop, d1, List.drop_left]
    have y : Lex l.length (sh ++ (sp ++ R)) (⟨k, v, l.length⟩ :: tl) b := by
      refine .more (n := sh.length) (g := sp.length) ?_ e1 (by rw [d1]; exact e2) ?_
      · intro z
        exact T.ne (List.append_eq_nil_iff.mp z).1
      · rw [d2]
        have e3 : l.length + sh.length + sp.length = (l ++ sh ++ sp).length := by simp; omega
        rw [e3]
        exact x
    have w := P.go _ _ b (T.gap0 _) y
    rw [e0, List.append_assoc]
    exact w
  · rw [e0]
    exact P.at0 _ (T.gap0 _)
theorem pre_all {ts : List Tk} {l : List Nat} (P : Pre ts l) : Lex (gap false l) (l.drop (gap false l)) ts none := by
  have w := P.go [] [] none (by simp [gap]) (.done _)
  simpa using w
theorem pre_bad {ts : List Tk} {l bad : List Nat} (P : Pre ts l) (h : bad ∈ BADS) : Lex (gap false (l ++ (bad ++ [32, 120]))) ((l ++ (bad ++ [32, 120])).drop (gap false (l ++ (bad ++ [32, 120])))) ts (some l.length) := by
  obtain ⟨h1, _, h2, h3⟩ := ok_bad h
  have w := P.go (bad ++ [32, 120]) [] (some l.length) h2 (.bad (by intro z; exact h1 (List.append_eq_nil_iff.mp z).1) h3)
  rw [List.append_nil] at w
  exact w
end Lx

set_option Elab.async false
set_option linter.all false
set_option maxRecDepth 100000
namespace Tk
open PySem L2 Lx
def top (i : Nat) : Stmt := PySem.Challenge.pw_fascicle_k02_chains_of_operators.main.body.getD i (.Pass ⟨0, 0, 0, 0⟩)
abbrev sTokens : Stmt := top 13
abbrev sFits : Stmt := top 14
abbrev sGap : Stmt := top 15
abbrev sCom : Stmt := top 16
abbrev sWend : Stmt := top 17
abbrev sTokAt : Stmt := top 18
abbrev sWordAt : Stmt := top 19
abbrev sNumAt : Stmt := top 20
abbrev sStrAt : Stmt := top 21
abbrev sSignAt : Stmt := top 22
/-- a text of these signs -/
def tx (l : List Nat) : Str := ⟨l.toArray⟩
theorem tl_tx (l : List Nat) : TL.tl (tx l) = l := rfl
theorem tx_len (l : List Nat) : (tx l).length = l.length := by rw [TL.len_tl, tl_tx]
theorem tx_tl (z : Str) : tx (TL.tl z) = z := TL.mk_tl z
theorem tx_inj {a b : List Nat} (h : tx a = tx b) : a = b := by
  have e := congrArg TL.tl h
  rwa [tl_tx, tl_tx] at e
theorem tx_app (a b : List Nat) : tx a ++ tx b = tx (a ++ b) := TL.ext_tl (by rw [TL.tl_append, tl_tx, tl_tx, tl_tx])
/-- a token's value -/
def tv : Tv → V
  | .inl w => .str (tx w)
  | .inr n => .int (n : Int)
theorem line20 {n : Nat} (h : n ≤ 20000) : n ≤ sizeLine := Nat.le_trans h (by decide)
/-- what the top has left: built-ins that are not shadowed, constants -/
structure Txt (K : PySem.W.Frag) (mg : Str → Option Value) : Prop where
  len : mg "len" = none
  int : mg "int" = none
  letters : ∃ t, mg "LETTERS" = some (.str (tx LET) t)
  wch : ∃ z t, mg "WORD_CHARACTERS" = some (.str z t) ∧ TL.tl z = WCH
  most : ∃ t, mg "MOST_CHARACTERS" = some (.int 20000 t)
  longest : ∃ t, mg "LONGEST_WORD" = some (.int 20 t)
  digits : ∃ t, mg "MOST_DIGITS" = some (.int 5 t)
  greatest : ∃ t, mg "GREATEST_NUMBER" = some (.int 65535 t)
  res : ∃ a, mg "RESERVED" = some (.ref a) ∧ ∀ H, SqT K H a (RES.map fun w => V.str (tx w))
  sgn : ∃ a, mg "SIGNS" = some (.ref a) ∧ ∀ H, SqT K H a (SGN.map fun w => V.str (tx w))
theorem ifT {c : Bool} {A B : Prop} (hc : c = true) (h : A) : if c = true then A else B := by
  rw [if_pos hc]
  exact h
theorem ifF {c : Bool} {A B : Prop} (hc : c = false) (h : B) : if c = true then A else B := by
  rw [hc, if_neg Bool.false_ne_true]
  exact h
/-! ### promises -/
/-- word_end(text, at) -/
def spWend : Sp := fun vs H Q _ => ∃ (z : Str) (n : Nat), vs = [.str z, .int (n : Int)] ∧ n ≤ z.length ∧ z.length ≤ 20000 ∧ Q (.int ((n + (wd ((TL.tl z).drop n)).length : Nat) : Int)) H
section
variable {P : Program} {w : World} {K : PySem.W.Frag} {mg : Str → Option Value} {base : Heap}
theorem scWend : FnScope ["text", "at"] ["text", "at"] (defScope sWend) := ⟨rfl, rfl, rfl, by decide +kernel, rfl, by decide +kernel, by decide +kernel⟩
theorem drop_cons {l : List Nat} {n : Nat} (h : n < l.length) : ∃ c, l[n]? = some c ∧ l.drop n = c :: l.drop (n + 1) := ⟨l[n], List.getElem?_eq_getElem h, List.drop_eq_getElem_cons h⟩
theorem ok_wend {f : Addr} {fd : FuncData} (F : Fun K "word_end" "word_end" sWend f fd) (T : Txt K mg) : FnOk P w K mg base CX0 1 f fd ["text", "at"] spWend := by
  refine F.ok scWend (fun vs H Q E h => ?_) (fun cdv A outer s H vs Q E hr h => ?_)
  · obtain ⟨z, n, rfl, _⟩ := h
    rfl
  · obtain ⟨z, n, rfl, hn, hz, k⟩ := h
    obtain ⟨zw, tw, mw, ew⟩ := T.wch
    have hlen : z.length = (TL.tl z).length := TL.len_tl z
    refine ⟨_, pss_cons (ps_while PassesOwn.never
        (PW.pt (pw_and (pt_cmpR op_lt (pv 1) (pe_callB call_len_str (by rfl) T.len PySem.boot_len (pa_cons (pv 0) pa_nil)) (nomark _))
          (pw_and1 (pt_cmpR op_in_sign (pe_item_str (pv 0) (pv 1) (fun _ _ => rfl)) (pe_glob (v := .str zw) rfl mw ⟨_, rfl⟩) (by rfl)))))
        (pss_one (ps_aug (i := 1) scWend.nd rfl (.inl rfl) pe_int ip_add)))
      (pss_one (ps_ret (pv 1))), ?_⟩
    let W : Nat → St → Hp → Prop := fun m σ H' => ∃ j : Nat, H' = H ∧ σ = [some (.str z), some (.int (j : Int))] ∧ j ≤ z.length ∧ m = z.length - j ∧ j + (wd ((TL.tl z).drop j)).length = n + (wd ((TL.tl z).drop n)).length
    refine ⟨W, ⟨_, n, rfl, rfl, hn, rfl, rfl⟩, ?_⟩
    rintro m σ H' ⟨j, rfl, rfl, hj, rfl, e⟩
    refine ⟨_, rfl, _, rfl, z, rfl, line20 hz, _, _, rfl, rfl, _, rfl, ?_⟩
    by_cases hlt : j < z.length
    · refine ifT (decide_eq_true (by omega)) ?_
      obtain ⟨c, hc, hd⟩ := drop_cons (l := TL.tl z) (n := j) (by omega)
      refine ⟨_, rfl, _, rfl, z, _, c, rfl, rfl, by omega, by omega, by omega, ?_, c, zw, rfl, rfl, _, rfl, ?_⟩
      · rw [Int.toNat_natCast]
        exact (Array.getElem?_toList (xs := z.cps)).symm.trans hc
      · by_cases hw : c ∈ WCH
        · refine ifT (decide_eq_true (show c ∈ TL.tl zw by rw [ew]; exact hw)) ?_
          have e1 : wd ((TL.tl z).drop j) = c :: wd ((TL.tl z).drop (j + 1)) := by
            rw [hd]
            exact List.takeWhile_cons_of_pos (decide_eq_true hw)
          rw [e1, List.length_cons] at e
          refine ⟨fun σ' H' => ∃ m', m' < z.length - j ∧ W m' σ' H', fun _ _ h => h, ?_⟩
          refine ⟨_, rfl, _, _, rfl, rfl, z.length - (j + 1), by omega, j + 1, rfl, rfl, by omega, rfl, by omega⟩
        · refine ifF (decide_eq_false (show ¬ c ∈ TL.tl zw by rw [ew]; exact hw)) ?_
          have e1 : wd ((TL.tl z).drop j) = [] := by
            rw [hd]
            exact List.takeWhile_cons_of_neg (by simpa [isW] using hw)
          rw [e1, List.length_nil, Nat.add_zero] at e
          refine ⟨_, rfl, ?_⟩
          rw [← e] at k
          exact k
    · refine ifF (decide_eq_false (by omega)) ?_
      have e1 : wd ((TL.tl z).drop j) = [] := by
        rw [List.drop_of_length_le (by omega)]
        rfl
      rw [e1, List.length_nil, Nat.add_zero] at e
      refine ⟨_, rfl, ?_⟩
      rw [← e] at k
      exact k
end
end Tk

set_option Elab.async false
set_option linter.all false
set_option maxRecDepth 100000
namespace Tk
open PySem L2 Lx
/-! ### the mathematics of texts -/
theorem wd_take (l : List Nat) : l.take (wd l).length = wd l := by
  unfold wd
  induction l with
  | nil => rfl
  | cons c r ih =>
    rw [List.takeWhile_cons]
    split
    · rw [List.length_cons, List.take_succ_cons, ih]
    · rfl
theorem wd_len (l : List Nat) : (wd l).length ≤ l.length := by
  have e := congrArg List.length (wd_take l)
  rw [List.length_take] at e
  omega
theorem cut_eq {z : Str} {n m : Nat} (h1 : n ≤ m) (h2 : m ≤ z.length) : cutS z (some (n : Int)) (some (m : Int)) = tx (((TL.tl z).drop n).take (m - n)) := by
  unfold cutS tx
  rw [HT.sIx_nat, HT.sIx_nat, Nat.min_eq_left (Nat.le_trans h1 h2), Nat.min_eq_left h2]
theorem cut_wd {z : Str} {n k : Nat} (h : n ≤ z.length) (hk : k = (wd ((TL.tl z).drop n)).length) : cutS z (some (n : Int)) (some ((n + k : Nat) : Int)) = tx (wd ((TL.tl z).drop n)) := by
  have hl := wd_len ((TL.tl z).drop n)
  rw [List.length_drop, ← TL.len_tl] at hl
  rw [cut_eq (by omega) (by omega), show n + k - n = (wd ((TL.tl z).drop n)).length by omega, wd_take]
theorem str_eq (a b : Str) : decide (V.str a = V.str b) = decide (TL.tl a = TL.tl b) := by
  by_cases h : TL.tl a = TL.tl b
  · rw [decide_eq_true h, decide_eq_true (congrArg V.str (TL.ext_tl h))]
  · rw [decide_eq_false h]
    exact decide_eq_false fun z => h (congrArg TL.tl (V.str.inj z))
theorem beq_tx (a b : List Nat) : (tx a == tx b) = decide (a = b) := by
  by_cases h : a = b
  · subst h
    simp
  · rw [decide_eq_false h]
    exact beq_eq_false_iff_ne.mpr fun z => h (tx_inj z)
theorem in_txs (z : Str) (l : List (List Nat)) : inV (.str z) (l.map fun w => V.str (tx w)) = decide (TL.tl z ∈ l) := by
  rw [← tx_tl z, tl_tx]
  generalize TL.tl z = w
  unfold inV
  induction l with
  | nil => rfl
  | cons a l ih =>
    rw [List.map_cons, List.any_cons, ih]
    show ((tx a == tx w) || _) = _
    rw [beq_tx]
    by_cases h : a = w
    · subst h
      simp
    · have h' : ¬ w = a := fun z => h z.symm
      simp [h, h']
theorem flat_txs (l : List (List Nat)) : (l.map fun w => V.str (tx w)).all flatV = true := by
  rw [List.all_map]
  exact List.all_eq_true.mpr fun _ _ => rfl
/-! ### the gap -/
theorem gap_comment (l : List Nat) (e : Nat) (he : e ≤ l.length) (hend : e = l.length ∨ l[e]? = some 10) : ∀ (d j : Nat), j + d = e → (∀ m, j ≤ m → m < e → l[m]? ≠ some 10) →
    j + gap true (l.drop j) = e + gap false (l.drop e)
  | 0, j, hj, _ => by
    have hj' : j = e := by omega
    subst hj'
    rcases hend with h | h
    · rw [List.drop_of_length_le (by omega)]
      rfl
    · have hlt : j < l.length := (List.getElem?_eq_some_iff.mp h).1
      obtain ⟨c, hc, hd⟩ := drop_cons hlt
      rw [h] at hc
      cases hc
      rw [hd]
      simp [gap, isB]
  | d + 1, j, hj, hn => by
    have ih := gap_comment l e he hend d (j + 1) (by omega) fun m h1 h2 => hn m (by omega) h2
    have hlt : j < l.length := by omega
    obtain ⟨c, hc, hd⟩ := drop_cons hlt
    have hne : c ≠ 10 := fun z => hn j (Nat.le_refl _) (by omega) (by rw [hc, z])
    rw [hd, show gap true (c :: l.drop (j + 1)) = gap true (l.drop (j + 1)) + 1 from by simp [gap, hne]]
    omega
/-- comment_end(text, at) -/
def spCom : Sp := fun vs H Q _ => ∃ (z : Str) (n : Nat), vs = [.str z, .int (n : Int)] ∧ n ≤ z.length ∧ z.length ≤ 20000 ∧
  ∀ e : Nat, n ≤ e → e ≤ z.length → (e = z.length ∨ (TL.tl z)[e]? = some 10) → (∀ m, n ≤ m → m < e → (TL.tl z)[m]? ≠ some 10) → Q (.int (e : Int)) H
/-- gap_end(text, at) -/
def spGap : Sp := fun vs H Q _ => ∃ (z : Str) (n : Nat), vs = [.str z, .int (n : Int)] ∧ n ≤ z.length ∧ z.length ≤ 20000 ∧ Q (.int ((n + gap false ((TL.tl z).drop n) : Nat) : Int)) H
def spFits : Sp := fun vs H Q _ => ∃ z : Str, vs = [.str z] ∧ z.length ≤ 20000 ∧ Q (.bl (decide (z.length ≤ 20) && !decide (TL.tl z ∈ RES))) H
/-- a token, or None, and an index: new tuples -/
def RetTok (Q : VK) (H : Hp) (o : Option (List Nat × Tv)) (i e : Nat) : Prop :=
  (o = none → ∀ (x : Int) p, H p = none → Q (.ref p) (upd H p (.tup [.non, .int x]))) ∧
  ∀ k v, o = some (k, v) → ∀ q p, H q = none → upd H q (.tup [.str (tx k), tv v, .int (i : Int)]) p = none → Q (.ref p) (upd (upd H q (.tup [.str (tx k), tv v, .int (i : Int)])) p (.tup [.ref q, .int (e : Int)]))
def wordO (w : List Nat) : Option (List Nat × Tv) := if w ∈ RES then some (kW, .inl w) else if w.length ≤ 20 then some (kN, .inl w) else none
def numO (c : Nat) (w : List Nat) : Option (List Nat × Tv) := if !w.all isD || decide (5 < w.length) then none else if c = 48 ∧ w ≠ [48] then none else if 65535 < dv w then none else some (kI, .inr (dv w))
def spWordAt : Sp := fun vs H Q _ => ∃ (z : Str) (n : Nat), vs = [.str z, .int (n : Int)] ∧ n ≤ z.length ∧ z.length ≤ 20000 ∧ RetTok Q H (wordO (wd ((TL.tl z).drop n))) n (n + (wd ((TL.tl z).drop n)).length)
def spNumAt : Sp := fun vs H Q _ => ∃ (z : Str) (n c : Nat) (r : List Nat), vs = [.str z, .int (n : Int)] ∧ (TL.tl z).drop n = c :: r ∧ isW c = true ∧ z.length ≤ 20000 ∧ RetTok Q H (numO c (wd (c :: r))) n (n + (wd (c :: r)).length)
def strO (r : List Nat) : Option (List Nat × Tv) := if wd r = [] ∨ 20 < (wd r).length ∨ (r.drop (wd r).length).head? ≠ some 34 then none else some (kS, .inl (wd r))
def spStrAt : Sp := fun vs H Q _ => ∃ (z : Str) (n : Nat), vs = [.str z, .int (n : Int)] ∧ n + 1 ≤ z.length ∧ z.length ≤ 20000 ∧ RetTok Q H (strO ((TL.tl z).drop (n + 1))) n (n + ((wd ((TL.tl z).drop (n + 1))).length + 2))
def sgnO (l : List Nat) : Option (List Nat × Tv) × Nat := match SGN.find? (fun s => s.isPrefixOf l) with
  | some s => (some (kG, .inl s), s.length)
  | none => (none, 0)
def spSignAt : Sp := fun vs H Q _ => ∃ (z : Str) (n : Nat), vs = [.str z, .int (n : Int)] ∧ n ≤ z.length ∧ z.length ≤ 20000 ∧ RetTok Q H (sgnO ((TL.tl z).drop n)).1 n (n + (sgnO ((TL.tl z).drop n)).2)
def spTokAt : Sp := fun vs H Q _ => ∃ (z : Str) (n : Nat), vs = [.str z, .int (n : Int)] ∧ n < z.length ∧ z.length ≤ 20000 ∧ RetTok Q H (tok ((TL.tl z).drop n)).1 n (n + (tok ((TL.tl z).drop n)).2)
section
variable {P : Program} {w : World} {K : PySem.W.Frag} {mg : Str → Option Value} {base : Heap}
theorem scCom : FnScope ["text", "at", "end"] ["text", "at"] (defScope sCom) := ⟨rfl, rfl, rfl, by decide +kernel, rfl, by decide +kernel, by decide +kernel⟩
theorem getD_iff {z : Str} {m c : Nat} (h : m < z.length) : z.cps.getD m 0 = c ↔ (TL.tl z)[m]? = some c := by
  have h' : m < (TL.tl z).length := by rw [← TL.len_tl]; exact h
  have e : (TL.tl z)[m]? = z.cps[m]? := Array.getElem?_toList
  rw [e, Array.getD_eq_getD_getElem?]
  have h2 : m < z.cps.size := h
  rw [Array.getElem?_eq_getElem h2]
  simp
theorem ok_com {f : Addr} {fd : FuncData} (F : Fun K "comment_end" "comment_end" sCom f fd) (T : Txt K mg) : FnOk P w K mg base CX0 1 f fd ["text", "at"] spCom := by
  refine F.ok scCom (fun vs H Q E h => ?_) (fun cdv A outer s H vs Q E hr h => ?_)
  · obtain ⟨z, n, rfl, _⟩ := h
    rfl
  · obtain ⟨z, n, rfl, hn, hz, k⟩ := h
    refine ⟨_, pss_cons (ps_set (i := 2) scCom.nd rfl (.inl rfl) (pe_bm PySem.F.plainAttrs_str PySem.F.slot_str_find PySem.F.type_str_find mt_find3 (pv 0) (pa_cons pe_str (pa_cons (pv 1) pa_nil))))
      (pss_cons (ps_if (pt_cmpR op_lt (pv 2) pe_int (nomark _)) (pss_one (ps_ret (pe_callB call_len_str (by rfl) T.len PySem.boot_len (pa_cons (pv 0) pa_nil)))) pss_nil)
      (pss_one (ps_ret (pv 2)))), ?_⟩
    refine ⟨_, rfl, rfl, _, rfl, z, _, _, rfl, rfl, ?_⟩
    have fi : PySem.fromIndex z.length (n : Int) = n := by
      unfold PySem.fromIndex
      rw [if_neg (by omega)]
      omega
    rcases PySem.StrLaws.find3_spec z 10 (n : Int) with ⟨e, h⟩ | ⟨j, e, h1, h2, h3, h4⟩
    · refine ⟨_, rfl, _, _, rfl, rfl, _, rfl, ?_⟩
      refine ifT (decide_eq_true (show Txt.find3 z ⟨#[10]⟩ (n : Int) < 0 by omega)) ?_
      refine ⟨_, rfl, z, rfl, line20 hz, ?_⟩
      refine k z.length hn (Nat.le_refl _) (.inl rfl) fun m m1 m2 q => ?_
      exact h m (by omega) m2 ((getD_iff m2).mpr q)
    · refine ⟨_, rfl, _, _, rfl, rfl, _, rfl, ?_⟩
      refine ifF (decide_eq_false (show ¬ Txt.find3 z ⟨#[10]⟩ (n : Int) < 0 by omega)) ?_
      refine ⟨_, rfl, ?_⟩
      show Q (.int (Txt.find3 z ⟨#[10]⟩ (n : Int))) H
      rw [e]
      exact k j (by omega) (by omega) (.inr ((getD_iff h2).mp h3)) fun m m1 m2 q => h4 m (by omega) m2 ((getD_iff (by omega)).mpr q)
theorem scGap : FnScope ["text", "at"] ["text", "at"] (defScope sGap) := ⟨rfl, rfl, rfl, by decide +kernel, rfl, by decide +kernel, by decide +kernel⟩
theorem ok_gap {f fC : Addr} {fd fdC : FuncData} (F : Fun K "gap_end" "gap_end" sGap f fd) (T : Txt K mg) (FC : Fun K "comment_end" "comment_end" sCom fC fdC) (bC : Binds K fdC ["text", "at"] []) (gC : mg "comment_end" = some (.ref fC)) :
    FnOk P w K mg base CX0 2 f fd ["text", "at"] spGap := by
  have GC : FnOk P w K mg base CX0 1 fC fdC ["text", "at"] spCom := ok_com FC T
  refine F.ok scGap (fun vs H Q E h => ?_) (fun cdv A outer s H vs Q E hr h => ?_)
  · obtain ⟨z, n, rfl, _⟩ := h
    rfl
  · obtain ⟨z, n, rfl, hn, hz, k⟩ := h
    have hlen : z.length = (TL.tl z).length := TL.len_tl z
    refine ⟨_, pss_cons (ps_while PassesOwn.never
        (pt_cmpR op_lt (pv 1) (pe_callB call_len_str (by rfl) T.len PySem.boot_len (pa_cons (pv 0) pa_nil)) (nomark _))
        (pss_one (ps_if (pt_cmpR op_eq (pe_item_str (pv 0) (pv 1) (fun _ _ => rfl)) pe_str (nomark _))
          (pss_one (ps_set (i := 1) scGap.nd rfl (.inl rfl) (pe_call GC hr rfl gC FC.kp bC .nil pass0 (pa_cons (pv 0) (pa_cons (pv 1) pa_nil)))))
          (pss_one (ps_if (pt_cmpR op_in_sign (pe_item_str (pv 0) (pv 1) (fun _ _ => rfl)) pe_str (by rfl))
            (pss_one (ps_aug (i := 1) scGap.nd rfl (.inl rfl) pe_int ip_add))
            (pss_one (ps_ret (pv 1))))))))
      (pss_one (ps_ret (pv 1))), ?_⟩
    let W : Nat → St → Hp → Prop := fun m σ H' => ∃ j : Nat, H' = H ∧ σ = [some (.str z), some (.int (j : Int))] ∧ j ≤ z.length ∧ m = z.length - j ∧ j + gap false ((TL.tl z).drop j) = n + gap false ((TL.tl z).drop n)
    refine ⟨W, ⟨_, n, rfl, rfl, hn, rfl, rfl⟩, ?_⟩
    rintro m σ H' ⟨j, rfl, rfl, hj, rfl, e⟩
    refine ⟨_, rfl, _, rfl, z, rfl, line20 hz, _, _, rfl, rfl, _, rfl, ?_⟩
    by_cases hlt : j < z.length
    · refine ifT (decide_eq_true (by omega)) ?_
      obtain ⟨c, hc, hd⟩ := drop_cons (l := TL.tl z) (n := j) (by omega)
      refine ⟨fun σ' H' => ∃ m', m' < z.length - j ∧ W m' σ' H', fun _ _ h => h, ?_⟩
      refine ⟨_, rfl, _, rfl, z, _, c, rfl, rfl, by omega, by omega, by omega, ?_, rfl, _, rfl, ?_⟩
      · rw [Int.toNat_natCast]
        exact (Array.getElem?_toList (xs := z.cps)).symm.trans hc
      have eqc : decide (V.str ⟨#[c]⟩ = V.str (PySem.Str.ofString "#")) = decide (c = 35) := by
        rw [str_eq]
        by_cases h : c = 35
        · subst h
          decide +kernel
        · rw [decide_eq_false h]
          refine decide_eq_false fun q => h ?_
          have q' : [c] = [35] := q.trans (by decide +kernel)
          exact (List.cons.inj q').1
      by_cases h35 : c = 35
      · refine ifT (eqc.trans (decide_eq_true h35)) ?_
        refine ⟨_, rfl, _, rfl, z, j, rfl, by omega, hz, fun e' he1 he2 he3 he4 => ?_⟩
        have hne : j < e' := by
          rcases Nat.lt_or_ge j e' with q | q
          · exact q
          · have q' : e' = j := by omega
            rw [q'] at he3
            rcases he3 with he3 | he3
            · omega
            · rw [hc, h35] at he3
              cases he3
        refine ⟨z.length - e', by omega, e', rfl, rfl, he2, rfl, ?_⟩
        rw [← e, hd, h35]
        have g := gap_comment (TL.tl z) e' (by omega) (by rcases he3 with q | q; exact .inl (by omega); exact .inr q) (e' - (j + 1)) (j + 1) (by omega) fun m m1 m2 => he4 m (by omega) m2
        have g2 : gap false (35 :: (TL.tl z).drop (j + 1)) = gap true ((TL.tl z).drop (j + 1)) + 1 := by simp [gap]
        omega
      · refine ifF (eqc.trans (decide_eq_false h35)) ?_
        refine ⟨_, rfl, _, rfl, z, _, c, rfl, rfl, by omega, by omega, by omega, ?_, c, _, rfl, rfl, _, rfl, ?_⟩
        · rw [Int.toNat_natCast]
          exact (Array.getElem?_toList (xs := z.cps)).symm.trans hc
        have inc : decide (c ∈ (PySem.Str.ofString " \t\n").cps.toList) = isB c := by
          have q : (PySem.Str.ofString " \t\n").cps.toList = [32, 9, 10] := by decide +kernel
          rw [q] <;> rfl
        by_cases hB : isB c = true
        · refine ifT (inc.trans hB) ?_
          refine ⟨_, rfl, _, _, rfl, rfl, z.length - (j + 1), by omega, j + 1, rfl, rfl, by omega, rfl, ?_⟩
          rw [← e, hd]
          have g2 : gap false (c :: (TL.tl z).drop (j + 1)) = gap false ((TL.tl z).drop (j + 1)) + 1 := by
            conv => lhs; unfold gap
            rw [if_neg h35, if_pos hB]
          omega
        · have hB' : isB c = false := by simpa using hB
          refine ifF (inc.trans hB') ?_
          refine ⟨_, rfl, ?_⟩
          have g2 : gap false (c :: (TL.tl z).drop (j + 1)) = 0 := by
            conv => lhs; unfold gap
            rw [if_neg h35, if_neg (by rw [hB']; decide)]
          rw [hd, g2, Nat.add_zero] at e
          rw [← e] at k
          exact k
    · refine ifF (decide_eq_false (by omega)) ?_
      refine ⟨_, rfl, ?_⟩
      rw [List.drop_of_length_le (by omega)] at e
      have e2 : j = n + gap false ((TL.tl z).drop n) := e
      rw [← e2] at k
      exact k
theorem scFits : FnScope ["word"] ["word"] (defScope sFits) := ⟨rfl, rfl, rfl, by decide +kernel, rfl, by decide +kernel, by decide +kernel⟩
theorem ok_fits {f : Addr} {fd : FuncData} (F : Fun K "name_fits" "name_fits" sFits f fd) (T : Txt K mg) : FnOk P w K mg base CX0 1 f fd ["word"] spFits := by
  refine F.ok scFits (fun vs H Q E h => ?_) (fun cdv A outer s H vs Q E hr h => ?_)
  · obtain ⟨z, rfl, _⟩ := h
    rfl
  · obtain ⟨z, rfl, hz, k⟩ := h
    obtain ⟨tl', mL⟩ := T.longest
    obtain ⟨aR, mR, sR⟩ := T.res
    refine ⟨_, pss_one (ps_ret (pe_and (pe_cmp (pc_le (pe_callB call_len_str (by rfl) T.len PySem.boot_len (pa_cons (pv 0) pa_nil)) (pe_glob (v := .int 20) rfl mL ⟨_, rfl⟩)) rfl)
      (pe_one (pe_cmpR op_notIn_seq (pv 0) (pe_glob (v := .ref aR) rfl mR rfl) (by rfl))))), ?_⟩
    refine ⟨_, rfl, z, rfl, line20 hz, _, _, rfl, rfl, _, rfl, ?_⟩
    by_cases h20 : z.length ≤ 20
    · refine ifT (decide_eq_true (by omega)) ?_
      refine ⟨_, rfl, aR, _, rfl, .inr (sR H), rfl, flat_txs _, ?_⟩
      rw [in_txs]
      rw [decide_eq_true h20, Bool.true_and] at k
      exact k
    · refine ifF (decide_eq_false (by omega)) ?_
      rw [decide_eq_false h20, Bool.false_and] at k
      exact k
end
end Tk

set_option Elab.async false
set_option linter.all false
set_option maxRecDepth 100000
namespace Tk
open PySem L2 Lx
section
variable {P : Program} {w : World} {K : PySem.W.Frag} {mg : Str → Option Value} {base : Heap}
/-- (('kind', value, at), end) and (None, end): what the two displays ask -/
theorem ret_some {Q : VK} {H : Hp} {o : Option (List Nat × Tv)} {i e : Nat} {k : List Nat} {v : Tv} (R : RetTok Q H o i e) (h : o = some (k, v)) :
    3 ≤ sizeLine ∧ ∀ q, H q = none → 2 ≤ sizeLine ∧ ∀ p, upd H q (.tup [.str (tx k), tv v, .int (i : Int)]) p = none → Q (.ref p) (upd (upd H q (.tup [.str (tx k), tv v, .int (i : Int)])) p (.tup [.ref q, .int (e : Int)])) :=
  ⟨by decide, fun q hq => ⟨by decide, fun p hp => R.2 k v h q p hq hp⟩⟩
theorem ret_none {Q : VK} {H : Hp} {o : Option (List Nat × Tv)} {i e : Nat} {x : Int} (R : RetTok Q H o i e) (h : o = none) :
    2 ≤ sizeLine ∧ ∀ p, H p = none → Q (.ref p) (upd H p (.tup [.non, .int x])) := ⟨by decide, fun p hp => R.1 h x p hp⟩
theorem kW_eq : PySem.Str.ofString "word" = tx kW := TL.ext_tl (by decide +kernel)
theorem kN_eq : PySem.Str.ofString "name" = tx kN := TL.ext_tl (by decide +kernel)
theorem kI_eq : PySem.Str.ofString "number" = tx kI := TL.ext_tl (by decide +kernel)
theorem kS_eq : PySem.Str.ofString "string" = tx kS := TL.ext_tl (by decide +kernel)
theorem kG_eq : PySem.Str.ofString "sign" = tx kG := TL.ext_tl (by decide +kernel)
theorem scWordAt : FnScope ["text", "at", "end", "word"] ["text", "at"] (defScope sWordAt) := ⟨rfl, rfl, rfl, by decide +kernel, rfl, by decide +kernel, by decide +kernel⟩
theorem ok_wordAt {f fE fF : Addr} {fd fdE fdF : FuncData} (F : Fun K "word_at" "word_at" sWordAt f fd) (T : Txt K mg) (FE : Fun K "word_end" "word_end" sWend fE fdE) (bE : Binds K fdE ["text", "at"] []) (gE : mg "word_end" = some (.ref fE))
    (FF : Fun K "name_fits" "name_fits" sFits fF fdF) (bF : Binds K fdF ["word"] []) (gF : mg "name_fits" = some (.ref fF)) : FnOk P w K mg base CX0 2 f fd ["text", "at"] spWordAt := by
  have GE : FnOk P w K mg base CX0 1 fE fdE ["text", "at"] spWend := ok_wend FE T
  have GF : FnOk P w K mg base CX0 1 fF fdF ["word"] spFits := ok_fits FF T
  refine F.ok scWordAt (fun vs H Q E h => ?_) (fun cdv A outer s H vs Q E hr h => ?_)
  · obtain ⟨z, n, rfl, _⟩ := h
    rfl
  · obtain ⟨z, n, rfl, hn, hz, R⟩ := h
    obtain ⟨aR, mR, sR⟩ := T.res
    refine ⟨_, pss_cons (ps_set (i := 2) scWordAt.nd rfl (.inl rfl) (pe_call GE hr rfl gE FE.kp bE .nil pass0 (pa_cons (pv 0) (pa_cons (pv 1) pa_nil))))
      (pss_cons (ps_set (i := 3) scWordAt.nd rfl (.inl rfl) (pe_slice sl_str (pv 0) (po_some (pv 1)) (po_some (pv 2))))
      (pss_cons (ps_if (pt_cmpR op_in_seq (pv 3) (pe_glob (v := .ref aR) rfl mR rfl) (by rfl)) (pss_one (ps_ret (pe_tup (pa_cons (pe_tup (pa_cons pe_str (pa_cons (pv 3) (pa_cons (pv 1) pa_nil)))) (pa_cons (pv 2) pa_nil))))) pss_nil)
      (pss_cons (ps_if (pt_val (pe_call GF hr rfl gF FF.kp bF .nil pass0 (pa_cons (pv 3) pa_nil))) (pss_one (ps_ret (pe_tup (pa_cons (pe_tup (pa_cons pe_str (pa_cons (pv 3) (pa_cons (pv 1) pa_nil)))) (pa_cons (pv 2) pa_nil))))) pss_nil)
      (pss_one (ps_ret (pe_tup (pa_cons pe_non (pa_cons (pv 2) pa_nil)))))))), ?_⟩
    refine ⟨_, rfl, _, rfl, z, n, rfl, hn, hz, ?_⟩
    refine ⟨_, rfl, _, rfl, _, rfl, _, rfl, _, rfl, z, rfl, line20 hz, ?_⟩
    rw [cut_wd hn rfl]
    have hl := wd_len ((TL.tl z).drop n)
    rw [List.length_drop, ← TL.len_tl] at hl
    generalize hw : wd ((TL.tl z).drop n) = ww at R hl ⊢
    refine ⟨_, rfl, aR, _, rfl, .inr (sR H), rfl, flat_txs _, _, rfl, ?_⟩
    by_cases h1 : ww ∈ RES
    · refine ifT ((in_txs _ _).trans (decide_eq_true h1)) ?_
      refine ⟨_, rfl, _, rfl, ?_⟩
      rw [kW_eq]
      obtain ⟨a, b⟩ := ret_some R (k := kW) (v := .inl ww) (if_pos h1)
      exact ⟨a, fun q hq => ⟨_, rfl, b q hq⟩⟩
    · refine ifF ((in_txs _ _).trans (decide_eq_false h1)) ?_
      refine ⟨_, rfl, tx ww, rfl, by rw [tx_len]; omega, _, rfl, ?_⟩
      rw [tx_len]
      by_cases h2 : ww.length ≤ 20
      · refine ifT (by rw [decide_eq_true h2, tl_tx, decide_eq_false h1] <;> rfl) ?_
        refine ⟨_, rfl, _, rfl, ?_⟩
        rw [kN_eq]
        obtain ⟨a, b⟩ := ret_some R (k := kN) (v := .inl ww) ((if_neg h1).trans (if_pos h2))
        exact ⟨a, fun q hq => ⟨_, rfl, b q hq⟩⟩
      · refine ifF (by rw [decide_eq_false h2] <;> rfl) ?_
        exact ⟨_, rfl, ret_none R ((if_neg h1).trans (if_neg h2))⟩
theorem isdigit_tx {l : List Nat} (hne : l ≠ []) (h : ∀ c ∈ l, isW c = true) : Txt.isdigit (tx l) = l.all isD := by
  have key : ∀ c ∈ WCH, PySem.Unicode.isDigit c = isD c := by decide +kernel
  unfold Txt.isdigit
  have e1 : decide ((tx l).length > 0) = true := decide_eq_true (by rw [tx_len]; exact List.length_pos_iff.mpr hne)
  rw [e1, Bool.true_and]
  have e2 : (tx l).cps.all PySem.Unicode.isDigit = l.all PySem.Unicode.isDigit := by
    unfold tx
    simp
  rw [e2]
  clear e1 e2 hne
  induction l with
  | nil => rfl
  | cons a l ih =>
    rw [List.all_cons, List.all_cons, ih fun c hc => h c (List.mem_cons_of_mem _ hc), key a (of_decide_eq_true (h a (List.mem_cons_self ..)))]
theorem wd_all (l : List Nat) : ∀ c ∈ wd l, isW c = true := fun c hc => by
  unfold wd at hc
  induction l with
  | nil => cases hc
  | cons a l ih =>
    rw [List.takeWhile_cons] at hc
    split at hc
    · rename_i ha
      rcases List.mem_cons.mp hc with rfl | hc
      · exact ha
      · exact ih hc
    · cases hc
theorem scNumAt : FnScope ["text", "at", "end", "digits"] ["text", "at"] (defScope sNumAt) := ⟨rfl, rfl, rfl, by decide +kernel, rfl, by decide +kernel, by decide +kernel⟩
theorem ok_numAt {f fE : Addr} {fd fdE : FuncData} (F : Fun K "number_at" "number_at" sNumAt f fd) (T : Txt K mg) (FE : Fun K "word_end" "word_end" sWend fE fdE) (bE : Binds K fdE ["text", "at"] []) (gE : mg "word_end" = some (.ref fE)) :
    FnOk P w K mg base CX0 2 f fd ["text", "at"] spNumAt := by
  have GE : FnOk P w K mg base CX0 1 fE fdE ["text", "at"] spWend := ok_wend FE T
  refine F.ok scNumAt (fun vs H Q E h => ?_) (fun cdv A outer s H vs Q E hr h => ?_)
  · obtain ⟨z, n, c, r, rfl, _⟩ := h
    rfl
  · obtain ⟨z, n, c, r, rfl, hd, hc, hz, R⟩ := h
    obtain ⟨tD, mD⟩ := T.digits
    obtain ⟨tG, mG⟩ := T.greatest
    have hn : n ≤ z.length := by
      have e := congrArg List.length hd
      rw [List.length_drop, ← TL.len_tl] at e
      simp only [List.length_cons] at e
      omega
    have none2 : ∀ X : Cx, True := fun _ => trivial
    refine ⟨_, pss_cons (ps_set (i := 2) scNumAt.nd rfl (.inl rfl) (pe_call GE hr rfl gE FE.kp bE .nil pass0 (pa_cons (pv 0) (pa_cons (pv 1) pa_nil))))
      (pss_cons (ps_set (i := 3) scNumAt.nd rfl (.inl rfl) (pe_slice sl_str (pv 0) (po_some (pv 1)) (po_some (pv 2))))
      (pss_cons (ps_if (PW.pt (pw_or (pt_not (pt_val (pe_m0 PySem.F.slot_str_isdigit PySem.F.type_str_isdigit mt_isdigit (pv 3))))
          (pw_or1 (pt_cmpR op_gt (pe_callB call_len_str (by rfl) T.len PySem.boot_len (pa_cons (pv 3) pa_nil)) (pe_glob (v := .int 5) rfl mD ⟨_, rfl⟩) (nomark _)))))
        (pss_one (ps_ret (pe_tup (pa_cons pe_non (pa_cons (pv 2) pa_nil))))) pss_nil)
      (pss_cons (ps_if (PW.pt (pw_and (pt_cmpR op_eq (pe_item_str (pv 3) pe_int (fun _ _ => rfl)) pe_str (nomark _)) (pw_and1 (pt_cmpR op_ne (pv 3) pe_str (nomark _)))))
        (pss_one (ps_ret (pe_tup (pa_cons pe_non (pa_cons (pv 2) pa_nil))))) pss_nil)
      (pss_cons (ps_if (pt_cmpR op_gt (pe_callTy call_int_str (by rfl) T.int (by decide +kernel) (pa_cons (pv 3) pa_nil)) (pe_glob (v := .int 65535) rfl mG ⟨_, rfl⟩) (nomark _))
        (pss_one (ps_ret (pe_tup (pa_cons pe_non (pa_cons (pv 2) pa_nil))))) pss_nil)
      (pss_one (ps_ret (pe_tup (pa_cons (pe_tup (pa_cons pe_str (pa_cons (pe_callTy call_int_str (by rfl) T.int (by decide +kernel) (pa_cons (pv 3) pa_nil)) (pa_cons (pv 1) pa_nil)))) (pa_cons (pv 2) pa_nil))))))))), ?_⟩
    refine ⟨_, rfl, _, rfl, z, n, rfl, hn, hz, ?_⟩
    refine ⟨_, rfl, _, rfl, _, rfl, _, rfl, _, rfl, z, rfl, line20 hz, ?_⟩
    rw [cut_wd hn rfl]
    have hl := wd_len ((TL.tl z).drop n)
    rw [List.length_drop, ← TL.len_tl] at hl
    have hall := wd_all ((TL.tl z).drop n)
    have hw0 : wd ((TL.tl z).drop n) = c :: wd r := by
      rw [hd]
      exact List.takeWhile_cons_of_pos hc
    have hw1 : wd (c :: r) = c :: wd r := List.takeWhile_cons_of_pos hc
    rw [hw1] at R
    rw [hw0] at hl hall ⊢
    generalize hw : c :: wd r = ww at R hl hall ⊢
    have hne : ww ≠ [] := by rw [← hw]; simp
    have hl2 : (tx ww).length ≤ sizeLine := by rw [tx_len]; exact line20 (by omega)
    -- not digits.isdigit() or len(digits) > 5
    refine ⟨_, rfl, ⟨_, rfl⟩, _, rfl, rfl, trivial, _, rfl, ?_⟩
    rw [isdigit_tx hne hall]
    by_cases h1 : ww.all isD = true
    · refine ifF (by rw [h1] <;> rfl) ?_
      refine ⟨_, rfl, _, rfl, hl2, _, _, rfl, rfl, _, rfl, ?_⟩
      rw [tx_len]
      by_cases h2 : 5 < ww.length
      · refine ifT (decide_eq_true (by omega)) ?_
        exact ⟨_, rfl, ret_none R (if_pos (by rw [decide_eq_true h2, Bool.or_true]))⟩
      · refine ifF (decide_eq_false (by omega)) ?_
        have c1 : ¬ (!ww.all isD || decide (5 < ww.length)) = true := by
          rw [h1, decide_eq_false h2]
          decide
        have it : (tx ww).cps[(0 : Int).toNat]? = some c := by
          rw [← hw]
          rfl
        refine ⟨_, rfl, _, _, c, rfl, rfl, by omega, by omega, ?_, it, rfl, _, rfl, ?_⟩
        · rw [tx_len]
          have := List.length_pos_iff.mpr hne
          omega
        have q0 : TL.tl (PySem.Str.ofString "0") = [48] := by decide +kernel
        have eqc : decide (V.str ⟨#[c]⟩ = V.str (PySem.Str.ofString "0")) = decide (c = 48) := by
          rw [str_eq, q0]
          by_cases h : c = 48
          · subst h
            decide
          · rw [decide_eq_false h]
            exact decide_eq_false fun q => h (List.cons.inj q).1
        -- the number itself
        have last : ¬ (c = 48 ∧ ww ≠ [48]) →
            tSeq (tIfS (tTest (tOp (rI0 fun i j => .bl (decide (j < i))) (tCB (fun xs H Q => ∃ a n, xs = [.str a] ∧ PySem.intText? a = some n ∧ a.length ≤ 640 ∧ Q (.int n) H) (tCons (tVar 3) tNil)) (tC (.int 65535))))
              (tRet (tTup (tCons (tC .non) (tCons (tVar 2) tNil)))) tNext)
              (tRet (tTup (tCons (tTup (tCons (tC (.str (PySem.Str.ofString "number"))) (tCons (tCB (fun xs H Q => ∃ a n, xs = [.str a] ∧ PySem.intText? a = some n ∧ a.length ≤ 640 ∧ Q (.int n) H) (tCons (tVar 3) tNil)) (tCons (tVar 1) tNil)))) (tCons (tVar 2) tNil))))
              { nx := fun _ H' => Q .non H', rt := Q } [some (.str z), some (.int (n : Int)), some (.int ((n + ww.length : Nat) : Int)), some (.str (tx ww))] H := fun c2 => by
          have iv : PySem.intText? (tx ww) = some ((dv ww : Nat) : Int) := by
            refine PySem.intText_digits (x := tx ww) (fun d hd' => ?_) hne (by rw [tx_len]; omega)
            have z1 := List.all_eq_true.mp h1 d hd'
            unfold isD at z1
            simp only [Bool.and_eq_true, decide_eq_true_eq] at z1
            exact z1
          have l640 : (tx ww).length ≤ 640 := by rw [tx_len]; omega
          refine ⟨_, rfl, _, _, rfl, iv, l640, _, _, rfl, rfl, _, rfl, ?_⟩
          by_cases h3 : 65535 < dv ww
          · refine ifT (decide_eq_true (by omega)) ?_
            exact ⟨_, rfl, ret_none R ((if_neg c1).trans ((if_neg c2).trans (if_pos h3)))⟩
          · refine ifF (decide_eq_false (by omega)) ?_
            refine ⟨_, rfl, _, _, rfl, iv, l640, _, rfl, ?_⟩
            rw [kI_eq]
            obtain ⟨a, b⟩ := ret_some R (k := kI) (v := .inr (dv ww)) ((if_neg c1).trans ((if_neg c2).trans (if_neg h3)))
            exact ⟨a, fun q hq => ⟨_, rfl, b q hq⟩⟩
        by_cases h48 : c = 48
        · refine ifT (eqc.trans (decide_eq_true h48)) ?_
          refine ⟨_, rfl, rfl, _, rfl, ?_⟩
          by_cases h9 : ww = [48]
          · refine ifF (by rw [str_eq, q0, tl_tx, decide_eq_true h9] <;> rfl) ?_
            exact last fun q => q.2 h9
          · refine ifT (by rw [str_eq, q0, tl_tx, decide_eq_false h9] <;> rfl) ?_
            exact ⟨_, rfl, ret_none R ((if_neg c1).trans (if_pos ⟨h48, h9⟩))⟩
        · refine ifF (eqc.trans (decide_eq_false h48)) ?_
          exact last fun q => h48 q.1
    · have h1' : ww.all isD = false := by simpa using h1
      refine ifT (by rw [h1'] <;> rfl) ?_
      exact ⟨_, rfl, ret_none R (if_pos (by rw [h1'] <;> rfl))⟩
end
end Tk

set_option Elab.async false
set_option linter.all false
set_option maxRecDepth 100000
namespace Tk
open PySem L2 Lx
theorem sw3 {z y : Str} {n : Nat} (hn : n ≤ z.length) (hy : TL.tl y ≠ []) : Txt.startswith3 z y (n : Int) = TL.pre (TL.tl y) ((TL.tl z).drop n) := by
  have fi : PySem.fromIndex z.length (n : Int) = n := by
    unfold PySem.fromIndex
    rw [if_neg (by omega)]
    omega
  have h := TL.at_iff (x := z) hy n
  unfold Txt.startswith3
  rw [fi]
  cases hp : TL.pre (TL.tl y) ((TL.tl z).drop n) with
  | true =>
    obtain ⟨a, b⟩ := h.mpr hp
    rw [b, decide_eq_true a] <;> rfl
  | false =>
    cases hq : (decide (n + y.length ≤ z.length) && PySem.Builtin.Str.subAt z y n) with
    | false => rfl
    | true =>
      obtain ⟨a, b⟩ := Bool.and_eq_true_iff.mp hq
      have c := h.mp ⟨of_decide_eq_true a, b⟩
      rw [hp] at c
      cases c
theorem pre_one (c : Nat) (l : List Nat) : TL.pre [c] l = decide (l.head? = some c) := by
  cases l with
  | nil => rfl
  | cons a r =>
    show ([a] == [c]) = decide (some a = some c)
    by_cases h : a = c
    · subst h
      simp
    · rw [decide_eq_false (by simpa using h)]
      exact beq_eq_false_iff_ne.mpr (by simpa using h)
theorem pre_isPrefix (s l : List Nat) : TL.pre s l = s.isPrefixOf l := by
  unfold TL.pre
  induction s generalizing l with
  | nil => simp
  | cons a s ih =>
    cases l with
    | nil => rfl
    | cons b l =>
      rw [List.length_cons, List.take_succ_cons, List.isPrefixOf_cons₂, ← ih l]
      show (b == a && _) = _
      by_cases h : a = b
      · subst h
        rfl
      · have h' : ¬ b = a := fun q => h q.symm
        rw [beq_eq_false_iff_ne.mpr h, beq_eq_false_iff_ne.mpr h'] <;> rfl
section
variable {P : Program} {w : World} {K : PySem.W.Frag} {mg : Str → Option Value} {base : Heap}
theorem scStrAt : FnScope ["text", "at", "end", "word"] ["text", "at"] (defScope sStrAt) := ⟨rfl, rfl, rfl, by decide +kernel, rfl, by decide +kernel, by decide +kernel⟩
theorem ok_strAt {f fE : Addr} {fd fdE : FuncData} (F : Fun K "string_at" "string_at" sStrAt f fd) (T : Txt K mg) (FE : Fun K "word_end" "word_end" sWend fE fdE) (bE : Binds K fdE ["text", "at"] []) (gE : mg "word_end" = some (.ref fE)) :
    FnOk P w K mg base CX0 2 f fd ["text", "at"] spStrAt := by
  have GE : FnOk P w K mg base CX0 1 fE fdE ["text", "at"] spWend := ok_wend FE T
  refine F.ok scStrAt (fun vs H Q E h => ?_) (fun cdv A outer s H vs Q E hr h => ?_)
  · obtain ⟨z, n, rfl, _⟩ := h
    rfl
  · obtain ⟨z, n, rfl, hn, hz, R⟩ := h
    obtain ⟨tL, mL⟩ := T.longest
    refine ⟨_, pss_cons (ps_set (i := 2) scStrAt.nd rfl (.inl rfl) (pe_call GE hr rfl gE FE.kp bE .nil pass0 (pa_cons (pv 0) (pa_cons (pe_op op_add (pv 1) pe_int) pa_nil))))
      (pss_cons (ps_set (i := 3) scStrAt.nd rfl (.inl rfl) (pe_slice sl_str (pv 0) (po_some (pe_op op_add (pv 1) pe_int)) (po_some (pv 2))))
      (pss_cons (ps_if (PW.pt (pw_or (pt_cmpR op_eq (pv 3) pe_str (nomark _)) (pw_or (pt_cmpR op_gt (pe_callB call_len_str (by rfl) T.len PySem.boot_len (pa_cons (pv 3) pa_nil)) (pe_glob (v := .int 20) rfl mL ⟨_, rfl⟩) (nomark _))
          (pw_or1 (pt_not (pt_val (pe_bm PySem.F.plainAttrs_str PySem.F.slot_str_startswith PySem.F.type_str_startswith mt_startswith3 (pv 0) (pa_cons pe_str (pa_cons (pv 2) pa_nil)))))))))
        (pss_one (ps_ret (pe_tup (pa_cons pe_non (pa_cons (pv 2) pa_nil))))) pss_nil)
      (pss_one (ps_ret (pe_tup (pa_cons (pe_tup (pa_cons pe_str (pa_cons (pv 3) (pa_cons (pv 1) pa_nil)))) (pa_cons (pe_op op_add (pv 2) pe_int) pa_nil))))))), ?_⟩
    refine ⟨_, rfl, _, rfl, _, _, rfl, rfl, z, n + 1, by rfl, hn, hz, ?_⟩
    refine ⟨_, rfl, _, rfl, _, _, rfl, rfl, _, rfl, _, rfl, _, rfl, z, rfl, line20 hz, ?_⟩
    have e1 : ((n : Int) + 1) = ((n + 1 : Nat) : Int) := by omega
    rw [e1, cut_wd hn rfl]
    have hl := wd_len ((TL.tl z).drop (n + 1))
    rw [List.length_drop, ← TL.len_tl] at hl
    have e34 : (((TL.tl z).drop (n + 1)).drop (wd ((TL.tl z).drop (n + 1))).length) = (TL.tl z).drop (n + 1 + (wd ((TL.tl z).drop (n + 1))).length) := by rw [List.drop_drop]
    unfold strO at R
    rw [e34] at R
    generalize hw : wd ((TL.tl z).drop (n + 1)) = ww at R hl ⊢
    have hl2 : (tx ww).length ≤ sizeLine := by rw [tx_len]; exact line20 (by omega)
    have q0 : TL.tl (PySem.Str.ofString "") = [] := by decide +kernel
    have q1 : TL.tl (PySem.Str.ofString "\"") = [34] := by decide +kernel
    refine ⟨_, rfl, rfl, _, rfl, ?_⟩
    by_cases h1 : ww = []
    · refine ifT (by rw [str_eq, q0, tl_tx, decide_eq_true h1]) ?_
      exact ⟨_, rfl, ret_none R (if_pos (.inl h1))⟩
    · refine ifF (by rw [str_eq, q0, tl_tx, decide_eq_false h1]) ?_
      refine ⟨_, rfl, _, rfl, hl2, _, _, rfl, rfl, _, rfl, ?_⟩
      rw [tx_len]
      by_cases h2 : 20 < ww.length
      · refine ifT (decide_eq_true (by omega)) ?_
        exact ⟨_, rfl, ret_none R (if_pos (.inr (.inl h2)))⟩
      · refine ifF (decide_eq_false (by omega)) ?_
        refine ⟨_, rfl, rfl, _, rfl, z, _, _, rfl, rfl, _, rfl, ?_⟩
        rw [sw3 (by omega) (by rw [q1]; simp), q1, pre_one]
        by_cases h3 : ((TL.tl z).drop (n + 1 + ww.length)).head? = some 34
        · refine ifF (by rw [decide_eq_true h3] <;> rfl) ?_
          refine ⟨_, rfl, _, rfl, ?_⟩
          rw [kS_eq]
          obtain ⟨a, b⟩ := ret_some R (k := kS) (v := .inl ww) (if_neg (by
            rintro (q | q | q)
            · exact h1 q
            · exact h2 q
            · exact q h3))
          refine ⟨a, fun q hq => ⟨_, rfl, _, _, rfl, rfl, ?_⟩⟩
          have e2 : (((n + 1 + ww.length : Nat) : Int) + 1) = ((n + (ww.length + 2) : Nat) : Int) := by omega
          have b2 := b q hq
          rw [← e2] at b2
          exact b2
        · refine ifT (by rw [decide_eq_false h3] <;> rfl) ?_
          exact ⟨_, rfl, ret_none R (if_pos (.inr (.inr h3)))⟩
theorem scSignAt : FnScope ["text", "at", "sign"] ["text", "at"] (defScope sSignAt) := ⟨rfl, rfl, rfl, by decide +kernel, rfl, by decide +kernel, by decide +kernel⟩
theorem sgn_facts : ∀ s ∈ SGN, s ≠ [] ∧ s.length ≤ 2 := by decide
theorem find_at {p : List Nat → Bool} : ∀ {l : List (List Nat)} {i : Nat} {s : List Nat}, l[i]? = some s → p s = true → (∀ j t, j < i → l[j]? = some t → p t = false) → l.find? p = some s
  | [], i, s, h, _, _ => by simp at h
  | a :: l, 0, s, h, hp, _ => by
    cases h
    exact List.find?_cons_of_pos hp
  | a :: l, i + 1, s, h, hp, hn => by
    have ha := hn 0 a (by omega) rfl
    rw [List.find?_cons_of_neg (by rw [ha]; decide)]
    exact find_at (i := i) (by simpa using h) hp fun j t hj ht => hn (j + 1) t (by omega) (by simpa using ht)
theorem ok_signAt {f : Addr} {fd : FuncData} (F : Fun K "sign_at" "sign_at" sSignAt f fd) (T : Txt K mg) : FnOk P w K mg base CX0 1 f fd ["text", "at"] spSignAt := by
  refine F.ok scSignAt (fun vs H Q E h => ?_) (fun cdv A outer s H vs Q E hr h => ?_)
  · obtain ⟨z, n, rfl, _⟩ := h
    rfl
  · obtain ⟨z, n, rfl, hn, hz, R⟩ := h
    obtain ⟨aS, mS, sS⟩ := T.sgn
    refine ⟨_, pss_cons (ps_for PassesOwn.never rfl (pi_tup (pe_glob (v := .ref aS) rfl mS rfl)) (pg_name (i := 2) scSignAt.nd rfl (.inl rfl))
        (pss_one (ps_if (pt_val (pe_bm PySem.F.plainAttrs_str PySem.F.slot_str_startswith PySem.F.type_str_startswith mt_startswith3 (pv 0) (pa_cons (pv 2) (pa_cons (pv 1) pa_nil))))
          (pss_one (ps_ret (pe_tup (pa_cons (pe_tup (pa_cons pe_str (pa_cons (pv 2) (pa_cons (pv 1) pa_nil)))) (pa_cons (pe_op op_add (pv 1) (pe_callB call_len_str (by rfl) T.len PySem.boot_len (pa_cons (pv 2) pa_nil))) pa_nil))))) pss_nil)))
      (pss_one (ps_ret (pe_tup (pa_cons pe_non (pa_cons (pv 1) pa_nil))))), ?_⟩
    refine ⟨aS, rfl, ⟨_, sS H⟩, for_tup (K := K) (a := aS) (xs := SGN.map fun w => V.str (tx w))
      (fun i σ H' => H' = H ∧ (∃ v : Option V, σ = [some (.str z), some (.int (n : Int)), v]) ∧ ∀ j t, j < i → SGN[j]? = some t → t.isPrefixOf ((TL.tl z).drop n) = false)
      ⟨rfl, ⟨none, rfl⟩, fun j t h => absurd h (by omega)⟩ (fun i σ H' _ ⟨q, _⟩ => by rw [q]; exact sS H) ?_ ?_⟩
    · rintro i x σ H' hx ⟨rfl, ⟨v, rfl⟩, hno⟩
      obtain ⟨t, ht, rfl⟩ : ∃ t, SGN[i]? = some t ∧ x = V.str (tx t) := by
        rw [List.getElem?_map] at hx
        cases e : SGN[i]? with
        | none =>
          rw [e] at hx
          cases hx
        | some t =>
          rw [e] at hx
          exact ⟨t, rfl, (Option.some.inj hx).symm⟩
      obtain ⟨tne, tl2⟩ := sgn_facts t (List.mem_of_getElem? ht)
      refine ⟨_, rfl, rfl, _, rfl, _, rfl, z, tx t, (n : Int), rfl, rfl, _, rfl, ?_⟩
      rw [sw3 hn (by rw [tl_tx]; exact tne), tl_tx, pre_isPrefix]
      by_cases hp : t.isPrefixOf ((TL.tl z).drop n) = true
      · refine ifT hp ?_
        have ef : sgnO ((TL.tl z).drop n) = (some (kG, .inl t), t.length) := by
          unfold sgnO
          rw [find_at (p := fun s => s.isPrefixOf ((TL.tl z).drop n)) ht hp hno]
        rw [ef] at R
        refine ⟨_, rfl, _, rfl, ?_⟩
        rw [kG_eq]
        obtain ⟨a, b⟩ := ret_some R (k := kG) (v := .inl t) rfl
        refine ⟨a, fun q hq => ⟨_, rfl, _, rfl, tx t, rfl, by rw [tx_len]; exact line20 (by omega), _, _, rfl, rfl, ?_⟩⟩
        rw [tx_len]
        exact b q hq
      · have hp' : t.isPrefixOf ((TL.tl z).drop n) = false := Bool.eq_false_iff.mpr hp
        refine ifF hp' ?_
        refine ⟨rfl, ⟨_, rfl⟩, fun j u hj hu => ?_⟩
        rcases Nat.lt_or_ge j i with q | q
        · exact hno j u q hu
        · have q' : j = i := by omega
          rw [q', ht] at hu
          cases hu
          exact hp'
    · rintro σ H' ⟨rfl, ⟨v, rfl⟩, hno⟩
      have ef : sgnO ((TL.tl z).drop n) = (none, 0) := by
        unfold sgnO
        have e : SGN.find? (fun s => s.isPrefixOf ((TL.tl z).drop n)) = none := by
          rw [List.find?_eq_none]
          intro t ht q
          obtain ⟨j, hj⟩ := List.getElem?_of_mem ht
          have hj' : j < SGN.length := (List.getElem?_eq_some_iff.mp hj).1
          rw [hno j t (by rw [List.length_map]; exact hj') hj] at q
          cases q
        rw [e]
      rw [ef] at R
      exact ⟨_, rfl, ret_none R rfl⟩
theorem scTokAt : FnScope ["text", "at"] ["text", "at"] (defScope sTokAt) := ⟨rfl, rfl, rfl, by decide +kernel, rfl, by decide +kernel, by decide +kernel⟩
theorem ok_tokAt {f fW fN fS fG : Addr} {fd fdW fdN fdS fdG : FuncData} (F : Fun K "token_at" "token_at" sTokAt f fd) (T : Txt K mg)
    (GW : FnOk P w K mg base CX0 2 fW fdW ["text", "at"] spWordAt) (kW' : PySem.W.keepIn K (.ref fW) = true) (bW : Binds K fdW ["text", "at"] []) (gW : mg "word_at" = some (.ref fW))
    (GN : FnOk P w K mg base CX0 2 fN fdN ["text", "at"] spNumAt) (kN' : PySem.W.keepIn K (.ref fN) = true) (bN : Binds K fdN ["text", "at"] []) (gN : mg "number_at" = some (.ref fN))
    (GS : FnOk P w K mg base CX0 2 fS fdS ["text", "at"] spStrAt) (kS' : PySem.W.keepIn K (.ref fS) = true) (bS : Binds K fdS ["text", "at"] []) (gS : mg "string_at" = some (.ref fS))
    (GG : FnOk P w K mg base CX0 1 fG fdG ["text", "at"] spSignAt) (kG' : PySem.W.keepIn K (.ref fG) = true) (bG : Binds K fdG ["text", "at"] []) (gG : mg "sign_at" = some (.ref fG)) :
    FnOk P w K mg base CX0 3 f fd ["text", "at"] spTokAt := by
  refine F.ok scTokAt (fun vs H Q E h => ?_) (fun cdv A outer s H vs Q E hr h => ?_)
  · obtain ⟨z, n, rfl, _⟩ := h
    rfl
  · obtain ⟨z, n, rfl, hn, hz, R⟩ := h
    obtain ⟨tL, mL⟩ := T.letters
    obtain ⟨zw, tw, mw, ew⟩ := T.wch
    have hr1 : Room 1 _ := hr.mono (by decide)
    refine ⟨_, pss_cons (ps_if (pt_cmpR op_in_sign (pe_item_str (pv 0) (pv 1) (fun _ _ => rfl)) (pe_glob (v := .str (tx LET)) rfl mL ⟨_, rfl⟩) (by rfl))
          (pss_one (ps_ret (pe_call GW hr rfl gW kW' bW .nil pass0 (pa_cons (pv 0) (pa_cons (pv 1) pa_nil))))) pss_nil)
      (pss_cons (ps_if (pt_cmpR op_in_sign (pe_item_str (pv 0) (pv 1) (fun _ _ => rfl)) (pe_glob (v := .str zw) rfl mw ⟨_, rfl⟩) (by rfl))
          (pss_one (ps_ret (pe_call GN hr rfl gN kN' bN .nil pass0 (pa_cons (pv 0) (pa_cons (pv 1) pa_nil))))) pss_nil)
      (pss_cons (ps_if (pt_cmpR op_eq (pe_item_str (pv 0) (pv 1) (fun _ _ => rfl)) pe_str (nomark _))
          (pss_one (ps_ret (pe_call GS hr rfl gS kS' bS .nil pass0 (pa_cons (pv 0) (pa_cons (pv 1) pa_nil))))) pss_nil)
      (pss_one (ps_ret (pe_call GG hr1 rfl gG kG' bG .nil pass0 (pa_cons (pv 0) (pa_cons (pv 1) pa_nil))))))), ?_⟩
    have hlen : z.length = (TL.tl z).length := TL.len_tl z
    obtain ⟨c, hc, hd⟩ := drop_cons (l := TL.tl z) (n := n) (by omega)
    have it : z.cps[(n : Int).toNat]? = some c := by
      rw [Int.toNat_natCast]
      exact (Array.getElem?_toList (xs := z.cps)).symm.trans hc
    have b1 : (n : Int) < 2 ^ 63 := by omega
    refine ⟨_, rfl, _, rfl, z, _, c, rfl, rfl, by omega, b1, by omega, it, c, _, rfl, rfl, _, rfl, ?_⟩
    by_cases h1 : isL c = true
    · refine ifT h1 ?_
      refine ⟨_, rfl, _, rfl, z, n, rfl, by omega, hz, ?_⟩
      have e : tok ((TL.tl z).drop n) = (wordO (wd ((TL.tl z).drop n)), (wd ((TL.tl z).drop n)).length) := by
        rw [hd]
        exact if_pos h1
      rw [e] at R
      exact R
    · have h1' : isL c = false := by simpa using h1
      refine ifF h1' ?_
      refine ⟨_, rfl, _, rfl, z, _, c, rfl, rfl, by omega, b1, by omega, it, c, _, rfl, rfl, _, rfl, ?_⟩
      have ew' : decide (c ∈ zw.cps.toList) = isW c := by
        show decide (c ∈ TL.tl zw) = _
        rw [ew] <;> rfl
      by_cases h2 : isW c = true
      · refine ifT (ew'.trans h2) ?_
        refine ⟨_, rfl, _, rfl, z, n, c, _, rfl, hd, h2, hz, ?_⟩
        have e : tok ((TL.tl z).drop n) = (numO c (wd (c :: (TL.tl z).drop (n + 1))), (wd (c :: (TL.tl z).drop (n + 1))).length) := by
          rw [hd]
          exact (if_neg h1).trans (if_pos h2)
        rw [e] at R
        exact R
      · have h2' : isW c = false := by simpa using h2
        refine ifF (ew'.trans h2') ?_
        refine ⟨_, rfl, _, rfl, z, _, c, rfl, rfl, by omega, b1, by omega, it, rfl, _, rfl, ?_⟩
        have q1 : TL.tl (PySem.Str.ofString "\"") = [34] := by decide +kernel
        have eqc : decide (V.str ⟨#[c]⟩ = V.str (PySem.Str.ofString "\"")) = decide (c = 34) := by
          rw [str_eq, q1]
          by_cases h : c = 34
          · subst h
            decide
          · rw [decide_eq_false h]
            exact decide_eq_false fun q => h (List.cons.inj q).1
        by_cases h3 : c = 34
        · refine ifT (eqc.trans (decide_eq_true h3)) ?_
          refine ⟨_, rfl, _, rfl, z, n, rfl, by omega, hz, ?_⟩
          have e : tok ((TL.tl z).drop n) = (strO ((TL.tl z).drop (n + 1)), (tok ((TL.tl z).drop n)).2) ∧ (strO ((TL.tl z).drop (n + 1)) ≠ none → (tok ((TL.tl z).drop n)).2 = (wd ((TL.tl z).drop (n + 1))).length + 2) := by
            rw [hd]
            have e0 : tok (c :: (TL.tl z).drop (n + 1)) = if wd ((TL.tl z).drop (n + 1)) = [] ∨ 20 < (wd ((TL.tl z).drop (n + 1))).length ∨ (((TL.tl z).drop (n + 1)).drop (wd ((TL.tl z).drop (n + 1))).length).head? ≠ some 34
                then (none, (wd ((TL.tl z).drop (n + 1))).length + 1) else (some (kS, .inl (wd ((TL.tl z).drop (n + 1)))), (wd ((TL.tl z).drop (n + 1))).length + 2) := (if_neg h1).trans ((if_neg h2).trans (if_pos h3))
            rw [e0]
            unfold strO
            split
            · exact ⟨rfl, fun q => absurd rfl q⟩
            · exact ⟨rfl, fun _ => rfl⟩
          obtain ⟨e1, e2⟩ := e
          rw [e1] at R
          refine ⟨fun ho x p hp => R.1 ho x p hp, fun k v ho q p hq hp => ?_⟩
          have e3 := e2 (by rw [ho]; simp)
          have R2 := R.2 k v ho q p hq hp
          have e4 : (tok ((TL.tl z).drop n)).2 = (wd ((TL.tl z).drop (n + 1))).length + 2 := e3
          simp only [e4] at R2
          exact R2
        · refine ifF (eqc.trans (decide_eq_false h3)) ?_
          refine ⟨_, rfl, _, rfl, z, n, rfl, by omega, hz, ?_⟩
          have e : tok ((TL.tl z).drop n) = sgnO ((TL.tl z).drop n) := by
            rw [hd]
            exact (if_neg h1).trans ((if_neg h2).trans (if_neg h3))
          rw [e] at R
          exact R
end
end Tk

set_option Elab.async false
set_option linter.all false
set_option maxRecDepth 100000
set_option maxHeartbeats 2000000
namespace Tk
open PySem PySem.W PySem.Calls PyProof.Rows PySem.HandSPX
abbrev sMalI : Stmt := L2.inClass (top 2) 0
abbrev mN : Str := PySem.Str.ofString "module"
abbrev aN : Str := PySem.Str.ofString "at"
/-- what the written part says of Malformed, at C, of its __init__, at fI, and of the cell __class__, at cc -/
structure MalTxt (P : Program) (K : Frag) (mg : Str → Option Value) (C fI cc cda : Addr) : Prop where
  gC : mg "Malformed" = some (.ref C)
  gS : mg "super" = none
  cls : ∃ nm q N bs bm sn sub ab col dd k0 k1 k2 k3 k5, K.lookup C = some (excClassObj nm q C N bs bm true sn sub ab col dd k0 k1 k2 k3 k5 "ValueError.__new__") ∧ refsVE bm = true
  sa : findIn K (.ref C) "__setattr__" = some (some (.builtin "object.__setattr__"))
  iC : findIn K (.ref C) "__init__" = some (some (.ref fI))
  tC : typeIn K (.ref fI) = some (.type "function")
  kC : keepIn K (.ref C) = true
  exC : subIn K (.ref C) (.type "BaseException") = some true
  exV : subIn K (.ref C) (.type "ValueError") = some true
  mro : mroIn K C (.ref C) = some true
  tyC : typeIn K (.ref C) = some (.type "type")
  nM : findIn K (.ref C) "module" = some none
  nA : findIn K (.ref C) "at" = some none
  te : exmOne K (.ref C) (.ref C) = some true
  xf : L2.XfC K C
  opq : nsIn K cStatics "thirdparty.any" = some none
  sup : ks_superIn K C C "__init__" = some (some (.builtin "ValueError.__init__"))
  cell : ∃ cl cld csl, K.lookup cc = some ⟨cl, cld, .cell (some (.ref C)), csl⟩
  code : ∃ (ccl : Value) (cdd : Option Addr) (vs : Array Value) (ccs : Array (Option Value)) (file : Str) (tf : Tok), K.lookup cda = some ⟨ccl, cdd, .fields vs, ccs⟩ ∧ vs[2]? = some (.str file tf) ∧ ((P.main.file : Str) == file) = true
  top : (P.main.scope.names.lookup ("super" : Str)).isSome = false
  cdi : codeIn K (.ref cda) "Malformed.__init__" = true
  fn : ∃ (oc : Value) (od : Option Addr) (kV doc pm : Value) (an : Option Addr) (ct : Value) (osl : Array (Option Value)),
    K.lookup fI = some ⟨oc, od, .func (ksFn "__init__" "Malformed.__init__" (L2.defArgs sMalI) (L2.defBody sMalI) (L2.defScope sMalI) .none kV doc pm an (.ref cda) ct cc), osl⟩
/-- what __init__ leaves of a fresh exception at x -/
structure MalEnd (h h' : Heap) (x C dx t1 : Addr) (m n : Value) : Prop where
  keep : ∀ b o, b ≠ x → h.get? b = some o → h'.get? b = some o
  obj : h'.get? x = some { cls := .ref C, dict := some dx, data := .fields #[.ref t1, .none, .none, .none, .bool false, .none] }
  dbig : h.objs.size ≤ dx
  dne : dx ≠ x
  ns : h'.Ns1 dx (fun y => if y = aN then some n else if y = mN then some m else none)
theorem ns_keep {h h' : Heap} {L : Addr} {m : Str → Option Value} (n : h.Ns L m) (k : ∀ o, h.get? L = some o → h'.get? L = some o) : h'.Ns L m := by
  obtain ⟨o, es, ep, e, r⟩ := n
  exact ⟨o, es, ep, k o e, r⟩
theorem ns1_keep {h h' : Heap} {L : Addr} {m : Str → Option Value} (n : h.Ns1 L m) (k : ∀ o, h.get? L = some o → h'.get? L = some o) : h'.Ns1 L m := by
  obtain ⟨o, es, ep, e, r⟩ := n
  exact ⟨o, es, ep, k o e, r⟩
section
variable {prog : Program} {w : World} {A : Around} {R : Result → Shared → Prop} {K : Frag} {mg mb : Str → Option Value} {C fI cc cda : Addr}
/-- f'..{a}..{b}', a a text, b an int: some text -/
theorem msg2 {E : Value → Shared → Prop} {env : Env} {h : Heap} {g : Array GenState} {d : Drawn} {tk : Nat} {os : OsState} {mm : Str → Option Value} {a b c1 c2 m : Str} {tm tn : Tok} {n : Int} {p1 p2 p3 p4 p5 p6 p7 : Pos} {j1 j2 : Nat} {Q : Value → Shared → Prop}
    (hns : h.Ns env.locals mm) (hk : env.scope.kind = .function) (ha : mm a = some (.str m tm)) (hb : mm b = some (.int n tn)) (la : env.kindOf a = some .local) (lb : env.kindOf b = some .local)
    (da : (a == ("__debug__" : Str)) = false) (db : (b == ("__debug__" : Str)) = false) (s1 : c1.length ≤ 1000) (s2 : c2.length ≤ 1000) (sm : m.length ≤ 1000) (hn : n.natAbs.log2 < 1920) (sn : (PySem.Str.ofString (toString n)).length ≤ 1000)
    (hQ : ∀ out t tk', Q (.str out t) ⟨h, g, d, tk', os⟩) :
    wpAny (model prog w) A (eval (.JoinedStr [.Constant (.str c1) j1 p1, .FormattedValue (.Name a p2) (-1) none p3, .Constant (.str c2) j2 p4, .FormattedValue (.Name b p5) (-1) none p6] p7) env) Q E ⟨h, g, d, tk, os⟩ := by
  have lin : ∀ {k : Nat}, k ≤ 4000 → k ≤ sizeLine := fun h => Nat.le_trans h (by decide)
  have le : ∀ x y : Str, (x ++ y).length = x.length + y.length := fun x y => by
    rw [TL.len_tl, TL.tl_append, List.length_append, ← TL.len_tl, ← TL.len_tl]
  have e0 : (Str.empty ++ c1).length = c1.length := by rw [le]; show 0 + c1.length = c1.length; omega
  refine wpAny_JoinedStr ?_
  show Joins _ _ _ [eval _ _, eval _ _, eval _ _, eval _ _] _ _ _
  refine Calls.Constant_str ⟨c1, _, rfl, by rw [e0]; exact lin (by omega), ?_⟩
  have last : ∀ (t : Tok) (tk' : Nat), Joins (model prog w) A E [eval (.Constant (.str c2) j2 p4) env, eval (.FormattedValue (.Name b p5) (-1) none p6) env] (Str.empty ++ c1 ++ m)
      (fun out s₁ => out.length ≤ sizeLine ∧ Q (.str out s₁.toks) { s₁ with toks := s₁.toks + 1 }) ⟨h, g, d, tk', os⟩ := fun t tk' => by
    refine Calls.Constant_str ⟨c2, _, rfl, by rw [le, le, e0]; exact lin (by omega), ?_⟩
    refine wpAny_FormattedValue_plain (ESX.ldL hns hb ?_ hk lb db)
    refine wpAny_formatField_int hn ⟨_, _, rfl, ?_, ?_, ?_⟩
    · rw [le, le, le, e0]; exact lin (by omega)
    · show ((Str.empty ++ c1 ++ m ++ c2 ++ PySem.Str.ofString (toString n)).length) ≤ sizeLine
      rw [le, le, le, e0]; exact lin (by omega)
    · exact hQ _ _ _
  refine wpAny_FormattedValue_plain (ESX.ldL hns ha ?_ hk la da)
  have sz : (Str.empty ++ c1 ++ m).length ≤ sizeLine := by rw [le, e0]; exact lin (by omega)
  exact wpAny_formatField_str ⟨m, _, rfl, sz, last tm _⟩ ⟨m, _, rfl, sz, last tm _⟩ (lin (by omega))
theorem mal_init (T : MalTxt prog K mg C fI cc cda) {hp : Heap} {g : Array GenState} {d : Drawn} {tk : Nat} {os : OsState} {x t0 : Addr} {m : Str} {tm : Tok} {n : Int} {tn : Tok} (X : K.In hp) (hlim : hp.NoLimit) (hG : hp.Ns mainGlobals mg) (hB : hp.Ns builtinsNs mb)
    (hb : mb "super" = bootBuiltins "super") (hm : m.length ≤ 1000) (hn : n.natAbs.log2 < 1920) (hz : (PySem.Str.ofString (toString n)).length ≤ 1000) (hx : hp.get? x = some (excO C t0)) (hnx : K.lookup x = none) (hroom : A.depth < recursionLimit)
    (hq : ∀ h' tk' dx t1, MalEnd hp h' x C dx t1 (.str m tm) (.int n tn) → R (.ok (.ret .none)) ⟨h', g, d, tk', os⟩) :
    codeAny (model prog w) A (.call (.ref fI) ⟨[.ref x, .str m tm, .int n tn], []⟩) R ⟨hp, g, d, tk, os⟩ := by
  obtain ⟨oc, od, kV, doc, pm, an, ct, osl, ho⟩ := T.fn
  obtain ⟨nm, q, N, bs, bm, sn, sub, ab, col, dd, k0, k1, k2, k3, k5, hC, hbm⟩ := T.cls
  obtain ⟨cl, cld, csl, hcell⟩ := T.cell
  obtain ⟨ccl, cdd, vs, ccs, file, tf, hcode, hvs, hfile⟩ := T.code
  have hcl : clsIn K C = some { name := nm, bases := bs, mro := .ref C :: bm, ns := N, qualname := q, hasDict := true, slotNames := sn, subclasses := sub, abstract := ab, collection := col, hasDel := false } := by unfold clsIn; rw [hC] <;> rfl
  have hxL : hp.objs.size ≠ x := Nat.ne_of_gt (Heap.lt_size hx)
  refine ks_codeAny_call_defAt (binds := [("self", .ref x), ("module", .str m tm), ("at", .int n tn)]) hroom (X _ _ ho) rfl hlim (codeRec_of X T.cdi) rfl (BindsTo.of_eq (by first | rfl | with_unfolding_all rfl))
    (show ∀ y ∈ (L2.defScope sMalI).names, y.2 ≠ .cell by decide +kernel) (locs rfl) (fun h1 hns1 k1' => ?_) (by rfl) (by rfl) (by rfl)
  have X1 : K.In h1 := X.keeps k1'
  have hx1 := k1' _ _ hx
  show _root_.PySem.wpAt _ _ _ (execs _ _) _ _ _
  refine ks_wpAt_execs_cons (ks_wpAt_Expr_any (ks_wpAt_MethodCall ?_))
  refine ks_wpAt_super_base (by rfl) (by rfl) (by decide) rfl (X1 _ _ ho) rfl rfl rfl (X1 _ _ hcode) rfl hvs hfile T.top ?_
  refine ks_loadName_global rfl (by rfl) (Calls.loadGlobal_builtin (ns_keep hG fun o => k1' _ o) T.gS (ns_keep hB fun o => k1' _ o) (hb.trans (by first | boot_by_name | rfl | kernel_rfl)) ⟨rfl, ?_⟩)
  refine wpAny_loadName_free rfl (by rfl) rfl ⟨_, X1 _ _ hcell, rfl⟩ ?_
  refine wpAny_loadName_local rfl (by rfl) hns1 (v := .ref x) (by first | rfl | with_unfolding_all rfl | kernel_rfl) ?_
  have hC1 := X1 _ _ hC
  refine ks_wpAny_isType_cls hC1 rfl ⟨rfl, ?_⟩
  refine ks_wpAny_call_super hC1 rfl hx1 rfl (fun c e => by cases e) (looks_mroIn X1 T.mro) (fun h2 hso k2' => ?_)
  have X2 : K.In h2 := X1.keeps k2'
  have hx2 := k2' _ _ hx1
  have I2 : W.InstAt h2 x (excO C t0) C none := ⟨hx2, rfl, rfl, trivial⟩
  have hI2 : Looks (model prog w) h2 (isInstance (.ref x) (.type "ValueError")) true := I2.type.andThen (looks_subIn X2 T.exV)
  have hxC : x ≠ C := ks_ne X2 I2 hcl
  have hsup := T.sup
  unfold ks_superIn at hsup
  rw [hcl] at hsup
  refine kxs_getMethod kxs_ValueError hso (looks_opaque X2 T.opq) (l₀ := .ref C :: bm) (fun A Q E s k q => wpAny_bind ((looks_clsIn X2 hcl) A _ E s k (wpAny_pure q))) rfl X2 hsup hI2 hxC (by decide) ?_
  -- the call of the bound __init__
  have k3' : ∀ b o, h2.get? b = some o → (h2.push (kxs_mw "ValueError.__init__" x)).get? b = some o := fun b o e => Heap.get?_push_of_some _ e
  have hns3 := ns_keep hns1 fun o e => k3' _ _ (k2' _ _ e)
  have hu : (h2.push (kxs_mw "ValueError.__init__" x)).get? h2.objs.size = some (kxs_mw "ValueError.__init__" x) := Heap.get?_push_size _ rfl
  have hx3 := k3' _ _ hx2
  have X3 : K.In (h2.push (kxs_mw "ValueError.__init__" x)) := X2.keeps k3'
  have old3 : ∀ b o, hp.get? b = some o → (h2.push (kxs_mw "ValueError.__init__" x)).get? b = some o := fun b o e => k3' _ _ (k2' _ _ (k1' _ _ e))
  have big : hp.objs.size ≤ (h2.push (kxs_mw "ValueError.__init__" x)).objs.size := by
    have z1 := hns3.lt
    exact Nat.le_of_lt z1
  generalize h2.push (kxs_mw "ValueError.__init__" x) = h3 at hns3 hu hx3 X3 old3 big ⊢
  refine kxs_callWith (i := "ValueError.__init__") (x := x) (by rfl) ?_
  refine evalArgs_plain ?_
  refine Calls.spliced_cons (msg2 (p7 := ⟨7, 25, 7, 64⟩) hns3 rfl (by rfl) (by rfl) (by rfl) (by rfl) (by decide) (by decide) (by decide +kernel) (by decide +kernel) hm hn hz fun out t tk' => ?_)
  refine Calls.spliced_nil ⟨hu, ?_⟩
  show wpAny _ _ (call (.ref h2.objs.size) [.str out t]) _ _ _
  have hC3 := X3 _ _ hC
  refine wpAny_call (codeAny_of_tree ?_)
  show wpAny _ (Around.in1 _) (callAny (.ref h2.objs.size) ⟨[.str out t], []⟩) _ _ _
  simp only [callAny]
  refine wpAny_bind (wpAny_load hu ?_)
  simp only [kxs_mw, show (Value.type "method-wrapper" == Value.type "method" || Value.type "method-wrapper" == Value.type "builtin_function_or_method" || Value.type "method-wrapper" == Value.type "method-wrapper") = true by decide, if_true]
  refine KFB.if_so (by decide) ?_
  refine wpAny_bind (check_bound_init F.excBase_ValueError.toExcCallFacts hC3 hx3 rfl (wpAny_bind (wpAny_pure (wpAny_pure ?_))))
  refine ⟨plainId_quiet F.excBase_ValueError.init.plain _, codeAny_builtin F.excBase_ValueError.initEntry ?_⟩
  refine exc_init_tree (cls := .ref C) (t0 := t0) (dv := none) (c2 := .none) (c3 := .none) (b4 := .bool false) hx3 (by show 1 ≤ sizeLine; decide) fun h4 k4 hx4 _ => ?_
  -- self.module = module; self.at = at
  have X4 : K.In h4 := fun b o e => k4 b o (fun z => by rw [z, hnx] at e; cases e) (X3 b o e)
  have hns4 := ns_keep hns3 fun o e => k4 _ o hxL e
  show _root_.PySem.wpAt _ _ _ (execs _ _) _ _ _
  refine wpAt_of_wpAny (wpAny_execs_cons (plainObj_wpAny_Assign_Attribute ?_))
  refine ESX.ldL (v := .str m tm) hns4 (by rfl) (ESX.ldL (v := .ref x) hns4 (by rfl) ?_)
  refine set_plain X4 (ox := excO C h3.objs.size) (od := none) ⟨hx4, rfl, rfl, trivial⟩ T.sa ?_
  refine exc_osa X4 hx4 hcl (show refsVE (.ref C :: bm) = true from hbm) rfl T.nM (fun h5 tk5 dx k5' dn dne hx5 hn5 => ?_)
  show wpAny _ _ (execs _ _) _ _ _
  have X5 : K.In h5 := fun b o e => k5' b o (fun z => by rw [z, hnx] at e; cases e) (X4 b o e)
  have hns5 := ns_keep hns4 fun o e => k5' _ o hxL e
  refine wpAny_execs_cons (plainObj_wpAny_Assign_Attribute ?_)
  refine ESX.ldL (v := .int n tn) hns5 (by rfl) (ESX.ldL (v := .ref x) hns5 (by rfl) ?_)
  obtain ⟨oD, esD, epD, hoD, rD⟩ := id hn5
  have wi : PySem.Within (fun y => if y = mN then some (Value.str m tm) else none) [mN] := fun y hy => by
    by_cases c : y = mN
    · rw [c]
      exact List.mem_singleton.mpr rfl
    · exact absurd (if_neg c) hy
  refine set_plain X5 (ox := { cls := .ref C, dict := some dx, data := .fields #[.ref h3.objs.size, .none, .none, .none, .bool false, .none] }) (od := some oD) ⟨hx5, rfl, rfl, hoD⟩ T.sa ?_
  refine OEX.osa_old X5 hx5 hn5 wi (by decide) hcl (show refsVE (.ref C :: bm) = true from hbm) rfl T.nA (fun h6 tk6 k6' hn6 => ?_)
  show wpAny _ _ (execs _ _) _ _ _
  have s3 : hp.objs.size ≤ h4.objs.size := Nat.le_of_lt hns4.lt
  have dxb : hp.objs.size ≤ dx := Nat.le_trans s3 dn
  refine wpAny_execs_nil (hq h6 tk6 dx h3.objs.size ⟨fun b o hb e => ?_, k6' _ _ (Ne.symm dne) hx5, dxb, dne, hn6⟩)
  have nd : b ≠ dx := Nat.ne_of_lt (Nat.lt_of_lt_of_le (Heap.lt_size e) dxb)
  exact k6' b o nd (k5' b o hb (k4 b o hb (old3 b o e)))
/-- a made Malformed -/
structure MalMade (h h' : Heap) (e C d : Addr) (m n : Value) : Prop where
  keep : ∀ b o, h.get? b = some o → h'.get? b = some o
  new : h.objs.size ≤ e
  obj : ∃ oe vs, h'.get? e = some oe ∧ oe.cls = .ref C ∧ oe.dict = some d ∧ oe.data = .fields vs ∧ vs[1]? = some .none
  dbig : h.objs.size ≤ d
  dne : d ≠ e
  ns : h'.Ns1 d (fun y => if y = aN then some n else if y = mN then some m else none)
theorem mal_made (T : MalTxt prog K mg C fI cc cda) {hp : Heap} {g : Array GenState} {d : Drawn} {tk : Nat} {os : OsState} {m : Str} {tm : Tok} {n : Int} {tn : Tok} (X : K.In hp) (hlim : hp.NoLimit) (hG : hp.Ns mainGlobals mg) (hB : hp.Ns builtinsNs mb)
    (hb : mb "super" = bootBuiltins "super") (hm : m.length ≤ 1000) (hn : n.natAbs.log2 < 1920) (hz : (PySem.Str.ofString (toString n)).length ≤ 1000) (hroom : A.depth + 1 < recursionLimit)
    (hq : ∀ h' tk' e dx, MalMade hp h' e C dx (.str m tm) (.int n tn) → R (.ok (.ret (.ref e))) ⟨h', g, d, tk', os⟩) :
    codeAny (model prog w) A (.call (.ref C) ⟨[.str m tm, .int n tn], []⟩) R ⟨hp, g, d, tk, os⟩ := by
  obtain ⟨nm, q, N, bs, bm, sn, sub, ab, col, dd, k0, k1, k2, k3, k5, hC, hbm⟩ := T.cls
  have kk : ∀ b o, hp.get? b = some o → ((hp.push (kdv_tup [.str m tm, .int n tn])).push (excO C hp.objs.size)).get? b = some o := fun b o e => Heap.get?_push_of_some _ (Heap.get?_push_of_some _ e)
  have hget : ((hp.push (kdv_tup [.str m tm, .int n tn])).push (excO C hp.objs.size)).get? (hp.objs.size + 1) = some (excO C hp.objs.size) := by heap_get
  have hnx : K.lookup (hp.objs.size + 1) = none := by
    cases e : K.lookup (hp.objs.size + 1) with
    | none => rfl
    | some o => exact absurd (Nat.lt_of_succ_lt (Heap.lt_size (show hp.get? (hp.objs.size + 1) = some o from X _ _ e))) (Nat.lt_irrefl _)
  refine call_own F.excBase_ValueError (fun Y => refsVE_contains Y bm hbm) (X _ _ hC) (looks_findIn X T.iC) (fun self => bind_fn X self T.tC) (by show 2 ≤ sizeLine; decide) ?_
  refine mal_init (mb := mb) T (X.keeps kk) (hlim.keeps kk) (ns_keep hG fun o => kk _ o) (ns_keep hB fun o => kk _ o) hb hm hn hz hget hnx (by show A.depth + 1 < recursionLimit; exact hroom) fun h' tk' dx t1 ⟨k', hx, dn, dne, hns⟩ => ?_
  have old : ∀ b o, hp.get? b = some o → h'.get? b = some o := fun b o e => k' b o (Nat.ne_of_lt (Nat.lt_succ_of_lt (Heap.lt_size e))) (kk b o e)
  have z : hp.objs.size ≤ dx := by
    refine Nat.le_trans ?_ dn
    rw [Heap.size_push, Heap.size_push]
    omega
  exact ⟨rfl, hq h' tk' (hp.objs.size + 1) dx ⟨old, Nat.le_succ _, ⟨_, _, hx, rfl, rfl, rfl, rfl⟩, z, dne, hns⟩⟩
end
end Tk
namespace Tk
open PySem L2 Lx PyProof.Rows
def malF (m n : V) : List (Str × V) := [(aN, n), (mN, m)]
theorem malF_at (m n : V) : List.lookup aN (malF m n) = some n := by
  unfold malF
  simp [List.lookup]
theorem malF_mod (m n : V) : List.lookup mN (malF m n) = some m := by
  unfold malF
  have e : (mN == aN) = false := by decide +kernel
  simp [List.lookup, e]
theorem relO_mal {m n : V} {m' n' : Value} (rm : RelV m m') (rn : RelV n n') (f : Str) : RelO (List.lookup f (malF m n)) (if f = aN then some n' else if f = mN then some m' else none) := by
  have z0 : ∀ f, RelO (List.lookup f [(mN, m)]) (if f = mN then some m' else none) := relO_put (fs := []) (mA := fun _ => none) rm fun _ => True.intro
  exact relO_put rn z0 f
section
variable {X : Cx} {C fI cc cda : Addr}
/-- Malformed(module, at) -/
def tMkMal (C : Addr) (ta : TA) : L2.St → Hp → XK → Prop := fun σ H Q => ta σ H fun vs H1 => ∃ (m : Str) (n : Int), vs = [.str m, .int n] ∧ m.length ≤ 1000 ∧ n.natAbs.log2 < 1920 ∧ (PySem.Str.ofString (toString n)).length ≤ 1000 ∧
  ∀ d, H1 d = none → Q (.ref C) (some d) (upd H1 d (.xd (malF (.str m) (.int n))))
theorem pmk_mal {a b : Expr} {ta : TA} {p pos : Pos} {k : Nat} (T : MalTxt X.prog X.K X.mg C fI cc cda) (hr : Room k X.A) (ha : PA X [a, b] ta) (hg : Gl X "Malformed" := by rfl)
    (he : starEach (a :: [b]) X.env = (false, eval a X.env) :: starEach [b] X.env := by rfl) (hpl : (backTo pos (starEach [b] X.env)).any (·.1) = false := by rfl) :
    PMk X (.Call (.Name "Malformed" p) [a, b] [] pos) (tMkMal C ta) := by
  intro pins s σ H Q I h
  refine wpAny_Call_Name_kw (ld_glob I hg T.gC ?_)
  refine PySem.W.callWith_K (h₀ := X.base) I.ok.mod.kin T.kC (thn (ha.run pos pins s σ H _ I h) fun us s1 hh => ?_) he hpl
  obtain ⟨vs, H1, I1, r1, m, n, ev, hm, hn, hz, q1⟩ := hh
  subst ev
  refine ⟨I1.kIn, ?_⟩
  obtain ⟨u1, u2, eus, rm, rn⟩ : ∃ u1 u2, us = [u1, u2] ∧ RelV (V.str m) u1 ∧ RelV (V.int n) u2 := by
    cases r1 with
    | cons ra rr =>
      cases rr with
      | cons rb rc =>
        cases rc
        exact ⟨_, _, rfl, ra, rb⟩
  subst eus
  obtain ⟨tm, em⟩ := id rm
  obtain ⟨tn, en⟩ := id rn
  subst em
  subst en
  have hlim := I1.nolimit
  obtain ⟨mb, hB, hbb⟩ := I1.mod.blt
  have hG1 : s1.heap.Ns mainGlobals X.mg := I1.mod.glob.keeps I1.bk
  have hB1 : s1.heap.Ns builtinsNs mb := hB.keeps I1.bk
  have hK1 := I1.kIn
  obtain ⟨hp, g, dr, tk, os⟩ := s1
  refine wpAny_call (mal_made (mb := mb) T hK1 hlim hG1 hB1 (hbb _ (by decide)) hm hn hz (by have := hr.dp; omega) fun h' tk' e d M => ?_)
  show MkP X pins σ Q (.ref e) ⟨h', g, dr, tk', os⟩
  obtain ⟨oe, fv, hoe, hc, hd, hdat, h1⟩ := M.obj
  have hns := M.ns
  obtain ⟨G', g1, g2⟩ := restrict h' fun b => decide (b ≠ e)
  have gk : ∀ b, b ≠ e → G'.get? b = h'.get? b := fun b hb => g1 b (decide_eq_true hb)
  have ge : G'.get? e = none := g2 e (by simp)
  have old : ∀ b o, hp.get? b = some o → G'.get? b = some o := fun b o q => (gk b (Nat.ne_of_lt (Nat.lt_of_lt_of_le (Heap.lt_size q) M.new))).trans (M.keep b o q)
  have ob : ObjOk X.prog X.w (upd H1 d (.xd (malF (.str m) (.int n)))) G' d (.xd (malF (.str m) (.int n))) := ⟨_, hns.at (fun o q => (gk d M.dne).trans q), fun f => relO_mal rm rn f⟩
  have J : Inv X pins σ (upd H1 d (.xd (malF (.str m) (.int n)))) ⟨G', g, dr, tk', os⟩ := I1.laid (t' := tk') old M.dbig ob
  refine ⟨e, oe, fv, ⟨G', g, dr, tk', os⟩, _, .ref C, some d, rfl, J, fun b o q => ?_, ge, hoe, ⟨hc, hd⟩, hdat, h1, ?_, rfl, I1.bare, raises_own T.exC T.tyC, q1 d (I1.hok.fresh M.dbig)⟩
  · by_cases hb : b = e
    · have q' : G'.get? b = some o := q
      rw [hb, ge] at q'
      cases q'
    · exact (gk b hb).symm.trans q
  · rw [upd_ne (Ne.symm M.dne)]
    exact I1.hok.fresh M.new
/-- raise Malformed(module, at) -/
def tRaiseMal (C : Addr) (W : WX) (ta : TA) : TS := fun _ σ H => tMkMal C ta σ H fun cls d H' => W cls d σ H'
theorem ps_raiseMal {a b : Expr} {ta : TA} {W : WX} {p pos pos2 : Pos} {k : Nat} (hc : X.calm = true) (T : MalTxt X.prog X.K X.mg C fI cc cda) (hr : Room k X.A) (tk : Takes X W) (ha : PA X [a, b] ta) (hg : Gl X "Malformed" := by rfl)
    (he : starEach (a :: [b]) X.env = (false, eval a X.env) :: starEach [b] X.env := by rfl) (hpl : (backTo pos (starEach [b] X.env)).any (·.1) = false := by rfl) :
    PS X (.Raise (some (.Call (.Name "Malformed" p) [a, b] [] pos)) none pos2) (tRaiseMal C W ta) := ps_raise hc tk (pmk_mal T hr ha hg he hpl)
end
end Tk

set_option Elab.async false
set_option linter.all false
set_option maxRecDepth 100000
namespace Tk
open PySem L2 Lx
/-! ### a token takes some signs, all of them there -/
theorem tok_len {l : List Nat} {k : List Nat} {v : Tv} {n : Nat} (h : tok l = (some (k, v), n)) : 0 < n ∧ n ≤ l.length := by
  cases l with
  | nil => cases h
  | cons c r =>
    by_cases h1 : isL c = true
    · have e : (tok (c :: r)).2 = (wd (c :: r)).length := congrArg Prod.snd (if_pos h1)
      have e2 : wd (c :: r) = c :: wd r := List.takeWhile_cons_of_pos (L_W h1)
      have e3 := wd_len (c :: r)
      rw [h] at e
      have e4 : n = (wd (c :: r)).length := e
      rw [e2, List.length_cons] at e4 e3
      omega
    · by_cases h2 : isW c = true
      · have e : (tok (c :: r)).2 = (wd (c :: r)).length := congrArg Prod.snd ((if_neg h1).trans (if_pos h2))
        have e2 : wd (c :: r) = c :: wd r := List.takeWhile_cons_of_pos h2
        have e3 := wd_len (c :: r)
        rw [h] at e
        have e4 : n = (wd (c :: r)).length := e
        rw [e2, List.length_cons] at e4 e3
        omega
      · by_cases h3 : c = 34
        · have e0 : tok (c :: r) = if wd r = [] ∨ 20 < (wd r).length ∨ (r.drop (wd r).length).head? ≠ some 34 then (none, (wd r).length + 1) else (some (kS, .inl (wd r)), (wd r).length + 2) :=
            (if_neg h1).trans ((if_neg h2).trans (if_pos h3))
          rw [h] at e0
          split at e0
          · cases e0
          · rename_i hn
            have e1 : n = (wd r).length + 2 := congrArg Prod.snd e0
            have h5 : (r.drop (wd r).length).head? = some 34 := Classical.byContradiction fun z => hn (.inr (.inr z))
            have h6 : (wd r).length < r.length := by
              rcases Nat.lt_or_ge (wd r).length r.length with q | q
              · exact q
              · rw [List.drop_of_length_le q] at h5
                cases h5
            rw [List.length_cons]
            omega
        · have e0 : tok (c :: r) = sgnO (c :: r) := (if_neg h1).trans ((if_neg h2).trans (if_neg h3))
          rw [h] at e0
          unfold sgnO at e0
          cases hf : SGN.find? (fun s => s.isPrefixOf (c :: r)) with
          | none =>
            rw [hf] at e0
            cases e0
          | some s =>
            rw [hf] at e0
            have e1 : n = s.length := congrArg Prod.snd e0
            have hs := sgn_facts s (List.mem_of_find?_eq_some hf)
            have hp := List.find?_some hf
            have hp2 := List.IsPrefix.length_le (List.isPrefixOf_iff_prefix.mp hp)
            have := List.length_pos_iff.mpr hs.1
            omega
/-! ### the list of tokens -/
def tkV (t : Tk) : List V := [.str (tx t.k), tv t.v, .int (t.i : Int)]
inductive TkL (H : Hp) : List V → List Tk → Prop where
  | nil : TkL H [] []
  | cons {a : Addr} {rs : List V} {t : Tk} {ts : List Tk} (h : H a = some (.tup (tkV t))) (r : TkL H rs ts) : TkL H (.ref a :: rs) (t :: ts)
theorem TkL.len {H : Hp} {rs : List V} {ts : List Tk} (h : TkL H rs ts) : rs.length = ts.length := by
  induction h with
  | nil => rfl
  | cons h r ih => rw [List.length_cons, List.length_cons, ih]
theorem TkL.snoc {H : Hp} {rs : List V} {ts : List Tk} {a : Addr} {t : Tk} (h : TkL H rs ts) (ha : H a = some (.tup (tkV t))) : TkL H (rs ++ [.ref a]) (ts ++ [t]) := by
  induction h with
  | nil => exact .cons ha .nil
  | cons h r ih => exact .cons h ih
theorem TkL.keep {H H' : Hp} {rs : List V} {ts : List Tk} (h : TkL H rs ts) (k : ∀ a xs, H a = some (.tup xs) → H' a = some (.tup xs)) : TkL H' rs ts := by
  induction h with
  | nil => exact .nil
  | cons h r ih => exact .cons (k _ _ h) ih
theorem TkL.get {H : Hp} {rs : List V} {ts : List Tk} (h : TkL H rs ts) : ∀ {i : Nat} {r : V}, rs[i]? = some r → ∃ a t, r = .ref a ∧ ts[i]? = some t ∧ H a = some (.tup (tkV t)) := by
  induction h with
  | nil => intro i r e; simp at e
  | @cons a rs t ts h r ih =>
    intro i x e
    cases i with
    | zero =>
      cases e
      exact ⟨a, t, rfl, rfl, h⟩
    | succ i => exact ih (i := i) (by simpa using e)
theorem small_log {n : Nat} (h : n ≤ 20000) : (n : Int).natAbs.log2 < 1920 := by
  rw [Int.natAbs_natCast]
  by_cases h0 : n = 0
  · subst h0
    decide
  · have h1 : n.log2 < 15 := (Nat.log2_lt h0).mpr (by omega)
    omega
theorem small_txt {n : Nat} (h : n ≤ 20000) : (PySem.Str.ofString (toString (n : Int))).length ≤ 1000 :=
  Nat.le_trans (PyProof.Rows.toString_length_le (v := (n : Int)) (by omega) (k := 5) (by decide) (by omega)) (by decide)
/-- tokens(text, module) -/
def spToks (C : Addr) : Sp := fun vs H Q E => ∃ (z m : Str) (ts : List Tk) (b : Option Nat), vs = [.str z, .str m] ∧ z.length ≤ 20000 ∧ m.length ≤ 1000 ∧ Lex (gap false (TL.tl z)) ((TL.tl z).drop (gap false (TL.tl z))) ts b ∧
  (b = none → ∀ (H' : Hp) (p : Addr) (rs : List V), Same H H' → H p = none → H' p = some (.lst rs) → TkL H' rs ts → Q (.ref p) H') ∧
  ∀ i : Nat, b = some i → ∀ (H' : Hp) (d : Addr), Same H H' → H' d = some (.xd (malF (.str m) (.int (i : Int)))) → E (.ref C) (some d) H'
def nameB (l : List Nat) : Bool := match l with
  | [] => false
  | c :: r => isL c && (decide ((wd (c :: r)).length = (c :: r).length) && (decide ((c :: r).length ≤ 20) && !decide ((c :: r) ∈ RES)))
def spIsName : Sp := fun vs H Q _ => ∃ v, vs = [v] ∧ ((∃ z : Str, v = .str z ∧ z.length ≤ 20000 ∧ Q (.bl (nameB (TL.tl z))) H) ∨ ∃ i : Int, v = .int i ∧ Q (.bl false) H)
section
variable {P : Program} {w : World} {K : PySem.W.Frag} {mg : Str → Option Value} {base : Heap}
theorem scToks : FnScope ["text", "module", "found", "at", "token", "end"] ["text", "module"] (defScope sTokens) := ⟨rfl, rfl, rfl, by decide +kernel, rfl, by decide +kernel, by decide +kernel⟩
theorem ok_toks {f fG fT C fI cc cda : Addr} {fd fdG fdT : FuncData} (F : Fun K "tokens" "tokens" sTokens f fd) (T : Txt K mg) (M : MalTxt P K mg C fI cc cda)
    (GG : FnOk P w K mg base CX0 2 fG fdG ["text", "at"] spGap) (kG' : PySem.W.keepIn K (.ref fG) = true) (bG : Binds K fdG ["text", "at"] []) (gG : mg "gap_end" = some (.ref fG))
    (GT : FnOk P w K mg base CX0 3 fT fdT ["text", "at"] spTokAt) (kT' : PySem.W.keepIn K (.ref fT) = true) (bT : Binds K fdT ["text", "at"] []) (gT : mg "token_at" = some (.ref fT)) :
    FnOk P w K mg base (L2.CX P w) 4 f fd ["text", "module"] (spToks C) := by
  refine F.okX scToks (fun vs H Q E h => ?_) (fun cdv A outer s H vs Q E hr h => ?_)
  · obtain ⟨z, m, ts, b, rfl, _⟩ := h
    rfl
  · obtain ⟨z, m, ts, b, rfl, hz, hm, hL, kQ, kE⟩ := h
    obtain ⟨tM, mM⟩ := T.most
    have hr2 : Room 2 _ := hr.mono (by decide)
    have hlen : z.length = (TL.tl z).length := TL.len_tl z
    refine ⟨_, pss_cons (ps_if (pt_cmpR op_gt (pe_callB call_len_str (by rfl) T.len PySem.boot_len (pa_cons (pv 0) pa_nil)) (pe_glob (v := .int 20000) rfl mM ⟨_, rfl⟩) (nomark _)) (pss_one ps_never) pss_nil)
      (pss_cons (ps_set (i := 2) scToks.nd rfl (.inl rfl) (pe_lst pa_nil))
      (pss_cons (ps_set (i := 3) scToks.nd rfl (.inl rfl) (pe_call GG hr2 rfl gG kG' bG .nil pass0 (pa_cons (pv 0) (pa_cons pe_int pa_nil))))
      (pss_cons (ps_while (passes_of rfl) (pt_cmpR op_lt (pv 3) (pe_callB call_len_str (by rfl) T.len PySem.boot_len (pa_cons (pv 0) pa_nil)) (nomark _))
        (pss_cons (ps_asg (pe_call GT hr rfl gT kT' bT .nil pass0 (pa_cons (pv 0) (pa_cons (pv 3) pa_nil))) (pg_tup rfl (pgs_cons (pg_name (i := 4) scToks.nd rfl (.inl rfl)) (pgs_cons (pg_name (i := 5) scToks.nd rfl (.inl rfl)) pgs_nil))))
        (pss_cons (ps_if (pt_cmpR op_isN (pv 4) pe_non (nomark _)) (pss_one (ps_raiseMal rfl M hr (takes_of rfl rfl rfl rfl) (pa_cons (pv 1) (pa_cons (pv 3) pa_nil)))) pss_nil)
        (pss_cons (ps_expr (pe_bm PySem.F.plainAttrs_list PySem.F.slot_list_append PySem.F.type_list_append mt_append (pv 2) (pa_cons (pv 4) pa_nil)))
        (pss_one (ps_set (i := 3) scToks.nd rfl (.inl rfl) (pe_call GG hr2 rfl gG kG' bG .nil pass0 (pa_cons (pv 0) (pa_cons (pv 5) pa_nil)))))))))
      (pss_one (ps_ret (pv 2)))))), ?_⟩
    -- the length; found = []; at = gap_end(text, 0)
    refine ⟨_, rfl, z, rfl, line20 hz, _, _, rfl, rfl, _, rfl, ifF (decide_eq_false (by omega)) ?_⟩
    refine ⟨Nat.zero_le _, fun D hD => ?_⟩
    refine ⟨_, rfl, z, 0, rfl, Nat.zero_le _, hz, ?_⟩
    rw [List.drop_zero, Nat.zero_add]
    have hg0 := gap_le false (TL.tl z)
    let W : Nat → St → Hp → Prop := fun x σ H' => ∃ (j : Nat) (dn rest : List Tk) (v1 v2 : Option V) (rs : List V), Same H H' ∧ H' D = some (.lst rs) ∧ TkL H' rs dn ∧
      σ = [some (.str z), some (.str m), some (.ref D), some (.int (j : Int)), v1, v2] ∧ j ≤ z.length ∧ Lex j ((TL.tl z).drop j) rest b ∧ ts = dn ++ rest ∧ x = rest.length ∧ dn.length ≤ j
    refine ⟨W, ⟨_, gap false (TL.tl z), [], ts, none, none, [], fun c o e => ?_, upd_same, .nil, rfl, by omega, hL, rfl, rfl, Nat.zero_le _⟩, ?_⟩
    · rw [upd_ne (ne_of_none e hD)]
      exact e
    rintro x σ H' ⟨j, dn, rest, v1, v2, rs, hS, hF, hT, rfl, hj, hX, hts, rfl, hdn⟩
    refine ⟨_, rfl, _, rfl, z, rfl, line20 hz, _, _, rfl, rfl, _, rfl, ?_⟩
    by_cases hlt : j < z.length
    · refine ifT (decide_eq_true (by omega)) ?_
      have hne : (TL.tl z).drop j ≠ [] := by
        obtain ⟨c, _, hd⟩ := drop_cons (l := TL.tl z) (n := j) (by omega)
        rw [hd]
        simp
      refine ⟨fun σ' H' => ∃ m', m' < rest.length ∧ W m' σ' H', fun _ _ h => h, ?_⟩
      refine ⟨_, rfl, _, rfl, z, j, rfl, hlt, hz, ?_, ?_⟩
      · -- no token: raised
        intro ho y p hp
        refine ⟨p, _, rfl, SqT.of upd_same, rfl, _, _, rfl, _, _, rfl, rfl, ?_⟩
        refine ⟨_, rfl, rfl, _, rfl, ifT (decide_eq_true rfl) ?_⟩
        refine ⟨_, rfl, _, rfl, m, (j : Int), rfl, hm, small_log (by omega), small_txt (by omega), fun d hd => ?_⟩
        have hb : b = some j := by
          generalize hl : (TL.tl z).drop j = l at hX ho hne
          cases hX with
          | done => exact absurd rfl hne
          | bad h0 h => rfl
          | more h0 h hg r =>
            rw [h] at ho
            cases ho
        refine kE j hb _ d (fun c o e => ?_) upd_same
        have e1 := hS c o e
        rw [upd_ne (ne_of_none (by rw [upd_ne (ne_of_none e1 hp)]; exact e1) hd), upd_ne (ne_of_none e1 hp)]
        exact e1
      · -- a token more
        intro k v ho q p hq hp
        obtain ⟨n, g, tl', hr', hrest, htok, hg, hX'⟩ : ∃ n g tl', True ∧ rest = ⟨k, v, j⟩ :: tl' ∧ tok ((TL.tl z).drop j) = (some (k, v), n) ∧ gap false (((TL.tl z).drop j).drop n) = g ∧ Lex (j + n + g) (((TL.tl z).drop j).drop (n + g)) tl' b := by
          generalize hl : (TL.tl z).drop j = l at hX ho hne
          cases hX with
          | done => exact absurd rfl hne
          | bad h0 h =>
            rw [h] at ho
            cases ho
          | @more _ n g _ k' v' tl' _ h0 h hg r =>
            rw [h] at ho
            have e : (k', v') = (k, v) := Option.some.inj ho
            cases e
            exact ⟨n, g, tl', trivial, rfl, h, hg, r⟩
        obtain ⟨n1, n2⟩ := tok_len htok
        rw [List.length_drop] at n2
        have e2 : (tok ((TL.tl z).drop j)).2 = n := by rw [htok]
        rw [e2]
        have eq : upd (upd H' q (.tup [.str (tx k), tv v, .int (j : Int)])) p (.tup [.ref q, .int ((j + n : Nat) : Int)]) q = some (.tup (tkV ⟨k, v, j⟩)) := by
          have nqp : q ≠ p := fun z => by
            rw [← z, upd_same] at hp
            cases hp
          rw [upd_ne nqp, upd_same]
          rfl
        have pn : H' p = none := by
          by_cases c : p = q
          · rw [c, upd_same] at hp
            cases hp
          · rw [upd_ne c] at hp
            exact hp
        have keep : ∀ c o, H' c = some o → upd (upd H' q (.tup [.str (tx k), tv v, .int (j : Int)])) p (.tup [.ref q, .int ((j + n : Nat) : Int)]) c = some o := fun c o e => by
          rw [upd_ne (ne_of_none e pn), upd_ne (ne_of_none e hq)]
          exact e
        refine ⟨p, _, rfl, SqT.of upd_same, rfl, _, _, rfl, _, _, rfl, rfl, ?_⟩
        refine ⟨_, rfl, rfl, _, rfl, ifF (decide_eq_false (by simp)) ?_⟩
        have hD2 := keep D _ hF
        have hlrs := hT.len
        refine ⟨_, rfl, .inl ⟨rfl, _, SqL.of hD2⟩, _, rfl, D, _, _, rfl, rfl, hD2, Nat.lt_of_le_of_lt (show rs.length ≤ 20000 by omega) (by decide), ?_⟩
        have hgl := gap_le false (((TL.tl z).drop j).drop n)
        rw [hg, List.drop_drop, List.length_drop] at hgl
        refine ⟨_, rfl, _, rfl, z, j + n, rfl, by omega, hz, ?_⟩
        have e3 : gap false ((TL.tl z).drop (j + n)) = g := by
          rw [← hg, List.drop_drop]
        rw [e3]
        have e4 : ((TL.tl z).drop j).drop (n + g) = (TL.tl z).drop (j + n + g) := by rw [List.drop_drop, Nat.add_assoc]
        rw [e4] at hX'
        have tupD : ∀ {a : Addr} {xs : List V}, H' a = some (.tup xs) → a ≠ D := fun {a xs} e z => by
          rw [z, hF] at e
          cases e
        refine ⟨tl'.length, by rw [hrest]; simp, j + n + g, dn ++ [⟨k, v, j⟩], tl', _, _, _, fun c o e => ?_, upd_same, ?_, rfl, by omega, hX', by rw [hts, hrest]; simp, rfl, by rw [List.length_append, List.length_singleton]; omega⟩
        · have nD : c ≠ D := ne_of_none e hD
          rw [upd_ne nD]
          exact keep c o (hS c o e)
        · refine TkL.snoc (hT.keep fun a xs e => ?_) ?_
          · rw [upd_ne (tupD e)]
            exact keep a _ e
          · have nqD : q ≠ D := fun z => by
              rw [z, hF] at hq
              cases hq
            rw [upd_ne nqD]
            exact eq
    · refine ifF (decide_eq_false (by omega)) ?_
      rw [List.drop_of_length_le (by omega)] at hX
      have e : rest = [] ∧ b = none := by
        cases hX with
        | done => exact ⟨rfl, rfl⟩
        | bad h0 h => exact absurd rfl h0
        | more h0 h hg r => exact absurd rfl h0
      obtain ⟨e1, e2⟩ := e
      rw [e1, List.append_nil] at hts
      refine ⟨_, rfl, kQ e2 H' D rs hS hD hF ?_⟩
      rw [hts]
      exact hT
end
end Tk

set_option Elab.async false
set_option linter.all false
set_option maxRecDepth 100000
namespace Tk
open PySem L2 Lx
/-! ### words as codes -/
def cd (s : String) : List Nat := s.toList.map Char.toNat
theorem ofS (s : String) : PySem.Str.ofString s = tx (cd s) := TL.ext_tl (TL.tl_ofString s)
/-- what a token is called -/
def keyOf (t : Tk) : List Nat := if t.k = kW ∨ t.k = kG then (match t.v with | .inl w => w | .inr _ => t.k) else t.k
def key (l : List Tk) : List Nat := match l with
  | [] => cd "end"
  | t :: _ => keyOf t
def place (e : Nat) (l : List Tk) : Nat := match l with
  | [] => e
  | t :: _ => t.i
/-- the value of a word or a sign is a text -/
def WF (t : Tk) : Prop := (t.k = kW ∨ t.k = kG) → ∃ w, t.v = .inl w
def hdV (e : Nat) (l : List Tk) : List V := match l with
  | [] => [.str (tx (cd "end")), .non, .int (e : Int)]
  | t :: _ => tkV t
/-! ### data that never changes -/
mutual
inductive Tp (K : PySem.W.Frag) (H : Hp) : V → PyData → Prop
  | non : Tp K H .non .none
  | bl (b : Bool) : Tp K H (.bl b) (.bool b)
  | int (i : Int) : Tp K H (.int i) (.int i)
  | str (x : Str) : Tp K H (.str x) (.str x)
  | tup {a : Addr} {xs : List V} {ds : List PyData} : SqT K H a xs → TpAll K H xs ds → Tp K H (.ref a) (.tuple ds)
inductive TpAll (K : PySem.W.Frag) (H : Hp) : List V → List PyData → Prop
  | nil : TpAll K H [] []
  | cons {v : V} {vs : List V} {d : PyData} {ds : List PyData} : Tp K H v d → TpAll K H vs ds → TpAll K H (v :: vs) (d :: ds)
end
theorem same_new' {H : Hp} {l : Addr} {o : HO} (h : H l = none) : Same H (upd H l o) := fun c u e => by
  rw [upd_ne (ne_of_none e h)]
  exact e
theorem _root_.L2.Same.sqt {K : PySem.W.Frag} {H H' : Hp} {a : Addr} {xs : List V} (e : L2.Same H H') (h : SqT K H a xs) : SqT K H' a xs := by
  rcases h with (h | ⟨o, h⟩) | h
  · exact .inl (.inl (e _ _ h))
  · exact .inl (.inr ⟨o, e _ _ h⟩)
  · exact .inr h
section
variable {K : PySem.W.Frag} {H H' : Hp}
mutual
theorem Tp.keep (k : ∀ a xs, SqT K H a xs → SqT K H' a xs) : ∀ (d : PyData) (v : V), Tp K H v d → Tp K H' v d
  | .none, _, .non => .non
  | .bool _, _, .bl b => .bl b
  | .int _, _, .int i => .int i
  | .str _, _, .str x => .str x
  | .tuple ds, _, .tup h r => .tup (k _ _ h) (TpAll.keep k ds _ r)
  | .list _, _, h => by cases h
  | .dict _, _, h => by cases h
theorem TpAll.keep (k : ∀ a xs, SqT K H a xs → SqT K H' a xs) : ∀ (ds : List PyData) (vs : List V), TpAll K H vs ds → TpAll K H' vs ds
  | [], _, .nil => .nil
  | d :: ds, _, .cons h r => .cons (Tp.keep k d _ h) (TpAll.keep k ds _ r)
end
mutual
theorem Tp.dp : ∀ (d : PyData) (v : V), Tp K H v d → Dp K H v d
  | .none, _, .non => .non
  | .bool _, _, .bl b => .bl b
  | .int _, _, .int i => .int i
  | .str _, _, .str x => .str x
  | .tuple ds, _, .tup h r => .tup h (TpAll.dp ds _ r)
  | .list _, _, h => by cases h
  | .dict _, _, h => by cases h
theorem TpAll.dp : ∀ (ds : List PyData) (vs : List V), TpAll K H vs ds → DpAll K H vs ds
  | [], _, .nil => .nil
  | d :: ds, _, .cons h r => .cons (Tp.dp d _ h) (TpAll.dp ds _ r)
end
theorem TpAll.snoc {vs : List V} {ds : List PyData} {v : V} {d : PyData} (h : Tp K H v d) : ∀ {vs : List V} {ds : List PyData}, TpAll K H vs ds → TpAll K H (vs ++ [v]) (ds ++ [d])
  | _, _, .nil => .cons h .nil
  | _, _, .cons a r => .cons a (TpAll.snoc (vs := vs) (ds := ds) h r)
theorem TpAll.len : ∀ {vs : List V} {ds : List PyData}, TpAll K H vs ds → vs.length = ds.length
  | _, _, .nil => rfl
  | _, _, .cons a r => by rw [List.length_cons, List.length_cons, TpAll.len r]
end
/-! ### the cursor -/
theorem f12 : ¬ (("module" : Str) = "functions") := by decide +kernel
theorem f13 : ¬ (("module" : Str) = "_tokens") := by decide +kernel
theorem f14 : ¬ (("module" : Str) = "_done") := by decide +kernel
theorem f23 : ¬ (("functions" : Str) = "_tokens") := by decide +kernel
theorem f24 : ¬ (("functions" : Str) = "_done") := by decide +kernel
theorem f34 : ¬ (("_tokens" : Str) = "_done") := by decide +kernel
/-- its attributes, in the order in which __init__ stores them -/
def cf (m : Str) (n : Int) (L : Addr) (i : Int) : List (Str × V) := putF "_done" (.int i) (putF "_tokens" (.ref L) (putF "functions" (.int n) (putF "module" (.str m) [])))
theorem cf_eq (m : Str) (n : Int) (L : Addr) (i : Int) : cf m n L i = ([("module", V.str m), ("functions", V.int n), ("_tokens", V.ref L), ("_done", V.int i)] : List (Str × V)) := by
  unfold cf
  simp only [putF, if_neg f12, if_neg f13, if_neg f14, if_neg f23, if_neg f24, if_neg f34]
theorem cf_done (m : Str) (n : Int) (L : Addr) (i : Int) : (cf m n L i).lookup ("_done" : Str) = some (.int i) := by
  unfold cf
  rw [lookup_putF, if_pos rfl]
theorem cf_toks (m : Str) (n : Int) (L : Addr) (i : Int) : (cf m n L i).lookup ("_tokens" : Str) = some (.ref L) := by
  unfold cf
  rw [lookup_putF, if_neg f34, lookup_putF, if_pos rfl]
theorem cf_fun (m : Str) (n : Int) (L : Addr) (i : Int) : (cf m n L i).lookup ("functions" : Str) = some (.int n) := by
  unfold cf
  rw [lookup_putF, if_neg f24, lookup_putF, if_neg f23, lookup_putF, if_pos rfl]
theorem cf_no (m : Str) (n : Int) (L : Addr) (i : Int) {x : Str} (h1 : ¬ x = "module") (h2 : ¬ x = "functions") (h3 : ¬ x = "_tokens") (h4 : ¬ x = "_done") : (cf m n L i).lookup x = none := by
  unfold cf
  rw [lookup_putF, if_neg h4, lookup_putF, if_neg h3, lookup_putF, if_neg h2, lookup_putF, if_neg h1]
  rfl
theorem cf_put (m : Str) (n : Int) (L : Addr) (i j : Int) : putF "_done" (.int j) (cf m n L i) = cf m n L j := by
  rw [cf_eq, cf_eq]
  simp only [putF, if_neg f14, if_neg f24, if_neg f34, if_true]
/-- what the class is, as the top has made it -/
structure CurC (K : PySem.W.Frag) (CC : Addr) : Prop where
  cl : Cls K CC
  nM : NoAttr K CC "module"
  nF : NoAttr K CC "functions"
  nT : NoAttr K CC "_tokens"
  nD : NoAttr K CC "_done"
/-- the list of tokens, the end behind them -/
inductive EndL (H : Hp) (e : Nat) : List V → List Tk → Prop where
  | last {b : Addr} (h : H b = some (.tup (hdV e []))) : EndL H e [.ref b] []
  | cons {a : Addr} {rs : List V} {t : Tk} {ts : List Tk} (h : H a = some (.tup (tkV t))) (r : EndL H e rs ts) : EndL H e (.ref a :: rs) (t :: ts)
theorem EndL.get {H : Hp} {e : Nat} {rs : List V} {ts : List Tk} (h : EndL H e rs ts) : ∀ {i : Nat}, i ≤ ts.length → ∃ a, rs[i]? = some (.ref a) ∧ H a = some (.tup (hdV e (ts.drop i))) := by
  induction h with
  | @last b h =>
    intro i hi
    have hi' : i = 0 := by simpa using hi
    subst hi'
    exact ⟨b, rfl, h⟩
  | @cons a rs t ts h r ih =>
    intro i hi
    cases i with
    | zero => exact ⟨a, rfl, h⟩
    | succ i => exact ih (i := i) (by simpa using hi)
theorem EndL.keep {H H' : Hp} {e : Nat} {rs : List V} {ts : List Tk} (h : EndL H e rs ts) (k : ∀ a xs, H a = some (.tup xs) → H' a = some (.tup xs)) : EndL H' e rs ts := by
  induction h with
  | last h => exact .last (k _ _ h)
  | cons h r ih => exact .cons (k _ _ h) ih
theorem EndL.of {H : Hp} {e : Nat} {b : Addr} (hb : H b = some (.tup (hdV e []))) : ∀ {rs : List V} {ts : List Tk}, TkL H rs ts → EndL H e (rs ++ [.ref b]) ts
  | _, _, .nil => .last hb
  | _, _, .cons h r => .cons h (EndL.of hb r)
/-- the cursor at c stands ahead of l: its module m, all its tokens ts, the text's length e, n functions around -/
structure CurAt (CC : Addr) (H : Hp) (c : Addr) (m : Str) (ts : List Tk) (e : Nat) (n : Int) (l : List Tk) : Prop where
  ex : ∃ (dx L : Addr) (rs : List V) (i : Nat), H c = some (.ins CC dx (cf m n L (i : Int))) ∧ H L = some (.lst rs) ∧ EndL H e rs ts ∧ i ≤ ts.length ∧ l = ts.drop i
  wf : ∀ t ∈ ts, WF t
  len : ts.length ≤ 20000
/-- all but the cursor itself is as it was -/
structure KB (c : Addr) (H H' : Hp) : Prop where
  same : ∀ b o, H b = some o → b ≠ c → H' b = some o
  cur : ∀ C dx m n M i, H c = some (.ins C dx (cf m n M i)) → ∃ n' i', H' c = some (.ins C dx (cf m n' M i'))
instance {c : Addr} {H H' : Hp} : CoeFun (KB c H H') (fun _ => ∀ b o, H b = some o → b ≠ c → H' b = some o) := ⟨KB.same⟩
theorem KB.of {c : Addr} {H H' : Hp} (h : Same H H') : KB c H H' := ⟨fun b o e _ => h b o e, fun _ _ _ n _ i e => ⟨n, i, h _ _ e⟩⟩
theorem KB.trans {c : Addr} {H H1 H2 : Hp} (a : KB c H H1) (b : KB c H1 H2) : KB c H H2 := ⟨fun x o e n => b x o (a x o e n) n, fun C dx m n M i e => by
  obtain ⟨n1, i1, e1⟩ := a.cur _ _ _ _ _ _ e
  exact b.cur _ _ _ _ _ _ e1⟩
theorem cf_inj {m m' : Str} {n n' i i' : Int} {L L' : Addr} (h : cf m n L i = cf m' n' L' i') : m = m' ∧ n = n' ∧ L = L' ∧ i = i' := by
  rw [cf_eq, cf_eq] at h
  simp only [List.cons.injEq, Prod.mk.injEq, true_and, and_true, V.str.injEq, V.int.injEq, V.ref.injEq] at h
  exact h
theorem ins_inj {H : Hp} {c C C' dx dx' : Addr} {m m' : Str} {n n' i i' : Int} {L L' : Addr} (h : H c = some (.ins C dx (cf m n L i))) (h' : H c = some (.ins C' dx' (cf m' n' L' i'))) : C' = C ∧ dx' = dx ∧ m' = m ∧ L' = L := by
  rw [h] at h'
  have h2 := Option.some.inj h'
  injection h2 with h3 h4 h5
  obtain ⟨a, _, b, _⟩ := cf_inj h5
  exact ⟨h3.symm, h4.symm, a.symm, b.symm⟩
theorem CurAt.at {CC : Addr} {H : Hp} {c : Addr} {m : Str} {ts : List Tk} {e : Nat} {n : Int} {l : List Tk} (C : CurAt CC H c m ts e n l) : ∃ dx fs, H c = some (.ins CC dx fs) := by
  obtain ⟨dx, L, rs, i, h, _⟩ := C.ex
  exact ⟨dx, _, h⟩
theorem CurAt.same {CC : Addr} {H H' : Hp} {c : Addr} {m : Str} {ts : List Tk} {e : Nat} {n : Int} {l : List Tk} (C : CurAt CC H c m ts e n l) (h : Same H H') : CurAt CC H' c m ts e n l := by
  obtain ⟨dx, L, rs, i, h1, h2, h3, h4, h5⟩ := C.ex
  exact ⟨⟨dx, L, rs, i, h _ _ h1, h _ _ h2, h3.keep (fun a xs z => h _ _ z), h4, h5⟩, C.wf, C.len⟩
theorem KB.sqt {K : PySem.W.Frag} {CC : Addr} {H H' : Hp} {c dx : Addr} {fs : List (Str × V)} (k : KB c H H') (hc : H c = some (.ins CC dx fs)) {a : Addr} {xs : List V} (h : SqT K H a xs) : SqT K H' a xs := by
  have ne : ∀ {b : Addr} {o : HO}, H b = some o → (∀ C d f, o ≠ .ins C d f) → b ≠ c := fun {b o} e q z => by
    rw [z, hc] at e
    exact q _ _ _ (Option.some.inj e).symm
  rcases h with (h | ⟨o, h⟩) | h
  · exact .inl (.inl (k _ _ h (ne h fun _ _ _ z => by cases z)))
  · exact .inl (.inr ⟨o, k _ _ h (ne h fun _ _ _ z => by cases z)⟩)
  · exact .inr h
theorem KB.tp {K : PySem.W.Frag} {CC : Addr} {H H' : Hp} {c : Addr} {m : Str} {ts : List Tk} {e : Nat} {n : Int} {l : List Tk} (k : KB c H H') (C : CurAt CC H c m ts e n l) {v : V} {d : PyData} (h : Tp K H v d) : Tp K H' v d := by
  obtain ⟨dx, fs, hc⟩ := C.at
  exact Tp.keep (fun a xs z => k.sqt hc z) d v h
theorem Tp.same {K : PySem.W.Frag} {H H' : Hp} (s : Same H H') {v : V} {d : PyData} (h : Tp K H v d) : Tp K H' v d := Tp.keep (fun a xs z => s.sqt z) d v h
abbrev cMeth (j : Nat) : Stmt := inClass (top 24) j
abbrev sTKey : Stmt := top 25
/-! ### the methods' promises -/
def spTKey (K : PySem.W.Frag) : Sp := fun vs H Q _ => ∃ (a : Addr) (e : Nat) (l : List Tk), vs = [.ref a] ∧ SqT K H a (hdV e l) ∧ (∀ t ∈ l, WF t) ∧ ∀ H', Same H H' → Q (.str (tx (key l))) H'
def spKey (CC : Addr) : Sp := fun vs H Q _ => ∃ (c : Addr) (m : Str) (ts : List Tk) (e : Nat) (n : Int) (l : List Tk), vs = [.ref c] ∧ CurAt CC H c m ts e n l ∧ ∀ H', Same H H' → Q (.str (tx (key l))) H'
def spPlace (CC : Addr) : Sp := fun vs H Q _ => ∃ (c : Addr) (m : Str) (ts : List Tk) (e : Nat) (n : Int) (l : List Tk), vs = [.ref c] ∧ CurAt CC H c m ts e n l ∧ Q (.int (place e l : Int)) H
def spExpect (CC : Addr) : Sp := fun vs H Q _ => ∃ (c : Addr) (m : Str) (ts : List Tk) (e : Nat) (n : Int) (t : Tk) (r : List Tk), vs = [.ref c, .str (tx (keyOf t))] ∧ CurAt CC H c m ts e n (t :: r) ∧ ∀ H', KB c H H' → CurAt CC H' c m ts e n r → Q (tv t.v) H'
def spTakes (CC : Addr) : Sp := fun vs H Q _ => ∃ (c : Addr) (m : Str) (ts : List Tk) (e : Nat) (n : Int) (l : List Tk) (k : List Nat), vs = [.ref c, .str (tx k)] ∧ CurAt CC H c m ts e n l ∧ k ≠ cd "end" ∧
  (∀ t r, l = t :: r → keyOf t = k → ∀ H', KB c H H' → CurAt CC H' c m ts e n r → Q (.bl true) H') ∧ (key l ≠ k → ∀ H', KB c H H' → CurAt CC H' c m ts e n l → Q (.bl false) H')
section
variable {P : Program} {w : World} {K : PySem.W.Frag} {mg : Str → Option Value} {base : Heap}
theorem scTKey : FnScope ["token"] ["token"] (defScope sTKey) := ⟨rfl, rfl, rfl, by decide +kernel, rfl, by decide +kernel, by decide +kernel⟩
theorem hdV_0 (e : Nat) (l : List Tk) : ∃ k, (hdV e l)[0]? = some (.str (tx k)) ∧ ((k ∈ [kW, kG]) → ∃ t r, l = t :: r ∧ t.k = k) ∧ (¬ (k ∈ [kW, kG]) → key l = k) := by
  cases l with
  | nil => exact ⟨cd "end", rfl, fun h => absurd h (by decide +kernel), fun _ => rfl⟩
  | cons t r =>
    refine ⟨t.k, rfl, fun _ => ⟨t, r, rfl, rfl⟩, fun h => ?_⟩
    have h' : ¬ (t.k = kW ∨ t.k = kG) := fun z => h (by rcases z with z | z <;> simp [z])
    exact if_neg h'
theorem ok_tkey {f : Addr} {fd : FuncData} (F : Fun K "token_key" "token_key" sTKey f fd) : FnOk P w K mg base CX0 1 f fd ["token"] (spTKey K) := by
  refine F.ok scTKey (fun vs H Q E h => ?_) (fun cdv A outer s H vs Q E hr h => ?_)
  · obtain ⟨a, e, l, rfl, _⟩ := h
    rfl
  · obtain ⟨a, e, l, rfl, hS, hw, q⟩ := h
    refine ⟨_, pss_cons (ps_if (pt_cmpR op_in_seq (pe_ix ix_tup (pv 0) pe_int (fun _ _ => rfl)) (pe_tup (pa_cons pe_str (pa_cons pe_str pa_nil))) (by rfl)) (pss_one (ps_ret (pe_ix ix_tup (pv 0) pe_int (fun _ _ => rfl)))) pss_nil)
      (pss_one (ps_ret (pe_ix ix_tup (pv 0) pe_int (fun _ _ => rfl)))), ?_⟩
    obtain ⟨k, h0, hin, hout⟩ := hdV_0 e l
    refine ⟨_, rfl, a, _, _, _, rfl, rfl, hS, atI_nat h0, (by show 2 ≤ sizeLine; decide), fun p hp => ⟨p, _, rfl, .inr (SqT.of upd_same), rfl, rfl, _, rfl, ?_⟩⟩
    have s1 := same_new' (o := .tup [.str (PySem.Str.ofString "word"), .str (PySem.Str.ofString "sign")]) hp
    have ein : inV (.str (tx k)) [.str (PySem.Str.ofString "word"), .str (PySem.Str.ofString "sign")] = decide (k ∈ [kW, kG]) := by
      rw [kW_eq, kG_eq]
      exact in_txs (tx k) [kW, kG]
    by_cases hk : k ∈ [kW, kG]
    · refine ifT (ein.trans (decide_eq_true hk)) ?_
      obtain ⟨t, r, rfl, ht⟩ := hin hk
      have hk' : t.k = kW ∨ t.k = kG := by
        rw [ht]
        simpa using hk
      obtain ⟨w', hw'⟩ := hw t (List.mem_cons_self ..) hk'
      have e1 : (hdV e (t :: r))[1]? = some (.str (tx w')) := by
        show some (tv t.v) = _
        rw [hw'] <;> rfl
      have e2 : key (t :: r) = w' := by
        show keyOf t = w'
        unfold keyOf
        rw [if_pos hk', hw']
      rw [e2] at q
      exact ⟨_, rfl, a, _, _, _, rfl, rfl, s1.sqt hS, atI_nat e1, q _ s1⟩
    · refine ifF (ein.trans (decide_eq_false hk)) ?_
      rw [hout hk] at q
      exact ⟨_, rfl, a, _, _, _, rfl, rfl, s1.sqt hS, atI_nat h0, q _ s1⟩
end
end Tk

set_option Elab.async false
set_option linter.all false
set_option maxRecDepth 100000
namespace Tk
open PySem L2 Lx
abbrev sDeeper : Stmt := top 40
def spInit (CC : Addr) : Sp := fun vs H Q _ => ∃ (c dx : Addr) (z m : Str) (ts : List Tk), vs = [.ref c, .str z, .str m] ∧ H c = some (.ins CC dx []) ∧ z.length ≤ 20000 ∧ m.length ≤ 1000 ∧ Lex (gap false (TL.tl z)) ((TL.tl z).drop (gap false (TL.tl z))) ts none ∧ (∀ t ∈ ts, WF t) ∧ ts.length ≤ 20000 ∧
  ∀ H', KB c H H' → CurAt CC H' c m ts z.length 0 ts → Q .non H'
def spDeeper : Sp := fun vs H Q _ => ∃ n : Nat, vs = [.int (n : Int)] ∧ n < 40 ∧ Q (.int ((n + 1 : Nat) : Int)) H
section
variable {P : Program} {w : World} {K : PySem.W.Frag} {mg : Str → Option Value} {base : Heap}
theorem scDeeper : FnScope ["level"] ["level"] (defScope sDeeper) := ⟨rfl, rfl, rfl, by decide +kernel, rfl, by decide +kernel, by decide +kernel⟩
theorem ok_deeper {f : Addr} {fd : FuncData} (F : Fun K "deeper" "deeper" sDeeper f fd) {tG : Tok} (mG : mg "GREATEST_LEVEL" = some (.int 40 tG)) : FnOk P w K mg base CX0 1 f fd ["level"] spDeeper := by
  refine F.ok scDeeper (fun vs H Q E h => ?_) (fun cdv A outer s H vs Q E hr h => ?_)
  · obtain ⟨n, rfl, _⟩ := h
    rfl
  · obtain ⟨n, rfl, hn, q⟩ := h
    refine ⟨_, pss_cons (ps_if (pt_cmpR op_ge (pv 0) (pe_glob (v := .int 40) rfl mG ⟨_, rfl⟩) (nomark _)) (pss_one ps_never) pss_nil) (pss_one (ps_ret (pe_op op_add (pv 0) pe_int))), ?_⟩
    refine ⟨_, rfl, _, _, rfl, rfl, _, rfl, ifF (decide_eq_false (by omega)) ?_⟩
    exact ⟨_, rfl, _, _, rfl, rfl, q⟩
theorem scKey : FnScope ["self"] ["self"] (defScope (cMeth 1)) := ⟨rfl, rfl, rfl, by decide +kernel, rfl, by decide +kernel, by decide +kernel⟩
theorem ok_key {f fT CC : Addr} {fd fdT : FuncData} (F : Fun K "key" "Cursor.key" (cMeth 1) f fd) (U : CurC K CC) (FT : Fun K "token_key" "token_key" sTKey fT fdT) (bT : Binds K fdT ["token"] []) (gT : mg "token_key" = some (.ref fT)) :
    FnOk P w K mg base CX0 2 f fd ["self"] (spKey CC) := by
  have GT : FnOk P w K mg base CX0 1 fT fdT ["token"] (spTKey K) := ok_tkey FT
  refine F.ok scKey (fun vs H Q E h => ?_) (fun cdv A outer s H vs Q E hr h => ?_)
  · obtain ⟨c, m, ts, e, n, l, rfl, _⟩ := h
    rfl
  · obtain ⟨c, m, ts, e, n, l, rfl, hC, q⟩ := h
    obtain ⟨dx, L, rs, i, h1, h2, h3, h4, rfl⟩ := hC.ex
    obtain ⟨a, hi, ha⟩ := h3.get h4
    refine ⟨_, pss_one (ps_ret (pe_call GT hr rfl gT FT.kp bT .nil pass0 (pa_cons (pe_ix ix_list (pe_fld (pv 0) rfl) (pe_fld (pv 0) rfl) (fun _ _ => rfl)) pa_nil))), ?_⟩
    exact ⟨_, rfl, c, CC, dx, _, _, rfl, h1, U.cl, U.nT, cf_toks _ _ _ _, _, rfl, c, CC, dx, _, _, rfl, h1, U.cl, U.nD, cf_done _ _ _ _, L, _, _, _, rfl, rfl, SqL.of h2, atI_nat hi, a, e, ts.drop i, rfl, SqT.of ha, fun t ht => hC.wf t (List.mem_of_mem_drop ht), q⟩
theorem scPlace : FnScope ["self"] ["self"] (defScope (cMeth 3)) := ⟨rfl, rfl, rfl, by decide +kernel, rfl, by decide +kernel, by decide +kernel⟩
theorem hdV_2 (e : Nat) (l : List Tk) : (hdV e l)[2]? = some (.int (place e l : Int)) := by cases l <;> rfl
theorem ok_place {f CC : Addr} {fd : FuncData} (F : Fun K "place" "Cursor.place" (cMeth 3) f fd) (U : CurC K CC) : FnOk P w K mg base CX0 1 f fd ["self"] (spPlace CC) := by
  refine F.ok scPlace (fun vs H Q E h => ?_) (fun cdv A outer s H vs Q E hr h => ?_)
  · obtain ⟨c, m, ts, e, n, l, rfl, _⟩ := h
    rfl
  · obtain ⟨c, m, ts, e, n, l, rfl, hC, q⟩ := h
    obtain ⟨dx, L, rs, i, h1, h2, h3, h4, rfl⟩ := hC.ex
    obtain ⟨a, hi, ha⟩ := h3.get h4
    refine ⟨_, pss_one (ps_ret (pe_ix ix_tup (pe_ix ix_list (pe_fld (pv 0) rfl) (pe_fld (pv 0) rfl) (fun _ _ => rfl)) pe_int (fun _ _ => rfl))), ?_⟩
    exact ⟨_, rfl, c, CC, dx, _, _, rfl, h1, U.cl, U.nT, cf_toks _ _ _ _, _, rfl, c, CC, dx, _, _, rfl, h1, U.cl, U.nD, cf_done _ _ _ _, L, _, _, _, rfl, rfl, SqL.of h2, atI_nat hi, a, _, _, _, rfl, rfl, SqT.of ha, atI_nat (hdV_2 e _), q⟩
/-- one token further -/
theorem cur_step {CC : Addr} {H : Hp} {c dx L : Addr} {m : Str} {ts : List Tk} {e i : Nat} {n : Int} {rs : List V} {t : Tk} {r : List Tk} (h1 : H c = some (.ins CC dx (cf m n L (i : Int)))) (h2 : H L = some (.lst rs)) (h3 : EndL H e rs ts) (h4 : i ≤ ts.length) (h5 : t :: r = ts.drop i)
    (hw : ∀ t ∈ ts, WF t) (hl : ts.length ≤ 20000) : KB c H (upd H c (.ins CC dx (cf m n L ((i : Int) + 1)))) ∧ CurAt CC (upd H c (.ins CC dx (cf m n L ((i : Int) + 1)))) c m ts e n r := by
  have hlt : i < ts.length := by
    rcases Nat.lt_or_ge i ts.length with q | q
    · exact q
    · rw [List.drop_of_length_le q] at h5
      cases h5
  refine ⟨⟨fun b o hb hn => by rw [upd_ne hn]; exact hb, fun C' dx' m' n' M' i' z => by
    obtain ⟨rfl, rfl, rfl, rfl⟩ := ins_inj h1 z
    exact ⟨_, _, upd_same⟩⟩, ⟨⟨dx, L, rs, i + 1, upd_same, ?_, h3.keep (fun a xs z => ?_), hlt, ?_⟩, hw, hl⟩⟩
  · have ne : L ≠ c := fun z => by
      rw [z, h1] at h2
      cases h2
    rw [upd_ne ne]
    exact h2
  · have ne : a ≠ c := fun q => by
      rw [q, h1] at z
      cases z
    rw [upd_ne ne]
    exact z
  · rw [List.drop_eq_getElem_cons hlt] at h5
    exact (List.cons.inj h5).2
theorem scExpect : FnScope ["self", "key", "token"] ["self", "key"] (defScope (cMeth 4)) := ⟨rfl, rfl, rfl, by decide +kernel, rfl, by decide +kernel, by decide +kernel⟩
theorem noKey (m : Str) (n : Int) (L : Addr) (i : Int) : (cf m n L i).lookup ("key" : Str) = none := cf_no _ _ _ _ (by decide +kernel) (by decide +kernel) (by decide +kernel) (by decide +kernel)
theorem ok_expect {f fK CC : Addr} {fd fdK : FuncData} (F : Fun K "expect" "Cursor.expect" (cMeth 4) f fd) (U : CurC K CC) (GK : FnOk P w K mg base CX0 2 fK fdK ["self"] (spKey CC)) (bK : Binds K fdK ["self"] []) (mK : Meth K CC "key" fK) :
    FnOk P w K mg base CX0 3 f fd ["self", "key"] (spExpect CC) := by
  refine F.ok scExpect (fun vs H Q E h => ?_) (fun cdv A outer s H vs Q E hr h => ?_)
  · obtain ⟨c, m, ts, e, n, t, r, rfl, _⟩ := h
    rfl
  · obtain ⟨c, m, ts, e, n, t, r, rfl, hC, q⟩ := h
    obtain ⟨dx0, L0, _, i0, g1, _⟩ := hC.ex
    refine ⟨_, pss_cons (ps_if (pt_cmpR op_ne (pe_meth0 (pv 0) U.cl mK GK hr bK .nil pass0) (pv 1) (nomark _)) (pss_one ps_never) pss_nil)
      (pss_cons (ps_set (i := 2) scExpect.nd rfl (.inl rfl) (pe_ix ix_list (pe_fld (pv 0) rfl) (pe_fld (pv 0) rfl) (fun _ _ => rfl)))
      (pss_cons (ps_fldaug (pv 0) pe_int in_add)
      (pss_one (ps_ret (pe_ix ix_tup (pv 2) pe_int (fun _ _ => rfl)))))), ?_⟩
    refine ⟨_, rfl, c, dx0, _, rfl, g1, noKey _ _ _ _, c, m, ts, e, n, t :: r, rfl, hC, fun H1 s1 => ?_⟩
    refine ⟨_, rfl, rfl, _, rfl, ifF (by rw [show key (t :: r) = keyOf t from rfl, decide_eq_true rfl] <;> rfl) ?_⟩
    obtain ⟨dx, L, rs, i, h1, h2, h3, h4, h5⟩ := (hC.same s1).ex
    obtain ⟨a, hi, ha⟩ := h3.get h4
    rw [← h5] at ha
    obtain ⟨k1, k2⟩ := cur_step h1 h2 h3 h4 h5 hC.wf hC.len
    have ne : a ≠ c := fun z => by
      rw [z, h1] at ha
      cases ha
    refine ⟨_, rfl, c, CC, dx, _, _, rfl, h1, U.cl, U.nT, cf_toks _ _ _ _, _, rfl, c, CC, dx, _, _, rfl, h1, U.cl, U.nD, cf_done _ _ _ _, L, _, _, _, rfl, rfl, SqL.of h2, atI_nat hi, ?_⟩
    refine ⟨_, rfl, c, CC, dx, _, _, rfl, h1, U.cl, U.nD, cf_done _ _ _ _, _, _, rfl, rfl, dx, _, h1, (by rw [cf_eq]; show 4 < 1000; decide), ?_⟩
    rw [cf_put]
    exact ⟨_, rfl, a, _, _, _, rfl, rfl, SqT.of (by rw [upd_ne ne]; exact ha), atI_nat (show (hdV e (t :: r))[1]? = some (tv t.v) from rfl), q _ ((KB.of s1).trans k1) k2⟩
theorem scTakes : FnScope ["self", "key", "fits"] ["self", "key"] (defScope (cMeth 5)) := ⟨rfl, rfl, rfl, by decide +kernel, rfl, by decide +kernel, by decide +kernel⟩
theorem ok_takes {f fK CC : Addr} {fd fdK : FuncData} (F : Fun K "takes" "Cursor.takes" (cMeth 5) f fd) (U : CurC K CC) (GK : FnOk P w K mg base CX0 2 fK fdK ["self"] (spKey CC)) (bK : Binds K fdK ["self"] []) (mK : Meth K CC "key" fK) :
    FnOk P w K mg base CX0 3 f fd ["self", "key"] (spTakes CC) := by
  refine F.ok scTakes (fun vs H Q E h => ?_) (fun cdv A outer s H vs Q E hr h => ?_)
  · obtain ⟨c, m, ts, e, n, l, k, rfl, _⟩ := h
    rfl
  · obtain ⟨c, m, ts, e, n, l, k, rfl, hC, hk, qT, qF⟩ := h
    obtain ⟨dx0, L0, _, i0, g1, _⟩ := hC.ex
    refine ⟨_, pss_cons (ps_set (i := 2) scTakes.nd rfl (.inl rfl) (pe_cmpR op_eq (pe_meth0 (pv 0) U.cl mK GK hr bK .nil pass0) (pv 1) (nomark _)))
      (pss_cons (ps_if (pt_val (pv 2)) (pss_one (ps_fldaug (pv 0) pe_int in_add)) pss_nil)
      (pss_one (ps_ret (pv 2)))), ?_⟩
    refine ⟨_, rfl, c, dx0, _, rfl, g1, noKey _ _ _ _, c, m, ts, e, n, l, rfl, hC, fun H1 s1 => ⟨_, rfl, rfl, _, rfl, _, rfl, ?_⟩⟩
    have eqk : decide (V.str (tx (key l)) = V.str (tx k)) = decide (key l = k) := by rw [str_eq, tl_tx, tl_tx]
    by_cases c1 : key l = k
    · refine ifT (eqk.trans (decide_eq_true c1)) ?_
      obtain ⟨dx, L, rs, i, h1, h2, h3, h4, h5⟩ := (hC.same s1).ex
      cases l with
      | nil => exact absurd c1.symm hk
      | cons t r =>
        obtain ⟨k1, k2⟩ := cur_step h1 h2 h3 h4 h5 hC.wf hC.len
        refine ⟨_, rfl, c, CC, dx, _, _, rfl, h1, U.cl, U.nD, cf_done _ _ _ _, _, _, rfl, rfl, dx, _, h1, (by rw [cf_eq]; show 4 < 1000; decide), ?_⟩
        rw [cf_put]
        refine ⟨_, rfl, ?_⟩
        show Q (V.bl (decide (V.str (tx (key (t :: r))) = V.str (tx k)))) _
        rw [eqk, decide_eq_true c1]
        exact qT t r rfl c1 _ ((KB.of s1).trans k1) k2
    · refine ifF (eqk.trans (decide_eq_false c1)) ?_
      refine ⟨_, rfl, ?_⟩
      show Q (V.bl (decide (V.str (tx (key l)) = V.str (tx k)))) _
      rw [eqk, decide_eq_false c1]
      exact qF c1 _ (KB.of s1) (hC.same s1)
theorem scInit : FnScope ["self", "text", "module"] ["self", "text", "module"] (defScope (cMeth 0)) := ⟨rfl, rfl, rfl, by decide +kernel, rfl, by decide +kernel, by decide +kernel⟩
theorem ok_init {f fK CC C : Addr} {fd fdK : FuncData} (F : Fun K "__init__" "Cursor.__init__" (cMeth 0) f fd) (T : Txt K mg) (U : CurC K CC) (GT : FnOk P w K mg base (L2.CX P w) 4 fK fdK ["text", "module"] (spToks C)) (kT : PySem.W.keepIn K (.ref fK) = true) (bT : Binds K fdK ["text", "module"] []) (mT : mg "tokens" = some (.ref fK)) :
    FnOk P w K mg base CX0 5 f fd ["self", "text", "module"] (spInit CC) := by
  refine F.ok scInit (fun vs H Q E h => ?_) (fun cdv A outer s H vs Q E hr h => ?_)
  · obtain ⟨c, dx, z, m, ts, rfl, _⟩ := h
    rfl
  · obtain ⟨c, dx, z, m, ts, rfl, hc, hz, hm, hL, hw, hl, q⟩ := h
    refine ⟨_, pss_cons (ps_fld (pv 0) (pv 2) rfl) (pss_cons (ps_fld (pv 0) pe_int rfl)
      (pss_cons (ps_fld (pv 0) (pe_lst (StX.pa_star (pe_call GT hr rfl mT kT bT .nil passL (pa_cons (pv 1) (pa_cons (pv 2) pa_nil))) (pa_cons (pe_tup (pa_cons pe_str (pa_cons pe_non (pa_cons (pe_callB call_len_str (by rfl) T.len PySem.boot_len (pa_cons (pv 1) pa_nil)) pa_nil)))) pa_nil))) rfl)
      (pss_one (ps_fld (pv 0) pe_int rfl)))), ?_⟩
    refine ⟨_, rfl, _, rfl, c, CC, dx, _, rfl, hc, U.cl, U.nM, (by show 0 < 1000; decide), ?_⟩
    refine ⟨_, rfl, c, CC, dx, _, rfl, upd_same, U.cl, U.nF, (by show 1 < 1000; decide), ?_⟩
    refine ⟨_, rfl, _, rfl, z, m, ts, none, rfl, hz, hm, hL, fun _ H2 p rs s2 hn hp hT => ?_, fun i z => by cases z⟩
    have hc2 : H2 c = some (.ins CC dx (putF "functions" (.int 0) (putF "module" (.str m) []))) := s2 _ _ upd_same
    refine ⟨p, rs, rfl, .inr (SqL.of hp), _, rfl, z, rfl, line20 hz, (by show 3 ≤ sizeLine; decide), fun b hb => ?_⟩
    have hrl := hT.len
    refine ⟨Nat.le_trans (show (rs ++ [V.ref b]).length ≤ 30000 by rw [List.length_append, List.length_singleton]; omega) (by decide), fun L hLn => ?_⟩
    have nb : c ≠ b := ne_of_none hc2 hb
    have hc3 : upd H2 b (.tup [.str (PySem.Str.ofString "end"), .non, .int ((z.length : Nat) : Int)]) c = some (.ins CC dx (putF "functions" (.int 0) (putF "module" (.str m) []))) := by
      rw [upd_ne nb]
      exact hc2
    have nL : c ≠ L := ne_of_none hc3 hLn
    refine ⟨_, rfl, c, CC, dx, _, rfl, (by rw [upd_ne nL]; exact hc3), U.cl, U.nT, (by show 2 < 1000; decide), _, rfl, c, CC, dx, _, rfl, upd_same, U.cl, U.nD, (by show 3 < 1000; decide), ?_⟩
    have keep : ∀ x o, H2 x = some o → x ≠ c → upd (upd (upd (upd H2 b (.tup [.str (PySem.Str.ofString "end"), .non, .int ((z.length : Nat) : Int)])) L (.lst (rs ++ [.ref b]))) c (.ins CC dx (putF "_tokens" (.ref L) (putF "functions" (.int 0) (putF "module" (.str m) []))))) c (.ins CC dx (cf m 0 L 0)) x = some o := fun x o e n => by
      have e1 : upd H2 b (.tup [.str (PySem.Str.ofString "end"), .non, .int ((z.length : Nat) : Int)]) x = some o := by
        rw [upd_ne (ne_of_none e hb)]
        exact e
      rw [upd_ne n, upd_ne n, upd_ne (ne_of_none e1 hLn)]
      exact e1
    have hbL : b ≠ L := fun z => by
      rw [← z, upd_same] at hLn
      cases hLn
    refine q _ ⟨fun x o e n => ?_, fun C' dx' m' n' M' i' z => by
      rw [hc, cf_eq] at z
      cases z⟩ ⟨⟨dx, L, rs ++ [.ref b], 0, upd_same, ?_, ?_, Nat.zero_le _, rfl⟩, hw, hl⟩
    · refine keep x o (s2 _ _ ?_) n
      rw [upd_ne n, upd_ne n]
      exact e
    · rw [upd_ne (Ne.symm nL), upd_ne (Ne.symm nL), upd_same]
    · refine EndL.of ?_ (hT.keep fun a xs e => keep a _ e fun z => by
        rw [z, hc2] at e
        cases e)
      rw [upd_ne (Ne.symm nb), upd_ne (Ne.symm nb), upd_ne hbL, upd_same]
      show some (HO.tup [.str (PySem.Str.ofString "end"), .non, .int ((z.length : Nat) : Int)]) = some (HO.tup [.str (tx (cd "end")), .non, .int ((z.length : Nat) : Int)])
      rw [ofS]
end
end Tk

set_option Elab.async false
set_option linter.all false
set_option maxRecDepth 100000
namespace Tk
open PySem L2 Lx
/-! ### dicts of the top with text keys -/
def lk (l : List (List Nat × V)) (k : List Nat) : Option V := match l with
  | [] => none
  | (a, v) :: r => if a = k then some v else lk r k
inductive EnL : List (List Nat × V) → List DictEntry → Prop where
  | nil : EnL [] []
  | cons {k : List Nat} {v : V} {e : DictEntry} {t : Tok} {l : List (List Nat × V)} {es : List DictEntry} (hk : e.key = .str (tx k) t) (hv : RelV v e.val) (r : EnL l es) : EnL ((k, v) :: l) (e :: es)
structure KD (K : PySem.W.Frag) (w : World) (a : Addr) (l : List (List Nat × V)) : Prop where
  ex : ∃ es n, K.lookup a = some ⟨.type "dict", none, .dict es n, #[]⟩ ∧ PySem.W.KeysLit w.params es.toList ∧ EnL l es.toList
  low : (a == sysModules) = false
theorem isStr_tx (k k' : List Nat) (t : Tok) : (Value.str (tx k) t).isStr (tx k') = decide (k = k') := by
  show (tx k == tx k') = _
  exact beq_tx k k'
theorem en_find : ∀ {l : List (List Nat × V)} {es : List DictEntry}, EnL l es → ∀ k : List Nat, (∀ v, lk l k = some v → ∃ e, es.find? (·.key.isStr (tx k)) = some e ∧ RelV v e.val) ∧ (lk l k = none → es.find? (·.key.isStr (tx k)) = none)
  | _, _, .nil, k => ⟨fun v h => (by cases h), fun _ => rfl⟩
  | (a, v) :: l, e :: es, .cons hk hv r, k => by
    have ih := en_find r k
    have q : e.key.isStr (tx k) = decide (a = k) := by rw [hk, isStr_tx]
    by_cases c : a = k
    · have q' : e.key.isStr (tx k) = true := q.trans (decide_eq_true c)
      have z : lk ((a, v) :: l) k = some v := if_pos c
      refine ⟨fun u h => ⟨e, List.find?_cons_of_pos q', ?_⟩, fun h => by rw [z] at h; cases h⟩
      rw [z] at h
      cases h
      exact hv
    · have q' : ¬ e.key.isStr (tx k) = true := by
        rw [q, decide_eq_false c]
        decide
      have z : lk ((a, v) :: l) k = lk l k := if_neg c
      have f : List.find? (fun d : DictEntry => d.key.isStr (tx k)) (e :: es) = List.find? (fun d : DictEntry => d.key.isStr (tx k)) es := List.find?_cons_of_neg q'
      rw [z]
      show (∀ u, lk l k = some u → ∃ d, List.find? (fun d : DictEntry => d.key.isStr (tx k)) (e :: es) = some d ∧ RelV u d.val) ∧ (lk l k = none → List.find? (fun d : DictEntry => d.key.isStr (tx k)) (e :: es) = none)
      rw [f]
      exact ih
theorem en_noref : ∀ {l : List (List Nat × V)} {es : List DictEntry}, EnL l es → es.any (·.refKey) = false
  | _, _, .nil => rfl
  | _, e :: es, .cons hk hv r => by
    rw [List.any_cons, en_noref r, Bool.or_false]
    show (match e.key with | .ref _ => true | _ => false) = false
    rw [hk]
theorem KD.hit {K : PySem.W.Frag} {w : World} {a : Addr} {l : List (List Nat × V)} (d : KD K w a l) {k : List Nat} {v : V} (h : lk l k = some v) : KDct K w a (tx k) v := by
  obtain ⟨es, n, h1, h2, h3⟩ := d.ex
  obtain ⟨e, f1, f2⟩ := (en_find h3 k).1 v h
  refine ⟨es, n, e.val, h1, h2, ?_, f2⟩
  unfold PySem.W.nsIn
  rw [h1]
  show (match es.toList.find? (·.key.isStr (tx k)) with | some e => some (some e.val) | none => if es.toList.any (·.refKey) then none else some none) = _
  rw [f1]
section
variable {X : Cx}
def rInKD (K : PySem.W.Frag) (w : World) : R2 := fun x y H Q => ∃ (p : Addr) (l : List (List Nat × V)) (k : List Nat), x = .str (tx k) ∧ y = .ref p ∧ KD K w p l ∧ Q (.bl (lk l k).isSome) H
theorem op_in_kd : OpR X (compareOp .In) (rInKD X.K X.w) := by
  intro pins s σ H x y v u Q I rx ry h
  obtain ⟨p, l, k, rfl, rfl, d, q⟩ := h
  obtain ⟨es, n, h1, h2, h3⟩ := d.ex
  obtain ⟨t, rfl⟩ := (show ∃ t, v = Value.str (tx k) t from rx)
  obtain rfl : u = Value.ref p := ry
  have hm := PySem.W.mapOf_K (prog := X.prog) (w := X.w) I.kIn h1 h2
  refine wpAny_in_of (strKind_is X.prog X.w (tx k) t) d.low hm ?_
  have e : PySem.W.nsIn X.K p (tx k) = some (es.toList.find? (·.key.isStr (tx k)) |>.map (·.val)) := by
    unfold PySem.W.nsIn
    rw [h1]
    show (match es.toList.find? (·.key.isStr (tx k)) with | some e => some (some e.val) | none => if es.toList.any (·.refKey) then none else some none) = _
    cases hf : es.toList.find? (·.key.isStr (tx k)) with
    | some e => rfl
    | none =>
      rw [en_noref h3]
      rfl
  have e2 := PySem.W.find_K h1 e
  have e3 : (findBy Value.isStrOf es (tx k)).isSome = (lk l k).isSome := by
    rw [e2]
    cases hl : lk l k with
    | some v =>
      obtain ⟨en, f1, _⟩ := (en_find h3 k).1 v hl
      rw [f1]
      rfl
    | none =>
      rw [(en_find h3 k).2 hl]
      rfl
  show EP X pins σ Q (.bool (findBy Value.isStrOf es (tx k)).isSome) _
  rw [e3]
  exact ⟨.bl _, H, I.tok _, rfl, q⟩
end
end Tk

set_option Elab.async false
set_option linter.all false
set_option maxRecDepth 100000
namespace Tk
open PySem L2 Lx
/-! ### what the readers read: level, before, tree, behind -/
abbrev RD : Type := Nat → List Tk → PyData → List Tk → Prop
def ds (s : String) : PyData := .str (tx (cd s))
def dw (w : List Nat) : PyData := .str (tx w)
def kOr (k : List Nat) : Option (List Nat) := if k = cd "or" then some (cd "or") else none
def kAnd (k : List Nat) : Option (List Nat) := if k = cd "and" then some (cd "and") else none
def kMul (k : List Nat) : Option (List Nat) := if k = cd "*" then some (cd "mul") else none
def kCall (k : List Nat) : Option (List Nat) := if k = cd "(" then some (cd "call") else none
def kSum (k : List Nat) : Option (List Nat) := if k = cd "+" then some (cd "add") else if k = cd "-" then some (cd "sub") else none
def kCmp (k : List Nat) : Option (List Nat) := if k = cd "<" then some (cd "lt") else if k = cd "==" then some (cd "eq") else none
def kCon (k : List Nat) : Option PyData := if k = cd "true" then some (.tuple [ds "bool", .bool true]) else if k = cd "false" then some (.tuple [ds "bool", .bool false]) else if k = cd "none" then some (.tuple [ds "none"]) else none
inductive REnc (E : RD) : RD where
  | mk {lv : Nat} {a b : Tk} {l r : List Tk} {d : PyData} (ha : keyOf a = cd "(") (hl : lv < 40) (h : E (lv + 1) l d (b :: r)) (hb : keyOf b = cd ")") : REnc E lv (a :: l) d r
inductive RVar : List Tk → PyData → List Tk → Prop where
  | var {t : Tk} {w : List Nat} {r : List Tk} (h : keyOf t = cd "name") (hv : t.v = .inl w) (hr : key r ≠ cd ".") : RVar (t :: r) (.tuple [ds "var", dw w]) r
  | mem {t d u : Tk} {w x : List Nat} {r : List Tk} (h : keyOf t = cd "name") (hv : t.v = .inl w) (hd : keyOf d = cd ".") (hu : keyOf u = cd "name") (hx : u.v = .inl x) : RVar (t :: d :: u :: r) (.tuple [ds "member", dw w, dw x]) r
inductive RPrim (E : RD) : RD where
  | var {lv : Nat} {t : Tk} {l r : List Tk} {d : PyData} (h : keyOf t = cd "name") (hr : RVar (t :: l) d r) : RPrim E lv (t :: l) d r
  | num {lv : Nat} {t : Tk} {r : List Tk} {n : Nat} (h : keyOf t = cd "number") (hv : t.v = .inr n) : RPrim E lv (t :: r) (.tuple [ds "int", .int n]) r
  | con {lv : Nat} {t : Tk} {r : List Tk} {d : PyData} (h : kCon (keyOf t) = some d) : RPrim E lv (t :: r) d r
  | enc {lv : Nat} {t : Tk} {l r : List Tk} {d : PyData} (h : keyOf t = cd "(") (he : REnc E lv (t :: l) d r) : RPrim E lv (t :: l) d r
inductive RRest (E : RD) (lv : Nat) : List Tk → List PyData → List Tk → Prop where
  | done {t : Tk} {r : List Tk} (h : keyOf t = cd ")") : RRest E lv (t :: r) [] r
  | more {t : Tk} {l l' r : List Tk} {d : PyData} {ds : List PyData} (h : keyOf t = cd ",") (he : E (lv + 1) l d l') (hr : RRest E lv l' ds r) : RRest E lv (t :: l) (d :: ds) r
inductive RArgs (E : RD) : RD where
  | none {lv : Nat} {t : Tk} {r : List Tk} (h : keyOf t = cd ")") : RArgs E lv (t :: r) (.tuple []) r
  | some {lv : Nat} {l l' r : List Tk} {d : PyData} {ds : List PyData} (h : key l ≠ cd ")") (hl : lv < 40) (hn : ds.length < 20000) (he : E (lv + 1) l d l') (hr : RRest E lv l' ds r) : RArgs E lv l (.tuple (d :: ds)) r
inductive RLoop (one : RD) (kd : List Nat → Option (List Nat)) (T : PyData) (L : List Tk) : Nat → Nat → PyData → List Tk → Prop where
  | stop {lv : Nat} (h : kd (key L) = none) : RLoop one kd T L 0 lv T L
  | step {n lv : Nat} {t : PyData} {o : Tk} {l l1 : List Tk} {d : PyData} {k : List Nat} (h : kd (keyOf o) = some k) (hl : lv < 40) (h1 : one (lv + 1) l d l1) (hr : RLoop one kd T L n (lv + 1) (.tuple [dw k, t, d]) l1) : RLoop one kd T L (n + 1) lv t (o :: l)
def RChain (fst one : RD) (kd : List Nat → Option (List Nat)) : RD := fun lv l t l' => ∃ t0 l0 n, fst lv l t0 l0 ∧ RLoop one kd t l' n lv t0 l0
def RCalled (E : RD) : RD := RChain (RPrim E) (RArgs E) kCall
def RProd (E : RD) : RD := RChain (RCalled E) (RCalled E) kMul
def RSum (E : RD) : RD := RChain (RProd E) (RProd E) kSum
inductive RPlain (E Pl : RD) : RD where
  | neg {lv : Nat} {t : Tk} {l l' : List Tk} {d : PyData} (h : keyOf t = cd "not") (hl : lv < 40) (hp : Pl (lv + 1) l d l') : RPlain E Pl lv (t :: l) (.tuple [ds "not", d]) l'
  | sum {lv : Nat} {l l' : List Tk} {d : PyData} (h : key l ≠ cd "not") (hs : RSum E lv l d l') (hk : kCmp (key l') = none) : RPlain E Pl lv l d l'
  | cmp {lv : Nat} {t : Tk} {l l1 l' : List Tk} {d d2 : PyData} {k : List Nat} (h : key l ≠ cd "not") (hs : RSum E lv l d (t :: l1)) (hk : kCmp (keyOf t) = some k) (hl : lv < 40) (h2 : RSum E (lv + 1) l1 d2 l') : RPlain E Pl lv l (.tuple [dw k, d, d2]) l'
def RBoth (E Pl : RD) : RD := RChain (RPlain E Pl) (RPlain E Pl) kAnd
def RExpr (E Pl : RD) : RD := RChain (RBoth E Pl) (RBoth E Pl) kOr
def RNo : RD := fun _ _ _ _ => False
mutual
def RE : Nat → RD
  | 0 => RNo
  | n + 1 => RExpr (RE n) (RP n)
def RP : Nat → RD
  | 0 => RNo
  | n + 1 => RPlain (RE n) (RP n)
end
/-! ### promises -/
def spR (K : PySem.W.Frag) (CC : Addr) (R : RD) : Sp := fun vs H Q _ => ∃ (c : Addr) (m : Str) (ts : List Tk) (e : Nat) (n : Int) (l : List Tk) (lv : Nat) (t : PyData) (l' : List Tk),
  vs = [.ref c, .int (lv : Int)] ∧ CurAt CC H c m ts e n l ∧ R lv l t l' ∧ ∀ H' v, KB c H H' → CurAt CC H' c m ts e n l' → Tp K H' v t → Q v H'
def spV (K : PySem.W.Frag) (CC : Addr) : Sp := fun vs H Q _ => ∃ (c : Addr) (m : Str) (ts : List Tk) (e : Nat) (n : Int) (l : List Tk) (t : PyData) (l' : List Tk),
  vs = [.ref c] ∧ CurAt CC H c m ts e n l ∧ RVar l t l' ∧ ∀ H' v, KB c H H' → CurAt CC H' c m ts e n l' → Tp K H' v t → Q v H'
section
variable (P : Program) (w : World) (K : PySem.W.Frag) (mg : Str → Option Value) (base : Heap) (CC : Addr)
def OkF (nm : Str) (ps : List Str) (k : Nat) (sp : Sp) : Prop := ∃ f fd, FnOk P w K mg base CX0 k f fd ps sp ∧ PySem.W.keepIn K (.ref f) = true ∧ Binds K fd ps [] ∧ mg nm = some (.ref f)
def OkM (nm : Str) (ps : List Str) (k : Nat) (sp : Sp) : Prop := ∃ f fd, FnOk P w K mg base CX0 k f fd ps sp ∧ Meth K CC nm f ∧ Binds K fd ps []
/-- what all readers stand on -/
structure Kit : Prop where
  U : CurC K CC
  key : OkM P w K mg base CC "key" ["self"] 2 (spKey CC)
  place : OkM P w K mg base CC "place" ["self"] 1 (spPlace CC)
  expect : OkM P w K mg base CC "expect" ["self", "key"] 3 (spExpect CC)
  takes : OkM P w K mg base CC "takes" ["self", "key"] 3 (spTakes CC)
  deeper : OkF P w K mg base "deeper" ["level"] 1 spDeeper
  con : ∃ a v1 v2 v3, mg "CONSTANTS" = some (.ref a) ∧ KD K w a [(cd "true", v1), (cd "false", v2), (cd "none", v3)] ∧ ∀ H, Tp K H v1 (.tuple [ds "bool", .bool true]) ∧ Tp K H v2 (.tuple [ds "bool", .bool false]) ∧ Tp K H v3 (.tuple [ds "none"])
  cmp : ∃ a, mg "COMPARISONS" = some (.ref a) ∧ KD K w a [(cd "<", .str (tx (cd "lt"))), (cd "==", .str (tx (cd "eq")))]
  sums : ∃ a, mg "SUMS" = some (.ref a) ∧ KD K w a [(cd "+", .str (tx (cd "add"))), (cd "-", .str (tx (cd "sub")))]
  tuple : mg "tuple" = none
end
/-! ### answers -/
theorem argS {x : Str} {σ : St} {H : Hp} {R : List V → Hp → Prop} (h : R [.str x] H) : tCons (tC (.str x)) tNil σ H R := h
section
variable {K : PySem.W.Frag} {CC : Addr} {H : Hp} {c : Addr} {m : Str} {ts : List Tk} {e : Nat} {n : Int} {l r : List Tk} {t : Tk} {Q : VK}
theorem CurAt.mm (C : CurAt CC H c m ts e n l) : ∃ dx fs, H c = some (.ins CC dx fs) ∧ fs.lookup ("takes" : Str) = none ∧ fs.lookup ("expect" : Str) = none ∧ fs.lookup ("key" : Str) = none ∧ fs.lookup ("place" : Str) = none := by
  obtain ⟨dx, L, rs, i, h, _⟩ := C.ex
  exact ⟨dx, _, h, cf_no _ _ _ _ (by decide +kernel) (by decide +kernel) (by decide +kernel) (by decide +kernel), cf_no _ _ _ _ (by decide +kernel) (by decide +kernel) (by decide +kernel) (by decide +kernel), noKey _ _ _ _, cf_no _ _ _ _ (by decide +kernel) (by decide +kernel) (by decide +kernel) (by decide +kernel)⟩
theorem takesR {s : String} (C : CurAt CC H c m ts e n l) (hk : cd s ≠ cd "end") (qT : ∀ t r, l = t :: r → keyOf t = cd s → ∀ H', KB c H H' → CurAt CC H' c m ts e n r → Q (.bl true) H') (qF : key l ≠ cd s → ∀ H', KB c H H' → CurAt CC H' c m ts e n l → Q (.bl false) H') :
    spTakes CC [.ref c, .str (PySem.Str.ofString s)] H Q E0 := ⟨c, m, ts, e, n, l, cd s, (by rw [ofS]), C, hk, qT, qF⟩
theorem expectR {s : String} (C : CurAt CC H c m ts e n (t :: r)) (hk : keyOf t = cd s) (q : ∀ H', KB c H H' → CurAt CC H' c m ts e n r → Q (tv t.v) H') :
    spExpect CC [.ref c, .str (PySem.Str.ofString s)] H Q E0 := ⟨c, m, ts, e, n, t, r, (by rw [hk, ofS]), C, q⟩
theorem expectW {s : String} {x : List Nat} (C : CurAt CC H c m ts e n (t :: r)) (hk : keyOf t = cd s) (hv : t.v = .inl x) (q : ∀ H', KB c H H' → CurAt CC H' c m ts e n r → Q (.str (tx x)) H') :
    spExpect CC [.ref c, .str (PySem.Str.ofString s)] H Q E0 := expectR C hk (by rw [hv]; exact q)
theorem expectN {s : String} {x : Nat} (C : CurAt CC H c m ts e n (t :: r)) (hk : keyOf t = cd s) (hv : t.v = .inr x) (q : ∀ H', KB c H H' → CurAt CC H' c m ts e n r → Q (.int (x : Int)) H') :
    spExpect CC [.ref c, .str (PySem.Str.ofString s)] H Q E0 := expectR C hk (by rw [hv]; exact q)
theorem expectK {x : List Nat} (C : CurAt CC H c m ts e n (t :: r)) (hk : keyOf t = x) (q : ∀ H', KB c H H' → CurAt CC H' c m ts e n r → Q (tv t.v) H') :
    spExpect CC [.ref c, .str (tx x)] H Q E0 := ⟨c, m, ts, e, n, t, r, (by rw [hk]), C, q⟩
theorem keyR (C : CurAt CC H c m ts e n l) (q : ∀ H', KB c H H' → CurAt CC H' c m ts e n l → Q (.str (tx (key l))) H') : spKey CC [.ref c] H Q E0 := ⟨c, m, ts, e, n, l, rfl, C, fun H' s => q H' (KB.of s) (C.same s)⟩
theorem placeR (C : CurAt CC H c m ts e n l) (q : Q (.int (place e l : Int)) H) : spPlace CC [.ref c] H Q E0 := ⟨c, m, ts, e, n, l, rfl, C, q⟩
theorem deeperR {lv : Nat} (h : lv < 40) (q : Q (.int ((lv + 1 : Nat) : Int)) H) : spDeeper [.int (lv : Int)] H Q E0 := ⟨lv, rfl, h, q⟩
theorem readR {R : RD} {lv : Nat} {d : PyData} {l' : List Tk} (C : CurAt CC H c m ts e n l) (h : R lv l d l') (q : ∀ H' v, KB c H H' → CurAt CC H' c m ts e n l' → Tp K H' v d → Q v H') : spR K CC R [.ref c, .int (lv : Int)] H Q E0 := ⟨c, m, ts, e, n, l, lv, d, l', rfl, C, h, q⟩
theorem CurAt.new {H : Hp} {p : Addr} {o : HO} (C : CurAt CC H c m ts e n l) (h : H p = none) : CurAt CC (upd H p o) c m ts e n l := C.same (same_new' h)
theorem KB.new {H H1 : Hp} {p : Addr} {o : HO} (k : KB c H H1) (h : H1 p = none) : KB c H (upd H1 p o) := k.trans (KB.of (same_new' h))
theorem KB.refl {H : Hp} : KB c H H := KB.of (fun _ _ h => h)
theorem Tp.new {p : Addr} {o : HO} {v : V} {d : PyData} (h : Tp K H v d) (hp : H p = none) : Tp K (upd H p o) v d := h.same (same_new' hp)
theorem Tp.s (s : String) : Tp K H (.str (PySem.Str.ofString s)) (ds s) := by
  rw [ofS]
  exact .str _
theorem TpAll.keepN {p : Addr} {o : HO} {vs : List V} {l : List PyData} (h : TpAll K H vs l) (hp : H p = none) : TpAll K (upd H p o) vs l := TpAll.keep (fun a xs z => (same_new' hp).sqt z) l vs h
theorem Tp.mk {p : Addr} {vs : List V} {l : List PyData} (h : TpAll K H vs l) (hp : H p = none) : Tp K (upd H p (.tup vs)) (.ref p) (.tuple l) := .tup (SqT.of upd_same) (h.keepN hp)
end
end Tk

set_option Elab.async false
set_option linter.all false
set_option maxRecDepth 100000
namespace Tk
open PySem L2 Lx
section
variable {P : Program} {w : World} {K : PySem.W.Frag} {mg : Str → Option Value} {base : Heap} {CC : Addr}

theorem sccalled : FnScope ["cursor", "level", "tree"] ["cursor", "level"] (defScope (top 65)) := ⟨rfl, rfl, rfl, by decide +kernel, rfl, by decide +kernel, by decide +kernel⟩
theorem ok_called {f : Addr} {fd : FuncData} {b : Nat} {R1 R2 : RD} (F : Fun K "read_called" "read_called" (top 65) f fd) (D : Kit P w K mg base CC) (hb : 3 ≤ b) (G1 : OkF P w K mg base "read_primary" ["cursor", "level"] b (spR K CC R1)) (G2 : OkF P w K mg base "read_arguments" ["cursor", "level"] b (spR K CC R2)) :
    FnOk P w K mg base CX0 (b + 1) f fd ["cursor", "level"] (spR K CC (RChain R1 R2 kCall)) := by
  obtain ⟨f1, fd1, g1, kp1, b1, m1⟩ := G1
  obtain ⟨f2, fd2, g2, kp2, b2, m2⟩ := G2
  obtain ⟨f3, fd3, g3, mt3, b3⟩ := D.takes
  obtain ⟨f4, fd4, g4, kp4, b4, m4⟩ := D.deeper
  refine F.ok sccalled (fun vs H Q E h => ?_) (fun cdv A outer s H vs Q E hr h => ?_)
  · obtain ⟨c, m, ts, e, n, l, lv, t, l', rfl, _⟩ := h
    rfl
  · obtain ⟨c, m, ts, e, n, l, lv, t, l', rfl, hC, ⟨t0, l0, k, hR1, hL⟩, q⟩ := h
    refine ⟨_, pss_cons (ps_set (i := 2) sccalled.nd rfl (.inl rfl) (pe_call g1 hr rfl m1 kp1 b1 .nil pass0 (pa_cons (pv 0) (pa_cons (pv 1) pa_nil))))
      (pss_cons (ps_while PassesOwn.never (pt_val (pe_meth (pv 0) D.U.cl mt3 g3 (hr.mono (by omega)) b3 .nil pass0 (pa_cons pe_str pa_nil)))
        (pss_cons (ps_set (i := 1) sccalled.nd rfl (.inl rfl) (pe_call g4 (hr.mono (by omega)) rfl m4 kp4 b4 .nil pass0 (pa_cons (pv 1) pa_nil)))
          (pss_one (ps_set (i := 2) sccalled.nd rfl (.inl rfl) (pe_tup (pa_cons pe_str (pa_cons (pv 2) (pa_cons (pe_call g2 hr rfl m2 kp2 b2 .nil pass0 (pa_cons (pv 0) (pa_cons (pv 1) pa_nil))) pa_nil))))))))
      (pss_one (ps_ret (pv 2)))), ?_⟩
    refine ⟨_, rfl, _, rfl, readR hC hR1 fun H1 v1 k1 C1 T1 => ?_⟩
    let W : Nat → St → Hp → Prop := fun mm σ H' => ∃ (lv' : Nat) (t' : PyData) (l1 : List Tk) (v : V), σ = [some (.ref c), some (.int (lv' : Int)), some v] ∧ RLoop R2 kCall t l' mm lv' t' l1 ∧ CurAt CC H' c m ts e n l1 ∧ KB c H H' ∧ Tp K H' v t'
    refine ⟨W, ⟨_, lv, t0, l0, v1, rfl, hL, C1, k1, T1⟩, ?_⟩
    rintro mm σ H' ⟨lv', t', l1, v, rfl, hL, C, kk, T⟩
    obtain ⟨dx, fs, hc, n1, _⟩ := C.mm
    refine ⟨_, rfl, c, dx, fs, rfl, hc, n1, argS (takesR C (by decide +kernel) (fun o r e1 e2 H2 k2 C2 => ⟨_, rfl, ifT rfl ?_⟩) (fun e1 H2 k2 C2 => ⟨_, rfl, ifF rfl ?_⟩))⟩
    · subst e1
      cases hL with
      | stop h =>
        rw [show key (o :: r) = keyOf o from rfl, e2] at h
        exact absurd h (by decide +kernel)
      | step h hl h1 hr' =>
        rw [e2, show kCall (cd "(") = some (cd "call") from by decide +kernel] at h
        cases h
        refine ⟨fun σ' H' => ∃ m', m' < _ ∧ W m' σ' H', fun _ _ h => h, ?_⟩
        refine ⟨_, rfl, _, rfl, hl, ?_⟩
        refine ⟨_, rfl, _, rfl, _, rfl, readR C2 h1 fun H3 v3 k3 C3 T3 => ⟨(by show 3 ≤ sizeLine; decide), fun p hp => ?_⟩⟩
        refine ⟨_, Nat.lt_succ_self _, _, _, _, _, rfl, hr', C3.new hp, ((kk.trans k2).trans k3).new hp, Tp.mk (.cons (Tp.s "call") (.cons ((k2.trans k3).tp C T) (.cons T3 .nil))) hp⟩
    · cases hL with
      | stop h => exact ⟨_, rfl, q _ _ (kk.trans k2) C2 (k2.tp C T)⟩
      | @step _ _ _ o _ _ _ _ h hl h1 hr' =>
        have h2 : kCall (keyOf o) = none := if_neg e1
        rw [h2] at h
        cases h

theorem scprod : FnScope ["cursor", "level", "tree"] ["cursor", "level"] (defScope (top 64)) := ⟨rfl, rfl, rfl, by decide +kernel, rfl, by decide +kernel, by decide +kernel⟩
theorem ok_prod {f : Addr} {fd : FuncData} {b : Nat} {R1 R2 : RD} (F : Fun K "read_product" "read_product" (top 64) f fd) (D : Kit P w K mg base CC) (hb : 3 ≤ b) (G1 : OkF P w K mg base "read_called" ["cursor", "level"] b (spR K CC R1)) (G2 : OkF P w K mg base "read_called" ["cursor", "level"] b (spR K CC R2)) :
    FnOk P w K mg base CX0 (b + 1) f fd ["cursor", "level"] (spR K CC (RChain R1 R2 kMul)) := by
  obtain ⟨f1, fd1, g1, kp1, b1, m1⟩ := G1
  obtain ⟨f2, fd2, g2, kp2, b2, m2⟩ := G2
  obtain ⟨f3, fd3, g3, mt3, b3⟩ := D.takes
  obtain ⟨f4, fd4, g4, kp4, b4, m4⟩ := D.deeper
  refine F.ok scprod (fun vs H Q E h => ?_) (fun cdv A outer s H vs Q E hr h => ?_)
  · obtain ⟨c, m, ts, e, n, l, lv, t, l', rfl, _⟩ := h
    rfl
  · obtain ⟨c, m, ts, e, n, l, lv, t, l', rfl, hC, ⟨t0, l0, k, hR1, hL⟩, q⟩ := h
    refine ⟨_, pss_cons (ps_set (i := 2) scprod.nd rfl (.inl rfl) (pe_call g1 hr rfl m1 kp1 b1 .nil pass0 (pa_cons (pv 0) (pa_cons (pv 1) pa_nil))))
      (pss_cons (ps_while PassesOwn.never (pt_val (pe_meth (pv 0) D.U.cl mt3 g3 (hr.mono (by omega)) b3 .nil pass0 (pa_cons pe_str pa_nil)))
        (pss_cons (ps_set (i := 1) scprod.nd rfl (.inl rfl) (pe_call g4 (hr.mono (by omega)) rfl m4 kp4 b4 .nil pass0 (pa_cons (pv 1) pa_nil)))
          (pss_one (ps_set (i := 2) scprod.nd rfl (.inl rfl) (pe_tup (pa_cons pe_str (pa_cons (pv 2) (pa_cons (pe_call g2 hr rfl m2 kp2 b2 .nil pass0 (pa_cons (pv 0) (pa_cons (pv 1) pa_nil))) pa_nil))))))))
      (pss_one (ps_ret (pv 2)))), ?_⟩
    refine ⟨_, rfl, _, rfl, readR hC hR1 fun H1 v1 k1 C1 T1 => ?_⟩
    let W : Nat → St → Hp → Prop := fun mm σ H' => ∃ (lv' : Nat) (t' : PyData) (l1 : List Tk) (v : V), σ = [some (.ref c), some (.int (lv' : Int)), some v] ∧ RLoop R2 kMul t l' mm lv' t' l1 ∧ CurAt CC H' c m ts e n l1 ∧ KB c H H' ∧ Tp K H' v t'
    refine ⟨W, ⟨_, lv, t0, l0, v1, rfl, hL, C1, k1, T1⟩, ?_⟩
    rintro mm σ H' ⟨lv', t', l1, v, rfl, hL, C, kk, T⟩
    obtain ⟨dx, fs, hc, n1, _⟩ := C.mm
    refine ⟨_, rfl, c, dx, fs, rfl, hc, n1, argS (takesR C (by decide +kernel) (fun o r e1 e2 H2 k2 C2 => ⟨_, rfl, ifT rfl ?_⟩) (fun e1 H2 k2 C2 => ⟨_, rfl, ifF rfl ?_⟩))⟩
    · subst e1
      cases hL with
      | stop h =>
        rw [show key (o :: r) = keyOf o from rfl, e2] at h
        exact absurd h (by decide +kernel)
      | step h hl h1 hr' =>
        rw [e2, show kMul (cd "*") = some (cd "mul") from by decide +kernel] at h
        cases h
        refine ⟨fun σ' H' => ∃ m', m' < _ ∧ W m' σ' H', fun _ _ h => h, ?_⟩
        refine ⟨_, rfl, _, rfl, hl, ?_⟩
        refine ⟨_, rfl, _, rfl, _, rfl, readR C2 h1 fun H3 v3 k3 C3 T3 => ⟨(by show 3 ≤ sizeLine; decide), fun p hp => ?_⟩⟩
        refine ⟨_, Nat.lt_succ_self _, _, _, _, _, rfl, hr', C3.new hp, ((kk.trans k2).trans k3).new hp, Tp.mk (.cons (Tp.s "mul") (.cons ((k2.trans k3).tp C T) (.cons T3 .nil))) hp⟩
    · cases hL with
      | stop h => exact ⟨_, rfl, q _ _ (kk.trans k2) C2 (k2.tp C T)⟩
      | @step _ _ _ o _ _ _ _ h hl h1 hr' =>
        have h2 : kMul (keyOf o) = none := if_neg e1
        rw [h2] at h
        cases h

theorem scboth : FnScope ["cursor", "level", "tree"] ["cursor", "level"] (defScope (top 61)) := ⟨rfl, rfl, rfl, by decide +kernel, rfl, by decide +kernel, by decide +kernel⟩
theorem ok_both {f : Addr} {fd : FuncData} {b : Nat} {R1 R2 : RD} (F : Fun K "read_both" "read_both" (top 61) f fd) (D : Kit P w K mg base CC) (hb : 3 ≤ b) (G1 : OkF P w K mg base "read_plain" ["cursor", "level"] b (spR K CC R1)) (G2 : OkF P w K mg base "read_plain" ["cursor", "level"] b (spR K CC R2)) :
    FnOk P w K mg base CX0 (b + 1) f fd ["cursor", "level"] (spR K CC (RChain R1 R2 kAnd)) := by
  obtain ⟨f1, fd1, g1, kp1, b1, m1⟩ := G1
  obtain ⟨f2, fd2, g2, kp2, b2, m2⟩ := G2
  obtain ⟨f3, fd3, g3, mt3, b3⟩ := D.takes
  obtain ⟨f4, fd4, g4, kp4, b4, m4⟩ := D.deeper
  refine F.ok scboth (fun vs H Q E h => ?_) (fun cdv A outer s H vs Q E hr h => ?_)
  · obtain ⟨c, m, ts, e, n, l, lv, t, l', rfl, _⟩ := h
    rfl
  · obtain ⟨c, m, ts, e, n, l, lv, t, l', rfl, hC, ⟨t0, l0, k, hR1, hL⟩, q⟩ := h
    refine ⟨_, pss_cons (ps_set (i := 2) scboth.nd rfl (.inl rfl) (pe_call g1 hr rfl m1 kp1 b1 .nil pass0 (pa_cons (pv 0) (pa_cons (pv 1) pa_nil))))
      (pss_cons (ps_while PassesOwn.never (pt_val (pe_meth (pv 0) D.U.cl mt3 g3 (hr.mono (by omega)) b3 .nil pass0 (pa_cons pe_str pa_nil)))
        (pss_cons (ps_set (i := 1) scboth.nd rfl (.inl rfl) (pe_call g4 (hr.mono (by omega)) rfl m4 kp4 b4 .nil pass0 (pa_cons (pv 1) pa_nil)))
          (pss_one (ps_set (i := 2) scboth.nd rfl (.inl rfl) (pe_tup (pa_cons pe_str (pa_cons (pv 2) (pa_cons (pe_call g2 hr rfl m2 kp2 b2 .nil pass0 (pa_cons (pv 0) (pa_cons (pv 1) pa_nil))) pa_nil))))))))
      (pss_one (ps_ret (pv 2)))), ?_⟩
    refine ⟨_, rfl, _, rfl, readR hC hR1 fun H1 v1 k1 C1 T1 => ?_⟩
    let W : Nat → St → Hp → Prop := fun mm σ H' => ∃ (lv' : Nat) (t' : PyData) (l1 : List Tk) (v : V), σ = [some (.ref c), some (.int (lv' : Int)), some v] ∧ RLoop R2 kAnd t l' mm lv' t' l1 ∧ CurAt CC H' c m ts e n l1 ∧ KB c H H' ∧ Tp K H' v t'
    refine ⟨W, ⟨_, lv, t0, l0, v1, rfl, hL, C1, k1, T1⟩, ?_⟩
    rintro mm σ H' ⟨lv', t', l1, v, rfl, hL, C, kk, T⟩
    obtain ⟨dx, fs, hc, n1, _⟩ := C.mm
    refine ⟨_, rfl, c, dx, fs, rfl, hc, n1, argS (takesR C (by decide +kernel) (fun o r e1 e2 H2 k2 C2 => ⟨_, rfl, ifT rfl ?_⟩) (fun e1 H2 k2 C2 => ⟨_, rfl, ifF rfl ?_⟩))⟩
    · subst e1
      cases hL with
      | stop h =>
        rw [show key (o :: r) = keyOf o from rfl, e2] at h
        exact absurd h (by decide +kernel)
      | step h hl h1 hr' =>
        rw [e2, show kAnd (cd "and") = some (cd "and") from by decide +kernel] at h
        cases h
        refine ⟨fun σ' H' => ∃ m', m' < _ ∧ W m' σ' H', fun _ _ h => h, ?_⟩
        refine ⟨_, rfl, _, rfl, hl, ?_⟩
        refine ⟨_, rfl, _, rfl, _, rfl, readR C2 h1 fun H3 v3 k3 C3 T3 => ⟨(by show 3 ≤ sizeLine; decide), fun p hp => ?_⟩⟩
        refine ⟨_, Nat.lt_succ_self _, _, _, _, _, rfl, hr', C3.new hp, ((kk.trans k2).trans k3).new hp, Tp.mk (.cons (Tp.s "and") (.cons ((k2.trans k3).tp C T) (.cons T3 .nil))) hp⟩
    · cases hL with
      | stop h => exact ⟨_, rfl, q _ _ (kk.trans k2) C2 (k2.tp C T)⟩
      | @step _ _ _ o _ _ _ _ h hl h1 hr' =>
        have h2 : kAnd (keyOf o) = none := if_neg e1
        rw [h2] at h
        cases h

theorem scexpr : FnScope ["cursor", "level", "tree"] ["cursor", "level"] (defScope (top 60)) := ⟨rfl, rfl, rfl, by decide +kernel, rfl, by decide +kernel, by decide +kernel⟩
theorem ok_expr {f : Addr} {fd : FuncData} {b : Nat} {R1 R2 : RD} (F : Fun K "read_expression" "read_expression" (top 60) f fd) (D : Kit P w K mg base CC) (hb : 3 ≤ b) (G1 : OkF P w K mg base "read_both" ["cursor", "level"] b (spR K CC R1)) (G2 : OkF P w K mg base "read_both" ["cursor", "level"] b (spR K CC R2)) :
    FnOk P w K mg base CX0 (b + 1) f fd ["cursor", "level"] (spR K CC (RChain R1 R2 kOr)) := by
  obtain ⟨f1, fd1, g1, kp1, b1, m1⟩ := G1
  obtain ⟨f2, fd2, g2, kp2, b2, m2⟩ := G2
  obtain ⟨f3, fd3, g3, mt3, b3⟩ := D.takes
  obtain ⟨f4, fd4, g4, kp4, b4, m4⟩ := D.deeper
  refine F.ok scexpr (fun vs H Q E h => ?_) (fun cdv A outer s H vs Q E hr h => ?_)
  · obtain ⟨c, m, ts, e, n, l, lv, t, l', rfl, _⟩ := h
    rfl
  · obtain ⟨c, m, ts, e, n, l, lv, t, l', rfl, hC, ⟨t0, l0, k, hR1, hL⟩, q⟩ := h
    refine ⟨_, pss_cons (ps_set (i := 2) scexpr.nd rfl (.inl rfl) (pe_call g1 hr rfl m1 kp1 b1 .nil pass0 (pa_cons (pv 0) (pa_cons (pv 1) pa_nil))))
      (pss_cons (ps_while PassesOwn.never (pt_val (pe_meth (pv 0) D.U.cl mt3 g3 (hr.mono (by omega)) b3 .nil pass0 (pa_cons pe_str pa_nil)))
        (pss_cons (ps_set (i := 1) scexpr.nd rfl (.inl rfl) (pe_call g4 (hr.mono (by omega)) rfl m4 kp4 b4 .nil pass0 (pa_cons (pv 1) pa_nil)))
          (pss_one (ps_set (i := 2) scexpr.nd rfl (.inl rfl) (pe_tup (pa_cons pe_str (pa_cons (pv 2) (pa_cons (pe_call g2 hr rfl m2 kp2 b2 .nil pass0 (pa_cons (pv 0) (pa_cons (pv 1) pa_nil))) pa_nil))))))))
      (pss_one (ps_ret (pv 2)))), ?_⟩
    refine ⟨_, rfl, _, rfl, readR hC hR1 fun H1 v1 k1 C1 T1 => ?_⟩
    let W : Nat → St → Hp → Prop := fun mm σ H' => ∃ (lv' : Nat) (t' : PyData) (l1 : List Tk) (v : V), σ = [some (.ref c), some (.int (lv' : Int)), some v] ∧ RLoop R2 kOr t l' mm lv' t' l1 ∧ CurAt CC H' c m ts e n l1 ∧ KB c H H' ∧ Tp K H' v t'
    refine ⟨W, ⟨_, lv, t0, l0, v1, rfl, hL, C1, k1, T1⟩, ?_⟩
    rintro mm σ H' ⟨lv', t', l1, v, rfl, hL, C, kk, T⟩
    obtain ⟨dx, fs, hc, n1, _⟩ := C.mm
    refine ⟨_, rfl, c, dx, fs, rfl, hc, n1, argS (takesR C (by decide +kernel) (fun o r e1 e2 H2 k2 C2 => ⟨_, rfl, ifT rfl ?_⟩) (fun e1 H2 k2 C2 => ⟨_, rfl, ifF rfl ?_⟩))⟩
    · subst e1
      cases hL with
      | stop h =>
        rw [show key (o :: r) = keyOf o from rfl, e2] at h
        exact absurd h (by decide +kernel)
      | step h hl h1 hr' =>
        rw [e2, show kOr (cd "or") = some (cd "or") from by decide +kernel] at h
        cases h
        refine ⟨fun σ' H' => ∃ m', m' < _ ∧ W m' σ' H', fun _ _ h => h, ?_⟩
        refine ⟨_, rfl, _, rfl, hl, ?_⟩
        refine ⟨_, rfl, _, rfl, _, rfl, readR C2 h1 fun H3 v3 k3 C3 T3 => ⟨(by show 3 ≤ sizeLine; decide), fun p hp => ?_⟩⟩
        refine ⟨_, Nat.lt_succ_self _, _, _, _, _, rfl, hr', C3.new hp, ((kk.trans k2).trans k3).new hp, Tp.mk (.cons (Tp.s "or") (.cons ((k2.trans k3).tp C T) (.cons T3 .nil))) hp⟩
    · cases hL with
      | stop h => exact ⟨_, rfl, q _ _ (kk.trans k2) C2 (k2.tp C T)⟩
      | @step _ _ _ o _ _ _ _ h hl h1 hr' =>
        have h2 : kOr (keyOf o) = none := if_neg e1
        rw [h2] at h
        cases h

end
end Tk

set_option Elab.async false
set_option linter.all false
set_option maxRecDepth 100000
namespace Tk
open PySem L2 Lx
section
variable {P : Program} {w : World} {K : PySem.W.Frag} {mg : Str → Option Value} {base : Heap} {CC : Addr}
/-! ### read_enclosed -/
theorem scEnc : FnScope ["cursor", "level", "tree"] ["cursor", "level"] (defScope (top 69)) := ⟨rfl, rfl, rfl, by decide +kernel, rfl, by decide +kernel, by decide +kernel⟩
theorem ok_enc {f : Addr} {fd : FuncData} {b : Nat} {R1 : RD} (F : Fun K "read_enclosed" "read_enclosed" (top 69) f fd) (D : Kit P w K mg base CC) (hb : 3 ≤ b) (G1 : OkF P w K mg base "read_expression" ["cursor", "level"] b (spR K CC R1)) :
    FnOk P w K mg base CX0 (b + 1) f fd ["cursor", "level"] (spR K CC (REnc R1)) := by
  obtain ⟨f1, fd1, g1, kp1, b1, m1⟩ := G1
  obtain ⟨f3, fd3, g3, mt3, b3⟩ := D.expect
  obtain ⟨f4, fd4, g4, kp4, b4, m4⟩ := D.deeper
  refine F.ok scEnc (fun vs H Q E h => ?_) (fun cdv A outer s H vs Q E hr h => ?_)
  · obtain ⟨c, m, ts, e, n, l, lv, t, l', rfl, _⟩ := h
    rfl
  · obtain ⟨c, m, ts, e, n, l, lv, t, l', rfl, hC, hR, q⟩ := h
    cases hR with
    | @mk _ o1 o2 l1 _ _ ha hl h hb' =>
      refine ⟨_, pss_cons (ps_expr (pe_meth (pv 0) D.U.cl mt3 g3 (hr.mono (by omega)) b3 .nil pass0 (pa_cons pe_str pa_nil)))
        (pss_cons (ps_set (i := 2) scEnc.nd rfl (.inl rfl) (pe_call g1 hr rfl m1 kp1 b1 .nil pass0 (pa_cons (pv 0) (pa_cons (pe_call g4 (hr.mono (by omega)) rfl m4 kp4 b4 .nil pass0 (pa_cons (pv 1) pa_nil)) pa_nil))))
        (pss_cons (ps_expr (pe_meth (pv 0) D.U.cl mt3 g3 (hr.mono (by omega)) b3 .nil pass0 (pa_cons pe_str pa_nil)))
        (pss_one (ps_ret (pv 2))))), ?_⟩
      obtain ⟨dx, fs, hc, _, n1, _⟩ := hC.mm
      refine ⟨_, rfl, c, dx, fs, rfl, hc, n1, argS (expectR hC ha fun H1 k1 C1 => ?_)⟩
      refine ⟨_, rfl, _, rfl, _, rfl, hl, readR C1 h fun H2 v2 k2 C2 T2 => ?_⟩
      obtain ⟨dx, fs, hc, _, n1, _⟩ := C2.mm
      refine ⟨_, rfl, c, dx, fs, rfl, hc, n1, argS (expectR C2 hb' fun H3 k3 C3 => ?_)⟩
      exact ⟨_, rfl, q _ _ ((k1.trans k2).trans k3) C3 (k3.tp C2 T2)⟩
/-! ### read_variable -/
theorem scVar : FnScope ["cursor", "name"] ["cursor"] (defScope (top 68)) := ⟨rfl, rfl, rfl, by decide +kernel, rfl, by decide +kernel, by decide +kernel⟩
theorem ok_var {f : Addr} {fd : FuncData} (F : Fun K "read_variable" "read_variable" (top 68) f fd) (D : Kit P w K mg base CC) :
    FnOk P w K mg base CX0 4 f fd ["cursor"] (spV K CC) := by
  obtain ⟨f3, fd3, g3, mt3, b3⟩ := D.expect
  obtain ⟨f4, fd4, g4, mt4, b4⟩ := D.takes
  refine F.ok scVar (fun vs H Q E h => ?_) (fun cdv A outer s H vs Q E hr h => ?_)
  · obtain ⟨c, m, ts, e, n, l, t, l', rfl, _⟩ := h
    rfl
  · obtain ⟨c, m, ts, e, n, l, t, l', rfl, hC, hR, q⟩ := h
    refine ⟨_, pss_cons (ps_set (i := 1) scVar.nd rfl (.inl rfl) (pe_meth (pv 0) D.U.cl mt3 g3 hr b3 .nil pass0 (pa_cons pe_str pa_nil)))
        (pss_cons (ps_if (pt_val (pe_meth (pv 0) D.U.cl mt4 g4 hr b4 .nil pass0 (pa_cons pe_str pa_nil)))
          (pss_one (ps_ret (pe_tup (pa_cons pe_str (pa_cons (pv 1) (pa_cons (pe_meth (pv 0) D.U.cl mt3 g3 hr b3 .nil pass0 (pa_cons pe_str pa_nil)) pa_nil)))))) pss_nil)
        (pss_one (ps_ret (pe_tup (pa_cons pe_str (pa_cons (pv 1) pa_nil)))))), ?_⟩
    obtain ⟨dx, fs, hc, _, n1, _⟩ := hC.mm
    cases hR with
    | @var o w1 r h hv hr' =>
      refine ⟨_, rfl, c, dx, fs, rfl, hc, n1, argS (expectW hC h hv fun H1 k1 C1 => ?_)⟩
      obtain ⟨dx, fs, hc, n0, n1, _⟩ := C1.mm
      refine ⟨_, rfl, c, dx, fs, rfl, hc, n0, argS (takesR C1 (by decide +kernel) (fun o r e1 e2 => ?_) (fun e1 H2 k2 C2 => ⟨_, rfl, ifF rfl ?_⟩))⟩
      · subst e1
        exact absurd e2 hr'
      · refine ⟨_, rfl, (by show 2 ≤ sizeLine; decide), fun p hp => ?_⟩
        exact q _ _ ((k1.trans k2).new hp) (C2.new hp) (Tp.mk (.cons (Tp.s "var") (.cons (.str _) .nil)) hp)
    | @mem o d u w1 x r h hv hd hu hx =>
      refine ⟨_, rfl, c, dx, fs, rfl, hc, n1, argS (expectW hC h hv fun H1 k1 C1 => ?_)⟩
      obtain ⟨dx, fs, hc, n0, n1, _⟩ := C1.mm
      refine ⟨_, rfl, c, dx, fs, rfl, hc, n0, argS (takesR C1 (by decide +kernel) (fun o r e1 e2 H2 k2 C2 => ⟨_, rfl, ifT rfl ?_⟩) (fun e1 => absurd hd e1))⟩
      cases e1
      obtain ⟨dx, fs, hc, n0, n1, _⟩ := C2.mm
      refine ⟨_, rfl, _, rfl, c, dx, fs, rfl, hc, n1, argS (expectW C2 hu hx fun H3 k3 C3 => ⟨(by show 3 ≤ sizeLine; decide), fun p hp => ?_⟩)⟩
      exact q _ _ (((k1.trans k2).trans k3).new hp) (C3.new hp) (Tp.mk (.cons (Tp.s "member") (.cons (.str _) (.cons (.str _) .nil))) hp)
/-! ### read_arguments -/
theorem KB.sqtC {H H' : Hp} {c : Addr} {m : Str} {ts : List Tk} {e : Nat} {n : Int} {l : List Tk} (k : KB c H H') (C : CurAt CC H c m ts e n l) {a : Addr} {xs : List V} (z : SqT K H a xs) : SqT K H' a xs := by
  obtain ⟨dx, fs, hc⟩ := C.at
  exact k.sqt hc z
theorem KB.nt {H H' : Hp} {c L : Addr} {m : Str} {ts : List Tk} {e : Nat} {n : Int} {l : List Tk} (k : KB c H H') (C : CurAt CC H c m ts e n l) (nt : ∀ C dx m n M i, H c = some (.ins C dx (cf m n M i)) → L ≠ M) : ∀ C dx m n M i, H' c = some (.ins C dx (cf m n M i)) → L ≠ M := fun C' dx' m' n' M' i' z => by
  obtain ⟨dx, M, rs, i, h1, _⟩ := C.ex
  obtain ⟨n2, i2, h2⟩ := k.cur _ _ _ _ _ _ h1
  obtain ⟨_, _, _, rfl⟩ := ins_inj h2 z
  exact nt _ _ _ _ _ _ h1
theorem CurAt.nt {H : Hp} {c L : Addr} {m : Str} {ts : List Tk} {e : Nat} {n : Int} {l : List Tk} {o : HO} (C : CurAt CC H c m ts e n l) (hL : H L = none) : ∀ C dx m n M i, upd H L o c = some (.ins C dx (cf m n M i)) → L ≠ M := fun C' dx' m' n' M' i' z => by
  obtain ⟨dx, M, rs, i, h1, h2, _⟩ := C.ex
  rw [upd_ne (ne_of_none h1 hL)] at z
  obtain ⟨_, _, _, rfl⟩ := ins_inj h1 z
  exact Ne.symm (ne_of_none h2 hL)
/-- a list of the reader's own is changed -/
theorem lst_put {H : Hp} {c L : Addr} {m : Str} {ts : List Tk} {e : Nat} {n : Int} {l : List Tk} {vs xs : List V} (C : CurAt CC H c m ts e n l) (hL : H L = some (.lst vs)) (hLc : L ≠ c) (nt : ∀ C dx m n M i, H c = some (.ins C dx (cf m n M i)) → L ≠ M) :
    CurAt CC (upd H L (.lst xs)) c m ts e n l ∧ (∀ a ys, SqT K H a ys → SqT K (upd H L (.lst xs)) a ys) ∧ (∀ {v : V} {d : PyData}, Tp K H v d → Tp K (upd H L (.lst xs)) v d) := by
  have k : ∀ a ys, SqT K H a ys → SqT K (upd H L (.lst xs)) a ys := fun a ys z => by
    have ne : ∀ {b : Addr} {o : HO}, H b = some o → (∀ y, o ≠ .lst y) → b ≠ L := fun {b o} e q z => by
      rw [z, hL] at e
      exact q _ (Option.some.inj e).symm
    rcases z with (z | ⟨o, z⟩) | z
    · exact .inl (.inl (by rw [upd_ne (ne z fun _ z => by cases z)]; exact z))
    · exact .inl (.inr ⟨o, by rw [upd_ne (ne z fun _ z => by cases z)]; exact z⟩)
    · exact .inr z
  obtain ⟨dx, M, rs, i, h1, h2, h3, h4, h5⟩ := C.ex
  refine ⟨⟨⟨dx, M, rs, i, ?_, ?_, h3.keep (fun a xs z => ?_), h4, h5⟩, C.wf, C.len⟩, k, fun {v d} T => Tp.keep k d v T⟩
  · rw [upd_ne (Ne.symm hLc)]
    exact h1
  · rw [upd_ne (Ne.symm (nt _ _ _ _ _ _ h1))]
    exact h2
  · have ne : a ≠ L := fun q => by
      rw [q, hL] at z
      cases z
    rw [upd_ne ne]
    exact z
theorem scArg : FnScope ["cursor", "level", "trees"] ["cursor", "level"] (defScope (top 66)) := ⟨rfl, rfl, rfl, by decide +kernel, rfl, by decide +kernel, by decide +kernel⟩
theorem ok_arg {f : Addr} {fd : FuncData} {b : Nat} {R1 : RD} (F : Fun K "read_arguments" "read_arguments" (top 66) f fd) (D : Kit P w K mg base CC) (hb : 3 ≤ b) (G1 : OkF P w K mg base "read_expression" ["cursor", "level"] b (spR K CC R1)) :
    FnOk P w K mg base CX0 (b + 1) f fd ["cursor", "level"] (spR K CC (RArgs R1)) := by
  obtain ⟨f1, fd1, g1, kp1, b1, m1⟩ := G1
  obtain ⟨f3, fd3, g3, mt3, b3⟩ := D.expect
  obtain ⟨f5, fd5, g5, mt5, b5⟩ := D.takes
  obtain ⟨f4, fd4, g4, kp4, b4, m4⟩ := D.deeper
  refine F.ok scArg (fun vs H Q E h => ?_) (fun cdv A outer s H vs Q E hr h => ?_)
  · obtain ⟨c, m, ts, e, n, l, lv, t, l', rfl, _⟩ := h
    rfl
  · obtain ⟨c, m, ts, e, n, l, lv, t, l', rfl, hC, hR, q⟩ := h
    refine ⟨_, pss_cons (ps_if (pt_val (pe_meth (pv 0) D.U.cl mt5 g5 (hr.mono (by omega)) b5 .nil pass0 (pa_cons pe_str pa_nil))) (pss_one (ps_ret (pe_tup pa_nil))) pss_nil)
      (pss_cons (ps_set (i := 2) scArg.nd rfl (.inl rfl) (pe_lst (pa_cons (pe_call g1 hr rfl m1 kp1 b1 .nil pass0 (pa_cons (pv 0) (pa_cons (pe_call g4 (hr.mono (by omega)) rfl m4 kp4 b4 .nil pass0 (pa_cons (pv 1) pa_nil)) pa_nil))) pa_nil)))
      (pss_cons (ps_while PassesOwn.never (pt_val (pe_meth (pv 0) D.U.cl mt5 g5 (hr.mono (by omega)) b5 .nil pass0 (pa_cons pe_str pa_nil)))
        (pss_one (ps_expr (pe_bm PySem.F.plainAttrs_list PySem.F.slot_list_append PySem.F.type_list_append mt_append (pv 2) (pa_cons (pe_call g1 hr rfl m1 kp1 b1 .nil pass0 (pa_cons (pv 0) (pa_cons (pe_call g4 (hr.mono (by omega)) rfl m4 kp4 b4 .nil pass0 (pa_cons (pv 1) pa_nil)) pa_nil))) pa_nil)))))
      (pss_cons (ps_expr (pe_meth (pv 0) D.U.cl mt3 g3 (hr.mono (by omega)) b3 .nil pass0 (pa_cons pe_str pa_nil)))
      (pss_one (ps_ret (pe_callTy call_tuple_of (by rfl) D.tuple (by decide +kernel) (pa_cons (pv 2) pa_nil))))))), ?_⟩
    obtain ⟨dx, fs, hc, n0, n1, _⟩ := hC.mm
    cases hR with
    | @none _ o r h =>
      refine ⟨_, rfl, c, dx, fs, rfl, hc, n0, argS (takesR hC (by decide +kernel) (fun o r e1 e2 H2 k2 C2 => ⟨_, rfl, ifT rfl ?_⟩) (fun e1 => absurd h e1))⟩
      cases e1
      refine ⟨(by show 0 ≤ sizeLine; decide), fun p hp => ?_⟩
      exact q _ _ (k2.new hp) (C2.new hp) (Tp.mk .nil hp)
    | @some _ _ l1 _ d ds h hl hn he hr' =>
      refine ⟨_, rfl, c, dx, fs, rfl, hc, n0, argS (takesR hC (by decide +kernel) (fun o r e1 e2 => ?_) (fun e1 H2 k2 C2 => ⟨_, rfl, ifF rfl ?_⟩))⟩
      · subst e1
        exact absurd e2 h
      refine ⟨_, rfl, _, rfl, _, rfl, hl, readR C2 he fun H3 v3 k3 C3 T3 => ⟨(by show 1 ≤ sizeLine; decide), fun L hL => ?_⟩⟩
      have sL := same_new' (o := .lst [v3]) hL
      have nLH : ∀ b o, H b = some o → b ≠ c → b ≠ L := fun b o e n z => by
        have z2 := (k2.trans k3) b o e n
        rw [z, hL] at z2
        cases z2
      have nLc : L ≠ c := fun z => by
        obtain ⟨dx3, fs3, hc3, _⟩ := C3.mm
        rw [z, hc3] at hL
        cases hL
      let W : Nat → St → Hp → Prop := fun mm σ H' => ∃ (la : List Tk) (da dr : List PyData) (vs : List V), σ = [some (.ref c), some (.int (lv : Int)), some (.ref L)] ∧ mm = dr.length ∧ d :: ds = da ++ dr ∧ RRest R1 lv la dr l' ∧ CurAt CC H' c m ts e n la ∧ KB c H H' ∧ H' L = some (.lst vs) ∧ TpAll K H' vs da ∧ ∀ C dx m n M i, H' c = some (.ins C dx (cf m n M i)) → L ≠ M
      refine ⟨W, ⟨_, l1, [d], ds, [v3], rfl, rfl, rfl, hr', C3.new hL, (k2.trans k3).new hL, upd_same, .cons (T3.new hL) .nil, C3.nt hL⟩, ?_⟩
      rintro mm σ H' ⟨la, da, dr, vs, rfl, rfl, hd, hr', C, kk, hLs, hT, nt⟩
      have hlen : vs.length + dr.length = ds.length + 1 := by
        rw [hT.len, ← List.length_append, ← hd]
        rfl
      obtain ⟨dx, fs, hc, n0, n1, _⟩ := C.mm
      refine ⟨_, rfl, c, dx, fs, rfl, hc, n0, argS (takesR C (by decide +kernel) (fun o r e1 e2 H4 k4 C4 => ⟨_, rfl, ifT rfl ?_⟩) (fun e1 H4 k4 C4 => ⟨_, rfl, ifF rfl ?_⟩))⟩
      · subst e1
        cases hr' with
        | done h5 =>
          rw [h5] at e2
          exact absurd e2 (by decide +kernel)
        | @more _ _ l5 _ d5 ds5 h5 he5 hr5 =>
          refine ⟨fun σ' H' => ∃ m', m' < (d5 :: ds5).length ∧ W m' σ' H', fun _ _ h => h, ?_⟩
          refine ⟨_, rfl, .inl ⟨rfl, _, SqL.of (k4 _ _ hLs nLc)⟩, _, rfl, _, rfl, _, rfl, hl, readR C4 he5 fun H6 v6 k6 C6 T6 => ?_⟩
          have hL6 : H6 L = some (.lst vs) := k6 _ _ (k4 _ _ hLs nLc) nLc
          obtain ⟨q1, q2, q3⟩ := lst_put (K := K) C6 hL6 (xs := vs ++ [v6]) nLc ((k4.trans k6).nt C nt)
          have hll : (d5 :: ds5).length = ds5.length + 1 := rfl
          refine ⟨L, vs, v6, rfl, rfl, hL6, Nat.lt_of_lt_of_le (by omega) (show 20001 ≤ sizeLine by decide), ?_⟩
          refine ⟨ds5.length, Nat.lt_succ_self _, l5, da ++ [d5], ds5, vs ++ [v6], rfl, rfl, ?_, hr5, q1, ⟨fun b o e n => ?_, fun C' dx' m' n' M' i' z => ?_⟩, upd_same, TpAll.snoc (vs := vs) (ds := da) (q3 T6) (TpAll.keep q2 da vs (TpAll.keep (fun a xs z => KB.sqtC (k4.trans k6) C z) da vs hT)), fun C' dx' m' n' M' i' z => ?_⟩
          · rw [List.append_assoc]
            exact hd
          · rw [upd_ne (nLH b o e n)]
            exact k6 _ _ (k4 _ _ (kk _ _ e n) n) n
          · obtain ⟨n2, i2, z2⟩ := (kk.trans (k4.trans k6)).cur _ _ _ _ _ _ z
            exact ⟨n2, i2, by rw [upd_ne (Ne.symm nLc)]; exact z2⟩
          · rw [upd_ne (Ne.symm nLc)] at z
            exact (k4.trans k6).nt C nt _ _ _ _ _ _ z
      · cases hr' with
        | more h5 he5 hr5 => exact absurd h5 e1
        | done h5 =>
          rw [List.append_nil] at hd
          obtain ⟨dx, fs, hc, n0, n1, _⟩ := C4.mm
          refine ⟨_, rfl, c, dx, fs, rfl, hc, n1, argS (expectR C4 h5 fun H6 k6 C6 => ?_)⟩
          have hL6 : H6 L = some (.lst vs) := k6 _ _ (k4 _ _ hLs nLc) nLc
          refine ⟨_, rfl, L, vs, rfl, .inl ⟨SqL.of hL6, fun p hp => ?_⟩⟩
          rw [hd] at q
          exact q _ _ ((kk.trans (k4.trans k6)).new hp) (C6.new hp) (Tp.mk (TpAll.keep (fun a xs z => KB.sqtC (k4.trans k6) C z) da vs hT) hp)
end
end Tk

set_option Elab.async false
set_option linter.all false
set_option maxRecDepth 100000
namespace Tk
open PySem L2 Lx
theorem keq (k : List Nat) (s : String) : decide (V.str (tx k) = V.str (PySem.Str.ofString s)) = decide (k = cd s) := by rw [ofS, str_eq, tl_tx, tl_tx]
theorem keqT {k : List Nat} {s : String} (h : k = cd s) : decide (V.str (tx k) = V.str (PySem.Str.ofString s)) = true := (keq k s).trans (decide_eq_true h)
theorem keqF {k : List Nat} {s : String} (h : k ≠ cd s) : decide (V.str (tx k) = V.str (PySem.Str.ofString s)) = false := (keq k s).trans (decide_eq_false h)
theorem argN {σ : St} {H : Hp} {R : List V → Hp → Prop} (h : R [] H) : tNil σ H R := h
theorem argV {i : Nat} {v : V} {σ : St} {H : Hp} {R : List V → Hp → Prop} (hs : σ[i]? = some (some v)) (h : R [v] H) : tCons (tVar i) tNil σ H R := ⟨v, hs, h⟩
theorem con_hit {k : List Nat} {d : PyData} (h : kCon k = some d) : (k = cd "true" ∧ d = .tuple [ds "bool", .bool true]) ∨ (k = cd "false" ∧ d = .tuple [ds "bool", .bool false]) ∨ (k = cd "none" ∧ d = .tuple [ds "none"]) := by
  unfold kCon at h
  by_cases c1 : k = cd "true"
  · rw [if_pos c1] at h
    exact .inl ⟨c1, (Option.some.inj h).symm⟩
  · rw [if_neg c1] at h
    by_cases c2 : k = cd "false"
    · rw [if_pos c2] at h
      exact .inr (.inl ⟨c2, (Option.some.inj h).symm⟩)
    · rw [if_neg c2] at h
      by_cases c3 : k = cd "none"
      · rw [if_pos c3] at h
        exact .inr (.inr ⟨c3, (Option.some.inj h).symm⟩)
      · rw [if_neg c3] at h
        cases h
theorem lk_hit {a : List Nat} {v : V} {r : List (List Nat × V)} : lk ((a, v) :: r) a = some v := if_pos rfl
theorem lk_pass {a k : List Nat} {v : V} {r : List (List Nat × V)} (h : a ≠ k) : lk ((a, v) :: r) k = lk r k := if_neg h
inductive REnded (E : RD) : RD where
  | mk {lv : Nat} {b : Tk} {l r : List Tk} {d : PyData} (h : E lv l d (b :: r)) (hb : keyOf b = cd ";") : REnded E lv l d r
inductive RLet (E : RD) : RD where
  | mk {lv : Nat} {a b q : Tk} {l r : List Tk} {d : PyData} {w : List Nat} (ha : keyOf a = cd "let") (hb : keyOf b = cd "name") (hv : b.v = .inl w) (hq : keyOf q = cd "=") (h : REnded E lv l d r) : RLet E lv (a :: b :: q :: l) (.tuple [ds "let", dw w, d, .int (a.i : Int)]) r
section
variable {P : Program} {w : World} {K : PySem.W.Frag} {mg : Str → Option Value} {base : Heap} {CC : Addr}
/-! ### read_primary -/
theorem scPrim : FnScope ["cursor", "level", "at", "key", "parameters"] ["cursor", "level"] (defScope (top 67)) := ⟨rfl, rfl, rfl, by decide +kernel, rfl, by decide +kernel, by decide +kernel⟩
theorem ok_prim {f : Addr} {fd : FuncData} {b : Nat} {R1 : RD} (F : Fun K "read_primary" "read_primary" (top 67) f fd) (D : Kit P w K mg base CC) (hb : 4 ≤ b) (G1 : OkF P w K mg base "read_enclosed" ["cursor", "level"] b (spR K CC (REnc R1))) (G2 : OkF P w K mg base "read_variable" ["cursor"] 4 (spV K CC)) :
    FnOk P w K mg base CX0 (b + 1) f fd ["cursor", "level"] (spR K CC (RPrim R1)) := by
  obtain ⟨f1, fd1, g1, kp1, b1, m1⟩ := G1
  obtain ⟨f2, fd2, g2, kp2, b2, m2⟩ := G2
  obtain ⟨f3, fd3, g3, mt3, b3⟩ := D.expect
  obtain ⟨f4, fd4, g4, mt4, b4⟩ := D.takes
  obtain ⟨f5, fd5, g5, mt5, b5⟩ := D.key
  obtain ⟨f6, fd6, g6, mt6, b6⟩ := D.place
  obtain ⟨aC, v1, v2, v3, mC, hKD, hV⟩ := D.con
  refine F.ok scPrim (fun vs H Q E h => ?_) (fun cdv A outer s H vs Q E hr h => ?_)
  · obtain ⟨c, m, ts, e, n, l, lv, t, l', rfl, _⟩ := h
    rfl
  · obtain ⟨c, m, ts, e, n, l, lv, t, l', rfl, hC, hR, q⟩ := h
    refine ⟨_, pss_cons (ps_set (i := 2) scPrim.nd rfl (.inl rfl) (pe_meth0 (pv 0) D.U.cl mt6 g6 (hr.mono (by omega)) b6 .nil pass0))
      (pss_cons (ps_set (i := 3) scPrim.nd rfl (.inl rfl) (pe_meth0 (pv 0) D.U.cl mt5 g5 (hr.mono (by omega)) b5 .nil pass0))
      (pss_cons (ps_if (pt_cmpR op_eq (pv 3) pe_str (nomark _)) (pss_one (ps_ret (pe_call g2 (hr.mono hb) rfl m2 kp2 b2 .nil pass0 (pa_cons (pv 0) pa_nil)))) pss_nil)
      (pss_cons (ps_if (pt_cmpR op_eq (pv 3) pe_str (nomark _)) (pss_one (ps_ret (pe_tup (pa_cons pe_str (pa_cons (pe_meth (pv 0) D.U.cl mt3 g3 (hr.mono (by omega)) b3 .nil pass0 (pa_cons pe_str pa_nil)) pa_nil))))) pss_nil)
      (pss_cons (ps_if (pt_cmpR op_in_kd (pv 3) (pe_glob (v := .ref aC) rfl mC rfl) (by rfl)) (pss_cons (ps_expr (pe_meth (pv 0) D.U.cl mt3 g3 (hr.mono (by omega)) b3 .nil pass0 (pa_cons (pv 3) pa_nil))) (pss_one (ps_ret (pe_ix ix_kdict (pe_glob (v := .ref aC) rfl mC rfl) (pv 3) (fun _ _ => rfl))))) pss_nil)
      (pss_cons (ps_if (pt_val (pe_meth (pv 0) D.U.cl mt4 g4 (hr.mono (by omega)) b4 .nil pass0 (pa_cons pe_str pa_nil))) (pss_one ps_never) pss_nil)
      (pss_cons (ps_if (pt_val (pe_meth (pv 0) D.U.cl mt4 g4 (hr.mono (by omega)) b4 .nil pass0 (pa_cons pe_str pa_nil))) (pss_cons ps_never (pss_one ps_never)) pss_nil)
      (pss_one (ps_ret (pe_call g1 hr rfl m1 kp1 b1 .nil pass0 (pa_cons (pv 0) (pa_cons (pv 1) pa_nil))))))))))), ?_⟩
    obtain ⟨dx, fs, hc, n0, n1, n2, n3⟩ := hC.mm
    refine ⟨_, rfl, c, dx, fs, rfl, hc, n3, argN (placeR hC ?_)⟩
    refine ⟨_, rfl, c, dx, fs, rfl, hc, n2, argN (keyR hC fun H1 k1 C1 => ?_)⟩
    obtain ⟨dx, fs, hc, n0, n1, n2, n3⟩ := C1.mm
    cases hR with
    | @var _ o l1 _ _ h hr' =>
      refine ⟨_, rfl, rfl, _, rfl, ifT (keqT h) ?_⟩
      exact ⟨_, rfl, c, m, ts, e, n, _, _, _, rfl, C1, hr', fun H2 v k2 => q H2 v (k1.trans k2)⟩
    | @num _ o r x h hv =>
      refine ⟨_, rfl, rfl, _, rfl, ifF (keqF (show keyOf o ≠ _ by rw [h]; decide +kernel)) ?_⟩
      refine ⟨_, rfl, rfl, _, rfl, ifT (keqT h) ?_⟩
      refine ⟨_, rfl, c, dx, fs, rfl, hc, n1, argS (expectN C1 h hv fun H2 k2 C2 => ⟨(by show 2 ≤ sizeLine; decide), fun p hp => ?_⟩)⟩
      exact q _ _ ((k1.trans k2).new hp) (C2.new hp) (Tp.mk (.cons (Tp.s "int") (.cons (.int _) .nil)) hp)
    | @con _ o r d h =>
      obtain ⟨u, hu, hT⟩ : ∃ u, lk [(cd "true", v1), (cd "false", v2), (cd "none", v3)] (keyOf o) = some u ∧ ∀ H, Tp K H u t := by
        rcases con_hit h with ⟨e1, e2⟩ | ⟨e1, e2⟩ | ⟨e1, e2⟩
        · rw [e1, e2]
          exact ⟨v1, lk_hit, fun H => (hV H).1⟩
        · rw [e1, e2]
          exact ⟨v2, (lk_pass (by decide +kernel)).trans lk_hit, fun H => (hV H).2.1⟩
        · rw [e1, e2]
          exact ⟨v3, (lk_pass (by decide +kernel)).trans ((lk_pass (by decide +kernel)).trans lk_hit), fun H => (hV H).2.2⟩
      have hne : keyOf o ≠ cd "name" ∧ keyOf o ≠ cd "number" := by
        rcases con_hit h with ⟨e1, _⟩ | ⟨e1, _⟩ | ⟨e1, _⟩ <;> rw [e1] <;> decide +kernel
      refine ⟨_, rfl, rfl, _, rfl, ifF (keqF hne.1) ?_⟩
      refine ⟨_, rfl, rfl, _, rfl, ifF (keqF hne.2) ?_⟩
      refine ⟨_, rfl, aC, _, keyOf o, rfl, rfl, hKD, _, rfl, ifT (by rw [hu]; rfl) ?_⟩
      refine ⟨_, rfl, c, dx, fs, rfl, hc, n1, argV rfl (expectK C1 rfl fun H2 k2 C2 => ?_)⟩
      exact ⟨_, rfl, aC, _, u, rfl, rfl, hKD.hit hu, q _ _ (k1.trans k2) C2 (hT _)⟩
    | @enc _ o l1 _ _ h he =>
      refine ⟨_, rfl, rfl, _, rfl, ifF (keqF (show keyOf o ≠ _ by rw [h]; decide +kernel)) ?_⟩
      refine ⟨_, rfl, rfl, _, rfl, ifF (keqF (show keyOf o ≠ _ by rw [h]; decide +kernel)) ?_⟩
      refine ⟨_, rfl, aC, _, keyOf o, rfl, rfl, hKD, _, rfl, ifF ?_ ?_⟩
      · rw [h, lk_pass (by decide +kernel), lk_pass (by decide +kernel), lk_pass (by decide +kernel)]
        rfl
      refine ⟨_, rfl, c, dx, fs, rfl, hc, n0, argS (takesR C1 (by decide +kernel) (fun o r e1 e2 => ?_) (fun e1 H2 k2 C2 => ⟨_, rfl, ifF rfl ?_⟩))⟩
      · cases e1
        rw [h] at e2
        exact absurd e2 (by decide +kernel)
      obtain ⟨dx, fs, hc, n0, n1, n2, n3⟩ := C2.mm
      refine ⟨_, rfl, c, dx, fs, rfl, hc, n0, argS (takesR C2 (by decide +kernel) (fun o r e1 e2 => ?_) (fun e1 H3 k3 C3 => ⟨_, rfl, ifF rfl ?_⟩))⟩
      · cases e1
        rw [h] at e2
        exact absurd e2 (by decide +kernel)
      exact ⟨_, rfl, _, rfl, readR C3 he fun H4 v k4 => q H4 v (((k1.trans k2).trans k3).trans k4)⟩
/-! ### read_sum -/
theorem scSum : FnScope ["cursor", "level", "tree", "kind"] ["cursor", "level"] (defScope (top 63)) := ⟨rfl, rfl, rfl, by decide +kernel, rfl, by decide +kernel, by decide +kernel⟩
theorem sum_lk (k : List Nat) : lk [(cd "+", V.str (tx (cd "add"))), (cd "-", .str (tx (cd "sub")))] k = (kSum k).map fun x => V.str (tx x) := by
  unfold kSum
  by_cases c1 : k = cd "+"
  · rw [if_pos c1, c1]
    exact lk_hit
  · rw [if_neg c1, lk_pass (Ne.symm c1)]
    by_cases c2 : k = cd "-"
    · rw [if_pos c2, c2]
      exact lk_hit
    · rw [if_neg c2, lk_pass (Ne.symm c2)]
      rfl
theorem cmp_lk (k : List Nat) : lk [(cd "<", V.str (tx (cd "lt"))), (cd "==", .str (tx (cd "eq")))] k = (kCmp k).map fun x => V.str (tx x) := by
  unfold kCmp
  by_cases c1 : k = cd "<"
  · rw [if_pos c1, c1]
    exact lk_hit
  · rw [if_neg c1, lk_pass (Ne.symm c1)]
    by_cases c2 : k = cd "=="
    · rw [if_pos c2, c2]
      exact lk_hit
    · rw [if_neg c2, lk_pass (Ne.symm c2)]
      rfl
theorem ok_sum {f : Addr} {fd : FuncData} {b : Nat} {R1 R2 : RD} (F : Fun K "read_sum" "read_sum" (top 63) f fd) (D : Kit P w K mg base CC) (hb : 3 ≤ b) (G1 : OkF P w K mg base "read_product" ["cursor", "level"] b (spR K CC R1)) :
    FnOk P w K mg base CX0 (b + 1) f fd ["cursor", "level"] (spR K CC (RChain R1 R1 kSum)) := by
  obtain ⟨f1, fd1, g1, kp1, b1, m1⟩ := G1
  obtain ⟨f3, fd3, g3, mt3, b3⟩ := D.expect
  obtain ⟨f5, fd5, g5, mt5, b5⟩ := D.key
  obtain ⟨f4, fd4, g4, kp4, b4, m4⟩ := D.deeper
  obtain ⟨aS, mS, hKD⟩ := D.sums
  refine F.ok scSum (fun vs H Q E h => ?_) (fun cdv A outer s H vs Q E hr h => ?_)
  · obtain ⟨c, m, ts, e, n, l, lv, t, l', rfl, _⟩ := h
    rfl
  · obtain ⟨c, m, ts, e, n, l, lv, t, l', rfl, hC, ⟨t0, l0, k, hR1, hL⟩, q⟩ := h
    refine ⟨_, pss_cons (ps_set (i := 2) scSum.nd rfl (.inl rfl) (pe_call g1 hr rfl m1 kp1 b1 .nil pass0 (pa_cons (pv 0) (pa_cons (pv 1) pa_nil))))
      (pss_cons (ps_while PassesOwn.never (pt_cmpR op_in_kd (pe_meth0 (pv 0) D.U.cl mt5 g5 (hr.mono (by omega)) b5 .nil pass0) (pe_glob (v := .ref aS) rfl mS rfl) (by rfl))
        (pss_cons (ps_set (i := 3) scSum.nd rfl (.inl rfl) (pe_ix ix_kdict (pe_glob (v := .ref aS) rfl mS rfl) (pe_meth0 (pv 0) D.U.cl mt5 g5 (hr.mono (by omega)) b5 .nil pass0) (fun _ _ => rfl)))
        (pss_cons (ps_expr (pe_meth (pv 0) D.U.cl mt3 g3 (hr.mono (by omega)) b3 .nil pass0 (pa_cons (pe_meth0 (pv 0) D.U.cl mt5 g5 (hr.mono (by omega)) b5 .nil pass0) pa_nil)))
        (pss_cons (ps_set (i := 1) scSum.nd rfl (.inl rfl) (pe_call g4 (hr.mono (by omega)) rfl m4 kp4 b4 .nil pass0 (pa_cons (pv 1) pa_nil)))
          (pss_one (ps_set (i := 2) scSum.nd rfl (.inl rfl) (pe_tup (pa_cons (pv 3) (pa_cons (pv 2) (pa_cons (pe_call g1 hr rfl m1 kp1 b1 .nil pass0 (pa_cons (pv 0) (pa_cons (pv 1) pa_nil))) pa_nil))))))))))
      (pss_one (ps_ret (pv 2)))), ?_⟩
    refine ⟨_, rfl, _, rfl, readR hC hR1 fun H1 v1 k1 C1 T1 => ?_⟩
    let W : Nat → St → Hp → Prop := fun mm σ H' => ∃ (lv' : Nat) (t' : PyData) (l1 : List Tk) (v : V) (x : Option V), σ = [some (.ref c), some (.int (lv' : Int)), some v, x] ∧ RLoop R1 kSum t l' mm lv' t' l1 ∧ CurAt CC H' c m ts e n l1 ∧ KB c H H' ∧ Tp K H' v t'
    refine ⟨W, ⟨_, lv, t0, l0, v1, _, rfl, hL, C1, k1, T1⟩, ?_⟩
    rintro mm σ H' ⟨lv', t', l1, v, x, rfl, hL, C, kk, T⟩
    obtain ⟨dx, fs, hc, n0, n1, n2, n3⟩ := C.mm
    refine ⟨_, rfl, c, dx, fs, rfl, hc, n2, argN (keyR C fun H2 k2 C2 => ⟨aS, _, key l1, rfl, rfl, hKD, _, rfl, ?_⟩)⟩
    rw [sum_lk]
    cases hL with
    | stop h =>
      refine ifF (by rw [h]; rfl) ?_
      exact ⟨_, rfl, q _ _ (kk.trans k2) C2 (k2.tp C T)⟩
    | @step _ _ _ o _ _ d kd h hl h1 hr' =>
      refine ifT (by rw [show key (o :: _) = keyOf o from rfl, h]; rfl) ?_
      refine ⟨fun σ' H' => ∃ m', m' < _ ∧ W m' σ' H', fun _ _ h => h, ?_⟩
      obtain ⟨dx, fs, hc, n0, n1, n2, n3⟩ := C2.mm
      refine ⟨_, rfl, c, dx, fs, rfl, hc, n2, argN (keyR C2 fun H3 k3 C3 => ?_)⟩
      refine ⟨aS, _, .str (tx kd), rfl, rfl, hKD.hit (by rw [sum_lk, show key (o :: _) = keyOf o from rfl, h]; rfl), ?_⟩
      obtain ⟨dx, fs, hc, n0, n1, n2, n3⟩ := C3.mm
      refine ⟨_, rfl, c, dx, fs, rfl, hc, n1, _, rfl, c, dx, fs, rfl, hc, n2, argN (keyR C3 fun H4 k4 C4 => ?_)⟩
      refine argN (expectK C4 rfl fun H5 k5 C5 => ?_)
      refine ⟨_, rfl, _, rfl, hl, ?_⟩
      refine ⟨_, rfl, _, rfl, _, rfl, _, rfl, readR C5 h1 fun H6 v6 k6 C6 T6 => ⟨(by show 3 ≤ sizeLine; decide), fun p hp => ?_⟩⟩
      refine ⟨_, Nat.lt_succ_self _, _, _, _, _, _, rfl, hr', C6.new hp, (((((kk.trans k2).trans k3).trans k4).trans k5).trans k6).new hp, Tp.mk (.cons (.str _) (.cons (((((k2.trans k3).trans k4).trans k5).trans k6).tp C T) (.cons T6 .nil))) hp⟩
/-! ### read_plain -/
theorem scPlain : FnScope ["cursor", "level", "tree", "key"] ["cursor", "level"] (defScope (top 62)) := ⟨rfl, rfl, rfl, by decide +kernel, rfl, by decide +kernel, by decide +kernel⟩
theorem ok_plain {f : Addr} {fd : FuncData} {b : Nat} {E1 P1 : RD} (F : Fun K "read_plain" "read_plain" (top 62) f fd) (D : Kit P w K mg base CC) (hb : 3 ≤ b) (G1 : OkF P w K mg base "read_sum" ["cursor", "level"] b (spR K CC (RSum E1))) (G2 : OkF P w K mg base "read_plain" ["cursor", "level"] b (spR K CC P1)) :
    FnOk P w K mg base CX0 (b + 1) f fd ["cursor", "level"] (spR K CC (RPlain E1 P1)) := by
  obtain ⟨f1, fd1, g1, kp1, b1, m1⟩ := G1
  obtain ⟨f2, fd2, g2, kp2, b2, m2⟩ := G2
  obtain ⟨f3, fd3, g3, mt3, b3⟩ := D.expect
  obtain ⟨f6, fd6, g6, mt6, b6⟩ := D.takes
  obtain ⟨f5, fd5, g5, mt5, b5⟩ := D.key
  obtain ⟨f4, fd4, g4, kp4, b4, m4⟩ := D.deeper
  obtain ⟨aS, mS, hKD⟩ := D.cmp
  refine F.ok scPlain (fun vs H Q E h => ?_) (fun cdv A outer s H vs Q E hr h => ?_)
  · obtain ⟨c, m, ts, e, n, l, lv, t, l', rfl, _⟩ := h
    rfl
  · obtain ⟨c, m, ts, e, n, l, lv, t, l', rfl, hC, hR, q⟩ := h
    refine ⟨_, pss_cons (ps_if (pt_val (pe_meth (pv 0) D.U.cl mt6 g6 (hr.mono (by omega)) b6 .nil pass0 (pa_cons pe_str pa_nil)))
        (pss_one (ps_ret (pe_tup (pa_cons pe_str (pa_cons (pe_call g2 hr rfl m2 kp2 b2 .nil pass0 (pa_cons (pv 0) (pa_cons (pe_call g4 (hr.mono (by omega)) rfl m4 kp4 b4 .nil pass0 (pa_cons (pv 1) pa_nil)) pa_nil))) pa_nil))))) pss_nil)
      (pss_cons (ps_set (i := 2) scPlain.nd rfl (.inl rfl) (pe_call g1 hr rfl m1 kp1 b1 .nil pass0 (pa_cons (pv 0) (pa_cons (pv 1) pa_nil))))
      (pss_cons (ps_set (i := 3) scPlain.nd rfl (.inl rfl) (pe_meth0 (pv 0) D.U.cl mt5 g5 (hr.mono (by omega)) b5 .nil pass0))
      (pss_cons (ps_if (pt_cmpR op_in_kd (pv 3) (pe_glob (v := .ref aS) rfl mS rfl) (by rfl))
        (pss_cons (ps_expr (pe_meth (pv 0) D.U.cl mt3 g3 (hr.mono (by omega)) b3 .nil pass0 (pa_cons (pv 3) pa_nil)))
          (pss_one (ps_ret (pe_tup (pa_cons (pe_ix ix_kdict (pe_glob (v := .ref aS) rfl mS rfl) (pv 3) (fun _ _ => rfl)) (pa_cons (pv 2) (pa_cons (pe_call g1 hr rfl m1 kp1 b1 .nil pass0 (pa_cons (pv 0) (pa_cons (pe_call g4 (hr.mono (by omega)) rfl m4 kp4 b4 .nil pass0 (pa_cons (pv 1) pa_nil)) pa_nil))) pa_nil))))))) pss_nil)
      (pss_one (ps_ret (pv 2)))))), ?_⟩
    obtain ⟨dx, fs, hc, n0, n1, n2, n3⟩ := hC.mm
    cases hR with
    | @neg _ o l1 _ d h hl hp =>
      refine ⟨_, rfl, c, dx, fs, rfl, hc, n0, argS (takesR hC (by decide +kernel) (fun o r e1 e2 H2 k2 C2 => ⟨_, rfl, ifT rfl ?_⟩) (fun e1 => absurd h e1))⟩
      cases e1
      refine ⟨_, rfl, _, rfl, _, rfl, hl, readR C2 hp fun H3 v3 k3 C3 T3 => ⟨(by show 2 ≤ sizeLine; decide), fun p hp => ?_⟩⟩
      exact q _ _ ((k2.trans k3).new hp) (C3.new hp) (Tp.mk (.cons (Tp.s "not") (.cons T3 .nil)) hp)
    | @sum _ _ _ _ h hs hk =>
      refine ⟨_, rfl, c, dx, fs, rfl, hc, n0, argS (takesR hC (by decide +kernel) (fun o r e1 e2 => ?_) (fun e1 H2 k2 C2 => ⟨_, rfl, ifF rfl ?_⟩))⟩
      · subst e1
        exact absurd e2 h
      refine ⟨_, rfl, _, rfl, readR C2 hs fun H3 v3 k3 C3 T3 => ?_⟩
      obtain ⟨dx, fs, hc, n0, n1, n2, n3⟩ := C3.mm
      refine ⟨_, rfl, c, dx, fs, rfl, hc, n2, argN (keyR C3 fun H4 k4 C4 => ?_)⟩
      refine ⟨_, rfl, aS, _, key l', rfl, rfl, hKD, _, rfl, ifF (by rw [cmp_lk, hk]; rfl) ?_⟩
      exact ⟨_, rfl, q _ _ ((k2.trans k3).trans k4) C4 (k4.tp C3 T3)⟩
    | @cmp _ o _ l1 _ d d2 kd h hs hk hl h2 =>
      refine ⟨_, rfl, c, dx, fs, rfl, hc, n0, argS (takesR hC (by decide +kernel) (fun o r e1 e2 => ?_) (fun e1 H2 k2 C2 => ⟨_, rfl, ifF rfl ?_⟩))⟩
      · subst e1
        exact absurd e2 h
      refine ⟨_, rfl, _, rfl, readR C2 hs fun H3 v3 k3 C3 T3 => ?_⟩
      obtain ⟨dx, fs, hc, n0, n1, n2, n3⟩ := C3.mm
      refine ⟨_, rfl, c, dx, fs, rfl, hc, n2, argN (keyR C3 fun H4 k4 C4 => ?_)⟩
      refine ⟨_, rfl, aS, _, keyOf o, rfl, rfl, hKD, _, rfl, ifT (by rw [cmp_lk, hk]; rfl) ?_⟩
      obtain ⟨dx, fs, hc, n0, n1, n2, n3⟩ := C4.mm
      refine ⟨_, rfl, c, dx, fs, rfl, hc, n1, argV rfl (expectK C4 rfl fun H5 k5 C5 => ?_)⟩
      refine ⟨_, rfl, aS, _, .str (tx kd), rfl, rfl, hKD.hit (show lk _ (keyOf o) = _ by rw [cmp_lk, hk]; rfl), ?_⟩
      refine ⟨_, rfl, _, rfl, _, rfl, _, rfl, hl, readR C5 h2 fun H6 v6 k6 C6 T6 => ⟨(by show 3 ≤ sizeLine; decide), fun p hp => ?_⟩⟩
      exact q _ _ ((((k2.trans k3).trans k4).trans k5).trans k6 |>.new hp) (C6.new hp) (Tp.mk (.cons (.str _) (.cons (((k4.trans k5).trans k6).tp C3 T3) (.cons T6 .nil))) hp)
end
end Tk

set_option Elab.async false
set_option linter.all false
set_option maxRecDepth 100000
namespace Tk
open PySem L2 Lx
/-- what an item's reader makes: before, trees, behind -/
abbrev RI : Type := List Tk → List PyData → List Tk → Prop
inductive RItem (S : RD) : RI where
  | st {a : Tk} {l r : List Tk} {d : PyData} (h1 : keyOf a ≠ [105, 109, 112, 111, 114, 116]) (h2 : keyOf a ≠ cd "export") (h : S 1 (a :: l) d r) : RItem S (a :: l) [d] r
def spI (K : PySem.W.Frag) (CC : Addr) (R : RI) : Sp := fun vs H Q _ => ∃ (c : Addr) (m : Str) (ts : List Tk) (e : Nat) (n : Int) (l : List Tk) (ds : List PyData) (l' : List Tk),
  vs = [.ref c] ∧ CurAt CC H c m ts e n l ∧ R l ds l' ∧ ∀ H' A xs, KB c H H' → CurAt CC H' c m ts e n l' → H A = none → A ≠ c → H' A = some (.lst xs) → TpAll K H' xs ds → Q (.ref A) H'
section
variable {P : Program} {w : World} {K : PySem.W.Frag} {mg : Str → Option Value} {base : Heap} {CC : Addr}
/-! ### read_ended_expression -/
theorem scEnd : FnScope ["cursor", "level", "tree"] ["cursor", "level"] (defScope (top 59)) := ⟨rfl, rfl, rfl, by decide +kernel, rfl, by decide +kernel, by decide +kernel⟩
theorem ok_ended {f : Addr} {fd : FuncData} {b : Nat} {R1 : RD} (F : Fun K "read_ended_expression" "read_ended_expression" (top 59) f fd) (D : Kit P w K mg base CC) (hb : 3 ≤ b) (G1 : OkF P w K mg base "read_expression" ["cursor", "level"] b (spR K CC R1)) :
    FnOk P w K mg base CX0 (b + 1) f fd ["cursor", "level"] (spR K CC (REnded R1)) := by
  obtain ⟨f1, fd1, g1, kp1, b1, m1⟩ := G1
  obtain ⟨f3, fd3, g3, mt3, b3⟩ := D.expect
  refine F.ok scEnd (fun vs H Q E h => ?_) (fun cdv A outer s H vs Q E hr h => ?_)
  · obtain ⟨c, m, ts, e, n, l, lv, t, l', rfl, _⟩ := h
    rfl
  · obtain ⟨c, m, ts, e, n, l, lv, t, l', rfl, hC, hR, q⟩ := h
    cases hR with
    | @mk _ o _ _ _ h hb' =>
      refine ⟨_, pss_cons (ps_set (i := 2) scEnd.nd rfl (.inl rfl) (pe_call g1 hr rfl m1 kp1 b1 .nil pass0 (pa_cons (pv 0) (pa_cons (pv 1) pa_nil))))
        (pss_cons (ps_expr (pe_meth (pv 0) D.U.cl mt3 g3 (hr.mono (by omega)) b3 .nil pass0 (pa_cons pe_str pa_nil)))
        (pss_one (ps_ret (pv 2)))), ?_⟩
      refine ⟨_, rfl, _, rfl, readR hC h fun H2 v2 k2 C2 T2 => ?_⟩
      obtain ⟨dx, fs, hc, _, n1, _⟩ := C2.mm
      refine ⟨_, rfl, c, dx, fs, rfl, hc, n1, argS (expectR C2 hb' fun H3 k3 C3 => ?_)⟩
      exact ⟨_, rfl, q _ _ (k2.trans k3) C3 (k3.tp C2 T2)⟩
/-! ### read_let -/
theorem scLet : FnScope ["cursor", "level", "at", "name"] ["cursor", "level"] (defScope (top 49)) := ⟨rfl, rfl, rfl, by decide +kernel, rfl, by decide +kernel, by decide +kernel⟩
theorem ok_let {f : Addr} {fd : FuncData} {b : Nat} {R1 : RD} (F : Fun K "read_let" "read_let" (top 49) f fd) (D : Kit P w K mg base CC) (hb : 3 ≤ b) (G1 : OkF P w K mg base "read_ended_expression" ["cursor", "level"] b (spR K CC (REnded R1))) :
    FnOk P w K mg base CX0 (b + 1) f fd ["cursor", "level"] (spR K CC (RLet R1)) := by
  obtain ⟨f1, fd1, g1, kp1, b1, m1⟩ := G1
  obtain ⟨f3, fd3, g3, mt3, b3⟩ := D.expect
  obtain ⟨f6, fd6, g6, mt6, b6⟩ := D.place
  refine F.ok scLet (fun vs H Q E h => ?_) (fun cdv A outer s H vs Q E hr h => ?_)
  · obtain ⟨c, m, ts, e, n, l, lv, t, l', rfl, _⟩ := h
    rfl
  · obtain ⟨c, m, ts, e, n, l, lv, t, l', rfl, hC, hR, q⟩ := h
    cases hR with
    | @mk _ a bb qq _ _ d w1 ha hb' hv hq h =>
      refine ⟨_, pss_cons (ps_set (i := 2) scLet.nd rfl (.inl rfl) (pe_meth0 (pv 0) D.U.cl mt6 g6 (hr.mono (by omega)) b6 .nil pass0))
        (pss_cons (ps_expr (pe_meth (pv 0) D.U.cl mt3 g3 (hr.mono (by omega)) b3 .nil pass0 (pa_cons pe_str pa_nil)))
        (pss_cons (ps_set (i := 3) scLet.nd rfl (.inl rfl) (pe_meth (pv 0) D.U.cl mt3 g3 (hr.mono (by omega)) b3 .nil pass0 (pa_cons pe_str pa_nil)))
        (pss_cons (ps_expr (pe_meth (pv 0) D.U.cl mt3 g3 (hr.mono (by omega)) b3 .nil pass0 (pa_cons pe_str pa_nil)))
        (pss_one (ps_ret (pe_tup (pa_cons pe_str (pa_cons (pv 3) (pa_cons (pe_call g1 hr rfl m1 kp1 b1 .nil pass0 (pa_cons (pv 0) (pa_cons (pv 1) pa_nil))) (pa_cons (pv 2) pa_nil)))))))))), ?_⟩
      obtain ⟨dx, fs, hc, n0, n1, n2, n3⟩ := hC.mm
      refine ⟨_, rfl, c, dx, fs, rfl, hc, n3, argN (placeR hC ?_)⟩
      refine ⟨_, rfl, c, dx, fs, rfl, hc, n1, argS (expectR hC ha fun H1 k1 C1 => ?_)⟩
      obtain ⟨dx, fs, hc, n0, n1, n2, n3⟩ := C1.mm
      refine ⟨_, rfl, c, dx, fs, rfl, hc, n1, argS (expectW C1 hb' hv fun H2 k2 C2 => ?_)⟩
      obtain ⟨dx, fs, hc, n0, n1, n2, n3⟩ := C2.mm
      refine ⟨_, rfl, c, dx, fs, rfl, hc, n1, argS (expectR C2 hq fun H3 k3 C3 => ?_)⟩
      refine ⟨_, rfl, _, rfl, _, rfl, readR C3 h fun H4 v4 k4 C4 T4 => ⟨_, rfl, (by show 4 ≤ sizeLine; decide), fun p hp => ?_⟩⟩
      exact q _ _ ((((k1.trans k2).trans k3).trans k4).new hp) (C4.new hp) (Tp.mk (.cons (Tp.s "let") (.cons (.str _) (.cons T4 (.cons (.int _) .nil)))) hp)
/-! ### read_statement -/
inductive RStmt (S : RD) : RD where
  | let_ {lv : Nat} {a : Tk} {l r : List Tk} {d : PyData} (h : keyOf a = cd "let") (hs : S lv (a :: l) d r) : RStmt S lv (a :: l) d r
theorem scStmt : FnScope ["cursor", "level", "key", "at"] ["cursor", "level"] (defScope (top 48)) := ⟨rfl, rfl, rfl, by decide +kernel, rfl, by decide +kernel, by decide +kernel⟩
theorem ok_stmt {f : Addr} {fd : FuncData} {b : Nat} {R1 : RD} (F : Fun K "read_statement" "read_statement" (top 48) f fd) (D : Kit P w K mg base CC) (hb : 3 ≤ b) (G1 : OkF P w K mg base "read_let" ["cursor", "level"] b (spR K CC R1)) :
    FnOk P w K mg base CX0 (b + 1) f fd ["cursor", "level"] (spR K CC (RStmt R1)) := by
  obtain ⟨f1, fd1, g1, kp1, b1, m1⟩ := G1
  obtain ⟨f5, fd5, g5, mt5, b5⟩ := D.key
  refine F.ok scStmt (fun vs H Q E h => ?_) (fun cdv A outer s H vs Q E hr h => ?_)
  · obtain ⟨c, m, ts, e, n, l, lv, t, l', rfl, _⟩ := h
    rfl
  · obtain ⟨c, m, ts, e, n, l, lv, t, l', rfl, hC, hR, q⟩ := h
    refine ⟨_, pss_cons (ps_set (i := 2) scStmt.nd rfl (.inl rfl) (pe_meth0 (pv 0) D.U.cl mt5 g5 (hr.mono (by omega)) b5 .nil pass0))
      (pss_cons (ps_if (pt_cmpR op_eq (pv 2) pe_str (nomark _)) (pss_one (ps_ret (pe_call g1 hr rfl m1 kp1 b1 .nil pass0 (pa_cons (pv 0) (pa_cons (pv 1) pa_nil))))) pss_nil)
      (pss_cons ps_never (pss_cons ps_never (pss_cons ps_never (pss_cons ps_never (pss_cons ps_never (pss_cons ps_never (pss_cons ps_never (pss_cons ps_never (pss_one ps_never)))))))))), ?_⟩
    cases hR with
    | let_ h hs =>
      obtain ⟨dx, fs, hc, n0, n1, n2, n3⟩ := hC.mm
      refine ⟨_, rfl, c, dx, fs, rfl, hc, n2, argN (keyR hC fun H1 k1 C1 => ?_)⟩
      refine ⟨_, rfl, rfl, _, rfl, ifT (keqT h) ?_⟩
      exact ⟨_, rfl, _, rfl, readR C1 hs fun H4 v k4 => q H4 v (k1.trans k4)⟩
/-! ### read_item -/
theorem scItem : FnScope ["cursor"] ["cursor"] (defScope (top 41)) := ⟨rfl, rfl, rfl, by decide +kernel, rfl, by decide +kernel, by decide +kernel⟩
theorem ok_item {f : Addr} {fd : FuncData} {b : Nat} {R1 : RD} (F : Fun K "read_item" "read_item" (top 41) f fd) (D : Kit P w K mg base CC) (hb : 3 ≤ b) (G1 : OkF P w K mg base "read_statement" ["cursor", "level"] b (spR K CC R1)) :
    FnOk P w K mg base CX0 (b + 1) f fd ["cursor"] (spI K CC (RItem R1)) := by
  obtain ⟨f1, fd1, g1, kp1, b1, m1⟩ := G1
  obtain ⟨f5, fd5, g5, mt5, b5⟩ := D.key
  refine F.ok scItem (fun vs H Q E h => ?_) (fun cdv A outer s H vs Q E hr h => ?_)
  · obtain ⟨c, m, ts, e, n, l, t, l', rfl, _⟩ := h
    rfl
  · obtain ⟨c, m, ts, e, n, l, t, l', rfl, hC, hR, q⟩ := h
    refine ⟨_, pss_cons (ps_if (pt_cmpR op_eq (pe_meth0 (pv 0) D.U.cl mt5 g5 (hr.mono (by omega)) b5 .nil pass0) pe_str (nomark _)) (pss_one ps_never) pss_nil)
      (pss_cons (ps_if (pt_cmpR op_eq (pe_meth0 (pv 0) D.U.cl mt5 g5 (hr.mono (by omega)) b5 .nil pass0) pe_str (nomark _)) (pss_one ps_never) pss_nil)
      (pss_one (ps_ret (pe_lst (pa_cons (pe_call g1 hr rfl m1 kp1 b1 .nil pass0 (pa_cons (pv 0) (pa_cons pe_int pa_nil))) pa_nil))))), ?_⟩
    cases hR with
    | @st a _ _ d h1 h2 h =>
      obtain ⟨dx, fs, hc, n0, n1, n2, n3⟩ := hC.mm
      refine ⟨_, rfl, c, dx, fs, rfl, hc, n2, argN (keyR hC fun H1 k1 C1 => ?_)⟩
      refine ⟨rfl, _, rfl, ifF (keqF (k := keyOf a) fun z => h1 (z.trans (by decide +kernel))) ?_⟩
      obtain ⟨dx, fs, hc, n0, n1, n2, n3⟩ := C1.mm
      refine ⟨_, rfl, c, dx, fs, rfl, hc, n2, argN (keyR C1 fun H2 k2 C2 => ?_)⟩
      refine ⟨rfl, _, rfl, ifF (keqF (k := keyOf a) h2) ?_⟩
      refine ⟨_, rfl, readR (lv := 1) C2 h fun H3 v3 k3 C3 T3 => ⟨(by show 1 ≤ sizeLine; decide), fun L hL => ?_⟩⟩
      obtain ⟨dx3, fs3, hc3, _⟩ := C3.mm
      have kk := (k1.trans k2).trans k3
      have nLc : L ≠ c := fun z => by
        rw [z, hc3] at hL
        cases hL
      have nH : H L = none := by
        cases e : H L with
        | none => rfl
        | some o =>
          have z := kk _ _ e nLc
          rw [hL] at z
          cases z
      exact q _ L [v3] (kk.new hL) (C3.new hL) nH nLc upd_same (.cons (T3.new hL) .nil)
end
end Tk

set_option Elab.async false
set_option linter.all false
set_option maxRecDepth 100000
namespace Tk
open PySem L2 Lx
def ONE : List (List Nat) := [cd "ask", cd "not", cd "do", cd "tell", cd "throw", cd "return"]
def TWO : List (List Nat) := [cd "add", cd "sub", cd "mul", cd "lt", cd "eq", cd "and", cd "or"]
def LEAF : List (List Nat) := [cd "int", cd "var", cd "member", cd "bool", cd "none"]
/-- the parts of a tree -/
inductive Prt : PyData → List PyData → Prop where
  | leaf {k : List Nat} {r : List PyData} (h : k ∈ LEAF) : Prt (.tuple (dw k :: r)) []
  | one {k : List Nat} {a : PyData} {r : List PyData} (h : k ∈ ONE) : Prt (.tuple (dw k :: a :: r)) [a]
  | two {k : List Nat} {a b : PyData} (h : k ∈ TWO) : Prt (.tuple [dw k, a, b]) [a, b]
  | let_ {x a i : PyData} : Prt (.tuple [ds "let", x, a, i]) [a]
  | call {a : PyData} {bs : List PyData} (h : bs.length ≤ 20000) : Prt (.tuple [ds "call", a, .tuple bs]) (a :: bs)
/-- trees of at most n levels -/
inductive Dep : Nat → PyData → Prop where
  | mk {n : Nat} {d : PyData} {ps : List PyData} (h : Prt d ps) (hp : ∀ p ∈ ps, Dep n p) : Dep (n + 1) d
def spParts (K : PySem.W.Frag) : Sp := fun vs H Q _ => ∃ (v : V) (d : PyData) (ps : List PyData), vs = [v] ∧ Tp K H v d ∧ Prt d ps ∧ ∀ H' a, Same H H' → Tp K H' (.ref a) (.tuple ps) → Q (.ref a) H'
def spDeep (K : PySem.W.Frag) (n : Nat) : Sp := fun vs H Q _ => ∃ (v : V) (d : PyData), vs = [v, .int (n : Int)] ∧ Tp K H v d ∧ Dep n d ∧ ∀ H', Same H H' → Q (.bl false) H'
theorem wnm {k : List Nat} {l : List (List Nat)} (h : k ∈ l) {m : List (List Nat)} (hd : l.all (fun x => !m.contains x) = true) : ¬ (TL.tl (tx k) ∈ m) := fun z => by
  have := List.all_eq_true.mp hd k h
  rw [tl_tx] at z
  simp at this
  exact this z
theorem wne {k : List Nat} {l : List (List Nat)} (h : k ∈ l) {s : String} (hd : l.all (fun x => !(x == cd s)) = true) : k ≠ cd s := fun z => by
  have := List.all_eq_true.mp hd k h
  simp_all
section
variable {P : Program} {w : World} {K : PySem.W.Frag} {mg : Str → Option Value} {base : Heap} {CC : Addr}
theorem tpAll_get {H : Hp} : ∀ {vs : List V} {ds : List PyData}, TpAll K H vs ds → ∀ {i : Nat} {d : PyData}, ds[i]? = some d → ∃ v, vs[i]? = some v ∧ Tp K H v d
  | _, _, .nil, i, d, h => by cases h
  | _, _, .cons a r, 0, d, h => by
    cases h
    exact ⟨_, rfl, a⟩
  | _, _, .cons a r, i + 1, d, h => tpAll_get r (i := i) h
theorem tp_str {H : Hp} {v : V} {k : List Nat} (h : Tp K H v (dw k)) : v = .str (tx k) := by
  cases h
  rfl
theorem tp_tup {H : Hp} {v : V} {l : List PyData} (h : Tp K H v (.tuple l)) : ∃ a xs, v = .ref a ∧ SqT K H a xs ∧ TpAll K H xs l := by
  cases h with
  | tup a b => exact ⟨_, _, rfl, a, b⟩
theorem scExprs : FnScope ["tree", "kind"] ["tree"] (defScope (top 29)) := ⟨rfl, rfl, rfl, by decide +kernel, rfl, by decide +kernel, by decide +kernel⟩
theorem scBlocks : FnScope ["tree", "kind"] ["tree"] (defScope (top 30)) := ⟨rfl, rfl, rfl, by decide +kernel, rfl, by decide +kernel, by decide +kernel⟩
theorem scParts : FnScope ["tree", "found", "block"] ["tree"] (defScope (top 31)) := ⟨rfl, rfl, rfl, by decide +kernel, rfl, by decide +kernel, by decide +kernel⟩
theorem ok_exprs {f : Addr} {fd : FuncData} (F : Fun K "expressions_of" "expressions_of" (top 29) f fd) (h1 : ∃ a, mg "WITH_ONE_EXPRESSION" = some (.ref a) ∧ ∀ H, SqT K H a (ONE.map fun w => V.str (tx w))) (h2 : ∃ a, mg "WITH_TWO_EXPRESSIONS" = some (.ref a) ∧ ∀ H, SqT K H a (TWO.map fun w => V.str (tx w))) :
    FnOk P w K mg base CX0 1 f fd ["tree"] (spParts K) := by
  obtain ⟨a1, m1, s1⟩ := h1
  obtain ⟨a2, m2, s2⟩ := h2
  refine F.ok scExprs (fun vs H Q E h => ?_) (fun cdv A outer s H vs Q E hr h => ?_)
  · obtain ⟨v, d, ps, rfl, _⟩ := h
    rfl
  · obtain ⟨v, d, ps, rfl, hT, hP, q⟩ := h
    refine ⟨_, pss_cons (ps_set (i := 1) scExprs.nd rfl (.inl rfl) (pe_ix ix_tup (pv 0) pe_int (fun _ _ => rfl)))
      (pss_cons (ps_if (PW.pt (pw_or (pt_cmpR op_in_seq (pv 1) (pe_glob (v := .ref a1) rfl m1 rfl) (by rfl)) (pw_or (pt_cmpR op_eq (pv 1) pe_str (nomark _)) (pw_or1 (pt_cmpR op_eq (pv 1) pe_str (nomark _)))))) (pss_one (ps_ret (pe_tup (pa_cons (pe_ix ix_tup (pv 0) pe_int (fun _ _ => rfl)) pa_nil)))) pss_nil)
      (pss_cons (ps_if (pt_cmpR op_in_seq (pv 1) (pe_glob (v := .ref a2) rfl m2 rfl) (by rfl)) (pss_one (ps_ret (pe_tup (pa_cons (pe_ix ix_tup (pv 0) pe_int (fun _ _ => rfl)) (pa_cons (pe_ix ix_tup (pv 0) pe_int (fun _ _ => rfl)) pa_nil))))) pss_nil)
      (pss_cons (ps_if (PW.pt (pw_or (pt_cmpR op_eq (pv 1) pe_str (nomark _)) (pw_or1 (pt_cmpR op_eq (pv 1) pe_str (nomark _))))) (pss_one (ps_ret (pe_tup (pa_cons (pe_ix ix_tup (pv 0) pe_int (fun _ _ => rfl)) pa_nil)))) pss_nil)
      (pss_cons (ps_if (pt_cmpR op_eq (pv 1) pe_str (nomark _)) (pss_one (ps_ret (pe_tup (pa_cons (pe_ix ix_tup (pv 0) pe_int (fun _ _ => rfl)) (StX.pa_star (pe_ix ix_tup (pv 0) pe_int (fun _ _ => rfl)) pa_nil))))) pss_nil)
      (pss_one (ps_ret (pe_tup pa_nil))))))), ?_⟩
    have key : ∀ {k : List Nat} {r : List PyData}, Tp K H v (.tuple (dw k :: r)) → ∃ a xs, v = .ref a ∧ SqT K H a (.str (tx k) :: xs) ∧ TpAll K H xs r := fun h => by
      obtain ⟨a, xs, e, h3, h4⟩ := tp_tup h
      cases h4 with
      | cons h5 h6 =>
        rw [tp_str h5] at h3
        exact ⟨a, _, e, h3, h6⟩
    cases hP with
    | @leaf k r h =>
      obtain ⟨a, xs, rfl, hS, hr⟩ := key hT
      refine ⟨_, rfl, a, _, _, _, rfl, rfl, hS, atI_nat rfl, ?_⟩
      refine ⟨_, rfl, a1, _, rfl, .inr (s1 H), rfl, flat_txs _, _, rfl, ifF ((in_txs _ _).trans (decide_eq_false (wnm h (by decide +kernel)))) ?_⟩
      refine ⟨_, rfl, rfl, _, rfl, ifF (keqF (wne h (by decide +kernel))) ?_⟩
      refine ⟨_, rfl, rfl, _, rfl, ifF (keqF (wne h (by decide +kernel))) ?_⟩
      refine ⟨_, rfl, a2, _, rfl, .inr (s2 H), rfl, flat_txs _, _, rfl, ifF ((in_txs _ _).trans (decide_eq_false (wnm h (by decide +kernel)))) ?_⟩
      refine ⟨_, rfl, rfl, _, rfl, ifF (keqF (wne h (by decide +kernel))) ?_⟩
      refine ⟨_, rfl, rfl, _, rfl, ifF (keqF (wne h (by decide +kernel))) ?_⟩
      refine ⟨_, rfl, rfl, _, rfl, ifF (keqF (wne h (by decide +kernel))) ?_⟩
      exact ⟨(by show 0 ≤ sizeLine; decide), fun p hp => q _ p (same_new' hp) (Tp.mk .nil hp)⟩
    | @one k x r h =>
      obtain ⟨a, xs, rfl, hS, hr⟩ := key hT
      cases hr with
      | cons hx hr =>
        refine ⟨_, rfl, a, _, _, _, rfl, rfl, hS, atI_nat rfl, ?_⟩
        refine ⟨_, rfl, a1, _, rfl, .inr (s1 H), rfl, flat_txs _, _, rfl, ifT ((in_txs _ _).trans (decide_eq_true (by rw [tl_tx]; exact h))) ?_⟩
        exact ⟨_, rfl, a, _, _, _, rfl, rfl, hS, atI_nat rfl, (by show 1 ≤ sizeLine; decide), fun p hp => q _ p (same_new' hp) (Tp.mk (.cons hx .nil) hp)⟩
    | @two k x y h =>
      obtain ⟨a, xs, rfl, hS, hr⟩ := key hT
      cases hr with
      | cons hx hr =>
        cases hr with
        | cons hy hr =>
          refine ⟨_, rfl, a, _, _, _, rfl, rfl, hS, atI_nat rfl, ?_⟩
          refine ⟨_, rfl, a1, _, rfl, .inr (s1 H), rfl, flat_txs _, _, rfl, ifF ((in_txs _ _).trans (decide_eq_false (wnm h (by decide +kernel)))) ?_⟩
          refine ⟨_, rfl, rfl, _, rfl, ifF (keqF (wne h (by decide +kernel))) ?_⟩
          refine ⟨_, rfl, rfl, _, rfl, ifF (keqF (wne h (by decide +kernel))) ?_⟩
          refine ⟨_, rfl, a2, _, rfl, .inr (s2 H), rfl, flat_txs _, _, rfl, ifT ((in_txs _ _).trans (decide_eq_true (by rw [tl_tx]; exact h))) ?_⟩
          exact ⟨_, rfl, a, _, _, _, rfl, rfl, hS, atI_nat rfl, _, rfl, a, _, _, _, rfl, rfl, hS, atI_nat rfl, (by show 2 ≤ sizeLine; decide), fun p hp => q _ p (same_new' hp) (Tp.mk (.cons hx (.cons hy .nil)) hp)⟩
    | @let_ x y i =>
      obtain ⟨a, xs, rfl, hS, hr⟩ := key hT
      have h : cd "let" ∈ [cd "let"] := by decide +kernel
      cases hr with
      | cons hx hr =>
        cases hr with
        | cons hy hr =>
          refine ⟨_, rfl, a, _, _, _, rfl, rfl, hS, atI_nat rfl, ?_⟩
          refine ⟨_, rfl, a1, _, rfl, .inr (s1 H), rfl, flat_txs _, _, rfl, ifF ((in_txs _ _).trans (decide_eq_false (wnm h (by decide +kernel)))) ?_⟩
          refine ⟨_, rfl, rfl, _, rfl, ifF (keqF (wne h (by decide +kernel))) ?_⟩
          refine ⟨_, rfl, rfl, _, rfl, ifF (keqF (wne h (by decide +kernel))) ?_⟩
          refine ⟨_, rfl, a2, _, rfl, .inr (s2 H), rfl, flat_txs _, _, rfl, ifF ((in_txs _ _).trans (decide_eq_false (wnm h (by decide +kernel)))) ?_⟩
          refine ⟨_, rfl, rfl, _, rfl, ifT (keqT rfl) ?_⟩
          exact ⟨_, rfl, a, _, _, _, rfl, rfl, hS, atI_nat rfl, (by show 1 ≤ sizeLine; decide), fun p hp => q _ p (same_new' hp) (Tp.mk (.cons hy .nil) hp)⟩
    | @call x bs hb =>
      obtain ⟨a, xs, rfl, hS, hr⟩ := key hT
      have h : cd "call" ∈ [cd "call"] := by decide +kernel
      cases hr with
      | cons hx hr =>
        cases hr with
        | cons hy hr =>
          obtain ⟨b, ys, rfl, hbS, hbT⟩ := tp_tup hy
          refine ⟨_, rfl, a, _, _, _, rfl, rfl, hS, atI_nat rfl, ?_⟩
          refine ⟨_, rfl, a1, _, rfl, .inr (s1 H), rfl, flat_txs _, _, rfl, ifF ((in_txs _ _).trans (decide_eq_false (wnm h (by decide +kernel)))) ?_⟩
          refine ⟨_, rfl, rfl, _, rfl, ifF (keqF (wne h (by decide +kernel))) ?_⟩
          refine ⟨_, rfl, rfl, _, rfl, ifF (keqF (wne h (by decide +kernel))) ?_⟩
          refine ⟨_, rfl, a2, _, rfl, .inr (s2 H), rfl, flat_txs _, _, rfl, ifF ((in_txs _ _).trans (decide_eq_false (wnm h (by decide +kernel)))) ?_⟩
          refine ⟨_, rfl, rfl, _, rfl, ifF (keqF (wne h (by decide +kernel))) ?_⟩
          refine ⟨_, rfl, rfl, _, rfl, ifF (keqF (wne h (by decide +kernel))) ?_⟩
          refine ⟨_, rfl, rfl, _, rfl, ifT (keqT rfl) ?_⟩
          have hl := hbT.len
          refine ⟨_, rfl, a, _, _, _, rfl, rfl, hS, atI_nat rfl, _, rfl, a, _, _, _, rfl, rfl, hS, atI_nat rfl, b, ys, rfl, .inl hbS, Nat.le_trans (show _ ≤ 20001 by simp; omega) (by decide), fun p hp => q _ p (same_new' hp) (Tp.mk (.cons hx ?_) hp)⟩
          rw [List.append_nil]
          exact hbT
def NOB : List (List Nat) := LEAF ++ ONE ++ TWO ++ [cd "let", cd "call"]
theorem prt_head {d : PyData} {ps : List PyData} (h : Prt d ps) : ∃ k r, d = .tuple (dw k :: r) ∧ k ∈ NOB := by
  cases h with
  | @leaf k r h => exact ⟨k, r, rfl, List.mem_append_left _ (List.mem_append_left _ (List.mem_append_left _ h))⟩
  | @one k a r h => exact ⟨k, _, rfl, List.mem_append_left _ (List.mem_append_left _ (List.mem_append_right _ h))⟩
  | @two k a b h => exact ⟨k, _, rfl, List.mem_append_left _ (List.mem_append_right _ h)⟩
  | let_ => exact ⟨cd "let", _, rfl, by decide +kernel⟩
  | call h => exact ⟨cd "call", _, rfl, by decide +kernel⟩
def spBlocks (K : PySem.W.Frag) : Sp := fun vs H Q _ => ∃ (v : V) (d : PyData) (ps : List PyData), vs = [v] ∧ Tp K H v d ∧ Prt d ps ∧ ∀ H' a, Same H H' → SqT K H' a [] → Q (.ref a) H'
theorem ok_blocks {f : Addr} {fd : FuncData} (F : Fun K "blocks_of" "blocks_of" (top 30) f fd) : FnOk P w K mg base CX0 1 f fd ["tree"] (spBlocks K) := by
  refine F.ok scBlocks (fun vs H Q E h => ?_) (fun cdv A outer s H vs Q E hr h => ?_)
  · obtain ⟨v, d, ps, rfl, _⟩ := h
    rfl
  · obtain ⟨v, d, ps, rfl, hT, hP, q⟩ := h
    refine ⟨_, pss_cons (ps_set (i := 1) scBlocks.nd rfl (.inl rfl) (pe_ix ix_tup (pv 0) pe_int (fun _ _ => rfl)))
      (pss_cons (ps_if (pt_cmpR op_eq (pv 1) pe_str (nomark _)) (pss_one ps_never) pss_nil)
      (pss_cons (ps_if (PW.pt (pw_or (pt_cmpR op_eq (pv 1) pe_str (nomark _)) (pw_or1 (pt_cmpR op_eq (pv 1) pe_str (nomark _))))) (pss_one ps_never) pss_nil)
      (pss_cons (ps_if (pt_cmpR op_eq (pv 1) pe_str (nomark _)) (pss_one ps_never) pss_nil)
      (pss_cons (ps_if (pt_cmpR op_eq (pv 1) pe_str (nomark _)) (pss_one ps_never) pss_nil)
      (pss_cons (ps_if (pt_cmpR op_eq (pv 1) pe_str (nomark _)) (pss_one ps_never) pss_nil)
      (pss_one (ps_ret (pe_tup pa_nil)))))))), ?_⟩
    obtain ⟨k, r, rfl, h⟩ := prt_head hP
    obtain ⟨a, xs, rfl, h3, h4⟩ := tp_tup hT
    cases h4 with
    | cons h5 h6 =>
      rw [tp_str h5] at h3
      refine ⟨_, rfl, a, _, _, _, rfl, rfl, h3, atI_nat rfl, ?_⟩
      refine ⟨_, rfl, rfl, _, rfl, ifF (keqF (wne h (by decide +kernel))) ?_⟩
      refine ⟨_, rfl, rfl, _, rfl, ifF (keqF (wne h (by decide +kernel))) ?_⟩
      refine ⟨_, rfl, rfl, _, rfl, ifF (keqF (wne h (by decide +kernel))) ?_⟩
      refine ⟨_, rfl, rfl, _, rfl, ifF (keqF (wne h (by decide +kernel))) ?_⟩
      refine ⟨_, rfl, rfl, _, rfl, ifF (keqF (wne h (by decide +kernel))) ?_⟩
      refine ⟨_, rfl, rfl, _, rfl, ifF (keqF (wne h (by decide +kernel))) ?_⟩
      exact ⟨(by show 0 ≤ sizeLine; decide), fun p hp => q _ p (same_new' hp) (SqT.of upd_same)⟩
def spPartsL (K : PySem.W.Frag) : Sp := fun vs H Q _ => ∃ (v : V) (d : PyData) (ps : List PyData), vs = [v] ∧ Tp K H v d ∧ Prt d ps ∧ ∀ H' a xs, Same H H' → H' a = some (.lst xs) → TpAll K H' xs ps → Q (.ref a) H'
theorem ok_parts {f : Addr} {fd : FuncData} (F : Fun K "parts" "parts" (top 31) f fd) (GE : OkF P w K mg base "expressions_of" ["tree"] 1 (spParts K)) (GB : OkF P w K mg base "blocks_of" ["tree"] 1 (spBlocks K)) (hl : mg "list" = none) : FnOk P w K mg base CX0 2 f fd ["tree"] (spPartsL K) := by
  obtain ⟨fE, fdE, gE, kpE, bE, mE⟩ := GE
  obtain ⟨fB, fdB, gB, kpB, bB, mB⟩ := GB
  refine F.ok scParts (fun vs H Q E h => ?_) (fun cdv A outer s H vs Q E hr h => ?_)
  · obtain ⟨v, d, ps, rfl, _⟩ := h
    rfl
  · obtain ⟨v, d, ps, rfl, hT, hP, q⟩ := h
    refine ⟨_, pss_cons (ps_set (i := 1) scParts.nd rfl (.inl rfl) (pe_callTy call_list_of (by rfl) hl (by decide +kernel) (pa_cons (pe_call gE (hr.mono (by omega)) rfl mE kpE bE .nil pass0 (pa_cons (pv 0) pa_nil)) pa_nil)))
      (pss_cons (ps_for PassesOwn.never rfl (pi_tup (pe_call gB (hr.mono (by omega)) rfl mB kpB bB .nil pass0 (pa_cons (pv 0) pa_nil))) (pg_name (i := 2) scParts.nd rfl (.inl rfl)) (pss_one ps_never))
      (pss_one (ps_ret (pv 1)))), ?_⟩
    refine ⟨_, rfl, v, d, ps, rfl, hT, hP, fun H1 a sm1 hA => ?_⟩
    obtain ⟨a', xs, ea, hS, hAll⟩ := tp_tup hA
    cases ea
    refine ⟨a, xs, rfl, .inr hS, fun l hl => ?_⟩
    refine ⟨_, rfl, v, d, ps, rfl, (hT.same sm1).same (same_new' hl), hP, fun H2 b sm2 hB => ?_⟩
    have hL : H2 l = some (.lst xs) := sm2 _ _ upd_same
    refine ⟨b, rfl, ⟨_, hB⟩, for_tup (K := K) (a := b) (xs := []) (fun i σ H' => H' = H2 ∧ ∃ x : Option V, σ = [some v, some (.ref l), x]) ⟨rfl, none, rfl⟩ (fun i σ H' _ ⟨z, _⟩ => by rw [z]; exact hB) ?_ ?_⟩
    · rintro i x σ H' hx _
      cases hx
    · rintro σ H' ⟨rfl, x0, rfl⟩
      have smA : Same H1 H' := fun c u e => sm2 _ _ (same_new' hl c u e)
      exact ⟨_, rfl, q _ l xs (fun c u e => smA _ _ (sm1 c u e)) hL (TpAll.keep (fun a xs z => smA.sqt z) _ _ hAll)⟩
/-! ### deeper_than -/
theorem scDeep : FnScope ["tree", "levels", "part"] ["tree", "levels"] (defScope (top 32)) := ⟨rfl, rfl, rfl, by decide +kernel, rfl, by decide +kernel, by decide +kernel⟩
theorem ok_deep {f : Addr} {fd : FuncData} (F : Fun K "deeper_than" "deeper_than" (top 32) f fd) (kf : PySem.W.keepIn K (.ref f) = true) (bf : Binds K fd ["tree", "levels"] []) (mf : mg "deeper_than" = some (.ref f)) (GP : OkF P w K mg base "parts" ["tree"] 2 (spPartsL K)) :
    ∀ n : Nat, FnOk P w K mg base CX0 (n + 3) f fd ["tree", "levels"] (spDeep K n)
  | 0 => by
    refine F.ok scDeep (fun vs H Q E h => ?_) (fun cdv A outer s H vs Q E hr h => ?_)
    · obtain ⟨v, d, rfl, _⟩ := h
      rfl
    · obtain ⟨v, d, _, _, hD, _⟩ := h
      cases hD
  | n + 1 => by
    have ih := ok_deep F kf bf mf GP n
    obtain ⟨fP, fdP, gP, kpP, bP, mP⟩ := GP
    refine F.ok scDeep (fun vs H Q E h => ?_) (fun cdv A outer s H vs Q E hr h => ?_)
    · obtain ⟨v, d, rfl, _⟩ := h
      rfl
    · obtain ⟨v, d, rfl, hT, hD, q⟩ := h
      cases hD with
      | @mk _ _ ps hP hps =>
        refine ⟨_, pss_cons (ps_if (pt_cmpR op_eq (pv 1) pe_int (nomark _)) (pss_one ps_never) pss_nil)
          (pss_cons (ps_for PassesOwn.never rfl (pi_list (pe_call gP (hr.mono (by omega)) rfl mP kpP bP .nil pass0 (pa_cons (pv 0) pa_nil))) (pg_name (i := 2) scDeep.nd rfl (.inl rfl))
            (pss_one (ps_if (pt_val (pe_call ih hr rfl mf kf bf .nil pass0 (pa_cons (pv 2) (pa_cons (pe_op op_sub (pv 1) pe_int) pa_nil)))) (pss_one ps_never) pss_nil)))
          (pss_one (ps_ret pe_bl))), ?_⟩
        have e0 : decide (V.int ((n + 1 : Nat) : Int) = V.int 0) = false := decide_eq_false fun z => by
          injection z with z
          omega
        refine ⟨_, rfl, rfl, _, rfl, ifF e0 ?_⟩
        refine ⟨_, rfl, v, d, ps, rfl, hT, hP, fun H1 a xs sm1 hS hAll => ?_⟩
        refine ⟨a, rfl, ⟨_, SqL.of hS⟩, for_list (K := K) (a := a) (xs := xs) (fun i σ H' => Same H1 H' ∧ ∃ x : Option V, σ = [some v, some (.int ((n + 1 : Nat) : Int)), x]) ⟨fun _ _ h => h, none, rfl⟩ (fun i σ H' _ ⟨z, _⟩ => SqL.of (z _ _ hS)) ?_ ?_⟩
        · rintro i x σ H' hx ⟨z, x0, rfl⟩
          have hi : i < ps.length := by
            rw [← hAll.len]
            exact (List.getElem?_eq_some_iff.mp hx).1
          obtain ⟨v2, hv2, T2⟩ := tpAll_get hAll (List.getElem?_eq_getElem hi)
          rw [hx] at hv2
          cases hv2
          have e1 : (((n + 1 : Nat) : Int)) - 1 = (n : Int) := by omega
          refine ⟨_, rfl, _, rfl, _, _, rfl, rfl, x, ps[i], ?_, T2.same z, hps _ (List.getElem_mem hi), fun H2 s2 => ⟨_, rfl, ifF rfl ?_⟩⟩
          · show [x, V.int (((n + 1 : Nat) : Int) - 1)] = _
            rw [e1]
          · exact ⟨fun c u e => s2 _ _ (z c u e), _, rfl⟩
        · rintro σ H' ⟨z, x0, rfl⟩
          exact q _ (fun c u e => z c u (sm1 c u e))
/-! ### parse -/
inductive RItems (S : RI) : Nat → List Tk → List PyData → Prop where
  | nil : RItems S 0 [] []
  | cons {n : Nat} {l l' : List Tk} {ds dr : List PyData} (hk : key l ≠ cd "end") (h : S l ds l') (hd : ∀ d ∈ ds, Dep 12 d) (hr : RItems S n l' dr) : RItems S (n + 1) l (ds ++ dr)
def spParse (K : PySem.W.Frag) (R : List Tk → List PyData → Prop) : Sp := fun vs H Q _ => ∃ (z m : Str) (ts : List Tk) (ds : List PyData), vs = [.str z, .str m] ∧ z.length ≤ 20000 ∧ m.length ≤ 1000 ∧ Lex (gap false (TL.tl z)) ((TL.tl z).drop (gap false (TL.tl z))) ts none ∧ (∀ t ∈ ts, WF t) ∧ ts.length ≤ 20000 ∧
  R ts ds ∧ ds.length ≤ 20000 ∧ ∀ H' L xs, Same H H' → H L = none → H' L = some (.lst xs) → TpAll K H' xs ds → Q (.ref L) H'
theorem TpAll.app {H : Hp} : ∀ {vs ws : List V} {ds es : List PyData}, TpAll K H vs ds → TpAll K H ws es → TpAll K H (vs ++ ws) (ds ++ es)
  | _, _, _, _, .nil, h => h
  | _, _, _, _, .cons a r, h => .cons a (TpAll.app r h)
theorem scParse : FnScope ["text", "module", "cursor", "items", "read", "item"] ["text", "module"] (defScope (top 39)) := ⟨rfl, rfl, rfl, by decide +kernel, rfl, by decide +kernel, by decide +kernel⟩
theorem ok_parse {f fI : Addr} {fd fdI : FuncData} {b : Nat} {S : RI} (F : Fun K "parse" "parse" (top 39) f fd) (D : Kit P w K mg base CC) (hb : 15 ≤ b) (M : Mk K CC fI) (GI : FnOk P w K mg base CX0 5 fI fdI ["self", "text", "module"] (spInit CC)) (bI : Binds K fdI ["self", "text", "module"] []) (mI : mg "Cursor" = some (.ref CC))
    (G1 : OkF P w K mg base "read_item" ["cursor"] b (spI K CC S)) (G2 : OkF P w K mg base "deeper_than" ["tree", "levels"] 15 (spDeep K 12)) (hM : ∃ t, mg "DEEPEST" = some (.int 12 t)) :
    FnOk P w K mg base CX0 (b + 1) f fd ["text", "module"] (spParse K fun ts ds => ∃ n, RItems S n ts ds) := by
  obtain ⟨f1, fd1, g1, kp1, b1, m1⟩ := G1
  obtain ⟨f2, fd2, g2, kp2, b2, m2⟩ := G2
  obtain ⟨f5, fd5, g5, mt5, b5⟩ := D.key
  obtain ⟨tD, mD⟩ := hM
  refine F.ok scParse (fun vs H Q E h => ?_) (fun cdv A outer s H vs Q E hr h => ?_)
  · obtain ⟨z, m, ts, ds, rfl, _⟩ := h
    rfl
  · obtain ⟨z, m, ts, dd, rfl, hz, hm, hL, hw, hl, ⟨nn, hR⟩, hdl, q⟩ := h
    refine ⟨_, pss_cons (ps_set (i := 2) scParse.nd rfl (.inl rfl) (pe_make M GI (hr.mono (by omega)) rfl mI bI .nil pass0 (pa_cons (pv 0) (pa_cons (pv 1) pa_nil))))
      (pss_cons (ps_set (i := 3) scParse.nd rfl (.inl rfl) (pe_lst pa_nil))
      (pss_cons (ps_while PassesOwn.never (pt_cmpR op_ne (pe_meth0 (pv 2) D.U.cl mt5 g5 (hr.mono (by omega)) b5 .nil pass0) pe_str (nomark _))
        (pss_cons (ps_set (i := 4) scParse.nd rfl (.inl rfl) (pe_call g1 hr rfl m1 kp1 b1 .nil pass0 (pa_cons (pv 2) pa_nil)))
        (pss_cons (ps_for PassesOwn.never rfl (pi_list (pv 4)) (pg_name (i := 5) scParse.nd rfl (.inl rfl))
          (pss_one (ps_if (pt_val (pe_call g2 (hr.mono (by omega)) rfl m2 kp2 b2 .nil pass0 (pa_cons (pv 5) (pa_cons (pe_glob (v := .int 12) rfl mD ⟨_, rfl⟩) pa_nil)))) (pss_one ps_never) pss_nil)))
        (pss_one (ps_expr (pe_bm PySem.F.plainAttrs_list PySem.F.slot_list_extend PySem.F.type_list_extend mt_extend (pv 3) (pa_cons (pv 4) pa_nil)))))))
      (pss_one (ps_ret (pv 3))))), ?_⟩
    refine ⟨_, rfl, _, rfl, fun c dx nc ndx nex => ?_⟩
    refine ⟨c, dx, z, m, ts, rfl, upd_same, hz, hm, hL, hw, hl, fun H1 k1 C1 => ⟨rfl, ?_⟩⟩
    refine ⟨(by show 0 ≤ sizeLine; decide), fun L hL => ?_⟩
    let Hc : Hp := upd (upd H dx (.own c)) c (.ins CC dx [])
    let W : Nat → St → Hp → Prop := fun mm σ H' => ∃ (la : List Tk) (da dr : List PyData) (xs : List V) (r4 r5 : Option V), σ = [some (.str z), some (.str m), some (.ref c), some (.ref L), r4, r5] ∧ RItems S mm la dr ∧ dd = da ++ dr ∧ CurAt CC H' c m ts z.length 0 la ∧ KB c Hc H' ∧ H' L = some (.lst xs) ∧ TpAll K H' xs da ∧ ∀ C dx m n M i, H' c = some (.ins C dx (cf m n M i)) → L ≠ M
    have nLc : L ≠ c := fun zz => by
      obtain ⟨dx3, fs3, hc3, _⟩ := C1.mm
      rw [zz, hc3] at hL
      cases hL
    have HcL : Hc L = none := by
      cases e : Hc L with
      | none => rfl
      | some o =>
        have zz := k1 _ _ e nLc
        rw [hL] at zz
        cases zz
    refine ⟨W, ⟨nn, ts, [], dd, [], none, none, rfl, hR, rfl, C1.new hL, k1.new hL, upd_same, .nil, C1.nt hL⟩, ?_⟩
    rintro mm σ H' ⟨la, da, dr, xs, r4, r5, rfl, hR', hd, C, kk, hLs, hT, nt⟩
    obtain ⟨dx', fs, hc, n0, n1, n2, n3⟩ := C.mm
    refine ⟨_, rfl, c, dx', fs, rfl, hc, n2, argN (keyR C fun H2 k2 C2 => ⟨rfl, _, rfl, ?_⟩)⟩
    cases hR' with
    | nil =>
      refine ifF (by rw [keqT (k := key []) rfl]; rfl) ?_
      rw [List.append_nil] at hd
      subst hd
      refine ⟨_, rfl, q _ L xs (fun b u e => ?_) ?_ (k2 _ _ hLs nLc) (TpAll.keep (fun a xs z => KB.sqtC k2 C z) _ _ hT)⟩
      · have hbc : b ≠ c := ne_of_none e nc
        have e3 : Hc b = some u := by
          show upd (upd H dx (.own c)) c (.ins CC dx []) b = some u
          rw [upd_ne hbc, upd_ne (ne_of_none e ndx)]
          exact e
        exact (kk.trans k2) _ _ e3 hbc
      · cases e : H L with
        | none => rfl
        | some o =>
          have e3 : Hc L = some o := by
            show upd (upd H dx (.own c)) c (.ins CC dx []) L = some o
            rw [upd_ne nLc, upd_ne (ne_of_none e ndx)]
            exact e
          rw [HcL] at e3
          cases e3
    | @cons mm' _ l1 es er hk h hde hr' =>
      refine ifT (by rw [keqF (k := key la) hk]; rfl) ?_
      refine ⟨fun σ' H' => ∃ m', m' < mm' + 1 ∧ W m' σ' H', fun _ _ h => h, ?_⟩
      refine ⟨_, rfl, c, m, ts, z.length, 0, la, es, l1, rfl, C2, h, fun H3 A ys k3 C3 nA nAc hA TA => ?_⟩
      have nAL : A ≠ L := fun zz => by
        have := k2 _ _ hLs nLc
        rw [← zz, nA] at this
        cases this
      refine ⟨_, rfl, A, rfl, ⟨_, SqL.of hA⟩, for_list (K := K) (a := A) (xs := ys) (fun i σ H' => Same H3 H' ∧ ∃ x : Option V, σ = [some (.str z), some (.str m), some (.ref c), some (.ref L), some (.ref A), x]) ⟨fun _ _ h => h, r5, rfl⟩ (fun i σ H' _ ⟨z, _⟩ => SqL.of (z _ _ hA)) ?_ ?_⟩
      · rintro i x σ H' hx ⟨zz, x0, rfl⟩
        have hi : i < es.length := by
          rw [← TA.len]
          exact (List.getElem?_eq_some_iff.mp hx).1
        obtain ⟨v2, hv2, T2⟩ := tpAll_get TA (List.getElem?_eq_getElem hi)
        rw [hx] at hv2
        cases hv2
        refine ⟨_, rfl, x, es[i], rfl, T2.same zz, hde _ (List.getElem_mem hi), fun H2 s2 => ⟨_, rfl, ifF rfl ?_⟩⟩
        exact ⟨fun c u e => s2 _ _ (zz c u e), _, rfl⟩
      · rintro σ H4 ⟨zz, x0, rfl⟩
        have k4 : KB c H' H4 := (k2.trans k3).trans (KB.of zz)
        have hL4 : H4 L = some (.lst xs) := k4 _ _ hLs nLc
        obtain ⟨q1, q2, q3⟩ := lst_put (K := K) (C3.same zz) hL4 (xs := xs ++ ys) nLc (k4.nt C nt)
        have hlen : xs.length + ys.length ≤ 20000 := by
          rw [hT.len, TA.len]
          rw [hd, List.length_append, List.length_append] at hdl
          omega
        refine ⟨_, rfl, .inl ⟨rfl, _, SqL.of hL4⟩, _, rfl, L, A, xs, ys, rfl, rfl, hL4, zz _ _ hA, Nat.le_trans hlen (by decide), ?_⟩
        refine ⟨mm', Nat.lt_succ_self _, l1, da ++ es, er, xs ++ ys, some (.ref A), x0, rfl, hr', by rw [List.append_assoc]; exact hd, q1, ⟨fun b o e n => ?_, fun C' dx' m' n' M' i' z => ?_⟩, upd_same, TpAll.keep q2 _ _ (TpAll.app (TpAll.keep (fun a xs z => KB.sqtC k4 C z) _ _ hT) (TpAll.keep (fun a xs z => zz.sqt z) _ _ TA)), fun C' dx' m' n' M' i' z => ?_⟩
        · rw [upd_ne (ne_of_none e HcL)]
          exact (kk.trans k4) _ _ e n
        · obtain ⟨n2, i2, z2⟩ := (kk.trans k4).cur _ _ _ _ _ _ z
          exact ⟨n2, i2, by rw [upd_ne (Ne.symm nLc)]; exact z2⟩
        · rw [upd_ne (Ne.symm nLc)] at z
          exact k4.nt C nt _ _ _ _ _ _ z
end
end Tk

set_option Elab.async false
set_option linter.all false
set_option maxRecDepth 100000
namespace Tk
open PySem L2 Lx
/-! ### a climb by levels -/
def lvK : Nat → List Nat → Option (List Nat)
  | 1 => kMul
  | 2 => kSum
  | 3 => kCmp
  | 4 => kAnd
  | 5 => kOr
  | _ => fun _ => none
section
variable {σ α : Type}
def sp (w : σ → Bool) : α → List (σ × α) → (α × List (σ × α)) × List (σ × (α × List (σ × α)))
  | p, [] => ((p, []), [])
  | p, (s, q) :: r => if w s then ((p, []), (s, (sp w q r).1) :: (sp w q r).2) else ((p, (s, (sp w q r).1.1) :: (sp w q r).1.2), (sp w q r).2)
def fold (t : PyData) : List (List Nat × PyData) → PyData
  | [] => t
  | (k, u) :: r => fold (.tuple [dw k, t, u]) r
def tr (ky : σ → List Nat) (leaf : α → PyData) : Nat → α → List (σ × α) → PyData
  | 0, p, _ => leaf p
  | n + 1, p, r => fold (tr ky leaf n (sp (fun s => (lvK (n + 1) (ky s)).isSome) p r).1.1 (sp (fun s => (lvK (n + 1) (ky s)).isSome) p r).1.2)
      ((sp (fun s => (lvK (n + 1) (ky s)).isSome) p r).2.map fun x => ((lvK (n + 1) (ky x.1)).getD [], tr ky leaf n x.2.1 x.2.2))
def good (ky : σ → List Nat) : Nat → α → List (σ × α) → Prop
  | 0, _, r => r = []
  | n + 1, p, r => (n = 2 → (sp (fun s => (lvK (n + 1) (ky s)).isSome) p r).2.length ≤ 1) ∧ good ky n (sp (fun s => (lvK (n + 1) (ky s)).isSome) p r).1.1 (sp (fun s => (lvK (n + 1) (ky s)).isSome) p r).1.2 ∧
      ∀ x ∈ (sp (fun s => (lvK (n + 1) (ky s)).isSome) p r).2, good ky n x.2.1 x.2.2
variable {w : σ → Bool}
theorem sp_pos {p q : α} {s : σ} {r : List (σ × α)} (h : w s = true) : sp w p ((s, q) :: r) = ((p, []), (s, (sp w q r).1) :: (sp w q r).2) := if_pos h
theorem sp_neg {p q : α} {s : σ} {r : List (σ × α)} (h : ¬ w s = true) : sp w p ((s, q) :: r) = ((p, (s, (sp w q r).1.1) :: (sp w q r).1.2), (sp w q r).2) := if_neg h
theorem sp_head : ∀ (r : List (σ × α)) (p : α), (sp w p r).1.1 = p
  | [], p => rfl
  | (s, q) :: r, p => by
    by_cases h : w s = true
    · rw [sp_pos h]
    · rw [sp_neg h]
def lenG (gs : List (σ × (α × List (σ × α)))) : Nat := (gs.map fun x => 1 + x.2.2.length).sum
theorem sp_len : ∀ (r : List (σ × α)) (p : α), r.length = (sp w p r).1.2.length + lenG (sp w p r).2
  | [], p => rfl
  | (s, q) :: r, p => by
    have ih := sp_len r q
    by_cases h : w s = true
    · rw [sp_pos h]
      simp only [List.length_cons, List.length_nil, lenG, List.map_cons, List.sum_cons] at ih ⊢
      omega
    · rw [sp_neg h]
      simp only [List.length_cons] at ih ⊢
      omega
/-- what holds of all operands and signs holds of those of the groups; no sign in a group splits -/
theorem sp_mem {A : α → Prop} {B : σ → Prop} : ∀ (r : List (σ × α)) (p : α), A p → (∀ x ∈ r, A x.2 ∧ B x.1) →
    (∀ x ∈ (sp w p r).1.2, A x.2 ∧ B x.1 ∧ ¬ w x.1 = true) ∧ ∀ x ∈ (sp w p r).2, B x.1 ∧ w x.1 = true ∧ A x.2.1 ∧ ∀ y ∈ x.2.2, A y.2 ∧ B y.1 ∧ ¬ w y.1 = true
  | [], p, _, _ => ⟨fun x h => (by cases h), fun x h => (by cases h)⟩
  | (s, q) :: r, p, hp, h => by
    have h1 := h (s, q) (List.mem_cons_self ..)
    obtain ⟨i1, i2⟩ := sp_mem r q h1.1 fun x hx => h x (List.mem_cons_of_mem _ hx)
    have hq := sp_head (w := w) r q
    by_cases hw : w s = true
    · rw [sp_pos hw]
      refine ⟨fun x h => (by cases h), fun x hx => ?_⟩
      rcases List.mem_cons.mp hx with rfl | hx
      · exact ⟨h1.2, hw, by rw [hq]; exact h1.1, i1⟩
      · exact i2 x hx
    · rw [sp_neg hw]
      refine ⟨fun x hx => ?_, i2⟩
      rcases List.mem_cons.mp hx with rfl | hx
      · exact ⟨by rw [hq]; exact h1.1, h1.2, hw⟩
      · exact i1 x hx
/-- induction over what a climb makes -/
theorem fold_ind {Pm : Nat → PyData → Prop} (hs : ∀ a b k t u, k ∈ TWO → Pm a t → Pm b u → Pm (a + b + 1) (.tuple [dw k, t, u])) : ∀ (gs : List (List Nat × PyData)) (ls : List Nat) (a : Nat) (t : PyData), Pm a t → gs.length = ls.length →
    (∀ (i : Nat) (k : List Nat) (u : PyData) (n : Nat), gs[i]? = some (k, u) → ls[i]? = some n → k ∈ TWO ∧ Pm n u) → Pm (a + (ls.map fun n => 1 + n).sum) (fold t gs)
  | [], [], a, t, h, _, _ => h
  | [], _ :: _, _, _, _, e, _ => by cases e
  | _ :: _, [], _, _, _, e, _ => by cases e
  | (k, u) :: gs, n :: ls, a, t, h, e, hx => by
    obtain ⟨h1, h2⟩ := hx 0 k u n rfl rfl
    have h3 := fold_ind hs gs ls (a + n + 1) (.tuple [dw k, t, u]) (hs _ _ _ _ _ h1 h h2) (by simpa using e) (fun i k u n a b => hx (i + 1) k u n a b)
    have e2 : a + ((n :: ls).map fun n => 1 + n).sum = a + n + 1 + (ls.map fun n => 1 + n).sum := by
      rw [List.map_cons, List.sum_cons]
      omega
    rw [e2]
    exact h3
theorem lv_cases {m : Nat} {k : List Nat} (h : (lvK m k).isSome = true) : (m = 1 ∧ k = cd "*") ∨ (m = 2 ∧ k = cd "+") ∨ (m = 2 ∧ k = cd "-") ∨ (m = 3 ∧ k = cd "<") ∨ (m = 3 ∧ k = cd "==") ∨ (m = 4 ∧ k = cd "and") ∨ (m = 5 ∧ k = cd "or") := by
  match m, h with
  | 0, h => cases h
  | 1, h =>
    have h' : (kMul k).isSome = true := h
    unfold kMul at h'
    split at h' <;> simp_all
  | 2, h =>
    have h' : (kSum k).isSome = true := h
    unfold kSum at h'
    split at h'
    · simp_all
    · split at h' <;> simp_all
  | 3, h =>
    have h' : (kCmp k).isSome = true := h
    unfold kCmp at h'
    split at h'
    · simp_all
    · split at h' <;> simp_all
  | 4, h =>
    have h' : (kAnd k).isSome = true := h
    unfold kAnd at h'
    split at h' <;> simp_all
  | 5, h =>
    have h' : (kOr k).isSome = true := h
    unfold kOr at h'
    split at h' <;> simp_all
  | n + 6, h => cases h
theorem lv_head {m : Nat} {k : List Nat} (h : (lvK m k).isSome = true) : (lvK m k).getD [] ∈ TWO := by
  rcases lv_cases h with ⟨rfl, rfl⟩ | ⟨rfl, rfl⟩ | ⟨rfl, rfl⟩ | ⟨rfl, rfl⟩ | ⟨rfl, rfl⟩ | ⟨rfl, rfl⟩ | ⟨rfl, rfl⟩ <;> decide +kernel
theorem lv_other {m n : Nat} {k : List Nat} (h : (lvK m k).isSome = true) (hn : n ≠ m) : lvK n k = none := by
  have key : ∀ m, m < 6 → ∀ n, n < 6 → ∀ k ∈ [cd "*", cd "+", cd "-", cd "<", cd "==", cd "and", cd "or"], (lvK m k).isSome = true → n ≠ m → lvK n k = none := by decide +kernel
  rcases Nat.lt_or_ge n 6 with q | q
  · rcases lv_cases h with ⟨rfl, rfl⟩ | ⟨rfl, rfl⟩ | ⟨rfl, rfl⟩ | ⟨rfl, rfl⟩ | ⟨rfl, rfl⟩ | ⟨rfl, rfl⟩ | ⟨rfl, rfl⟩ <;> exact key _ (by decide) n q _ (by decide +kernel) h hn
  · match n, q with
    | n + 6, _ => rfl
theorem lv_call {m : Nat} {k : List Nat} (h : (lvK m k).isSome = true) : kCall k = none ∧ k ≠ cd "." := by
  rcases lv_cases h with ⟨_, rfl⟩ | ⟨_, rfl⟩ | ⟨_, rfl⟩ | ⟨_, rfl⟩ | ⟨_, rfl⟩ | ⟨_, rfl⟩ | ⟨_, rfl⟩ <;> decide +kernel
theorem tr_ind {Pm : Nat → PyData → Prop} (hs : ∀ a b k t u, k ∈ TWO → Pm a t → Pm b u → Pm (a + b + 1) (.tuple [dw k, t, u])) (ky : σ → List Nat) (leaf : α → PyData) : ∀ (n : Nat) (p : α) (r : List (σ × α)), good ky n p r → Pm 0 (leaf p) → (∀ x ∈ r, Pm 0 (leaf x.2)) → Pm r.length (tr ky leaf n p r)
  | 0, p, r, g, hp, _ => by
    have e : r = [] := g
    rw [e]
    exact hp
  | n + 1, p, r, g, hp, hr => by
    obtain ⟨_, g1, g2⟩ := g
    have hm := sp_mem (w := fun s => (lvK (n + 1) (ky s)).isSome) (A := fun x => Pm 0 (leaf x)) (B := fun _ => True) r p hp fun x hx => ⟨hr x hx, trivial⟩
    rw [sp_len (w := fun s => (lvK (n + 1) (ky s)).isSome) r p]
    have h1 := tr_ind hs ky leaf n _ _ g1 (by rw [sp_head]; exact hp) fun x hx => (hm.1 x hx).1
    have e : lenG (sp (fun s => (lvK (n + 1) (ky s)).isSome) p r).2 = (((sp (fun s => (lvK (n + 1) (ky s)).isSome) p r).2.map fun x => x.2.2.length).map fun n => 1 + n).sum := by
      unfold lenG
      rw [List.map_map]
      rfl
    rw [e]
    refine fold_ind hs _ _ _ _ h1 (by rw [List.length_map, List.length_map]) fun i k u m e1 e2 => ?_
    rw [List.getElem?_map] at e1 e2
    cases hx : (sp (fun s => (lvK (n + 1) (ky s)).isSome) p r).2[i]? with
    | none =>
      rw [hx] at e1
      cases e1
    | some x =>
      rw [hx] at e1 e2
      cases e1
      cases e2
      have hxm := List.mem_of_getElem? hx
      obtain ⟨_, m1, m2, m3⟩ := hm.2 x hxm
      exact ⟨lv_head m1, tr_ind hs ky leaf n _ _ (g2 x hxm) m2 fun y hy => (m3 y hy).1⟩
/-! ### from the law's rule of one comparison to good chains -/
def isCmp (k : List Nat) : Bool := (kCmp k).isSome
def isWord (k : List Nat) : Bool := (kAnd k).isSome || (kOr k).isSome
def Cm (ky : σ → List Nat) : Bool → List (σ × α) → Prop
  | _, [] => True
  | b, (s, _) :: r => (b = true → isCmp (ky s) = false) ∧ Cm ky (isCmp (ky s) || (b && !isWord (ky s))) r
theorem cm_false {ky : σ → List Nat} : ∀ (r : List (σ × α)), Cm ky true r → Cm ky false r
  | [], _ => trivial
  | (s, q) :: r, ⟨h1, h2⟩ => by
    refine ⟨fun z => (by cases z), ?_⟩
    have := h1 rfl
    rw [this] at h2 ⊢
    cases e : isWord (ky s) with
    | true =>
      rw [e] at h2
      exact h2
    | false =>
      rw [e] at h2
      exact cm_false r h2
theorem sp_cm {ky : σ → List Nat} (hw : ∀ s, w s = true → isWord (ky s) = true ∧ isCmp (ky s) = false) : ∀ (r : List (σ × α)) (p : α) (b : Bool), Cm ky b r → Cm ky b (sp w p r).1.2 ∧ ∀ x ∈ (sp w p r).2, Cm ky false x.2.2
  | [], p, b, _ => ⟨trivial, fun x h => (by cases h)⟩
  | (s, q) :: r, p, b, ⟨h1, h2⟩ => by
    by_cases h : w s = true
    · rw [sp_pos h]
      obtain ⟨a1, a2⟩ := hw s h
      rw [a1, a2] at h2
      have h2' : Cm ky false r := by
        cases b <;> exact h2
      obtain ⟨i1, i2⟩ := sp_cm hw r q false h2'
      refine ⟨trivial, fun x hx => ?_⟩
      rcases List.mem_cons.mp hx with rfl | hx
      · exact i1
      · exact i2 x hx
    · rw [sp_neg h]
      obtain ⟨i1, i2⟩ := sp_cm hw r q _ h2
      exact ⟨⟨h1, i1⟩, i2⟩
theorem sp_one {ky : σ → List Nat} : ∀ (r : List (σ × α)) (p : α) (b : Bool), Cm ky b r → (∀ x ∈ r, isWord (ky x.1) = false) → (sp (fun s => (lvK 3 (ky s)).isSome) p r).2.length ≤ if b then 0 else 1
  | [], p, b, _, _ => Nat.zero_le _
  | (s, q) :: r, p, b, ⟨h1, h2⟩, hx => by
    have e := hx (s, q) (List.mem_cons_self ..)
    by_cases h : (lvK 3 (ky s)).isSome = true
    · have hb : b = false := by
        cases b with
        | false => rfl
        | true =>
          have := h1 rfl
          have h' : isCmp (ky s) = true := h
          rw [h'] at this
          cases this
      subst hb
      rw [show isCmp (ky s) = true from h] at h2
      have ih := sp_one r q true h2 fun x hh => hx x (List.mem_cons_of_mem _ hh)
      rw [sp_pos (w := fun s => (lvK 3 (ky s)).isSome) h, List.length_cons]
      simp only [if_true] at ih
      simp only [Bool.false_eq_true, if_false]
      omega
    · have hc : isCmp (ky s) = false := by
        cases e2 : isCmp (ky s) with
        | false => rfl
        | true => exact absurd e2 h
      rw [hc, e] at h2
      have h2' : Cm ky b r := by
        cases b <;> exact h2
      rw [sp_neg (w := fun s => (lvK 3 (ky s)).isSome) h]
      exact sp_one r q b h2' fun x hh => hx x (List.mem_cons_of_mem _ hh)
/-- signs of the levels up to n -/
def Upto (ky : σ → List Nat) (n : Nat) (r : List (σ × α)) : Prop := ∀ x ∈ r, ∃ m, m ≤ n ∧ (lvK m (ky x.1)).isSome = true
theorem word_lv {k : List Nat} : isWord k = true ↔ (lvK 4 k).isSome = true ∨ (lvK 5 k).isSome = true := by
  show ((kAnd k).isSome || (kOr k).isSome) = true ↔ (kAnd k).isSome = true ∨ (kOr k).isSome = true
  rw [Bool.or_eq_true]
theorem cmp_lv {k : List Nat} : isCmp k = (lvK 3 k).isSome := rfl
theorem good_of {ky : σ → List Nat} : ∀ (n : Nat), n ≤ 5 → ∀ (p : α) (r : List (σ × α)), Upto ky n r → Cm ky false r → good ky n p r
  | 0, _, p, r, hu, _ => by
    cases r with
    | nil => rfl
    | cons x r =>
      obtain ⟨m, h1, h2⟩ := hu x (List.mem_cons_self ..)
      have : m = 0 := by omega
      subst this
      cases h2
  | n + 1, hn, p, r, hu, hc => by
    have hm := sp_mem (w := fun s => (lvK (n + 1) (ky s)).isSome) (A := fun _ => True) (B := fun s => ∃ m, m ≤ n + 1 ∧ (lvK m (ky s)).isSome = true) r p trivial fun x hx => ⟨trivial, hu x hx⟩
    have low : ∀ {s : σ}, (∃ m, m ≤ n + 1 ∧ (lvK m (ky s)).isSome = true) → ¬ (lvK (n + 1) (ky s)).isSome = true → ∃ m, m ≤ n ∧ (lvK m (ky s)).isSome = true := fun {s} ⟨m, h1, h2⟩ h3 => by
      refine ⟨m, ?_, h2⟩
      rcases Nat.lt_or_ge n m with q | q
      · have : m = n + 1 := by omega
        rw [this] at h2
        exact absurd h2 h3
      · exact q
    have u1 : Upto ky n (sp (fun s => (lvK (n + 1) (ky s)).isSome) p r).1.2 := fun x hx => low (hm.1 x hx).2.1 (hm.1 x hx).2.2
    have u2 : ∀ x ∈ (sp (fun s => (lvK (n + 1) (ky s)).isSome) p r).2, Upto ky n x.2.2 := fun x hx y hy => low ((hm.2 x hx).2.2.2 y hy).2.1 ((hm.2 x hx).2.2.2 y hy).2.2
    have cms : Cm ky false (sp (fun s => (lvK (n + 1) (ky s)).isSome) p r).1.2 ∧ ∀ x ∈ (sp (fun s => (lvK (n + 1) (ky s)).isSome) p r).2, Cm ky false x.2.2 := by
      by_cases h3 : n + 1 ≤ 3
      · have nw : ∀ {s : σ}, (∃ m, m ≤ n + 1 ∧ (lvK m (ky s)).isSome = true) → isWord (ky s) = false := fun {s} ⟨m, h1, h2⟩ => by
          cases e : isWord (ky s) with
          | false => rfl
          | true =>
            rcases word_lv.mp e with q | q
            · rw [lv_other h2 (show 4 ≠ m by omega)] at q
              cases q
            · rw [lv_other h2 (show 5 ≠ m by omega)] at q
              cases q
        have sub : ∀ (r : List (σ × α)), (∀ x ∈ r, isWord (ky x.1) = false) → Cm ky false r → ∀ (p : α), Cm ky false (sp (fun s => (lvK (n + 1) (ky s)).isSome) p r).1.2 ∧ ∀ x ∈ (sp (fun s => (lvK (n + 1) (ky s)).isSome) p r).2, Cm ky false x.2.2 := by
          intro r
          have gen : ∀ (r : List (σ × α)), (∀ x ∈ r, isWord (ky x.1) = false) → ∀ (b : Bool), Cm ky b r → ∀ (p : α), Cm ky b (sp (fun s => (lvK (n + 1) (ky s)).isSome) p r).1.2 ∧ ∀ x ∈ (sp (fun s => (lvK (n + 1) (ky s)).isSome) p r).2, Cm ky false x.2.2 := by
            intro r
            induction r with
            | nil => exact fun _ b _ p => ⟨trivial, fun x h => (by cases h)⟩
            | cons y r ih =>
              obtain ⟨s, q⟩ := y
              rintro hx b ⟨h1, h2⟩ p
              have hx' := fun x hh => hx x (List.mem_cons_of_mem _ hh)
              by_cases hh : (lvK (n + 1) (ky s)).isSome = true
              · rw [sp_pos (w := fun s => (lvK (n + 1) (ky s)).isSome) hh]
                have h2' : Cm ky false r := by
                  cases e : (isCmp (ky s) || (b && !isWord (ky s))) with
                  | false =>
                    rw [e] at h2
                    exact h2
                  | true =>
                    rw [e] at h2
                    exact cm_false r h2
                obtain ⟨i1, i2⟩ := ih hx' false h2' q
                refine ⟨trivial, fun x hx => ?_⟩
                rcases List.mem_cons.mp hx with rfl | hx
                · exact i1
                · exact i2 x hx
              · rw [sp_neg (w := fun s => (lvK (n + 1) (ky s)).isSome) hh]
                obtain ⟨i1, i2⟩ := ih hx' _ h2 q
                exact ⟨⟨h1, i1⟩, i2⟩
          exact fun hx hc p => gen r hx false hc p
        exact sub r (fun x hx => nw (hu x hx)) hc p
      · refine sp_cm (fun s hs => ?_) r p false hc
        have h45 : n + 1 = 4 ∨ n + 1 = 5 := by omega
        refine ⟨word_lv.mpr ?_, ?_⟩
        · rcases h45 with q | q <;> rw [q] at hs
          · exact .inl hs
          · exact .inr hs
        · rw [cmp_lv, lv_other hs (by omega)]
          rfl
    refine ⟨fun e => ?_, good_of n (by omega) _ _ u1 cms.1, fun x hx => good_of n (by omega) _ _ (u2 x hx) (cms.2 x hx)⟩
    subst e
    have := sp_one (ky := ky) r p false hc fun x hx => by
      obtain ⟨m, h1, h2⟩ := hu x hx
      cases e : isWord (ky x.1) with
      | false => rfl
      | true =>
        rcases word_lv.mp e with q | q
        · rw [lv_other h2 (show 4 ≠ m by omega)] at q
          cases q
        · rw [lv_other h2 (show 5 ≠ m by omega)] at q
          cases q
    simpa using this
end
end Tk

set_option Elab.async false
set_option linter.all false
set_option maxRecDepth 100000
namespace Tk
open PySem L2 Lx
/-! ### operands as tokens; the readers read chains of them -/
structure TO where
  o : List Tk
  d : PyData
def fr : List (Tk × TO) → List Tk
  | [] => []
  | (s, q) :: r => s :: (q.o ++ fr r)
def fl (p : TO) (r : List (Tk × TO)) : List Tk := p.o ++ fr r
def frG : List (Tk × (TO × List (Tk × TO))) → List Tk
  | [] => []
  | (s, g) :: r => s :: (fl g.1 g.2 ++ frG r)
theorem sp_fl {w : Tk → Bool} : ∀ (r : List (Tk × TO)) (p : TO), fl p r = fl (sp w p r).1.1 (sp w p r).1.2 ++ frG (sp w p r).2
  | [], p => by
    show p.o ++ [] = (p.o ++ []) ++ []
    rw [List.append_nil, List.append_nil]
  | (s, q) :: r, p => by
    have ih := sp_fl (w := w) r q
    have hq := sp_head (w := w) r q
    by_cases h : w s = true
    · rw [sp_pos h]
      show p.o ++ (s :: fl q r) = (p.o ++ []) ++ (s :: (fl (sp w q r).1.1 (sp w q r).1.2 ++ frG (sp w q r).2))
      rw [← ih, List.append_nil]
    · rw [sp_neg h]
      show p.o ++ (s :: fl q r) = (p.o ++ (s :: ((sp w q r).1.1.o ++ fr (sp w q r).1.2))) ++ frG (sp w q r).2
      rw [ih]
      show p.o ++ (s :: ((sp w q r).1.1.o ++ fr (sp w q r).1.2 ++ frG (sp w q r).2)) = _
      simp
def Rn (E Pl : RD) : Nat → RD
  | 0 => RCalled E
  | 1 => RProd E
  | 2 => RSum E
  | 3 => RPlain E Pl
  | 4 => RBoth E Pl
  | _ => RExpr E Pl
/-- what may stand behind a chain of level n -/
structure Tm (n : Nat) (l : List Tk) : Prop where
  call : kCall (key l) = none
  dot : key l ≠ cd "."
  lv : ∀ m, m ≤ n → lvK m (key l) = none
structure TOk (E : RD) (p : TO) : Prop where
  rd : ∀ lv r, lv ≤ 36 → kCall (key r) = none → key r ≠ cd "." → RCalled E lv (p.o ++ r) p.d r
  no : ∀ r, key (p.o ++ r) ≠ cd "not"
theorem tm_sign {n m : Nat} {t : Tk} {l : List Tk} (h : (lvK m (keyOf t)).isSome = true) (hn : n < m) : Tm n (t :: l) :=
  ⟨(lv_call h).1, (lv_call h).2, fun k hk => lv_other h (by omega)⟩
theorem tm_le {n m : Nat} {l : List Tk} (h : Tm m l) (hn : n ≤ m) : Tm n l := ⟨h.call, h.dot, fun k hk => h.lv k (by omega)⟩
/-- behind the first group -/
theorem tm_rest {n : Nat} {gs : List (Tk × (TO × List (Tk × TO)))} {rest : List Tk} (h : Tm (n + 1) rest) (hg : ∀ x ∈ gs, (lvK (n + 1) (keyOf x.1)).isSome = true) : Tm n (frG gs ++ rest) := by
  cases gs with
  | nil => exact tm_le h (Nat.le_succ n)
  | cons x gs =>
    obtain ⟨s, g⟩ := x
    exact tm_sign (m := n + 1) (hg (s, g) (List.mem_cons_self ..)) (Nat.lt_succ_self n)
theorem loop_groups {R : RD} {n : Nat} {f : TO → List (Tk × TO) → PyData} {rest : List Tk} (ht : Tm (n + 1) rest) : ∀ (gs : List (Tk × (TO × List (Tk × TO)))) (lv : Nat) (t : PyData), (∀ x ∈ gs, (lvK (n + 1) (keyOf x.1)).isSome = true) → lv + lenG gs ≤ 36 →
    (∀ x ∈ gs, ∀ lv l, lv + x.2.2.length ≤ 36 → Tm n l → R lv (fl x.2.1 x.2.2 ++ l) (f x.2.1 x.2.2) l) →
    RLoop R (lvK (n + 1)) (fold t (gs.map fun x => ((lvK (n + 1) (keyOf x.1)).getD [], f x.2.1 x.2.2))) rest gs.length lv t (frG gs ++ rest)
  | [], lv, t, _, _, _ => .stop (ht.lv _ (Nat.le_refl _))
  | (s, g) :: gs, lv, t, hk, hl, hR => by
    have h1 := hk (s, g) (List.mem_cons_self ..)
    have e : lenG ((s, g) :: gs) = 1 + g.2.length + lenG gs := by
      unfold lenG
      rw [List.map_cons, List.sum_cons]
    rw [e] at hl
    have hk' : ∀ x ∈ gs, (lvK (n + 1) (keyOf x.1)).isSome = true := fun x hx => hk x (List.mem_cons_of_mem _ hx)
    have ih := loop_groups (R := R) (f := f) ht gs (lv + 1) (.tuple [dw ((lvK (n + 1) (keyOf s)).getD []), t, f g.1 g.2]) hk' (by omega) fun x hx => hR x (List.mem_cons_of_mem _ hx)
    have h2 := hR (s, g) (List.mem_cons_self ..) (lv + 1) (frG gs ++ rest) (by show lv + 1 + g.2.length ≤ 36; omega) (tm_rest ht hk')
    have h3 : lvK (n + 1) (keyOf s) = some ((lvK (n + 1) (keyOf s)).getD []) := by
      cases e2 : lvK (n + 1) (keyOf s) with
      | none =>
        have h1' : (lvK (n + 1) (keyOf s)).isSome = true := h1
        rw [e2] at h1'
        cases h1'
      | some v => rfl
    have e3 : frG ((s, g) :: gs) ++ rest = s :: (fl g.1 g.2 ++ (frG gs ++ rest)) := by
      show s :: (fl g.1 g.2 ++ frG gs) ++ rest = _
      simp
    rw [e3]
    exact .step h3 (by omega) h2 ih
theorem climb {E Pl : RD} : ∀ (n : Nat), n ≤ 5 → ∀ (p : TO) (r : List (Tk × TO)) (lv : Nat) (rest : List Tk), TOk E p → (∀ x ∈ r, TOk E x.2) → good keyOf n p r → lv + r.length ≤ 36 → Tm n rest →
    Rn E Pl n lv (fl p r ++ rest) (tr keyOf TO.d n p r) rest
  | 0, _, p, r, lv, rest, hp, _, g, hl, ht => by
    have e : r = [] := g
    subst e
    show RCalled E lv ((p.o ++ []) ++ rest) p.d rest
    rw [List.append_nil]
    exact hp.rd lv rest (by simpa using hl) ht.call ht.dot
  | n + 1, hn, p, r, lv, rest, hp, hr, g, hl, ht => by
    obtain ⟨g0, g1, g2⟩ := g
    have hm := sp_mem (w := fun s => (lvK (n + 1) (keyOf s)).isSome) (A := TOk E) (B := fun _ => True) r p hp fun x hx => ⟨hr x hx, trivial⟩
    have hln := sp_len (w := fun s => (lvK (n + 1) (keyOf s)).isSome) r p
    have hfl := sp_fl (w := fun s => (lvK (n + 1) (keyOf s)).isSome) r p
    have hd := sp_head (w := fun s => (lvK (n + 1) (keyOf s)).isSome) r p
    have etr : tr keyOf TO.d (n + 1) p r = fold (tr keyOf TO.d n (sp (fun s => (lvK (n + 1) (keyOf s)).isSome) p r).1.1 (sp (fun s => (lvK (n + 1) (keyOf s)).isSome) p r).1.2)
      ((sp (fun s => (lvK (n + 1) (keyOf s)).isSome) p r).2.map fun x => ((lvK (n + 1) (keyOf x.1)).getD [], tr keyOf TO.d n x.2.1 x.2.2)) := rfl
    rw [etr, hfl]
    generalize sp (fun s => (lvK (n + 1) (keyOf s)).isSome) p r = S at hm hln hd g0 g1 g2
    obtain ⟨⟨p0, r0⟩, gs⟩ := S
    obtain rfl : p0 = p := hd
    have hk : ∀ x ∈ gs, (lvK (n + 1) (keyOf x.1)).isSome = true := fun x hx => (hm.2 x hx).2.1
    have hR : ∀ x ∈ gs, ∀ lv l, lv + x.2.2.length ≤ 36 → Tm n l → Rn E Pl n lv (fl x.2.1 x.2.2 ++ l) (tr keyOf TO.d n x.2.1 x.2.2) l := fun x hx lv l h1 h2 =>
      climb n (by omega) _ _ lv l (hm.2 x hx).2.2.1 (fun y hy => ((hm.2 x hx).2.2.2 y hy).1) (g2 x hx) h1 h2
    have h0 : Rn E Pl n lv (fl p0 r0 ++ (frG gs ++ rest)) (tr keyOf TO.d n p0 r0) (frG gs ++ rest) :=
      climb n (by omega) _ _ lv _ hp (fun y hy => (hm.1 y hy).1) g1 (by have : r.length = r0.length + lenG gs := hln; omega) (tm_rest ht hk)
    have hl2 : lv + lenG gs ≤ 36 := by
      have : r.length = r0.length + lenG gs := hln
      omega
    show Rn E Pl (n + 1) lv (fl p0 r0 ++ frG gs ++ rest) (fold (tr keyOf TO.d n p0 r0) (gs.map fun x => ((lvK (n + 1) (keyOf x.1)).getD [], tr keyOf TO.d n x.2.1 x.2.2))) rest
    rw [List.append_assoc]
    have hc : n = 0 ∨ n = 1 ∨ n = 2 ∨ n = 3 ∨ n = 4 := by omega
    rcases hc with rfl | rfl | rfl | rfl | rfl
    · exact ⟨_, _, _, h0, loop_groups ht gs lv _ hk hl2 hR⟩
    · exact ⟨_, _, _, h0, loop_groups ht gs lv _ hk hl2 hR⟩
    · have hno : key (fl p0 r0 ++ (frG gs ++ rest)) ≠ cd "not" := by
        show key ((p0.o ++ fr r0) ++ _) ≠ _
        rw [List.append_assoc]
        exact hp.no _
      cases gs with
      | nil => exact .sum hno h0 (ht.lv 3 (Nat.le_refl _))
      | cons x gs =>
        cases gs with
        | nil =>
          obtain ⟨s, g⟩ := x
          have h1 := hk (s, g) (List.mem_cons_self ..)
          have e3 : frG [(s, g)] ++ rest = s :: (fl g.1 g.2 ++ rest) := by
            show s :: (fl g.1 g.2 ++ []) ++ rest = _
            simp
          have e4 : lenG [(s, g)] = 1 + g.2.length := by
            unfold lenG
            simp
          rw [e4] at hl2
          have h2 := hR (s, g) (List.mem_cons_self ..) (lv + 1) rest (by show lv + 1 + g.2.length ≤ 36; omega) (tm_le ht (by decide))
          have h3 : kCmp (keyOf s) = some ((lvK 3 (keyOf s)).getD []) := by
            cases e2 : lvK 3 (keyOf s) with
            | none =>
              have h1' : (lvK 3 (keyOf s)).isSome = true := h1
              rw [e2] at h1'
              cases h1'
            | some v => exact e2
          rw [e3] at h0 hno ⊢
          exact .cmp hno h0 h3 (by omega) h2
        | cons y gs =>
          have := g0 rfl
          simp at this
    · exact ⟨_, _, _, h0, loop_groups ht gs lv _ hk hl2 hR⟩
    · exact ⟨_, _, _, h0, loop_groups ht gs lv _ hk hl2 hR⟩
end Tk

set_option Elab.async false
set_option linter.all false
set_option maxRecDepth 100000
namespace Tk
open PySem L2 Lx
/-! ### reading a text token by token -/
theorem numL_zero : ∀ (n : Nat) (r : List Nat), TL.numL n = 48 :: r → r = [] := fun n => by
  induction n using Nat.strongRecOn with
  | _ n ih =>
    intro r h
    by_cases h1 : n < 10
    · rw [TL.numL_lt h1] at h
      exact (List.cons.inj h).2.symm
    · rw [TL.numL_step (by omega)] at h
      cases hq : TL.numL (n / 10) with
      | nil => exact absurd hq (TL.numL_ne _)
      | cons a l =>
        rw [hq, List.cons_append] at h
        have ha : a = 48 := (List.cons.inj h).1
        rw [ha] at hq
        have hl := ih (n / 10) (by omega) l hq
        rw [hl] at hq
        have z : TL.numL (n / 10) = TL.numL 0 := hq
        have := TL.numL_inj z
        omega
theorem nm_num {n : Nat} (h : n < 65536) : Nm n (TL.numL n) := by
  refine ⟨TL.numL_ne n, fun c hc => ?_, TL.numL_len (by decide) (Nat.lt_of_lt_of_le h (by decide)), fun r => numL_zero n r, TL.numL_val n, h⟩
  have z := TL.numL_digits n c hc
  unfold isD
  rw [decide_eq_true z.1, decide_eq_true z.2] <;> rfl
def LG (i : Nat) (l : List Nat) (ts : List Tk) : Prop := Lex (i + gap false l) (l.drop (gap false l)) ts none
theorem LG.nil {i : Nat} : LG i [] [] := by
  show Lex (i + gap false []) ([].drop (gap false [])) [] none
  rw [List.drop_nil]
  exact .done _
theorem LG.sp {i c : Nat} {l : List Nat} {ts : List Tk} (hc : isB c = true) (h : LG (i + 1) l ts) : LG i (c :: l) ts := by
  have h35 : c ≠ 35 := fun z => by
    rw [z] at hc
    exact absurd hc (by decide)
  have e : gap false (c :: l) = gap false l + 1 := by
    rw [gap, if_neg h35, if_pos hc]
  unfold LG at h ⊢
  rw [e, List.drop_succ_cons, show i + (gap false l + 1) = i + 1 + gap false l by omega]
  exact h
theorem LG.tok {i : Nat} {sh X : List Nat} {k : List Nat} {v : Tv} {ts : List Tk} (hne : sh ≠ []) (hg : gap false (sh ++ X) = 0) (ht : Lx.tok (sh ++ X) = (some (k, v), sh.length)) (h : LG (i + sh.length) X ts) : LG i (sh ++ X) (⟨k, v, i⟩ :: ts) := by
  unfold LG
  rw [hg, Nat.add_zero, List.drop_zero]
  refine .more (n := sh.length) (g := gap false X) (fun z => hne (List.append_eq_nil_iff.mp z).1) ht (by rw [List.drop_left]) ?_
  rw [← List.drop_drop, List.drop_left]
  exact h
/-- no sign of a word comes first -/
def NW (X : List Nat) : Prop := ∃ b r, X = b :: r ∧ isW b = false
theorem tokW {w X : List Nat} (W : Wd w) (hX : NW X) : Lx.tok (w ++ X) = (some (if w ∈ RES then (kW, .inl w) else (kN, .inl w)), w.length) := by
  obtain ⟨b, Y, rfl, hb⟩ := hX
  have e := wd_append (X := Y) W.all hb
  cases hw : w with
  | nil => exact absurd hw W.ne
  | cons c r =>
    have hc := W.hd c r hw
    rw [hw] at e
    rw [List.cons_append] at e ⊢
    unfold Lx.tok
    simp only [e, hc, if_true]
    have hl := W.len
    rw [hw] at hl
    by_cases hr : c :: r ∈ RES
    · simp [hr]
    · simp only [hr, hl, if_true, if_false]
theorem tokN {n : Nat} {l X : List Nat} (N : Nm n l) (hX : NW X) : Lx.tok (l ++ X) = (some (kI, .inr n), l.length) := by
  obtain ⟨b, Y, rfl, hb⟩ := hX
  have hw : ∀ c ∈ l, isW c = true := fun c hc => (D_W (N.all c hc)).1
  have e := wd_append (X := Y) hw hb
  have hall : l.all isD = true := List.all_eq_true.mpr N.all
  have hlen := N.len
  have hv := N.val
  have hle := N.le
  cases hl : l with
  | nil => exact absurd hl N.ne
  | cons c r =>
    have hz := N.zero r
    obtain ⟨c1, c2⟩ := D_W (N.all c (by rw [hl]; exact List.mem_cons_self ..))
    rw [hl] at e hall hlen hv hz
    rw [List.cons_append] at e ⊢
    unfold Lx.tok
    simp only [e, c1, c2, hall, hv, Bool.false_eq_true, if_false, if_true, Bool.not_true, Bool.false_or]
    rw [if_neg (by simp only [decide_eq_true_eq]; omega), if_neg (by
      rintro ⟨rfl, z⟩
      exact z (by rw [hz rfl])), if_neg (by omega)]
theorem gapW {w X : List Nat} (hne : w ≠ []) (h : ∀ c ∈ w, isW c = true) : gap false (w ++ X) = 0 := by
  cases w with
  | nil => exact absurd rfl hne
  | cons c r => exact gap0_W (h c (List.mem_cons_self ..))
theorem LG.word {i : Nat} {w X : List Nat} {ts : List Tk} (W : Wd w) (hX : NW X) (hr : w ∈ RES) (h : LG (i + w.length) X ts) : LG i (w ++ X) (⟨kW, .inl w, i⟩ :: ts) :=
  LG.tok W.ne (gapW W.ne W.all) (by rw [tokW W hX, if_pos hr]) h
theorem LG.name {i : Nat} {w X : List Nat} {ts : List Tk} (W : Wd w) (hX : NW X) (hr : w ∉ RES) (h : LG (i + w.length) X ts) : LG i (w ++ X) (⟨kN, .inl w, i⟩ :: ts) :=
  LG.tok W.ne (gapW W.ne W.all) (by rw [tokW W hX, if_neg hr]) h
theorem LG.num {i n : Nat} {X : List Nat} {ts : List Tk} (hn : n < 65536) (hX : NW X) (h : LG (i + (TL.numL n).length) X ts) : LG i (TL.numL n ++ X) (⟨kI, .inr n, i⟩ :: ts) :=
  LG.tok (TL.numL_ne n) (gapW (TL.numL_ne n) fun c hc => (D_W ((nm_num hn).all c hc)).1) (tokN (nm_num hn) hX) h
theorem LG.sign {i c : Nat} {X : List Nat} {ts : List Tk} (hc : c ∈ [40, 41, 44, 46, 59]) (h : LG (i + 1) X ts) : LG i (c :: X) (⟨kG, .inl [c], i⟩ :: ts) := by
  refine LG.tok (sh := [c]) (by simp) ?_ ?_ h
  · simp only [List.mem_cons, List.not_mem_nil, or_false] at hc
    rcases hc with rfl | rfl | rfl | rfl | rfl <;> simp [gap, isB]
  · simp only [List.mem_cons, List.not_mem_nil, or_false] at hc
    rcases hc with rfl | rfl | rfl | rfl | rfl <;> simp [Lx.tok, isL, isW, LET, WCH, SGN, List.isPrefixOf, List.find?]
theorem nw_cons {c : Nat} {X : List Nat} (h : isW c = false) : NW (c :: X) := ⟨c, X, rfl, h⟩
theorem nw_app {Y X : List Nat} (h : NW Y) : NW (Y ++ X) := by
  obtain ⟨b, r, rfl, hb⟩ := h
  exact ⟨b, r ++ X, rfl, hb⟩
/-! ### keys -/
theorem key_W {w : List Nat} {i : Nat} : keyOf ⟨kW, .inl w, i⟩ = w := if_pos (.inl rfl)
theorem key_G {w : List Nat} {i : Nat} : keyOf ⟨kG, .inl w, i⟩ = w := if_pos (.inr rfl)
theorem key_N {v : Tv} {i : Nat} : keyOf ⟨kN, v, i⟩ = cd "name" := (if_neg (show ¬ (kN = kW ∨ kN = kG) by decide)).trans (show kN = cd "name" by decide +kernel)
theorem key_I {v : Tv} {i : Nat} : keyOf ⟨kI, v, i⟩ = cd "number" := (if_neg (show ¬ (kI = kW ∨ kI = kG) by decide)).trans (show kI = cd "number" by decide +kernel)
theorem tm_end {n : Nat} {l : List Tk} (hn : n ≤ 5) (h : key l ∈ [cd ")", cd ",", cd ";"]) : Tm n l := by
  have hk : ∀ k ∈ [cd ")", cd ",", cd ";"], kCall k = none ∧ k ≠ cd "." ∧ ∀ m, m < 6 → lvK m k = none := by decide +kernel
  obtain ⟨a, b, c⟩ := hk _ h
  exact ⟨a, b, fun m hm => c m (by omega)⟩
theorem up {E Pl : RD} {lv : Nat} {l r : List Tk} {d : PyData} (h : RCalled E lv l d r) (hn : key l ≠ cd "not") (ht : Tm 5 r) : RExpr E Pl lv l d r :=
  ⟨d, r, 0, ⟨d, r, 0, .sum hn ⟨d, r, 0, ⟨d, r, 0, h, .stop (ht.lv 1 (by decide))⟩, .stop (ht.lv 2 (by decide))⟩ (ht.lv 3 (by decide)), .stop (ht.lv 4 (by decide))⟩, .stop (ht.lv 5 (by decide))⟩
theorem upP {E Pl : RD} {lv : Nat} {l r : List Tk} {d : PyData} (h : RPlain E Pl lv l d r) (ht : Tm 5 r) : RExpr E Pl lv l d r :=
  ⟨d, r, 0, ⟨d, r, 0, h, .stop (ht.lv 4 (by decide))⟩, .stop (ht.lv 5 (by decide))⟩
theorem prim1 {E : RD} {lv : Nat} {l r : List Tk} {d : PyData} (h : RPrim E lv l d r) (hk : kCall (key r) = none) : RCalled E lv l d r := ⟨d, r, 0, h, .stop hk⟩
/-! ### what is drawn -/
structure Op where
  sh : List Nat
  d : PyData
  o : Nat → List Tk
/-- how big data is -/
structure Sz (a : Nat) (d : PyData) : Prop where
  dep : Dep (2 + a) d
  shw : d.showable = true
  dic : d.hasDict = false
  dpt : d.depth ≤ 3 + a
  lvs : d.leavesShort 10 = true
  wgt : d.weight ≤ 900 * a + 400
structure OpOk (p : Op) : Prop where
  len : p.sh.length ≤ 20
  lex : ∀ i X ts, NW X → LG (i + p.sh.length) X ts → LG i (p.sh ++ X) (p.o i ++ ts)
  rd : ∀ i, TOk (RE 2) ⟨p.o i, p.d⟩
  wf : ∀ i, ∀ t ∈ p.o i, WF t
  cnt : ∀ i, (p.o i).length ≤ 6
  sz : Sz 0 p.d
def NMS : List (List Nat) := [[97], [98], [120, 121], [102, 95, 49]]
theorem nms_wd {w : List Nat} (h : w ∈ NMS) : Wd w ∧ w ∉ RES ∧ w.length ≤ 3 := by
  have key : ∀ w ∈ NMS, (w ≠ [] ∧ (∀ c ∈ w.take 1, isL c = true) ∧ (∀ c ∈ w, isW c = true)) ∧ w ∉ RES ∧ w.length ≤ 3 := by decide +kernel
  obtain ⟨⟨a, b, c⟩, d, e⟩ := key w h
  exact ⟨⟨a, fun c r e => b c (by rw [e]; simp), c, by omega⟩, d, e⟩
theorem wf_N {w : List Nat} {i : Nat} : WF ⟨kN, .inl w, i⟩ := fun _ => ⟨w, rfl⟩
theorem wf_G {w : List Nat} {i : Nat} : WF ⟨kG, .inl w, i⟩ := fun _ => ⟨w, rfl⟩
theorem wf_W {w : List Nat} {i : Nat} : WF ⟨kW, .inl w, i⟩ := fun _ => ⟨w, rfl⟩
theorem wf_I {n : Nat} {i : Nat} : WF ⟨kI, .inr n, i⟩ := fun h => absurd h (show ¬ (kI = kW ∨ kI = kG) by decide)
def oNum (n : Nat) : Op := ⟨TL.numL n, .tuple [ds "int", .int n], fun i => [⟨kI, .inr n, i⟩]⟩
def oVar (w : List Nat) : Op := ⟨w, .tuple [ds "var", dw w], fun i => [⟨kN, .inl w, i⟩]⟩
def oMem (w : List Nat) : Op := ⟨[115] ++ (46 :: w), .tuple [ds "member", dw [115], dw w], fun i => [⟨kN, .inl [115], i⟩, ⟨kG, .inl [46], i + 1⟩, ⟨kN, .inl w, i + 1 + 1⟩]⟩
def oCall (w : List Nat) (n : Nat) : Op := ⟨w ++ (40 :: (TL.numL n ++ [44, 32, 98, 41])), .tuple [ds "call", .tuple [ds "var", dw w], .tuple [.tuple [ds "int", .int n], .tuple [ds "var", dw [98]]]],
  fun i => [⟨kN, .inl w, i⟩, ⟨kG, .inl [40], i + w.length⟩, ⟨kI, .inr n, i + w.length + 1⟩, ⟨kG, .inl [44], i + w.length + 1 + (TL.numL n).length⟩, ⟨kN, .inl [98], i + w.length + 1 + (TL.numL n).length + 1 + 1⟩, ⟨kG, .inl [41], i + w.length + 1 + (TL.numL n).length + 1 + 1 + 1⟩]⟩
def oNot : Op := ⟨[40] ++ (cd "not" ++ (32 :: (cd "true" ++ [41]))), .tuple [ds "not", .tuple [ds "bool", .bool true]], fun i => [⟨kG, .inl [40], i⟩, ⟨kW, .inl (cd "not"), i + 1⟩, ⟨kW, .inl (cd "true"), i + 1 + 3 + 1⟩, ⟨kG, .inl [41], i + 1 + 3 + 1 + 4⟩]⟩
theorem nb : isB 32 = true := by decide
theorem wd_s : Wd [115] ∧ [115] ∉ RES := ⟨⟨by decide, fun c r e => by cases e; decide, by decide +kernel, by decide⟩, by decide +kernel⟩
theorem int_short {n : Nat} (h : n ≤ 70000) : (PyData.shown (.int (n : Int))).length ≤ 10 :=
  Nat.le_trans (PyProof.Rows.toString_length_le (v := (n : Int)) (by omega) (k := 5) (by decide) (by omega)) (by decide)
theorem int_log {n : Nat} (h : n ≤ 70000) : (n : Int).natAbs.log2 < 17 := by
  rw [Int.natAbs_natCast]
  by_cases h0 : n = 0
  · rw [h0]
    decide
  · exact (Nat.log2_lt h0).mpr (by omega)
theorem int_weight {n : Nat} (h : n ≤ 70000) : (PyData.int (n : Int)).weight ≤ 17 := by
  have := int_log h
  simp only [PyData.weight]
  split <;> omega
theorem dep0 {d : PyData} (h : Prt d []) {n : Nat} (hn : 1 ≤ n) : Dep n d := by
  obtain ⟨m, rfl⟩ : ∃ m, n = m + 1 := ⟨n - 1, by omega⟩
  exact .mk h fun p h => (by cases h)
theorem numL_le {n : Nat} (h : n < 65536) : (TL.numL n).length ≤ 5 := (nm_num h).len
theorem sz_int {n : Nat} (h : n < 65536) : (PyData.int (n : Int)).showable = true ∧ (PyData.int (n : Int)).hasDict = false ∧ (PyData.int (n : Int)).depth = 0 ∧ (PyData.int (n : Int)).leavesShort 10 = true ∧ (PyData.int (n : Int)).weight ≤ 17 := by
  have b1 := int_short (n := n) (by omega)
  have b2 := int_log (n := n) (by omega)
  have b3 := int_weight (n := n) (by omega)
  refine ⟨?_, by simp only [PyData.hasDict], by simp only [PyData.depth], ?_, b3⟩
  · simp only [PyData.showable]
    exact decide_eq_true (by omega)
  · simp only [PyData.leavesShort]
    exact decide_eq_true b1
theorem sz_str {w : List Nat} (h : ∀ c ∈ w, c < 128) : (dw w).showable = true ∧ (dw w).hasDict = false ∧ (dw w).depth = 0 ∧ (dw w).leavesShort 10 = true ∧ (dw w).weight ≤ w.length + 10 := by
  refine ⟨by simp only [dw, PyData.showable], by simp only [dw, PyData.hasDict], by simp only [dw, PyData.depth], ?_, ?_⟩
  · show (tx w).cps.toList.all (fun c => decide (c < 16 ^ 8)) = true
    exact List.all_eq_true.mpr fun c hc => decide_eq_true (Nat.lt_of_lt_of_le (h c hc) (by decide))
  · simp only [dw, PyData.weight]
    have : (tx w).cps.size = w.length := tx_len w
    omega
theorem ds_dw (s : String) : ds s = dw (cd s) := rfl
/-- the numbers of a tuple's sizes -/
structure S4 (dp wt : Nat) (d : PyData) : Prop where
  shw : d.showable = true
  dic : d.hasDict = false
  dpt : d.depth ≤ dp
  lvs : d.leavesShort 10 = true
  wgt : d.weight ≤ wt
structure S4s (dp wt : Nat) (l : List PyData) : Prop where
  shw : PyData.showableAll l = true
  dic : PyData.hasDictAll l = false
  dpt : PyData.depthAll l ≤ dp
  lvs : PyData.leavesShortAll 10 l = true
  wgt : PyData.weightAll l ≤ wt
theorem S4s.nil {dp : Nat} : S4s dp 5 [] := ⟨rfl, rfl, Nat.zero_le _, rfl, by decide⟩
theorem S4s.cons {dp a b : Nat} {d : PyData} {l : List PyData} (h : S4 dp a d) (r : S4s dp b l) : S4s dp (a + b + 5) (d :: l) := by
  obtain ⟨h1, h2, h3, h4, h5⟩ := h
  obtain ⟨r1, r2, r3, r4, r5⟩ := r
  refine ⟨?_, ?_, ?_, ?_, ?_⟩
  · simp only [PyData.showableAll, h1, r1, Bool.and_true]
  · simp only [PyData.hasDictAll, h2, r2, Bool.or_false]
  · simp only [PyData.depthAll]
    omega
  · simp only [PyData.leavesShortAll, h4, r4, Bool.and_true]
  · simp only [PyData.weightAll]
    omega
theorem S4.tup {dp wt : Nat} {l : List PyData} (h : S4s dp wt l) : S4 (dp + 1) (wt + 20) (.tuple l) := by
  obtain ⟨h1, h2, h3, h4, h5⟩ := h
  refine ⟨by simp only [PyData.showable, h1], by simp only [PyData.hasDict, h2], by simp only [PyData.depth]; omega, by simp only [PyData.leavesShort, h4], by simp only [PyData.weight]; omega⟩
theorem S4.mono {a b c e : Nat} {d : PyData} (h : S4 a b d) (h1 : a ≤ c) (h2 : b ≤ e) : S4 c e d := ⟨h.shw, h.dic, Nat.le_trans h.dpt h1, h.lvs, Nat.le_trans h.wgt h2⟩
theorem S4.int {dp n : Nat} (h : n < 65536) : S4 dp 20 (.int (n : Int)) := by
  obtain ⟨a, b, c, d, e⟩ := sz_int h
  exact ⟨a, b, by omega, d, by omega⟩
theorem S4.str {dp m : Nat} {w : List Nat} (h : ∀ c ∈ w, c < 128) (hm : w.length ≤ m) : S4 dp (m + 10) (dw w) := by
  obtain ⟨a, b, c, d, e⟩ := sz_str h
  exact ⟨a, b, by omega, d, by omega⟩
theorem S4.bool {dp : Nat} (b : Bool) : S4 dp 10 (.bool b) := ⟨by simp only [PyData.showable], by simp only [PyData.hasDict], by simp only [PyData.depth]; omega, by simp only [PyData.leavesShort], by simp only [PyData.weight]; omega⟩
theorem nms_128 {w : List Nat} (h : w ∈ NMS) : ∀ c ∈ w, c < 128 := fun c hc => W_128 ((nms_wd h).1.all c hc)
theorem ok_oNum {n : Nat} (h : n < 65536) : OpOk (oNum n) := by
  refine ⟨Nat.le_trans (numL_le h) (by decide), fun i X ts hX hL => LG.num h hX hL, fun i => ⟨fun lv r _ hk _ => prim1 (.num key_I rfl) hk, fun r => ?_⟩, fun i t ht => ?_, fun i => (by show 1 ≤ 6; decide), ?_⟩
  · show keyOf ⟨kI, .inr n, i⟩ ≠ _
    rw [key_I]
    decide +kernel
  · rw [List.mem_singleton.mp ht]
    exact wf_I
  · have s : S4 3 400 (oNum n).d := (S4.tup (.cons (.str (m := 6) (by decide +kernel) (by decide +kernel)) (.cons (.int (dp := 0) h) .nil))).mono (by decide) (by decide)
    exact ⟨dep0 (.leaf (by decide +kernel)) (by decide), s.shw, s.dic, s.dpt, s.lvs, s.wgt⟩
theorem ok_oVar {w : List Nat} (h : w ∈ NMS) : OpOk (oVar w) := by
  obtain ⟨W, hr, hl⟩ := nms_wd h
  refine ⟨Nat.le_trans hl (by decide), fun i X ts hX hL => LG.name W hX hr hL, fun i => ⟨fun lv r _ hk hd => prim1 (.var key_N (.var key_N rfl hd)) hk, fun r => ?_⟩, fun i t ht => ?_, fun i => (by show 1 ≤ 6; decide), ?_⟩
  · show keyOf ⟨kN, .inl w, i⟩ ≠ _
    rw [key_N]
    decide +kernel
  · rw [List.mem_singleton.mp ht]
    exact wf_N
  · have s : S4 3 400 (oVar w).d := (S4.tup (.cons (.str (m := 6) (by decide +kernel) (by decide +kernel)) (.cons (.str (dp := 0) (nms_128 h) hl) .nil))).mono (by decide) (by decide)
    exact ⟨dep0 (.leaf (by decide +kernel)) (by decide), s.shw, s.dic, s.dpt, s.lvs, s.wgt⟩
theorem ok_oMem {w : List Nat} (h : w ∈ NMS) : OpOk (oMem w) := by
  obtain ⟨W, hr, hl⟩ := nms_wd h
  refine ⟨by show ([115] ++ 46 :: w).length ≤ 20; simp; omega, fun i X ts hX hL => ?_, fun i => ⟨fun lv r _ hk hd => prim1 (.var key_N (.mem key_N rfl key_G key_N rfl)) hk, fun r => ?_⟩, fun i t ht => ?_, fun i => (by show 3 ≤ 6; decide), ?_⟩
  · show LG i ([115] ++ (46 :: (w ++ X))) _
    refine LG.name wd_s.1 (nw_cons (by decide)) wd_s.2 (LG.sign (by decide) (LG.name W hX hr ?_))
    have e : i + (oMem w).sh.length = i + [115].length + 1 + w.length := by
      show i + ([115] ++ 46 :: w).length = _
      simp
      omega
    rw [← e]
    exact hL
  · show keyOf ⟨kN, .inl [115], i⟩ ≠ _
    rw [key_N]
    decide +kernel
  · simp only [oMem, List.mem_cons, List.not_mem_nil, or_false] at ht
    rcases ht with rfl | rfl | rfl
    · exact wf_N
    · exact wf_G
    · exact wf_N
  · have s : S4 3 400 (oMem w).d := (S4.tup (.cons (.str (m := 6) (by decide +kernel) (by decide +kernel)) (.cons (.str (m := 1) (by decide +kernel) (by decide +kernel)) (.cons (.str (dp := 0) (nms_128 h) hl) .nil)))).mono (by decide) (by decide)
    exact ⟨dep0 (.leaf (by decide +kernel)) (by decide), s.shw, s.dic, s.dpt, s.lvs, s.wgt⟩
theorem res_not : Wd (cd "not") ∧ cd "not" ∈ RES ∧ Wd (cd "true") ∧ cd "true" ∈ RES := by
  have a : cd "not" ∈ RES := by decide +kernel
  have b : cd "true" ∈ RES := by decide +kernel
  exact ⟨res_wd _ a, a, res_wd _ b, b⟩
theorem re2 : RE 2 = RExpr (RE 1) (RP 1) := by rw [RE]
theorem k40 {i : Nat} : keyOf ⟨kG, .inl [40], i⟩ = cd "(" := key_G.trans (by decide +kernel)
theorem k41 {i : Nat} : keyOf ⟨kG, .inl [41], i⟩ = cd ")" := key_G.trans (by decide +kernel)
theorem k44 {i : Nat} : keyOf ⟨kG, .inl [44], i⟩ = cd "," := key_G.trans (by decide +kernel)
theorem re1 : RE 1 = RExpr (RE 0) (RP 0) := by simp only [RE, RP]
theorem rp1 : RP 1 = RPlain (RE 0) (RP 0) := by simp only [RE, RP]
theorem ok_oNot : OpOk oNot := by
  obtain ⟨w1, r1, w2, r2⟩ := res_not
  refine ⟨by decide +kernel, fun i X ts hX hL => ?_, fun i => ⟨fun lv r hl hk hd => prim1 (.enc k40 (.mk (b := ⟨kG, .inl [41], i + 1 + 3 + 1 + 4⟩) (l := ⟨kW, .inl (cd "not"), i + 1⟩ :: ⟨kW, .inl (cd "true"), i + 1 + 3 + 1⟩ :: ⟨kG, .inl [41], i + 1 + 3 + 1 + 4⟩ :: r) k40 (by omega) ?_ k41)) hk, fun r => ?_⟩, fun i t ht => ?_, fun i => (by show 4 ≤ 6; decide), ?_⟩
  · show LG i (40 :: (cd "not" ++ (32 :: (cd "true" ++ (41 :: X))))) _
    exact LG.sign (by decide) (LG.word w1 (nw_cons (by decide)) r1 (LG.sp nb (LG.word w2 (nw_cons (by decide)) r2 (LG.sign (by decide) hL))))
  · rw [re2]
    refine upP (.neg key_W (by omega) ?_) (tm_end (by decide) (by show keyOf _ ∈ _; rw [key_G]; decide +kernel))
    rw [rp1]
    have tm : Tm 5 (⟨kG, .inl [41], i + 1 + 3 + 1 + 4⟩ :: r) := tm_end (by decide) (by show keyOf _ ∈ _; rw [key_G]; decide +kernel)
    have pr : RCalled (RE 0) (lv + 1 + 1) (⟨kW, .inl (cd "true"), i + 1 + 3 + 1⟩ :: ⟨kG, .inl [41], i + 1 + 3 + 1 + 4⟩ :: r) (.tuple [ds "bool", .bool true]) (⟨kG, .inl [41], i + 1 + 3 + 1 + 4⟩ :: r) :=
      prim1 (.con (by rw [key_W]; exact if_pos rfl)) tm.call
    exact .sum (by show keyOf _ ≠ _; rw [key_W]; decide +kernel) ⟨_, _, 0, ⟨_, _, 0, pr, .stop (tm.lv 1 (by decide))⟩, .stop (tm.lv 2 (by decide))⟩ (tm.lv 3 (by decide))
  · show keyOf ⟨kG, .inl [40], i⟩ ≠ _
    rw [key_G]
    decide +kernel
  · simp only [oNot, List.mem_cons, List.not_mem_nil, or_false] at ht
    rcases ht with rfl | rfl | rfl | rfl
    · exact wf_G
    · exact wf_W
    · exact wf_W
    · exact wf_G
  · have s : S4 3 400 oNot.d := (S4.tup (.cons (.str (m := 6) (by decide +kernel) (by decide +kernel)) (.cons (S4.tup (.cons (.str (m := 6) (by decide +kernel) (by decide +kernel)) (.cons (.bool (dp := 0) true) .nil))) .nil))).mono (by decide) (by decide)
    exact ⟨.mk (.one (by decide +kernel)) (fun p hp => by
      rw [List.mem_singleton.mp hp]
      exact dep0 (.leaf (by decide +kernel)) (by decide)), s.shw, s.dic, s.dpt, s.lvs, s.wgt⟩
theorem ok_oCall {w : List Nat} {n : Nat} (h : w ∈ NMS) (hn : n < 65536) : OpOk (oCall w n) := by
  obtain ⟨W, hr, hl⟩ := nms_wd h
  obtain ⟨Wb, hrb, hlb⟩ := nms_wd (w := [98]) (by decide)
  have hnl := numL_le hn
  refine ⟨by show (w ++ (40 :: (TL.numL n ++ [44, 32, 98, 41]))).length ≤ 20; simp; omega, fun i X ts hX hL => ?_, fun i => ⟨fun lv r hl hk hd => ?_, fun r => ?_⟩, fun i t ht => ?_, fun i => (by show 6 ≤ 6; decide), ?_⟩
  · have e0 : (oCall w n).sh ++ X = w ++ (40 :: (TL.numL n ++ (44 :: (32 :: ([98] ++ (41 :: X)))))) := by
      show (w ++ (40 :: (TL.numL n ++ [44, 32, 98, 41]))) ++ X = _
      simp
    rw [e0]
    refine LG.name W (nw_cons (by decide)) hr (LG.sign (by decide) (LG.num hn (nw_cons (by decide)) (LG.sign (by decide) (LG.sp nb (LG.name Wb (nw_cons (by decide)) hrb (LG.sign (by decide) ?_))))))
    have e : i + (oCall w n).sh.length = i + w.length + 1 + (TL.numL n).length + 1 + 1 + [98].length + 1 := by
      show i + (w ++ (40 :: (TL.numL n ++ [44, 32, 98, 41]))).length = _
      simp
      omega
    rw [← e]
    exact hL
  · have kc : kCall (keyOf ⟨kG, .inl [40], i + w.length⟩) = some (cd "call") := by
      rw [key_G]
      decide +kernel
    have tm : ∀ (c j : Nat) (l : List Tk), [c] ∈ [cd ")", cd ",", cd ";"] → Tm 5 (⟨kG, .inl [c], j⟩ :: l) := fun c j l hc => tm_end (by decide) (by show keyOf _ ∈ _; rw [key_G]; exact hc)
    have t44 := tm 44 (i + w.length + 1 + (TL.numL n).length) (⟨kN, .inl [98], i + w.length + 1 + (TL.numL n).length + 1 + 1⟩ :: ⟨kG, .inl [41], i + w.length + 1 + (TL.numL n).length + 1 + 1 + 1⟩ :: r) (by decide +kernel)
    have t41 := tm 41 (i + w.length + 1 + (TL.numL n).length + 1 + 1 + 1) r (by decide +kernel)
    refine ⟨_, _, 1, .var key_N (.var key_N rfl (by show keyOf _ ≠ _; rw [key_G]; decide +kernel)), .step kc (by omega) (.some (l' := ⟨kG, .inl [44], i + w.length + 1 + (TL.numL n).length⟩ :: ⟨kN, .inl [98], i + w.length + 1 + (TL.numL n).length + 1 + 1⟩ :: ⟨kG, .inl [41], i + w.length + 1 + (TL.numL n).length + 1 + 1 + 1⟩ :: r) ?_ (by omega) (by decide) ?_
      (.more (t := ⟨kG, .inl [44], i + w.length + 1 + (TL.numL n).length⟩) (l := ⟨kN, .inl [98], i + w.length + 1 + (TL.numL n).length + 1 + 1⟩ :: ⟨kG, .inl [41], i + w.length + 1 + (TL.numL n).length + 1 + 1 + 1⟩ :: r) (l' := ⟨kG, .inl [41], i + w.length + 1 + (TL.numL n).length + 1 + 1 + 1⟩ :: r) (d := .tuple [ds "var", dw [98]]) k44 ?_ (.done k41))) (.stop hk)⟩
    · show keyOf _ ≠ _
      rw [key_I]
      decide +kernel
    · rw [re2]
      exact up (prim1 (.num key_I rfl) t44.call) (by show keyOf _ ≠ _; rw [key_I]; decide +kernel) t44
    · rw [re2]
      exact up (prim1 (.var key_N (.var key_N rfl t41.dot)) t41.call) (by show keyOf _ ≠ _; rw [key_N]; decide +kernel) t41
  · show keyOf ⟨kN, .inl w, i⟩ ≠ _
    rw [key_N]
    decide +kernel
  · simp only [oCall, List.mem_cons, List.not_mem_nil, or_false] at ht
    rcases ht with rfl | rfl | rfl | rfl | rfl | rfl
    · exact wf_N
    · exact wf_G
    · exact wf_I
    · exact wf_G
    · exact wf_N
    · exact wf_G
  · have b0 : ∀ c ∈ [98], c < 128 := by decide
    have s : S4 3 400 (oCall w n).d := (S4.tup (.cons (.str (m := 6) (by decide +kernel) (by decide +kernel)) (.cons ((S4.tup (.cons (.str (m := 6) (by decide +kernel) (by decide +kernel)) (.cons (.str (dp := 0) (nms_128 h) hl) .nil))).mono (show 1 ≤ 2 by decide) (Nat.le_refl _))
      (.cons (S4.tup (.cons (S4.tup (.cons (.str (m := 6) (by decide +kernel) (by decide +kernel)) (.cons (.int (dp := 0) hn) .nil))) (.cons (S4.tup (.cons (.str (m := 6) (by decide +kernel) (by decide +kernel)) (.cons (.str (dp := 0) (m := 1) b0 (by decide)) .nil))) .nil))) .nil)))).mono (by decide) (by decide)
    refine ⟨.mk (.call (by show 2 ≤ 20000; decide)) (fun p hp => ?_), s.shw, s.dic, s.dpt, s.lvs, s.wgt⟩
    simp only [List.mem_cons, List.not_mem_nil, or_false] at hp
    rcases hp with rfl | rfl | rfl <;> exact dep0 (.leaf (by decide +kernel)) (by decide)
end Tk

set_option Elab.async false
set_option linter.all false
set_option maxRecDepth 100000
namespace Tk
open PySem L2 Lx
structure Sn where
  sep : List Nat
  sg : List Nat
def SGS : List (List Nat) := [cd "or", cd "and", cd "<", cd "==", cd "+", cd "-", cd "*"]
structure SnOk (s : Sn) : Prop where
  sep : s.sep = [32] ∨ s.sep = [10, 32]
  sg : s.sg ∈ SGS
def snT (s : Sn) (i : Nat) : Tk := ⟨if s.sg ∈ RES then kW else kG, .inl s.sg, i⟩
theorem snT_key (s : Sn) (i : Nat) : keyOf (snT s i) = s.sg := by
  unfold snT
  by_cases h : s.sg ∈ RES
  · rw [if_pos h]
    exact key_W
  · rw [if_neg h]
    exact key_G
def rend : List (Sn × Op) → List Nat
  | [] => []
  | (s, p) :: r => s.sep ++ (s.sg ++ (32 :: (p.sh ++ rend r)))
theorem rend_snoc (s : Sn) (p : Op) : ∀ r, rend (r ++ [(s, p)]) = rend r ++ (s.sep ++ (s.sg ++ (32 :: p.sh)))
  | [] => by
    show s.sep ++ (s.sg ++ (32 :: (p.sh ++ []))) = [] ++ _
    rw [List.append_nil, List.nil_append]
  | (s', p') :: r => by
    show s'.sep ++ (s'.sg ++ (32 :: (p'.sh ++ rend (r ++ [(s, p)])))) = (s'.sep ++ (s'.sg ++ (32 :: (p'.sh ++ rend r)))) ++ _
    rw [rend_snoc s p r]
    simp
def tks : Nat → List (Sn × Op) → List Tk
  | i, [] => [⟨kG, .inl [59], i⟩]
  | i, (s, p) :: r => snT s (i + s.sep.length) :: (p.o (i + s.sep.length + s.sg.length + 1) ++ tks (i + s.sep.length + s.sg.length + 1 + p.sh.length) r)
def tos : Nat → List (Sn × Op) → List (Tk × TO)
  | _, [] => []
  | i, (s, p) :: r => (snT s (i + s.sep.length), ⟨p.o (i + s.sep.length + s.sg.length + 1), p.d⟩) :: tos (i + s.sep.length + s.sg.length + 1 + p.sh.length) r
theorem tks_tos : ∀ (r : List (Sn × Op)) (i : Nat), ∃ j, tks i r = fr (tos i r) ++ [⟨kG, .inl [59], j⟩]
  | [], i => ⟨i, rfl⟩
  | (s, p) :: r, i => by
    obtain ⟨j, h⟩ := tks_tos r (i + s.sep.length + s.sg.length + 1 + p.sh.length)
    refine ⟨j, ?_⟩
    show snT s (i + s.sep.length) :: (p.o (i + s.sep.length + s.sg.length + 1) ++ tks (i + s.sep.length + s.sg.length + 1 + p.sh.length) r) = snT s (i + s.sep.length) :: (p.o (i + s.sep.length + s.sg.length + 1) ++ fr (tos (i + s.sep.length + s.sg.length + 1 + p.sh.length) r)) ++ _
    rw [h]
    simp
theorem tos_map : ∀ (r : List (Sn × Op)) (i : Nat), (tos i r).map (fun x => (keyOf x.1, x.2.d)) = r.map fun x => (x.1.sg, x.2.d)
  | [], _ => rfl
  | (s, p) :: r, i => by
    show (keyOf (snT s (i + s.sep.length)), p.d) :: (tos _ r).map (fun x => (keyOf x.1, x.2.d)) = (s.sg, p.d) :: _
    rw [snT_key, tos_map r]
theorem tos_ok : ∀ (r : List (Sn × Op)) (i : Nat), (∀ x ∈ r, SnOk x.1 ∧ OpOk x.2) → ∀ y ∈ tos i r, TOk (RE 2) y.2 ∧ keyOf y.1 ∈ SGS
  | [], _, _, y, h => by cases h
  | (s, p) :: r, i, hr, y, h => by
    have h0 := hr (s, p) (List.mem_cons_self ..)
    rcases List.mem_cons.mp h with rfl | h
    · exact ⟨h0.2.rd _, by rw [snT_key]; exact h0.1.sg⟩
    · exact tos_ok r _ (fun x hx => hr x (List.mem_cons_of_mem _ hx)) y h
theorem tos_len : ∀ (r : List (Sn × Op)) (i : Nat), (tos i r).length = r.length
  | [], _ => rfl
  | (s, p) :: r, i => by
    show (tos _ r).length + 1 = r.length + 1
    rw [tos_len r]
theorem tos_cm : ∀ (r : List (Sn × Op)) (i : Nat) (b : Bool), Cm Sn.sg b r → Cm keyOf b (tos i r)
  | [], _, _, _ => trivial
  | (s, p) :: r, i, b, ⟨h1, h2⟩ => by
    refine ⟨?_, ?_⟩
    · rw [snT_key]
      exact h1
    · rw [snT_key]
      exact tos_cm r _ _ h2
theorem sgs_lv : ∀ k ∈ SGS, ∃ m, m ≤ 5 ∧ (lvK m k).isSome = true := by
  intro k h
  simp only [SGS, List.mem_cons, List.not_mem_nil, or_false] at h
  rcases h with rfl | rfl | rfl | rfl | rfl | rfl | rfl
  · exact ⟨5, by decide, by decide +kernel⟩
  · exact ⟨4, by decide, by decide +kernel⟩
  · exact ⟨3, by decide, by decide +kernel⟩
  · exact ⟨3, by decide, by decide +kernel⟩
  · exact ⟨2, by decide, by decide +kernel⟩
  · exact ⟨2, by decide, by decide +kernel⟩
  · exact ⟨1, by decide, by decide +kernel⟩
theorem nw_rend (r : List (Sn × Op)) (hr : ∀ x ∈ r, SnOk x.1 ∧ OpOk x.2) : NW (rend r ++ [59]) := by
  cases r with
  | nil => exact nw_cons (by decide)
  | cons x r =>
    obtain ⟨s, p⟩ := x
    have h := (hr (s, p) (List.mem_cons_self ..)).1.sep
    show NW (s.sep ++ (s.sg ++ (32 :: (p.sh ++ rend r))) ++ [59])
    have h' : s.sep = [32] ∨ s.sep = [10, 32] := h
    rcases h' with e | e <;> rw [e]
    · exact nw_cons (by decide)
    · exact nw_cons (by decide)
theorem sgs_tok : ∀ k ∈ SGS, ∀ X, k ≠ [] ∧ gap false (k ++ X) = 0 ∧ ∀ Y, Lx.tok (k ++ 32 :: Y) = (some (if k ∈ RES then kW else kG, .inl k), k.length) := by
  intro k h X
  have hk : (k ∈ RES) ∨ (k ∉ RES ∧ k ∈ SGN) := by
    have key : ∀ k ∈ SGS, (k ∈ RES) ∨ (k ∉ RES ∧ k ∈ SGN) := by decide +kernel
    exact key k h
  rcases hk with q | ⟨q, q2⟩
  · have T := ok_reserved q
    exact ⟨T.ne, T.gap0 X, fun Y => by rw [T.tok 32 Y nb, if_pos q]⟩
  · have T := ok_sign q2
    exact ⟨T.ne, T.gap0 X, fun Y => by rw [T.tok 32 Y nb, if_neg q]⟩
theorem lex_rend : ∀ (r : List (Sn × Op)) (i : Nat), (∀ x ∈ r, SnOk x.1 ∧ OpOk x.2) → LG i (rend r ++ [59]) (tks i r)
  | [], i, _ => LG.sign (by decide) LG.nil
  | (s, p) :: r, i, hr => by
    have h0 := hr (s, p) (List.mem_cons_self ..)
    have hr' : ∀ x ∈ r, SnOk x.1 ∧ OpOk x.2 := fun x hx => hr x (List.mem_cons_of_mem _ hx)
    have ih := lex_rend r (i + s.sep.length + s.sg.length + 1 + p.sh.length) hr'
    have h1 := h0.2.lex (i + s.sep.length + s.sg.length + 1) _ _ (nw_rend r hr') ih
    obtain ⟨k1, k2, k3⟩ := sgs_tok s.sg h0.1.sg (32 :: (p.sh ++ (rend r ++ [59])))
    have h2 := LG.tok k1 k2 (k3 _) (LG.sp nb h1)
    have e : rend ((s, p) :: r) ++ [59] = s.sep ++ (s.sg ++ (32 :: (p.sh ++ (rend r ++ [59])))) := by
      show s.sep ++ (s.sg ++ (32 :: (p.sh ++ rend r))) ++ [59] = _
      simp
    rw [e]
    have h' : s.sep = [32] ∨ s.sep = [10, 32] := h0.1.sep
    show LG i _ (snT s (i + s.sep.length) :: _)
    rcases h' with e | e
    · rw [e] at h2 ⊢
      exact LG.sp nb h2
    · rw [e] at h2 ⊢
      exact LG.sp (by decide) (LG.sp nb h2)
/-! ### the same tree over other signs and leaves -/
section
variable {σ τ α β : Type}
def mpG (f : α → β) (g : σ → τ) (x : α × List (σ × α)) : β × List (τ × β) := (f x.1, x.2.map fun y => (g y.1, f y.2))
theorem sp_map (f : α → β) (g : σ → τ) (w : τ → Bool) : ∀ (r : List (σ × α)) (p : α), sp w (f p) (r.map fun x => (g x.1, f x.2)) = (mpG f g (sp (fun s => w (g s)) p r).1, (sp (fun s => w (g s)) p r).2.map fun y => (g y.1, mpG f g y.2))
  | [], p => rfl
  | (s, q) :: r, p => by
    have ih := sp_map f g w r q
    rw [List.map_cons]
    by_cases h : w (g s) = true
    · rw [sp_pos (w := w) h, sp_pos (w := fun s => w (g s)) h, ih]
      rfl
    · rw [sp_neg (w := w) h, sp_neg (w := fun s => w (g s)) h, ih]
      rfl
theorem tr_map (ky : σ → List Nat) (leaf : α → PyData) : ∀ (n : Nat) (p : α) (r : List (σ × α)), tr ky leaf n p r = tr id id n (leaf p) (r.map fun x => (ky x.1, leaf x.2))
  | 0, p, r => rfl
  | n + 1, p, r => by
    have e := sp_map leaf ky (fun s => (lvK (n + 1) s).isSome) r p
    show fold _ _ = fold (tr id id n (sp (fun s => (lvK (n + 1) s).isSome) (leaf p) (r.map fun x => (ky x.1, leaf x.2))).1.1 (sp (fun s => (lvK (n + 1) s).isSome) (leaf p) (r.map fun x => (ky x.1, leaf x.2))).1.2)
      ((sp (fun s => (lvK (n + 1) s).isSome) (leaf p) (r.map fun x => (ky x.1, leaf x.2))).2.map fun x => ((lvK (n + 1) x.1).getD [], tr id id n x.2.1 x.2.2))
    rw [e]
    show fold (tr ky leaf n (sp (fun s => (lvK (n + 1) (ky s)).isSome) p r).1.1 (sp (fun s => (lvK (n + 1) (ky s)).isSome) p r).1.2) _ = fold (tr id id n (leaf (sp (fun s => (lvK (n + 1) (ky s)).isSome) p r).1.1) ((sp (fun s => (lvK (n + 1) (ky s)).isSome) p r).1.2.map fun x => (ky x.1, leaf x.2))) _
    rw [tr_map ky leaf n, List.map_map]
    congr 1
    refine List.map_congr_left fun x hx => ?_
    show _ = ((lvK (n + 1) (ky x.1)).getD [], tr id id n (leaf x.2.1) (x.2.2.map fun y => (ky y.1, leaf y.2)))
    rw [tr_map ky leaf n]
end
theorem Dep.mono {n : Nat} {d : PyData} (h : Dep n d) : ∀ {m : Nat}, n ≤ m → Dep m d := by
  induction h with
  | @mk n d ps h hp ih =>
    intro m hm
    obtain ⟨k, rfl⟩ : ∃ k, m = k + 1 := ⟨m - 1, by omega⟩
    exact .mk h fun p hx => ih p hx (by omega)
theorem two_ok : ∀ k ∈ TWO, (∀ c ∈ k, c < 128) ∧ k.length ≤ 6 := by decide +kernel
theorem sz_step (a b : Nat) (k : List Nat) (t u : PyData) (hk : k ∈ TWO) (ht : Sz a t) (hu : Sz b u) : Sz (a + b + 1) (.tuple [dw k, t, u]) := by
  obtain ⟨c1, c2⟩ := two_ok k hk
  have s : S4 (3 + (a + b) + 1) _ (.tuple [dw k, t, u]) := S4.tup (.cons (.str c1 c2) (.cons (d := t) (a := 900 * a + 400) ⟨ht.shw, ht.dic, by have := ht.dpt; omega, ht.lvs, ht.wgt⟩ (.cons (d := u) (a := 900 * b + 400) ⟨hu.shw, hu.dic, by have := hu.dpt; omega, hu.lvs, hu.wgt⟩ .nil)))
  refine ⟨.mk (n := 2 + (a + b)) (.two hk) (fun p hp => ?_), s.shw, s.dic, by have := s.dpt; omega, s.lvs, by have := s.wgt; omega⟩
  simp only [List.mem_cons, List.not_mem_nil, or_false] at hp
  rcases hp with rfl | rfl
  · exact ht.dep.mono (by omega)
  · exact hu.dep.mono (by omega)
/-! ### the whole text -/
def tree5 (p : Op) (r : List (Sn × Op)) : PyData := tr id id 5 p.d (r.map fun x => (x.1.sg, x.2.d))
def item5 (p : Op) (r : List (Sn × Op)) : PyData := .tuple [ds "let", dw [118], tree5 p r, .int (2 : Int)]
def text5 (p : Op) (r : List (Sn × Op)) : List Nat := [32, 32] ++ (cd "let" ++ (32 :: ([118] ++ (32 :: ([61] ++ (32 :: (p.sh ++ (rend r ++ [59]))))))))
theorem upto_tos {r : List (Sn × Op)} (hr : ∀ x ∈ r, SnOk x.1 ∧ OpOk x.2) (i : Nat) : Upto keyOf 5 (tos i r) := fun x hx => sgs_lv _ (tos_ok r i hr x hx).2
theorem sz5 {p : Op} {r : List (Sn × Op)} (hp : OpOk p) (hr : ∀ x ∈ r, SnOk x.1 ∧ OpOk x.2) (hc : Cm Sn.sg false r) : Sz r.length (tree5 p r) := by
  have g := good_of (ky := Sn.sg) 5 (by decide) p r (fun x hx => sgs_lv _ (hr x hx).1.sg) hc
  have h := tr_ind (Pm := Sz) sz_step Sn.sg Op.d 5 p r g hp.sz fun x hx => (hr x hx).2.sz
  rw [tr_map] at h
  exact h
theorem re3 : RE 3 = RExpr (RE 2) (RP 2) := by rw [RE]
theorem tks_len : ∀ (r : List (Sn × Op)) (i : Nat), (∀ x ∈ r, SnOk x.1 ∧ OpOk x.2) → (tks i r).length ≤ 7 * r.length + 1 ∧ ∀ t ∈ tks i r, WF t
  | [], i, _ => ⟨by show 1 ≤ 1; decide, fun t ht => by rw [List.mem_singleton.mp ht]; exact wf_G⟩
  | (s, p) :: r, i, hr => by
    have h0 := hr (s, p) (List.mem_cons_self ..)
    obtain ⟨h1, h2⟩ := tks_len r (i + s.sep.length + s.sg.length + 1 + p.sh.length) fun x hx => hr x (List.mem_cons_of_mem _ hx)
    have h3 := h0.2.cnt (i + s.sep.length + s.sg.length + 1)
    refine ⟨?_, fun t ht => ?_⟩
    · show (snT s (i + s.sep.length) :: (p.o (i + s.sep.length + s.sg.length + 1) ++ tks (i + s.sep.length + s.sg.length + 1 + p.sh.length) r)).length ≤ 7 * ((s, p) :: r).length + 1
      rw [List.length_cons, List.length_append, List.length_cons]
      have h3' : (p.o (i + s.sep.length + s.sg.length + 1)).length ≤ 6 := h3
      omega
    · rcases List.mem_cons.mp ht with rfl | ht
      · exact fun _ => ⟨_, rfl⟩
      · rcases List.mem_append.mp ht with ht | ht
        · exact h0.2.wf _ t ht
        · exact h2 t ht
theorem rend_len : ∀ (r : List (Sn × Op)), (∀ x ∈ r, SnOk x.1 ∧ OpOk x.2) → (rend r).length ≤ 30 * r.length
  | [], _ => Nat.le_refl _
  | (s, p) :: r, hr => by
    have h0 := hr (s, p) (List.mem_cons_self ..)
    have ih := rend_len r fun x hx => hr x (List.mem_cons_of_mem _ hx)
    have h1 : p.sh.length ≤ 20 := h0.2.len
    have h2 : s.sep.length ≤ 2 := by
      have h' : s.sep = [32] ∨ s.sep = [10, 32] := h0.1.sep
      rcases h' with e | e <;> rw [e] <;> decide
    have h3 : s.sg.length ≤ 3 := by
      have key : ∀ k ∈ SGS, k.length ≤ 3 := by decide +kernel
      exact key _ h0.1.sg
    show (s.sep ++ (s.sg ++ (32 :: (p.sh ++ rend r)))).length ≤ 30 * ((s, p) :: r).length
    simp only [List.length_append, List.length_cons]
    omega
theorem wd_v : Wd [118] ∧ [118] ∉ RES := ⟨⟨by decide, fun c r e => by cases e; decide, by decide +kernel, by decide⟩, by decide +kernel⟩
theorem whole {p : Op} {r : List (Sn × Op)} (hp : OpOk p) (hr : ∀ x ∈ r, SnOk x.1 ∧ OpOk x.2) (hc : Cm Sn.sg false r) (hl : r.length ≤ 7) :
    ∃ ts, Lex (gap false (text5 p r)) ((text5 p r).drop (gap false (text5 p r))) ts none ∧ (∀ t ∈ ts, WF t) ∧ ts.length ≤ 20000 ∧ RItems (RItem (RStmt (RLet (RE 3)))) 1 ts [item5 p r] := by
  have L0 := lex_rend r (0 + 1 + 1 + 3 + 1 + 1 + 1 + 1 + 1 + p.sh.length) hr
  have L1 := hp.lex (0 + 1 + 1 + 3 + 1 + 1 + 1 + 1 + 1) _ _ (nw_rend r hr) L0
  have weq : Lx.tok ([61] ++ (32 :: (p.sh ++ (rend r ++ [59])))) = (some (kG, .inl [61]), 1) := (ok_sign (s := [61]) (by decide)).tok 32 _ nb
  have r1 : cd "let" ∈ RES := by decide +kernel
  have L2 : LG 0 (text5 p r) (⟨kW, .inl (cd "let"), 0 + 1 + 1⟩ :: ⟨kN, .inl [118], 0 + 1 + 1 + 3 + 1⟩ :: ⟨kG, .inl [61], 0 + 1 + 1 + 3 + 1 + 1 + 1⟩ :: (p.o (0 + 1 + 1 + 3 + 1 + 1 + 1 + 1 + 1) ++ tks (0 + 1 + 1 + 3 + 1 + 1 + 1 + 1 + 1 + p.sh.length) r)) :=
    LG.sp nb (LG.sp nb (LG.word (res_wd _ r1) (nw_cons (by decide)) r1 (LG.sp nb (LG.name wd_v.1 (nw_cons (by decide)) wd_v.2 (LG.sp nb (LG.tok (sh := [61]) (by simp) ((ok_sign (s := [61]) (by decide)).gap0 _) weq (LG.sp nb L1)))))))
  obtain ⟨n1, n2⟩ := tks_len r (0 + 1 + 1 + 3 + 1 + 1 + 1 + 1 + 1 + p.sh.length) hr
  have n3 := hp.cnt (0 + 1 + 1 + 3 + 1 + 1 + 1 + 1 + 1)
  have L3 := L2
  unfold LG at L3
  rw [Nat.zero_add (gap false (text5 p r))] at L3
  refine ⟨_, L3, ?_, ?_, ?_⟩
  · intro t ht
    rcases List.mem_cons.mp ht with rfl | ht
    · exact wf_W
    rcases List.mem_cons.mp ht with rfl | ht
    · exact wf_N
    rcases List.mem_cons.mp ht with rfl | ht
    · exact wf_G
    rcases List.mem_append.mp ht with ht | ht
    · exact hp.wf _ t ht
    · exact n2 t ht
  · simp only [List.length_cons, List.length_append]
    omega
  · obtain ⟨j, ej⟩ := tks_tos r (0 + 1 + 1 + 3 + 1 + 1 + 1 + 1 + 1 + p.sh.length)
    rw [ej]
    have hcl := climb (E := RE 2) (Pl := RP 2) 5 (Nat.le_refl _) ⟨p.o (0 + 1 + 1 + 3 + 1 + 1 + 1 + 1 + 1), p.d⟩ (tos (0 + 1 + 1 + 3 + 1 + 1 + 1 + 1 + 1 + p.sh.length) r) 1 [⟨kG, .inl [59], j⟩] (hp.rd _) (fun x hx => (tos_ok r _ hr x hx).1)
      (good_of 5 (Nat.le_refl _) _ _ (upto_tos hr _) (tos_cm r _ _ hc)) (by rw [tos_len]; omega) (tm_end (Nat.le_refl _) (by show keyOf _ ∈ _; rw [key_G]; decide +kernel))
    have et : tr keyOf TO.d 5 ⟨p.o (0 + 1 + 1 + 3 + 1 + 1 + 1 + 1 + 1), p.d⟩ (tos (0 + 1 + 1 + 3 + 1 + 1 + 1 + 1 + 1 + p.sh.length) r) = tree5 p r := by
      rw [tr_map, tos_map]
      rfl
    rw [et] at hcl
    have k59 : keyOf ⟨kG, .inl [59], j⟩ = cd ";" := key_G.trans (by decide +kernel)
    have k61 : ∀ i, keyOf ⟨kG, .inl [61], i⟩ = cd "=" := fun i => key_G.trans (by decide +kernel)
    have hE : RLet (RE 3) 1 (⟨kW, .inl (cd "let"), 0 + 1 + 1⟩ :: ⟨kN, .inl [118], 0 + 1 + 1 + 3 + 1⟩ :: ⟨kG, .inl [61], 0 + 1 + 1 + 3 + 1 + 1 + 1⟩ :: (p.o (0 + 1 + 1 + 3 + 1 + 1 + 1 + 1 + 1) ++ (fr (tos (0 + 1 + 1 + 3 + 1 + 1 + 1 + 1 + 1 + p.sh.length) r) ++ [⟨kG, .inl [59], j⟩]))) (item5 p r) [] := by
      refine .mk key_W key_N rfl (k61 _) (.mk (b := ⟨kG, .inl [59], j⟩) ?_ k59)
      rw [re3]
      rw [show fl ⟨p.o (0 + 1 + 1 + 3 + 1 + 1 + 1 + 1 + 1), p.d⟩ (tos (0 + 1 + 1 + 3 + 1 + 1 + 1 + 1 + 1 + p.sh.length) r) ++ [⟨kG, .inl [59], j⟩] = p.o (0 + 1 + 1 + 3 + 1 + 1 + 1 + 1 + 1) ++ (fr (tos (0 + 1 + 1 + 3 + 1 + 1 + 1 + 1 + 1 + p.sh.length) r) ++ [⟨kG, .inl [59], j⟩]) from List.append_assoc ..] at hcl
      exact hcl
    have kne : ∀ s : String, cd "let" ≠ cd s → keyOf ⟨kW, .inl (cd "let"), 0 + 1 + 1⟩ ≠ cd s := fun s h => by
      rw [key_W]
      exact h
    have hS := sz5 hp hr hc
    have r0 := RItem.st (S := RStmt (RLet (RE 3))) (by rw [key_W]; decide +kernel) (kne _ (by decide +kernel)) (.let_ key_W hE)
    have ke : key (⟨kW, .inl (cd "let"), 0 + 1 + 1⟩ :: ⟨kN, .inl [118], 0 + 1 + 1 + 3 + 1⟩ :: ⟨kG, .inl [61], 0 + 1 + 1 + 3 + 1 + 1 + 1⟩ :: (p.o (0 + 1 + 1 + 3 + 1 + 1 + 1 + 1 + 1) ++ (fr (tos (0 + 1 + 1 + 3 + 1 + 1 + 1 + 1 + 1 + p.sh.length) r) ++ [⟨kG, .inl [59], j⟩]))) ≠ cd "end" := kne "end" (by decide +kernel)
    have := RItems.cons (dr := []) ke r0 (fun d hd => by
      rw [List.mem_singleton.mp hd]
      exact .mk (n := 11) .let_ fun q hq => by
        rw [List.mem_singleton.mp hq]
        exact hS.dep.mono (by omega)) .nil
    exact this
theorem list5 {p : Op} {r : List (Sn × Op)} (hp : OpOk p) (hr : ∀ x ∈ r, SnOk x.1 ∧ OpOk x.2) (hc : Cm Sn.sg false r) (hl : r.length ≤ 7) : (PyData.list [item5 p r]).showable = true ∧ (PyData.list [item5 p r]).hasDict = false ∧ (PyData.list [item5 p r]).depth ≤ 15 ∧ (PyData.list [item5 p r]).shown.length ≤ sizeLine := by
  have hS := sz5 hp hr hc
  have s : S4 11 7000 (item5 p r) := (S4.tup (.cons (.str (m := 6) (by decide +kernel) (by decide +kernel)) (.cons (.str (m := 1) (by decide) (by decide)) (.cons (d := tree5 p r) (dp := 10) (a := 900 * 7 + 400) ⟨hS.shw, hS.dic, by have := hS.dpt; omega, hS.lvs, by have := hS.wgt; omega⟩ (.cons (.int (n := 2) (by decide)) .nil))))).mono (by decide) (by decide)
  obtain ⟨h1, h2, h3, h4, h5⟩ := S4s.cons s .nil
  refine ⟨by simp only [PyData.showable, h1], by simp only [PyData.hasDict, h2], by simp only [PyData.depth]; omega, ?_⟩
  refine PyData.shown_fits (B := 10) (by decide) (by decide) (by simp only [PyData.leavesShort, h4]) ?_
  simp only [PyData.weight]
  have : (2 : Nat) ^ 20 = 1048576 := by decide
  omega
end Tk

set_option Elab.async false
set_option linter.all false
set_option maxRecDepth 100000
namespace Tk
open PySem L2 Lx
theorem item_mod {xs : List V} {x m : Int} (hm : (xs.length : Int) = m) (h0 : 0 < m) : ∃ v, atI xs (x % m) = some v ∧ v ∈ xs := by
  have h1 : 0 ≤ x % m := Int.emod_nonneg _ (by omega)
  have h2 : x % m < m := Int.emod_lt_of_pos _ h0
  have h3 : (x % m).toNat < xs.length := by omega
  exact ⟨xs[(x % m).toNat], at_of (j := (x % m).toNat) (by omega) (List.getElem?_eq_getElem h3), List.getElem_mem h3⟩
theorem mem_txs {l : List (List Nat)} {v : V} (h : v ∈ l.map fun w => V.str (tx w)) : ∃ w, w ∈ l ∧ v = .str (tx w) := by
  obtain ⟨w, hw, e⟩ := List.mem_map.mp h
  exact ⟨w, hw, e.symm⟩
def spCell (K : PySem.W.Frag) : Sp := fun vs H Q _ => ∃ (a : Addr) (ns : List Int) (k : Nat), vs = [.ref a, .int (k : Int)] ∧ SqL K H a (ns.map V.int) ∧ Q (.int (ns.getD k 0)) H
theorem eqI (a b : Int) : decide (V.int a = V.int b) = decide (a = b) := by
  by_cases h : a = b
  · rw [h, decide_eq_true rfl, decide_eq_true rfl]
  · rw [decide_eq_false h]
    exact decide_eq_false fun q => h (V.int.inj q)
/-- built-ins that the law reads -/
structure LTxt (mg : Str → Option Value) : Prop where
  abs : mg "abs" = none
  str : mg "str" = none
  min : mg "min" = none
  range : mg "range" = none
  isinst : mg "isinstance" = none
  repr : mg "repr" = none
  list : mg "list" = none
def spOperand (K : PySem.W.Frag) : Sp := fun vs H Q _ => ∃ c : Int, vs = [.int c] ∧ ∀ (p : Op), OpOk p → ∀ (H' : Hp) (q : Addr) (v : V), Same H H' → H q = none → H' q = some (.lst [.str (tx p.sh), v]) → Tp K H' v p.d → Q (.ref q) H'
section
variable {P : Program} {w : World} {K : PySem.W.Frag} {mg : Str → Option Value} {base : Heap}
theorem same_new {H : Hp} {l : Addr} {o : HO} (h : H l = none) : Same H (upd H l o) := fun c u e => by
  rw [upd_ne (ne_of_none e h)]
  exact e
theorem scCell : FnScope ["script", "k"] ["script", "k"] (defScope (top 71)) := ⟨rfl, rfl, rfl, by decide +kernel, rfl, by decide +kernel, by decide +kernel⟩
theorem ok_cell {f : Addr} {fd : FuncData} (F : Fun K "_law_cell" "_law_cell" (top 71) f fd) (T : Txt K mg) : FnOk P w K mg base CX0 1 f fd ["script", "k"] (spCell K) := by
  refine F.ok scCell (fun vs H Q E h => ?_) (fun cdv A outer s H vs Q E hr h => ?_)
  · obtain ⟨a, ns, k, rfl, _⟩ := h
    rfl
  · obtain ⟨a, ns, k, rfl, hS, q⟩ := h
    refine ⟨_, pss_cons (ps_if (pt_cmpR op_lt (pv 1) (pe_callB call_len_seq (by rfl) T.len PySem.boot_len (pa_cons (pv 0) pa_nil)) (nomark _))
        (pss_one (ps_ret (pe_callTy call_int1 (by rfl) T.int (by decide +kernel) (pa_cons (pe_ix ix_list (pv 0) (pv 1) (fun _ _ => rfl)) pa_nil)))) pss_nil)
      (pss_one (ps_ret pe_int)), ?_⟩
    refine ⟨_, rfl, _, rfl, a, _, rfl, .inl hS, _, _, rfl, rfl, _, rfl, ?_⟩
    rw [List.length_map]
    by_cases h : k < ns.length
    · refine ifT (decide_eq_true (by omega)) ?_
      have e : (ns.map V.int)[k]? = some (.int (ns.getD k 0)) := by
        rw [List.getElem?_map, List.getElem?_eq_getElem h, List.getD_eq_getElem?_getD, List.getElem?_eq_getElem h] <;> rfl
      exact ⟨_, rfl, _, rfl, a, _, _, _, rfl, rfl, hS, atI_nat e, .inl ⟨_, rfl, q⟩⟩
    · refine ifF (decide_eq_false (by omega)) ?_
      have e : ns.getD k 0 = 0 := by
        rw [List.getD_eq_getElem?_getD, List.getElem?_eq_none (by omega)] <;> rfl
      rw [e] at q
      exact q

theorem scOper : FnScope ["cell", "kind", "n", "name"] ["cell"] (defScope (top 72)) := ⟨rfl, rfl, rfl, by decide +kernel, rfl, by decide +kernel, by decide +kernel⟩
theorem log16 {m : Nat} (h : m < 65536) : (m : Int).natAbs.log2 < 1920 := by
  rw [Int.natAbs_natCast]
  by_cases h0 : m = 0
  · rw [h0]
    decide
  · have h1 : m.log2 < 16 := (Nat.log2_lt h0).mpr (by omega)
    omega
theorem str_num (m : Nat) : (PySem.Str.ofString (toString (m : Int)) : Str) = tx (TL.numL m) := TL.ext_tl (TL.tl_num m)
theorem eq_num (m : Nat) : V.str (PySem.Str.ofString (toString (m : Int))) = V.str (tx (TL.numL m)) := by rw [str_num]
theorem ltI (a b : Int) : decide (a < b) = decide (a < b) := rfl
theorem ok_operand {f : Addr} {fd : FuncData} (F : Fun K "_law_operand" "_law_operand" (top 72) f fd) (T : Txt K mg) (L : LTxt mg) : FnOk P w K mg base CX0 1 f fd ["cell"] (spOperand K) := by
  refine F.ok scOper (fun vs H Q E h => ?_) (fun cdv A outer s H vs Q E hr h => ?_)
  · obtain ⟨c, rfl, _⟩ := h
    rfl
  · obtain ⟨c, rfl, q⟩ := h
    refine ⟨_, (pss_cons (ps_set (i := 1) scOper.nd rfl (.inl rfl) (pe_op op_mod (pe_callTy call_int1 (by rfl) T.int (by decide +kernel) (pa_cons (pv 0) pa_nil)) pe_int)) (pss_cons (ps_set (i := 2) scOper.nd rfl (.inl rfl) (pe_op op_mod (pe_callTy call_int1 (by rfl) T.int (by decide +kernel) (pa_cons (pe_op op_fdiv (pv 0) pe_int) pa_nil)) pe_int)) (pss_cons (ps_set (i := 3) scOper.nd rfl (.inl rfl) (pe_ix ix_list (pe_lst (pa_cons pe_str (pa_cons pe_str (pa_cons pe_str (pa_cons pe_str pa_nil))))) (pe_op op_mod (pe_callTy call_int1 (by rfl) T.int (by decide +kernel) (pa_cons (pe_op op_fdiv (pv 0) pe_int) pa_nil)) pe_int) (fun _ _ => rfl))) (pss_cons (ps_if (pt_cmpR op_lt (pv 1) pe_int (nomark _)) (pss_one (ps_ret (pe_lst (pa_cons (pe_callTy call_str_int (by rfl) L.str (by decide +kernel) (pa_cons (pv 2) pa_nil)) (pa_cons (pe_tup (pa_cons pe_str (pa_cons (pv 2) pa_nil))) pa_nil))))) pss_nil) (pss_cons (ps_if (pt_cmpR op_eq (pv 1) pe_int (nomark _)) (pss_one (ps_ret (pe_lst (pa_cons (pv 3) (pa_cons (pe_tup (pa_cons pe_str (pa_cons (pv 3) pa_nil))) pa_nil))))) pss_nil) (pss_cons (ps_if (pt_cmpR op_eq (pv 1) pe_int (nomark _)) (pss_one (ps_ret (pe_lst (pa_cons (pe_op op_add_str pe_str (pv 3)) (pa_cons (pe_tup (pa_cons pe_str (pa_cons pe_str (pa_cons (pv 3) pa_nil)))) pa_nil))))) pss_nil) (pss_cons (ps_if (pt_cmpR op_eq (pv 1) pe_int (nomark _)) (pss_one (ps_ret (pe_lst (pa_cons (pe_op op_add_str (pe_op op_add_str (pe_op op_add_str (pv 3) pe_str) (pe_callTy call_str_int (by rfl) L.str (by decide +kernel) (pa_cons (pv 2) pa_nil))) pe_str) (pa_cons (pe_tup (pa_cons pe_str (pa_cons (pe_tup (pa_cons pe_str (pa_cons (pv 3) pa_nil))) (pa_cons (pe_tup (pa_cons (pe_tup (pa_cons pe_str (pa_cons (pv 2) pa_nil))) (pa_cons (pe_tup (pa_cons pe_str (pa_cons pe_str pa_nil))) pa_nil))) pa_nil)))) pa_nil))))) pss_nil) (pss_one (ps_ret (pe_lst (pa_cons pe_str (pa_cons (pe_tup (pa_cons pe_str (pa_cons (pe_tup (pa_cons pe_str (pa_cons pe_bl pa_nil))) pa_nil))) pa_nil)))))))))))), ?_⟩
    -- what each return asks
    have fin : ∀ {p : Op} {v : V} {H' : Hp}, Same H H' → OpOk p → Tp K H' v p.d → ([V.str (tx p.sh), v].length ≤ sizeLine ∧ ∀ a, H' a = none → Q (.ref a) (upd H' a (.lst [.str (tx p.sh), v]))) := fun {p v H'} hS hO hT =>
      ⟨(by show 2 ≤ sizeLine; decide), fun a ha => q p hO _ a v (hS.trans (same_new ha)) (hS.free ha) upd_same (hT.new ha)⟩
    have e1 : 0 ≤ (c / 6) % 65536 := Int.emod_nonneg _ (by decide)
    have e2 : (c / 6) % 65536 < 65536 := Int.emod_lt_of_pos _ (by decide)
    obtain ⟨m, hm⟩ := Int.eq_ofNat_of_zero_le e1
    have hm2 : m < 65536 := by omega
    refine ⟨_, rfl, .inl ⟨c, rfl, _, _, rfl, rfl, (by show (0 : Int) < 6; decide), ?_⟩⟩
    refine ⟨_, rfl, _, _, rfl, rfl, ⟨by decide, by decide⟩, .inl ⟨c / 6, rfl, _, _, rfl, rfl, (by show (0 : Int) < 65536; decide), ?_⟩⟩
    refine ⟨(by show 4 ≤ sizeLine; decide), fun D hD => ?_⟩
    have sD := same_new (o := .lst [V.str (PySem.Str.ofString "a"), V.str (PySem.Str.ofString "b"), V.str (PySem.Str.ofString "xy"), V.str (PySem.Str.ofString "f_1")]) hD
    have eS : ([V.str (PySem.Str.ofString "a"), V.str (PySem.Str.ofString "b"), V.str (PySem.Str.ofString "xy"), V.str (PySem.Str.ofString "f_1")] : List V) = NMS.map fun w => V.str (tx w) := by decide +kernel
    obtain ⟨v, hv, hmem⟩ := item_mod (xs := NMS.map fun w => V.str (tx w)) (x := (c / 6)) (m := 4) (by decide) (by decide)
    obtain ⟨nm, hw, rfl⟩ := mem_txs hmem
    rw [← eS] at hv
    refine ⟨_, rfl, _, _, rfl, rfl, ⟨by decide, by decide⟩, .inl ⟨c / 6, rfl, _, _, rfl, rfl, (by show (0 : Int) < 4; decide), D, _, _, _, rfl, rfl, SqL.of upd_same, hv, ?_⟩⟩
    refine ⟨_, rfl, _, _, rfl, rfl, _, rfl, ?_⟩
    have hT : ∀ H', Tp K H' (.int ((c / 6) % 65536)) (.int (m : Int)) := fun H' => by
      rw [hm]
      exact .int _
    have eSt : PySem.Str.ofString (toString ((c / 6) % 65536)) = tx (TL.numL m) := by
      rw [hm]
      exact str_num m
    have lg : ((c / 6) % 65536).natAbs.log2 < 1920 := by
      rw [hm]
      exact log16 hm2
    have nl := (nms_wd hw).2.2
    have ml := numL_le hm2
    by_cases c0 : c % 6 < 2
    · refine ifT (decide_eq_true c0) ?_
      refine ⟨_, rfl, (c / 6) % 65536, rfl, lg, _, rfl, (by show 2 ≤ sizeLine; decide), fun p hp => ?_⟩
      have f := fin (p := oNum m) (v := .ref p) (sD.trans (same_new hp)) (ok_oNum hm2) (Tp.mk (.cons (Tp.s "int") (.cons (hT _) .nil)) hp)
      rw [show tx (oNum m).sh = PySem.Str.ofString (toString ((c / 6) % 65536)) from eSt.symm] at f
      exact f
    refine ifF (decide_eq_false c0) ?_
    refine ⟨_, rfl, rfl, _, rfl, ?_⟩
    by_cases c2 : c % 6 = 2
    · refine ifT ((eqI _ _).trans (decide_eq_true c2)) ?_
      refine ⟨_, rfl, _, rfl, (by show 2 ≤ sizeLine; decide), fun p hp => ?_⟩
      exact fin (p := oVar nm) (v := .ref p) (sD.trans (same_new hp)) (ok_oVar hw) (Tp.mk (.cons (Tp.s "var") (.cons (.str _) .nil)) hp)
    refine ifF ((eqI _ _).trans (decide_eq_false c2)) ?_
    refine ⟨_, rfl, rfl, _, rfl, ?_⟩
    by_cases c3 : c % 6 = 3
    · refine ifT ((eqI _ _).trans (decide_eq_true c3)) ?_
      have q1 : PySem.Str.ofString "s." = tx [115, 46] := TL.ext_tl (by decide +kernel)
      have q2 : PySem.Str.ofString "s" = tx [115] := TL.ext_tl (by decide +kernel)
      refine ⟨_, rfl, _, _, rfl, rfl, ?_, ?_⟩
      · rw [q1, tx_len, tx_len]
        exact line20 (by simp; omega)
      refine ⟨_, rfl, (by show 3 ≤ sizeLine; decide), fun p hp => ?_⟩
      rw [q1, tx_app]
      exact fin (p := oMem nm) (v := .ref p) (sD.trans (same_new hp)) (ok_oMem hw) (Tp.mk (.cons (Tp.s "member") (.cons (by rw [q2]; exact .str _) (.cons (.str _) .nil))) hp)
    refine ifF ((eqI _ _).trans (decide_eq_false c3)) ?_
    refine ⟨_, rfl, rfl, _, rfl, ?_⟩
    by_cases c4 : c % 6 = 4
    · refine ifT ((eqI _ _).trans (decide_eq_true c4)) ?_
      have q1 : PySem.Str.ofString "(" = tx [40] := TL.ext_tl (by decide +kernel)
      have q2 : PySem.Str.ofString ", b)" = tx [44, 32, 98, 41] := TL.ext_tl (by decide +kernel)
      have q3 : PySem.Str.ofString "b" = tx [98] := TL.ext_tl (by decide +kernel)
      refine ⟨_, rfl, _, _, rfl, rfl, ?_, _, rfl, _, rfl, lg, _, _, rfl, rfl, ?_, _, _, rfl, rfl, ?_, ?_⟩
      · rw [q1, tx_len, tx_len]
        exact line20 (by simp; omega)
      · rw [q1, eSt, tx_app, tx_len, tx_len]
        exact line20 (by simp; omega)
      · rw [q1, eSt, q2, tx_app, tx_app, tx_len, tx_len]
        exact line20 (by simp; omega)
      refine ⟨_, rfl, (by show 2 ≤ sizeLine; decide), fun p1 hp1 => ?_⟩
      refine ⟨_, rfl, (by show 2 ≤ sizeLine; decide), fun p2 hp2 => ?_⟩
      refine ⟨(by show 2 ≤ sizeLine; decide), fun p3 hp3 => ⟨(by show 2 ≤ sizeLine; decide), fun p4 hp4 => ⟨(by show 3 ≤ sizeLine; decide), fun p5 hp5 => ?_⟩⟩⟩
      have t1 := Tp.mk (.cons (Tp.s "var") (.cons (.str (tx nm)) .nil)) (K := K) hp1
      have t2 := Tp.mk (.cons (Tp.s "int") (.cons (hT _) .nil)) (K := K) hp2
      have t3 := Tp.mk (.cons (Tp.s "var") (.cons (Tp.s "b") .nil)) (K := K) hp3
      have t4 := Tp.mk (.cons (t2.new hp3) (.cons t3 .nil)) hp4
      have t5 := Tp.mk (.cons (Tp.s "call") (.cons ((((t1.new hp2).new hp3).new hp4)) (.cons t4 .nil))) hp5
      rw [q1, eSt, q2, tx_app, tx_app, tx_app]
      have e0 : nm ++ [40] ++ TL.numL m ++ [44, 32, 98, 41] = (oCall nm m).sh := by
        show _ = nm ++ (40 :: (TL.numL m ++ [44, 32, 98, 41]))
        simp
      rw [e0]
      exact fin (p := oCall nm m) (v := .ref p5) (((((sD.trans (same_new hp1)).trans (same_new hp2)).trans (same_new hp3)).trans (same_new hp4)).trans (same_new hp5)) (ok_oCall hw hm2) t5
    refine ifF ((eqI _ _).trans (decide_eq_false c4)) ?_
    have q1 : PySem.Str.ofString "(not true)" = tx oNot.sh := TL.ext_tl (by decide +kernel)
    refine ⟨(by show 2 ≤ sizeLine; decide), fun p1 hp1 => ⟨(by show 2 ≤ sizeLine; decide), fun p2 hp2 => ?_⟩⟩
    have t1 := Tp.mk (.cons (Tp.s "bool") (.cons (.bl true) .nil)) (K := K) hp1
    have t2 := Tp.mk (.cons (Tp.s "not") (.cons t1 .nil)) hp2
    rw [q1]
    exact fin (p := oNot) (v := .ref p2) ((sD.trans (same_new hp1)).trans (same_new hp2)) ok_oNot t2
end
end Tk

set_option Elab.async false
set_option linter.all false
set_option maxRecDepth 100000
namespace Tk
open PySem L2 Lx
/-! ### a further sign at the end -/
section
variable {σ α : Type} {w : σ → Bool}
def allG (x : (α × List (σ × α)) × List (σ × (α × List (σ × α)))) : List (α × List (σ × α)) := x.1 :: x.2.map (·.2)
theorem sp_snoc_pos {s : σ} (h : w s = true) (q : α) : ∀ (r : List (σ × α)) (p : α), sp w p (r ++ [(s, q)]) = ((sp w p r).1, (sp w p r).2 ++ [(s, (q, []))])
  | [], p => by
    show sp w p ((s, q) :: []) = _
    rw [sp_pos h]
    rfl
  | (s', q') :: r, p => by
    have ih := sp_snoc_pos h q r q'
    show sp w p ((s', q') :: (r ++ [(s, q)])) = ((sp w p ((s', q') :: r)).1, (sp w p ((s', q') :: r)).2 ++ [(s, (q, []))])
    by_cases h' : w s' = true
    · rw [sp_pos h', sp_pos h', ih]
      rfl
    · rw [sp_neg h', sp_neg h', ih]
theorem sp_snoc_neg {s : σ} (h : ¬ w s = true) (q : α) : ∀ (r : List (σ × α)) (p : α), ∃ init last, allG (sp w p r) = init ++ [last] ∧ allG (sp w p (r ++ [(s, q)])) = init ++ [(last.1, last.2 ++ [(s, q)])] ∧ (sp w p (r ++ [(s, q)])).2.map (·.1) = (sp w p r).2.map (·.1)
  | [], p => by
    refine ⟨[], (p, []), rfl, ?_, ?_⟩
    · show allG (sp w p ((s, q) :: [])) = _
      rw [sp_neg h]
      rfl
    · show (sp w p ((s, q) :: [])).2.map (·.1) = _
      rw [sp_neg h]
      rfl
  | (s', q') :: r, p => by
    obtain ⟨init, last, e1, e2, e3⟩ := sp_snoc_neg h q r q'
    have c : sp w p ((s', q') :: r ++ [(s, q)]) = sp w p ((s', q') :: (r ++ [(s, q)])) := rfl
    rw [c]
    by_cases h' : w s' = true
    · rw [sp_pos h', sp_pos h']
      refine ⟨(p, []) :: init, last, ?_, ?_, ?_⟩
      · show (p, []) :: allG (sp w q' r) = _
        rw [e1]
        rfl
      · show (p, []) :: allG (sp w q' (r ++ [(s, q)])) = _
        rw [e2]
        rfl
      · show s' :: (sp w q' (r ++ [(s, q)])).2.map (·.1) = s' :: _
        rw [e3]
    · rw [sp_neg h', sp_neg h']
      cases init with
      | nil =>
        have a1 : (sp w q' r).1 = last := (List.cons.inj e1).1
        have a2 : (sp w q' r).2.map (·.2) = [] := (List.cons.inj e1).2
        have b1 : (sp w q' (r ++ [(s, q)])).1 = (last.1, last.2 ++ [(s, q)]) := (List.cons.inj e2).1
        have b2 : (sp w q' (r ++ [(s, q)])).2.map (·.2) = [] := (List.cons.inj e2).2
        refine ⟨[], (p, (s', last.1) :: last.2), ?_, ?_, e3⟩
        · show (p, (s', (sp w q' r).1.1) :: (sp w q' r).1.2) :: (sp w q' r).2.map (·.2) = _
          rw [a2, a1]
          rfl
        · show (p, (s', (sp w q' (r ++ [(s, q)])).1.1) :: (sp w q' (r ++ [(s, q)])).1.2) :: (sp w q' (r ++ [(s, q)])).2.map (·.2) = _
          rw [b2, b1]
          rfl
      | cons g init =>
        have a1 : (sp w q' r).1 = g := (List.cons.inj e1).1
        have a2 : (sp w q' r).2.map (·.2) = init ++ [last] := (List.cons.inj e1).2
        have b1 : (sp w q' (r ++ [(s, q)])).1 = g := (List.cons.inj e2).1
        have b2 : (sp w q' (r ++ [(s, q)])).2.map (·.2) = init ++ [(last.1, last.2 ++ [(s, q)])] := (List.cons.inj e2).2
        refine ⟨(p, (s', g.1) :: g.2) :: init, last, ?_, ?_, e3⟩
        · show (p, (s', (sp w q' r).1.1) :: (sp w q' r).1.2) :: (sp w q' r).2.map (·.2) = _
          rw [a2, a1]
          rfl
        · show (p, (s', (sp w q' (r ++ [(s, q)])).1.1) :: (sp w q' (r ++ [(s, q)])).1.2) :: (sp w q' (r ++ [(s, q)])).2.map (·.2) = _
          rw [b2, b1]
          rfl
end
/-! ### groups as lists -/
abbrev sv (k : List Nat) : V := .str (tx k)
/-- a group: the list of its parts' list and its signs' list -/
def GrV (H : Hp) (N : Addr → Prop) (v : V) (g : V × List (List Nat × V)) : Prop := ∃ q a b, v = .ref q ∧ N q ∧ N a ∧ N b ∧ H q = some (.lst [.ref a, .ref b]) ∧ H a = some (.lst (g.1 :: g.2.map (·.2))) ∧ H b = some (.lst (g.2.map fun x => sv x.1))
inductive GrL (H : Hp) (N : Addr → Prop) : List V → List (V × List (List Nat × V)) → Prop where
  | nil : GrL H N [] []
  | cons {v : V} {g : V × List (List Nat × V)} {vs : List V} {gs : List (V × List (List Nat × V))} (h : GrV H N v g) (r : GrL H N vs gs) : GrL H N (v :: vs) (g :: gs)
theorem GrV.keep {H H' : Hp} {N : Addr → Prop} {v : V} {g : V × List (List Nat × V)} (h : GrV H N v g) (k : ∀ a o, N a → H a = some o → H' a = some o) : GrV H' N v g := by
  obtain ⟨q, a, b, e, n1, n2, n3, h1, h2, h3⟩ := h
  exact ⟨q, a, b, e, n1, n2, n3, k _ _ n1 h1, k _ _ n2 h2, k _ _ n3 h3⟩
theorem GrL.keep {H H' : Hp} {N : Addr → Prop} {vs : List V} {gs : List (V × List (List Nat × V))} (h : GrL H N vs gs) (k : ∀ a o, N a → H a = some o → H' a = some o) : GrL H' N vs gs := by
  induction h with
  | nil => exact .nil
  | cons h r ih => exact .cons (h.keep k) ih
theorem GrL.len {H : Hp} {N : Addr → Prop} {vs : List V} {gs : List (V × List (List Nat × V))} (h : GrL H N vs gs) : vs.length = gs.length := by
  induction h with
  | nil => rfl
  | cons h r ih => rw [List.length_cons, List.length_cons, ih]
theorem GrL.snoc {H : Hp} {N : Addr → Prop} {vs : List V} {gs : List (V × List (List Nat × V))} {v : V} {g : V × List (List Nat × V)} (h : GrL H N vs gs) (hv : GrV H N v g) : GrL H N (vs ++ [v]) (gs ++ [g]) := by
  induction h with
  | nil => exact .cons hv .nil
  | cons h r ih => exact .cons h ih
theorem GrL.split {H : Hp} {N : Addr → Prop} {init : List (V × List (List Nat × V))} {last : V × List (List Nat × V)} : ∀ {vs : List V}, GrL H N vs (init ++ [last]) → ∃ vi v, vs = vi ++ [v] ∧ GrL H N vi init ∧ GrV H N v last := by
  induction init with
  | nil =>
    intro vs h
    cases h with
    | cons h r =>
      cases r
      exact ⟨[], _, rfl, .nil, h⟩
  | cons g init ih =>
    intro vs h
    cases h with
    | cons h r =>
      obtain ⟨vi, v, rfl, a, b⟩ := ih r
      exact ⟨_ :: vi, v, rfl, .cons h a, b⟩
theorem GrL.get {H : Hp} {N : Addr → Prop} {vs : List V} {gs : List (V × List (List Nat × V))} (h : GrL H N vs gs) : ∀ {i : Nat} {v : V}, vs[i]? = some v → ∃ g, gs[i]? = some g ∧ GrV H N v g := by
  induction h with
  | nil => intro i v e; simp at e
  | @cons v0 g vs gs h r ih =>
    intro i v e
    cases i with
    | zero =>
      cases e
      exact ⟨g, rfl, h⟩
    | succ i => exact ih (i := i) (by simpa using e)
def spSplit (K : PySem.W.Frag) : Sp := fun vs H Q _ => ∃ (a b c : Addr) (x : V) (r : List (List Nat × V)) (ws : List (List Nat)), vs = [.ref a, .ref b, .ref c] ∧ SqL K H a (x :: r.map (·.2)) ∧ SqL K H b (r.map fun y => sv y.1) ∧ SqL K H c (ws.map sv) ∧ r.length ≤ 100 ∧
  ∀ H' p G F gs, Same H H' → H p = none → H' p = some (.lst [.ref G, .ref F]) → H' G = some (.lst gs) → GrL H' (fun _ => True) gs (allG (sp (fun k => decide (k ∈ ws)) x r)) → H' F = some (.lst ((sp (fun k => decide (k ∈ ws)) x r).2.map fun y => sv y.1)) → Q (.ref p) H'
def HDL : List (List Nat × List Nat) := [(cd "or", cd "or"), (cd "and", cd "and"), (cd "<", cd "lt"), (cd "==", cd "eq"), (cd "+", cd "add"), (cd "-", cd "sub"), (cd "*", cd "mul")]
/-- the heads' dict, as it is written -/
def HDK : List (Key × V) := mergeK [] [(.inr (PySem.Str.ofString "or"), .str (PySem.Str.ofString "or")), (.inr (PySem.Str.ofString "and"), .str (PySem.Str.ofString "and")), (.inr (PySem.Str.ofString "<"), .str (PySem.Str.ofString "lt")), (.inr (PySem.Str.ofString "=="), .str (PySem.Str.ofString "eq")),
  (.inr (PySem.Str.ofString "+"), .str (PySem.Str.ofString "add")), (.inr (PySem.Str.ofString "-"), .str (PySem.Str.ofString "sub")), (.inr (PySem.Str.ofString "*"), .str (PySem.Str.ofString "mul"))]
def spChain (K : PySem.W.Frag) : Sp := fun vs H Q _ => ∃ (a b d : Addr) (xs : List V) (t : PyData) (gs : List (List Nat × List Nat × PyData)), vs = [.ref a, .ref b, .ref d] ∧ SqL K H a xs ∧ TpAll K H xs (t :: gs.map (·.2.2)) ∧ SqL K H b (gs.map fun x => sv x.1) ∧ H d = some (.dK HDK) ∧
  (∀ x ∈ gs, valV HDK (.inr (tx x.1)) = some (sv x.2.1)) ∧ gs.length ≤ 100 ∧ ∀ H' v, Same H H' → Tp K H' v (fold t (gs.map (·.2))) → Q v H'
theorem GrL.all {H : Hp} {N : Addr → Prop} {vs : List V} {gs : List (V × List (List Nat × V))} (h : GrL H N vs gs) : GrL H (fun _ => True) vs gs := by
  induction h with
  | nil => exact .nil
  | cons h r ih =>
    obtain ⟨q, a, b, e, n1, n2, n3, h1, h2, h3⟩ := h
    exact .cons ⟨q, a, b, e, trivial, trivial, trivial, h1, h2, h3⟩ ih
theorem ixN_last {n m : Nat} {k : Int} (h : k = (m : Int)) (hn : n = m + 1) : ixN n k = some m := by
  unfold ixN
  rw [if_pos (by omega), if_pos (by omega), h]
  rfl
theorem lenG_ge {σ α : Type} : ∀ (gs : List (σ × (α × List (σ × α)))), gs.length ≤ lenG gs ∧ ∀ x ∈ gs, x.2.2.length ≤ lenG gs
  | [] => ⟨Nat.le_refl _, fun x h => (by cases h)⟩
  | g :: gs => by
    obtain ⟨a, b⟩ := lenG_ge gs
    have e : lenG (g :: gs) = 1 + g.2.2.length + lenG gs := by
      unfold lenG
      rw [List.map_cons, List.sum_cons]
    rw [e]
    refine ⟨by rw [List.length_cons]; omega, fun x hx => ?_⟩
    rcases List.mem_cons.mp hx with rfl | hx
    · omega
    · have := b x hx
      omega
theorem sp_fewer {σ α : Type} {w : σ → Bool} (r : List (σ × α)) (p : α) : (sp w p r).2.length ≤ r.length := by
  have h1 := sp_len (w := w) r p
  have h2 := (lenG_ge (sp w p r).2).1
  omega
theorem sp_short {σ α : Type} {w : σ → Bool} (r : List (σ × α)) (p : α) : ∀ g ∈ allG (sp w p r), g.2.length ≤ r.length := by
  intro g hg
  have h1 := sp_len (w := w) r p
  rcases List.mem_cons.mp hg with rfl | hg
  · omega
  · obtain ⟨x, hx, rfl⟩ := List.mem_map.mp hg
    have h2 := (lenG_ge (sp w p r).2).2 x hx
    omega
theorem fold_snoc (k : List Nat) (u : PyData) : ∀ (gs : List (List Nat × PyData)) (t : PyData), fold t (gs ++ [(k, u)]) = .tuple [dw k, fold t gs, u]
  | [], t => rfl
  | (k', u') :: gs, t => fold_snoc k u gs _
theorem getP {α : Type} {l : List α} {i : Nat} (h : i < l.length) : l.take (i + 1) = l.take i ++ [l[i]] := (List.take_append_getElem h).symm
section
variable {P : Program} {w : World} {K : PySem.W.Frag} {mg : Str → Option Value} {base : Heap}
theorem scChain : FnScope ["parts_v", "signs", "heads", "tree", "k"] ["parts_v", "signs", "heads"] (defScope (top 73)) := ⟨rfl, rfl, rfl, by decide +kernel, rfl, by decide +kernel, by decide +kernel⟩
theorem ok_chain {f : Addr} {fd : FuncData} (F : Fun K "_law_chain" "_law_chain" (top 73) f fd) (T : Txt K mg) (L : LTxt mg) : FnOk P w K mg base CX0 1 f fd ["parts_v", "signs", "heads"] (spChain K) := by
  refine F.ok scChain (fun vs H Q E h => ?_) (fun cdv A outer s H vs Q E hr h => ?_)
  · obtain ⟨a, b, d, xs, t, gs, rfl, _⟩ := h
    rfl
  · obtain ⟨a, b, d, xs, t, gs, rfl, hA, hT, hB, hD, hg, hl, q⟩ := h
    refine ⟨_, (pss_cons (ps_set (i := 3) scChain.nd rfl (.inl rfl) (pe_ix ix_list (pv 0) pe_int (fun _ _ => rfl))) (pss_cons (ps_for PassesOwn.never rfl (pi_range1 (by rfl) L.range (pa_cons (pe_callB call_len_seq (by rfl) T.len PySem.boot_len (pa_cons (pv 1) pa_nil)) pa_nil)) (pg_name (i := 4) scChain.nd rfl (.inl rfl)) (pss_one (ps_set (i := 3) scChain.nd rfl (.inl rfl) (pe_tup (pa_cons (pe_dget (hu_of hr) (pv 2) (pe_ix ix_list (pv 1) (pv 4) (fun _ _ => rfl)) (fun _ _ => rfl)) (pa_cons (pv 3) (pa_cons (pe_ix ix_list (pv 0) (pe_op op_add (pv 4) pe_int) (fun _ _ => rfl)) pa_nil))))))) (pss_one (ps_ret (pv 3))))), ?_⟩
    obtain ⟨v0, hv0, T0⟩ := tpAll_get hT (i := 0) rfl
    refine ⟨_, rfl, a, _, _, _, rfl, rfl, hA, atI_nat hv0, ?_⟩
    have hbl : (gs.map fun x => sv x.1).length = gs.length := List.length_map ..
    refine ⟨_, rfl, b, _, rfl, .inl hB, _, rfl, by omega, by omega, ?_⟩
    refine for_range (lo := 0) (n := (((gs.map fun x => sv x.1).length : Nat) : Int).toNat) (fun i σ H' => Same H H' ∧ ∃ (v : V) (kk : Option V), σ = [some (.ref a), some (.ref b), some (.ref d), some v, kk] ∧ Tp K H' v (fold t ((gs.take i).map (·.2)))) ⟨fun _ _ h => h, v0, none, rfl, T0⟩ ?_ ?_
    · rintro i σ H' hi ⟨sm, v, kk, rfl, hv⟩
      have hi' : i < gs.length := by
        rw [hbl] at hi
        omega
      have e1 : (gs.map fun x => sv x.1)[i]? = some (sv gs[i].1) := by
        rw [List.getElem?_map, List.getElem?_eq_getElem hi']
        rfl
      have e2 : (t :: gs.map (·.2.2))[i + 1]? = some gs[i].2.2 := by
        rw [List.getElem?_cons_succ, List.getElem?_map, List.getElem?_eq_getElem hi']
        rfl
      obtain ⟨u, hu, Tu⟩ := tpAll_get hT e2
      refine ⟨_, rfl, _, rfl, _, rfl, b, _, _, _, rfl, rfl, sm.seq hB, at_of (j := i) (by omega) e1, d, sv gs[i].2.1, rfl, ?_, ?_⟩
      · rw [← hg _ (List.getElem_mem hi')]
        exact DGet.k (k := Sum.inr (tx gs[i].1)) (sm _ _ hD)
      refine ⟨_, rfl, _, rfl, _, rfl, _, _, rfl, rfl, a, _, _, _, rfl, rfl, sm.seq hA, at_of (j := i + 1) (by omega) hu, (by show 3 ≤ sizeLine; decide), fun p hp => ?_⟩
      refine ⟨fun c o e => same_new hp _ _ (sm _ _ e), _, _, rfl, ?_⟩
      rw [getP hi', List.map_append, List.map_cons, List.map_nil, fold_snoc]
      exact Tp.mk (.cons (.str _) (.cons hv (.cons (Tu.same sm) .nil))) hp
    · rintro σ H' ⟨sm, v, kk, rfl, hv⟩
      rw [hbl, Int.toNat_natCast, List.take_length] at hv
      exact ⟨_, rfl, q _ _ sm hv⟩
theorem scSplit : FnScope ["parts_v", "signs", "wanted", "groups", "found", "k", "last"] ["parts_v", "signs", "wanted"] (defScope (top 74)) := ⟨rfl, rfl, rfl, by decide +kernel, rfl, by decide +kernel, by decide +kernel⟩
theorem ok_split {f : Addr} {fd : FuncData} (F : Fun K "_law_split" "_law_split" (top 74) f fd) (T : Txt K mg) (L : LTxt mg) : FnOk P w K mg base CX0 1 f fd ["parts_v", "signs", "wanted"] (spSplit K) := by
  refine F.ok scSplit (fun vs H Q E h => ?_) (fun cdv A outer s H vs Q E hr h => ?_)
  · obtain ⟨a, b, c, x, r, ws, rfl, _⟩ := h
    rfl
  · obtain ⟨a, b, c, x, r, ws, rfl, hA, hB, hC, hl, q⟩ := h
    refine ⟨_, (pss_cons (ps_set (i := 3) scSplit.nd rfl (.inl rfl) (pe_lst (pa_cons (pe_lst (pa_cons (pe_lst (pa_cons (pe_ix ix_list (pv 0) pe_int (fun _ _ => rfl)) pa_nil)) (pa_cons (pe_lst pa_nil) pa_nil))) pa_nil))) (pss_cons (ps_set (i := 4) scSplit.nd rfl (.inl rfl) (pe_lst pa_nil)) (pss_cons (ps_for PassesOwn.never rfl (pi_range1 (by rfl) L.range (pa_cons (pe_callB call_len_seq (by rfl) T.len PySem.boot_len (pa_cons (pv 1) pa_nil)) pa_nil)) (pg_name (i := 5) scSplit.nd rfl (.inl rfl)) (pss_one (ps_if (pt_cmpR op_in_seq (pe_ix ix_list (pv 1) (pv 5) (fun _ _ => rfl)) (pv 2) (by rfl)) (pss_cons (ps_expr (pe_bm PySem.F.plainAttrs_list PySem.F.slot_list_append PySem.F.type_list_append mt_append (pv 4) (pa_cons (pe_ix ix_list (pv 1) (pv 5) (fun _ _ => rfl)) pa_nil))) (pss_one (ps_expr (pe_bm PySem.F.plainAttrs_list PySem.F.slot_list_append PySem.F.type_list_append mt_append (pv 3) (pa_cons (pe_lst (pa_cons (pe_lst (pa_cons (pe_ix ix_list (pv 0) (pe_op op_add (pv 5) pe_int) (fun _ _ => rfl)) pa_nil)) (pa_cons (pe_lst pa_nil) pa_nil))) pa_nil))))) (pss_cons (ps_set (i := 6) scSplit.nd rfl (.inl rfl) (pe_ix ix_list (pv 3) (pe_op op_sub (pe_callB call_len_seq (by rfl) T.len PySem.boot_len (pa_cons (pv 3) pa_nil)) pe_int) (fun _ _ => rfl))) (pss_one (ps_asg (pe_lst (pa_cons (pe_op op_cat (pe_ix ix_list (pv 6) pe_int (fun _ _ => rfl)) (pe_lst (pa_cons (pe_ix ix_list (pv 0) (pe_op op_add (pv 5) pe_int) (fun _ _ => rfl)) pa_nil))) (pa_cons (pe_op op_cat (pe_ix ix_list (pv 6) pe_int (fun _ _ => rfl)) (pe_lst (pa_cons (pe_ix ix_list (pv 1) (pv 5) (fun _ _ => rfl)) pa_nil))) pa_nil))) (pg_sub (pv 3) (pe_op op_sub (pe_callB call_len_seq (by rfl) T.len PySem.boot_len (pa_cons (pv 3) pa_nil)) pe_int) set_list))))))) (pss_one (ps_ret (pe_lst (pa_cons (pv 3) (pa_cons (pv 4) pa_nil)))))))), ?_⟩
    refine ⟨_, rfl, a, _, _, _, rfl, rfl, hA, atI_nat rfl, (by show 1 ≤ sizeLine; decide), fun p1 hp1 => ⟨(by show 0 ≤ sizeLine; decide), fun p2 hp2 => ⟨(by show 2 ≤ sizeLine; decide), fun p3 hp3 => ⟨(by show 1 ≤ sizeLine; decide), fun G hG => ?_⟩⟩⟩⟩
    refine ⟨(by show 0 ≤ sizeLine; decide), fun F hF => ?_⟩
    let wf : List Nat → Bool := fun k => decide (k ∈ ws)
    let N : Addr → Prop := fun y => y ≠ G ∧ y ≠ F
    let Pv : Nat → St → Hp → Prop := fun i σ H' => Same H H' ∧ ∃ (gs : List V) (kk la : Option V), σ = [some (.ref a), some (.ref b), some (.ref c), some (.ref G), some (.ref F), kk, la] ∧ H' G = some (.lst gs) ∧ G ≠ F ∧ H G = none ∧ H F = none ∧ GrL H' N gs (allG (sp wf x (r.take i))) ∧ H' F = some (.lst ((sp wf x (r.take i)).2.map fun y => sv y.1))
    have hbl : (r.map fun y => sv y.1).length = r.length := List.length_map ..
    refine ⟨_, rfl, b, (r.map fun y => sv y.1), rfl, .inl ?_, _, rfl, by omega, by omega, ?_⟩
    · exact (((((same_new hp1).trans (same_new hp2)).trans (same_new hp3)).trans (same_new hG)).trans (same_new hF)).seq hB
    refine for_range (lo := 0) (n := (((r.map fun y => sv y.1).length : Nat) : Int).toNat) Pv ?h0 ?hs ?hd
    case h0 =>
      have s1 := same_new' (o := .lst [x]) hp1
      have s2 := same_new' (o := .lst []) hp2
      have s3 := same_new' (o := .lst [.ref p1, .ref p2]) hp3
      have s4 := same_new' (o := .lst [.ref p3]) hG
      have s5 := same_new' (o := .lst []) hF
      have n12 : p1 ≠ p2 := ne_of_none upd_same hp2
      have a1 : upd (upd H p1 (.lst [x])) p2 (.lst []) p1 = some (.lst [x]) := s2 _ _ upd_same
      have a2 : upd (upd H p1 (.lst [x])) p2 (.lst []) p2 = some (.lst []) := upd_same
      have b1 := s3 _ _ a1
      have b2 := s3 _ _ a2
      have b3 : upd (upd (upd H p1 (.lst [x])) p2 (.lst [])) p3 (.lst [.ref p1, .ref p2]) p3 = some (.lst [.ref p1, .ref p2]) := upd_same
      have c1 := s4 _ _ b1
      have c2 := s4 _ _ b2
      have c3 := s4 _ _ b3
      have c4 : upd (upd (upd (upd H p1 (.lst [x])) p2 (.lst [])) p3 (.lst [.ref p1, .ref p2])) G (.lst [.ref p3]) G = some (.lst [.ref p3]) := upd_same
      have HG : H G = none := by
        have := (((same_new' (o := .lst [x]) hp1).trans s2).trans s3).free hG
        exact this
      have HF : H F = none := (((s1.trans s2).trans s3).trans s4).free hF
      refine ⟨(((s1.trans s2).trans s3).trans s4).trans s5, [.ref p3], none, none, rfl, s5 _ _ c4, ne_of_none c4 hF, HG, HF, .cons ⟨p3, p1, p2, rfl, ⟨ne_of_none b3 hG, ne_of_none c3 hF⟩, ⟨ne_of_none b1 hG, ne_of_none c1 hF⟩, ⟨ne_of_none b2 hG, ne_of_none c2 hF⟩, s5 _ _ c3, s5 _ _ c1, s5 _ _ c2⟩ .nil, upd_same⟩
    case hs =>
      rintro i σ H' hi ⟨sm, gs, kk, la, rfl, hG', nGF, HG, HF, hgr, hF'⟩
      have hi' : i < r.length := by
        rw [hbl] at hi
        omega
      have e1 : (r.map fun y => sv y.1)[i]? = some (sv r[i].1) := by
        rw [List.getElem?_map, List.getElem?_eq_getElem hi']
        rfl
      have e2 : (x :: r.map (·.2))[i + 1]? = some r[i].2 := by
        rw [List.getElem?_cons_succ, List.getElem?_map, List.getElem?_eq_getElem hi']
        rfl
      have hgl := hgr.len
      have hal := sp_fewer (w := wf) (r.take i) x
      have htl : (r.take i).length = i := by
        rw [List.length_take]
        omega
      have hgl2 : gs.length = (sp wf x (r.take i)).2.length + 1 := by
        rw [hgl]
        show (_ :: List.map _ _).length = _
        rw [List.length_cons, List.length_map]
      refine ⟨_, rfl, _, rfl, b, _, _, _, rfl, rfl, sm.seq hB, at_of (j := i) (by omega) e1, _, rfl, c, _, rfl, .inl (sm.seq hC), rfl, flat_txs _, _, rfl, ?_⟩
      by_cases hw : r[i].1 ∈ ws
      · refine ifT ((in_txs _ _).trans (decide_eq_true (by rw [tl_tx]; exact hw))) ?_
        refine ⟨_, rfl, .inl ⟨rfl, _, SqL.of hF'⟩, _, rfl, _, rfl, b, _, _, _, rfl, rfl, sm.seq hB, at_of (j := i) (by omega) e1, F, _, _, rfl, rfl, hF', ?_, ?_⟩
        · rw [List.length_map]
          exact Nat.lt_of_le_of_lt (show _ ≤ 100 by omega) (by decide)
        have sF : Same H (upd H' F (.lst (((sp wf x (r.take i)).2.map fun y => sv y.1) ++ [sv r[i].1]))) := fun d o e => by
          rw [upd_ne (ne_of_none e HF)]
          exact sm _ _ e
        have hG2 : upd H' F (.lst (((sp wf x (r.take i)).2.map fun y => sv y.1) ++ [sv r[i].1])) G = some (.lst gs) := by
          rw [upd_ne nGF]
          exact hG'
        refine ⟨_, rfl, .inl ⟨rfl, _, SqL.of hG2⟩, _, rfl, _, rfl, _, _, rfl, rfl, a, _, _, _, rfl, rfl, sF.seq hA, at_of (j := i + 1) (by omega) e2, (by show 1 ≤ sizeLine; decide), fun p1 hp1 => ⟨(by show 0 ≤ sizeLine; decide), fun p2 hp2 => ⟨(by show 2 ≤ sizeLine; decide), fun p3 hp3 => ?_⟩⟩⟩
        have s1 := same_new' (o := .lst [r[i].2]) hp1
        have s2 := same_new' (o := .lst []) hp2
        have s3 := same_new' (o := .lst [.ref p1, .ref p2]) hp3
        have sA := (s1.trans s2).trans s3
        have hG3 := sA _ _ hG2
        have hF3 := sA _ _ (show upd H' F (.lst (((sp wf x (r.take i)).2.map fun y => sv y.1) ++ [sv r[i].1])) F = _ from upd_same)
        refine ⟨G, gs, _, rfl, rfl, hG3, Nat.lt_of_le_of_lt (show gs.length ≤ 200 by omega) (by decide), ?_⟩
        have esp : sp wf x (r.take (i + 1)) = ((sp wf x (r.take i)).1, (sp wf x (r.take i)).2 ++ [(r[i].1, (r[i].2, []))]) := by
          rw [getP hi']
          exact sp_snoc_pos (w := wf) (decide_eq_true hw) _ _ _
        have a1 : upd (upd (upd H' F (.lst (((sp wf x (r.take i)).2.map fun y => sv y.1) ++ [sv r[i].1]))) p1 (.lst [r[i].2])) p2 (.lst []) p1 = some (.lst [r[i].2]) := s2 _ _ upd_same
        have b1 := s3 _ _ a1
        have b2 := s3 _ _ (show upd (upd (upd H' F (.lst (((sp wf x (r.take i)).2.map fun y => sv y.1) ++ [sv r[i].1]))) p1 (.lst [r[i].2])) p2 (.lst []) p2 = some (.lst []) from upd_same)
        have hF1 : upd H' F (.lst (((sp wf x (r.take i)).2.map fun y => sv y.1) ++ [sv r[i].1])) F = some (.lst (((sp wf x (r.take i)).2.map fun y => sv y.1) ++ [sv r[i].1])) := upd_same
        have hG1s := s1 _ _ hG2
        have hF1s := s1 _ _ hF1
        have hG2s := s2 _ _ hG1s
        have hF2s := s2 _ _ hF1s
        have np1 : N p1 := ⟨Ne.symm (ne_of_none hG2 hp1), Ne.symm (ne_of_none hF1 hp1)⟩
        have np2 : N p2 := ⟨Ne.symm (ne_of_none hG1s hp2), Ne.symm (ne_of_none hF1s hp2)⟩
        have np3 : N p3 := ⟨Ne.symm (ne_of_none hG2s hp3), Ne.symm (ne_of_none hF2s hp3)⟩
        refine ⟨fun d o e => ?_, gs ++ [.ref p3], _, la, rfl, upd_same, nGF, HG, HF, ?_, ?_⟩
        · rw [upd_ne (ne_of_none e HG)]
          exact sA _ _ (sF _ _ e)
        · rw [esp]
          have e5 : allG ((sp wf x (r.take i)).1, (sp wf x (r.take i)).2 ++ [(r[i].1, (r[i].2, []))]) = allG (sp wf x (r.take i)) ++ [(r[i].2, [])] := by
            show (sp wf x (r.take i)).1 :: List.map (fun y : List Nat × (V × List (List Nat × V)) => y.2) ((sp wf x (r.take i)).2 ++ [(r[i].1, (r[i].2, []))]) = _
            rw [List.map_append]
            rfl
          rw [e5]
          refine GrL.snoc (hgr.keep fun y o ny e => ?_) ⟨p3, p1, p2, rfl, np3, np1, np2, ?_, ?_, ?_⟩
          · rw [upd_ne ny.1]
            refine sA _ _ ?_
            rw [upd_ne ny.2]
            exact e
          · rw [upd_ne np3.1]
            exact upd_same
          · rw [upd_ne np1.1]
            exact b1
          · rw [upd_ne np2.1]
            exact b2
        · rw [esp, upd_ne (Ne.symm nGF), List.map_append]
          exact hF3
      · refine ifF ((in_txs _ _).trans (decide_eq_false (by rw [tl_tx]; exact hw))) ?_
        obtain ⟨init, last, i1, i2, i3⟩ := sp_snoc_neg (w := wf) (s := r[i].1) (fun z => hw (of_decide_eq_true z)) r[i].2 (r.take i) x
        rw [i1] at hgr
        obtain ⟨vi, v, rfl, hvi, qa, aa, ba, rfl, nq, na, nb', hq, ha, hb⟩ := hgr.split
        have hlast : last.2.length ≤ 100 := by
          have := sp_short (w := wf) (r.take i) x last (by rw [i1]; exact List.mem_append_right _ (List.mem_singleton.mpr rfl))
          omega
        have elen : (((vi ++ [V.ref qa]).length : Nat) : Int) - 1 = (vi.length : Int) := by
          rw [List.length_append, List.length_singleton]
          omega
        have eat : (vi ++ [V.ref qa])[vi.length]? = some (.ref qa) := by
          rw [List.getElem?_append_right (Nat.le_refl _), Nat.sub_self]
          rfl
        refine ⟨_, rfl, _, rfl, G, _, rfl, .inl (SqL.of hG'), _, _, rfl, rfl, G, _, _, _, rfl, rfl, SqL.of hG', at_of (j := vi.length) elen eat, ?_⟩
        refine ⟨_, rfl, qa, _, _, _, rfl, rfl, SqL.of hq, atI_nat (j := 0) rfl, _, rfl, _, rfl, _, _, rfl, rfl, a, _, _, _, rfl, rfl, sm.seq hA, at_of (j := i + 1) (by omega) e2, (by show 1 ≤ sizeLine; decide), fun p1 hp1 => ?_⟩
        have s1 := same_new' (o := .lst [r[i].2]) hp1
        refine ⟨aa, p1, _, _, rfl, rfl, s1 _ _ ha, upd_same, ?_, fun p2 hp2 => ?_⟩
        · rw [List.length_cons, List.length_map, List.length_singleton]
          exact Nat.le_trans (show last.2.length + 1 + 1 ≤ 200 by omega) (by decide)
        have s2 := same_new' (o := .lst ((last.1 :: last.2.map fun y => y.2) ++ [r[i].2])) hp2
        have s12 := s1.trans s2
        refine ⟨_, rfl, qa, _, _, _, rfl, rfl, SqL.of (s12 _ _ hq), atI_nat (j := 1) rfl, _, rfl, _, rfl, b, _, _, _, rfl, rfl, (sm.trans s12).seq hB, at_of (j := i) (by omega) e1, (by show 1 ≤ sizeLine; decide), fun p3 hp3 => ?_⟩
        have s3 := same_new' (o := .lst [sv r[i].1]) hp3
        have s13 := s12.trans s3
        refine ⟨ba, p3, _, _, rfl, rfl, s13 _ _ hb, upd_same, ?_, fun p4 hp4 => ?_⟩
        · rw [List.length_map, List.length_singleton]
          exact Nat.le_trans (show last.2.length + 1 ≤ 200 by omega) (by decide)
        have s4 := same_new' (o := .lst ((last.2.map fun x => sv x.1) ++ [sv r[i].1])) hp4
        have s14 := s13.trans s4
        refine ⟨(by show 2 ≤ sizeLine; decide), fun p5 hp5 => ?_⟩
        have s5 := same_new' (o := .lst [.ref p2, .ref p4]) hp5
        have s15 := s14.trans s5
        refine ⟨_, rfl, _, rfl, G, _, rfl, .inl (SqL.of (s15 _ _ hG')), _, _, rfl, rfl, G, _, _, vi.length, rfl, rfl, s15 _ _ hG', ixN_last elen (by rw [List.length_append, List.length_singleton]), ?_⟩
        have c2 := s5 _ _ (s4 _ _ (s3 _ _ (show upd (upd H' p1 (.lst [r[i].2])) p2 (.lst ((last.1 :: last.2.map fun y => y.2) ++ [r[i].2])) p2 = _ from upd_same)))
        have c4 := s5 _ _ (show upd (upd (upd (upd H' p1 (.lst [r[i].2])) p2 (.lst ((last.1 :: last.2.map fun y => y.2) ++ [r[i].2]))) p3 (.lst [sv r[i].1])) p4 (.lst ((last.2.map fun x => sv x.1) ++ [sv r[i].1])) p4 = _ from upd_same)
        have np2 : N p2 := ⟨Ne.symm (ne_of_none (s1 _ _ hG') hp2), Ne.symm (ne_of_none (s1 _ _ hF') hp2)⟩
        have np4 : N p4 := ⟨Ne.symm (ne_of_none (s13 _ _ hG') hp4), Ne.symm (ne_of_none (s13 _ _ hF') hp4)⟩
        have np5 : N p5 := ⟨Ne.symm (ne_of_none (s14 _ _ hG') hp5), Ne.symm (ne_of_none (s14 _ _ hF') hp5)⟩
        have eset : (vi ++ [V.ref qa]).set vi.length (.ref p5) = vi ++ [.ref p5] := by
          rw [List.set_append_right _ _ (Nat.le_refl _), Nat.sub_self]
          rfl
        rw [eset]
        refine ⟨fun d o e => ?_, vi ++ [.ref p5], _, _, rfl, upd_same, nGF, HG, HF, ?_, ?_⟩
        · rw [upd_ne (ne_of_none e HG)]
          exact s15 _ _ (sm _ _ e)
        · rw [getP hi', i2]
          refine GrL.snoc (hvi.keep fun y o ny e => ?_) ⟨p5, p2, p4, rfl, np5, np2, np4, ?_, ?_, ?_⟩
          · rw [upd_ne ny.1]
            exact s15 _ _ e
          · rw [upd_ne np5.1]
            exact upd_same
          · rw [upd_ne np2.1, List.map_append]
            exact c2
          · rw [upd_ne np4.1, List.map_append]
            exact c4
        · have i4 : ((sp wf x (r.take i ++ [(r[i].1, r[i].2)])).2.map fun y => sv y.1) = ((sp wf x (r.take i)).2.map fun y => sv y.1) := by
            have := congrArg (List.map sv) i3
            rw [List.map_map, List.map_map] at this
            exact this
          rw [getP hi', upd_ne (Ne.symm nGF)]
          show _ = some (HO.lst ((sp wf x (r.take i ++ [(r[i].1, r[i].2)])).2.map fun y => sv y.1))
          rw [i4]
          exact s15 _ _ hF'
    case hd =>
      rintro σ H' ⟨sm, gs, kk, la, rfl, hG', nGF, HG, HF, hgr, hF'⟩
      rw [hbl, Int.toNat_natCast, List.take_length] at hgr hF'
      refine ⟨_, rfl, _, rfl, (by show 2 ≤ sizeLine; decide), fun p hp => ?_⟩
      have sp' := same_new' (o := .lst [.ref G, .ref F]) hp
      exact q _ p G F gs (sm.trans sp') (sm.free hp) upd_same (sp' _ _ hG') (GrL.all (hgr.keep fun y o _ e => sp' _ _ e)) (sp' _ _ hF')
end
end Tk

set_option Elab.async false
set_option linter.all false
set_option maxRecDepth 100000
namespace Tk
open PySem L2 Lx
theorem ix_listK {X : Cx} {K : PySem.W.Frag} (h : X.K = K) : IxR X (rIxL K) := by
  rw [← h]
  exact ix_list
def WS : Nat → List (List Nat)
  | 1 => [cd "*"]
  | 2 => [cd "+", cd "-"]
  | 3 => [cd "<", cd "=="]
  | 4 => [cd "and"]
  | _ => [cd "or"]
theorem ws_lv {n : Nat} (hn : n < 5) : (fun k : List Nat => decide (k ∈ WS (n + 1))) = fun k => (lvK (n + 1) k).isSome := by
  funext k
  by_cases h : (lvK (n + 1) k).isSome = true
  · rw [h]
    refine decide_eq_true ?_
    rcases lv_cases h with ⟨e, rfl⟩ | ⟨e, rfl⟩ | ⟨e, rfl⟩ | ⟨e, rfl⟩ | ⟨e, rfl⟩ | ⟨e, rfl⟩ | ⟨e, rfl⟩ <;> rw [e] <;> decide +kernel
  · have h2 : (lvK (n + 1) k).isSome = false := by
      cases e : (lvK (n + 1) k).isSome with
      | false => rfl
      | true => exact absurd e h
    rw [h2]
    refine decide_eq_false fun z => h ?_
    have hc : n = 0 ∨ n = 1 ∨ n = 2 ∨ n = 3 ∨ n = 4 := by omega
    have key : ∀ m, m < 5 → ∀ k ∈ WS (m + 1), (lvK (m + 1) k).isSome = true := by decide +kernel
    exact key n hn k z
theorem hd_lv {m : Nat} {k : List Nat} (h : (lvK m k).isSome = true) : valV HDK (.inr (tx k)) = some (sv ((lvK m k).getD [])) := by
  rcases lv_cases h with ⟨rfl, rfl⟩ | ⟨rfl, rfl⟩ | ⟨rfl, rfl⟩ | ⟨rfl, rfl⟩ | ⟨rfl, rfl⟩ | ⟨rfl, rfl⟩ | ⟨rfl, rfl⟩ <;> decide +kernel
theorem yesT {σ : St} {H : Hp} {F G : Hp → Prop} (h : F H) : tYes σ H (fun b H3 => if b = true then F H3 else G H3) := ifT (A := F H) (B := G H) rfl h
theorem sqt_lst {K : PySem.W.Frag} {H : Hp} {L a : Addr} {vs xs ys : List V} (hL : H L = some (.lst vs)) (z : SqT K H a ys) : SqT K (upd H L (.lst xs)) a ys := by
  have ne : ∀ {b : Addr} {o : HO}, H b = some o → (∀ y, o ≠ .lst y) → b ≠ L := fun {b o} e q z => by
    rw [z, hL] at e
    exact q _ (Option.some.inj e).symm
  rcases z with (z | ⟨o, z⟩) | z
  · exact .inl (.inl (by rw [upd_ne (ne z fun _ z => by cases z)]; exact z))
  · exact .inl (.inr ⟨o, by rw [upd_ne (ne z fun _ z => by cases z)]; exact z⟩)
  · exact .inr z
def spTree (K : PySem.W.Frag) (n : Nat) : Sp := fun vs H Q _ => ∃ (a b : Addr) (p : V × PyData) (r : List (List Nat × (V × PyData))), vs = [.ref a, .ref b, .int (5 - (n : Int))] ∧ SqL K H a (p.1 :: r.map (·.2.1)) ∧ SqL K H b (r.map fun y => sv y.1) ∧ Tp K H p.1 p.2 ∧ (∀ y ∈ r, Tp K H y.2.1 y.2.2) ∧ r.length ≤ 100 ∧
  ∀ H' v, Same H H' → Tp K H' v (tr id Prod.snd n p r) → Q v H'
section
variable {P : Program} {w : World} {K : PySem.W.Frag} {mg : Str → Option Value} {base : Heap}
theorem scTree : FnScope ["parts_v", "signs", "level", "levels", "heads", "groups", "found", "group"] ["parts_v", "signs", "level"] (defScope (top 75)) := ⟨rfl, rfl, rfl, by decide +kernel, rfl, by decide +kernel, by decide +kernel⟩
theorem ok_tree {f : Addr} {fd : FuncData} (F : Fun K "_law_tree" "_law_tree" (top 75) f fd) (kf : PySem.W.keepIn K (.ref f) = true) (bf : Binds K fd ["parts_v", "signs", "level"] []) (mf : mg "_law_tree" = some (.ref f))
    (GS : OkF P w K mg base "_law_split" ["parts_v", "signs", "wanted"] 1 (spSplit K)) (GC : OkF P w K mg base "_law_chain" ["parts_v", "signs", "heads"] 1 (spChain K)) :
    ∀ n : Nat, n ≤ 5 → FnOk P w K mg base CX0 (n + 2) f fd ["parts_v", "signs", "level"] (spTree K n)
  | 0, _ => by
    refine F.ok scTree (fun vs H Q E h => ?_) (fun cdv A outer s H vs Q E hr h => ?_)
    · obtain ⟨a, b, p, r, rfl, _⟩ := h
      rfl
    · obtain ⟨a, b, p, r, rfl, hA, hB, hp, hrr, hl, q⟩ := h
      refine ⟨_, (pss_cons (ps_set (i := 3) scTree.nd rfl (.inl rfl) (pe_lst (pa_cons (pe_lst (pa_cons pe_str pa_nil)) (pa_cons (pe_lst (pa_cons pe_str pa_nil)) (pa_cons (pe_lst (pa_cons pe_str (pa_cons pe_str pa_nil))) (pa_cons (pe_lst (pa_cons pe_str (pa_cons pe_str pa_nil))) (pa_cons (pe_lst (pa_cons pe_str pa_nil)) pa_nil))))))) (pss_cons (ps_set (i := 4) scTree.nd rfl (.inl rfl) (pe_disp (pps_cons pe_str pe_str (pps_cons pe_str pe_str (pps_cons pe_str pe_str (pps_cons pe_str pe_str (pps_cons pe_str pe_str (pps_cons pe_str pe_str (pps_cons pe_str pe_str pps_nil))))))) (by rfl) (by rfl) (fun z => by cases z) (by decide))) (pss_cons (ps_if (pt_cmpR op_eq (pv 2) pe_int (nomark _)) (pss_one (ps_ret (pe_ix ix_list (pv 0) pe_int (fun _ _ => rfl)))) pss_nil) (pss_cons ps_never (pss_one ps_never))))), ?_⟩
      refine ⟨(by show 1 ≤ sizeLine; decide), fun q0 h0 => ⟨(by show 1 ≤ sizeLine; decide), fun q1 h1 => ⟨(by show 2 ≤ sizeLine; decide), fun q2 h2 => ⟨(by show 2 ≤ sizeLine; decide), fun q3 h3 => ⟨(by show 1 ≤ sizeLine; decide), fun q4 h4 => ⟨(by show 5 ≤ sizeLine; decide), fun LV hLV => ?_⟩⟩⟩⟩⟩⟩
      have s0 := same_new' (o := .lst [.str (PySem.Str.ofString "or")]) h0
      have s1 := same_new' (o := .lst [.str (PySem.Str.ofString "and")]) h1
      have s2 := same_new' (o := .lst [.str (PySem.Str.ofString "<"), .str (PySem.Str.ofString "==")]) h2
      have s3 := same_new' (o := .lst [.str (PySem.Str.ofString "+"), .str (PySem.Str.ofString "-")]) h3
      have s4 := same_new' (o := .lst [.str (PySem.Str.ofString "*")]) h4
      have s5 := same_new' (o := .lst [.ref q0, .ref q1, .ref q2, .ref q3, .ref q4]) hLV
      refine fun d hd => ⟨upd_same, [(.inr (PySem.Str.ofString "or"), .str (PySem.Str.ofString "or")), (.inr (PySem.Str.ofString "and"), .str (PySem.Str.ofString "and")), (.inr (PySem.Str.ofString "<"), .str (PySem.Str.ofString "lt")), (.inr (PySem.Str.ofString "=="), .str (PySem.Str.ofString "eq")),
        (.inr (PySem.Str.ofString "+"), .str (PySem.Str.ofString "add")), (.inr (PySem.Str.ofString "-"), .str (PySem.Str.ofString "sub")), (.inr (PySem.Str.ofString "*"), .str (PySem.Str.ofString "mul"))], rfl, by decide, ?_⟩
      have sd : ∀ {Hx : Hp}, Hx d = none → Same Hx (upd (upd Hx d (.dK [])) d (.dK HDK)) := fun {Hx} hd c u e => by
        have n := ne_of_none e hd
        rw [upd_ne n, upd_ne n]
        exact e
      have sm := (((((s0.trans s1).trans s2).trans s3).trans s4).trans s5).trans (sd hd)
      refine ⟨_, rfl, rfl, _, rfl, ifT (decide_eq_true rfl) ?_⟩
      exact ⟨_, rfl, a, _, _, _, rfl, rfl, sm.seq hA, atI_nat (j := 0) rfl, q _ _ sm (hp.same sm)⟩
  | n + 1, hn => by
    have ih := ok_tree F kf bf mf GS GC n (by omega)
    obtain ⟨fS, fdS, gS, kS, bS, mS⟩ := GS
    obtain ⟨fC, fdC, gC, kC, bC, mC⟩ := GC
    refine F.ok scTree (fun vs H Q E h => ?_) (fun cdv A outer s H vs Q E hr h => ?_)
    · obtain ⟨a, b, p, r, rfl, _⟩ := h
      rfl
    · obtain ⟨a, b, p, r, rfl, hA, hB, hp, hrr, hl, q⟩ := h
      refine ⟨_, (pss_cons (ps_set (i := 3) scTree.nd rfl (.inl rfl) (pe_lst (pa_cons (pe_lst (pa_cons pe_str pa_nil)) (pa_cons (pe_lst (pa_cons pe_str pa_nil)) (pa_cons (pe_lst (pa_cons pe_str (pa_cons pe_str pa_nil))) (pa_cons (pe_lst (pa_cons pe_str (pa_cons pe_str pa_nil))) (pa_cons (pe_lst (pa_cons pe_str pa_nil)) pa_nil))))))) (pss_cons (ps_set (i := 4) scTree.nd rfl (.inl rfl) (pe_disp (pps_cons pe_str pe_str (pps_cons pe_str pe_str (pps_cons pe_str pe_str (pps_cons pe_str pe_str (pps_cons pe_str pe_str (pps_cons pe_str pe_str (pps_cons pe_str pe_str pps_nil))))))) (by rfl) (by rfl) (fun z => by cases z) (by decide))) (pss_cons (ps_if (pt_cmpR op_eq (pv 2) pe_int (nomark _)) (pss_one (ps_ret (pe_ix ix_list (pv 0) pe_int (fun _ _ => rfl)))) pss_nil) (pss_cons (ps_asg (pe_call gS (hr.mono (by omega)) rfl mS kS bS .nil pass0 (pa_cons (pv 0) (pa_cons (pv 1) (pa_cons (pe_ix ix_list (pv 3) (pv 2) (fun _ _ => rfl)) pa_nil)))) (pg_unl rfl (pgs_cons (pg_name (i := 5) scTree.nd rfl (.inl rfl)) (pgs_cons (pg_name (i := 6) scTree.nd rfl (.inl rfl)) pgs_nil)))) (pss_one (ps_ret (pe_call gC (hr.mono (by omega)) rfl mC kC bC .nil pass0 (pa_cons (pe_lc (own := [("group", 7)]) (g := gName 7) (tt := tYes) rfl scTree.nd (pi_list (pv 5)) (blkOk_by (N := ["parts_v", "signs", "level", "levels", "heads", "groups", "found", "group"]) (sc := defScope (top 75)) (by decide +kernel)) (fun _ _ _ _ _ => pg_name (i := 7) scTree.nd rfl (Or.inl rfl)) (fun _ _ _ _ _ => pts_nil) (fun _ _ _ _ _ => pe_call ih hr rfl mf kf bf .nil pass0 (pa_cons (pe_ix (ix_listK (K := K) rfl) (pv 7) pe_int (fun _ _ => rfl)) (pa_cons (pe_ix (ix_listK (K := K) rfl) (pv 7) pe_int (fun _ _ => rfl)) (pa_cons (pe_op op_add (pv 2) pe_int) pa_nil))))) (pa_cons (pv 6) (pa_cons (pv 4) pa_nil)))))))))), ?_⟩
      refine ⟨(by show 1 ≤ sizeLine; decide), fun q0 h0 => ⟨(by show 1 ≤ sizeLine; decide), fun q1 h1 => ⟨(by show 2 ≤ sizeLine; decide), fun q2 h2 => ⟨(by show 2 ≤ sizeLine; decide), fun q3 h3 => ⟨(by show 1 ≤ sizeLine; decide), fun q4 h4 => ⟨(by show 5 ≤ sizeLine; decide), fun LV hLV => ?_⟩⟩⟩⟩⟩⟩
      have s0 := same_new' (o := .lst [.str (PySem.Str.ofString "or")]) h0
      have s1 := same_new' (o := .lst [.str (PySem.Str.ofString "and")]) h1
      have s2 := same_new' (o := .lst [.str (PySem.Str.ofString "<"), .str (PySem.Str.ofString "==")]) h2
      have s3 := same_new' (o := .lst [.str (PySem.Str.ofString "+"), .str (PySem.Str.ofString "-")]) h3
      have s4 := same_new' (o := .lst [.str (PySem.Str.ofString "*")]) h4
      have s5 := same_new' (o := .lst [.ref q0, .ref q1, .ref q2, .ref q3, .ref q4]) hLV
      refine fun d hd => ⟨upd_same, [(.inr (PySem.Str.ofString "or"), .str (PySem.Str.ofString "or")), (.inr (PySem.Str.ofString "and"), .str (PySem.Str.ofString "and")), (.inr (PySem.Str.ofString "<"), .str (PySem.Str.ofString "lt")), (.inr (PySem.Str.ofString "=="), .str (PySem.Str.ofString "eq")),
        (.inr (PySem.Str.ofString "+"), .str (PySem.Str.ofString "add")), (.inr (PySem.Str.ofString "-"), .str (PySem.Str.ofString "sub")), (.inr (PySem.Str.ofString "*"), .str (PySem.Str.ofString "mul"))], rfl, by decide, ?_⟩
      have sd : ∀ {Hx : Hp}, Hx d = none → Same Hx (upd (upd Hx d (.dK [])) d (.dK HDK)) := fun {Hx} hd c u e => by
        have n := ne_of_none e hd
        rw [upd_ne n, upd_ne n]
        exact e
      have sm := (((((s0.trans s1).trans s2).trans s3).trans s4).trans s5).trans (sd hd)
      have nd : decide (V.int (5 - ((n + 1 : Nat) : Int)) = V.int 5) = false := decide_eq_false fun z => by
        injection z with z
        omega
      refine ⟨_, rfl, rfl, _, rfl, ifF nd ?_⟩
      have t3 := s3.trans (s4.trans (s5.trans (sd hd)))
      obtain ⟨qi, hat, hqi⟩ : ∃ qi, atI [V.ref q0, V.ref q1, V.ref q2, V.ref q3, V.ref q4] (5 - ((n + 1 : Nat) : Int)) = some (V.ref qi) ∧ ∀ Hx, Same (upd (upd (upd (upd (upd (upd H q0 (.lst [.str (PySem.Str.ofString "or")])) q1 (.lst [.str (PySem.Str.ofString "and")])) q2 (.lst [.str (PySem.Str.ofString "<"), .str (PySem.Str.ofString "==")])) q3 (.lst [.str (PySem.Str.ofString "+"), .str (PySem.Str.ofString "-")])) q4 (.lst [.str (PySem.Str.ofString "*")])) LV (.lst [.ref q0, .ref q1, .ref q2, .ref q3, .ref q4])) Hx → Hx qi = some (.lst ((WS (n + 1)).map sv)) := by
        have hc : n = 0 ∨ n = 1 ∨ n = 2 ∨ n = 3 ∨ n = 4 := by omega
        rcases hc with rfl | rfl | rfl | rfl | rfl
        · refine ⟨q4, rfl, fun Hx hx => ?_⟩
          rw [show (WS (0 + 1)).map sv = [.str (PySem.Str.ofString "*")] by decide +kernel]
          exact hx _ _ (s5 _ _ upd_same)
        · refine ⟨q3, rfl, fun Hx hx => ?_⟩
          rw [show (WS (1 + 1)).map sv = [.str (PySem.Str.ofString "+"), .str (PySem.Str.ofString "-")] by decide +kernel]
          exact hx _ _ (s5 _ _ (s4 _ _ upd_same))
        · refine ⟨q2, rfl, fun Hx hx => ?_⟩
          rw [show (WS (2 + 1)).map sv = [.str (PySem.Str.ofString "<"), .str (PySem.Str.ofString "==")] by decide +kernel]
          exact hx _ _ (s5 _ _ (s4 _ _ (s3 _ _ upd_same)))
        · refine ⟨q1, rfl, fun Hx hx => ?_⟩
          rw [show (WS (3 + 1)).map sv = [.str (PySem.Str.ofString "and")] by decide +kernel]
          exact hx _ _ (s5 _ _ (s4 _ _ (s3 _ _ (s2 _ _ upd_same))))
        · refine ⟨q0, rfl, fun Hx hx => ?_⟩
          rw [show (WS (4 + 1)).map sv = [.str (PySem.Str.ofString "or")] by decide +kernel]
          exact hx _ _ (s5 _ _ (s4 _ _ (s3 _ _ (s2 _ _ (s1 _ _ upd_same)))))
      have hqd := hqi _ (sd hd)
      have hLVd : SqL K _ LV [V.ref q0, V.ref q1, V.ref q2, V.ref q3, V.ref q4] := SqL.of ((sd hd) _ _ upd_same)
      have hdd : upd (upd (upd (upd (upd (upd (upd (upd H q0 (.lst [.str (PySem.Str.ofString "or")])) q1 (.lst [.str (PySem.Str.ofString "and")])) q2 (.lst [.str (PySem.Str.ofString "<"), .str (PySem.Str.ofString "==")])) q3 (.lst [.str (PySem.Str.ofString "+"), .str (PySem.Str.ofString "-")])) q4 (.lst [.str (PySem.Str.ofString "*")])) LV (.lst [.ref q0, .ref q1, .ref q2, .ref q3, .ref q4])) d (.dK [])) d (.dK HDK) d = some (.dK HDK) := upd_same
      have m1 : ∀ l : List (List Nat × (V × PyData)), (l.map fun y => (y.1, y.2.1)).map (·.2) = l.map (·.2.1) := fun l => by
        rw [List.map_map]
        rfl
      have m2 : ∀ l : List (List Nat × (V × PyData)), ((l.map fun y => (y.1, y.2.1)).map fun y => sv y.1) = l.map fun y => sv y.1 := fun l => by
        rw [List.map_map]
        rfl
      refine ⟨_, rfl, _, rfl, _, rfl, _, rfl, LV, _, _, _, rfl, rfl, hLVd, hat, a, b, qi, p.1, r.map (fun y => (y.1, y.2.1)), WS (n + 1), rfl, by rw [m1]; exact sm.seq hA, by rw [m2]; exact sm.seq hB, SqL.of hqd, by rw [List.length_map]; exact hl, fun H2 pp G Fd gs sS nP hP hG hgr hF => ?_⟩
      have esp := sp_map (Prod.fst : V × PyData → V) id (fun k => (lvK (n + 1) k).isSome) r p
      have wl := ws_lv (n := n) (by omega)
      rw [wl, show sp (fun k => (lvK (n + 1) k).isSome) p.1 (r.map fun y => (y.1, y.2.1)) = _ from esp] at hgr hF
      have ht : tr id Prod.snd (n + 1) p r = fold (tr id Prod.snd n (sp (fun k => (lvK (n + 1) k).isSome) p r).1.1 (sp (fun k => (lvK (n + 1) k).isSome) p r).1.2) ((sp (fun k => (lvK (n + 1) k).isSome) p r).2.map fun x => ((lvK (n + 1) x.1).getD [], tr id Prod.snd n x.2.1 x.2.2)) := rfl
      have hm := sp_mem (w := fun k => (lvK (n + 1) k).isSome) (A := fun x : V × PyData => Tp K H x.1 x.2) (B := fun _ => True) r p hp fun x hx => ⟨hrr x hx, trivial⟩
      have hsh := sp_short (w := fun k => (lvK (n + 1) k).isSome) r p
      have hfew := sp_fewer (w := fun k => (lvK (n + 1) k).isSome) r p
      have hhd := sp_head (w := fun k => (lvK (n + 1) k).isSome) r p
      rw [ht] at q
      change GrL H2 (fun _ => True) gs (allG (mpG Prod.fst id (sp (fun k => (lvK (n + 1) k).isSome) p r).1, (sp (fun k => (lvK (n + 1) k).isSome) p r).2.map fun y => (y.1, mpG Prod.fst id y.2))) at hgr
      change H2 Fd = some (.lst (((sp (fun k => (lvK (n + 1) k).isSome) p r).2.map fun y => (y.1, mpG Prod.fst id y.2)).map fun y => sv y.1)) at hF
      generalize sp (fun k => (lvK (n + 1) k).isSome) p r = S at hgr hF q hm hsh hfew hhd
      have eall : allG (mpG (Prod.fst : V × PyData → V) (id : List Nat → List Nat) S.1, S.2.map fun y => (y.1, mpG (Prod.fst : V × PyData → V) (id : List Nat → List Nat) y.2)) = (allG S).map (mpG Prod.fst id) := by
        show mpG Prod.fst id S.1 :: (S.2.map fun y => (y.1, mpG Prod.fst id y.2)).map (·.2) = mpG Prod.fst id S.1 :: (S.2.map (·.2)).map (mpG Prod.fst id)
        rw [List.map_map, List.map_map]
        rfl
      rw [eall] at hgr
      have hTg : ∀ g ∈ allG S, Tp K H g.1.1 g.1.2 ∧ ∀ y ∈ g.2, Tp K H y.2.1 y.2.2 := fun g hg => by
        rcases List.mem_cons.mp hg with rfl | hg
        · exact ⟨by rw [hhd]; exact hp, fun y hy => (hm.1 y hy).1⟩
        · obtain ⟨x, hx, rfl⟩ := List.mem_map.mp hg
          exact ⟨(hm.2 x hx).2.2.1, fun y hy => ((hm.2 x hx).2.2.2 y hy).1⟩
      refine ⟨pp, _, rfl, SqL.of hP, rfl, _, _, rfl, _, _, rfl, rfl, ?_⟩
      refine ⟨_, rfl, G, rfl, ⟨_, SqL.of hG⟩, fun D hD => ?_⟩
      have hglen := hgr.len
      rw [List.length_map] at hglen
      refine lc_list (K := K) (a := G) (xs := gs) (fun i Hx => Same H2 Hx ∧ ∃ acc, Hx D = some (.lst acc) ∧ TpAll K Hx acc (((allG S).take i).map fun g => tr id Prod.snd n g.1 g.2)) ⟨same_new' hD, [], upd_same, .nil⟩ (fun i Hx _ h => SqL.of (h.1 _ _ hG)) ?_ ?_
      · rintro i x Hx hx ⟨sx, acc, hacc, hTa⟩
        obtain ⟨g', hg', qa, aa, ba, rfl, _, _, _, hq, ha, hb⟩ := hgr.get hx
        have hi : i < (allG S).length := by
          have := (List.getElem?_eq_some_iff.mp hg').1
          rwa [List.length_map] at this
        rw [List.getElem?_map, List.getElem?_eq_getElem hi] at hg'
        cases hg'
        have hmem := List.getElem_mem hi
        have sHx := (sm.trans sS).trans sx
        have el : (5 - ((n + 1 : Nat) : Int)) + 1 = 5 - (n : Int) := by omega
        refine ⟨rfl, yesT ?_⟩
        refine ⟨_, rfl, qa, _, _, _, rfl, rfl, SqL.of (sx _ _ hq), atI_nat (j := 0) rfl, _, rfl, qa, _, _, _, rfl, rfl, SqL.of (sx _ _ hq), atI_nat (j := 1) rfl, _, rfl, _, _, rfl, rfl, ?_⟩
        refine ⟨aa, ba, (allG S)[i].1, (allG S)[i].2, ?_, ?_, ?_, ((hTg _ hmem).1).same sHx, fun y hy => ((hTg _ hmem).2 y hy).same sHx, Nat.le_trans (hsh _ hmem) hl, fun H4 v sv4 T4 => ?_⟩
        · show [V.ref aa, V.ref ba, V.int ((5 - ((n + 1 : Nat) : Int)) + 1)] = _
          rw [el]
        · have := sx _ _ ha
          refine SqL.of ?_
          rw [this]
          show some (HO.lst ((allG S)[i].1.1 :: ((allG S)[i].2.map fun y => (id y.1, y.2.1)).map (·.2))) = _
          rw [List.map_map]
          rfl
        · have := sx _ _ hb
          refine SqL.of ?_
          rw [this]
          show some (HO.lst (((allG S)[i].2.map fun y => (id y.1, y.2.1)).map fun x => sv x.1)) = _
          rw [List.map_map]
          rfl
        have hD4 := sv4 _ _ hacc
        refine ⟨acc, hD4, Nat.lt_of_le_of_lt (show acc.length ≤ 200 by
          rw [hTa.len, List.length_map, List.length_take]
          have : (allG S).length = S.2.length + 1 := by
            show (_ :: List.map _ _).length = _
            rw [List.length_cons, List.length_map]
          omega) (by decide), fun b' u e => ?_, acc ++ [v], upd_same, ?_⟩
        · rw [upd_ne (ne_of_none e hD)]
          exact sv4 _ _ (sx _ _ e)
        · rw [getP hi, List.map_append]
          exact TpAll.keep (fun a xs z => sqt_lst hD4 z) _ _ (TpAll.snoc (vs := acc) (ds := []) T4 (TpAll.keep (fun a xs z => sv4.sqt z) _ _ hTa))
      · rintro Hx ⟨sx, acc, hacc, hTa⟩
        rw [hglen, List.take_length] at hTa
        have eF : ((S.2.map fun y => (y.1, mpG (Prod.fst : V × PyData → V) (id : List Nat → List Nat) y.2)).map fun y => sv y.1) = ((S.2.map fun x => (x.1, (lvK (n + 1) x.1).getD [], tr id Prod.snd n x.2.1 x.2.2)).map fun x => sv x.1) := by
          rw [List.map_map, List.map_map]
          rfl
        rw [eF] at hF
        have eT : ((allG S).map fun g => tr id Prod.snd n g.1 g.2) = tr id Prod.snd n S.1.1 S.1.2 :: (S.2.map fun x => (x.1, (lvK (n + 1) x.1).getD [], tr id Prod.snd n x.2.1 x.2.2)).map (·.2.2) := by
          show tr id Prod.snd n S.1.1 S.1.2 :: (S.2.map (·.2)).map (fun g => tr id Prod.snd n g.1 g.2) = _
          rw [List.map_map, List.map_map]
          rfl
        rw [eT] at hTa
        refine ⟨_, rfl, _, rfl, D, Fd, d, acc, _, S.2.map fun x => (x.1, (lvK (n + 1) x.1).getD [], tr id Prod.snd n x.2.1 x.2.2), rfl, SqL.of hacc, hTa, SqL.of (sx _ _ hF), sx _ _ (sS _ _ hdd), fun y hy => ?_, by rw [List.length_map]; omega, fun H4 v s4' T4 => ?_⟩
        · obtain ⟨x, hx, rfl⟩ := List.mem_map.mp hy
          exact hd_lv (hm.2 x hx).2.1
        · rw [List.map_map] at T4
          exact q H4 v (((sm.trans sS).trans sx).trans s4') T4
end
end Tk

set_option Elab.async false
set_option linter.all false
set_option maxRecDepth 100000
namespace Tk
open PySem L2 Lx
/-- repr of data, where no repr runs around -/
theorem call_repr_data {X : Cx} (hg : X.A.guards = some []) (hu : X.A.units + 40 < cLine) : CallR X (.builtin "repr") (fun xs H Q => ∃ (a : Addr) (d : PyData), xs = [.ref a] ∧ Dp X.K H (.ref a) d ∧ d.showable = true ∧ d.hasDict = false ∧ d.depth ≤ 15 ∧
    d.shown.length ≤ sizeLine ∧ Q (.str d.shown) H) := by
  intro pins s σ H xs us Q I r h
  obtain ⟨a, d, rfl, hd, hs, hn, hp, hz, q⟩ := h
  cases r with
  | cons r1 rr =>
    cases rr
    obtain rfl : _ = Value.ref a := r1
    obtain ⟨as, R⟩ := Dp.reads I d (.ref a) (.ref a) hd rfl
    exact repr_of_reads' (h₀ := s.heap) R hs (PyData.noDict_hsm hn) hg (by omega) (fun _ _ e => e) (fun h' u tk hk => ⟨.str d.shown, H, I.kept (t' := tk) hk, ⟨u, rfl⟩, q⟩) hz
def spLaw (K : PySem.W.Frag) : Sp := fun vs H Q _ => ∃ (a : Addr) (ns : List Int), vs = [.ref a] ∧ SqL K H a (ns.map V.int) ∧ ns.length ≤ 63 ∧ ∀ H', Q (.bl true) H'
structure Defs (P : Program) (w : World) (K : PySem.W.Frag) (mg : Str → Option Value) (base : Heap) (fCell fOper fParse fTree : Addr) (dCell dOper dParse dTree : FuncData) : Prop where
  gCell : FnOk P w K mg base CX0 1 fCell dCell ["script", "k"] (spCell K)
  gOper : FnOk P w K mg base CX0 1 fOper dOper ["cell"] (spOperand K)
  gParse : FnOk P w K mg base CX0 33 fParse dParse ["text", "module"] (spParse K fun ts ds => ∃ n, RItems (RItem (RStmt (RLet (RE 3)))) n ts ds)
  gTree : FnOk P w K mg base CX0 7 fTree dTree ["parts_v", "signs", "level"] (spTree K 5)
  mCell : mg "_law_cell" = some (.ref fCell)
  mOper : mg "_law_operand" = some (.ref fOper)
  mParse : mg "parse" = some (.ref fParse)
  mTree : mg "_law_tree" = some (.ref fTree)
  kCell : PySem.W.keepIn K (.ref fCell) = true
  kOper : PySem.W.keepIn K (.ref fOper) = true
  kParse : PySem.W.keepIn K (.ref fParse) = true
  kTree : PySem.W.keepIn K (.ref fTree) = true
  bCell : Binds K dCell ["script", "k"] []
  bOper : Binds K dOper ["cell"] []
  bParse : Binds K dParse ["text", "module"] []
  bTree : Binds K dTree ["parts_v", "signs", "level"] []
/-- the law's flag behind some signs -/
def flg : Bool → List (Sn × Op) → Bool
  | b, [] => b
  | b, (s, _) :: r => flg (isCmp s.sg || (b && !isWord s.sg)) r
theorem flg_snoc (s : Sn) (p : Op) : ∀ (r : List (Sn × Op)) (b : Bool), flg b (r ++ [(s, p)]) = (isCmp s.sg || (flg b r && !isWord s.sg))
  | [], b => rfl
  | (s', p') :: r, b => flg_snoc s p r _
theorem cm_snoc (s : Sn) (p : Op) : ∀ (r : List (Sn × Op)) (b : Bool), Cm Sn.sg b r → (flg b r = true → isCmp s.sg = false) → Cm Sn.sg b (r ++ [(s, p)])
  | [], b, _, h => ⟨h, trivial⟩
  | (s', p') :: r, b, ⟨h1, h2⟩, h => ⟨h1, cm_snoc s p r _ h2 h⟩
def SG8 : List (List Nat) := [cd "or", cd "and", cd "<", cd "==", cd "+", cd "-", cd "*", cd "+"]
theorem sg8 : ∀ k ∈ SG8, k ∈ SGS := by decide +kernel
theorem upd_two {Hc : Hp} {A0 B0 T4 : Addr} {oB oA : HO} (hA : Hc A0 = some oA) (n : A0 ≠ B0) (hT : upd Hc B0 oB T4 = none) : A0 ≠ T4 ∧ B0 ≠ T4 ∧ ∀ o', upd (upd Hc B0 oB) T4 o' A0 = some oA := by
  have h1 : upd Hc B0 oB A0 = some oA := by
    rw [upd_ne n]
    exact hA
  have h2 : A0 ≠ T4 := ne_of_none h1 hT
  refine ⟨h2, ne_of_none (H := upd Hc B0 oB) upd_same hT, fun o' => ?_⟩
  rw [upd_ne h2]
  exact h1
theorem upd_three {Hc : Hp} {A0 B0 T4 : Addr} {oB oA oT : HO} (n : A0 ≠ B0) (hT : B0 ≠ T4) : upd (upd (upd Hc B0 oB) T4 oT) A0 oA B0 = some oB := by
  rw [upd_ne (Ne.symm n), upd_ne hT]
  exact upd_same
theorem same_all {H Hc : Hp} {A0 B0 T4 : Addr} {oB oA oT : HO} (s : Same H Hc) (hA0 : H A0 = none) (hB0 : H B0 = none) (hT : upd Hc B0 oB T4 = none) : Same H (upd (upd (upd Hc B0 oB) T4 oT) A0 oA) := fun b o e => by
  have h1 : upd Hc B0 oB b = some o := by
    rw [upd_ne (ne_of_none e hB0)]
    exact s _ _ e
  rw [upd_ne (ne_of_none e hA0), upd_ne (ne_of_none h1 hT)]
  exact h1
theorem kT_all {K : PySem.W.Frag} {H' Hc : Hp} {A0 B0 T4 a : Addr} {xs ss xs' ss' tt ys : List V} (s : Same H' Hc) (hA : Hc A0 = some (.lst xs)) (hB : Hc B0 = some (.lst ss)) (n : A0 ≠ B0) (hT : upd Hc B0 (.lst ss') T4 = none) (z : SqT K H' a ys) :
    SqT K (upd (upd (upd Hc B0 (.lst ss')) T4 (.lst tt)) A0 (.lst xs')) a ys :=
  sqt_lst ((upd_two hA n hT).2.2 _) ((same_new' hT).sqt (sqt_lst hB (s.sqt z)))
theorem sgs_len {k : List Nat} (h : k ∈ SGS) : k.length ≤ 3 := by
  have key : ∀ k ∈ SGS, k.length ≤ 3 := by decide +kernel
  exact key _ h
theorem sep_at (x : Int) : ∃ sep : List Nat, atI [V.str (PySem.Str.ofString " "), V.str (PySem.Str.ofString "\n ")] (x % 2) = some (.str (tx sep)) ∧ (sep = [32] ∨ sep = [10, 32]) := by
  obtain ⟨v, h1, h2⟩ := item_mod (xs := [V.str (PySem.Str.ofString " "), V.str (PySem.Str.ofString "\n ")]) (x := x) (m := 2) (by decide) (by decide)
  simp only [List.mem_cons, List.not_mem_nil, or_false] at h2
  rcases h2 with rfl | rfl
  · exact ⟨[32], by rw [h1]; exact congrArg (fun z => some (V.str z)) (TL.ext_tl (by decide +kernel)), .inl rfl⟩
  · exact ⟨[10, 32], by rw [h1]; exact congrArg (fun z => some (V.str z)) (TL.ext_tl (by decide +kernel)), .inr rfl⟩
theorem cmp_in : ∀ k ∈ SGS, isCmp k = decide (k ∈ [cd "<", cd "=="]) := by decide +kernel
theorem word_in : ∀ k ∈ SGS, isWord k = decide (k ∈ [cd "or", cd "and"]) := by decide +kernel
section
variable {P : Program} {w : World} {K : PySem.W.Frag} {mg : Str → Option Value} {base : Heap}
theorem scLaw : FnScope ["script", "parts_v", "signs", "text", "compared", "k", "cell", "shown", "tree", "sign", "items", "due"] ["script"] (defScope (top 76)) := ⟨rfl, rfl, rfl, by decide +kernel, rfl, by decide +kernel, by decide +kernel⟩
theorem law_body {f fCell fOper fParse fTree : Addr} {dCell dOper dParse dTree : FuncData} (T : Txt K mg) (L : LTxt mg) (D : Defs P w K mg base fCell fOper fParse fTree dCell dOper dParse dTree)
    {cdv : Value} {A : Around} {outer : List Env} {s : Shared} {H : Hp} {vs : List V} {Q : VK} {E : XK} (hA : A.guards = some []) (hr : Room 33 (A.deeper (PyProof.Rows.envOfC "law" (defScope (top 76)) s.heap.objs.size f cdv))) (h : spLaw K vs H Q E) :
    ∃ t, PSs (cxOf CX0 P w K mg base ["script", "parts_v", "signs", "text", "compared", "k", "cell", "shown", "tree", "sign", "items", "due"] "law" (defScope (top 76)) f cdv A outer s H E).nox (defBody (top 76)) t ∧
      t { nx := fun _ H' => Q .non H', rt := Q } (start ["script", "parts_v", "signs", "text", "compared", "k", "cell", "shown", "tree", "sign", "items", "due"] vs) H := by
  obtain ⟨a, ns, rfl, hS, hlen, q⟩ := h
  have hgd : (A.deeper (PyProof.Rows.envOfC "law" (defScope (top 76)) s.heap.objs.size f cdv)).guards = some [] := hA
  have hun : (A.deeper (PyProof.Rows.envOfC "law" (defScope (top 76)) s.heap.objs.size f cdv)).units + 40 < cLine := by
    have := hr.un
    omega
  refine ⟨_, (pss_cons (ps_set (i := 1) scLaw.nd rfl (.inl rfl) (pe_lst pa_nil)) (pss_cons (ps_set (i := 2) scLaw.nd rfl (.inl rfl) (pe_lst pa_nil)) (pss_cons (ps_set (i := 3) scLaw.nd rfl (.inl rfl) pe_str) (pss_cons (ps_set (i := 4) scLaw.nd rfl (.inl rfl) pe_bl) (pss_cons (ps_for PassesOwn.never rfl (pi_range1 (by rfl) L.range (pa_cons (pe_op op_add pe_int (pe_callB (call_min2 rfl) (by rfl) L.min (by decide +kernel) (pa_cons (pe_callB call_len_seq (by rfl) T.len PySem.boot_len (pa_cons (pv 0) pa_nil)) (pa_cons pe_int pa_nil)))) pa_nil)) (pg_name (i := 5) scLaw.nd rfl (.inl rfl)) (pss_cons (ps_set (i := 6) scLaw.nd rfl (.inl rfl) (pe_callB call_abs (by rfl) L.abs (by decide +kernel) (pa_cons (pe_call D.gCell (hr.mono (by decide)) rfl D.mCell D.kCell D.bCell .nil pass0 (pa_cons (pv 0) (pa_cons (pv 5) pa_nil))) pa_nil))) (pss_cons (ps_asg (pe_call D.gOper (hr.mono (by decide)) rfl D.mOper D.kOper D.bOper .nil pass0 (pa_cons (pe_op op_fdiv (pv 6) pe_int) pa_nil)) (pg_unl rfl (pgs_cons (pg_name (i := 7) scLaw.nd rfl (.inl rfl)) (pgs_cons (pg_name (i := 8) scLaw.nd rfl (.inl rfl)) pgs_nil)))) (pss_cons (ps_if (pt_cmpR op_gt (pv 5) pe_int (nomark _)) (pss_cons (ps_set (i := 9) scLaw.nd rfl (.inl rfl) (pe_ix ix_list (pe_lst (pa_cons pe_str (pa_cons pe_str (pa_cons pe_str (pa_cons pe_str (pa_cons pe_str (pa_cons pe_str (pa_cons pe_str (pa_cons pe_str pa_nil))))))))) (pe_op op_mod (pe_callTy call_int1 (by rfl) T.int (by decide +kernel) (pa_cons (pv 6) pa_nil)) pe_int) (fun _ _ => rfl))) (pss_cons (ps_if (PW.pt (pw_and (pt_val (pv 4)) (pw_and1 (pt_cmpR op_in_seq (pv 9) (pe_lst (pa_cons pe_str (pa_cons pe_str pa_nil))) (by rfl))))) (pss_one (ps_set (i := 9) scLaw.nd rfl (.inl rfl) pe_str)) pss_nil) (pss_cons (ps_set (i := 4) scLaw.nd rfl (.inl rfl) (pe_or (pe_cmpR op_in_seq (pv 9) (pe_lst (pa_cons pe_str (pa_cons pe_str pa_nil))) (by rfl)) (pe_one (pe_and (pv 4) (pe_one (pe_cmpR op_notIn_seq (pv 9) (pe_lst (pa_cons pe_str (pa_cons pe_str pa_nil))) (by rfl))))))) (pss_cons (ps_expr (pe_bm PySem.F.plainAttrs_list PySem.F.slot_list_append PySem.F.type_list_append mt_append (pv 2) (pa_cons (pv 9) pa_nil))) (pss_one (ps_set (i := 3) scLaw.nd rfl (.inl rfl) (pe_op op_add_str (pe_op op_add_str (pe_op op_add_str (pv 3) (pe_ix ix_list (pe_lst (pa_cons pe_str (pa_cons pe_str pa_nil))) (pe_op op_mod (pe_callTy call_int1 (by rfl) T.int (by decide +kernel) (pa_cons (pe_op op_fdiv (pv 6) pe_int) pa_nil)) pe_int) (fun _ _ => rfl))) (pv 9)) pe_str))))))) pss_nil) (pss_cons (ps_expr (pe_bm PySem.F.plainAttrs_list PySem.F.slot_list_append PySem.F.type_list_append mt_append (pv 1) (pa_cons (pv 8) pa_nil))) (pss_one (ps_set (i := 3) scLaw.nd rfl (.inl rfl) (pe_op op_add_str (pv 3) (pv 7))))))))) (pss_cons (ps_set (i := 10) scLaw.nd rfl (.inl rfl) (pe_call D.gParse (hr.mono (by decide)) rfl D.mParse D.kParse D.bParse .nil pass0 (pa_cons (pe_op op_add_str (pe_op op_add_str pe_str (pv 3)) pe_str) (pa_cons pe_str pa_nil)))) (pss_cons (ps_set (i := 11) scLaw.nd rfl (.inl rfl) (pe_lst (pa_cons (pe_tup (pa_cons pe_str (pa_cons pe_str (pa_cons (pe_call D.gTree (hr.mono (by decide)) rfl D.mTree D.kTree D.bTree .nil pass0 (pa_cons (pv 1) (pa_cons (pv 2) (pa_cons pe_int pa_nil)))) (pa_cons pe_int pa_nil))))) pa_nil))) (pss_one (ps_ret (pe_and (pe_callB call_isi (by rfl) L.isinst (by decide +kernel) (pa_cons (pv 10) (pa_cons (pe_bltn (v := .ty "list") (by rfl) L.list (by decide +kernel) rfl) pa_nil))) (pe_one (pe_cmpR op_eq (pe_callB (call_repr_data hgd hun) (by rfl) L.repr (by decide +kernel) (pa_cons (pv 10) pa_nil)) (pe_callB (call_repr_data hgd hun) (by rfl) L.repr (by decide +kernel) (pa_cons (pv 11) pa_nil)) (nomark _))))))))))))), ?_⟩
  refine ⟨Nat.zero_le _, fun A0 hA0 => ⟨Nat.zero_le _, fun B0 hB0 => ?_⟩⟩
  have s0 := (same_new' (o := .lst []) hA0).trans (same_new' (o := .lst []) hB0)
  have nAB : A0 ≠ B0 := ne_of_none upd_same hB0
  have HA0 : H A0 = none := hA0
  have HB0 : H B0 = none := (same_new' (o := .lst []) hA0).free hB0
  refine ⟨_, rfl, a, _, rfl, .inl (s0.seq hS), _, _, rfl, _, _, rfl, rfl, _, rfl, ?_, ?_, ?_⟩
  · split <;> omega
  · split <;> omega
  have hN : (1 + (if (7 : Int) < ((ns.map V.int).length : Int) then 7 else ((ns.map V.int).length : Int))).toNat ≤ 8 := by split <;> omega
  have hN0 : 0 < (1 + (if (7 : Int) < ((ns.map V.int).length : Int) then 7 else ((ns.map V.int).length : Int))).toNat := by split <;> omega
  let Pv : Nat → St → Hp → Prop := fun i σ H' => Same H H' ∧ ∃ (xs ss : List V) (l : List Nat) (fb : Bool) (v5 v6 v7 v8 v9 : Option V), σ = [some (.ref a), some (.ref A0), some (.ref B0), some (.str (tx l)), some (.bl fb), v5, v6, v7, v8, v9, none, none] ∧ H' A0 = some (.lst xs) ∧ H' B0 = some (.lst ss) ∧
    ((i = 0 ∧ xs = [] ∧ ss = [] ∧ l = [] ∧ fb = false) ∨ ∃ (p : Op) (r : List (Sn × Op)) (pr : V × PyData) (rv : List (List Nat × (V × PyData))), r.length + 1 = i ∧ OpOk p ∧ (∀ x ∈ r, SnOk x.1 ∧ OpOk x.2) ∧ Cm Sn.sg false r ∧ fb = flg false r ∧ l = p.sh ++ rend r ∧ pr.2 = p.d ∧
      rv.map (fun y => (y.1, y.2.2)) = r.map (fun x => (x.1.sg, x.2.d)) ∧ xs = pr.1 :: rv.map (·.2.1) ∧ ss = rv.map (fun y => sv y.1) ∧ Tp K H' pr.1 pr.2 ∧ ∀ y ∈ rv, Tp K H' y.2.1 y.2.2)
  refine for_range (lo := 0) Pv ?h0 ?hs ?hd
  case h0 =>
    refine ⟨s0, [], [], [], false, none, none, none, none, none, ?_, ?_, upd_same, .inl ⟨rfl, rfl, rfl, rfl, rfl⟩⟩
    · rw [show tx [] = PySem.Str.ofString "" from TL.ext_tl (by decide +kernel)]
      rfl
    · rw [upd_ne nAB]
      exact upd_same
  case hs =>
    rintro i σ H' hi ⟨sm, xs, ss, l, fb, v5, v6, v7, v8, v9, rfl, hA', hB', hcase⟩
    have hi8 : i < 8 := Nat.lt_of_lt_of_le hi hN
    refine ⟨_, rfl, _, rfl, a, ns, 0 + i, rfl, sm.seq hS, _, rfl, ?_⟩
    refine ⟨_, rfl, _, _, rfl, rfl, ⟨by decide, by decide⟩, _, rfl, fun pO hO H2 pq v sm2 nq hq Tv => ?_⟩
    refine ⟨pq, _, rfl, SqL.of hq, rfl, _, _, rfl, _, _, rfl, rfl, ?_⟩
    have shl := hO.len
    refine ⟨_, rfl, _, _, rfl, rfl, _, rfl, ?_⟩
    by_cases hi0 : i = 0
    · rcases hcase with ⟨_, rfl, rfl, rfl, rfl⟩ | ⟨p, r, pr, rv, erl, _⟩
      · refine ifF (decide_eq_false (by omega)) ?_
        have hA2 := sm2 _ _ hA'
        refine ⟨_, rfl, .inl ⟨rfl, _, SqL.of hA2⟩, _, rfl, A0, _, _, rfl, rfl, hA2, (by show 0 < sizeLine; decide), ?_⟩
        refine ⟨_, rfl, _, rfl, _, _, rfl, rfl, ?_, ?_⟩
        · rw [tx_len, tx_len]
          exact line20 (by simp; omega)
        refine ⟨fun b o e => ?_, [v], [], pO.sh, false, some (.int (0 + (i : Int))), some (.int (if ns.getD (0 + i) 0 < 0 then -ns.getD (0 + i) 0 else ns.getD (0 + i) 0)), some (.str (tx pO.sh)), some v, v9, ?s, upd_same, ?_, .inr ⟨pO, [], (v, pO.d), [], by rw [hi0]; rfl, hO, fun x hx => (by cases hx), trivial, rfl, ?_, rfl, rfl, rfl, rfl, Tp.keep (fun a ys zz => sqt_lst hA2 zz) _ _ Tv, fun y hy => (by cases hy)⟩⟩
        case s =>
          rw [show tx [] ++ tx pO.sh = tx pO.sh by rw [tx_app]; rfl]
          rfl
        · rw [upd_ne (ne_of_none e HA0)]
          exact sm2 _ _ (sm _ _ e)
        · rw [upd_ne (Ne.symm nAB)]
          exact sm2 _ _ hB'
        · show pO.sh = pO.sh ++ []
          rw [List.append_nil]
      · omega
    rcases hcase with ⟨z, _⟩ | ⟨p, r, pr, rv, erl', hp, hr', hcm, hfb, el, hpr, hrv, exs, ess, hpT, hrT⟩
    · exact absurd z hi0
    have erl : rv.length + 1 = i := by
      have := congrArg List.length hrv
      rw [List.length_map, List.length_map] at this
      omega
    have hll : l.length ≤ 300 := by
      rw [el, List.length_append]
      have h1 := hp.len
      have h2 := rend_len r hr'
      omega
    refine ifT (decide_eq_true (by omega)) ?_
    have eS : ([V.str (PySem.Str.ofString "or"), V.str (PySem.Str.ofString "and"), V.str (PySem.Str.ofString "<"), V.str (PySem.Str.ofString "=="), V.str (PySem.Str.ofString "+"), V.str (PySem.Str.ofString "-"), V.str (PySem.Str.ofString "*"), V.str (PySem.Str.ofString "+")] : List V) = SG8.map fun w => V.str (tx w) := by decide +kernel
    obtain ⟨sv9, hv9, hm9⟩ := item_mod (xs := SG8.map fun w => V.str (tx w)) (x := (if ns.getD (0 + i) 0 < 0 then -ns.getD (0 + i) 0 else ns.getD (0 + i) 0)) (m := 8) (by decide) (by decide)
    obtain ⟨sg, hsg8, rfl⟩ := mem_txs hm9
    rw [← eS] at hv9
    have hsg := sg8 sg hsg8
    refine ⟨(by show 8 ≤ sizeLine; decide), fun SL hSL => ⟨_, rfl, .inl ⟨_, rfl, _, _, rfl, rfl, (by show (0 : Int) < 8; decide), SL, _, _, _, rfl, rfl, SqL.of upd_same, hv9, ?_⟩⟩⟩
    have sS := same_new' (o := .lst [V.str (PySem.Str.ofString "or"), V.str (PySem.Str.ofString "and"), V.str (PySem.Str.ofString "<"), V.str (PySem.Str.ofString "=="), V.str (PySem.Str.ofString "+"), V.str (PySem.Str.ofString "-"), V.str (PySem.Str.ofString "*"), V.str (PySem.Str.ofString "+")]) hSL
    have in2 : ∀ z : List Nat, inV (.str (tx z)) [V.str (PySem.Str.ofString "<"), V.str (PySem.Str.ofString "==")] = decide (z ∈ [cd "<", cd "=="]) := fun z => by
      rw [ofS, ofS]
      exact in_txs (tx z) [cd "<", cd "=="]
    have inw : ∀ z : List Nat, inV (.str (tx z)) [V.str (PySem.Str.ofString "or"), V.str (PySem.Str.ofString "and")] = decide (z ∈ [cd "or", cd "and"]) := fun z => by
      rw [ofS, ofS]
      exact in_txs (tx z) [cd "or", cd "and"]
    cases hb : fb with
    | false =>
      refine ⟨_, rfl, _, rfl, ifF rfl (ifF rfl ?_)⟩
      -- compared = sign in [..] or ..
      refine ⟨_, rfl, (by show 2 ≤ sizeLine; decide), fun T2 hT2 => ⟨T2, _, rfl, .inl (SqL.of upd_same), rfl, by decide +kernel, _, rfl, ?_⟩⟩
      have s2 := same_new' (o := .lst [V.str (PySem.Str.ofString "<"), V.str (PySem.Str.ofString "==")]) hT2
      cases hc : isCmp sg with
      | true =>
        refine ifT ((in2 sg).trans ((cmp_in sg hsg).symm.trans hc)) ?_
        have sY := sS.trans s2
        have sX := sm2.trans sY
        obtain ⟨sep, hvs, hsep⟩ : ∃ sep : List Nat, atI [V.str (PySem.Str.ofString " "), V.str (PySem.Str.ofString "\n ")] ((if ns.getD (0 + i) 0 < 0 then -ns.getD (0 + i) 0 else ns.getD (0 + i) 0) / 4 % 2) = some (.str (tx sep)) ∧ (sep = [32] ∨ sep = [10, 32]) := sep_at _
        have hBc := sX _ _ hB'
        have hAc := sX _ _ hA'
        have hssl : ss.length < 100 := by
          rw [ess, List.length_map]
          omega
        refine ⟨_, rfl, .inl ⟨rfl, _, SqL.of hBc⟩, _, rfl, B0, _, _, rfl, rfl, hBc, Nat.lt_trans hssl (by decide), ?_⟩
        refine ⟨_, rfl, (by show 2 ≤ sizeLine; decide), fun T4 hT4 => ⟨_, rfl, _, _, rfl, rfl, ⟨by decide, by decide⟩, .inl ⟨_, rfl, _, _, rfl, rfl, (by show (0 : Int) < 2; decide), T4, _, _, _, rfl, rfl, SqL.of upd_same, hvs, _, _, rfl, rfl, ?z1, _, rfl, _, _, rfl, rfl, ?z2, _, _, rfl, rfl, ?z3, ?_⟩⟩⟩
        case z1 =>
          rw [tx_len, tx_len]
          exact line20 (by rcases hsep with h | h <;> rw [h] <;> simp <;> omega)
        case z2 =>
          rw [tx_app, tx_len, tx_len, List.length_append]
          exact line20 (by have := sgs_len hsg; rcases hsep with h | h <;> rw [h] <;> simp <;> omega)
        case z3 =>
          rw [tx_app, tx_app, ofS, tx_len, tx_len, List.length_append, List.length_append]
          exact line20 (by have := sgs_len hsg; have e1 : (cd " ").length = 1 := by decide
                           rcases hsep with h | h <;> rw [h] <;> simp <;> omega)
        obtain ⟨hnAT, hnBT, hA2⟩ := upd_two hAc nAB hT4
        have hxl : xs.length < 100 := by
          rw [exs, List.length_cons, List.length_map]
          omega
        refine ⟨_, rfl, .inl ⟨rfl, _, SqL.of (hA2 _)⟩, _, rfl, A0, _, _, rfl, rfl, hA2 _, Nat.lt_trans hxl (by decide), ?_⟩
        have e9 : tx l ++ tx sep ++ (tx sg) ++ PySem.Str.ofString " " = tx (l ++ (sep ++ (sg ++ [32]))) := by
          rw [ofS " ", tx_app, tx_app, tx_app]
          exact congrArg tx (by rw [show cd " " = [32] by decide]; simp)
        refine ⟨_, rfl, _, rfl, _, _, rfl, rfl, ?z4, ?_⟩
        case z4 =>
          rw [e9, tx_len, tx_len]
          exact line20 (by have := sgs_len hsg; have := hO.len; rcases hsep with h | h <;> rw [h] <;> simp <;> omega)
        have hSn : SnOk ⟨sep, sg⟩ := ⟨hsep, hsg⟩
        refine ⟨same_all (sm.trans sX) HA0 HB0 hT4, xs ++ [v], ss ++ [.str (tx sg)], l ++ (sep ++ (sg ++ (32 :: pO.sh))), true, some (.int (0 + (i : Int))), some (.int (if ns.getD (0 + i) 0 < 0 then -ns.getD (0 + i) 0 else ns.getD (0 + i) 0)), some (.str (tx pO.sh)), some v, some (.str ((tx sg))), ?s, upd_same, upd_three nAB hnBT, .inr ⟨p, r ++ [(⟨sep, sg⟩, pO)], pr, rv ++ [(sg, (v, pO.d))], by rw [List.length_append, List.length_singleton, erl'], hp, fun x hx => ?_, cm_snoc _ _ r false hcm (fun z => by rw [← hfb, hb] at z; cases z), by rw [flg_snoc]; exact (by rw [hc]; rfl), ?_, hpr, ?_, ?_, ?_, Tp.keep (fun a ys zz => kT_all sX hAc hBc nAB hT4 zz) _ _ hpT, fun y hy => ?_⟩⟩
        case s =>
          rw [show tx (l ++ (sep ++ (sg ++ (32 :: pO.sh)))) = tx l ++ tx sep ++ (tx sg) ++ PySem.Str.ofString " " ++ tx pO.sh by rw [e9, tx_app]; exact congrArg tx (by simp)]
          rfl
        · rcases List.mem_append.mp hx with hx | hx
          · exact hr' x hx
          · rw [List.mem_singleton.mp hx]
            exact ⟨hSn, hO⟩
        · rw [el, rend_snoc]
          simp
        · rw [List.map_append, List.map_append, hrv]
          rfl
        · rw [exs, List.map_append]
          rfl
        · rw [ess, List.map_append]
          rfl
        · rcases List.mem_append.mp hy with hy | hy
          · exact Tp.keep (fun a ys zz => kT_all sX hAc hBc nAB hT4 zz) _ _ (hrT y hy)
          · rw [List.mem_singleton.mp hy]
            exact Tp.keep (fun a ys zz => kT_all sY hAc hBc nAB hT4 zz) _ _ Tv
      | false =>
        refine ifF ((in2 sg).trans ((cmp_in sg hsg).symm.trans hc)) ?_
        refine ⟨_, rfl, _, rfl, ifF rfl ?_⟩
        have sY := sS.trans s2
        have sX := sm2.trans sY
        obtain ⟨sep, hvs, hsep⟩ : ∃ sep : List Nat, atI [V.str (PySem.Str.ofString " "), V.str (PySem.Str.ofString "\n ")] ((if ns.getD (0 + i) 0 < 0 then -ns.getD (0 + i) 0 else ns.getD (0 + i) 0) / 4 % 2) = some (.str (tx sep)) ∧ (sep = [32] ∨ sep = [10, 32]) := sep_at _
        have hBc := sX _ _ hB'
        have hAc := sX _ _ hA'
        have hssl : ss.length < 100 := by
          rw [ess, List.length_map]
          omega
        refine ⟨_, rfl, .inl ⟨rfl, _, SqL.of hBc⟩, _, rfl, B0, _, _, rfl, rfl, hBc, Nat.lt_trans hssl (by decide), ?_⟩
        refine ⟨_, rfl, (by show 2 ≤ sizeLine; decide), fun T4 hT4 => ⟨_, rfl, _, _, rfl, rfl, ⟨by decide, by decide⟩, .inl ⟨_, rfl, _, _, rfl, rfl, (by show (0 : Int) < 2; decide), T4, _, _, _, rfl, rfl, SqL.of upd_same, hvs, _, _, rfl, rfl, ?z1, _, rfl, _, _, rfl, rfl, ?z2, _, _, rfl, rfl, ?z3, ?_⟩⟩⟩
        case z1 =>
          rw [tx_len, tx_len]
          exact line20 (by rcases hsep with h | h <;> rw [h] <;> simp <;> omega)
        case z2 =>
          rw [tx_app, tx_len, tx_len, List.length_append]
          exact line20 (by have := sgs_len hsg; rcases hsep with h | h <;> rw [h] <;> simp <;> omega)
        case z3 =>
          rw [tx_app, tx_app, ofS, tx_len, tx_len, List.length_append, List.length_append]
          exact line20 (by have := sgs_len hsg; have e1 : (cd " ").length = 1 := by decide
                           rcases hsep with h | h <;> rw [h] <;> simp <;> omega)
        obtain ⟨hnAT, hnBT, hA2⟩ := upd_two hAc nAB hT4
        have hxl : xs.length < 100 := by
          rw [exs, List.length_cons, List.length_map]
          omega
        refine ⟨_, rfl, .inl ⟨rfl, _, SqL.of (hA2 _)⟩, _, rfl, A0, _, _, rfl, rfl, hA2 _, Nat.lt_trans hxl (by decide), ?_⟩
        have e9 : tx l ++ tx sep ++ (tx sg) ++ PySem.Str.ofString " " = tx (l ++ (sep ++ (sg ++ [32]))) := by
          rw [ofS " ", tx_app, tx_app, tx_app]
          exact congrArg tx (by rw [show cd " " = [32] by decide]; simp)
        refine ⟨_, rfl, _, rfl, _, _, rfl, rfl, ?z4, ?_⟩
        case z4 =>
          rw [e9, tx_len, tx_len]
          exact line20 (by have := sgs_len hsg; have := hO.len; rcases hsep with h | h <;> rw [h] <;> simp <;> omega)
        have hSn : SnOk ⟨sep, sg⟩ := ⟨hsep, hsg⟩
        refine ⟨same_all (sm.trans sX) HA0 HB0 hT4, xs ++ [v], ss ++ [.str (tx sg)], l ++ (sep ++ (sg ++ (32 :: pO.sh))), false, some (.int (0 + (i : Int))), some (.int (if ns.getD (0 + i) 0 < 0 then -ns.getD (0 + i) 0 else ns.getD (0 + i) 0)), some (.str (tx pO.sh)), some v, some (.str ((tx sg))), ?s, upd_same, upd_three nAB hnBT, .inr ⟨p, r ++ [(⟨sep, sg⟩, pO)], pr, rv ++ [(sg, (v, pO.d))], by rw [List.length_append, List.length_singleton, erl'], hp, fun x hx => ?_, cm_snoc _ _ r false hcm (fun z => by rw [← hfb, hb] at z; cases z), by rw [flg_snoc]; exact (by rw [hc, ← hfb, hb]; rfl), ?_, hpr, ?_, ?_, ?_, Tp.keep (fun a ys zz => kT_all sX hAc hBc nAB hT4 zz) _ _ hpT, fun y hy => ?_⟩⟩
        case s =>
          rw [show tx (l ++ (sep ++ (sg ++ (32 :: pO.sh)))) = tx l ++ tx sep ++ (tx sg) ++ PySem.Str.ofString " " ++ tx pO.sh by rw [e9, tx_app]; exact congrArg tx (by simp)]
          rfl
        · rcases List.mem_append.mp hx with hx | hx
          · exact hr' x hx
          · rw [List.mem_singleton.mp hx]
            exact ⟨hSn, hO⟩
        · rw [el, rend_snoc]
          simp
        · rw [List.map_append, List.map_append, hrv]
          rfl
        · rw [exs, List.map_append]
          rfl
        · rw [ess, List.map_append]
          rfl
        · rcases List.mem_append.mp hy with hy | hy
          · exact Tp.keep (fun a ys zz => kT_all sX hAc hBc nAB hT4 zz) _ _ (hrT y hy)
          · rw [List.mem_singleton.mp hy]
            exact Tp.keep (fun a ys zz => kT_all sY hAc hBc nAB hT4 zz) _ _ Tv
    | true =>
      refine ⟨_, rfl, _, rfl, ifT rfl ?_⟩
      refine ⟨_, rfl, (by show 2 ≤ sizeLine; decide), fun T1 hT1 => ⟨T1, _, rfl, .inl (SqL.of upd_same), rfl, by decide +kernel, _, rfl, ?_⟩⟩
      have s1 := same_new' (o := .lst [V.str (PySem.Str.ofString "<"), V.str (PySem.Str.ofString "==")]) hT1
      cases hc : isCmp sg with
      | true =>
        refine ifT ((in2 sg).trans ((cmp_in sg hsg).symm.trans hc)) ?_
        have est : PySem.Str.ofString "*" = tx (cd "*") := ofS _
        refine ⟨_, rfl, (by show 2 ≤ sizeLine; decide), fun T2 hT2 => ⟨T2, _, rfl, .inl (SqL.of upd_same), rfl, by decide +kernel, _, rfl, ifF (by decide +kernel) ?_⟩⟩
        have s2 := same_new' (o := .lst [V.str (PySem.Str.ofString "<"), V.str (PySem.Str.ofString "==")]) hT2
        refine ⟨_, rfl, _, rfl, ifT rfl ?_⟩
        refine ⟨_, rfl, (by show 2 ≤ sizeLine; decide), fun T3 hT3 => ⟨T3, _, rfl, .inl (SqL.of upd_same), rfl, by decide +kernel, ?_⟩⟩
        have s3 := same_new' (o := .lst [V.str (PySem.Str.ofString "or"), V.str (PySem.Str.ofString "and")]) hT3
        have sY := ((sS.trans s1).trans s2).trans s3
        have sX := sm2.trans sY
        obtain ⟨sep, hvs, hsep⟩ : ∃ sep : List Nat, atI [V.str (PySem.Str.ofString " "), V.str (PySem.Str.ofString "\n ")] ((if ns.getD (0 + i) 0 < 0 then -ns.getD (0 + i) 0 else ns.getD (0 + i) 0) / 4 % 2) = some (.str (tx sep)) ∧ (sep = [32] ∨ sep = [10, 32]) := sep_at _
        have hBc := sX _ _ hB'
        have hAc := sX _ _ hA'
        have hssl : ss.length < 100 := by
          rw [ess, List.length_map]
          omega
        refine ⟨_, rfl, .inl ⟨rfl, _, SqL.of hBc⟩, _, rfl, B0, _, _, rfl, rfl, hBc, Nat.lt_trans hssl (by decide), ?_⟩
        refine ⟨_, rfl, (by show 2 ≤ sizeLine; decide), fun T4 hT4 => ⟨_, rfl, _, _, rfl, rfl, ⟨by decide, by decide⟩, .inl ⟨_, rfl, _, _, rfl, rfl, (by show (0 : Int) < 2; decide), T4, _, _, _, rfl, rfl, SqL.of upd_same, hvs, _, _, rfl, rfl, ?z1, _, rfl, _, _, rfl, rfl, ?z2, _, _, rfl, rfl, ?z3, ?_⟩⟩⟩
        case z1 =>
          rw [tx_len, tx_len]
          exact line20 (by rcases hsep with h | h <;> rw [h] <;> simp <;> omega)
        case z2 =>
          rw [tx_app, est, tx_len, tx_len, List.length_append]
          exact line20 (by have := sgs_len (by decide +kernel : cd "*" ∈ SGS); rcases hsep with h | h <;> rw [h] <;> simp <;> omega)
        case z3 =>
          rw [tx_app, est, tx_app, ofS, tx_len, tx_len, List.length_append, List.length_append]
          exact line20 (by have := sgs_len (by decide +kernel : cd "*" ∈ SGS); have e1 : (cd " ").length = 1 := by decide
                           rcases hsep with h | h <;> rw [h] <;> simp <;> omega)
        obtain ⟨hnAT, hnBT, hA2⟩ := upd_two hAc nAB hT4
        have hxl : xs.length < 100 := by
          rw [exs, List.length_cons, List.length_map]
          omega
        refine ⟨_, rfl, .inl ⟨rfl, _, SqL.of (hA2 _)⟩, _, rfl, A0, _, _, rfl, rfl, hA2 _, Nat.lt_trans hxl (by decide), ?_⟩
        have e9 : tx l ++ tx sep ++ (PySem.Str.ofString "*") ++ PySem.Str.ofString " " = tx (l ++ (sep ++ (cd "*" ++ [32]))) := by
          rw [est, ofS " ", tx_app, tx_app, tx_app]
          exact congrArg tx (by rw [show cd " " = [32] by decide]; simp)
        refine ⟨_, rfl, _, rfl, _, _, rfl, rfl, ?z4, ?_⟩
        case z4 =>
          rw [e9, tx_len, tx_len]
          exact line20 (by have := sgs_len (by decide +kernel : cd "*" ∈ SGS); have := hO.len; rcases hsep with h | h <;> rw [h] <;> simp <;> omega)
        have hSn : SnOk ⟨sep, cd "*"⟩ := ⟨hsep, (by decide +kernel : cd "*" ∈ SGS)⟩
        refine ⟨same_all (sm.trans sX) HA0 HB0 hT4, xs ++ [v], ss ++ [.str (PySem.Str.ofString "*")], l ++ (sep ++ (cd "*" ++ (32 :: pO.sh))), (!inV (V.str (PySem.Str.ofString "*")) [V.str (PySem.Str.ofString "or"), V.str (PySem.Str.ofString "and")]), some (.int (0 + (i : Int))), some (.int (if ns.getD (0 + i) 0 < 0 then -ns.getD (0 + i) 0 else ns.getD (0 + i) 0)), some (.str (tx pO.sh)), some v, some (.str ((PySem.Str.ofString "*"))), ?s, upd_same, upd_three nAB hnBT, .inr ⟨p, r ++ [(⟨sep, cd "*"⟩, pO)], pr, rv ++ [(cd "*", (v, pO.d))], by rw [List.length_append, List.length_singleton, erl'], hp, fun x hx => ?_, cm_snoc _ _ r false hcm (fun _ => by show isCmp (cd "*") = false; decide +kernel), by rw [flg_snoc]; exact (by rw [← hfb, hb]; show _ = (isCmp (cd "*") || true && !isWord (cd "*")); decide +kernel), ?_, hpr, ?_, ?_, ?_, Tp.keep (fun a ys zz => kT_all sX hAc hBc nAB hT4 zz) _ _ hpT, fun y hy => ?_⟩⟩
        case s =>
          rw [show tx (l ++ (sep ++ (cd "*" ++ (32 :: pO.sh)))) = tx l ++ tx sep ++ (PySem.Str.ofString "*") ++ PySem.Str.ofString " " ++ tx pO.sh by rw [e9, tx_app]; exact congrArg tx (by simp)]
          rfl
        · rcases List.mem_append.mp hx with hx | hx
          · exact hr' x hx
          · rw [List.mem_singleton.mp hx]
            exact ⟨hSn, hO⟩
        · rw [el, rend_snoc]
          simp
        · rw [List.map_append, List.map_append, hrv]
          rfl
        · rw [exs, List.map_append]
          rfl
        · rw [ess, List.map_append, est]
          rfl
        · rcases List.mem_append.mp hy with hy | hy
          · exact Tp.keep (fun a ys zz => kT_all sX hAc hBc nAB hT4 zz) _ _ (hrT y hy)
          · rw [List.mem_singleton.mp hy]
            exact Tp.keep (fun a ys zz => kT_all sY hAc hBc nAB hT4 zz) _ _ Tv
      | false =>
        refine ifF ((in2 sg).trans ((cmp_in sg hsg).symm.trans hc)) ?_
        refine ⟨_, rfl, (by show 2 ≤ sizeLine; decide), fun T2 hT2 => ⟨T2, _, rfl, .inl (SqL.of upd_same), rfl, by decide +kernel, _, rfl, ifF ((in2 sg).trans ((cmp_in sg hsg).symm.trans hc)) ?_⟩⟩
        have s2 := same_new' (o := .lst [V.str (PySem.Str.ofString "<"), V.str (PySem.Str.ofString "==")]) hT2
        refine ⟨_, rfl, _, rfl, ifT rfl ?_⟩
        refine ⟨_, rfl, (by show 2 ≤ sizeLine; decide), fun T3 hT3 => ⟨T3, _, rfl, .inl (SqL.of upd_same), rfl, by decide +kernel, ?_⟩⟩
        have s3 := same_new' (o := .lst [V.str (PySem.Str.ofString "or"), V.str (PySem.Str.ofString "and")]) hT3
        have sY := ((sS.trans s1).trans s2).trans s3
        have sX := sm2.trans sY
        obtain ⟨sep, hvs, hsep⟩ : ∃ sep : List Nat, atI [V.str (PySem.Str.ofString " "), V.str (PySem.Str.ofString "\n ")] ((if ns.getD (0 + i) 0 < 0 then -ns.getD (0 + i) 0 else ns.getD (0 + i) 0) / 4 % 2) = some (.str (tx sep)) ∧ (sep = [32] ∨ sep = [10, 32]) := sep_at _
        have hBc := sX _ _ hB'
        have hAc := sX _ _ hA'
        have hssl : ss.length < 100 := by
          rw [ess, List.length_map]
          omega
        refine ⟨_, rfl, .inl ⟨rfl, _, SqL.of hBc⟩, _, rfl, B0, _, _, rfl, rfl, hBc, Nat.lt_trans hssl (by decide), ?_⟩
        refine ⟨_, rfl, (by show 2 ≤ sizeLine; decide), fun T4 hT4 => ⟨_, rfl, _, _, rfl, rfl, ⟨by decide, by decide⟩, .inl ⟨_, rfl, _, _, rfl, rfl, (by show (0 : Int) < 2; decide), T4, _, _, _, rfl, rfl, SqL.of upd_same, hvs, _, _, rfl, rfl, ?z1, _, rfl, _, _, rfl, rfl, ?z2, _, _, rfl, rfl, ?z3, ?_⟩⟩⟩
        case z1 =>
          rw [tx_len, tx_len]
          exact line20 (by rcases hsep with h | h <;> rw [h] <;> simp <;> omega)
        case z2 =>
          rw [tx_app, tx_len, tx_len, List.length_append]
          exact line20 (by have := sgs_len hsg; rcases hsep with h | h <;> rw [h] <;> simp <;> omega)
        case z3 =>
          rw [tx_app, tx_app, ofS, tx_len, tx_len, List.length_append, List.length_append]
          exact line20 (by have := sgs_len hsg; have e1 : (cd " ").length = 1 := by decide
                           rcases hsep with h | h <;> rw [h] <;> simp <;> omega)
        obtain ⟨hnAT, hnBT, hA2⟩ := upd_two hAc nAB hT4
        have hxl : xs.length < 100 := by
          rw [exs, List.length_cons, List.length_map]
          omega
        refine ⟨_, rfl, .inl ⟨rfl, _, SqL.of (hA2 _)⟩, _, rfl, A0, _, _, rfl, rfl, hA2 _, Nat.lt_trans hxl (by decide), ?_⟩
        have e9 : tx l ++ tx sep ++ (tx sg) ++ PySem.Str.ofString " " = tx (l ++ (sep ++ (sg ++ [32]))) := by
          rw [ofS " ", tx_app, tx_app, tx_app]
          exact congrArg tx (by rw [show cd " " = [32] by decide]; simp)
        refine ⟨_, rfl, _, rfl, _, _, rfl, rfl, ?z4, ?_⟩
        case z4 =>
          rw [e9, tx_len, tx_len]
          exact line20 (by have := sgs_len hsg; have := hO.len; rcases hsep with h | h <;> rw [h] <;> simp <;> omega)
        have hSn : SnOk ⟨sep, sg⟩ := ⟨hsep, hsg⟩
        refine ⟨same_all (sm.trans sX) HA0 HB0 hT4, xs ++ [v], ss ++ [.str (tx sg)], l ++ (sep ++ (sg ++ (32 :: pO.sh))), (!inV (V.str (tx sg)) [V.str (PySem.Str.ofString "or"), V.str (PySem.Str.ofString "and")]), some (.int (0 + (i : Int))), some (.int (if ns.getD (0 + i) 0 < 0 then -ns.getD (0 + i) 0 else ns.getD (0 + i) 0)), some (.str (tx pO.sh)), some v, some (.str ((tx sg))), ?s, upd_same, upd_three nAB hnBT, .inr ⟨p, r ++ [(⟨sep, sg⟩, pO)], pr, rv ++ [(sg, (v, pO.d))], by rw [List.length_append, List.length_singleton, erl'], hp, fun x hx => ?_, cm_snoc _ _ r false hcm (fun _ => hc), by rw [flg_snoc]; exact (by rw [← hfb, hb, hc, inw, word_in sg hsg]; rfl), ?_, hpr, ?_, ?_, ?_, Tp.keep (fun a ys zz => kT_all sX hAc hBc nAB hT4 zz) _ _ hpT, fun y hy => ?_⟩⟩
        case s =>
          rw [show tx (l ++ (sep ++ (sg ++ (32 :: pO.sh)))) = tx l ++ tx sep ++ (tx sg) ++ PySem.Str.ofString " " ++ tx pO.sh by rw [e9, tx_app]; exact congrArg tx (by simp)]
          rfl
        · rcases List.mem_append.mp hx with hx | hx
          · exact hr' x hx
          · rw [List.mem_singleton.mp hx]
            exact ⟨hSn, hO⟩
        · rw [el, rend_snoc]
          simp
        · rw [List.map_append, List.map_append, hrv]
          rfl
        · rw [exs, List.map_append]
          rfl
        · rw [ess, List.map_append]
          rfl
        · rcases List.mem_append.mp hy with hy | hy
          · exact Tp.keep (fun a ys zz => kT_all sX hAc hBc nAB hT4 zz) _ _ (hrT y hy)
          · rw [List.mem_singleton.mp hy]
            exact Tp.keep (fun a ys zz => kT_all sY hAc hBc nAB hT4 zz) _ _ Tv
  case hd =>
    rintro σ H' ⟨sm, xs, ss, l, fb, v5, v6, v7, v8, v9, rfl, hA', hB', hcase⟩
    rcases hcase with ⟨z, _⟩ | ⟨p, r, pr, rv, erl', hp, hr', hcm, hfb, el, hpr, hrv, exs, ess, hpT, hrT⟩
    · exact absurd z (Nat.ne_of_gt hN0)
    have hrl : r.length ≤ 7 := by
      have := hN
      rw [← erl'] at this
      omega
    have erl : rv.length = r.length := by
      have := congrArg List.length hrv
      rwa [List.length_map, List.length_map] at this
    have hll : l.length ≤ 300 := by
      rw [el, List.length_append]
      have h1 := hp.len
      have h2 := rend_len r hr'
      omega
    obtain ⟨ts, w1, w2, w3, w4⟩ := whole hp hr' hcm hrl
    have q1 : PySem.Str.ofString "  let v = " = tx [32, 32, 108, 101, 116, 32, 118, 32, 61, 32] := TL.ext_tl (by decide +kernel)
    have q2 : PySem.Str.ofString ";" = tx [59] := TL.ext_tl (by decide +kernel)
    have q3 : cd "let" = [108, 101, 116] := by decide +kernel
    have e5 : PySem.Str.ofString "  let v = " ++ tx l ++ PySem.Str.ofString ";" = tx (text5 p r) := by
      rw [q1, q2, tx_app, tx_app, el]
      unfold text5
      rw [q3]
      exact congrArg tx (by simp)
    have l5 : (tx (text5 p r)).length ≤ 20000 := by
      rw [← e5, q1, q2, tx_app, tx_app, tx_len]
      simp
      omega
    refine ⟨_, rfl, _, _, rfl, rfl, ?z1, _, _, rfl, rfl, ?z2, tx (text5 p r), PySem.Str.ofString "m", ts, [item5 p r], congrArg (fun z => [V.str z, V.str (PySem.Str.ofString "m")]) e5, l5, by decide +kernel, w1, w2, w3, ⟨1, w4⟩, (by show 1 ≤ 20000; decide), fun H2 Li xi s2 nL hLi hTi => ?_⟩
    case z1 =>
      rw [q1, tx_len, tx_len]
      exact line20 (by simp; omega)
    case z2 =>
      rw [q1, q2, tx_app, tx_len, tx_len]
      exact line20 (by simp; omega)
    refine ⟨_, rfl, _, rfl, A0, B0, pr, rv, rfl, ?a1, ?a2, hpT.same s2, fun y hy => (hrT y hy).same s2, by omega, fun H3 v3 s3 T3 => ?_⟩
    case a1 =>
      rw [← exs]
      exact SqL.of (s2 _ _ hA')
    case a2 =>
      rw [← ess]
      exact SqL.of (s2 _ _ hB')
    have et : tr id Prod.snd 5 pr rv = tree5 p r := by
      rw [tr_map]
      show tr id id 5 pr.2 (rv.map fun x => (x.1, x.2.2)) = tr id id 5 p.d (r.map fun x => (x.1.sg, x.2.d))
      rw [hpr, hrv]
    rw [et] at T3
    refine ⟨(by show 4 ≤ sizeLine; decide), fun tp htp => ⟨(by show 1 ≤ sizeLine; decide), fun dp hdp => ?_⟩⟩
    have Tv : ∀ Hx, Tp K Hx (.str (PySem.Str.ofString "v")) (dw [118]) := fun Hx => by
      rw [show ([118] : List Nat) = cd "v" by decide]
      exact Tp.s "v"
    have T4 : Tp K _ (.ref tp) (item5 p r) := Tp.mk (.cons (Tp.s "let") (.cons (Tv _) (.cons T3 (.cons (.int 2) .nil)))) htp
    have s4 := same_new' (o := .tup [V.str (PySem.Str.ofString "let"), V.str (PySem.Str.ofString "v"), v3, V.int 2]) htp
    have s5 := same_new' (o := .lst [.ref tp]) hdp
    have sL := s3.trans (s4.trans s5)
    obtain ⟨d1, d2, d3, d4⟩ := list5 hp hr' hcm hrl
    have hLi5 := sL _ _ hLi
    have dI := TpAll.dp _ _ (TpAll.keep (fun a xs z => sL.sqt z) _ _ hTi)
    have dD := TpAll.dp _ _ (TpAll.cons (T4.same s5) .nil)
    refine ⟨_, rfl, _, _, _, _, true, rfl, .ty "list", .base (.lst hLi5), kit_ty (by decide +kernel), _, rfl, ifT rfl ?_⟩
    refine ⟨_, rfl, Li, _, rfl, .lst (SqL.of hLi5) dI, d1, d2, d3, d4, _, rfl, dp, _, rfl, .lst (SqL.of upd_same) dD, d1, d2, d3, d4, rfl, ?_⟩
    have ef : decide (V.str (PyData.list [item5 p r]).shown = V.str (PyData.list [item5 p r]).shown) = true := decide_eq_true rfl
    show Q (V.bl (decide (V.str (PyData.list [item5 p r]).shown = V.str (PyData.list [item5 p r]).shown))) _
    rw [ef]
    exact q _
end
end Tk

set_option Elab.async false
set_option linter.all false
set_option maxHeartbeats 4000000
set_option maxRecDepth 100000
namespace Tk
open PySem L2 Lx
section
variable {P : Program} {w : World} {K : PySem.W.Frag} {mg mb : Str → Option Value}
/-- the law's call where no repr runs around: its body, entered from the caller -/
theorem law_at {base : Heap} {f fCell fOper fParse fTree : Addr} {fd dCell dOper dParse dTree : FuncData} (F : Fun K "law" "law" (top 76) f fd) (T : Txt K mg) (L : LTxt mg)
    (D : Defs P w K mg base fCell fOper fParse fTree dCell dOper dParse dTree) (hb : ∀ (s : Shared) (u : Value), BindsTo s fd ⟨[u], []⟩ [("script", u)]) {s : Shared} {H : Hp} {a : Addr} (e0 : Env0 P w K mg base callerA [] s H)
    (h : spLaw K [.ref a] H (fun v _ => v = .bl true) E0) : codeAny (model P w) callerA (.call (.ref f) ⟨[.ref a], []⟩) (CR CX0 [] P w H s (fun v _ => v = .bl true) E0) s := by
  obtain ⟨oc, od, kV, doc, pm, an, cdv, ct, osl, rfl, lk, hcd⟩ := F.ex
  have hr : Room 34 callerA := ⟨rfl, by decide, by decide⟩
  have KX : K.In s.heap := (e0.mod.kin).keeps (fun b o e => (e0.bs b o e).1)
  have NL : s.heap.NoLimit := (e0.mod.nolimit).keeps (fun b o e => (e0.bs b o e).1)
  refine codeAny_call_function (hr.depth) (KX _ _ lk) rfl (scLaw.co) (scLaw.gen) rfl (PySem.W.codeRec_of KX hcd) ((hb s (.ref a)) _ _ _ _ ?_)
  refine wpAny_newFunctionEnv_cells (scLaw.kind) (fun y hy => ?_) (fun env he s1 x => ?_)
  · obtain rfl : y = (("script" : Str), Value.ref a) := List.mem_singleton.mp hy
    exact .inl (show List.lookup ("script" : Str) (defScope (top 76)).names = some NameKind.local by decide +kernel)
  subst he
  obtain ⟨t, ht, hq⟩ := law_body (cdv := cdv) (A := callerA) (outer := []) (s := s) T L D rfl (hr.deeper _) h
  have I0 := inv_start (CX := CX0) (E := E0) scLaw rfl e0 (us := [.ref a]) (vs := [.ref a]) rfl (.cons rfl .nil) x
  refine ⟨NL.keeps (x.toInCall.keep), codeAny_func (wpAny_mono (ht.nox.run [] s1 _ H _ I0 hq) (fun fl s' hs => ?_) (fun e s' hs => hs))⟩
  cases fl with
  | ret u =>
    obtain ⟨v, σ', H', J, rv, q⟩ := hs
    exact ⟨v, H', J.os, J.bare, J.base, J.hok, rv, q⟩
  | next =>
    obtain ⟨σ', H', J, q⟩ := hs
    exact ⟨V.non, H', J.os, J.bare, J.base, J.hok, (show Value.none = Value.none from rfl), q⟩
  | brk => exact False.elim (by obtain ⟨_, _, _, q⟩ := hs; exact q)
  | cont => exact False.elim (by obtain ⟨_, _, _, q⟩ := hs; exact q)
/-- the script, known to its object -/
def scriptO (vs : List Value) : Obj := { cls := .type "list", data := .seq vs.toArray }
open PySem.Spec PyProof.Rows in
/-- from the heap behind the top: nothing is tracked but the script, where it is none of the module's own objects -/
theorem law_top {fa a : Addr} {s₁ : Shared} {vs : List Value} {ns : List Int} (KX : K.In s₁.heap) (hG : s₁.heap.Ns mainGlobals mg) (hB : s₁.heap.Ns builtinsNs mb) (hbb : ∀ x : Str, x ≠ "__name__" → mb x = bootBuiltins x) (hL : s₁.heap.NoLimit) (hg : s₁.gens = #[])
    (ha : s₁.heap.get? a = some (scriptO vs)) (hi : IntsAre vs ns) (hl : ns.length ≤ 63)
    (F : ∀ base : Heap, K.In base → base.Ns mainGlobals mg → ∀ H : Hp, Env0 P w K mg base callerA [] s₁ H → SqL K H a (ns.map V.int) → codeAny (model P w) callerA (.call (.ref fa) ⟨[.ref a], []⟩) (CR CX0 [] P w H s₁ (fun v _ => v = .bl true) E0) s₁) :
    codeAny (model P w) callerA (.call (.ref fa) ⟨[.ref a], []⟩) (fun r s' => r = .ok (.ret (.bool true)) ∧ OldK s₁.heap s'.heap ∧ s'.os = s₁.os ∧ AllBare s'.gens) s₁ := by
  have rv : Vals (ns.map V.int) vs := vals_ints hi
  have lv : vs.length = ns.length := hi.length
  let H0 : Hp := fun b => if b = a ∧ K.lookup a = none then some (.frz (scriptO vs) (.lst (ns.map V.int))) else none
  have hH : ∀ b u, H0 b = some u → b = a ∧ K.lookup a = none ∧ u = .frz (scriptO vs) (.lst (ns.map V.int)) := fun b u e => by
    by_cases c : b = a ∧ K.lookup a = none
    · have e' : some (HO.frz (scriptO vs) (.lst (ns.map V.int))) = some u := (if_pos c).symm.trans e
      exact ⟨c.1, c.2, (Option.some.inj e').symm⟩
    · have e' : (none : Option HO) = some u := (if_neg c).symm.trans e
      cases e'
  have hno : ∀ b, (b = a → K.lookup a = none → False) → H0 b = none := fun b h => if_neg fun z => h z.1 z.2
  have hS : SqL K H0 a (ns.map V.int) := by
    cases hk : K.lookup a with
    | some o =>
      have e := KX a o hk
      rw [ha] at e
      cases e
      exact .inr ⟨_, vs.toArray, _, hk, rfl, rfl, rfl, Nat.le_trans (show vs.toArray.size ≤ 63 by rw [List.size_toArray]; omega) (by decide), rv⟩
    | none => exact .inl (.inr ⟨scriptO vs, if_pos ⟨rfl, hk⟩⟩)
  have hok : HOk P w H0 s₁.heap := fun b u e => by
    obtain ⟨e1, _, e2⟩ := hH b u e
    rw [e1, e2]
    exact ⟨ha, Nat.le_trans (show (ns.map V.int).length ≤ 63 by rw [List.length_map]; exact hl) (by decide), vs, _, rv, ha⟩
  have nsB : ∀ {b : Addr} {m : Str → Option Value}, s₁.heap.Ns b m → (hidT s₁.heap H0).Ns b m := fun {b m} ⟨o, es, ep, e, dd, r⟩ => by
    refine ⟨o, es, ep, hidT_get e (hno b fun z _ => ?_), dd, r⟩
    rw [z, ha] at e
    have e' := Option.some.inj e
    rw [← e'] at dd
    cases dd
  have KB : K.In (hidT s₁.heap H0) := fun b o e => hidT_get (KX b o e) (hno b fun z hn => by
    rw [z, hn] at e
    cases e)
  have LB : (hidT s₁.heap H0).NoLimit := by
    obtain ⟨mc, h1, h2⟩ := hL
    exact ⟨mc, nsB h1, h2⟩
  have e0 : Env0 P w K mg (hidT s₁.heap H0) callerA [] s₁ H0 :=
    ⟨rfl, ⟨KB, nsB hG, ⟨mb, nsB hB, hbb⟩, LB⟩, fun b o e => of_hidT e, Nat.le_of_eq (hidT_size _ _), trivial, fun b hm => (by cases hm), hok, .of_eq hg⟩
  refine codeAny_mono (F _ KB (nsB hG) H0 e0 hS) fun r s' h => ?_
  cases r with
  | error e => exact False.elim h
  | ok fl =>
    cases fl with
    | next => exact False.elim h
    | brk => exact False.elim h
    | cont => exact False.elim h
    | ret u =>
      obtain ⟨v, H', os, bare, un, hok', r', q⟩ := h
      have q' : v = .bl true := q
      subst q'
      obtain rfl : u = Value.bool true := r'
      refine ⟨rfl, OldK.of_keep (fun b o e => ?_), os, bare⟩
      cases c : H0 b with
      | none => exact un.keep b o e c (fun z => by cases z) (fun z => by cases z)
      | some u =>
        obtain ⟨e1, _, e2⟩ := hH b u c
        rw [e2] at c
        obtain ⟨g1, _⟩ := hok' b _ (un.frzs b _ _ c)
        rw [e1, ha] at e
        rw [e1] at g1 ⊢
        rw [← Option.some.inj e]
        exact g1
end
/-- the goal that the head leaves -/
theorem law_walk {l : PySem.W.OpenLaw} {q : Program} {loose : List Str} {XP : (Str → Option Value) → Heap → Prop} {YP : World → Heap → Prop} {d : DefRec} {K : Params → PySem.W.Frag} (hn : l.most = some 63) (hdf : d.params.defaults = []) (hY : ∀ (w : World) (h : Heap), YP w h → (K w.params).In h)
    (F : ∀ (w : World) (mg : Str → Option Value) (fa : Addr) (h : Heap), (K w.params).In h → h.Ns mainGlobals mg → mg d.name = some (.ref fa) → ∀ base : Heap, (K w.params).In base → base.Ns mainGlobals mg → ∀ (s : Shared) (H : Hp) (a : Addr), Env0 l.prog w (K w.params) mg base callerA [] s H →
      spLaw (K w.params) [.ref a] H (fun v _ => v = .bl true) E0 → codeAny (model l.prog w) callerA (.call (.ref fa) ⟨[.ref a], []⟩) (CR CX0 [] l.prog w H s (fun v _ => v = .bl true) E0) s) :
    PySem.W.WalkO q loose XP YP l.row.toRowW d [] (fun f vs => PySem.call f vs) := by
  refine Att.attach_call hn hdf (fun w s₀ s₁ mg mb fa o pm cd doc a vs ns G Y ho hd hcd hmg hobj hints hlen hg => ?_)
  have KX := hY w _ Y
  exact law_top KX G.T.g G.T.b G.T.builtins G.T.nolimit hg hobj hints hlen fun base KB NB H e0 hS => F w mg fa _ KX G.T.g hmg base KB NB s₁ H a e0 ⟨a, ns, rfl, hS, hlen, fun _ => rfl⟩
/-! ### what the top has left -/
theorem relV_str {u : Value} {x : Str} (h : absV u = some (.str x)) : RelV (.str x) u := by
  cases u <;> first | (cases h; exact ⟨_, rfl⟩) | cases h
theorem vals_strs' : ∀ {l : List (List Nat)} {us : List Value}, us.map absV = l.map (fun w => some (V.str (tx w))) → Vals (l.map fun w => V.str (tx w)) us
  | [], [], _ => .nil
  | [], _ :: _, h => by cases h
  | _ :: _, [], h => by cases h
  | a :: l, u :: us, h => by
    rw [List.map_cons, List.map_cons] at h
    exact .cons (relV_str (List.cons.inj h).1) (vals_strs' (List.cons.inj h).2)
theorem tup_of {K : PySem.W.Frag} {a : Addr} {dd : Option Addr} {its : Array Value} {n : Nat} {sl : Array (Option Value)} {l : List (List Nat)} (h : K.lookup a = some ⟨.type "tuple", dd, .seq its n, sl⟩) (hv : its.toList.map absV = l.map (fun w => some (V.str (tx w)))) (hs : its.size ≤ sizeLine) (H : Hp) :
    SqT K H a (l.map fun w => V.str (tx w)) := .inr ⟨_, its, n, h, rfl, rfl, hs, vals_strs' hv⟩
/-- a def of the top -/
structure DefAt (K : PySem.W.Frag) (name : Str) (st : Stmt) (f : Addr) : Prop where
  a : PySem.W.nsIn K mainGlobals name = some (some (.ref f))
  l : ∃ (oc : Value) (od : Option Addr) (kV doc pm : Value) (an : Option Addr) (cdv ct : Value) (osl : Array (Option Value)), K.lookup f = some ⟨oc, od, .func (PySem.W.fnOf name name (defArgs st) (defBody st) (defScope st) .none kV doc pm an cdv ct), osl⟩ ∧ PySem.W.codeIn K cdv name = true
  k : PySem.W.keepIn K (.ref f) = true
theorem DefAt.fn {K : PySem.W.Frag} {name : Str} {st : Stmt} {f : Addr} (D : DefAt K name st f) : ∃ fd, Fun K name name st f fd := by
  obtain ⟨oc, od, kV, doc, pm, an, cdv, ct, osl, h1, h2⟩ := D.l
  exact ⟨_, fun_mk h1 h2 D.k⟩
/-- a method of the cursor's class -/
structure MethAt (K : PySem.W.Frag) (CC : Addr) (name qual : Str) (st : Stmt) (f : Addr) : Prop where
  a : PySem.W.findIn K (.ref CC) name = some (some (.ref f))
  i : PySem.W.isFn K (.ref f) = true
  l : ∃ (oc : Value) (od : Option Addr) (kV doc pm : Value) (an : Option Addr) (cdv ct : Value) (osl : Array (Option Value)), K.lookup f = some ⟨oc, od, .func (PySem.W.fnOf name qual (defArgs st) (defBody st) (defScope st) .none kV doc pm an cdv ct), osl⟩ ∧ PySem.W.codeIn K cdv qual = true
  k : PySem.W.keepIn K (.ref f) = true
theorem MethAt.fn {K : PySem.W.Frag} {CC : Addr} {name qual : Str} {st : Stmt} {f : Addr} (D : MethAt K CC name qual st f) : ∃ fd, Fun K name qual st f fd := by
  obtain ⟨oc, od, kV, doc, pm, an, cdv, ct, osl, h1, h2⟩ := D.l
  exact ⟨_, fun_mk h1 h2 D.k⟩
theorem MethAt.m {K : PySem.W.Frag} {CC : Addr} {name qual : Str} {st : Stmt} {f : Addr} (D : MethAt K CC name qual st f) : Meth K CC name f := ⟨D.a, D.i, D.k⟩
structure AllDefs (K : PySem.W.Frag) (CC f13 f14 f15 f16 f17 f18 f19 f20 f21 f22 f25 f28 f27 f29 f30 f37 f38 f39 f46 f47 f57 f58 f59 f60 f61 f62 f63 f64 f65 f66 f67 f69 f70 f71 f72 f73 f74 m0 m1 m3 m4 m5 : Addr) : Prop where
  d13 : DefAt K "tokens" (top 13) f13
  d14 : DefAt K "name_fits" (top 14) f14
  d15 : DefAt K "gap_end" (top 15) f15
  d16 : DefAt K "comment_end" (top 16) f16
  d17 : DefAt K "word_end" (top 17) f17
  d18 : DefAt K "token_at" (top 18) f18
  d19 : DefAt K "word_at" (top 19) f19
  d20 : DefAt K "number_at" (top 20) f20
  d21 : DefAt K "string_at" (top 21) f21
  d22 : DefAt K "sign_at" (top 22) f22
  d25 : DefAt K "token_key" (top 25) f25
  d28 : DefAt K "expressions_of" (top 29) f28
  d27 : DefAt K "blocks_of" (top 30) f27
  d29 : DefAt K "deeper_than" (top 32) f29
  d30 : DefAt K "parts" (top 31) f30
  d37 : DefAt K "parse" (top 39) f37
  d38 : DefAt K "deeper" (top 40) f38
  d39 : DefAt K "read_item" (top 41) f39
  d46 : DefAt K "read_statement" (top 48) f46
  d47 : DefAt K "read_let" (top 49) f47
  d57 : DefAt K "read_ended_expression" (top 59) f57
  d58 : DefAt K "read_expression" (top 60) f58
  d59 : DefAt K "read_both" (top 61) f59
  d60 : DefAt K "read_plain" (top 62) f60
  d61 : DefAt K "read_sum" (top 63) f61
  d62 : DefAt K "read_product" (top 64) f62
  d63 : DefAt K "read_called" (top 65) f63
  d64 : DefAt K "read_arguments" (top 66) f64
  d65 : DefAt K "read_primary" (top 67) f65
  d66 : DefAt K "read_variable" (top 68) f66
  d67 : DefAt K "read_enclosed" (top 69) f67
  d69 : DefAt K "_law_cell" (top 71) f69
  d70 : DefAt K "_law_operand" (top 72) f70
  d71 : DefAt K "_law_chain" (top 73) f71
  d72 : DefAt K "_law_split" (top 74) f72
  d73 : DefAt K "_law_tree" (top 75) f73
  d74 : DefAt K "law" (top 76) f74
  e0 : MethAt K CC "__init__" "Cursor.__init__" (cMeth 0) m0
  e1 : MethAt K CC "key" "Cursor.key" (cMeth 1) m1
  e3 : MethAt K CC "place" "Cursor.place" (cMeth 3) m3
  e4 : MethAt K CC "expect" "Cursor.expect" (cMeth 4) m4
  e5 : MethAt K CC "takes" "Cursor.takes" (cMeth 5) m5
/-- what the parser's constants are -/
structure PTxt (K : PySem.W.Frag) (w : World) (mg : Str → Option Value) : Prop where
  one : ∃ a, mg "WITH_ONE_EXPRESSION" = some (.ref a) ∧ ∀ H, SqT K H a (ONE.map fun w => V.str (tx w))
  two : ∃ a, mg "WITH_TWO_EXPRESSIONS" = some (.ref a) ∧ ∀ H, SqT K H a (TWO.map fun w => V.str (tx w))
  deepest : ∃ t, mg "DEEPEST" = some (.int 12 t)
  level : ∃ t, mg "GREATEST_LEVEL" = some (.int 40 t)
  con : ∃ a v1 v2 v3, mg "CONSTANTS" = some (.ref a) ∧ KD K w a [(cd "true", v1), (cd "false", v2), (cd "none", v3)] ∧ ∀ H, Tp K H v1 (.tuple [ds "bool", .bool true]) ∧ Tp K H v2 (.tuple [ds "bool", .bool false]) ∧ Tp K H v3 (.tuple [ds "none"])
  cmp : ∃ a, mg "COMPARISONS" = some (.ref a) ∧ KD K w a [(cd "<", .str (tx (cd "lt"))), (cd "==", .str (tx (cd "eq")))]
  sums : ∃ a, mg "SUMS" = some (.ref a) ∧ KD K w a [(cd "+", .str (tx (cd "add"))), (cd "-", .str (tx (cd "sub")))]
  tuple : mg "tuple" = none
structure CurTxt (K : PySem.W.Frag) (mg : Str → Option Value) (CC : Addr) : Prop where
  U : CurC K CC
  mks : PySem.W.makesIn K CC = true
  kc : PySem.W.keepIn K (.ref CC) = true
  mgC : mg "Cursor" = some (.ref CC)
section
variable {P : Program} {w : World} {K : PySem.W.Frag} {mg : Str → Option Value} {base : Heap} {CC : Addr}
theorem OkF.up {nm : Str} {ps : List Str} {j k : Nat} {sp : Sp} (h : OkF P w K mg base nm ps j sp) (hk : j ≤ k) : OkF P w K mg base nm ps k sp := by
  obtain ⟨f, fd, g, a, b, c⟩ := h
  exact ⟨f, fd, g.mono hk, a, b, c⟩
/-- the readers of expressions, by what is read within -/
theorem ok_readers (D : Kit P w K mg base CC) {f58 f59 f60 f61 f62 f63 f64 f65 f66 f67 : Addr} {d58 d59 d60 d61 d62 d63 d64 d65 d66 d67 : FuncData}
    (F58 : Fun K "read_expression" "read_expression" (top 60) f58 d58) (b58 : Binds K d58 ["cursor", "level"] [])
    (F59 : Fun K "read_both" "read_both" (top 61) f59 d59) (b59 : Binds K d59 ["cursor", "level"] [])
    (F60 : Fun K "read_plain" "read_plain" (top 62) f60 d60) (b60 : Binds K d60 ["cursor", "level"] [])
    (F61 : Fun K "read_sum" "read_sum" (top 63) f61 d61) (b61 : Binds K d61 ["cursor", "level"] [])
    (F62 : Fun K "read_product" "read_product" (top 64) f62 d62) (b62 : Binds K d62 ["cursor", "level"] [])
    (F63 : Fun K "read_called" "read_called" (top 65) f63 d63) (b63 : Binds K d63 ["cursor", "level"] [])
    (F64 : Fun K "read_arguments" "read_arguments" (top 66) f64 d64) (b64 : Binds K d64 ["cursor", "level"] [])
    (F65 : Fun K "read_primary" "read_primary" (top 67) f65 d65) (b65 : Binds K d65 ["cursor", "level"] [])
    (F66 : Fun K "read_variable" "read_variable" (top 68) f66 d66) (b66 : Binds K d66 ["cursor"] [])
    (F67 : Fun K "read_enclosed" "read_enclosed" (top 69) f67 d67) (b67 : Binds K d67 ["cursor", "level"] [])
    (m : mg "read_expression" = some (.ref f58) ∧ mg "read_both" = some (.ref f59) ∧ mg "read_plain" = some (.ref f60) ∧ mg "read_sum" = some (.ref f61) ∧ mg "read_product" = some (.ref f62) ∧ mg "read_called" = some (.ref f63) ∧ mg "read_arguments" = some (.ref f64) ∧ mg "read_primary" = some (.ref f65) ∧ mg "read_variable" = some (.ref f66) ∧ mg "read_enclosed" = some (.ref f67)) : ∀ n : Nat, OkF P w K mg base "read_expression" ["cursor", "level"] (8 * n + 4) (spR K CC (RE n)) ∧ OkF P w K mg base "read_plain" ["cursor", "level"] (8 * n + 4) (spR K CC (RP n))
  | 0 => by
    obtain ⟨m58, m59, m60, m61, m62, m63, m64, m65, m66, m67⟩ := m
    have e1 : RE 0 = RNo := by rw [RE]
    have e2 : RP 0 = RNo := by rw [RP]
    rw [e1, e2]
    refine ⟨⟨f58, d58, F58.ok (k := 3) scexpr (fun vs H Q E h => ?_) (fun cdv A outer s H vs Q E hr h => ?_), F58.kp, b58, m58⟩, ⟨f60, d60, F60.ok (k := 3) scPlain (fun vs H Q E h => ?_) (fun cdv A outer s H vs Q E hr h => ?_), F60.kp, b60, m60⟩⟩
    · obtain ⟨c, m, ts, e, n, l, lv, t, l', rfl, _⟩ := h
      rfl
    · obtain ⟨c, m, ts, e, n, l, lv, t, l', rfl, _, h, _⟩ := h
      exact h.elim
    · obtain ⟨c, m, ts, e, n, l, lv, t, l', rfl, _⟩ := h
      rfl
    · obtain ⟨c, m, ts, e, n, l, lv, t, l', rfl, _, h, _⟩ := h
      exact h.elim
  | n + 1 => by
    obtain ⟨IE, IP⟩ := ok_readers D F58 b58 F59 b59 F60 b60 F61 b61 F62 b62 F63 b63 F64 b64 F65 b65 F66 b66 F67 b67 m n
    obtain ⟨m58, m59, m60, m61, m62, m63, m64, m65, m66, m67⟩ := m
    have G67 : OkF P w K mg base "read_enclosed" ["cursor", "level"] (8 * n + 4 + 1) (spR K CC (REnc (RE n))) := ⟨_, _, ok_enc F67 D (by omega) IE, F67.kp, b67, m67⟩
    have G66 : OkF P w K mg base "read_variable" ["cursor"] 4 (spV K CC) := ⟨_, _, ok_var F66 D, F66.kp, b66, m66⟩
    have G65 : OkF P w K mg base "read_primary" ["cursor", "level"] (8 * n + 4 + 1 + 1) (spR K CC (RPrim (RE n))) := ⟨_, _, ok_prim F65 D (by omega) G67 G66, F65.kp, b65, m65⟩
    have G64 : OkF P w K mg base "read_arguments" ["cursor", "level"] (8 * n + 4 + 1) (spR K CC (RArgs (RE n))) := ⟨_, _, ok_arg F64 D (by omega) IE, F64.kp, b64, m64⟩
    have G63 : OkF P w K mg base "read_called" ["cursor", "level"] (8 * n + 4 + 1 + 1 + 1) (spR K CC (RCalled (RE n))) := ⟨_, _, ok_called F63 D (by omega) G65 (G64.up (by omega)), F63.kp, b63, m63⟩
    have G62 : OkF P w K mg base "read_product" ["cursor", "level"] (8 * n + 4 + 1 + 1 + 1 + 1) (spR K CC (RProd (RE n))) := ⟨_, _, ok_prod F62 D (by omega) G63 G63, F62.kp, b62, m62⟩
    have G61 : OkF P w K mg base "read_sum" ["cursor", "level"] (8 * n + 4 + 1 + 1 + 1 + 1 + 1) (spR K CC (RSum (RE n))) := ⟨_, _, ok_sum (R2 := RNo) F61 D (by omega) G62, F61.kp, b61, m61⟩
    have G60 : OkF P w K mg base "read_plain" ["cursor", "level"] (8 * n + 4 + 1 + 1 + 1 + 1 + 1 + 1) (spR K CC (RPlain (RE n) (RP n))) := ⟨_, _, ok_plain F60 D (by omega) G61 (IP.up (by omega)), F60.kp, b60, m60⟩
    have G59 : OkF P w K mg base "read_both" ["cursor", "level"] (8 * n + 4 + 1 + 1 + 1 + 1 + 1 + 1 + 1) (spR K CC (RBoth (RE n) (RP n))) := ⟨_, _, ok_both F59 D (by omega) G60 G60, F59.kp, b59, m59⟩
    have G58 : OkF P w K mg base "read_expression" ["cursor", "level"] (8 * n + 4 + 1 + 1 + 1 + 1 + 1 + 1 + 1 + 1) (spR K CC (RExpr (RE n) (RP n))) := ⟨_, _, ok_expr F58 D (by omega) G59 G59, F58.kp, b58, m58⟩
    have e1 : RE (n + 1) = RExpr (RE n) (RP n) := by rw [RE]
    have e2 : RP (n + 1) = RPlain (RE n) (RP n) := by rw [RP]
    rw [e1, e2]
    exact ⟨G58.up (by omega), G60.up (by omega)⟩
end
theorem all_run {P : Program} {w : World} {K : PySem.W.Frag} {h : Heap} {mg : Str → Option Value} {fa C fI cc cda CC f13 f14 f15 f16 f17 f18 f19 f20 f21 f22 f25 f28 f27 f29 f30 f37 f38 f39 f46 f47 f57 f58 f59 f60 f61 f62 f63 f64 f65 f66 f67 f69 f70 f71 f72 f73 f74 m0 m1 m3 m4 m5 : Addr} (X : K.In h) (G : h.Ns mainGlobals mg) (hfa : mg "law" = some (.ref fa))
    (A : AllDefs K CC f13 f14 f15 f16 f17 f18 f19 f20 f21 f22 f25 f28 f27 f29 f30 f37 f38 f39 f46 f47 f57 f58 f59 f60 f61 f62 f63 f64 f65 f66 f67 f69 f70 f71 f72 f73 f74 m0 m1 m3 m4 m5) (T : Txt K mg) (L : LTxt mg) (PT : PTxt K w mg) (CU : CurTxt K mg CC) (M : MalTxt P K mg C fI cc cda) :
    ∀ base : Heap, K.In base → base.Ns mainGlobals mg → ∀ (s : Shared) (H : Hp) (a : Addr), Env0 P w K mg base callerA [] s H → spLaw K [.ref a] H (fun v _ => v = .bl true) E0 →
      codeAny (model P w) callerA (.call (.ref fa) ⟨[.ref a], []⟩) (CR CX0 [] P w H s (fun v _ => v = .bl true) E0) s := by
  intro base KB NB s H a e0 hsp
  have e := hfa.symm.trans (PySem.W.mg_of X G A.d74.a)
  cases e
  obtain ⟨_, F13⟩ := A.d13.fn
  obtain ⟨_, F14⟩ := A.d14.fn
  obtain ⟨_, F15⟩ := A.d15.fn
  obtain ⟨_, F16⟩ := A.d16.fn
  obtain ⟨_, F17⟩ := A.d17.fn
  obtain ⟨_, F18⟩ := A.d18.fn
  obtain ⟨_, F19⟩ := A.d19.fn
  obtain ⟨_, F20⟩ := A.d20.fn
  obtain ⟨_, F21⟩ := A.d21.fn
  obtain ⟨_, F22⟩ := A.d22.fn
  obtain ⟨_, F25⟩ := A.d25.fn
  obtain ⟨_, F28⟩ := A.d28.fn
  obtain ⟨_, F27⟩ := A.d27.fn
  obtain ⟨_, F29⟩ := A.d29.fn
  obtain ⟨_, F30⟩ := A.d30.fn
  obtain ⟨_, F37⟩ := A.d37.fn
  obtain ⟨_, F38⟩ := A.d38.fn
  obtain ⟨_, F39⟩ := A.d39.fn
  obtain ⟨_, F46⟩ := A.d46.fn
  obtain ⟨_, F47⟩ := A.d47.fn
  obtain ⟨_, F57⟩ := A.d57.fn
  obtain ⟨_, F58⟩ := A.d58.fn
  obtain ⟨_, F59⟩ := A.d59.fn
  obtain ⟨_, F60⟩ := A.d60.fn
  obtain ⟨_, F61⟩ := A.d61.fn
  obtain ⟨_, F62⟩ := A.d62.fn
  obtain ⟨_, F63⟩ := A.d63.fn
  obtain ⟨_, F64⟩ := A.d64.fn
  obtain ⟨_, F65⟩ := A.d65.fn
  obtain ⟨_, F66⟩ := A.d66.fn
  obtain ⟨_, F67⟩ := A.d67.fn
  obtain ⟨_, F69⟩ := A.d69.fn
  obtain ⟨_, F70⟩ := A.d70.fn
  obtain ⟨_, F71⟩ := A.d71.fn
  obtain ⟨_, F72⟩ := A.d72.fn
  obtain ⟨_, F73⟩ := A.d73.fn
  obtain ⟨_, F74⟩ := A.d74.fn
  obtain ⟨_, E0'⟩ := A.e0.fn
  obtain ⟨_, E1⟩ := A.e1.fn
  obtain ⟨_, E3⟩ := A.e3.fn
  obtain ⟨_, E4⟩ := A.e4.fn
  obtain ⟨_, E5⟩ := A.e5.fn
  have b13 := F13.binds (ps := ["text", "module"]) fun _ _ _ _ _ _ us hl => match us, hl with | [_, _], _ => rfl
  have b14 := F14.binds (ps := ["word"]) fun _ _ _ _ _ _ us hl => match us, hl with | [_], _ => rfl
  have b15 := F15.binds (ps := ["text", "at"]) fun _ _ _ _ _ _ us hl => match us, hl with | [_, _], _ => rfl
  have b16 := F16.binds (ps := ["text", "at"]) fun _ _ _ _ _ _ us hl => match us, hl with | [_, _], _ => rfl
  have b17 := F17.binds (ps := ["text", "at"]) fun _ _ _ _ _ _ us hl => match us, hl with | [_, _], _ => rfl
  have b18 := F18.binds (ps := ["text", "at"]) fun _ _ _ _ _ _ us hl => match us, hl with | [_, _], _ => rfl
  have b19 := F19.binds (ps := ["text", "at"]) fun _ _ _ _ _ _ us hl => match us, hl with | [_, _], _ => rfl
  have b20 := F20.binds (ps := ["text", "at"]) fun _ _ _ _ _ _ us hl => match us, hl with | [_, _], _ => rfl
  have b21 := F21.binds (ps := ["text", "at"]) fun _ _ _ _ _ _ us hl => match us, hl with | [_, _], _ => rfl
  have b22 := F22.binds (ps := ["text", "at"]) fun _ _ _ _ _ _ us hl => match us, hl with | [_, _], _ => rfl
  have b25 := F25.binds (ps := ["token"]) fun _ _ _ _ _ _ us hl => match us, hl with | [_], _ => rfl
  have b28 := F28.binds (ps := ["tree"]) fun _ _ _ _ _ _ us hl => match us, hl with | [_], _ => rfl
  have b27 := F27.binds (ps := ["tree"]) fun _ _ _ _ _ _ us hl => match us, hl with | [_], _ => rfl
  have b29 := F29.binds (ps := ["tree", "levels"]) fun _ _ _ _ _ _ us hl => match us, hl with | [_, _], _ => rfl
  have b30 := F30.binds (ps := ["tree"]) fun _ _ _ _ _ _ us hl => match us, hl with | [_], _ => rfl
  have b37 := F37.binds (ps := ["text", "module"]) fun _ _ _ _ _ _ us hl => match us, hl with | [_, _], _ => rfl
  have b38 := F38.binds (ps := ["level"]) fun _ _ _ _ _ _ us hl => match us, hl with | [_], _ => rfl
  have b39 := F39.binds (ps := ["cursor"]) fun _ _ _ _ _ _ us hl => match us, hl with | [_], _ => rfl
  have b46 := F46.binds (ps := ["cursor", "level"]) fun _ _ _ _ _ _ us hl => match us, hl with | [_, _], _ => rfl
  have b47 := F47.binds (ps := ["cursor", "level"]) fun _ _ _ _ _ _ us hl => match us, hl with | [_, _], _ => rfl
  have b57 := F57.binds (ps := ["cursor", "level"]) fun _ _ _ _ _ _ us hl => match us, hl with | [_, _], _ => rfl
  have b58 := F58.binds (ps := ["cursor", "level"]) fun _ _ _ _ _ _ us hl => match us, hl with | [_, _], _ => rfl
  have b59 := F59.binds (ps := ["cursor", "level"]) fun _ _ _ _ _ _ us hl => match us, hl with | [_, _], _ => rfl
  have b60 := F60.binds (ps := ["cursor", "level"]) fun _ _ _ _ _ _ us hl => match us, hl with | [_, _], _ => rfl
  have b61 := F61.binds (ps := ["cursor", "level"]) fun _ _ _ _ _ _ us hl => match us, hl with | [_, _], _ => rfl
  have b62 := F62.binds (ps := ["cursor", "level"]) fun _ _ _ _ _ _ us hl => match us, hl with | [_, _], _ => rfl
  have b63 := F63.binds (ps := ["cursor", "level"]) fun _ _ _ _ _ _ us hl => match us, hl with | [_, _], _ => rfl
  have b64 := F64.binds (ps := ["cursor", "level"]) fun _ _ _ _ _ _ us hl => match us, hl with | [_, _], _ => rfl
  have b65 := F65.binds (ps := ["cursor", "level"]) fun _ _ _ _ _ _ us hl => match us, hl with | [_, _], _ => rfl
  have b66 := F66.binds (ps := ["cursor"]) fun _ _ _ _ _ _ us hl => match us, hl with | [_], _ => rfl
  have b67 := F67.binds (ps := ["cursor", "level"]) fun _ _ _ _ _ _ us hl => match us, hl with | [_, _], _ => rfl
  have b69 := F69.binds (ps := ["script", "k"]) fun _ _ _ _ _ _ us hl => match us, hl with | [_, _], _ => rfl
  have b70 := F70.binds (ps := ["cell"]) fun _ _ _ _ _ _ us hl => match us, hl with | [_], _ => rfl
  have b71 := F71.binds (ps := ["parts_v", "signs", "heads"]) fun _ _ _ _ _ _ us hl => match us, hl with | [_, _, _], _ => rfl
  have b72 := F72.binds (ps := ["parts_v", "signs", "wanted"]) fun _ _ _ _ _ _ us hl => match us, hl with | [_, _, _], _ => rfl
  have b73 := F73.binds (ps := ["parts_v", "signs", "level"]) fun _ _ _ _ _ _ us hl => match us, hl with | [_, _, _], _ => rfl
  have b74 := F74.binds (ps := ["script"]) fun _ _ _ _ _ _ us hl => match us, hl with | [_], _ => rfl
  have c0 := E0'.binds (ps := ["self", "text", "module"]) fun _ _ _ _ _ _ us hl => match us, hl with | [_, _, _], _ => rfl
  have c1 := E1.binds (ps := ["self"]) fun _ _ _ _ _ _ us hl => match us, hl with | [_], _ => rfl
  have c3 := E3.binds (ps := ["self"]) fun _ _ _ _ _ _ us hl => match us, hl with | [_], _ => rfl
  have c4 := E4.binds (ps := ["self", "key"]) fun _ _ _ _ _ _ us hl => match us, hl with | [_, _], _ => rfl
  have c5 := E5.binds (ps := ["self", "key"]) fun _ _ _ _ _ _ us hl => match us, hl with | [_, _], _ => rfl
  have mg_ : ∀ {n : Str} {f : Addr} {st : Stmt}, DefAt K n st f → mg n = some (.ref f) := fun D => PySem.W.mg_of X G D.a
  have GT := ok_tokAt (P := P) (w := w) (base := base) F18 T (ok_wordAt F19 T F17 b17 (mg_ A.d17) F14 b14 (mg_ A.d14)) A.d19.k b19 (mg_ A.d19) (ok_numAt F20 T F17 b17 (mg_ A.d17)) A.d20.k b20 (mg_ A.d20)
    (ok_strAt F21 T F17 b17 (mg_ A.d17)) A.d21.k b21 (mg_ A.d21) (ok_signAt F22 T) A.d22.k b22 (mg_ A.d22)
  have GToks := ok_toks F13 T M (ok_gap F15 T F16 b16 (mg_ A.d16)) A.d15.k b15 (mg_ A.d15) GT A.d18.k b18 (mg_ A.d18)
  have GKey := ok_key (P := P) (w := w) (mg := mg) (base := base) E1 CU.U F25 b25 (mg_ A.d25)
  have GInit := ok_init E0' T CU.U GToks A.d13.k b13 (mg_ A.d13)
  obtain ⟨tD, mD⟩ := PT.level
  have D : Kit P w K mg base CC :=
    { U := CU.U, key := ⟨_, _, GKey, A.e1.m, c1⟩, place := ⟨_, _, ok_place E3 CU.U, A.e3.m, c3⟩, expect := ⟨_, _, ok_expect E4 CU.U GKey c1 A.e1.m, A.e4.m, c4⟩, takes := ⟨_, _, ok_takes E5 CU.U GKey c1 A.e1.m, A.e5.m, c5⟩,
      deeper := ⟨_, _, ok_deeper F38 mD, F38.kp, b38, mg_ A.d38⟩, con := PT.con, cmp := PT.cmp, sums := PT.sums, tuple := PT.tuple }
  obtain ⟨GE, _⟩ := ok_readers D F58 b58 F59 b59 F60 b60 F61 b61 F62 b62 F63 b63 F64 b64 F65 b65 F66 b66 F67 b67 ⟨mg_ A.d58, mg_ A.d59, mg_ A.d60, mg_ A.d61, mg_ A.d62, mg_ A.d63, mg_ A.d64, mg_ A.d65, mg_ A.d66, mg_ A.d67⟩ 3
  have G57 : OkF P w K mg base "read_ended_expression" ["cursor", "level"] 29 (spR K CC (REnded (RE 3))) := ⟨_, _, ok_ended F57 D (by decide) GE, F57.kp, b57, mg_ A.d57⟩
  have G47 : OkF P w K mg base "read_let" ["cursor", "level"] 30 (spR K CC (RLet (RE 3))) := ⟨_, _, ok_let F47 D (by decide) G57, F47.kp, b47, mg_ A.d47⟩
  have G46 : OkF P w K mg base "read_statement" ["cursor", "level"] 31 (spR K CC (RStmt (RLet (RE 3)))) := ⟨_, _, ok_stmt F46 D (by decide) G47, F46.kp, b46, mg_ A.d46⟩
  have G39 : OkF P w K mg base "read_item" ["cursor"] 32 (spI K CC (RItem (RStmt (RLet (RE 3))))) := ⟨_, _, ok_item F39 D (by decide) G46, F39.kp, b39, mg_ A.d39⟩
  have G28 : OkF P w K mg base "expressions_of" ["tree"] 1 (spParts K) := ⟨_, _, ok_exprs F28 PT.one PT.two, F28.kp, b28, mg_ A.d28⟩
  have G27 : OkF P w K mg base "blocks_of" ["tree"] 1 (spBlocks K) := ⟨_, _, ok_blocks F27, F27.kp, b27, mg_ A.d27⟩
  have G30 : OkF P w K mg base "parts" ["tree"] 2 (spPartsL K) := ⟨_, _, ok_parts F30 G28 G27 L.list, F30.kp, b30, mg_ A.d30⟩
  have G29 : OkF P w K mg base "deeper_than" ["tree", "levels"] 15 (spDeep K 12) := ⟨_, _, ok_deep F29 F29.kp b29 (mg_ A.d29) G30 12, F29.kp, b29, mg_ A.d29⟩
  have GP := ok_parse F37 D (by decide) ⟨CU.mks, A.e0.a, A.e0.i, CU.kc⟩ GInit c0 CU.mgC G39 G29 PT.deepest
  have G72 : OkF P w K mg base "_law_split" ["parts_v", "signs", "wanted"] 1 (spSplit K) := ⟨_, _, ok_split F72 T L, F72.kp, b72, mg_ A.d72⟩
  have G71 : OkF P w K mg base "_law_chain" ["parts_v", "signs", "heads"] 1 (spChain K) := ⟨_, _, ok_chain F71 T L, F71.kp, b71, mg_ A.d71⟩
  have DD : Defs P w K mg base f69 f70 f37 f73 _ _ _ _ :=
    { gCell := ok_cell F69 T, gOper := ok_operand F70 T L, gParse := GP, gTree := ok_tree F73 F73.kp b73 (mg_ A.d73) G72 G71 5 (Nat.le_refl _),
      mCell := mg_ A.d69, mOper := mg_ A.d70, mParse := mg_ A.d37, mTree := mg_ A.d73, kCell := F69.kp, kOper := F70.kp, kParse := F37.kp, kTree := F73.kp, bCell := b69, bOper := b70, bParse := b37, bTree := b73 }
  refine law_at F74 T L DD (fun s u => ?_) e0 hsp
  obtain ⟨oc, od, kV, doc, pm, an, cdv, ct, osl, rfl, lk, hcd⟩ := F74.ex
  exact .of_eq rfl
end Tk

set_option Elab.async false
set_option linter.all false
set_option maxRecDepth 100000
namespace Tk
open PySem L2 Lx
theorem def_mk {K : PySem.W.Frag} {name : Str} {st : Stmt} {f : Addr} {oc : Value} {od an : Option Addr} {kV doc pm cdv ct : Value} {osl : Array (Option Value)} (a : PySem.W.nsIn K mainGlobals name = some (some (.ref f)))
    (l : K.lookup f = some ⟨oc, od, .func (PySem.W.fnOf name name (defArgs st) (defBody st) (defScope st) .none kV doc pm an cdv ct), osl⟩) (c : PySem.W.codeIn K cdv name = true) (k : PySem.W.keepIn K (.ref f) = true) : DefAt K name st f := ⟨a, ⟨oc, od, kV, doc, pm, an, cdv, ct, osl, l, c⟩, k⟩
/-- an error of the class at S is what an except clause that names S takes -/
theorem exm_me {K : PySem.W.Frag} {S : Addr} (h1 : PySem.W.subIn K (.ref S) (.type "BaseException") = some true) (h2 : PySem.W.isClsIn K S = true) (h3 : PySem.W.typeIn K (.ref S) = some (.type "type")) (h4 : PySem.W.subIn K (.ref S) (.ref S) = some true) : PySem.W.exmOne K (.ref S) (.ref S) = some true := by
  have e1 : (PySem.W.subIn K (.ref S) (.type "BaseException") == some true) = true := by rw [h1] <;> rfl
  have e2 : ((PySem.W.clsIn K S).isSome && PySem.W.typeIn K (.ref S) == some (.type "type")) = true := by rw [show (PySem.W.clsIn K S).isSome = true from h2, h3] <;> rfl
  exact (if_pos e1).trans ((if_pos e2).trans h4)
theorem txt_mk {K : PySem.W.Frag} {h : Heap} {mg : Str → Option Value} (X : K.In h) (G : h.Ns mainGlobals mg) {zL zW : Str} {tL tW tM tO tD tG : Tok} {aR aS : Addr} {ddR ddS : Option Addr} {itR itS : Array Value} {nR nS : Nat} {slR slS : Array (Option Value)}
    (z1 : PySem.W.nsIn K mainGlobals "len" = some none) (z3 : PySem.W.nsIn K mainGlobals "int" = some none)
    (cL : PySem.W.nsIn K mainGlobals "LETTERS" = some (some (.str zL tL))) (eL : TL.tl zL = LET) (cW : PySem.W.nsIn K mainGlobals "WORD_CHARACTERS" = some (some (.str zW tW))) (eW : TL.tl zW = WCH)
    (cM : PySem.W.nsIn K mainGlobals "MOST_CHARACTERS" = some (some (.int 20000 tM))) (cO : PySem.W.nsIn K mainGlobals "LONGEST_WORD" = some (some (.int 20 tO))) (cD : PySem.W.nsIn K mainGlobals "MOST_DIGITS" = some (some (.int 5 tD)))
    (cG : PySem.W.nsIn K mainGlobals "GREATEST_NUMBER" = some (some (.int 65535 tG)))
    (cR : PySem.W.nsIn K mainGlobals "RESERVED" = some (some (.ref aR))) (lR : K.lookup aR = some ⟨.type "tuple", ddR, .seq itR nR, slR⟩) (vR : itR.toList.map absV = RES.map (fun w => some (V.str (tx w)))) (sR : itR.size ≤ sizeLine)
    (cS : PySem.W.nsIn K mainGlobals "SIGNS" = some (some (.ref aS))) (lS : K.lookup aS = some ⟨.type "tuple", ddS, .seq itS nS, slS⟩) (vS : itS.toList.map absV = SGN.map (fun w => some (V.str (tx w)))) (sS : itS.size ≤ sizeLine) : Txt K mg :=
  { len := PySem.W.mg_none_of X G z1, int := PySem.W.mg_none_of X G z3,
    letters := ⟨tL, (PySem.W.mg_of X G cL).trans (by rw [show zL = tx LET from TL.ext_tl eL])⟩, wch := ⟨zW, tW, PySem.W.mg_of X G cW, eW⟩, most := ⟨tM, PySem.W.mg_of X G cM⟩, longest := ⟨tO, PySem.W.mg_of X G cO⟩, digits := ⟨tD, PySem.W.mg_of X G cD⟩, greatest := ⟨tG, PySem.W.mg_of X G cG⟩,
    res := ⟨aR, PySem.W.mg_of X G cR, tup_of lR vR sR⟩, sgn := ⟨aS, PySem.W.mg_of X G cS, tup_of lS vS sS⟩ }
theorem ltxt_mk {K : PySem.W.Frag} {h : Heap} {mg : Str → Option Value} (X : K.In h) (G : h.Ns mainGlobals mg) (z2 : PySem.W.nsIn K mainGlobals "abs" = some none) (z4 : PySem.W.nsIn K mainGlobals "str" = some none) (z5 : PySem.W.nsIn K mainGlobals "min" = some none)
    (z6 : PySem.W.nsIn K mainGlobals "range" = some none) (z7 : PySem.W.nsIn K mainGlobals "isinstance" = some none) (z8 : PySem.W.nsIn K mainGlobals "repr" = some none) (z9 : PySem.W.nsIn K mainGlobals "list" = some none) : LTxt mg :=
  ⟨PySem.W.mg_none_of X G z2, PySem.W.mg_none_of X G z4, PySem.W.mg_none_of X G z5, PySem.W.mg_none_of X G z6, PySem.W.mg_none_of X G z7, PySem.W.mg_none_of X G z8, PySem.W.mg_none_of X G z9⟩
theorem meth_mk {K : PySem.W.Frag} {CC : Addr} {name qual : Str} {st : Stmt} {f : Addr} {oc : Value} {od an : Option Addr} {kV doc pm cdv ct : Value} {osl : Array (Option Value)} (a : PySem.W.findIn K (.ref CC) name = some (some (.ref f))) (i : PySem.W.isFn K (.ref f) = true)
    (l : K.lookup f = some ⟨oc, od, .func (PySem.W.fnOf name qual (defArgs st) (defBody st) (defScope st) .none kV doc pm an cdv ct), osl⟩) (c : PySem.W.codeIn K cdv qual = true) (k : PySem.W.keepIn K (.ref f) = true) : MethAt K CC name qual st f := ⟨a, i, ⟨oc, od, kV, doc, pm, an, cdv, ct, osl, l, c⟩, k⟩
theorem cur_mk {K : PySem.W.Frag} {h : Heap} {mg : Str → Option Value} {CC : Addr} (X : K.In h) (G : h.Ns mainGlobals mg) (aCC : PySem.W.nsIn K mainGlobals "Cursor" = some (some (.ref CC)))
    (pg : PySem.W.plainGet K CC Str.empty = true) (hd : PySem.W.hasDictIn K CC = true) (po : PySem.W.plainOver K CC = true) (sa : PySem.W.findIn K (.ref CC) "__setattr__" = some (some (.builtin "object.__setattr__"))) (mk : PySem.W.makesIn K CC = true) (kc : PySem.W.keepIn K (.ref CC) = true)
    (n1 : PySem.W.findIn K (.ref CC) "module" = some none) (n2 : PySem.W.findIn K (.ref CC) "functions" = some none) (n3 : PySem.W.findIn K (.ref CC) "_tokens" = some none) (n4 : PySem.W.findIn K (.ref CC) "_done" = some none) : CurTxt K mg CC :=
  ⟨⟨⟨pg, hd, po, sa⟩, n1, n2, n3, n4⟩, mk, kc, PySem.W.mg_of X G aCC⟩
theorem relV_bl {u : Value} {b : Bool} (h : absV u = some (.bl b)) : RelV (.bl b) u := by
  cases u <;> first | (cases h; exact rfl) | cases h
theorem tup1 {K : PySem.W.Frag} {a : Addr} {dd : Option Addr} {its : Array Value} {n : Nat} {sl : Array (Option Value)} {k : List Nat} (h : K.lookup a = some ⟨.type "tuple", dd, .seq its n, sl⟩) (hv : its.toList.map absV = [some (V.str (tx k))]) (hs : its.size ≤ sizeLine) (H : Hp) :
    Tp K H (.ref a) (.tuple [dw k]) := by
  refine .tup (xs := [.str (tx k)]) (.inr ⟨_, its, n, h, rfl, rfl, hs, ?_⟩) (.cons (.str _) .nil)
  generalize its.toList = us at hv
  cases us with
  | nil => cases hv
  | cons u us =>
    have e := (List.cons.inj hv).2
    cases us with
    | nil => exact .cons (relV_str (List.cons.inj hv).1) .nil
    | cons v us => cases e
theorem tup2 {K : PySem.W.Frag} {a : Addr} {dd : Option Addr} {its : Array Value} {n : Nat} {sl : Array (Option Value)} {k : List Nat} {b : Bool} (h : K.lookup a = some ⟨.type "tuple", dd, .seq its n, sl⟩) (hv : its.toList.map absV = [some (V.str (tx k)), some (.bl b)]) (hs : its.size ≤ sizeLine) (H : Hp) :
    Tp K H (.ref a) (.tuple [dw k, .bool b]) := by
  refine .tup (xs := [.str (tx k), .bl b]) (.inr ⟨_, its, n, h, rfl, rfl, hs, ?_⟩) (.cons (.str _) (.cons (.bl _) .nil))
  generalize its.toList = us at hv
  cases us with
  | nil => cases hv
  | cons u us =>
    have e := (List.cons.inj hv).2
    cases us with
    | nil => cases e
    | cons v us =>
      have e2 := (List.cons.inj e).2
      cases us with
      | nil => exact .cons (relV_str (List.cons.inj hv).1) (.cons (relV_bl (List.cons.inj e).1) .nil)
      | cons v2 us => cases e2
theorem ptxt_mk {K : PySem.W.Frag} {w : World} {h : Heap} {mg : Str → Option Value} (X : K.In h) (G : h.Ns mainGlobals mg) {aO aT aC aM aS t1 t2 t3 : Addr} {ddO ddT dd1 dd2 dd3 : Option Addr} {itO itT it1 it2 it3 : Array Value} {nO nT n1 n2 n3 nC nM nS : Nat} {slO slT sl1 sl2 sl3 : Array (Option Value)} {tD tL : Tok} {esC esM esS : Array DictEntry}
    (cO : PySem.W.nsIn K mainGlobals "WITH_ONE_EXPRESSION" = some (some (.ref aO))) (lO : K.lookup aO = some ⟨.type "tuple", ddO, .seq itO nO, slO⟩) (vO : itO.toList.map absV = ONE.map (fun w => some (V.str (tx w)))) (sO : itO.size ≤ sizeLine)
    (cT : PySem.W.nsIn K mainGlobals "WITH_TWO_EXPRESSIONS" = some (some (.ref aT))) (lT : K.lookup aT = some ⟨.type "tuple", ddT, .seq itT nT, slT⟩) (vT : itT.toList.map absV = TWO.map (fun w => some (V.str (tx w)))) (sT : itT.size ≤ sizeLine)
    (cD : PySem.W.nsIn K mainGlobals "DEEPEST" = some (some (.int 12 tD))) (cL : PySem.W.nsIn K mainGlobals "GREATEST_LEVEL" = some (some (.int 40 tL)))
    (cC : PySem.W.nsIn K mainGlobals "CONSTANTS" = some (some (.ref aC))) (dC : K.lookup aC = some ⟨.type "dict", none, .dict esC nC, #[]⟩) (kC : PySem.W.KeysLit w.params esC.toList) (eC : EnL [([116, 114, 117, 101], .ref t1), ([102, 97, 108, 115, 101], .ref t2), ([110, 111, 110, 101], .ref t3)] esC.toList) (oC : (aC == sysModules) = false)
    (l1 : K.lookup t1 = some ⟨.type "tuple", dd1, .seq it1 n1, sl1⟩) (v1 : it1.toList.map absV = [some (V.str (tx [98, 111, 111, 108])), some (.bl true)]) (s1 : it1.size ≤ sizeLine)
    (l2 : K.lookup t2 = some ⟨.type "tuple", dd2, .seq it2 n2, sl2⟩) (v2 : it2.toList.map absV = [some (V.str (tx [98, 111, 111, 108])), some (.bl false)]) (s2 : it2.size ≤ sizeLine)
    (l3 : K.lookup t3 = some ⟨.type "tuple", dd3, .seq it3 n3, sl3⟩) (v3 : it3.toList.map absV = [some (V.str (tx [110, 111, 110, 101]))]) (s3 : it3.size ≤ sizeLine)
    (cM : PySem.W.nsIn K mainGlobals "COMPARISONS" = some (some (.ref aM))) (dM : K.lookup aM = some ⟨.type "dict", none, .dict esM nM, #[]⟩) (kM : PySem.W.KeysLit w.params esM.toList) (eM : EnL [([60], .str (tx [108, 116])), ([61, 61], .str (tx [101, 113]))] esM.toList) (oM : (aM == sysModules) = false)
    (cS : PySem.W.nsIn K mainGlobals "SUMS" = some (some (.ref aS))) (dS : K.lookup aS = some ⟨.type "dict", none, .dict esS nS, #[]⟩) (kS : PySem.W.KeysLit w.params esS.toList) (eS : EnL [([43], .str (tx [97, 100, 100])), ([45], .str (tx [115, 117, 98]))] esS.toList) (oS : (aS == sysModules) = false)
    (zT : PySem.W.nsIn K mainGlobals "tuple" = some none) : PTxt K w mg := by
  have q1 : cd "true" = [116, 114, 117, 101] := by decide
  have q2 : cd "false" = [102, 97, 108, 115, 101] := by decide
  have q3 : cd "none" = [110, 111, 110, 101] := by decide
  have q4 : cd "bool" = [98, 111, 111, 108] := by decide
  have q5 : cd "<" = [60] := by decide
  have q6 : cd "==" = [61, 61] := by decide
  have q7 : cd "lt" = [108, 116] := by decide
  have q8 : cd "eq" = [101, 113] := by decide
  have q9 : cd "+" = [43] := by decide
  have q10 : cd "-" = [45] := by decide
  have q11 : cd "add" = [97, 100, 100] := by decide
  have q12 : cd "sub" = [115, 117, 98] := by decide
  refine ⟨⟨aO, PySem.W.mg_of X G cO, tup_of lO vO sO⟩, ⟨aT, PySem.W.mg_of X G cT, tup_of lT vT sT⟩, ⟨tD, PySem.W.mg_of X G cD⟩, ⟨tL, PySem.W.mg_of X G cL⟩,
    ⟨aC, .ref t1, .ref t2, .ref t3, PySem.W.mg_of X G cC, ?_, fun H => ⟨?_, ?_, ?_⟩⟩, ⟨aM, PySem.W.mg_of X G cM, ?_⟩, ⟨aS, PySem.W.mg_of X G cS, ?_⟩, PySem.W.mg_none_of X G zT⟩
  · rw [q1, q2, q3]
    exact ⟨⟨esC, nC, dC, kC, eC⟩, oC⟩
  · show Tp K H (.ref t1) (.tuple [dw (cd "bool"), .bool true])
    rw [q4]
    exact tup2 l1 v1 s1 H
  · show Tp K H (.ref t2) (.tuple [dw (cd "bool"), .bool false])
    rw [q4]
    exact tup2 l2 v2 s2 H
  · show Tp K H (.ref t3) (.tuple [dw (cd "none")])
    rw [q3]
    exact tup1 l3 v3 s3 H
  · rw [q5, q6, q7, q8]
    exact ⟨⟨esM, nM, dM, kM, eM⟩, oM⟩
  · rw [q9, q10, q11, q12]
    exact ⟨⟨esS, nS, dS, kS, eS⟩, oS⟩
theorem mal_mk {P : Program} {K : PySem.W.Frag} {h : Heap} {mg : Str → Option Value} (X : K.In h) (G : h.Ns mainGlobals mg) {C fI cc cda N : Addr} {nm q : Str} {bs bm : List Value} {sn : List Str} {sub : List Value} {ab : Bool} {col : Option Bool} {dd : Option Addr} {m0 m1 m2 m3 m5 : Option Value}
    {oc kV doc pm ct cl ccl : Value} {od an cld cdd : Option Addr} {osl csl ccs : Array (Option Value)} {vs : Array Value} {file : Str} {tf : Tok}
    (aC : PySem.W.nsIn K mainGlobals "Malformed" = some (some (.ref C))) (zS : PySem.W.nsIn K mainGlobals "super" = some none)
    (xL : K.lookup C = some (excClassObj nm q C N bs bm true sn sub ab col dd m0 m1 m2 m3 m5 "ValueError.__new__")) (hbm : PySem.HandSPX.refsVE bm = true)
    (sa : PySem.W.findIn K (.ref C) "__setattr__" = some (some (.builtin "object.__setattr__"))) (iC : PySem.W.findIn K (.ref C) "__init__" = some (some (.ref fI))) (tI : PySem.W.typeIn K (.ref fI) = some (.type "function"))
    (kC : PySem.W.keepIn K (.ref C) = true) (eB : PySem.W.subIn K (.ref C) (.type "BaseException") = some true) (eV : PySem.W.subIn K (.ref C) (.type "ValueError") = some true) (mC : PySem.W.mroIn K C (.ref C) = some true) (tC : PySem.W.typeIn K (.ref C) = some (.type "type"))
    (nM : PySem.W.findIn K (.ref C) "module" = some none) (nA : PySem.W.findIn K (.ref C) "at" = some none) (sC : PySem.W.subIn K (.ref C) (.ref C) = some true) (cC : PySem.W.isClsIn K C = true)
    (ga : PySem.W.findIn K (.ref C) "__getattribute__" = some (some (.builtin "BaseException.__getattribute__"))) (gg : PySem.W.findIn K (.ref C) "__getattr__" = some none) (hC : PySem.W.hasDictIn K C = true)
    (opq : PySem.W.nsIn K cStatics "thirdparty.any" = some none) (sup : PySem.W.ks_superIn K C C "__init__" = some (some (.builtin "ValueError.__init__")))
    (lI : K.lookup fI = some ⟨oc, od, .func (PySem.W.ksFn "__init__" "Malformed.__init__" (defArgs sMalI) (defBody sMalI) (defScope sMalI) .none kV doc pm an (.ref cda) ct cc), osl⟩)
    (lc : K.lookup cc = some ⟨cl, cld, .cell (some (.ref C)), csl⟩) (ld : K.lookup cda = some ⟨ccl, cdd, .fields vs, ccs⟩) (hv : vs[2]? = some (.str file tf)) (hf : ((P.main.file : Str) == file) = true)
    (htop : (P.main.scope.names.lookup ("super" : Str)).isSome = false) (cdi : PySem.W.codeIn K (.ref cda) "Malformed.__init__" = true) : MalTxt P K mg C fI cc cda :=
  { gC := PySem.W.mg_of X G aC, gS := PySem.W.mg_none_of X G zS, cls := ⟨nm, q, N, bs, bm, sn, sub, ab, col, dd, m0, m1, m2, m3, m5, xL, hbm⟩, sa := sa, iC := iC, tC := tI, kC := kC, exC := eB, exV := eV, mro := mC, tyC := tC, nM := nM, nA := nA, te := exm_me eB cC tC sC,
    xf := ⟨ga, gg, eB, hC⟩, opq := opq, sup := sup, cell := ⟨cl, cld, csl, lc⟩, code := ⟨ccl, cdd, vs, ccs, file, tf, ld, hv, hf⟩, top := htop, cdi := cdi, fn := ⟨oc, od, kV, doc, pm, an, ct, osl, lI⟩ }
end Tk
open PySem PySem.W PyProof.Rows
set_option maxRecDepth 100000 in
set_option maxHeartbeats 0 in
theorem PySem.Challenge.cw_fascicle_k02_chains_of_operators_holds : PySem.Challenge.rw_fascicle_k02_chains_of_operators.Holds := by
  w_on; o_law; k_head; (case hw => w_witness2)
  k_fill
  refine Tk.law_walk (l := PySem.Challenge.rw_fascicle_k02_chains_of_operators) rfl rfl (fun w h Y => PySem.W.kIn_of Y) ?F
  case F =>
    intro w mg fa h KX G hmg
    refine' Tk.all_run (CC := ?ccAddr) KX G hmg ⟨Tk.def_mk ?a13 ?l13 ?c13 ?k13, Tk.def_mk ?a14 ?l14 ?c14 ?k14, Tk.def_mk ?a15 ?l15 ?c15 ?k15, Tk.def_mk ?a16 ?l16 ?c16 ?k16, Tk.def_mk ?a17 ?l17 ?c17 ?k17, Tk.def_mk ?a18 ?l18 ?c18 ?k18, Tk.def_mk ?a19 ?l19 ?c19 ?k19, Tk.def_mk ?a20 ?l20 ?c20 ?k20, Tk.def_mk ?a21 ?l21 ?c21 ?k21, Tk.def_mk ?a22 ?l22 ?c22 ?k22, Tk.def_mk ?a25 ?l25 ?c25 ?k25, Tk.def_mk ?a28 ?l28 ?c28 ?k28, Tk.def_mk ?a27 ?l27 ?c27 ?k27, Tk.def_mk ?a29 ?l29 ?c29 ?k29, Tk.def_mk ?a30 ?l30 ?c30 ?k30, Tk.def_mk ?a37 ?l37 ?c37 ?k37, Tk.def_mk ?a38 ?l38 ?c38 ?k38, Tk.def_mk ?a39 ?l39 ?c39 ?k39, Tk.def_mk ?a46 ?l46 ?c46 ?k46, Tk.def_mk ?a47 ?l47 ?c47 ?k47, Tk.def_mk ?a57 ?l57 ?c57 ?k57, Tk.def_mk ?a58 ?l58 ?c58 ?k58, Tk.def_mk ?a59 ?l59 ?c59 ?k59, Tk.def_mk ?a60 ?l60 ?c60 ?k60, Tk.def_mk ?a61 ?l61 ?c61 ?k61, Tk.def_mk ?a62 ?l62 ?c62 ?k62, Tk.def_mk ?a63 ?l63 ?c63 ?k63, Tk.def_mk ?a64 ?l64 ?c64 ?k64, Tk.def_mk ?a65 ?l65 ?c65 ?k65, Tk.def_mk ?a66 ?l66 ?c66 ?k66, Tk.def_mk ?a67 ?l67 ?c67 ?k67, Tk.def_mk ?a69 ?l69 ?c69 ?k69, Tk.def_mk ?a70 ?l70 ?c70 ?k70, Tk.def_mk ?a71 ?l71 ?c71 ?k71, Tk.def_mk ?a72 ?l72 ?c72 ?k72, Tk.def_mk ?a73 ?l73 ?c73 ?k73, Tk.def_mk ?a74 ?l74 ?c74 ?k74, Tk.meth_mk ?ma0 ?mi0 ?ml0 ?mc0 ?mk0, Tk.meth_mk ?ma1 ?mi1 ?ml1 ?mc1 ?mk1, Tk.meth_mk ?ma3 ?mi3 ?ml3 ?mc3 ?mk3, Tk.meth_mk ?ma4 ?mi4 ?ml4 ?mc4 ?mk4, Tk.meth_mk ?ma5 ?mi5 ?ml5 ?mc5 ?mk5⟩ (Tk.txt_mk KX G ?z1 ?z3 ?cL ?eL ?cW ?eW ?cM ?cO ?cD ?cG ?cR ?lR ?vR ?sR ?cS ?lS ?vS ?sS) (Tk.ltxt_mk KX G ?z2 ?z4 ?z5 ?z6 ?z7 ?z8 ?z9)
      (Tk.ptxt_mk KX G ?pO ?plO ?pvO ?psO ?pT ?plT ?pvT ?psT ?pD ?pL ?pC ?pdC ?pkC ?peC ?poC ?pl1 ?pv1 ?ps1 ?pl2 ?pv2 ?ps2 ?pl3 ?pv3 ?ps3 ?pM ?pdM ?pkM ?peM ?poM ?pS ?pdS ?pkS ?peS ?poS ?pzT)
      (Tk.cur_mk KX G ?ua ?upg ?uhd ?upo ?usa ?umk ?ukc ?un1 ?un2 ?un3 ?un4)
      (Tk.mal_mk KX G ?aC ?zS ?xL ?hbm ?sa ?iC ?tI ?kC ?eB ?eV ?mC ?tC ?nM ?nA ?sC ?cC ?ga ?gg ?hC ?opq ?sup ?lI ?lc ?ld ?hv ?hf ?htop ?cdi)
    (case ua => k_is)
    (case a13 => k_is); (case l13 => k_is); (case c13 => k_is); (case k13 => k_is)
    (case a14 => k_is); (case l14 => k_is); (case c14 => k_is); (case k14 => k_is)
    (case a15 => k_is); (case l15 => k_is); (case c15 => k_is); (case k15 => k_is)
    (case a16 => k_is); (case l16 => k_is); (case c16 => k_is); (case k16 => k_is)
    (case a17 => k_is); (case l17 => k_is); (case c17 => k_is); (case k17 => k_is)
    (case a18 => k_is); (case l18 => k_is); (case c18 => k_is); (case k18 => k_is)
    (case a19 => k_is); (case l19 => k_is); (case c19 => k_is); (case k19 => k_is)
    (case a20 => k_is); (case l20 => k_is); (case c20 => k_is); (case k20 => k_is)
    (case a21 => k_is); (case l21 => k_is); (case c21 => k_is); (case k21 => k_is)
    (case a22 => k_is); (case l22 => k_is); (case c22 => k_is); (case k22 => k_is)
    (case a25 => k_is); (case l25 => k_is); (case c25 => k_is); (case k25 => k_is)
    (case a28 => k_is); (case l28 => k_is); (case c28 => k_is); (case k28 => k_is)
    (case a27 => k_is); (case l27 => k_is); (case c27 => k_is); (case k27 => k_is)
    (case a29 => k_is); (case l29 => k_is); (case c29 => k_is); (case k29 => k_is)
    (case a30 => k_is); (case l30 => k_is); (case c30 => k_is); (case k30 => k_is)
    (case a37 => k_is); (case l37 => k_is); (case c37 => k_is); (case k37 => k_is)
    (case a38 => k_is); (case l38 => k_is); (case c38 => k_is); (case k38 => k_is)
    (case a39 => k_is); (case l39 => k_is); (case c39 => k_is); (case k39 => k_is)
    (case a46 => k_is); (case l46 => k_is); (case c46 => k_is); (case k46 => k_is)
    (case a47 => k_is); (case l47 => k_is); (case c47 => k_is); (case k47 => k_is)
    (case a57 => k_is); (case l57 => k_is); (case c57 => k_is); (case k57 => k_is)
    (case a58 => k_is); (case l58 => k_is); (case c58 => k_is); (case k58 => k_is)
    (case a59 => k_is); (case l59 => k_is); (case c59 => k_is); (case k59 => k_is)
    (case a60 => k_is); (case l60 => k_is); (case c60 => k_is); (case k60 => k_is)
    (case a61 => k_is); (case l61 => k_is); (case c61 => k_is); (case k61 => k_is)
    (case a62 => k_is); (case l62 => k_is); (case c62 => k_is); (case k62 => k_is)
    (case a63 => k_is); (case l63 => k_is); (case c63 => k_is); (case k63 => k_is)
    (case a64 => k_is); (case l64 => k_is); (case c64 => k_is); (case k64 => k_is)
    (case a65 => k_is); (case l65 => k_is); (case c65 => k_is); (case k65 => k_is)
    (case a66 => k_is); (case l66 => k_is); (case c66 => k_is); (case k66 => k_is)
    (case a67 => k_is); (case l67 => k_is); (case c67 => k_is); (case k67 => k_is)
    (case a69 => k_is); (case l69 => k_is); (case c69 => k_is); (case k69 => k_is)
    (case a70 => k_is); (case l70 => k_is); (case c70 => k_is); (case k70 => k_is)
    (case a71 => k_is); (case l71 => k_is); (case c71 => k_is); (case k71 => k_is)
    (case a72 => k_is); (case l72 => k_is); (case c72 => k_is); (case k72 => k_is)
    (case a73 => k_is); (case l73 => k_is); (case c73 => k_is); (case k73 => k_is)
    (case a74 => k_is); (case l74 => k_is); (case c74 => k_is); (case k74 => k_is)
    (case ma0 => k_is); (case mi0 => k_is); (case ml0 => k_is); (case mc0 => k_is); (case mk0 => k_is)
    (case ma1 => k_is); (case mi1 => k_is); (case ml1 => k_is); (case mc1 => k_is); (case mk1 => k_is)
    (case ma3 => k_is); (case mi3 => k_is); (case ml3 => k_is); (case mc3 => k_is); (case mk3 => k_is)
    (case ma4 => k_is); (case mi4 => k_is); (case ml4 => k_is); (case mc4 => k_is); (case mk4 => k_is)
    (case ma5 => k_is); (case mi5 => k_is); (case ml5 => k_is); (case mc5 => k_is); (case mk5 => k_is)
    (case z1 => k_is)
    (case z2 => k_is)
    (case z3 => k_is)
    (case z4 => k_is)
    (case z5 => k_is)
    (case z6 => k_is)
    (case z7 => k_is)
    (case z8 => k_is)
    (case z9 => k_is)
    (case cL => k_is)
    (case eL => decide +kernel)
    (case cW => k_is)
    (case eW => decide +kernel)
    (case cM => k_is)
    (case cO => k_is)
    (case cD => k_is)
    (case cG => k_is)
    (case cR => k_is)
    (case lR => k_is)
    (case vR => decide +kernel)
    (case sR => decide +kernel)
    (case cS => k_is)
    (case lS => k_is)
    (case vS => decide +kernel)
    (case sS => decide +kernel)
    (case pO => k_is)
    (case plO => k_is)
    (case pvO => decide +kernel)
    (case psO => decide +kernel)
    (case pT => k_is)
    (case plT => k_is)
    (case pvT => decide +kernel)
    (case psT => decide +kernel)
    (case pD => k_is)
    (case pL => k_is)
    (case pC => k_is)
    (case pdC => k_is)
    (case pkC => exact ⟨⟨_, _, rfl, rfl⟩, ⟨_, _, rfl, rfl⟩, ⟨_, _, rfl, rfl⟩, trivial⟩)
    (case peC => exact .cons rfl rfl (.cons rfl rfl (.cons rfl rfl .nil)))
    (case poC => first | rfl | decide +kernel | k_is)
    (case pl1 => k_is)
    (case pv1 => decide +kernel)
    (case ps1 => decide +kernel)
    (case pl2 => k_is)
    (case pv2 => decide +kernel)
    (case ps2 => decide +kernel)
    (case pl3 => k_is)
    (case pv3 => decide +kernel)
    (case ps3 => decide +kernel)
    (case pM => k_is)
    (case pdM => k_is)
    (case pkM => exact ⟨⟨_, _, rfl, rfl⟩, ⟨_, _, rfl, rfl⟩, trivial⟩)
    (case peM => exact .cons rfl ⟨_, rfl⟩ (.cons rfl ⟨_, rfl⟩ .nil))
    (case poM => first | rfl | decide +kernel | k_is)
    (case pS => k_is)
    (case pdS => k_is)
    (case pkS => exact ⟨⟨_, _, rfl, rfl⟩, ⟨_, _, rfl, rfl⟩, trivial⟩)
    (case peS => exact .cons rfl ⟨_, rfl⟩ (.cons rfl ⟨_, rfl⟩ .nil))
    (case poS => first | rfl | decide +kernel | k_is)
    (case pzT => k_is)
    (case upg => k_is)
    (case uhd => k_is)
    (case upo => k_is)
    (case usa => k_is)
    (case umk => k_is)
    (case ukc => k_is)
    (case un1 => k_is)
    (case un2 => k_is)
    (case un3 => k_is)
    (case un4 => k_is)
    (case aC => k_is)
    (case zS => k_is)
    (case xL => k_is)
    (case hbm => decide +kernel)
    (case sa => k_is)
    (case iC => k_is)
    (case tI => k_is)
    (case kC => k_is)
    (case eB => k_is)
    (case eV => k_is)
    (case mC => k_is)
    (case tC => k_is)
    (case nM => k_is)
    (case nA => k_is)
    (case sC => first | rfl | k_is)
    (case cC => k_is)
    (case ga => k_is)
    (case gg => k_is)
    (case hC => k_is)
    (case opq => k_is)
    (case sup => ks_is)
    (case lI => k_is)
    (case lc => k_is)
    (case ld => k_is)
    (case hv => rfl)
    (case hf => first | rfl | decide +kernel)
    (case htop => first | rfl | decide +kernel)
    (case cdi => k_is)
#print axioms PySem.Challenge.cw_fascicle_k02_chains_of_operators_holds

