import PyProof.Rows.All
import Wide.All
import OpenK.AllK
import Wide.FinOn
import HandS.ForMost
import HandS.Wide
import HandS.Codes
import HandS.IsInst
import HandS.IntHex
import HandS.AnyAll
import HandS.Walk
import HandS.Flow
import HandS.StrMore
import HandS.EndTab
import HandS.Base
import HandS.Call
import HandS.Exc
import HandS.ExcInit
import KE.KExcSuper
import KE.KExcMake
import PyProof.FString
import PyProof.FString4
import HandS.ExcOwn
import HandS.ExcIs
import HandS.ExcField
import HandS.TryOnly
import KE.KExcIs
import HandS.WordsExc
import KE.RegKIsAll
import HandS.Ends
import PySem.Challenge.RW_wholepackets_k02_errors_of_tokens
set_option Elab.async false
set_option linter.all false
set_option maxRecDepth 100000
set_option maxHeartbeats 4000000
namespace Pk
open PySem PySem.Spec PyProof.Rows L2

/-! ### the drawing state of the law: at s the list [cells, seed], at c the cells -/
def StAt (H : Hp) (s c : Addr) : Prop := ∃ (cells : List Int) (seed : Int), H s = some (.lst [.ref c, .int seed]) ∧ H c = some (.lst (cells.map V.int)) ∧
  (∀ z ∈ cells, 0 ≤ z) ∧ 0 ≤ seed ∧ seed < 2147483648
theorem StAt.ne {H : Hp} {s c : Addr} (h : StAt H s c) : s ≠ c := by
  obtain ⟨cells, seed, h1, h2, _⟩ := h
  refine ne_of h1 h2 fun z => ?_
  have z' := HO.lst.inj z
  cases cells with
  | nil => cases z'
  | cons a r =>
    have e : V.ref c = V.int a := (List.cons.inj z').1
    cases e
/-- what stood beside s and c stands -/
def Kp (s c : Addr) (H H' : Hp) : Prop := ∀ b o, b ≠ s → b ≠ c → H b = some o → H' b = some o
theorem Kp.refl (s c : Addr) (H : Hp) : Kp s c H H := fun _ _ _ _ e => e
theorem Kp.trans {s c : Addr} {H H1 H2 : Hp} (a : Kp s c H H1) (b : Kp s c H1 H2) : Kp s c H H2 := fun x o h1 h2 e => b x o h1 h2 (a x o h1 h2 e)
theorem Kp.same {s c : Addr} {H H1 : Hp} (a : Same H H1) : Kp s c H H1 := fun x o _ _ e => a x o e
theorem Kp.new {s c p : Addr} {H : Hp} {o : HO} (h : H p = none) : Kp s c H (upd H p o) := fun b u _ _ e => by
  rw [upd_ne (ne_of_none e h)]
  exact e
theorem same_new {p : Addr} {H : Hp} {o : HO} (h : H p = none) : Same H (upd H p o) := fun b u e => by
  rw [upd_ne (ne_of_none e h)]
  exact e
theorem StAt.same {H H' : Hp} {s c : Addr} (h : StAt H s c) (k : Same H H') : StAt H' s c := by
  obtain ⟨cells, seed, h1, h2, h3⟩ := h
  exact ⟨cells, seed, k _ _ h1, k _ _ h2, h3⟩
theorem StAt.upd {H : Hp} {s c p : Addr} {o : HO} (h : StAt H s c) (n1 : p ≠ s) (n2 : p ≠ c) : StAt (upd H p o) s c := by
  obtain ⟨cells, seed, h1, h2, h3⟩ := h
  exact ⟨cells, seed, by rw [upd_ne (Ne.symm n1)]; exact h1, by rw [upd_ne (Ne.symm n2)]; exact h2, h3⟩
theorem StAt.new {H : Hp} {s c p : Addr} {o : HO} (h : StAt H s c) (n : H p = none) : StAt (L2.upd H p o) s c := h.same (same_new n)

/-! ### promises of the drawing defs -/
def spState (K : PySem.W.Frag) : Sp := fun vs H Q _ => ∃ (a : Addr) (ns : List Int), vs = [.ref a] ∧ SqL K H a (ns.map V.int) ∧ ns.length ≤ 63 ∧
  ∀ (H' : Hp) (s c : Addr), Same H H' → H s = none → H c = none → StAt H' s c → Q (.ref s) H'
def spDraw : Sp := fun vs H Q _ => ∃ (s c : Addr) (many : Int), vs = [.ref s, .int many] ∧ StAt H s c ∧ 0 < many ∧ many ≤ 1099511627776 ∧
  ∀ (H' : Hp) (r : Int), 0 ≤ r → r < many → StAt H' s c → Kp s c H H' → Q (.int r) H'
def spPick (K : PySem.W.Frag) : Sp := fun vs H Q _ => ∃ (s c p : Addr) (xs : List V), vs = [.ref s, .ref p] ∧ StAt H s c ∧ SqL K H p xs ∧ p ≠ s ∧ p ≠ c ∧ 0 < xs.length ∧ xs.length ≤ 1000 ∧
  ∀ (H' : Hp) (i : Nat) (x : V), xs[i]? = some x → StAt H' s c → Kp s c H H' → Q x H'
theorem Kp.seq {K : PySem.W.Frag} {s c p : Addr} {H H' : Hp} {xs : List V} (k : Kp s c H H') (h : SqL K H p xs) (n1 : p ≠ s) (n2 : p ≠ c) : SqL K H' p xs := by
  rcases h with (h | ⟨o, h⟩) | h
  · exact .inl (.inl (k _ _ n1 n2 h))
  · exact .inl (.inr ⟨o, k _ _ n1 n2 h⟩)
  · exact .inr h
theorem iteD {p A B : Prop} [Decidable p] (h1 : p → A) (h2 : ¬ p → B) : if decide p = true then A else B := by
  by_cases h : p
  · rw [if_pos (decide_eq_true h)]
    exact h1 h
  · rw [decide_eq_false h, if_neg Bool.false_ne_true]
    exact h2 h
theorem iteDT {p A B : Prop} [Decidable p] (h : p) (h1 : A) : if decide p = true then A else B := by
  rw [if_pos (decide_eq_true h)]
  exact h1
theorem iteDF {p A B : Prop} [Decidable p] (h : ¬ p) (h1 : B) : if decide p = true then A else B := by
  rw [decide_eq_false h, if_neg Bool.false_ne_true]
  exact h1
theorem dcInt {i j : Int} : decide (V.int i = V.int j) = decide (i = j) := by
  by_cases h : i = j
  · rw [h, decide_eq_true rfl, decide_eq_true rfl]
  · rw [decide_eq_false h, decide_eq_false fun z => h (V.int.inj z)]
/-- built-ins that the law's own text does not name anew -/
structure Blt (mg : Str → Option Value) : Prop where
  zInt : mg "int" = none
  zAbs : mg "abs" = none
  zLen : mg "len" = none
end Pk
set_option Elab.async false
set_option linter.all false
set_option maxRecDepth 100000
set_option maxHeartbeats 4000000
namespace Tk
open PySem L2 SX
/-! ### the signs and words of the document, as code points -/
def lettersS : Str := Str.ofString "abcdefghijklmnopqrstuvwxyzABCDEFGHIJKLMNOPQRSTUVWXYZ"
def digitsS : Str := Str.ofString "0123456789"
def hexS : Str := Str.ofString "0123456789abcdef"
abbrev letters : List Nat := lettersS.cps.toList
abbrev digits : List Nat := digitsS.cps.toList
abbrev hexes : List Nat := hexS.cps.toList
def words : List Str := ["accept", "action", "add", "apply", "control", "default", "drop", "else", "emit", "exact", "extract", "go", "header", "if", "key", "mask", "meta", "not", "packet", "parser", "prefix", "program", "reject", "remove", "select", "send", "size", "state", "table", "use", "valid"].map Str.ofString
def longs : List Str := [Str.ofString "==", Str.ofString "->"]
def shorts : List Str := ["{", "}", "(", ")", ":", ";", ",", ".", "=", "<", "+", "-", "&", "|", "^"].map Str.ofString
def inRun (c : Nat) : Bool := decide (c ∈ letters) || decide (c ∈ digits) || decide (c = 95)
def isHexed (p : List Nat) : Bool := decide (p.take 2 = [48, 120])
def allIn (p l : List Nat) : Bool := p.all fun c => decide (c ∈ l)
def isNum (p : List Nat) : Bool :=
  if isHexed p = true then decide (1 ≤ (p.drop 2).length) && decide ((p.drop 2).length ≤ 8) && allIn (p.drop 2) hexes
  else if p.take 1 = [48] then decide (p = [48])
  else if 10 < p.length then false else allIn p digits && decide (NumText.digitsVal p ≤ 4294967295)
def numVal (p : List Nat) : Nat := if isHexed p = true then Hx.hexNum (p.drop 2) else NumText.digitsVal p
def headIn (l p : List Nat) : Bool := match p with
  | [] => false
  | c :: _ => decide (c ∈ l)
/-- a run's or a sign's token: its kind and value -/
def tokOf (p : List Nat) : Option (Str × V) :=
  if headIn letters p = true ∧ p.length ≤ 16 then
    (if S p ∈ words then some (Str.ofString "word", .str (S p)) else some (Str.ofString "name", .str (S p)))
  else if isNum p = true then some (Str.ofString "number", .int (numVal p))
  else if S p ∈ longs ∨ S p ∈ shorts then some (Str.ofString "sign", .str (S p)) else none
/-- how long the run or the sign is that stands at the head -/
def partLen (t : List Nat) : Nat :=
  if headIn (letters ++ digits ++ [95]) t = true then (t.takeWhile inRun).length
  else if S (t.take 2) ∈ longs then 2 else 1
abbrev Tok := Str × V × Nat
def endTok (l : Nat) : Tok := (Str.ofString "end", .str (Str.ofString ""), l)
/-- a token ahead of the others -/
def ahead (kv : Option (Str × V)) (l : Nat) (rest : Except Nat (List Tok)) : Except Nat (List Tok) := match kv with
  | none => .error l
  | some (k, v) => match rest with
    | .error e => .error e
    | .ok ts => .ok ((k, v, l) :: ts)
/-- the tokens of a text that begins in line l; .error: the line of the first part that is none -/
def toks : Nat → Nat → List Nat → Except Nat (List Tok)
  | _, l, [] => .ok [endTok l]
  | 0, l, _ :: _ => .error l
  | f + 1, l, c :: r =>
    if c = 35 then toks f l (r.dropWhile (· ≠ 10))
    else if c = 32 then toks f l r
    else if c = 10 then toks f (l + 1) r
    else ahead (tokOf ((c :: r).take (partLen (c :: r)))) l (toks f l ((c :: r).drop (partLen (c :: r))))
theorem toks_cons (f l c : Nat) (r : List Nat) : toks (f + 1) l (c :: r) = if c = 35 then toks f l (r.dropWhile (· ≠ 10))
    else if c = 32 then toks f l r
    else if c = 10 then toks f (l + 1) r
    else ahead (tokOf ((c :: r).take (partLen (c :: r)))) l (toks f l ((c :: r).drop (partLen (c :: r)))) := by rw [toks]
theorem dropWhile_le {α : Type} (p : α → Bool) : ∀ l : List α, (l.dropWhile p).length ≤ l.length
  | [] => Nat.le_refl _
  | a :: l => by
    rw [List.dropWhile_cons]
    split
    · exact Nat.le_succ_of_le (dropWhile_le p l)
    · exact Nat.le_refl _
theorem inRun_iff (c : Nat) : inRun c = headIn (letters ++ digits ++ [95]) (c :: r) := by
  unfold inRun headIn
  rw [Bool.eq_iff_iff]
  simp [List.mem_append, or_assoc]
theorem partLen_pos (c : Nat) (r : List Nat) : 1 ≤ partLen (c :: r) := by
  unfold partLen
  split
  · rename_i h
    rw [← inRun_iff (r := r)] at h
    rw [List.takeWhile_cons, if_pos h]
    simp
  · split <;> omega
/-- more fuel than signs changes nothing -/
theorem toks_fuel : ∀ (n f : Nat) (l : Nat) (t : List Nat), t.length ≤ n → n ≤ f → toks f l t = toks n l t := by
  intro n
  induction n with
  | zero =>
    intro f l t h1 h2
    cases t with
    | nil => cases f <;> rfl
    | cons c r => simp at h1
  | succ n ih =>
    intro f l t h1 h2
    cases t with
    | nil => cases f <;> rfl
    | cons c r =>
      obtain ⟨g, rfl⟩ : ∃ g, f = g + 1 := ⟨f - 1, by omega⟩
      have hr : r.length ≤ n := by simpa using h1
      have hd : (r.dropWhile (· ≠ 10)).length ≤ n := Nat.le_trans (dropWhile_le _ _) hr
      have hp : ((c :: r).drop (partLen (c :: r))).length ≤ n := by
        have := partLen_pos c r
        rw [List.length_drop, List.length_cons]
        omega
      rw [toks_cons, toks_cons, ih g l _ hd (by omega), ih g l r hr (by omega), ih g (l + 1) r hr (by omega), ih g l _ hp (by omega)]
/-- the tokens of a text that begins in line l -/
def toksT (l : Nat) (t : List Nat) : Except Nat (List Tok) := toks t.length l t
theorem toksT_nil (l : Nat) : toksT l [] = .ok [endTok l] := rfl
theorem toksT_of {f l : Nat} {t : List Nat} (h : t.length ≤ f) : toks f l t = toksT l t := toks_fuel _ f l t (Nat.le_refl _) h
theorem toksT_hash (l : Nat) (r : List Nat) : toksT l (35 :: r) = toksT l (r.dropWhile (· ≠ 10)) := by
  rw [← toksT_of (f := r.length) (dropWhile_le _ _)]
  show toks (r.length + 1) l (35 :: r) = _
  rw [toks_cons, if_pos rfl]
theorem toksT_space (l : Nat) (r : List Nat) : toksT l (32 :: r) = toksT l r := by
  show toks (r.length + 1) l (32 :: r) = _
  rw [toks_cons, if_neg (by decide), if_pos rfl]
  rfl
theorem toksT_nl (l : Nat) (r : List Nat) : toksT l (10 :: r) = toksT (l + 1) r := by
  show toks (r.length + 1) l (10 :: r) = _
  rw [toks_cons, if_neg (by decide), if_neg (by decide), if_pos rfl]
  rfl
theorem toksT_part {l c : Nat} {r : List Nat} (h1 : c ≠ 35) (h2 : c ≠ 32) (h3 : c ≠ 10) :
    toksT l (c :: r) = ahead (tokOf ((c :: r).take (partLen (c :: r)))) l (toksT l ((c :: r).drop (partLen (c :: r)))) := by
  have hp : ((c :: r).drop (partLen (c :: r))).length ≤ r.length := by
    have := partLen_pos c r
    rw [List.length_drop, List.length_cons]
    omega
  show toks (r.length + 1) l (c :: r) = _
  rw [toks_cons, if_neg h1, if_neg h2, if_neg h3, toksT_of hp]
end Tk
set_option Elab.async false
set_option linter.all false
set_option maxRecDepth 100000
set_option maxHeartbeats 4000000
namespace Pk
open PySem PySem.Spec PyProof.Rows L2 SX
/-- a tuple of the written part -/
def TupK (K : PySem.W.Frag) (p : Addr) (xs : List V) : Prop := ∃ (o : Obj) (its : Array Value) (n : Nat), K.lookup p = some o ∧ o.cls = .type "tuple" ∧ o.data = .seq its n ∧ its.size ≤ sizeLine ∧ Vals xs its.toList
theorem TupK.at {K : PySem.W.Frag} {p : Addr} {xs : List V} (h : TupK K p xs) (H : Hp) : SqT K H p xs := .inr h
/-- a def, under its name, that keeps its promise -/
structure Df (P : Program) (w : World) (K : PySem.W.Frag) (mg : Str → Option Value) (base : Heap) (CX : CXT) (k : Nat) (x : Str) (ps : List Str) (sp : Sp) : Prop where
  ex : ∃ (f : Addr) (fd : FuncData), FnOk P w K mg base CX k f fd ps sp ∧ mg x = some (.ref f) ∧ PySem.W.keepIn K (.ref f) = true ∧ Binds K fd ps []
/-- a def of the text as it stands under its name -/
structure AtD (K : PySem.W.Frag) (mg : Str → Option Value) (x : Str) (st : Stmt) (ps : List Str) : Prop where
  ex : ∃ (f : Addr) (fd : FuncData), Fun K x x st f fd ∧ mg x = some (.ref f) ∧ Binds K fd ps []
theorem AtD.df {P : Program} {w : World} {K : PySem.W.Frag} {mg : Str → Option Value} {base : Heap} {CX : CXT} {k : Nat} {x : Str} {st : Stmt} {ps : List Str} {sp : Sp} (A : AtD K mg x st ps)
    (h : ∀ (f : Addr) (fd : FuncData), Fun K x x st f fd → FnOk P w K mg base CX k f fd ps sp) : Df P w K mg base CX k x ps sp := by
  obtain ⟨f, fd, F, g, b⟩ := A.ex
  exact ⟨f, fd, h f fd F, g, F.kp, b⟩
/-! ### values -/
theorem inV_strs {x : Str} : ∀ ws : List Str, inV (.str x) (ws.map V.str) = decide (x ∈ ws)
  | [] => by simp [inV]
  | w :: ws => by
    have ih := inV_strs (x := x) ws
    unfold inV at ih ⊢
    rw [List.map_cons, List.any_cons, ih]
    show ((w == x) || decide (x ∈ ws)) = _
    rw [Bool.eq_iff_iff, Bool.or_eq_true, beq_iff_eq, decide_eq_true_eq, decide_eq_true_eq, List.mem_cons]
    constructor
    · rintro (h | h)
      · exact .inl h.symm
      · exact .inr h
    · rintro (h | h)
      · exact .inl h.symm
      · exact .inr h
theorem inV_int {n : Int} : ∀ ws : List Str, inV (.int n) (ws.map V.str) = false
  | [] => by simp [inV]
  | w :: ws => by
    have ih := inV_int (n := n) ws
    unfold inV at ih ⊢
    rw [List.map_cons, List.any_cons, ih]
    rfl
theorem flat_strs (ws : List Str) : (ws.map V.str).all flatV = true := by
  rw [List.all_eq_true]
  intro x hx
  obtain ⟨y, _, rfl⟩ := List.mem_map.mp hx
  rfl
theorem dcStr {x y : Str} : decide (V.str x = V.str y) = decide (x = y) := by
  by_cases h : x = y
  · rw [h, decide_eq_true rfl, decide_eq_true rfl]
  · rw [decide_eq_false h, decide_eq_false fun z => h (V.str.inj z)]
theorem dcS {a b : List Nat} : decide (S a = S b) = decide (a = b) := by
  by_cases h : a = b
  · rw [h, decide_eq_true rfl, decide_eq_true rfl]
  · rw [decide_eq_false h, decide_eq_false fun z => h (S_inj z)]
/-- s[i:j], s[i:] -/
theorem cut2 (t : List Nat) (i j : Nat) : cutS (S t) (some (i : Int)) (some (j : Int)) = S ((t.drop i).take (j - i)) := by
  have hl : (S t).length = t.length := S_len t
  unfold cutS
  rw [HT.sIx_nat, HT.sIx_nat, hl]
  show S _ = S _
  congr 1
  show ((t.drop (min i t.length)).take (min j t.length - min i t.length)) = _
  by_cases hi : i ≤ t.length
  · rw [Nat.min_eq_left hi]
    by_cases hj : j ≤ t.length
    · rw [Nat.min_eq_left hj]
    · have e : min j t.length = t.length := by omega
      rw [e, List.take_of_length_le (by rw [List.length_drop]; exact Nat.le_refl _), List.take_of_length_le (by rw [List.length_drop]; omega)]
  · have e : min i t.length = t.length := by omega
    rw [e, List.drop_of_length_le (Nat.le_refl _), List.drop_of_length_le (show t.length ≤ i by omega), List.take_nil, List.take_nil]
theorem cut1f (t : List Nat) (i : Nat) : cutS (S t) (some (i : Int)) none = S (t.drop i) := by
  have hl : (S t).length = t.length := S_len t
  unfold cutS
  rw [HT.sIx_nat, HT.sIx_none, hl]
  show S _ = S _
  congr 1
  show ((t.drop (min i t.length)).take (t.length - min i t.length)) = _
  by_cases hi : i ≤ t.length
  · rw [Nat.min_eq_left hi, List.take_of_length_le (by rw [List.length_drop]; exact Nat.le_refl _)]
  · have e : min i t.length = t.length := by omega
    rw [e, List.drop_of_length_le (Nat.le_refl _), List.drop_of_length_le (show t.length ≤ i by omega), List.take_nil]
theorem starts2 (p q : List Nat) : Txt.startswith (S p) (S q) = decide (p.take q.length = q) := by
  unfold Txt.startswith
  rw [S_len, S_len, Nat.zero_add]
  have e : Builtin.Str.subAt (S p) (S q) 0 = decide (p.take q.length = q) := by
    unfold Builtin.Str.subAt
    rw [S_len, Nat.zero_add]
    show (p.toArray.extract 0 q.length == q.toArray) = _
    rw [Bool.eq_iff_iff, beq_iff_eq, decide_eq_true_eq]
    constructor
    · intro h
      have h2 := congrArg Array.toList h
      simpa using h2
    · intro h
      rw [List.extract_toArray]
      simp [h]
  rw [e]
  by_cases h : p.take q.length = q
  · have : q.length ≤ p.length := by
      have := congrArg List.length h
      rw [List.length_take] at this
      omega
    rw [decide_eq_true h, decide_eq_true this]
    rfl
  · rw [decide_eq_false h, Bool.and_false]
theorem takeWhile_self {α : Type} {p : α → Bool} : ∀ {l : List α}, (∀ x ∈ l, p x = true) → l.takeWhile p = l
  | [], _ => rfl
  | a :: l, h => by
    rw [List.takeWhile_cons, if_pos (h a List.mem_cons_self), takeWhile_self fun x hx => h x (List.mem_cons_of_mem _ hx)]
/-- where a sign is found from i on -/
theorem find_sign {t : List Nat} {i : Nat} (c : Nat) (hi : i ≤ t.length) :
    (Txt.find3 (S t) (S [c]) (i : Int) = -1 ∧ (t.drop i).takeWhile (· ≠ c) = t.drop i) ∨
    Txt.find3 (S t) (S [c]) (i : Int) = ((i + ((t.drop i).takeWhile (· ≠ c)).length : Nat) : Int) ∧ i + ((t.drop i).takeWhile (· ≠ c)).length < t.length := by
  have fi : fromIndex (S t).length (i : Int) = i := by
    unfold fromIndex
    rw [if_neg (by omega)]
    omega
  have gd : ∀ v, v < t.length → (S t).cps.getD v 0 = t[v]?.getD 0 := fun v hv => by
    simp [S, Array.getD, hv]
  rcases StrLaws.find3_spec (S t) c (i : Int) with ⟨h1, h2⟩ | ⟨k, h1, h2, h3, h4, h5⟩
  · refine .inl ⟨h1, ?_⟩
    refine takeWhile_self fun x hx => ?_
    obtain ⟨j, hj, rfl⟩ := List.getElem_of_mem hx
    rw [List.length_drop] at hj
    have := h2 (i + j) (by rw [fi]; omega) (by rw [S_len]; omega)
    rw [gd _ (by omega), List.getElem?_eq_getElem (by omega)] at this
    rw [List.getElem_drop]
    exact decide_eq_true this
  · rw [fi] at h2
    rw [S_len] at h3
    have key : ((t.drop i).takeWhile (· ≠ c)).length = k - i := by
      have hk : t.drop i = (t.drop i).take (k - i) ++ t.drop k := by
        have e := (List.take_append_drop (k - i) (t.drop i)).symm
        rw [List.drop_drop, show i + (k - i) = k by omega] at e
        exact e
      rw [hk, List.takeWhile_append_of_pos]
      · rw [List.drop_eq_getElem_cons h3, List.takeWhile_cons]
        have hc : t[k] = c := by
          have := h4
          rw [gd _ h3, List.getElem?_eq_getElem h3] at this
          exact this
        rw [if_neg (by simp [hc]), List.append_nil, List.length_take, List.length_drop]
        omega
      · intro x hx
        obtain ⟨j, hj, rfl⟩ := List.getElem_of_mem hx
        rw [List.length_take, List.length_drop] at hj
        have := h5 (i + j) (by rw [fi]; omega) (by omega)
        rw [gd _ (by omega), List.getElem?_eq_getElem (by omega)] at this
        rw [List.getElem_take, List.getElem_drop]
        exact decide_eq_true this
    refine .inr ⟨?_, ?_⟩
    · rw [h1, key, show i + (k - i) = k by omega]
    · rw [key]
      omega
end Pk
set_option Elab.async false
set_option linter.all false
set_option maxRecDepth 100000
set_option maxHeartbeats 4000000
namespace Pk
open PySem PySem.Spec PyProof.Rows L2 SX GxR
/-! ### all(x in y for x in e), y a captured text -/
/-- the reading: y stands in slot j; behind it the def's table may have grown -/
def tAllC (P : Addr) (j : Nat) (te : TE) : TE := fun σ H Q => te σ H fun v H1 => ∃ a z : Str, v = .str a ∧ σ[j]? = some (some (.str z)) ∧ TabG H1 P ∧
  ∀ H2, Tabbed P H1 H2 → Q (.bl (a.cps.toList.all fun c => decide (c ∈ z.cps.toList))) H2
/-- x in y within the generator: x a sign at the generator's own name, y read off its cell -/
theorem elt_in {prog : Program} {w : World} {A : Around} {E : Value → Shared → Prop} {env : Env} {x y : Str} {q1 q2 q3 : Pos} {s : Shared} {m : Str → Option Value} {c : Nat} {t u : Tok} {z : Str} {ca : Addr}
    (hk : env.scope.kind = .function) (hx : env.scope.names.lookup x = some .local) (hy : env.scope.names.lookup y = some .free) (dx : (x == ("__debug__" : Str)) = false) (dy : (y == ("__debug__" : Str)) = false) (ey : (y == ("__classdict__" : Str)) = false)
    (hn : s.heap.Ns env.locals m) (hm : m x = some (.str ⟨#[c]⟩ t)) (hc : env.cells.lookup y = some ca) (ho : s.heap.IsCell ca (some (.str z u))) :
    wpAny (model prog w) A (eval (.Compare (.Name x q1) [.In] [.Name y q2] q3) env) (fun v s' => v = .bool (decide (c ∈ z.cps.toList)) ∧ Keeps s s') E s := by
  refine wpAny_Compare1 ?_
  refine wpAny_Name (wpAny_loadName_local hk hx hn hm ?_) dx
  refine wpAny_Name (wpAny_loadName_free hk hy hc ho ?_ ey) dy
  refine in_str ⟨?_, keeps_refl s⟩
  have e := in_one z.cps.toList c
  rw [S_tl] at e
  exact congrArg Value.bool e
variable {X : Cx}
/-- the code object of a generator expression: found in the def's table, or made and put there -/
theorem gen_code {pins : List (Addr × Obj)} {σ : L2.St} {H1 : Hp} {s1 : Shared} {c P : Addr} {gpos : Pos} {scope : Scope} {o : Obj} {ps : Array Value} {Q3 : Value → Shared → Prop} {E : Value → Shared → Prop}
    (TB : TabB X.base X.mg c P) (hcode : X.env.code = .ref c) (I1 : L2.Inv X pins σ H1 s1) (hP : H1 P = some (.tbl ps)) (tri : TriplesOk ps.toList)
    (h : ∀ (code : Value) (h3 : Heap) (k3 : Nat) (more : Array Value), Heap.ExtBut P (s1.heap.push o) h3 → s1.heap.objs.size + 1 ≤ h3.objs.size →
      h3.get? P = some { cls := .none, data := .fields (ps ++ more) } → TriplesOk (ps ++ more).toList → Q3 code { s1 with heap := h3, toks := k3 }) :
    wpAny (model X.prog X.w) X.A (genexprCode X.env gpos (X.env.qual ++ "<genexpr>") scope) Q3 E { s1 with heap := s1.heap.push o } := by
  have atP : s1.heap.get? P = some { cls := .none, data := .fields ps } := I1.hok P _ hP
  have atP2 : (s1.heap.push o).get? P = some { cls := .none, data := .fields ps } := Heap.get?_push_of_some _ atP
  have hd2 : PySem.W.CodeHd (s1.heap.push o) c P := TB.code.keeps fun b u e => Heap.get?_push_of_some _ (I1.bk b u e)
  have sz2 : (s1.heap.push o).objs.size = s1.heap.objs.size + 1 := Heap.size_push ..
  cases found : codeAmong gpos ps.toList with
  | some cv =>
    apply wpAny_genexprCode_hit hcode (hd2.code atP2 tri) found
    refine h cv (s1.heap.push o) s1.toks #[] (Heap.ExtBut.refl _ _) (Nat.le_of_eq sz2.symm) ?_ ?_
    · rw [Array.append_empty]
      exact atP2
    · rw [Array.append_empty]
      exact tri
  | none =>
    apply wpAny_genexprCodeX hcode (hd2.code atP2 tri) (hd2.tab atP2) found
    intro c' h' tk hx hge hlt hco' _ htab' _
    obtain ⟨o1, vs, f1, tf, fl, tg, inF, tx, tt, op, _, _, _, _, _, _, _, _, _, htr, _⟩ := hco'
    refine h _ h' tk _ hx ?_ htab'.2 htr
    have l1 : (s1.heap.push o).objs.size ≤ h'.objs.size := Nat.le_trans hge (Nat.le_of_lt hlt)
    rw [sz2] at l1
    exact l1
theorem pe_allC {c P : Addr} {part : Expr} {x y : Str} {j k : Nat} {q1 q2 q3 px pa gpos pos : Pos} {scope : Scope} {te : TE}
    (hr : Room k X.A) (hg : Gl X "all") (zAll : X.mg "all" = none) (bAll : bootBuiltins "all" = some (.builtin "all")) (TB : TabB X.base X.mg c P) (hcode : X.env.code = .ref c) (S : GenS X.env scope x)
    (hi : PE X part te) (hN : X.N[j]? = some y) (hy : X.env.scope.names.lookup y = some .cell) (fy : scope.names.lookup y = some .free)
    (clo : ∀ (cells : List (Str × Addr)) (ca : Addr), cells.lookup y = some ca → (cloFrom cells scope.names []).lookup y = some ca)
    (dx : (x == ("__debug__" : Str)) = false) (dy : (y == ("__debug__" : Str)) = false) (ey : (y == ("__classdict__" : Str)) = false) (hf : ∀ v, genFold part X.env v = pure v)
    (he : starEach [.GeneratorExp (.Compare (.Name x q1) [.In] [.Name y q2] q3) [⟨.Name x px, part, [], 0⟩] scope gpos] X.env =
      (false, eval (.GeneratorExp (.Compare (.Name x q1) [.In] [.Name y q2] q3) [⟨.Name x px, part, [], 0⟩] scope gpos) X.env) :: starEach [] X.env := by rfl) :
    PE X (.Call (.Name "all" pa) [.GeneratorExp (.Compare (.Name x q1) [.In] [.Name y q2] q3) [⟨.Name x px, part, [], 0⟩] scope gpos] [] pos) (tAllC P j te) := by
  constructor
  intro pins s σ H Q I hQ
  have dep := hr.dp
  apply wpAny_Call_Name_kw
  apply ld_blt I hg zAll bAll
  · apply PyProof.Rows.callWith_builtin1 _ he (by rfl)
    rw [he]
    show wpAny _ _ (spliced ((false, eval (.GeneratorExp _ _ scope gpos) X.env) :: backTo pos (starEach [] X.env))) _ _ s
    apply Calls.spliced_cons
    apply wpAny_GeneratorExp_walksQ hr.hd S.co (closure_ok S.free) S.cell S.dot S.loc S.kind (by omega) _ hf
    refine wpAny_mono (hi.run pins s σ H _ I hQ) (fun pv s1 w1 => ?_) fun _ _ e => e
    obtain ⟨v, H1, I1, r1, a, z, ev, hz, ⟨ps, hP, tri⟩, q1⟩ := w1
    subst ev
    obtain ⟨ta, ea⟩ : ∃ t, pv = Value.str a t := r1
    subst ea
    -- the cell of y, and what is in it
    obtain ⟨mL, nsL, look⟩ := I1.loc
    obtain ⟨uz, rz, lk⟩ := look j y (.str z) hN hz (.inr (.inl hy))
    obtain ⟨tz, euz⟩ : ∃ t, uz = Value.str z t := rz
    subst euz
    have cellY : ∃ ca, X.env.cells.lookup y = some ca ∧ s1.heap.IsCell ca (some (.str z tz)) := by
      cases lk with
      | inl l =>
        have l1 : X.env.scope.names.lookup y = some .local := l.1
        rw [hy] at l1
        cases l1
      | inr l => exact l.2
    obtain ⟨ca, hca, isC⟩ := cellY
    apply wpAny_pyIter_str
    intro o St W hst
    refine ⟨I1.nolimit.push o, gen_code TB hcode I1 hP tri fun code h3 k3 more ext le3 atP3 tri3 => ?_⟩
    have atP : s1.heap.get? P = some { cls := .none, data := .fields ps } := I1.hok P _ hP
    have notP : ∀ b, s1.heap.objs.size ≤ b → b ≠ P := fun b hb e => by
      have := Heap.lt_size atP
      rw [← e] at this
      exact absurd (Nat.lt_of_lt_of_le this hb) (Nat.lt_irrefl _)
    have keep3 : ∀ b u, b ≠ P → s1.heap.get? b = some u → h3.get? b = some u := fun b u n e => ext b u n (Heap.get?_push_of_some _ e)
    have stat : cStatics < s1.heap.objs.size ∧ cStatics ≠ P := by
      obtain ⟨_, ns1, _⟩ := I1.nolimit
      refine ⟨ns1.lt, fun e => ?_⟩
      obtain ⟨o', es, ep, ho, hd, _⟩ := ns1
      rw [e, atP] at ho
      cases ho
      cases hd
    have cellP : ca ≠ P := fun e => by
      obtain ⟨oc, h1, h2⟩ := isC
      rw [e, atP] at h1
      cases h1
      cases h2
    obtain ⟨bm, ob, b1, b2, b3, b4, b5, b6, b7, b8⟩ := TB.bm
    have glob2 := (I1.mod.glob.keeps I1.bk).push o
    rw [← I1.ok.glob] at glob2
    refine wpAny_builtinsFor (m := X.mg) (glob2.extBut ext (by rw [I1.ok.glob]; exact TB.gP)) b1 b2 (keep3 _ _ b4 (I1.bk _ _ b5)) b6 b7 b8 ?_
    let it := s1.heap.objs.size
    refine ⟨it, [it], [it], a.cps.size, SignAt a, St, fun _ => true, fun i v => ∃ cc, a.cps[i]? = some cc ∧ v = .bool (decide (cc ∈ z.cps.toList)), rfl, W, ?_, ?_, (I1.nolimit.push o).extBut ext stat.2, ?_, ?_, ?_⟩
    · refine (W X.A hr.hd).frame _ _ _ hst fun b hb u e => ext b u ?_ e
      obtain rfl : b = it := List.mem_singleton.mp hb
      exact notP _ (Nat.le_refl _)
    · intro b hb
      obtain rfl : b = it := List.mem_singleton.mp hb
      exact le3
    · intro hb
      have e : cStatics = it := List.mem_singleton.mp hb
      have := stat.1
      rw [e] at this
      exact Nat.lt_irrefl _ this
    · intro href hhref
      have cell3 : href.get? ca = h3.get? ca ∧ ca < h3.objs.size ∧ ca ∉ [it] := by
        obtain ⟨oc, h1, h2⟩ := isC
        have l1 := Heap.lt_size h1
        have e3 := keep3 ca oc cellP h1
        refine ⟨(hhref ca oc e3).trans e3.symm, Nat.lt_of_lt_of_le l1 (Nat.le_of_succ_le le3), fun hm => ?_⟩
        have e : ca = it := List.mem_singleton.mp hm
        rw [e] at l1
        exact Nat.lt_irrefl _ l1
      refine ⟨fun A' E' i v s₂ m₂ hA hPv hn hm hk => ?_, fun A' E' i v s₂ m₂ hA hPv hp hn hm hk => ?_⟩
      · simp only [List.forIn_nil]
        exact wpAny_pure ⟨rfl, keeps_refl _⟩
      · obtain ⟨cc, u, hcc, rfl⟩ := hPv
        have isC2 : s₂.heap.IsCell ca (some (.str z tz)) := by
          obtain ⟨oc, h1, h2⟩ := isC
          exact ⟨oc, hk ca (List.mem_range.mpr cell3.2.1) cell3.2.2 oc (by rw [cell3.1]; exact keep3 ca oc cellP h1), h2⟩
        refine wpAny_mono (elt_in (s := s₂) (m := m₂) (c := cc) (t := u) (u := tz) (z := z) (ca := ca) S.kind S.loc fy dx dy ey hn hm (clo _ _ hca) isC2) (fun v s3 r => ⟨⟨cc, hcc, r.1⟩, r.2⟩) fun _ _ e => e
    · intro g h5 tk5 gs hgb hag hsz5 hk5 W5 hat
      simp only [GxR.passing_true, List.length_range] at W5
      have WS := W5.in4_1
      refine Calls.spliced_nil (call_all_walkS (WS.self 0 _ _ _ hat ⟨g, _, _, _, _, _, _, trF (fun c => decide (c ∈ z.cps.toList)) a.cps.toList, rfl, WS, hat, ?_, fun s' hmv => ?_⟩))
      · intro i v si Qi Ei hv hQi
        obtain ⟨i', hi', cc, hcc, rfl⟩ := hv
        obtain ⟨hlt, ei⟩ := List.getElem?_eq_some_iff.mp hi'
        rw [List.getElem_range] at ei
        subst ei
        have hQ2 : Qi (trF (fun c => decide (c ∈ z.cps.toList)) a.cps.toList i) si := hQi
        rw [trF_some (show a.cps.toList[i]? = some cc by rw [Array.getElem?_toList]; exact hcc)] at hQ2
        exact wpAny_truthy_bool hQ2
      · have fresh : ∀ b u, s1.heap.get? b = some u → b ∉ h3.objs.size :: [it] := fun b u e hb => by
          have hl : b < it := Heap.lt_size e
          rcases List.mem_cons.mp hb with z1 | z1
          · have le4 : it + 1 ≤ h3.objs.size := le3
            rw [z1] at hl
            exact absurd (Nat.lt_of_lt_of_le hl (Nat.le_of_succ_le le4)) (Nat.lt_irrefl _)
          · have e1 : b = it := List.mem_singleton.mp z1
            rw [e1] at hl
            exact Nat.lt_irrefl _ hl
        have J := inv_tab (more := more) (h' := s'.heap) (g' := s'.gens) (d' := s'.drawn) (t' := s'.toks) I1 hP (fun b u n e => hmv.heap b u (fresh b u e) (hk5 b u (keep3 b u n e)))
          (hmv.heap P _ (fresh P _ atP) (hk5 P _ atP3)) (AllBare.movedS (I1.bare.push hgb) hmv)
        rw [sh_eta s1 s' hmv.os] at J
        have fin := q1 (upd H1 P (.tbl (ps ++ more))) ⟨⟨_, upd_same, tri3⟩, fun b hb => upd_ne hb⟩
        rw [← all_signs a (fun c => decide (c ∈ z.cps.toList))] at fin
        exact ⟨.bl _, _, J, rfl, fin⟩
end Pk
set_option Elab.async false
set_option linter.all false
set_option maxRecDepth 100000
set_option maxHeartbeats 4000000
namespace Pk
open PySem PySem.Spec PyProof.Rows L2
def topS (i : Nat) : Stmt := PySem.Challenge.pw_wholepackets_k02_errors_of_tokens.main.body.getD i (.Pass ⟨0, 0, 0, 0⟩)
abbrev sState : Stmt := topS 27
abbrev sDraw : Stmt := topS 28
abbrev sPick : Stmt := topS 29
theorem scState : FnScope ["script", "seed", "cell"] ["script"] (defScope sState) := ⟨rfl, rfl, rfl, by decide +kernel, rfl, by decide +kernel, by decide +kernel⟩
theorem scDraw : FnScope ["state", "many", "cells", "value", "mixed"] ["state", "many"] (defScope sDraw) := ⟨rfl, rfl, rfl, by decide +kernel, rfl, by decide +kernel, by decide +kernel⟩
theorem scPick : FnScope ["state", "row"] ["state", "row"] (defScope sPick) := ⟨rfl, rfl, rfl, by decide +kernel, rfl, by decide +kernel, by decide +kernel⟩
section
variable {P : Program} {w : World} {K : PySem.W.Frag} {mg : Str → Option Value} {base : Heap}
theorem map_at {ns : List Int} {i : Nat} {y : V} (h : (ns.map V.int)[i]? = some y) : ∃ z, ns[i]? = some z ∧ y = V.int z := by
  rw [List.getElem?_map] at h
  cases e : ns[i]? with
  | none => rw [e] at h; cases h
  | some z => rw [e] at h; exact ⟨z, rfl, (Option.some.inj h).symm⟩
def absI (z : Int) : Int := if z < 0 then -z else z
theorem ok_state {f : Addr} {fd : FuncData} {k : Nat} (F : Fun K "_law_state" "_law_state" sState f fd) (T : Blt mg) : FnOk P w K mg base CX0 (k + 1) f fd ["script"] (spState K) := by
  refine F.ok scState (fun vs H Q E h => ?_) (fun cdv A outer s H vs Q E hr h => ?_)
  · obtain ⟨a, ns, rfl, _⟩ := h
    rfl
  · obtain ⟨a, ns, rfl, hS, hn, q⟩ := h
    refine ⟨_, pss_cons (ps_set (i := 1) scState.nd rfl (.inl rfl) pe_int)
      (pss_cons (ps_for PassesOwn.never rfl (pi_list (pv 0)) (pg_name (i := 2) scState.nd rfl (.inl rfl))
        (pss_one (ps_set (i := 1) scState.nd rfl (.inl rfl) (pe_op op_mod (pe_callTy call_int1 (by rfl) T.zInt (by decide +kernel) (pa_cons (pe_op op_add (pe_op op_mul (pv 1) pe_int) (pv 2)) pa_nil)) pe_int))))
      (pss_one (ps_ret (pe_lst (pa_cons (pe_lc (own := [("cell", 2)]) (g := gName 2) (tt := tYes) rfl scState.nd (pi_list (pv 0)) (blkOk_by (N := ["script", "seed", "cell"]) (sc := defScope sState) (by decide +kernel))
        (fun _ _ _ _ _ => pg_name (i := 2) scState.nd rfl (Or.inl rfl)) (fun _ _ _ _ _ => pts_nil) (fun _ _ _ _ _ => pe_callB call_abs (by rfl) T.zAbs (by decide +kernel) (pa_cons (pv 2) pa_nil)))
        (pa_cons (pe_op op_add (pv 1) pe_int) pa_nil)))))), ?_⟩
    refine ⟨_, rfl, a, rfl, ⟨_, hS⟩, for_list (K := K) (a := a) (xs := ns.map V.int) (fun i σ H' => ∃ (sd : Int) (v : Option V), σ = [some (.ref a), some (.int sd), v] ∧ H' = H ∧ 0 ≤ sd ∧ sd < 1000003)
      ⟨7, none, rfl, rfl, by decide, by decide⟩ (fun i σ H' _ ⟨_, _, _, e, _⟩ => by subst e; exact hS) ?_ ?_⟩
    · rintro i y σ H' hi ⟨sd, v, rfl, rfl, h0, h1⟩
      obtain ⟨z, _, rfl⟩ := map_at hi
      refine ⟨_, rfl, _, _, rfl, rfl, .inl ⟨by omega, by omega⟩, _, rfl, _, _, rfl, rfl, .inl ⟨_, rfl, _, _, rfl, rfl, (by show (0 : Int) < 1000003; decide), ?_⟩⟩
      exact ⟨_, _, rfl, rfl, Int.emod_nonneg _ (by decide), Int.emod_lt_of_pos _ (by decide)⟩
    · rintro σ H' ⟨sd, v, rfl, rfl, h0, h1⟩
      refine ⟨_, rfl, a, rfl, ⟨_, hS⟩, fun D hD => lc_list (K := K) (a := a) (xs := ns.map V.int) (fun i H2 => Same H' H2 ∧ H2 D = some (.lst ((ns.take i).map fun z => V.int (absI z))))
        ⟨same_new hD, upd_same⟩ (fun i H2 _ h => h.1.seq hS) ?_ ?_⟩
      · rintro i y H2 hi ⟨k1, k2⟩
        obtain ⟨z, hz, rfl⟩ := map_at hi
        refine ⟨rfl, ⟨_, rfl, _, rfl, _, k2, ?_, fun b o e => ?_, ?_⟩⟩
        · rw [List.length_map, List.length_take]
          exact Nat.lt_of_le_of_lt (Nat.min_le_right _ _) (small1000 (by omega))
        · rw [upd_ne (ne_of_none e hD)]
          exact k1 b o e
        · rw [upd_same, List.take_add_one, hz, List.map_append]
          rfl
      · rintro H2 ⟨k1, k2⟩
        refine ⟨_, rfl, _, _, rfl, rfl, (by show 2 ≤ sizeLine; decide), fun p hp => ?_⟩
        have e : (ns.map V.int).length = ns.length := List.length_map ..
        rw [e, List.take_length] at k2
        have npD : D ≠ p := ne_of_none k2 hp
        refine q _ p D (k1.trans (same_new hp)) (k1.free hp) hD ⟨ns.map absI, sd + 1, upd_same, ?_, ?_, by omega, by omega⟩
        · rw [upd_ne npD, k2, List.map_map]
          rfl
        · intro z hz
          obtain ⟨y, _, rfl⟩ := List.mem_map.mp hz
          unfold absI
          split <;> omega
theorem ok_draw {f : Addr} {fd : FuncData} {k : Nat} (F : Fun K "_law_draw" "_law_draw" sDraw f fd) (T : Blt mg) : FnOk P w K mg base CX0 (k + 1) f fd ["state", "many"] spDraw := by
  refine F.ok scDraw (fun vs H Q E h => ?_) (fun cdv A outer s H vs Q E hr h => ?_)
  · obtain ⟨s, c, many, rfl, _⟩ := h
    rfl
  · obtain ⟨s, c, many, rfl, hS, hm0, hm1, q⟩ := h
    refine ⟨_, pss_cons (ps_set (i := 2) scDraw.nd rfl (.inl rfl) (pe_ix ix_list (pv 0) pe_int (fun _ _ => rfl)))
      (pss_cons (ps_while PassesOwn.never (PW.pt (pw_and (pt_cmpR op_gt (pe_callB call_len_seq (by rfl) T.zLen PySem.boot_len (pa_cons (pv 2) pa_nil)) pe_int (nomark _)) (pw_and1 (pt_cmpR op_eq (pe_ix ix_list (pv 2) pe_int (fun _ _ => rfl)) pe_int (nomark _)))))
        (pss_one (ps_expr (pe_bm PySem.F.plainAttrs_list PySem.F.slot_list_pop PySem.F.type_list_pop mt_popAt (pv 2) (pa_cons pe_int pa_nil)))))
      (pss_cons (ps_if (pt_cmpR op_gt (pe_callB call_len_seq (by rfl) T.zLen PySem.boot_len (pa_cons (pv 2) pa_nil)) pe_int (nomark _))
        (pss_cons (ps_set (i := 3) scDraw.nd rfl (.inl rfl) (pe_ix ix_list (pv 2) pe_int (fun _ _ => rfl)))
        (pss_cons (ps_asg (pe_op op_fdivW (pv 3) (pv 1)) (pg_sub (pv 2) pe_int set_list))
        (pss_one (ps_ret (pe_op op_mod (pe_callTy call_int1 (by rfl) T.zInt (by decide +kernel) (pa_cons (pv 3) pa_nil)) (pv 1)))))) pss_nil)
      (pss_cons (ps_set (i := 4) scDraw.nd rfl (.inl rfl) (pe_op op_mod (pe_callTy call_int1 (by rfl) T.zInt (by decide +kernel) (pa_cons (pe_op op_add (pe_op op_mul (pe_ix ix_list (pv 0) pe_int (fun _ _ => rfl)) pe_int) pe_int) pa_nil)) pe_int))
      (pss_cons (ps_asg (pv 4) (pg_sub (pv 0) pe_int set_list))
      (pss_one (ps_ret (pe_op op_mod (pe_callTy call_int1 (by rfl) T.zInt (by decide +kernel) (pa_cons (pe_op op_fdivW (pv 4) pe_int) pa_nil)) (pv 1)))))))), ?_⟩
    have hSC := hS
    have hne := hS.ne
    obtain ⟨cells, seed, h1, h2, h3, h4, h5⟩ := hS
    refine ⟨.ref s, rfl, s, _, _, _, rfl, rfl, SqL.of h1, atI_nat (j := 0) rfl, ?_⟩
    -- the while: cells lose their zeros
    refine ⟨fun m σ H' => ∃ cs : List Int, m = cs.length ∧ σ = [some (.ref s), some (.int many), some (.ref c), none, none] ∧ H' s = some (.lst [.ref c, .int seed]) ∧ H' c = some (.lst (cs.map V.int)) ∧ (∀ z ∈ cs, 0 ≤ z) ∧ Kp s c H H',
      ⟨cells.length, cells, rfl, rfl, h1, h2, h3, Kp.refl _ _ _⟩, ?_⟩
    rintro m σ H' ⟨cs, rfl, rfl, g1, g2, g3, g4⟩
    refine ⟨.ref c, rfl, c, _, rfl, .inl (SqL.of g2), _, _, rfl, rfl, _, rfl, ?_⟩
    cases cs with
    | nil =>
      refine iteDF (by decide) (iteF ?_)
      -- no cell is left: mixed
      refine ⟨.ref c, rfl, c, _, rfl, .inl (SqL.of g2), _, _, rfl, rfl, _, rfl, iteDF (by decide) ?_⟩
      refine ⟨.ref s, rfl, s, _, _, _, rfl, rfl, SqL.of g1, atI_nat (j := 1) rfl, _, _, rfl, rfl, .inl ⟨by omega, by omega⟩, _, _, rfl, rfl, .inl ⟨_, rfl, _, _, rfl, rfl, (by show (0 : Int) < 2147483647; decide), ?_⟩⟩
      have b0 : 0 ≤ (seed * 48271 + 12345) % 2147483647 := Int.emod_nonneg _ (by decide)
      have b1 : (seed * 48271 + 12345) % 2147483647 < 2147483647 := Int.emod_lt_of_pos _ (by decide)
      refine ⟨_, rfl, .ref s, rfl, s, _, _, 1, rfl, rfl, g1, rfl, ?_⟩
      refine ⟨_, rfl, _, _, rfl, rfl, ⟨by decide, by decide⟩, .inl ⟨_, rfl, _, rfl, _, _, rfl, rfl, hm0, ?_⟩⟩
      refine q _ _ (Int.emod_nonneg _ (by omega)) (Int.emod_lt_of_pos _ hm0) ⟨[], _, upd_same, ?_, fun z hz => absurd hz (by simp), b0, by omega⟩ fun b o n1 n2 e => ?_
      · rw [upd_ne (Ne.symm hne)]
        exact g2
      · rw [upd_ne n1]
        exact g4 b o n1 n2 e
    | cons z r =>
      refine iteDT (by rw [List.length_map, List.length_cons]; omega) ?_
      refine ⟨.ref c, rfl, c, _, _, _, rfl, rfl, SqL.of g2, atI_nat (j := 0) rfl, rfl, _, rfl, ?_⟩
      rw [dcInt]
      refine iteD (fun hz => ?_) fun hz => ?_
      · -- a zero is dropped
        refine ⟨fun σ' H' => ∃ m', m' < (z :: r).length ∧ ∃ cs : List Int, m' = cs.length ∧ σ' = [some (.ref s), some (.int many), some (.ref c), none, none] ∧ H' s = some (.lst [.ref c, .int seed]) ∧ H' c = some (.lst (cs.map V.int)) ∧ (∀ z ∈ cs, 0 ≤ z) ∧ Kp s c H H',
          fun _ _ h => h, ?_⟩
        refine ⟨.ref c, rfl, .inl ⟨rfl, _, SqL.of g2⟩, c, _, _, 0, _, rfl, rfl, g2, by decide, by decide, ?_, rfl, r.length, by rw [List.length_cons]; omega, r, rfl, rfl, ?_, ?_, fun y hy => g3 y (List.mem_cons_of_mem _ hy), fun b o n1 n2 e => ?_⟩
        · exact PySem.StrLaws.seqIndex_nonneg (Int.le_refl 0) (by rw [List.length_map, List.length_cons]; omega)
        · rw [upd_ne hne]
          exact g1
        · rw [upd_same]
          rfl
        · rw [upd_ne n2]
          exact g4 b o n1 n2 e
      · -- the first cell is drawn from
        refine ⟨.ref c, rfl, c, _, rfl, .inl (SqL.of g2), _, _, rfl, rfl, _, rfl, iteDT (by rw [List.length_map, List.length_cons]; omega) ?_⟩
        have z0 := g3 z List.mem_cons_self
        refine ⟨.ref c, rfl, c, _, _, _, rfl, rfl, SqL.of g2, atI_nat (j := 0) rfl, ?_⟩
        refine ⟨_, rfl, _, rfl, _, _, rfl, rfl, wide_div (b := 41) hm0 (by omega) (by decide) (by decide), .ref c, rfl, c, _, _, 0, rfl, rfl, g2, ?_, ?_⟩
        · rw [List.length_map, List.length_cons]
          unfold ixN
          rw [if_pos (Int.le_refl 0), if_pos (by omega)]
          rfl
        refine ⟨_, rfl, .inl ⟨_, rfl, _, rfl, _, _, rfl, rfl, hm0, ?_⟩⟩
        refine q _ _ (Int.emod_nonneg _ (by omega)) (Int.emod_lt_of_pos _ hm0) ⟨z / many :: r, seed, ?_, ?_, ?_, h4, h5⟩ fun b o n1 n2 e => ?_
        · rw [upd_ne hne]
          exact g1
        · rw [upd_same]
          rfl
        · intro y hy
          rcases List.mem_cons.mp hy with rfl | hy
          · exact Int.ediv_nonneg z0 (by omega)
          · exact g3 y (List.mem_cons_of_mem _ hy)
        · rw [upd_ne n2]
          exact g4 b o n1 n2 e
theorem ok_pick {f fD : Addr} {fd fdD : FuncData} {k : Nat} (F : Fun K "_law_pick" "_law_pick" sPick f fd) (T : Blt mg) (G : FnOk P w K mg base CX0 (k + 1) fD fdD ["state", "many"] spDraw)
    (gD : mg "_law_draw" = some (.ref fD)) (kD : PySem.W.keepIn K (.ref fD) = true) (bD : Binds K fdD ["state", "many"] []) : FnOk P w K mg base CX0 (k + 2) f fd ["state", "row"] (spPick K) := by
  refine F.ok scPick (fun vs H Q E h => ?_) (fun cdv A outer s H vs Q E hr h => ?_)
  · obtain ⟨s, c, p, xs, rfl, _⟩ := h
    rfl
  · obtain ⟨s, c, p, xs, rfl, hS, hL, n1, n2, l0, l1, q⟩ := h
    refine ⟨_, pss_one (ps_ret (pe_ix ix_list (pv 1) (pe_call G hr (by rfl) gD kD bD .nil pass0 (pa_cons (pv 0) (pa_cons (pe_callB call_len_seq (by rfl) T.zLen PySem.boot_len (pa_cons (pv 1) pa_nil)) pa_nil))) (fun _ _ => rfl))), ?_⟩
    refine ⟨.ref p, rfl, .ref s, rfl, .ref p, rfl, p, xs, rfl, .inl hL, s, c, xs.length, rfl, hS, by omega, by omega, fun H' r r0 r1 hS' k' => ?_⟩
    obtain ⟨j, rfl⟩ : ∃ j : Nat, r = (j : Int) := ⟨r.toNat, by omega⟩
    have hj : j < xs.length := by omega
    have e : xs[j]? = some xs[j] := List.getElem?_eq_getElem hj
    exact ⟨p, xs, _, _, rfl, rfl, k'.seq hL n1 n2, atI_nat e, q H' j _ e hS' k'⟩
end
end Pk
set_option Elab.async false
set_option linter.all false
set_option maxRecDepth 100000
set_option maxHeartbeats 4000000
namespace Pk
open PySem PySem.Spec PyProof.Rows L2 SX GxR Tk
abbrev sIsRes : Stmt := topS 16
abbrev sTokenize : Stmt := topS 17
abbrev sComEnd : Stmt := topS 18
abbrev sPartEnd : Stmt := topS 19
abbrev sInRun : Stmt := topS 20
abbrev sTokenOf : Stmt := topS 21
abbrev sIsNum : Stmt := topS 22
abbrev sIsDec : Stmt := topS 23
abbrev sNumVal : Stmt := topS 24
abbrev sCons : Stmt := topS 25
theorem scIsRes : FnScope ["name"] ["name"] (defScope sIsRes) := ⟨rfl, rfl, rfl, by decide +kernel, rfl, by decide +kernel, by decide +kernel⟩
theorem scTokenize : FnScope ["text", "tokens", "line", "at", "char", "end"] ["text"] (defScope sTokenize) := ⟨rfl, rfl, rfl, by decide +kernel, rfl, by decide +kernel, by decide +kernel⟩
theorem scComEnd : FnScope ["text", "at", "end"] ["text", "at"] (defScope sComEnd) := ⟨rfl, rfl, rfl, by decide +kernel, rfl, by decide +kernel, by decide +kernel⟩
theorem scPartEnd : FnScope ["text", "at", "end"] ["text", "at"] (defScope sPartEnd) := ⟨rfl, rfl, rfl, by decide +kernel, rfl, by decide +kernel, by decide +kernel⟩
theorem scInRun : FnScope ["char"] ["char"] (defScope sInRun) := ⟨rfl, rfl, rfl, by decide +kernel, rfl, by decide +kernel, by decide +kernel⟩
theorem scTokenOf : FnScope ["part", "line"] ["part", "line"] (defScope sTokenOf) := ⟨rfl, rfl, rfl, by decide +kernel, rfl, by decide +kernel, by decide +kernel⟩
theorem scIsNum : FnScope ["part", "digits"] ["part"] (defScope sIsNum) := ⟨rfl, rfl, rfl, by decide +kernel, rfl, by decide +kernel, by decide +kernel⟩
theorem scIsDec : FnScope ["part"] ["part"] (defScope sIsDec) := ⟨rfl, rfl, rfl, by decide +kernel, rfl, by decide +kernel, by decide +kernel⟩
theorem scNumVal : FnScope ["part"] ["part"] (defScope sNumVal) := ⟨rfl, rfl, rfl, by decide +kernel, rfl, by decide +kernel, by decide +kernel⟩
theorem scCons : FnScope ["part", "chars"] ["part", "chars"] (defScope sCons) := ⟨rfl, rfl, rfl, by decide +kernel, rfl, by decide +kernel, by decide +kernel⟩
/-- the constants of the program's top -/
structure Tx (K : PySem.W.Frag) (mg : Str → Option Value) : Prop where
  zInt : mg "int" = none
  zLen : mg "len" = none
  zAll : mg "all" = none
  RES : ∃ p, mg "RESERVED" = some (.ref p) ∧ TupK K p (words.map V.str)
  LNG : ∃ p, mg "LONG_SIGNS" = some (.ref p) ∧ TupK K p (longs.map V.str)
  SHT : ∃ p, mg "SHORT_SIGNS" = some (.ref p) ∧ TupK K p (shorts.map V.str)
  LET : ∃ u, mg "LETTERS" = some u ∧ RelV (.str lettersS) u
  DIG : ∃ u, mg "DIGITS" = some u ∧ RelV (.str digitsS) u
  HEX : ∃ u, mg "HEX_DIGITS" = some u ∧ RelV (.str hexS) u
  LNM : ∃ u, mg "LONGEST_NAME" = some u ∧ RelV (.int 16) u
  MDG : ∃ u, mg "MOST_DIGITS" = some u ∧ RelV (.int 10) u
  MHX : ∃ u, mg "MOST_HEX_DIGITS" = some u ∧ RelV (.int 8) u
  GRT : ∃ u, mg "GREATEST_NUMBER" = some u ∧ RelV (.int 4294967295) u
/-! ### promises -/
def spIsRes : Sp := fun vs H Q _ => ∃ x : Str, vs = [.str x] ∧ Q (.bl (decide (x ∈ words))) H
def spInRun : Sp := fun vs H Q _ => ∃ c : Nat, vs = [.str (S [c])] ∧ Q (.bl (inRun c)) H
/-- where the comment ends that begins at i -/
def comLen (t : List Nat) : Nat := (t.takeWhile (· ≠ 10)).length
def spComEnd : Sp := fun vs H Q _ => ∃ (t : List Nat) (i : Nat), vs = [.str (S t), .int i] ∧ i ≤ t.length ∧ t.length ≤ 16000000 ∧ Q (.int ((i + comLen (t.drop i) : Nat) : Int)) H
def spPartEnd : Sp := fun vs H Q _ => ∃ (t : List Nat) (i : Nat), vs = [.str (S t), .int i] ∧ i < t.length ∧ t.length ≤ 16000000 ∧ Q (.int ((i + partLen (t.drop i) : Nat) : Int)) H
def spCons (P : Addr) : Sp := fun vs H Q _ => ∃ (p : List Nat) (z : Str), vs = [.str (S p), .str z] ∧ TabG H P ∧ ∀ H', Tabbed P H H' → Q (.bl (allIn p z.cps.toList)) H'
def spIsNum (P : Addr) : Sp := fun vs H Q _ => ∃ p : List Nat, vs = [.str (S p)] ∧ p ≠ [] ∧ p.length ≤ 16000000 ∧ TabG H P ∧ ∀ H', Tabbed P H H' → Q (.bl (isNum p)) H'
/-- a number in decimal digits that is not too great -/
def isDec (p : List Nat) : Bool :=
  if p.take 1 = [48] then decide (p = [48])
  else if 1 ≤ p.length ∧ p.length ≤ 10 then allIn p digits && decide (NumText.digitsVal p ≤ 4294967295) else false
def spIsDec (P : Addr) : Sp := fun vs H Q _ => ∃ p : List Nat, vs = [.str (S p)] ∧ p.length ≤ 16000000 ∧ TabG H P ∧ ∀ H', Tabbed P H H' → Q (.bl (isDec p)) H'
theorem isDec_num {p : List Nat} (hne : p ≠ []) (hx : ¬ isHexed p = true) : isNum p = isDec p := by
  have h0 : 1 ≤ p.length := by
    cases p with
    | nil => exact absurd rfl hne
    | cons a r => rw [List.length_cons]; omega
  unfold isNum isDec
  rw [if_neg hx]
  by_cases h1 : p.take 1 = [48]
  · rw [if_pos h1, if_pos h1]
  · rw [if_neg h1, if_neg h1]
    by_cases h2 : 10 < p.length
    · rw [if_pos h2, if_neg (by omega)]
    · rw [if_neg h2, if_pos ⟨h0, by omega⟩]
def spNumVal : Sp := fun vs H Q _ => ∃ p : List Nat, vs = [.str (S p)] ∧ p ≠ [] ∧ isNum p = true ∧ Q (.int (numVal p)) H
section
variable {P : Program} {w : World} {K : PySem.W.Frag} {mg : Str → Option Value} {base : Heap}
theorem ok_isres {f : Addr} {fd : FuncData} {k : Nat} (F : Fun K "is_reserved" "is_reserved" sIsRes f fd) (T : Tx K mg) : FnOk P w K mg base CX0 (k + 1) f fd ["name"] spIsRes := by
  obtain ⟨p, gp, tp⟩ := T.RES
  refine F.ok scIsRes (fun vs H Q E h => ?_) (fun cdv A outer s H vs Q E hr h => ?_)
  · obtain ⟨x, rfl, _⟩ := h
    rfl
  · obtain ⟨x, rfl, q⟩ := h
    refine ⟨_, pss_one (ps_ret (pe_cmpR op_in_seq (pv 0) (pe_glob (v := .ref p) rfl gp rfl) (by rfl))), ?_⟩
    refine ⟨_, rfl, p, _, rfl, .inr (tp.at H), rfl, flat_strs _, ?_⟩
    show Q (.bl (inV (.str x) (words.map V.str))) H
    rw [inV_strs]
    exact q
theorem us_code : Str.ofString "_" = S [95] := by decide +kernel
theorem ok_inrun {f : Addr} {fd : FuncData} {k : Nat} (F : Fun K "in_run" "in_run" sInRun f fd) (T : Tx K mg) : FnOk P w K mg base CX0 (k + 1) f fd ["char"] spInRun := by
  obtain ⟨uL, gL, rL⟩ := T.LET
  obtain ⟨uD, gD, rD⟩ := T.DIG
  refine F.ok scInRun (fun vs H Q E h => ?_) (fun cdv A outer s H vs Q E hr h => ?_)
  · obtain ⟨x, rfl, _⟩ := h
    rfl
  · obtain ⟨c, rfl, q⟩ := h
    refine ⟨_, pss_one (ps_ret (pe_or (pe_cmpR op_in_sign (pv 0) (pe_glob rfl gL rL) (by rfl)) (pe_or (pe_cmpR op_in_sign (pv 0) (pe_glob rfl gD rD) (by rfl)) (pe_one (pe_cmpR op_eq (pv 0) pe_str (nomark _)))))), ?_⟩
    have e : inRun c = (decide (c ∈ letters) || decide (c ∈ digits) || decide (c = 95)) := rfl
    refine ⟨_, rfl, c, lettersS, rfl, rfl, _, rfl, iteD (fun h1 => ?_) fun h1 => ?_⟩
    · rw [e, decide_eq_true h1] at q
      exact q
    · refine ⟨_, rfl, c, digitsS, rfl, rfl, _, rfl, iteD (fun h2 => ?_) fun h2 => ?_⟩
      · rw [e, decide_eq_true h2, Bool.or_true] at q
        exact q
      · refine ⟨_, rfl, rfl, ?_⟩
        rw [e, decide_eq_false h1, decide_eq_false h2] at q
        rw [us_code, dcStr, dcS]
        have e2 : decide ([c] = [95]) = decide (c = 95) := by
          by_cases h : c = 95
          · rw [h]; rfl
          · rw [decide_eq_false h, decide_eq_false fun z => h (List.cons.inj z).1]
        rw [e2]
        exact q
theorem nl_code : Str.ofString "\n" = S [10] := by decide +kernel
theorem ok_comend {f : Addr} {fd : FuncData} {k : Nat} (F : Fun K "comment_end" "comment_end" sComEnd f fd) (T : Tx K mg) : FnOk P w K mg base CX0 (k + 1) f fd ["text", "at"] spComEnd := by
  refine F.ok scComEnd (fun vs H Q E h => ?_) (fun cdv A outer s H vs Q E hr h => ?_)
  · obtain ⟨t, i, rfl, _⟩ := h
    rfl
  · obtain ⟨t, i, rfl, hi, hz, q⟩ := h
    refine ⟨_, pss_cons (ps_set (i := 2) scComEnd.nd rfl (.inl rfl) (pe_bm PySem.F.plainAttrs_str PySem.F.slot_str_find PySem.F.type_str_find mt_find3 (pv 0) (pa_cons pe_str (pa_cons (pv 1) pa_nil))))
      (pss_cons (ps_if (pt_cmpR op_eq (pv 2) (pe_un un_neg pe_int) (nomark _)) (pss_one (ps_ret (pe_callB call_len_str (by rfl) T.zLen PySem.boot_len (pa_cons (pv 0) pa_nil)))) pss_nil)
      (pss_one (ps_ret (pv 2)))), ?_⟩
    refine ⟨_, rfl, rfl, _, rfl, _, _, _, rfl, rfl, ?_⟩
    rw [nl_code]
    have hl : (S t).length = t.length := S_len t
    rcases find_sign 10 hi with ⟨e1, e2⟩ | ⟨e1, e2⟩
    · rw [e1]
      refine ⟨_, rfl, 1, rfl, rfl, _, rfl, iteT ?_⟩
      refine ⟨_, rfl, _, rfl, ?_, ?_⟩
      · rw [hl, sizeLine_eq]
        omega
      · have : i + comLen (t.drop i) = t.length := by
          unfold comLen
          rw [e2, List.length_drop]
          omega
        rw [this] at q
        rw [hl]
        exact q
    · rw [e1]
      refine ⟨_, rfl, 1, rfl, rfl, _, rfl, ?_⟩
      rw [dcInt]
      exact iteDF (by omega) ⟨_, rfl, q⟩
end
end Pk
set_option Elab.async false
set_option linter.all false
set_option maxRecDepth 100000
set_option maxHeartbeats 4000000
namespace Pk
open PySem PySem.Spec PyProof.Rows L2 SX GxR Tk
section
variable {P : Program} {w : World} {K : PySem.W.Frag} {mg : Str → Option Value} {base : Heap}
theorem at_S {t : List Nat} {i : Nat} (h : i < t.length) : atI (S t).cps.toList (i : Int) = some t[i] := atI_nat (by show t[i]? = some t[i]; exact List.getElem?_eq_getElem h)
theorem drop_run (t : List Nat) (i : Nat) (h : i < t.length) : (t.drop i).takeWhile inRun = if inRun t[i] = true then t[i] :: (t.drop (i + 1)).takeWhile inRun else [] := by
  rw [List.drop_eq_getElem_cons h, List.takeWhile_cons]
theorem runLen_at {t : List Nat} {i : Nat} (h : i < t.length) (hr : inRun t[i] = true) : partLen (t.drop i) = ((t.drop i).takeWhile inRun).length := by
  unfold partLen
  rw [List.drop_eq_getElem_cons h, ← inRun_iff (r := t.drop (i + 1)), if_pos hr]
theorem ok_partend {f : Addr} {fd : FuncData} {k : Nat} (F : Fun K "part_end" "part_end" sPartEnd f fd) (T : Tx K mg) (DR : Df P w K mg base CX0 (k + 1) "in_run" ["char"] spInRun) : FnOk P w K mg base CX0 (k + 2) f fd ["text", "at"] spPartEnd := by
  obtain ⟨pl, gl, tl⟩ := T.LNG
  obtain ⟨fR, fdR, GR, gR, kR, bR⟩ := DR.ex
  refine F.ok scPartEnd (fun vs H Q E h => ?_) (fun cdv A outer s H vs Q E hr h => ?_)
  · obtain ⟨t, i, rfl, _⟩ := h
    rfl
  · obtain ⟨t, i, rfl, hi, hz, q⟩ := h
    have hl : (S t).length = t.length := S_len t
    have hsz : (S t).length ≤ sizeLine := by rw [hl, sizeLine_eq]; omega
    refine ⟨_, pss_cons (ps_if (pt_not (pt_val (pe_call GR hr (by rfl) gR kR bR .nil pass0 (pa_cons (pe_ix ix_str (pv 0) (pv 1) (fun _ _ => rfl)) pa_nil)) (by intro _; rfl)))
        (pss_cons (ps_if (pt_cmpR op_in_seq (pe_slice sl_str (pv 0) (po_some (pv 1)) (po_some (pe_op op_add (pv 1) pe_int))) (pe_glob (v := .ref pl) rfl gl rfl) (by rfl)) (pss_one (ps_ret (pe_op op_add (pv 1) pe_int))) pss_nil)
        (pss_one (ps_ret (pe_op op_add (pv 1) pe_int)))) pss_nil)
      (pss_cons (ps_set (i := 2) scPartEnd.nd rfl (.inl rfl) (pv 1))
      (pss_cons (ps_while PassesOwn.never (PW.pt (pw_and (pt_cmpR op_lt (pv 2) (pe_callB call_len_str (by rfl) T.zLen PySem.boot_len (pa_cons (pv 0) pa_nil)) (nomark _))
          (pw_and1 (pt_val (pe_call GR hr (by rfl) gR kR bR .nil pass0 (pa_cons (pe_ix ix_str (pv 0) (pv 2) (fun _ _ => rfl)) pa_nil)) (by intro _; rfl)))))
        (pss_one (ps_aug (i := 2) scPartEnd.nd rfl (.inl rfl) pe_int ip_add)))
      (pss_one (ps_ret (pv 2))))), ?_⟩
    refine ⟨_, rfl, _, rfl, _, _, _, rfl, rfl, hsz, at_S hi, _, rfl, _, rfl, ?_⟩
    cases hrun : inRun t[i] with
    | false =>
      refine iteT ?_
      refine ⟨_, rfl, _, rfl, _, rfl, _, rfl, _, _, rfl, rfl, _, rfl, _, rfl, hsz, pl, _, rfl, .inr (tl.at H), rfl, flat_strs _, ?_⟩
      have e2 : cutS (S t) (some (i : Int)) (some ((i : Int) + 2)) = S ((t.drop i).take 2) := by
        have := cut2 t i (i + 2)
        rw [show i + 2 - i = 2 by omega] at this
        exact this
      show ∃ k, V.bl (inV (.str (cutS (S t) (some (i : Int)) (some ((i : Int) + 2)))) (longs.map V.str)) = .bl k ∧ _
      rw [e2, inV_strs]
      have hp : partLen (t.drop i) = if S ((t.drop i).take 2) ∈ longs then 2 else 1 := by
        unfold partLen
        rw [List.drop_eq_getElem_cons hi, ← inRun_iff (r := t.drop (i + 1)), if_neg (by rw [hrun]; exact Bool.false_ne_true)]
      refine ⟨_, rfl, iteD (fun h => ?_) fun h => ?_⟩
      · rw [hp, if_pos h] at q
        exact ⟨_, rfl, _, _, rfl, rfl, q⟩
      · rw [hp, if_neg h] at q
        exact ⟨_, rfl, _, _, rfl, rfl, q⟩
    | true =>
      refine iteF ?_
      rw [runLen_at hi hrun] at q
      -- end: i and a part of the run
      refine ⟨_, rfl, ⟨fun m σ H' => ∃ j : Nat, m = t.length - j ∧ σ = [some (.str (S t)), some (.int i), some (.int j)] ∧ H' = H ∧ j ≤ t.length ∧ i + ((t.drop i).takeWhile inRun).length = j + ((t.drop j).takeWhile inRun).length,
        ⟨t.length - i, i, rfl, rfl, rfl, by omega, rfl⟩, ?_⟩⟩
      rintro m σ H' ⟨j, rfl, rfl, rfl, hj, ej⟩
      refine ⟨_, rfl, _, rfl, _, rfl, hsz, _, _, rfl, rfl, _, rfl, iteD (fun h => ?_) fun h => ?_⟩
      · have hj2 : j < t.length := by rw [hl] at h; omega
        refine ⟨_, rfl, _, rfl, _, _, _, rfl, rfl, hsz, at_S hj2, _, rfl, _, rfl, ?_⟩
        cases hrj : inRun t[j] with
        | true =>
          refine iteT ⟨fun σ' H'' => ∃ m', m' < t.length - j ∧ ∃ j : Nat, m' = t.length - j ∧ σ' = [some (.str (S t)), some (.int i), some (.int j)] ∧ H'' = H' ∧ j ≤ t.length ∧ i + ((t.drop i).takeWhile inRun).length = j + ((t.drop j).takeWhile inRun).length,
            fun _ _ h => h, ?_⟩
          refine ⟨_, rfl, _, _, rfl, rfl, t.length - (j + 1), by omega, j + 1, rfl, rfl, rfl, by omega, ?_⟩
          rw [ej, drop_run t j hj2, if_pos hrj, List.length_cons]
          omega
        | false =>
          refine iteF ⟨_, rfl, ?_⟩
          rw [drop_run t j hj2, if_neg (by rw [hrj]; exact Bool.false_ne_true)] at ej
          rw [ej] at q
          exact q
      · have hj2 : j = t.length := by rw [hl] at h; omega
        refine iteF ⟨_, rfl, ?_⟩
        rw [hj2, List.drop_of_length_le (Nat.le_refl _)] at ej
        rw [ej, ← hj2] at q
        exact q
/-! ### all of a text's signs among others -/
theorem ok_cons {f c Pt : Addr} {oc : Value} {od an : Option Addr} {osl : Array (Option Value)} {kV doc pm ct : Value} {k : Nat}
    (l : K.lookup f = some ⟨oc, od, .func (PySem.W.fnOf "consists_of" "consists_of" (defArgs sCons) (defBody sCons) (defScope sCons) .none kV doc pm an (.ref c) ct), osl⟩)
    (hcd : PySem.W.codeIn K (.ref c) "consists_of" = true) (T : Tx K mg) (TB : TabB base mg c Pt) :
    FnOk P w K mg base CX0 (k + 1) f (PySem.W.fnOf "consists_of" "consists_of" (defArgs sCons) (defBody sCons) (defScope sCons) .none kV doc pm an (.ref c) ct) ["part", "chars"] (spCons Pt) := by
  refine fn_of l hcd scCons (fun vs H Q E h => ?_) fun A outer s H vs Q E hr h => ?_
  · obtain ⟨p, z, rfl, _⟩ := h
    rfl
  · obtain ⟨p, z, rfl, tg, q⟩ := h
    refine ⟨_, (PSs.nox (pss_one (ps_ret (pe_allC (P := Pt) (c := c) (j := 1) hr (by rfl) T.zAll (by decide +kernel) TB rfl ⟨rfl, rfl, by decide +kernel, rfl, rfl, fun y hy e => ?fr⟩ (pv 0) rfl rfl rfl (fun cells ca h => ?clo) (by decide +kernel) (by decide +kernel) (by decide +kernel) (fun _ => rfl))))), ?_⟩
    case fr =>
      have key : ∀ y ∈ ([(Str.ofString ".0", NameKind.local), (Str.ofString "char", NameKind.local), (Str.ofString "chars", NameKind.free)] : List (Str × NameKind)), y.2 = .free → y.1 = Str.ofString "chars" := by decide +kernel
      rw [key y hy e]
      exact cell_has (sc := defScope sCons) rfl
    case clo =>
      show List.lookup (Str.ofString "chars") [(Str.ofString "chars", (List.lookup (Str.ofString "chars") cells).getD 0)] = some ca
      rw [h, List.lookup_cons, beq_self_eq_true]
      rfl
    exact ⟨_, rfl, S p, z, rfl, rfl, tg, fun H2 h2 => q H2 h2⟩
/-! ### numbers -/
theorem zx_code : Str.ofString "0x" = S [48, 120] := by decide +kernel
theorem zero_code : Str.ofString "0" = S [48] := by decide +kernel
theorem head_one {p : List Nat} (h : p ≠ []) : ∃ c r, p = c :: r := by
  cases p with
  | nil => exact absurd rfl h
  | cons c r => exact ⟨c, r, rfl⟩
theorem digit_of {c : Nat} (h : c ∈ digits) : 48 ≤ c ∧ c ≤ 57 := by
  have key : ∀ d ∈ digits, 48 ≤ d ∧ d ≤ 57 := by decide +kernel
  exact key c h
theorem all_digits {p : List Nat} (h : allIn p digits = true) : NumText.AllDigits p := fun c hc => digit_of (of_decide_eq_true (List.all_eq_true.mp h c hc))
theorem hex_of {c : Nat} (h : c ∈ hexes) : Hx.IsHex c := by
  have key : ∀ d ∈ hexes, (48 ≤ d ∧ d ≤ 57) ∨ (97 ≤ d ∧ d ≤ 102) := by decide +kernel
  rcases key c h with h | h
  · exact .inl h
  · exact .inr (.inl h)
theorem ok_numval {f : Addr} {fd : FuncData} {k : Nat} (F : Fun K "number_value" "number_value" sNumVal f fd) (T : Tx K mg) : FnOk P w K mg base CX0 (k + 1) f fd ["part"] spNumVal := by
  refine F.ok scNumVal (fun vs H Q E h => ?_) (fun cdv A outer s H vs Q E hr h => ?_)
  · obtain ⟨p, rfl, _⟩ := h
    rfl
  · obtain ⟨p, rfl, hne, hn, q⟩ := h
    refine ⟨_, pss_cons (ps_if (pt_val (pe_bm PySem.F.plainAttrs_str PySem.F.slot_str_startswith PySem.F.type_str_startswith mt_startswith (pv 0) (pa_cons pe_str pa_nil)) (by intro _; rfl))
        (pss_one (ps_ret (pe_callTy call_int_hex (by rfl) T.zInt (by decide +kernel) (pa_cons (pe_slice sl_str (pv 0) (po_some pe_int) po_none) (pa_cons pe_int pa_nil))))) pss_nil)
      (pss_one (ps_ret (pe_callTy call_int_str (by rfl) T.zInt (by decide +kernel) (pa_cons (pv 0) pa_nil)))), ?_⟩
    refine ⟨_, rfl, rfl, _, _, rfl, rfl, ?_⟩
    rw [zx_code, starts2]
    have hb : isHexed p = decide (p.take [48, 120].length = [48, 120]) := rfl
    refine ⟨_, rfl, iteD (fun h => ?_) fun h => ?_⟩
    · have hx : isHexed p = true := by rw [hb]; exact decide_eq_true h
      unfold isNum at hn
      rw [if_pos hx, Bool.and_eq_true, Bool.and_eq_true, decide_eq_true_eq, decide_eq_true_eq] at hn
      obtain ⟨⟨h1, h2⟩, h3⟩ := hn
      have hlen : p.length ≤ 10 := by rw [List.length_drop] at h2; omega
      unfold numVal at q
      rw [if_pos hx] at q
      refine ⟨_, rfl, 2, rfl, _, rfl, by rw [S_len, sizeLine_eq]; omega, p.drop 2, ?_, ?_, by omega, fun c hc => hex_of (of_decide_eq_true (List.all_eq_true.mp h3 c hc)), q⟩
      · have e := cut1f p 2
        show [V.str (cutS (S p) (some ((2 : Nat) : Int)) none), V.int 16] = _
        rw [e]
      · intro z
        rw [z] at h1
        simp at h1
    · have hx : ¬ isHexed p = true := by rw [hb, decide_eq_true_eq]; exact h
      unfold isNum at hn
      unfold numVal at q
      rw [if_neg hx] at hn q
      have hd : NumText.AllDigits p ∧ p.length ≤ 10 := by
        by_cases h0 : p.take 1 = [48]
        · rw [if_pos h0] at hn
          have e := of_decide_eq_true hn
          subst e
          exact ⟨fun c hc => by obtain rfl := List.mem_singleton.mp hc; omega, by decide⟩
        · rw [if_neg h0] at hn
          by_cases h1 : 10 < p.length
          · rw [if_pos h1] at hn
            cases hn
          · rw [if_neg h1, Bool.and_eq_true] at hn
            exact ⟨all_digits hn.1, by omega⟩
      refine ⟨_, rfl, S p, _, rfl, PySem.intText_digits (x := S p) hd.1 hne (by rw [S_len]; omega), by rw [S_len]; omega, q⟩
theorem Tabbed.refl {Pt : Addr} {H : Hp} (h : TabG H Pt) : Tabbed Pt H H := ⟨h, fun _ _ => rfl⟩
theorem iteNF {p A B : Prop} [Decidable p] (h : p) (b : B) : if (!decide p) = true then A else B := by
  rw [decide_eq_true h]
  exact b
theorem iteNT {p A B : Prop} [Decidable p] (h : ¬ p) (a : A) : if (!decide p) = true then A else B := by
  rw [decide_eq_false h]
  exact a
theorem ok_isdec {f Pt : Addr} {fd : FuncData} {k : Nat} (F : Fun K "is_decimal" "is_decimal" sIsDec f fd) (T : Tx K mg) (DC : Df P w K mg base CX0 (k + 1) "consists_of" ["part", "chars"] (spCons Pt)) : FnOk P w K mg base CX0 (k + 2) f fd ["part"] (spIsDec Pt) := by
  obtain ⟨fC, fdC, GC, gC, kC, bC⟩ := DC.ex
  obtain ⟨uD, gD, rD⟩ := T.DIG
  obtain ⟨uM, gM, rM⟩ := T.MDG
  obtain ⟨uG, gG, rG⟩ := T.GRT
  refine F.ok scIsDec (fun vs H Q E h => ?_) (fun cdv A outer s H vs Q E hr h => ?_)
  · obtain ⟨p, rfl, _⟩ := h
    rfl
  · obtain ⟨p, rfl, hz, tg, q⟩ := h
    have hsz : (S p).length ≤ sizeLine := by rw [S_len, sizeLine_eq]; omega
    refine ⟨_, pss_cons (ps_if (pt_val (pe_bm PySem.F.plainAttrs_str PySem.F.slot_str_startswith PySem.F.type_str_startswith mt_startswith (pv 0) (pa_cons pe_str pa_nil)) (by intro _; rfl)) (pss_one (ps_ret (pe_cmpR op_eq (pv 0) pe_str (nomark _)))) pss_nil)
      (pss_cons (ps_if (PW.pt (pw_or (pt_not (pt_chain op_le op_le pe_int (pe_callB call_len_str (by rfl) T.zLen PySem.boot_len (pa_cons (pv 0) pa_nil)) (pe_glob rfl gM rM)))
          (pw_or1 (pt_not (pt_val (pe_call GC hr (by rfl) gC kC bC .nil pass0 (pa_cons (pv 0) (pa_cons (pe_glob rfl gD rD) pa_nil))) (by intro _; rfl))))))
        (pss_one (ps_ret pe_bl)) pss_nil)
      (pss_one (ps_ret (pe_cmpR op_le (pe_callTy call_int_str (by rfl) T.zInt (by decide +kernel) (pa_cons (pv 0) pa_nil)) (pe_glob rfl gG rG) (nomark _))))), ?_⟩
    refine ⟨_, rfl, rfl, _, _, rfl, rfl, ?_⟩
    rw [zero_code, starts2]
    refine ⟨_, rfl, iteD (fun h0 => ?_) fun h0 => ?_⟩
    · have := q H (Tabbed.refl tg)
      have h0' : p.take 1 = [48] := h0
      unfold isDec at this
      rw [if_pos h0'] at this
      refine ⟨_, rfl, rfl, ?_⟩
      rw [dcStr, dcS]
      exact this
    · have h0' : ¬ p.take 1 = [48] := h0
      have e1 : isDec p = if 1 ≤ p.length ∧ p.length ≤ 10 then allIn p digits && decide (NumText.digitsVal p ≤ 4294967295) else false := if_neg h0'
      refine ⟨_, rfl, _, rfl, hsz, _, _, rfl, rfl, _, rfl, ?_⟩
      have hlI : (((S p).length : Nat) : Int) = (p.length : Int) := by rw [S_len]
      rw [hlI]
      by_cases h1 : 1 ≤ p.length
      · refine iteDT (by omega) ⟨_, _, rfl, rfl, _, rfl, ?_⟩
        by_cases h2 : p.length ≤ 10
        · have e2 := e1.trans (if_pos ⟨h1, h2⟩)
          refine iteNF (show ((p.length : Nat) : Int) ≤ 10 by omega) ⟨_, rfl, p, digitsS, rfl, tg, fun H' hH => ⟨_, rfl, ?_⟩⟩
          have q2 := q H' hH
          cases ha : allIn p digits with
          | false =>
            refine iteT ?_
            rw [e2, ha] at q2
            exact q2
          | true =>
            refine iteF ?_
            rw [e2, ha, Bool.true_and] at q2
            refine ⟨_, rfl, S p, _, rfl, PySem.intText_digits (x := S p) (all_digits ha) (by rintro rfl; exact absurd h1 (by decide)) (by rw [S_len]; omega), by rw [S_len]; omega, _, _, rfl, rfl, ?_⟩
            have e4 : decide (((NumText.digitsVal p : Nat) : Int) ≤ 4294967295) = decide (NumText.digitsVal p ≤ 4294967295) := by
              rw [Bool.eq_iff_iff, decide_eq_true_eq, decide_eq_true_eq]
              omega
            show Q (.bl (decide (((NumText.digitsVal p : Nat) : Int) ≤ 4294967295))) H'
            rw [e4]
            exact q2
        · have e2 := e1.trans (if_neg fun z => h2 z.2)
          refine iteNT (show ¬ ((p.length : Nat) : Int) ≤ 10 by omega) ?_
          have := q H (Tabbed.refl tg)
          rw [e2] at this
          exact this
      · have e2 := e1.trans (if_neg fun z => h1 z.1)
        refine iteDF (by omega) ⟨_, rfl, iteT ?_⟩
        have := q H (Tabbed.refl tg)
        rw [e2] at this
        exact this
theorem ok_isnum {f Pt : Addr} {fd : FuncData} {k : Nat} (F : Fun K "is_number" "is_number" sIsNum f fd) (T : Tx K mg) (DC : Df P w K mg base CX0 (k + 1) "consists_of" ["part", "chars"] (spCons Pt)) (DD : Df P w K mg base CX0 (k + 2) "is_decimal" ["part"] (spIsDec Pt)) : FnOk P w K mg base CX0 (k + 3) f fd ["part"] (spIsNum Pt) := by
  obtain ⟨fC, fdC, GC, gC, kC, bC⟩ := DC.ex
  obtain ⟨fD, fdD, GD, gD, kD, bD⟩ := DD.ex
  obtain ⟨uH, gH, rH⟩ := T.HEX
  obtain ⟨uX, gX, rX⟩ := T.MHX
  refine F.ok scIsNum (fun vs H Q E h => ?_) (fun cdv A outer s H vs Q E hr h => ?_)
  · obtain ⟨p, rfl, _⟩ := h
    rfl
  · obtain ⟨p, rfl, hne, hz, tg, q⟩ := h
    have hsz : ∀ l : List Nat, l.length ≤ p.length → (S l).length ≤ sizeLine := fun l hl => by rw [S_len, sizeLine_eq]; omega
    have hrC : Room (k + 1) _ := hr.mono (by omega)
    refine ⟨_, pss_cons (ps_if (pt_val (pe_bm PySem.F.plainAttrs_str PySem.F.slot_str_startswith PySem.F.type_str_startswith mt_startswith (pv 0) (pa_cons pe_str pa_nil)) (by intro _; rfl))
        (pss_cons (ps_set (i := 1) scIsNum.nd rfl (.inl rfl) (pe_slice sl_str (pv 0) (po_some pe_int) po_none))
        (pss_one (ps_ret (pe_and (pe_chain op_le op_le pe_int (pe_callB call_len_str (by rfl) T.zLen PySem.boot_len (pa_cons (pv 1) pa_nil)) (pe_glob rfl gX rX))
          (pe_one (pe_call GC hrC (by rfl) gC kC bC .nil pass0 (pa_cons (pv 1) (pa_cons (pe_glob rfl gH rH) pa_nil)))))))) pss_nil)
      (pss_one (ps_ret (pe_call GD hr (by rfl) gD kD bD .nil pass0 (pa_cons (pv 0) pa_nil)))), ?_⟩
    refine ⟨_, rfl, rfl, _, _, rfl, rfl, ?_⟩
    rw [zx_code, starts2]
    have hb : isHexed p = decide (p.take [48, 120].length = [48, 120]) := rfl
    refine ⟨_, rfl, iteD (fun h => ?_) fun h => ?_⟩
    · have hx : isHexed p = true := by rw [hb]; exact decide_eq_true h
      have e : isNum p = (decide (1 ≤ (p.drop 2).length) && decide ((p.drop 2).length ≤ 8) && allIn (p.drop 2) hexes) := if_pos hx
      have e2 : cutS (S p) (some (2 : Int)) none = S (p.drop 2) := cut1f p 2
      have hl2 : (p.drop 2).length ≤ p.length := by rw [List.length_drop]; omega
      refine ⟨_, rfl, 2, rfl, _, rfl, hsz p (Nat.le_refl _), ?_⟩
      rw [e2]
      refine ⟨_, rfl, _, rfl, hsz _ hl2, _, _, rfl, rfl, _, rfl, ?_⟩
      have hlI : (((S (p.drop 2)).length : Nat) : Int) = ((p.drop 2).length : Int) := by rw [S_len]
      rw [hlI]
      by_cases h1 : 1 ≤ (p.drop 2).length
      · refine iteDT (by omega) ⟨_, _, rfl, rfl, _, rfl, ?_⟩
        by_cases h2 : (p.drop 2).length ≤ 8
        · refine iteDT (by omega) ⟨_, rfl, p.drop 2, hexS, rfl, tg, fun H' hH => ?_⟩
          have := q H' hH
          rw [e, decide_eq_true h1, decide_eq_true h2] at this
          exact this
        · refine iteDF (by omega) ?_
          have := q H (Tabbed.refl tg)
          rw [e, decide_eq_true h1, decide_eq_false h2] at this
          exact this
      · refine iteDF (by omega) ⟨_, rfl, iteF ?_⟩
        have := q H (Tabbed.refl tg)
        rw [e, decide_eq_false h1] at this
        exact this
    · have hx : ¬ isHexed p = true := by rw [hb, decide_eq_true_eq]; exact h
      refine ⟨_, rfl, p, rfl, hz, tg, fun H' hH => ?_⟩
      have := q H' hH
      rw [isDec_num hne hx] at this
      exact this
end
end Pk
set_option Elab.async false
set_option linter.all false
set_option maxRecDepth 100000
set_option maxHeartbeats 4000000
namespace PySem
namespace ErX
open PySem.W PySem.Calls PyProof.Rows PySem.HandSPX
/-! ### the text of an own error's __init__: super().__init__(f"pre{l}"), self.l = l -/
structure Ps where
  (a1 a2 b1 b2 b3 b4 b5 b6 b7 b8 b9 c1 c2 c3 c4 : Pos)
def iA (l : Str) (p : Ps) : Arguments := { posonlyargs := [], args := [{ arg := "self", annotation := none, pos := p.a1 }, { arg := l, annotation := none, pos := p.a2 }], vararg := none, kwonlyargs := [], kw_defaults := [], kwarg := none, defaults := [] }
def iC (l pre : Str) (p : Ps) : Expr := .Call (.Attribute (.Call (.Name "super" p.b1) [] [] p.b2) "__init__" p.b3) [.JoinedStr [.Constant (.str pre) 0 p.b4, .FormattedValue (.Name l p.b5) (-1) none p.b6] p.b7] [] p.b8
def iB (l pre : Str) (p : Ps) : List Stmt := [.Expr (iC l pre p) p.b9, .Assign [.Attribute (.Name "self" p.c1) l p.c2] (.Name l p.c3) p.c4]
def iS (l : Str) : Scope := { kind := .function, names := [(PySem.Str.ofString "self", .local), (l, .local), (PySem.Str.ofString "__class__", .free), (PySem.Str.ofString "super", .globalImplicit)], isGenerator := false, isCoroutine := false, more := [] }
/-- a text or an int, short -/
def VOk (v : Value) : Prop := (∃ y t, v = .str y t ∧ y.length ≤ 1000000) ∨ ∃ (i : Int) (t : PySem.Tok), v = .int i t ∧ i.natAbs.log2 < 1900
/-- what __init__ leaves of a fresh exception at x -/
structure InitEnd (h h' : Heap) (x C dx t1 : Addr) (l : Str) (v : Value) : Prop where
  keep : ∀ b o, b ≠ x → h.get? b = some o → h'.get? b = some o
  obj : h'.get? x = some { cls := .ref C, dict := some dx, data := .fields #[.ref t1, .none, .none, .none, .bool false, .none] }
  dbig : h.objs.size ≤ dx
  dne : dx ≠ x
  ns : h'.Ns1 dx (fun y => if y = l then some v else none)
structure ClsTxt (K : Frag) (C : Addr) : Prop where
  cls : ∃ nm q N bs bm sn sub ab col dd k0 k1 k2 k3 k5, K.lookup C = some (excClassObj nm q C N bs bm true sn sub ab col dd k0 k1 k2 k3 k5 "ValueError.__new__") ∧ refsVE bm = true
  sa : findIn K (.ref C) "__setattr__" = some (some (.builtin "object.__setattr__"))
  kC : keepIn K (.ref C) = true
  exC : subIn K (.ref C) (.type "BaseException") = some true
  veC : subIn K (.ref C) (.type "ValueError") = some true
  tyC : typeIn K (.ref C) = some (.type "type")
/-- the written part of such a def, at fI, of the class at C -/
structure InitTxt (prog : Program) (K : Frag) (C fI : Addr) (l pre qual : Str) : Prop where
  cls : ClsTxt K C
  noN : findIn K (.ref C) l = some none
  su : ks_superIn K C C "__init__" = some (some (.builtin "ValueError.__init__"))
  mrC : mroIn K C (.ref C) = some true
  iC : findIn K (.ref C) "__init__" = some (some (.ref fI))
  tC : typeIn K (.ref fI) = some (.type "function")
  tp : nsIn K cStatics "thirdparty.any" = some none
  top : (prog.main.scope.names.lookup ("super" : Str)).isSome = false
  fn : ∃ (oc : Value) (od : Option Addr) (doc pm : Value) (an : Option Addr) (cda cc : Addr) (ct : Value) (osl : Array (Option Value)) (p : Ps), (p.b3.endLine == p.b8.line) = true ∧
    K.lookup fI = some ⟨oc, od, .func (ksFn "__init__" qual (iA l p) (iB l pre p) (iS l) .none .none doc pm an (.ref cda) ct cc), osl⟩ ∧ codeIn K (.ref cda) qual = true ∧
    (∃ (ccl : Value) (cdd : Option Addr) (vs : Array Value) (ccs : Array (Option Value)) (file : Str) (tf : PySem.Tok), K.lookup cda = some ⟨ccl, cdd, .fields vs, ccs⟩ ∧ vs[2]? = some (.str file tf) ∧ ((prog.main.file : Str) == file) = true) ∧
    ∃ (cl : Value) (cld : Option Addr) (csl : Array (Option Value)), K.lookup cc = some ⟨cl, cld, .cell (some (.ref C)), csl⟩
theorem lt_size_of {n : Nat} (h : n ≤ 1000000 + 10) : n ≤ sizeLine := by rw [sizeLine_eq]; omega
section
variable {prog : Program} {w : World} {A : Around} {E : Value → Shared → Prop} {s : Shared} {h₀ : Heap} {Q : Value → Shared → Prop}
/-- super().__init__ bound to the exception at x, called -/
theorem call_mw {K : Frag} {C u x t0 : Addr} {rest : List Value} (T : ClsTxt K C) {h : Heap} {g : Array GenState} {d : Drawn} {t : Nat} {os : OsState} (X : K.In h) (hx : h.get? x = some (excO C t0)) (hu : h.get? u = some (kxs_mw "ValueError.__init__" x)) (hz : rest.length ≤ sizeLine)
    (hq : ∀ h' t1, (∀ b o, b ≠ x → h.get? b = some o → h'.get? b = some o) → h.objs.size ≤ h'.objs.size → h'.get? x = some (excO C t1) → Q .none ⟨h', g, d, t, os⟩) :
    wpAny (model prog w) A (call (.ref u) rest) Q E ⟨h, g, d, t, os⟩ := by
  obtain ⟨nm, q, N, bs, bm, sn, sub, ab, col, dd, k0, k1, k2, k3, k5, hC, hbm⟩ := T.cls
  refine wpAny_call (codeAny_of_tree ?_)
  show wpAny _ A.in1 (callAny (.ref u) ⟨rest, []⟩) _ _ _
  simp only [callAny]
  refine wpAny_bind (wpAny_load hu ?_)
  simp only [kxs_mw, show (Value.type "method-wrapper" == Value.type "method" || Value.type "method-wrapper" == Value.type "builtin_function_or_method" || Value.type "method-wrapper" == Value.type "method-wrapper") = true by decide, if_true]
  refine KFB.if_so (by decide) ?_
  refine wpAny_bind (check_bound_init F.excBase_ValueError.toExcCallFacts (X _ _ hC) hx rfl ?_)
  refine wpAny_bind (wpAny_pure (wpAny_pure ?_))
  refine ⟨plainId_quiet F.excBase_ValueError.init.plain _, codeAny_builtin F.excBase_ValueError.initEntry ?_⟩
  refine exc_init_tree (cls := .ref C) (t0 := t0) (dv := none) (c2 := .none) (c3 := .none) (b4 := .bool false) hx hz fun h' k e te => ?_
  exact hq h' _ k (Nat.le_of_lt (Heap.lt_size te)) e
/-- the text of the error -/
theorem ev_txt {env : Env} {l pre : Str} {p5 p6 p7 p4 : Pos} {v : Value} {m : Str → Option Value} {L : Addr} (hL : env.locals = L) (hn : s.heap.Ns L m) (hm : m l = some v) (hv : VOk v) (hpre : pre.length ≤ 10)
    (hk : env.scope.kind = .function) (hl : env.kindOf l = some .local) (hd : (l == ("__debug__" : Str)) = false) (h : ∀ y t t', Q (.str y t) { s with toks := t' }) :
    wpAny (model prog w) A (eval (.JoinedStr [.Constant (.str pre) 0 p4, .FormattedValue (.Name l p5) (-1) none p6] p7) env) Q E s := by
  subst hL
  refine wpAny_JoinedStr ?_
  show Joins _ _ _ [eval (.Constant (.str pre) 0 p4) env, eval (.FormattedValue (.Name l p5) (-1) none p6) env] _ _ _
  have le : (Str.empty : Str).length = 0 := rfl
  have hz0 : (Str.empty ++ pre).length ≤ sizeLine := by
    rw [Str.length_append, le, sizeLine_eq]
    omega
  refine Calls.Constant_str ⟨pre, _, rfl, hz0, ?_⟩
  refine wpAny_FormattedValue_plain (wpAny_Name (wpAny_loadName_local hk hl hn hm ?_) hd)
  have key : ∀ (y : Str) (t t' : Nat), y.length ≤ 1000000 → ∃ (y' : Str) (t2 : PySem.Tok), Value.str y t = .str y' t2 ∧ (Str.empty ++ pre ++ y').length ≤ sizeLine ∧ Joins (model prog w) A E [] (Str.empty ++ pre ++ y') (fun out s₁ => out.length ≤ sizeLine ∧ Q (.str out s₁.toks) { s₁ with toks := s₁.toks + 1 }) { s with toks := t' } := fun y t t' hy => by
    have hz : (Str.empty ++ pre ++ y).length ≤ sizeLine := by
      rw [Str.length_append, Str.length_append, le, sizeLine_eq]
      omega
    exact ⟨y, t, rfl, hz, hz, h _ _ _⟩
  rcases hv with ⟨y, t, rfl, hy⟩ | ⟨i, t, rfl, hi⟩
  · exact wpAny_formatField_str (key y t _ hy) (key y _ _ hy) (by rw [sizeLine_eq]; omega)
  · refine wpAny_formatField_int (by omega) (key (toString i) _ _ ?_)
    have e := int_text_length_le (k := 1920) (by decide) (a := i) (by omega)
    show (Str.ofString (toString i)).length ≤ _
    rw [ofString_length]
    omega
theorem env_kind {q : Str} {l : Str} {L a : Addr} {cd : Value} {cc : Addr} {x : Str} : (ksEnv q (iS l) L a cd cc).kindOf x = (iS l).names.lookup x := rfl
end
end ErX
end PySem
set_option Elab.async false
set_option linter.all false
set_option maxRecDepth 100000
set_option maxHeartbeats 4000000
namespace PySem
namespace ErX
open PySem.W PySem.Calls PyProof.Rows PySem.HandSPX
theorem no_cell {l : Str} : ∀ y ∈ (iS l).names, y.2 ≠ NameKind.cell := by
  intro y hy
  simp only [iS, List.mem_cons, List.not_mem_nil, or_false] at hy
  rcases hy with rfl | rfl | rfl | rfl <;> exact fun z => by cases z
theorem loc_all {l : Str} {a b : Value} (hl : l = "line" ∨ l = "rule" ∨ l = "reason") : ∀ y ∈ [((PySem.Str.ofString "self" : Str), a), (l, b)], (iS l).names.lookup y.1 = some NameKind.local := by
  intro y hy
  rcases List.mem_cons.mp hy with rfl | hy
  · rfl
  · obtain rfl := List.mem_singleton.mp hy
    rcases hl with rfl | rfl | rfl <;> rfl
theorem he_call {l pre : Str} {p : Ps} {env : Env} (h : (p.b3.endLine == p.b8.line) = true) : eval (iC l pre p) env = (do
      let ov ← attributeBase (.Call (.Name "super" p.b1) [] [] p.b2) "__init__" env (eval (.Call (.Name "super" p.b1) [] [] p.b2) env)
      standAt p.b3.atName
      let (f, first) ← holding [ov] (getMethod ov "__init__" (do return (← importBound (.Call (.Name "super" p.b1) [] [] p.b2) env).getD true))
      callWith p.b8 f first (backTo p.b8 (starEach [.JoinedStr [.Constant (.str pre) 0 p.b4, .FormattedValue (.Name l p.b5) (-1) none p.b6] p.b7] env)) []) := by
  unfold iC
  rw [arm_eval_Call]
  have e : ∀ ov, methodCall (.Call (.Name "super" p.b1) [] [] p.b2) "__init__" p.b3 p.b8 env ov 1 (backTo p.b8 (starEach [.JoinedStr [.Constant (.str pre) 0 p.b4, .FormattedValue (.Name l p.b5) (-1) none p.b6] p.b7] env)) [] = (do
      let (f, first) ← holding [ov] (getMethod ov "__init__" (do return (← importBound (.Call (.Name "super" p.b1) [] [] p.b2) env).getD true))
      callWith p.b8 f first (backTo p.b8 (starEach [.JoinedStr [.Constant (.str pre) 0 p.b4, .FormattedValue (.Name l p.b5) (-1) none p.b6] p.b7] env)) []) := fun ov => by
    unfold methodCall
    have hform : methodCallForm 1 (backTo p.b8 (starEach [.JoinedStr [.Constant (.str pre) 0 p.b4, .FormattedValue (.Name l p.b5) (-1) none p.b6] p.b7] env)) [] = true := rfl
    have hpos : methodCallPos true (.Call (.Name "super" p.b1) [] [] p.b2) env p.b3 p.b8 = pure p.b8 := by
      unfold methodCallPos
      rw [h]
      rfl
    rw [hform, hpos]
    rfl
  have e2 := funext e
  show (attributeBase _ _ _ _ >>= fun ov => standAt _ >>= fun _ => methodCall _ _ _ _ _ ov 1 _ []) = _
  simp only [e]
section
variable {prog : Program} {w : World} {A : Around} {R : Result → Shared → Prop} {K : Frag} {C fI : Addr} {l pre qual : Str}
theorem err_init {h₀ : Heap} {g : Array GenState} {d : Drawn} {t : Nat} {os : OsState} {mg mb : Str → Option Value} (T : InitTxt prog K C fI l pre qual) (hl : l = "line" ∨ l = "rule" ∨ l = "reason") (hpre : pre.length ≤ 10) {x t0 : Addr} {v : Value} (X : K.In h₀) (hlim : h₀.NoLimit) (hg : h₀.Ns mainGlobals mg) (hmg : mg "super" = none) (hb : h₀.Ns builtinsNs mb) (hmb : mb "super" = some (.type "super"))
    (hx : h₀.get? x = some (excO C t0)) (hnx : K.lookup x = none) (hroom : A.depth < recursionLimit) (hv : VOk v)
    (hq : ∀ h' tk dx t1, InitEnd h₀ h' x C dx t1 l v → R (.ok (.ret .none)) ⟨h', g, d, tk, os⟩) :
    codeAny (model prog w) A (.call (.ref fI) ⟨[.ref x, v], []⟩) R ⟨h₀, g, d, t, os⟩ := by
  obtain ⟨oc, od, doc, pm, an, cda, cc, ct, osl, p, hp, ho, hcd, ⟨ccl, cdd, vs, ccs, file, tf, hcode, hvs, hfile⟩, cl, cld, csl, hcell⟩ := T.fn
  obtain ⟨nm, q, N, bs, bm, sn, sub, ab, col, dd, k0, k1, k2, k3, k5, hC, hbm⟩ := T.cls.cls
  have hcl : clsIn K C = some { name := nm, bases := bs, mro := .ref C :: bm, ns := N, qualname := q, hasDict := true, slotNames := sn, subclasses := sub, abstract := ab, collection := col, hasDel := false } := by unfold clsIn; rw [hC] <;> rfl
  have hno := T.noN
  have hsu : alongIn K "__init__" (((Value.ref C :: bm).dropWhile (· != .ref C)).drop 1) = some (some (.builtin "ValueError.__init__")) := by
    have z := T.su
    unfold ks_superIn at z
    rw [hcl] at z
    exact z
  have xC : x ≠ C := fun z => by
    rw [z, X _ _ hC] at hx
    cases hx
  rcases hl with rfl | rfl | rfl
  all_goals
    refine ks_codeAny_call_defAt (fd := ksFn "__init__" qual (iA _ p) (iB _ pre p) (iS _) .none .none doc pm an (.ref cda) ct cc) (body := iB _ pre p) (binds := [("self", .ref x), (_, v)]) hroom (X _ _ ho) rfl hlim (codeRec_of X hcd) rfl (BindsTo.of_eq (by first | rfl | with_unfolding_all rfl)) no_cell (loc_all (by first | exact Or.inl rfl | exact Or.inr (Or.inl rfl) | exact Or.inr (Or.inr rfl))) (fun h₁ hns hk₁ => ?_) rfl rfl rfl
    have X₁ := X.keeps hk₁
    have hx₁ := hk₁ _ _ hx
    have s1 : h₀.objs.size < h₁.objs.size := hns.lt
    have hxL : x ≠ h₀.objs.size := Nat.ne_of_lt (Heap.lt_size hx)
    refine ks_wpAt_execs_cons (ks_wpAt_Expr_any (ks_wpAt_MethodCall ?_ (he_call hp)))
    refine ks_wpAt_super_base (ar := { arg := "self", annotation := none, pos := p.a1 }) rfl rfl rfl rfl (X₁ _ _ ho) rfl rfl rfl (X₁ _ _ hcode) rfl hvs hfile T.top ?_
    refine ks_loadName_global rfl rfl (loadGlobal_builtin (hg.keeps hk₁) hmg (hb.keeps hk₁) hmb ⟨rfl, ?_⟩)
    refine wpAny_loadName_free rfl rfl rfl ⟨_, X₁ _ _ hcell, rfl⟩ ?_
    refine wpAny_loadName_local rfl rfl hns (v := .ref x) (by first | rfl | with_unfolding_all rfl | kernel_rfl) ?_
    refine ks_wpAny_isType_cls (X₁ _ _ hC) rfl ⟨rfl, ?_⟩
    refine ks_wpAny_call_super (X₁ _ _ hC) rfl hx₁ rfl (fun c e => by cases e) (looks_mroIn X₁ T.mrC) (fun h₂ e₂ k₂ => ?_)
    have X₂ := X₁.keeps k₂
    have hx₂ := k₂ _ _ hx₁
    have I₂ : InstAt h₂ x (excO C t0) C none := ⟨hx₂, rfl, rfl, trivial⟩
    refine kxs_getMethod kxs_ValueError e₂ (looks_opaque X₂ T.tp) (l₀ := .ref C :: bm) ((looks_clsIn X₂ hcl).andThen .now) rfl X₂ hsu (I₂.type.andThen (looks_subIn X₂ T.cls.veC)) xC rfl ?_
    have hns₂ := hns.keeps k₂
    have k₃ : ∀ b o, h₂.get? b = some o → (h₂.push (kxs_mw "ValueError.__init__" x)).get? b = some o := fun b o e => Heap.get?_push_of_some _ e
    refine kxs_callWith (i := "ValueError.__init__") (x := x) rfl ?_
    refine evalArgs_plain (spliced_cons ?_)
    refine ev_txt (pre := pre) (p4 := p.b4) (p5 := p.b5) (p6 := p.b6) (p7 := p.b7) (m := fun y => List.lookup y (List.reverse [("self", .ref x), (_, v)])) rfl (hns₂.keeps k₃) (by first | rfl | with_unfolding_all rfl | kernel_rfl) hv hpre rfl rfl (by decide) fun y ty tk => ?_
    refine spliced_nil ⟨Heap.get?_push_at rfl rfl, ?_⟩
    refine call_mw T.cls (X₂.keeps k₃) (k₃ _ _ hx₂) (Heap.get?_push_at rfl rfl) (by rw [sizeLine_eq]; exact (by decide : 1 ≤ 16777216)) fun h₄ t4 k₄ z₄ hx₄ => ?_
    show wpAt _ _ _ _ _ _ _
    have kx : ∀ b o, b ≠ x → h₁.get? b = some o → h₄.get? b = some o := fun b o hb e => k₄ b o hb (k₃ _ _ (k₂ _ _ e))
    have hns₄ := hns.at (h' := h₄) fun o e => kx _ o hxL.symm e
    have X₄ : K.In h₄ := fun b o e => kx b o (fun z => by rw [z, hnx] at e; cases e) (X₁ b o e)
    refine ks_wpAt_execs_cons (ks_wpAt_Assign_Attr (wpAt_of_wpAny ?_))
    refine wpAny_Name (wpAny_loadName_local rfl rfl hns₄ (v := v) (by first | rfl | with_unfolding_all rfl | kernel_rfl) ?_) (by decide)
    refine wpAny_Name (wpAny_loadName_local rfl rfl hns₄ (v := .ref x) (by first | rfl | with_unfolding_all rfl | kernel_rfl) ?_) (by decide)
    refine set_plain X₄ (ox := excO C t4) (od := none) ⟨hx₄, rfl, rfl, trivial⟩ T.cls.sa ?_
    refine exc_osa X₄ hx₄ hcl (show refsVE (.ref C :: bm) = true from hbm) rfl hno (fun h₅ tk₅ dx k₅ dn dne hx₅ hn₅ => ?_)
    show wpAt _ _ _ (execs [] _) _ _ _
    refine wpAt_of_wpAny (wpAny_execs_nil ?_)
    have z4 : h₀.objs.size < h₄.objs.size := hns₄.lt
    exact hq h₅ tk₅ dx _ ⟨fun b o hb e => k₅ b o hb (kx b o hb (hk₁ b o e)), hx₅, Nat.le_of_lt (Nat.lt_of_lt_of_le z4 dn), dne, hn₅⟩
end
end ErX
end PySem
set_option Elab.async false
set_option linter.all false
set_option maxRecDepth 100000
set_option maxHeartbeats 4000000
namespace PySem
namespace ErX
open PySem.W PySem.Calls PyProof.Rows PySem.HandSPX
/-- a made error of the class at C -/
structure OwnMade (h h' : Heap) (e C d : Addr) (l : Str) (v : Value) : Prop where
  keep : ∀ b o, h.get? b = some o → h'.get? b = some o
  new : h.objs.size ≤ e
  obj : ∃ oe vs, h'.get? e = some oe ∧ oe.cls = .ref C ∧ oe.dict = some d ∧ oe.data = .fields vs ∧ vs[1]? = some .none
  dbig : h.objs.size ≤ d
  dne : d ≠ e
  ns : h'.Ns1 d (fun y => if y = l then some v else none)
section
variable {prog : Program} {w : World} {A : Around} {R : Result → Shared → Prop} {K : Frag} {C fI : Addr} {l pre qual : Str}
theorem err_made {h₀ : Heap} {g : Array GenState} {dr : Drawn} {t : Nat} {os : OsState} {mg mb : Str → Option Value} (T : InitTxt prog K C fI l pre qual) (hl : l = "line" ∨ l = "rule" ∨ l = "reason") (hpre : pre.length ≤ 10) {v : Value} (X : K.In h₀) (hlim : h₀.NoLimit) (hg : h₀.Ns mainGlobals mg) (hmg : mg "super" = none) (hb : h₀.Ns builtinsNs mb) (hmb : mb "super" = some (.type "super"))
    (hroom : A.depth + 1 < recursionLimit) (hv : VOk v)
    (hq : ∀ h' tk e d, OwnMade h₀ h' e C d l v → R (.ok (.ret (.ref e))) ⟨h', g, dr, tk, os⟩) :
    codeAny (model prog w) A (.call (.ref C) ⟨[v], []⟩) R ⟨h₀, g, dr, t, os⟩ := by
  obtain ⟨nm, q, N, bs, bm, sn, sub, ab, col, dd, k0, k1, k2, k3, k5, hC, hbm⟩ := T.cls.cls
  have k : ∀ b o, h₀.get? b = some o → ((h₀.push (kdv_tup [v])).push (excO C h₀.objs.size)).get? b = some o := fun b o e => Heap.get?_push_of_some _ (Heap.get?_push_of_some _ e)
  have hget : ((h₀.push (kdv_tup [v])).push (excO C h₀.objs.size)).get? (h₀.objs.size + 1) = some (excO C h₀.objs.size) := by heap_get
  have hnx : K.lookup (h₀.objs.size + 1) = none := by
    cases e : K.lookup (h₀.objs.size + 1) with
    | none => rfl
    | some o =>
      have z : h₀.get? (h₀.objs.size + 1) = some o := X _ _ e
      exact absurd (Nat.lt_of_succ_lt (Heap.lt_size z)) (Nat.lt_irrefl _)
  refine call_own F.excBase_ValueError (fun X => refsVE_contains X bm hbm) (X _ _ hC) (looks_findIn X T.iC) (fun self => bind_fn X self T.tC) (by rw [sizeLine_eq]; exact (by decide : 1 ≤ 16777216)) ?_
  refine err_init T hl hpre (X.keeps k) (hlim.keeps k) (hg.keeps k) hmg (hb.keeps k) hmb hget hnx ?_ hv fun h' tk' dx t1 ⟨k', hx, dn, dne, hns⟩ => ?_
  · show A.depth + 1 < recursionLimit
    exact hroom
  · have old : ∀ b o, h₀.get? b = some o → h'.get? b = some o := fun b o e => k' b o (Nat.ne_of_lt (Nat.lt_succ_of_lt (Heap.lt_size e))) (k b o e)
    have z : h₀.objs.size + 1 + 1 ≤ dx := by
      first
        | (simpa only [Heap.size_push] using dn)
        | exact dn
        | (have q := dn; rw [Heap.size_push, Heap.size_push] at q; exact q)
    exact ⟨rfl, hq h' tk' (h₀.objs.size + 1) dx ⟨old, Nat.le_succ _, ⟨_, _, hx, rfl, rfl, rfl, rfl⟩, Nat.le_trans (Nat.le_trans (Nat.le_succ _) (Nat.le_succ _)) z, dne, hns⟩⟩
end
end ErX
end PySem
namespace L2
open PySem PySem.Spec PyProof.Rows PySem.ErX
theorem relO_one {l : Str} {v : V} {v' : Value} (r : RelV v v') (f : Str) : RelO (List.lookup f [(l, v)]) (if f = l then some v' else none) := by
  by_cases hw : f = l
  · subst hw
    rw [if_pos rfl]
    have q : List.lookup f [(f, v)] = some v := by simp [List.lookup]
    rw [q]
    exact r
  · rw [if_neg hw]
    have qw : (f == l) = false := by simpa using hw
    have q2 : List.lookup f [(l, v)] = none := by simp [List.lookup, qw]
    rw [q2]
    trivial
/-- a short text or an int, as an error holds it -/
def EV (v : V) : Prop := (∃ y : Str, v = .str y ∧ y.length ≤ 1000000) ∨ ∃ i : Int, v = .int i ∧ i.natAbs.log2 < 1900
theorem EV.vok {v : V} {u : Value} (h : EV v) (r : RelV v u) : VOk u := by
  rcases h with ⟨y, rfl, hy⟩ | ⟨i, rfl, hi⟩
  · obtain ⟨t, rfl⟩ := r
    exact Or.inl ⟨y, t, rfl, hy⟩
  · obtain ⟨t, rfl⟩ := r
    exact Or.inr ⟨i, t, rfl, hi⟩
/-- what the written part says of an own error with one field -/
structure ErT (prog : Program) (K : PySem.W.Frag) (mg : Str → Option Value) (x : Str) (C : Addr) (l : Str) : Prop where
  ex : ∃ (fI : Addr) (pre qual : Str), InitTxt prog K C fI l pre qual ∧ pre.length ≤ 10
  gC : mg x = some (.ref C)
  gS : mg "super" = none
  hl : l = "line" ∨ l = "rule" ∨ l = "reason"
section
variable {X : Cx} {C : Addr} {l : Str}
/-- C(e) -/
def tMkE (C : Addr) (l : Str) (ta : TA) : St → Hp → XK → Prop := fun σ H Q => ta σ H fun vs H1 => ∃ v, vs = [v] ∧ EV v ∧ ∀ d, H1 d = none → Q (.ref C) (some d) (upd H1 d (.xd [(l, v)]))
theorem pmk_err {a : Expr} {ta : TA} {x : Str} {p pos : Pos} {k : Nat} (T : ErT X.prog X.K X.mg x C l) (hr : Room k X.A) (ha : PA X [a] ta) (hg : Gl X x) (hdb : (x == ("__debug__" : Str)) = false := by decide)
    (he : starEach (a :: []) X.env = (false, eval a X.env) :: starEach [] X.env := by rfl) (hpl : (backTo pos (starEach [] X.env)).any (·.1) = false := by rfl) :
    PMk X (.Call (.Name x p) [a] [] pos) (tMkE C l ta) := by
  intro pins s σ H Q I h
  obtain ⟨fI, pre, qual, TI, hpre⟩ := T.ex
  refine wpAny_Call_Name_kw (ld_glob I hg T.gC ?_ hdb)
  refine PySem.W.callWith_K (h₀ := X.base) I.ok.mod.kin TI.cls.kC (thn (ha.run pos pins s σ H _ I h) fun us s1 hh => ?_) he hpl
  obtain ⟨vs, H1, I1, r1, v, ev, hev, q1⟩ := hh
  subst ev
  refine ⟨I1.kIn, ?_⟩
  cases r1 with
  | cons rv rn =>
    rename_i v' us'
    cases rn
    show wpAny _ _ (call (.ref C) [v']) _ _ _
    have hlim := I1.nolimit
    obtain ⟨mb, hmb1, hmb2⟩ := I1.mod.blt
    have hG := I1.mod.glob.keeps I1.bk
    have hB := hmb1.keeps I1.bk
    obtain ⟨hp, g, dr, tk, os⟩ := s1
    refine wpAny_call (err_made TI T.hl hpre I1.kIn hlim hG T.gS hB ((hmb2 "super" (by decide)).trans PyProof.Rows.Boot.«super») (by have := hr.dp; omega) (hev.vok rv) fun h' tk' e d M => ?_)
    show MkP X pins σ Q (.ref e) ⟨h', g, dr, tk', os⟩
    obtain ⟨oe, fv, hoe, hc, hd, hdat, h1⟩ := M.obj
    have hns := M.ns
    obtain ⟨G', g1, g2⟩ := restrict h' fun b => decide (b ≠ e)
    have gk : ∀ b, b ≠ e → G'.get? b = h'.get? b := fun b hb => g1 b (decide_eq_true hb)
    have ge : G'.get? e = none := g2 e (by simp)
    have old : ∀ b o, hp.get? b = some o → G'.get? b = some o := fun b o q => (gk b (Nat.ne_of_lt (Nat.lt_of_lt_of_le (Heap.lt_size q) M.new))).trans (M.keep b o q)
    have ob : ObjOk X.prog X.w (upd H1 d (.xd [(l, v)])) G' d (.xd [(l, v)]) :=
      ⟨_, hns.at (fun o q => (gk d M.dne).trans q), fun f => relO_one rv f⟩
    have J : Inv X pins σ (upd H1 d (.xd [(l, v)])) ⟨G', g, dr, tk', os⟩ := I1.laid (t' := tk') old M.dbig ob
    refine ⟨e, oe, fv, ⟨G', g, dr, tk', os⟩, _, .ref C, some d, rfl, J, fun b o q => ?_, ge, hoe, ⟨hc, hd⟩, hdat, h1, ?_, rfl, I1.bare, raises_own TI.cls.exC TI.cls.tyC, q1 d (I1.hok.fresh M.dbig)⟩
    · by_cases hb : b = e
      · have q' : G'.get? b = some o := q
        rw [hb, ge] at q'; cases q'
      · exact (gk b hb).symm.trans q
    · rw [upd_ne (Ne.symm M.dne)]
      exact I1.hok.fresh M.new
/-- raise C(e) -/
def tRaiseE (C : Addr) (l : Str) (W : WX) (ta : TA) : TS := fun _ σ H => tMkE C l ta σ H fun cls d H' => W cls d σ H'
theorem ps_raiseE {a : Expr} {ta : TA} {W : WX} {x : Str} {p pos pos2 : Pos} {k : Nat} (hc : X.calm = true) (T : ErT X.prog X.K X.mg x C l) (hr : Room k X.A) (tk : Takes X W) (ha : PA X [a] ta) (hg : Gl X x := by rfl) (hdb : (x == ("__debug__" : Str)) = false := by decide)
    (he : starEach (a :: []) X.env = (false, eval a X.env) :: starEach [] X.env := by rfl) (hpl : (backTo pos (starEach [] X.env)).any (·.1) = false := by rfl) :
    PS X (.Raise (some (.Call (.Name x p) [a] [] pos)) none pos2) (tRaiseE C l W ta) := ps_raise hc tk (pmk_err T hr ha hg hdb he hpl)
end
end L2
set_option Elab.async false
set_option linter.all false
set_option maxRecDepth 100000
set_option maxHeartbeats 4000000
namespace L2
open PySem PySem.Spec PyProof.Rows PySem.ErX
/-- the dict of a caught error -/
def DictOf (H : Hp) (d : Option Addr) : Prop := d = none ∨ ∃ dd fs, d = some dd ∧ H dd = some (.xd fs)
theorem instE {X : Cx} {pins : List (Addr × Obj)} {σ : St} {H : Hp} {s : Shared} {a D : Addr} {oe : Obj} {d : Option Addr} (I : Inv X pins σ H s) (hget : s.heap.get? a = some oe) (hz : Zc (.ref D) d oe) (hf : ∃ vs, oe.data = .fields vs) (hd : DictOf H d) : ∃ od, PySem.W.InstAt s.heap a oe D od := by
  obtain ⟨vs, hv⟩ := hf
  obtain ⟨oc, odd, oda, osl⟩ := oe
  obtain ⟨h1, h2⟩ := hz
  dsimp only at h1 h2 hv
  subst h1 h2 hv
  rcases hd with rfl | ⟨dd, fs, rfl, hx⟩
  · exact ⟨none, hget, rfl, rfl, trivial⟩
  · have hx' : ObjOk X.prog X.w H s.heap dd (.xd fs) := I.hok dd _ hx
    obtain ⟨mA, ⟨o, es, ep, ho, hr⟩, hl⟩ := hx'
    exact ⟨some o, hget, rfl, rfl, ho⟩
/-- isinstance(e, c), e the exception that the suite holds; its class told by the reading -/
def rIsA (K : PySem.W.Frag) (cls : Value) (d : Option Addr) (a : Addr) : List V → Hp → VK → Prop := fun xs H Q => ∃ (D : Addr) (c : V) (cv : Value) (b : Bool), cls = .ref D ∧ ExcC K D ∧ DictOf H d ∧ xs = [.ref a, c] ∧ (∀ u, RelV c u → u = cv) ∧ PySem.W.kitOne K (.ref D) cv = some b ∧ Q (.bl b) H
theorem call_isA {X : Cx} {a : Addr} {cls : Value} {d : Option Addr} {oe : Obj} {pn : List (Addr × Obj)} (hz : Zc cls d oe) (hf : ∃ vs, oe.data = .fields vs) : CallR (X.suite a ((a, oe) :: pn)) (.builtin "isinstance") (rIsA X.K cls d a) := by
  intro pins s σ H xs us Q I r h
  obtain ⟨D, c, cv, b, rfl, C, hd, rfl, hcv, e, q⟩ := h
  cases r with
  | cons rx rr =>
    cases rr with
    | cons rt rr =>
      cases rr
      cases rx
      have ec := hcv _ rt
      subst ec
      obtain ⟨hget, _⟩ := I.pin (a, oe) (List.mem_append.mpr (.inl List.mem_cons_self))
      obtain ⟨od, J⟩ := instE I hget hz hf hd
      exact PySem.W.kia_one (PySem.W.kitx_exc (od := od) (by obtain ⟨cd, hc, _⟩ := PySem.W.any_some C.hd; rw [hc]; rfl) C.hg C.hk C.hs C.ha C.hn C.ht C.hm) I.kIn J e (fun z => nomatch z) fun tk => ⟨.bl b, H, I.kept (t' := tk) fun _ _ z => z, rfl, q⟩
/-- err.f, the class told by the reading -/
def tXfA (K : PySem.W.Frag) (a : Addr) (cls : Value) (d : Option Addr) (f : Str) (te : TE) : TE := fun σ H Q => te σ H fun x H1 => x = .ref a ∧ ∃ C : Addr, cls = .ref C ∧ XfC K C ∧ PySem.W.findIn K (.ref C) f = some none ∧ ∃ (dd : Addr) (fs : List (Str × V)) (v : V), d = some dd ∧ H1 dd = some (.xd fs) ∧ fs.lookup f = some v ∧ Q v H1
theorem pe_xfA {X : Cx} {a : Addr} {oe : Obj} {cls : Value} {d : Option Addr} {pn : List (Addr × Obj)} {e : Expr} {te : TE} {pos : Pos} {n : Str}
    (hz : Zc cls d oe) (hf : ∃ vs, oe.data = .fields vs) (he : PE (X.suite a ((a, oe) :: pn)) e te) (hb : attributeBase e n X.env (eval e X.env) = eval e X.env := by rfl) :
    PE (X.suite a ((a, oe) :: pn)) (.Attribute e n pos) (tXfA X.K a cls d n te) := by
  refine ⟨fun pins s σ H Q I h => ?_⟩
  refine attr_of hb (thn (he.run pins s σ H _ I h) fun u s1 hh => ?_)
  obtain ⟨x, H1, I1, rx, ex, C, ec, T, hno, dd, fs, v, ed, ea, l, q⟩ := hh
  subst ex
  obtain rfl : u = Value.ref a := rx
  subst ec
  subst ed
  obtain ⟨ha, _⟩ := I1.pin (a, oe) (List.mem_append_left _ List.mem_cons_self)
  obtain ⟨vs, hd⟩ := hf
  have hx : ObjOk X.prog X.w H1 s1.heap dd (.xd fs) := I1.hok dd _ ea
  obtain ⟨mA, hns, hr⟩ := hx
  obtain ⟨od, ho, hl⟩ := lookIn_ns hns
  obtain ⟨u, hu, ru⟩ := RelO.some_of (v := v) (o := mA n) (by rw [← l]; exact hr n)
  have J : PySem.W.InstAt s1.heap a oe C (some od) := ⟨ha, hz.1, by unfold PySem.W.notCls; rw [hd] <;> rfl, by rw [hz.2]; exact ho⟩
  exact HandSPX.exc_get I1.kIn J T.ga T.gg T.exC (PySem.W.findObj_own T.hdC hno rfl (by rw [hl, hu])) (handed_of ru) ⟨v, H1, I1.tok _, ru, q⟩
section
variable {X : Cx} {C : Addr} {bmB : List Value} {B newId initId : String}
/-- C() -/
theorem pmk_own0 {x : Str} {p pos : Pos} (F : ExcBaseFacts B newId initId bmB) (q : PySem.W.excIn X.K C bmB newId = true) (gC : X.mg x = some (.ref C)) (kC : PySem.W.keepIn X.K (.ref C) = true) (r : Raises X (.ref C)) (hg : Gl X x)
    (hdb : (x == ("__debug__" : Str)) = false := by decide) : PMk X (.Call (.Name x p) [] [] pos) (fun _ H Q => Q (.ref C) none H) := by
  intro pins s σ H Q I h
  refine wpAny_Call_Name_kw (ld_glob I hg gC ?_ hdb)
  refine PySem.W.callWith_K0 I.kIn kC ?_
  show wpAny _ _ (call (.ref C) []) _ _ _
  obtain ⟨bm, N, nm, qn, bs, hdct, sn, sub, ab, col, dd, k0, k1, k2, k3, k5, mN, hC, hN, hni, T⟩ := exc_obj I.kIn q
  refine wpAny_call_exc_subT F T hC hN hni (fun h' e hm => ?_) (by show 0 ≤ sizeLine; rw [sizeLine_eq]; omega)
  exact mk_of I hm r h (I.hok.gone hm.new)
end
end L2
set_option Elab.async false
set_option linter.all false
set_option maxRecDepth 100000
set_option maxHeartbeats 4000000
namespace Pk
open PySem PySem.Spec PyProof.Rows L2 SX GxR Tk PySem.ErX
/-- all but the tables of code objects stands as it stood -/
def Sm (H H' : Hp) : Prop := ∀ b o, (∀ ps, o ≠ .tbl ps) → H b = some o → H' b = some o
theorem Sm.refl (H : Hp) : Sm H H := fun _ _ _ e => e
theorem Sm.trans {H H1 H2 : Hp} (a : Sm H H1) (b : Sm H1 H2) : Sm H H2 := fun x o n e => b x o n (a x o n e)
theorem Sm.same {H H1 : Hp} (a : Same H H1) : Sm H H1 := fun x o _ e => a x o e
theorem Tabbed.sm {Pt : Addr} {H H' : Hp} (tg : TabG H Pt) (h : Tabbed Pt H H') : Sm H H' := fun b o n e => by
  obtain ⟨ps, e1, _⟩ := tg
  by_cases hb : b = Pt
  · rw [hb, e1] at e
    exact absurd (Option.some.inj e).symm (n ps)
  · rw [h.2 b hb]
    exact e
theorem TabG.upd {Pt p : Addr} {H : Hp} {o : HO} (tg : TabG H Pt) (h : H p = none ∨ ∃ u, H p = some u ∧ ∀ ps, u ≠ .tbl ps) : TabG (L2.upd H p o) Pt := by
  obtain ⟨ps, e1, e2⟩ := tg
  refine ⟨ps, ?_, e2⟩
  rw [upd_ne ?_]
  · exact e1
  · rintro rfl
    rcases h with h | ⟨u, h, n⟩
    · rw [e1] at h
      cases h
    · rw [e1] at h
      exact n ps (Option.some.inj h).symm
/-- at each of the addresses stands the tuple of a token -/
def TokAt (H : Hp) (r : V) (t : Tk.Tok) : Prop := ∃ q : Addr, r = .ref q ∧ H q = some (.tup [.str t.1, t.2.1, .int (t.2.2 : Nat)])
abbrev ToksAt (H : Hp) : List V → List Tk.Tok → Prop := Paired (TokAt H)
theorem ToksAt.sm {H H' : Hp} (k : Sm H H') : ∀ {rs : List V} {ts : List Tk.Tok}, ToksAt H rs ts → ToksAt H' rs ts
  | _, _, .nil => .nil
  | _, _, .cons ⟨q, e1, e2⟩ r => .cons ⟨q, e1, k _ _ (fun _ z => nomatch z) e2⟩ (ToksAt.sm k r)
theorem ToksAt.lst {H : Hp} {T : Addr} {xs ys : List V} (h : H T = some (.lst xs)) : ∀ {rs : List V} {ts : List Tk.Tok}, ToksAt H rs ts → ToksAt (upd H T (.lst ys)) rs ts
  | _, _, .nil => .nil
  | _, _, .cons ⟨q, e1, e2⟩ r => .cons ⟨q, e1, by rw [upd_ne (ne_of e2 h fun z => nomatch z)]; exact e2⟩ (ToksAt.lst h r)
theorem ToksAt.app {H : Hp} : ∀ {rs qs : List V} {ts us : List Tk.Tok}, ToksAt H rs ts → ToksAt H qs us → ToksAt H (rs ++ qs) (ts ++ us)
  | _, _, _, _, .nil, h => h
  | _, _, _, _, .cons a r, h => .cons a (ToksAt.app r h)
def spTokOf (Pt cT : Addr) : Sp := fun vs H Q E => ∃ (p : List Nat) (l : Nat), vs = [.str (S p), .int l] ∧ p ≠ [] ∧ p.length ≤ 16000000 ∧ l ≤ 16000000 ∧ TabG H Pt ∧
  (∀ k v, tokOf p = some (k, v) → ∀ H' t, Tabbed Pt H H' → H' t = none → Q (.ref t) (upd H' t (.tup [.str k, v, .int l]))) ∧
  (tokOf p = none → ∀ H' d, Tabbed Pt H H' → H' d = none → E (.ref cT) (some d) (upd H' d (.xd [("line", .int l)])))
def spTokenize (Pt cT : Addr) : Sp := fun vs H Q E => ∃ t : List Nat, vs = [.str (S t)] ∧ t.length ≤ 1000000 ∧ TabG H Pt ∧
  (∀ ts, toksT 1 t = .ok ts → ∀ H' p rs, Sm H H' → TabG H' Pt → H p = none → H' p = some (.lst rs) → ToksAt H' rs ts → Q (.ref p) H') ∧
  (∀ l, toksT 1 t = .error l → ∀ H' d, Sm H H' → TabG H' Pt → H' d = some (.xd [("line", .int (l : Nat))]) → E (.ref cT) (some d) H')
theorem ev_nat {l : Nat} (h : l ≤ 16000000) : EV (.int (l : Nat)) := .inr ⟨_, rfl, by
  have h2 : ((l : Nat) : Int).natAbs < 2 ^ 25 := by omega
  by_cases h0 : ((l : Nat) : Int).natAbs = 0
  · rw [h0]
    decide
  · have := (Nat.log2_lt h0).mpr h2
    omega⟩
section
variable {P : Program} {w : World} {K : PySem.W.Frag} {mg : Str → Option Value} {base : Heap}
theorem pick_false {p A B : Prop} [Decidable p] (h : p → B → A) (b : B) : if decide p = true then A else B := by
  by_cases hp : p
  · rw [if_pos (decide_eq_true hp)]
    exact h hp b
  · rw [decide_eq_false hp, if_neg Bool.false_ne_true]
    exact b
theorem len3 : (3 : Nat) ≤ sizeLine := by decide
theorem ok_tokof {f Pt cT : Addr} {fd : FuncData} {k : Nat} (F : Fun K "token_of" "token_of" sTokenOf f fd) (T : Tx K mg) (DR : Df P w K mg base CX0 (k + 1) "is_reserved" ["name"] spIsRes)
    (DN : Df P w K mg base CX0 (k + 3) "is_number" ["part"] (spIsNum Pt)) (DV : Df P w K mg base CX0 (k + 1) "number_value" ["part"] spNumVal) (TE : ErT P K mg "TextError" cT "line") : FnOk P w K mg base (L2.CX P w) (k + 4) f fd ["part", "line"] (spTokOf Pt cT) := by
  obtain ⟨fR, fdR, GR, gR, kR, bR⟩ := DR.ex
  obtain ⟨fN, fdN, GN, gN, kN, bN⟩ := DN.ex
  obtain ⟨fV, fdV, GV, gV, kV, bV⟩ := DV.ex
  obtain ⟨uL, gL, rL⟩ := T.LET
  obtain ⟨uM, gM, rM⟩ := T.LNM
  obtain ⟨pl, gl, tl⟩ := T.LNG
  obtain ⟨ps, gs, tsh⟩ := T.SHT
  refine F.okX scTokenOf (fun vs H Q E h => ?_) (fun cdv A outer s H vs Q E hr h => ?_)
  · obtain ⟨p, l, rfl, _⟩ := h
    rfl
  · obtain ⟨p, l, rfl, hne, hz, hzl, tg, q, qe⟩ := h
    have hr1 : Room (k + 1) _ := hr.mono (by omega)
    have hsz : (S p).length ≤ sizeLine := by rw [S_len, sizeLine_eq]; omega
    refine ⟨_, pss_cons (ps_if (PW.pt (pw_and (pt_cmpR op_in_sign (pe_ix ix_str (pv 0) pe_int (fun _ _ => rfl)) (pe_glob rfl gL rL) (by rfl)) (pw_and1 (pt_cmpR op_le (pe_callB call_len_str (by rfl) T.zLen PySem.boot_len (pa_cons (pv 0) pa_nil)) (pe_glob rfl gM rM) (nomark _)))))
        (pss_cons (ps_if (pt_val (pe_call GR hr1 (by rfl) gR kR bR .nil pass0 (pa_cons (pv 0) pa_nil)) (by intro _; rfl)) (pss_one (ps_ret (pe_tup (pa_cons pe_str (pa_cons (pv 0) (pa_cons (pv 1) pa_nil)))))) pss_nil)
        (pss_one (ps_ret (pe_tup (pa_cons pe_str (pa_cons (pv 0) (pa_cons (pv 1) pa_nil))))))) pss_nil)
      (pss_cons (ps_if (pt_val (pe_call GN hr (by rfl) gN kN bN .nil pass0 (pa_cons (pv 0) pa_nil)) (by intro _; rfl))
        (pss_one (ps_ret (pe_tup (pa_cons pe_str (pa_cons (pe_call GV hr1 (by rfl) gV kV bV .nil pass0 (pa_cons (pv 0) pa_nil)) (pa_cons (pv 1) pa_nil)))))) pss_nil)
      (pss_cons (ps_if (PW.pt (pw_or (pt_cmpR op_in_seq (pv 0) (pe_glob (v := .ref pl) rfl gl rfl) (by rfl)) (pw_or1 (pt_cmpR op_in_seq (pv 0) (pe_glob (v := .ref ps) rfl gs rfl) (by rfl)))))
        (pss_one (ps_ret (pe_tup (pa_cons pe_str (pa_cons (pv 0) (pa_cons (pv 1) pa_nil)))))) pss_nil)
      (pss_one (ps_raiseE rfl TE hr (takes_of rfl rfl rfl rfl) (pa_cons (pv 1) pa_nil))))), ?_⟩
    obtain ⟨c, r, rfl⟩ := head_one hne
    have e0 : tokOf (c :: r) = if decide (c ∈ letters) = true ∧ (c :: r).length ≤ 16 then
        (if S (c :: r) ∈ words then some (Str.ofString "word", .str (S (c :: r))) else some (Str.ofString "name", .str (S (c :: r))))
      else if isNum (c :: r) = true then some (Str.ofString "number", .int (numVal (c :: r)))
      else if S (c :: r) ∈ longs ∨ S (c :: r) ∈ shorts then some (Str.ofString "sign", .str (S (c :: r))) else none := rfl
    have hlI : (((S (c :: r)).length : Nat) : Int) = ((c :: r).length : Int) := by rw [S_len]
    refine ⟨_, rfl, _, _, _, rfl, rfl, hsz, atI_nat (j := 0) rfl, c, lettersS, rfl, rfl, _, rfl, ?_⟩
    by_cases hn : decide (c ∈ letters) = true ∧ (c :: r).length ≤ 16
    · refine iteDT (of_decide_eq_true hn.1) ⟨_, rfl, _, rfl, hsz, _, _, rfl, rfl, _, rfl, ?_⟩
      rw [hlI]
      refine iteDT (by have := hn.2; omega) ⟨_, rfl, S (c :: r), rfl, _, rfl, ?_⟩
      rw [if_pos hn] at e0
      by_cases h3 : S (c :: r) ∈ words
      · rw [if_pos h3] at e0
        exact iteDT h3 ⟨_, rfl, _, rfl, len3, fun t ht => q _ _ e0 H t (Tabbed.refl tg) ht⟩
      · rw [if_neg h3] at e0
        exact iteDF h3 ⟨_, rfl, _, rfl, len3, fun t ht => q _ _ e0 H t (Tabbed.refl tg) ht⟩
    · refine pick_false (fun h1 hB => ⟨_, rfl, _, rfl, hsz, _, _, rfl, rfl, _, rfl, iteDF (fun z => hn ⟨decide_eq_true h1, ?_⟩) hB⟩) (iteF ?_)
      · have z' : (((S (c :: r)).length : Nat) : Int) ≤ 16 := z
        rw [hlI] at z'
        omega
      rw [if_neg hn] at e0
      refine ⟨_, rfl, c :: r, rfl, hne, hz, tg, fun H' hH => ⟨_, rfl, ?_⟩⟩
      cases hnum : isNum (c :: r) with
      | true =>
        rw [if_pos hnum] at e0
        exact iteT ⟨_, rfl, c :: r, rfl, hne, hnum, _, rfl, len3, fun t ht => q _ _ e0 H' t hH ht⟩
      | false =>
        rw [if_neg (by rw [hnum]; exact Bool.false_ne_true)] at e0
        refine iteF ⟨_, rfl, pl, _, rfl, .inr (tl.at H'), rfl, flat_strs _, ?_⟩
        show ∃ k, V.bl (inV (.str (S (c :: r))) (longs.map V.str)) = .bl k ∧ _
        rw [inV_strs]
        refine ⟨_, rfl, ?_⟩
        by_cases h1 : S (c :: r) ∈ longs
        · rw [if_pos (.inl h1)] at e0
          exact iteDT h1 (iteT ⟨_, rfl, _, rfl, len3, fun t ht => q _ _ e0 H' t hH ht⟩)
        · refine iteDF h1 ⟨_, rfl, ps, _, rfl, .inr (tsh.at H'), rfl, flat_strs _, ?_⟩
          show ∃ k, V.bl (inV (.str (S (c :: r))) (shorts.map V.str)) = .bl k ∧ _
          rw [inV_strs]
          refine ⟨_, rfl, ?_⟩
          by_cases h2 : S (c :: r) ∈ shorts
          · rw [if_pos (.inr h2)] at e0
            exact iteDT h2 ⟨_, rfl, _, rfl, len3, fun t ht => q _ _ e0 H' t hH ht⟩
          · rw [if_neg (fun z => z.elim h1 h2)] at e0
            exact iteDF h2 ⟨_, rfl, _, rfl, ev_nat hzl, fun d hd => qe e0 H' d hH hd⟩
end
end Pk
set_option Elab.async false
set_option linter.all false
set_option maxRecDepth 100000
set_option maxHeartbeats 4000000
namespace Pk
open PySem PySem.Spec PyProof.Rows L2 SX Tk
theorem tooLong_small {n : Nat} (h : n ≤ 1000000) : Builtin.Str.tooLong n = false := by
  unfold Builtin.Str.tooLong
  rw [decide_eq_false_iff_not, sizeLine_eq]
  omega
/-- s * n, n from 1 on -/
theorem op_mulS {X : Cx} : OpR X (binaryOp .Mult) (fun x y H Q => ∃ (l : List Nat) (n : Nat), x = .str (S l) ∧ y = .int n ∧ 1 ≤ n ∧ n ≤ 1000 ∧ l.length ≤ 1000 ∧ Q (.str (S (List.replicate n l).flatten)) H) := by
  intro pins s σ H x y v u Q I rx ry h
  obtain ⟨l, n, rfl, rfl, h1, h2, h3, q⟩ := h
  obtain ⟨t, rfl⟩ := rx
  obtain ⟨t', rfl⟩ := ry
  have hl : (S l).length = l.length := S_len l
  have hle : (S l).length * n ≤ 1000000 := by
    rw [hl]
    exact Nat.le_trans (Nat.mul_le_mul h3 h2) (by decide)
  have fin : ∀ z tk k, z = S (List.replicate n l).flatten → EP X pins σ Q (.str z tk) { s with toks := k } := fun z tk k e => by
    subst e
    exact ⟨.str _, H, I.tok _, ⟨_, rfl⟩, q⟩
  refine P.mul_str ?_ (fun _ hx => ?_) (fun _ _ => ?_) ?_
  · rw [decide_eq_false (by omega), decide_eq_false (by omega)]
    rfl
  · rw [hl]
    have h0 : (0 : Int) < n := by omega
    have : (1000 : Int) ≤ (2 ^ 63 - 1) / (n : Int) := by
      refine (Int.le_ediv_iff_mul_le h0).mpr ?_
      omega
    omega
  · rw [Int.toNat_natCast]
    exact tooLong_small hle
  · rw [if_neg (by omega)]
    by_cases hc : ((n : Int) == 1 || (S l).length == 0) = true
    · rw [if_pos hc]
      have e : (List.replicate n l).flatten = l := by
        rw [Bool.or_eq_true, beq_iff_eq, beq_iff_eq, hl] at hc
        rcases hc with hc | hc
        · obtain rfl : n = 1 := by omega
          simp
        · obtain rfl : l = [] := List.length_eq_zero_iff.mp hc
          simp
      rw [e] at q
      exact ⟨.str _, H, I, ⟨_, rfl⟩, q⟩
    · rw [if_neg hc]
      have e : ∀ (k : Nat) (acc : Array Nat), ((List.replicate k (S l).cps).foldl (· ++ ·) acc).toList = acc.toList ++ (List.replicate k l).flatten := by
        intro k
        induction k with
        | zero => intro acc; simp
        | succ k ih =>
          intro acc
          rw [List.replicate_succ, List.foldl_cons, ih, Array.toList_append, List.replicate_succ, List.flatten_cons, List.append_assoc]
      have e2 : (⟨(List.replicate (n : Int).toNat (S l).cps).foldl (· ++ ·) #[]⟩ : Str) = S (List.replicate n l).flatten := by
        refine TL.ext_tl ?_
        rw [Int.toNat_natCast]
        show ((List.replicate n (S l).cps).foldl (· ++ ·) #[]).toList = _
        rw [e]
        rfl
      rw [e2]
      refine ⟨?_, fin _ _ _ rfl⟩
      have hf : (List.replicate n l).flatten.length = n * l.length := by simp
      have hm : n * l.length ≤ 1000000 := Nat.le_trans (Nat.mul_le_mul h2 h3) (by decide)
      show (S (List.replicate n l).flatten).length ≤ sizeLine
      rw [S_len, hf, sizeLine_eq]
      omega
/-! ### pieces of a text -/
def signsL : List Str := ["{", "}", "(", ")", ":", ";", ",", ".", "=", "==", "<", "+", "-", "&", "|", "^", "->"].map Str.ofString
def kSign : Str := Str.ofString "sign"
/-- a piece: its kind, its value, its signs -/
structure PieceOk (k : Str) (v : V) (p : List Nat) : Prop where
  tok : tokOf p = some (k, v)
  ne : p ≠ []
  len : p.length ≤ 20
  nl : 10 ∉ p
  alt : (k ≠ kSign ∧ p.all inRun = true) ∨ (k = kSign ∧ S p ∈ signsL ∧ v = .str (S p))
/-- what may stand behind a piece -/
def after (k : Str) (v : V) (r : List Nat) : Prop := match r with
  | [] => True
  | c :: _ => if k = kSign then (v = .str (S [61]) → c ≠ 61) ∧ (v = .str (S [45]) → c ≠ 62) else inRun c = false
/-- what stands for a list of tokens ahead of others -/
def pre (ds : List Tk.Tok) (x : Except Nat (List Tk.Tok)) : Except Nat (List Tk.Tok) := match x with
  | .error e => .error e
  | .ok ts => .ok (ds ++ ts)
theorem pre_nil (x : Except Nat (List Tk.Tok)) : pre [] x = x := by cases x <;> rfl
theorem pre_app (a b : List Tk.Tok) (x : Except Nat (List Tk.Tok)) : pre a (pre b x) = pre (a ++ b) x := by
  cases x with
  | error e => rfl
  | ok ts => exact congrArg Except.ok (List.append_assoc a b ts).symm
theorem ahead_pre {k : Str} {v : V} {l : Nat} (x : Except Nat (List Tk.Tok)) : ahead (some (k, v)) l x = pre [(k, v, l)] x := by cases x <;> rfl
theorem sign_facts : ∀ x ∈ signsL, ∃ c r, x = S (c :: r) ∧ inRun c = false ∧ c ≠ 35 ∧ c ≠ 32 ∧ c ≠ 10 := by
  have key : ∀ x ∈ signsL, (match x.cps.toList with | [] => false | c :: _ => !inRun c && decide (c ≠ 35) && decide (c ≠ 32) && decide (c ≠ 10)) = true := by decide +kernel
  intro x hx
  have h := key x hx
  have e := S_tl x
  cases hc : x.cps.toList with
  | nil => rw [hc] at h; cases h
  | cons c r =>
    rw [hc] at h e
    simp only [Bool.and_eq_true, decide_eq_true_eq, Bool.not_eq_true'] at h
    exact ⟨c, r, e.symm, h.1.1.1, h.1.1.2, h.1.2, h.2⟩
theorem inRun_ne {c : Nat} (h : inRun c = true) : c ≠ 35 ∧ c ≠ 32 ∧ c ≠ 10 := by
  have k1 : inRun 35 = false := by decide +kernel
  have k2 : inRun 32 = false := by decide +kernel
  have k3 : inRun 10 = false := by decide +kernel
  refine ⟨?_, ?_, ?_⟩ <;> rintro rfl
  · rw [k1] at h; cases h
  · rw [k2] at h; cases h
  · rw [k3] at h; cases h
theorem tw_app {p : List Nat} (h : p.all inRun = true) (r : List Nat) (hr : ∀ c r', r = c :: r' → inRun c = false) : (p ++ r).takeWhile inRun = p := by
  induction p with
  | nil =>
    cases r with
    | nil => rfl
    | cons c r =>
      rw [List.nil_append, List.takeWhile_cons, if_neg (by rw [hr c r rfl]; exact Bool.false_ne_true)]
  | cons a p ih =>
    rw [List.all_cons, Bool.and_eq_true] at h
    rw [List.cons_append, List.takeWhile_cons, if_pos h.1, ih h.2]
/-- the run or sign at the head of p ++ r is p -/
theorem partLen_piece {k : Str} {v : V} {p r : List Nat} (h : PieceOk k v p) (ha : after k v r) : partLen (p ++ r) = p.length := by
  obtain ⟨c, q, rfl⟩ : ∃ c q, p = c :: q := by
    cases hp : p with
    | nil => exact absurd hp h.ne
    | cons c q => exact ⟨c, q, rfl⟩
  unfold partLen
  rw [List.cons_append, ← inRun_iff (r := q ++ r)]
  rcases h.alt with ⟨hk, hall⟩ | ⟨hk, hs, hv⟩
  · have hc := (Bool.and_eq_true_iff.mp (List.all_cons ▸ hall)).1
    rw [if_pos hc, ← List.cons_append, tw_app hall r]
    intro d r' e
    subst e
    have : if k = kSign then _ else inRun d = false := ha
    rw [if_neg hk] at this
    exact this
  · obtain ⟨c', r', e, hc, _⟩ := sign_facts _ hs
    have e' := S_inj e
    cases e'
    rw [if_neg (by rw [hc]; exact Bool.false_ne_true)]
    have ha' : match r with | [] => True | d :: _ => (V.str (S (c :: q)) = .str (S [61]) → d ≠ 61) ∧ (V.str (S (c :: q)) = .str (S [45]) → d ≠ 62) := by
      cases r with
      | nil => trivial
      | cons d r =>
        have : if k = kSign then (v = .str (S [61]) → d ≠ 61) ∧ (v = .str (S [45]) → d ≠ 62) else inRun d = false := ha
        rw [if_pos hk, hv] at this
        exact this
    have key : ∀ x ∈ signsL, (match x.cps.toList with | [] => false | [a] => (List.range 200).all (fun b => (decide (a = 61) && decide (b = 61)) || (decide (a = 45) && decide (b = 62)) || decide (S [a, b] ∉ longs)) && decide (S [a] ∉ longs) | [a, b] => decide (S [a, b] ∈ longs) | _ => false) = true := by decide +kernel
    have hx := key _ hs
    match q, hx, ha', hs with
    | [], hx, ha', hs =>
      have hx' : ((List.range 200).all (fun b => (decide (c = 61) && decide (b = 61)) || (decide (c = 45) && decide (b = 62)) || decide (S [c, b] ∉ longs)) && decide (S [c] ∉ longs)) = true := hx
      rw [Bool.and_eq_true, decide_eq_true_eq] at hx'
      cases r with
      | nil =>
        rw [if_neg]
        · rfl
        · exact hx'.2
      | cons d r =>
        rw [if_neg]
        · rfl
        · show S [c, d] ∉ longs
          by_cases hd : d < 200
          · have hq := List.all_eq_true.mp hx'.1 d (List.mem_range.mpr hd)
            simp only [Bool.or_eq_true, Bool.and_eq_true, decide_eq_true_eq] at hq
            rcases hq with (hq | hq) | hq
            · exact absurd hq.2 (ha'.1 (by rw [hq.1]))
            · exact absurd hq.2 (ha'.2 (by rw [hq.1]))
            · exact hq
          · intro z
            have kl : ∀ x ∈ longs, x.cps.toList.all (· < 200) = true := by decide +kernel
            have := kl _ z
            have h2 : (decide (c < 200) && (decide (d < 200) && true)) = true := this
            rw [Bool.and_eq_true, Bool.and_eq_true, decide_eq_true_eq, decide_eq_true_eq] at h2
            exact hd h2.2.1
    | [b], hx, ha', hs =>
      have hx' : decide (S [c, b] ∈ longs) = true := hx
      rw [if_pos (show S ((c :: ([b] ++ r)).take 2) ∈ longs from of_decide_eq_true hx')]
      rfl
    | a :: b :: q, hx, _, _ => cases hx
/-- the tokens of a piece and of what follows it -/
theorem toks_piece {k : Str} {v : V} {p r : List Nat} (l : Nat) (h : PieceOk k v p) (ha : after k v r) : toksT l (p ++ r) = pre [(k, v, l)] (toksT l r) := by
  have hp := partLen_piece h ha
  obtain ⟨c, q, e⟩ : ∃ c q, p = c :: q := by
    cases hp : p with
    | nil => exact absurd hp h.ne
    | cons c q => exact ⟨c, q, rfl⟩
  have hc : c ≠ 35 ∧ c ≠ 32 ∧ c ≠ 10 := by
    rcases h.alt with ⟨_, hall⟩ | ⟨_, hs, _⟩
    · rw [e] at hall
      exact inRun_ne (Bool.and_eq_true_iff.mp (List.all_cons ▸ hall)).1
    · obtain ⟨c', r', e', _, h1, h2, h3⟩ := sign_facts _ hs
      have := S_inj e'
      rw [e] at this
      cases this
      exact ⟨h1, h2, h3⟩
  have e2 : p ++ r = c :: (q ++ r) := by rw [e, List.cons_append]
  rw [e2, toksT_part hc.1 hc.2.1 hc.2.2, ← e2, hp, List.take_left, List.drop_left, h.tok, ahead_pre]
end Pk
set_option Elab.async false
set_option linter.all false
set_option maxRecDepth 100000
set_option maxHeartbeats 4000000
namespace Pk
open PySem PySem.Spec PyProof.Rows L2 SX GxR Tk
theorem hash_code : Str.ofString "#" = S [35] := by decide +kernel
theorem sp_code : Str.ofString " " = S [32] := by decide +kernel
theorem drop_tw {α : Type} (p : α → Bool) : ∀ l : List α, l.drop (l.takeWhile p).length = l.dropWhile p
  | [] => rfl
  | a :: l => by
    rw [List.takeWhile_cons, List.dropWhile_cons]
    split
    · rw [List.length_cons, List.drop_succ_cons]
      exact drop_tw p l
    · rfl
theorem tw_le {α : Type} (p : α → Bool) : ∀ l : List α, (l.takeWhile p).length ≤ l.length
  | [] => Nat.le_refl _
  | a :: l => by
    rw [List.takeWhile_cons]
    split
    · exact Nat.succ_le_succ (tw_le p l)
    · exact Nat.zero_le _
theorem partLen_le (t : List Nat) (h : t ≠ []) : partLen t ≤ t.length + 1 := by
  unfold partLen
  split
  · exact Nat.le_succ_of_le (tw_le _ _)
  · obtain ⟨c, r, rfl⟩ := head_one h
    rw [List.length_cons]
    split <;> omega
theorem part_fits {t : List Nat} (h0 : t ≠ []) : partLen t ≤ t.length := by
  obtain ⟨c, r, rfl⟩ := head_one h0
  unfold partLen
  split
  · exact tw_le _ _
  · split
    · rename_i h2
      have key : ∀ x ∈ longs, x.length = 2 := by decide +kernel
      have := key _ h2
      rw [S_len, List.length_take] at this
      omega
    · rw [List.length_cons]
      omega
theorem pre_ahead {ds : List Tk.Tok} {k : Str} {v : V} {l : Nat} {x : Except Nat (List Tk.Tok)} : pre ds (ahead (some (k, v)) l x) = pre (ds ++ [(k, v, l)]) x := by
  rw [ahead_pre, pre_app]
theorem ntL {xs : List V} : ∀ ps, HO.lst xs ≠ .tbl ps := fun _ z => nomatch z
theorem ntT {xs : List V} : ∀ ps, HO.tup xs ≠ .tbl ps := fun _ z => nomatch z
theorem tup_lst {xs ys : List V} : HO.tup xs ≠ .lst ys := fun z => nomatch z
theorem small_len {n : Nat} (h : n ≤ 1000000) : n < sizeLine := by rw [sizeLine_eq]; omega
section
variable {P : Program} {w : World} {K : PySem.W.Frag} {mg : Str → Option Value} {base : Heap}
/-- between two turns of tokenize's loop -/
def TokW (Pt : Addr) (t : List Nat) (all : Except Nat (List Tk.Tok)) (T : Addr) (H : Hp) (m : Nat) (σ : L2.St) (H' : Hp) : Prop :=
  ∃ (i l : Nat) (rs : List V) (done : List Tk.Tok) (c4 c5 : Option V), m = t.length - i ∧ σ = [some (.str (S t)), some (.ref T), some (.int (l : Nat)), some (.int (i : Nat)), c4, c5] ∧ i ≤ t.length ∧ TabG H' Pt ∧ Sm H H' ∧
    H' T = some (.lst rs) ∧ ToksAt H' rs done ∧ rs.length ≤ i ∧ l ≤ i + 1 ∧ all = pre done (toksT l (t.drop i))
theorem ok_tokenize {f Pt cT : Addr} {fd : FuncData} {k : Nat} (F : Fun K "tokenize" "tokenize" sTokenize f fd) (T : Tx K mg) (DC : Df P w K mg base CX0 (k + 1) "comment_end" ["text", "at"] spComEnd)
    (DP : Df P w K mg base CX0 (k + 2) "part_end" ["text", "at"] spPartEnd) (DO : Df P w K mg base (L2.CX P w) (k + 4) "token_of" ["part", "line"] (spTokOf Pt cT)) : FnOk P w K mg base (L2.CX P w) (k + 5) f fd ["text"] (spTokenize Pt cT) := by
  obtain ⟨fC, fdC, GC, gC, kC, bC⟩ := DC.ex
  obtain ⟨fP, fdP, GP, gP, kP, bP⟩ := DP.ex
  obtain ⟨fO, fdO, GO, gO, kO, bO⟩ := DO.ex
  refine F.okX scTokenize (fun vs H Q E h => ?_) (fun cdv A outer s H vs Q E hr h => ?_)
  · obtain ⟨t, rfl, _⟩ := h
    rfl
  · obtain ⟨t, rfl, hz, tg, q, qe⟩ := h
    have hr2 : Room (k + 2) _ := hr.mono (by omega)
    have hr1 : Room (k + 1) _ := hr2.mono (Nat.le_succ _)
    have hl : (S t).length = t.length := S_len t
    have hsz : (S t).length ≤ sizeLine := by rw [hl, sizeLine_eq]; omega
    have nd := scTokenize.nd
    refine ⟨_, pss_cons (ps_set (i := 1) nd rfl (.inl rfl) (pe_lst pa_nil))
      (pss_cons (ps_set (i := 2) nd rfl (.inl rfl) pe_int)
      (pss_cons (ps_set (i := 3) nd rfl (.inl rfl) pe_int)
      (pss_cons (ps_while (passes_of rfl) (pt_cmpR op_lt (pv 3) (pe_callB call_len_str (by rfl) T.zLen PySem.boot_len (pa_cons (pv 0) pa_nil)) (nomark _))
        (pss_cons (ps_set (i := 4) nd rfl (.inl rfl) (pe_ix ix_str (pv 0) (pv 3) (fun _ _ => rfl)))
        (pss_one (ps_if (pt_cmpR op_eq (pv 4) pe_str (nomark _)) (pss_one (ps_set (i := 3) nd rfl (.inl rfl) (pe_call GC hr1 (by rfl) gC kC bC .nil pass0 (pa_cons (pv 0) (pa_cons (pv 3) pa_nil)))))
          (pss_one (ps_if (pt_cmpR op_eq (pv 4) pe_str (nomark _)) (pss_one (ps_aug (i := 3) nd rfl (.inl rfl) pe_int ip_add))
          (pss_one (ps_if (pt_cmpR op_eq (pv 4) pe_str (nomark _)) (pss_cons (ps_aug (i := 2) nd rfl (.inl rfl) pe_int ip_add) (pss_one (ps_aug (i := 3) nd rfl (.inl rfl) pe_int ip_add)))
            (pss_cons (ps_set (i := 5) nd rfl (.inl rfl) (pe_call GP hr2 (by rfl) gP kP bP .nil pass0 (pa_cons (pv 0) (pa_cons (pv 3) pa_nil))))
            (pss_cons (ps_expr (pe_bm PySem.F.plainAttrs_list PySem.F.slot_list_append PySem.F.type_list_append mt_append (pv 1) (pa_cons
              (pe_callS GO hr (by rfl) gO kO bO (fun σ => passAt (takes_of rfl rfl rfl rfl) σ) (pa_cons (pe_slice sl_str (pv 0) (po_some (pv 3)) (po_some (pv 5))) (pa_cons (pv 2) pa_nil))) pa_nil)))
            (pss_one (ps_set (i := 3) nd rfl (.inl rfl) (pv 5)))))))))))))
      (pss_cons (ps_expr (pe_bm PySem.F.plainAttrs_list PySem.F.slot_list_append PySem.F.type_list_append mt_append (pv 1) (pa_cons (pe_tup (pa_cons pe_str (pa_cons pe_str (pa_cons (pv 2) pa_nil)))) pa_nil)))
      (pss_one (ps_ret (pv 1))))))), ?_⟩
    refine ⟨Nat.zero_le _, fun p hp => ?_⟩
    have s0 : Same H (upd H p (.lst [])) := same_new hp
    refine ⟨TokW Pt t (toksT 1 t) p H, ⟨t.length, 0, 1, [], [], none, none, rfl, rfl, Nat.zero_le _, TabG.upd tg (.inl hp), Sm.same s0, upd_same, .nil, Nat.le_refl _, Nat.le_refl _, (pre_nil _).symm⟩, ?_⟩
    rintro m σ H' ⟨i, l, rs, done, c4, c5, rfl, rfl, hi, tg', sm, hT, hD, hrs, hli, hall⟩
    refine ⟨_, rfl, _, rfl, _, rfl, hsz, _, _, rfl, rfl, _, rfl, iteD (fun h => ?_) fun h => ?_⟩
    · have hi2 : i < t.length := by rw [hl] at h; omega
      have hd : t.drop i = t[i] :: t.drop (i + 1) := List.drop_eq_getElem_cons hi2
      refine ⟨fun σ' H'' => ∃ m', m' < t.length - i ∧ TokW Pt t (toksT 1 t) p H m' σ' H'', fun _ _ h => h, ?_⟩
      refine ⟨_, rfl, _, rfl, _, _, _, rfl, rfl, hsz, at_S hi2, ?_⟩
      refine ⟨_, rfl, rfl, ?_⟩
      rw [hash_code, dcStr, dcS]
      refine ⟨_, rfl, ?_⟩
      by_cases h1 : t[i] = 35
      · refine iteDT (by rw [h1]) ⟨_, rfl, _, rfl, t, i, rfl, hi, by omega, ?_⟩
        have e1 : comLen (t.drop i) = 1 + ((t.drop (i + 1)).takeWhile (· ≠ 10)).length := by
          unfold comLen
          rw [hd, List.takeWhile_cons, h1, if_pos (by decide), List.length_cons]
          omega
        have e2 : t.drop (i + comLen (t.drop i)) = (t.drop (i + 1)).dropWhile (· ≠ 10) := by
          rw [e1, ← Nat.add_assoc, ← List.drop_drop, drop_tw]
        have e3 := tw_le (· ≠ 10) (t.drop (i + 1))
        rw [List.length_drop] at e3
        rw [hd, h1, toksT_hash, ← e2] at hall
        exact ⟨t.length - (i + comLen (t.drop i)), by omega, i + comLen (t.drop i), l, rs, done, _, c5, rfl, rfl, by omega, tg', sm, hT, hD, by omega, by omega, hall⟩
      · refine iteDF (fun z => h1 (List.cons.inj z).1) ⟨_, rfl, rfl, ?_⟩
        rw [sp_code, dcStr, dcS]
        refine ⟨_, rfl, ?_⟩
        by_cases h2 : t[i] = 32
        · refine iteDT (by rw [h2]) ⟨_, rfl, _, _, rfl, rfl, ?_⟩
          rw [hd, h2, toksT_space] at hall
          exact ⟨t.length - (i + 1), by omega, i + 1, l, rs, done, _, c5, rfl, rfl, by omega, tg', sm, hT, hD, by omega, by omega, hall⟩
        · refine iteDF (fun z => h2 (List.cons.inj z).1) ⟨_, rfl, rfl, ?_⟩
          rw [nl_code, dcStr, dcS]
          refine ⟨_, rfl, ?_⟩
          by_cases h3 : t[i] = 10
          · refine iteDT (by rw [h3]) ⟨_, rfl, _, _, rfl, rfl, _, rfl, _, _, rfl, rfl, ?_⟩
            rw [hd, h3, toksT_nl] at hall
            exact ⟨t.length - (i + 1), by omega, i + 1, l + 1, rs, done, _, c5, rfl, rfl, by omega, tg', sm, hT, hD, by omega, by omega, hall⟩
          · refine iteDF (fun z => h3 (List.cons.inj z).1) ⟨_, rfl, _, rfl, t, i, rfl, hi2, by omega, ?_⟩
            rw [hd, toksT_part h1 h2 h3, ← hd] at hall
            have hp1 := partLen_pos t[i] (t.drop (i + 1))
            rw [← hd] at hp1
            have hp2 := part_fits (t := t.drop i) (by rw [hd]; exact List.cons_ne_nil _ _)
            rw [List.length_drop] at hp2
            have ecut : cutS (S t) (some (i : Int)) (some ((i + partLen (t.drop i) : Nat) : Int)) = S ((t.drop i).take (partLen (t.drop i))) := by
              have := cut2 t i (i + partLen (t.drop i))
              rw [show i + partLen (t.drop i) - i = partLen (t.drop i) by omega] at this
              exact this
            refine ⟨_, rfl, .inl ⟨rfl, _, SqL.of hT⟩, _, rfl, _, rfl, _, rfl, _, rfl, _, rfl, _, rfl, hsz, ?_⟩
            rw [ecut]
            refine ⟨_, rfl, (t.drop i).take (partLen (t.drop i)), l, rfl, ?_, ?_, by omega, tg', fun kd v hk H2 q2 ht2 hn2 => ?_, fun hk H2 d2 ht2 hn2 => ?_⟩
            · intro z
              have := congrArg List.length z
              rw [List.length_take, List.length_drop, List.length_nil] at this
              omega
            · rw [List.length_take, List.length_drop]
              omega
            · have sm2 := Tabbed.sm tg' ht2
              have hT2 := sm2 _ _ ntL hT
              have s3 : Same H2 (upd H2 q2 (.tup [.str kd, v, .int l])) := same_new hn2
              have hT3 := s3 _ _ hT2
              refine ⟨p, rs, _, rfl, rfl, hT3, small_len (by omega), _, rfl, ?_⟩
              have hnn : ∀ b o, H b = some o → b ≠ p := fun b o e => ne_of_none e hp
              refine ⟨t.length - (i + partLen (t.drop i)), by omega, i + partLen (t.drop i), l, rs ++ [.ref q2], done ++ [(kd, v, l)], _, _, rfl, rfl, by omega, ?_, ?_, upd_same, ?_, ?_, by omega, ?_⟩
              · exact TabG.upd (TabG.upd ht2.1 (.inl hn2)) (.inr ⟨_, hT3, ntL⟩)
              · intro b o n e
                rw [upd_ne (hnn b o e)]
                exact s3 _ _ (sm2 _ _ n (sm _ _ n e))
              · refine (ToksAt.lst hT3 ((hD.sm sm2).sm (Sm.same s3))).app (.cons ⟨q2, rfl, ?_⟩ .nil)
                rw [upd_ne (ne_of upd_same hT3 tup_lst), upd_same]
              · rw [List.length_append, List.length_singleton]
                omega
              · rw [hall, hk, pre_ahead, List.drop_drop]
            · have sm2 := Tabbed.sm tg' ht2
              rw [hk] at hall
              refine qe l hall _ d2 ?_ (TabG.upd ht2.1 (.inl hn2)) upd_same
              · intro b o n e
                exact (same_new (o := .xd [("line", .int l)]) hn2) _ _ (sm2 _ _ n (sm _ _ n e))
    · have hi2 : i = t.length := by rw [hl] at h; omega
      rw [hi2, List.drop_of_length_le (Nat.le_refl _), toksT_nil] at hall
      have hall2 : toksT 1 t = .ok (done ++ [endTok l]) := hall
      refine ⟨_, rfl, .inl ⟨rfl, _, SqL.of hT⟩, _, rfl, len3, fun q2 hq2 => ?_⟩
      have s3 : Same H' (upd H' q2 (.tup [.str (Str.ofString "end"), .str (Str.ofString ""), .int l])) := same_new hq2
      have hT3 := s3 _ _ hT
      refine ⟨p, rs, _, rfl, rfl, hT3, small_len (by omega), _, rfl, ?_⟩
      refine q _ hall2 _ p _ ?_ ?_ hp upd_same ?_
      · intro b o n e
        rw [upd_ne (ne_of_none e hp)]
        exact s3 _ _ (sm _ _ n e)
      · exact TabG.upd (TabG.upd tg' (.inl hq2)) (.inr ⟨_, hT3, ntL⟩)
      · refine (ToksAt.lst hT3 (hD.sm (Sm.same s3))).app (.cons ⟨q2, rfl, ?_⟩ .nil)
        rw [upd_ne (ne_of upd_same hT3 tup_lst), upd_same]
        rfl
end
end Pk
set_option Elab.async false
set_option linter.all false
set_option maxRecDepth 100000
set_option maxHeartbeats 4000000
namespace Pk
open PySem PySem.Spec PyProof.Rows L2 SX GxR Tk PySem.ErX
/-! ### k02: lines, bad parts, good parts -/
theorem takeWhile_nl : ∀ (p r : List Nat), (p ++ 10 :: r).takeWhile inRun = p.takeWhile inRun
  | [], r => by
    have k : inRun 10 = false := by decide +kernel
    rw [List.nil_append, List.takeWhile_cons, if_neg (by rw [k]; exact Bool.false_ne_true)]
    rfl
  | a :: p, r => by
    rw [List.cons_append, List.takeWhile_cons, List.takeWhile_cons, takeWhile_nl p r]
theorem long_nl {a b : Nat} (h : S [a, b] ∈ longs) : b ≠ 10 := by
  have key : ∀ x ∈ longs, 10 ∉ x.cps.toList := by decide +kernel
  rintro rfl
  exact key _ h (List.mem_cons_of_mem _ List.mem_cons_self)
theorem long_two {p : List Nat} (h : S p ∈ longs) : p.length = 2 := by
  have key : ∀ x ∈ longs, x.length = 2 := by decide +kernel
  have := key _ h
  rw [S_len] at this
  exact this
theorem partLen_nl {p : List Nat} (h : p ≠ []) (r : List Nat) : partLen (p ++ 10 :: r) = partLen p := by
  obtain ⟨c, q, rfl⟩ := head_one h
  unfold partLen
  rw [takeWhile_nl]
  have e1 : headIn (letters ++ digits ++ [95]) (c :: q ++ 10 :: r) = headIn (letters ++ digits ++ [95]) (c :: q) := rfl
  rw [e1]
  split
  · rfl
  · cases q with
    | nil =>
      rw [if_neg, if_neg]
      · intro z
        have := long_two z
        cases this
      · intro z
        exact long_nl (a := c) (b := 10) z rfl
    | cons d q => rfl
theorem dropWhile_nl : ∀ {p : List Nat}, 10 ∉ p → ∀ r, (p ++ 10 :: r).dropWhile (· ≠ 10) = 10 :: r
  | [], _, r => rfl
  | a :: p, h, r => by
    have ha : a ≠ 10 := fun z => h (by rw [z]; exact List.mem_cons_self)
    rw [List.cons_append, List.dropWhile_cons, if_pos (by simpa using ha)]
    exact dropWhile_nl (fun z => h (List.mem_cons_of_mem _ z)) r
theorem dropWhile_none : ∀ {p : List Nat}, 10 ∉ p → p.dropWhile (· ≠ 10) = []
  | [], _ => rfl
  | a :: p, h => by
    have ha : a ≠ 10 := fun z => h (by rw [z]; exact List.mem_cons_self)
    rw [List.dropWhile_cons, if_pos (by simpa using ha)]
    exact dropWhile_none (fun z => h (List.mem_cons_of_mem _ z))
/-- a line of good tokens -/
def okP : Nat → List Nat → Bool
  | _, [] => true
  | 0, _ :: _ => false
  | f + 1, c :: r => if c = 35 then true else if c = 32 then okP f r else if c = 10 then false else (tokOf ((c :: r).take (partLen (c :: r)))).isSome && okP f ((c :: r).drop (partLen (c :: r)))
theorem okP_cons (f c : Nat) (r : List Nat) : okP (f + 1) (c :: r) = if c = 35 then true else if c = 32 then okP f r else if c = 10 then false else (tokOf ((c :: r).take (partLen (c :: r)))).isSome && okP f ((c :: r).drop (partLen (c :: r))) := by rw [okP]
theorem line_ok : ∀ (f : Nat) (p : List Nat), okP f p = true → 10 ∉ p → ∀ (l : Nat), (∀ r, ∃ ds, toksT l (p ++ 10 :: r) = pre ds (toksT (l + 1) r)) ∧ ∃ ts, toksT l p = .ok ts := by
  intro f
  induction f with
  | zero =>
    intro p h hn l
    cases p with
    | nil => exact ⟨fun r => ⟨[], by rw [List.nil_append, toksT_nl, pre_nil]⟩, _, rfl⟩
    | cons c r => cases h
  | succ f ih =>
    intro p h hn l
    cases p with
    | nil => exact ⟨fun r => ⟨[], by rw [List.nil_append, toksT_nl, pre_nil]⟩, _, rfl⟩
    | cons c q =>
      rw [okP_cons] at h
      have hq : 10 ∉ q := fun z => hn (List.mem_cons_of_mem _ z)
      by_cases h1 : c = 35
      · subst h1
        refine ⟨fun r => ⟨[], ?_⟩, ?_⟩
        · rw [List.cons_append, toksT_hash, dropWhile_nl hq, toksT_nl, pre_nil]
        · rw [toksT_hash, dropWhile_none hq]
          exact ⟨_, rfl⟩
      rw [if_neg h1] at h
      by_cases h2 : c = 32
      · subst h2
        rw [if_pos rfl] at h
        obtain ⟨i1, i2⟩ := ih q h hq l
        refine ⟨fun r => ?_, ?_⟩
        · rw [List.cons_append, toksT_space]
          exact i1 r
        · rw [toksT_space]
          exact i2
      rw [if_neg h2] at h
      have h3 : c ≠ 10 := fun z => hn (by rw [z]; exact List.mem_cons_self)
      rw [if_neg h3, Bool.and_eq_true, Option.isSome_iff_exists] at h
      obtain ⟨⟨⟨k, v⟩, hk⟩, h⟩ := h
      have hd : 10 ∉ (c :: q).drop (partLen (c :: q)) := fun z => hn (List.mem_of_mem_drop z)
      have hfit : partLen (c :: q) ≤ (c :: q).length := part_fits (List.cons_ne_nil _ _)
      obtain ⟨i1, ts, i2⟩ := ih _ h hd l
      refine ⟨fun r => ?_, ?_⟩
      · obtain ⟨ds, i1⟩ := i1 r
        refine ⟨(k, v, l) :: ds, ?_⟩
        have e := partLen_nl (p := c :: q) (List.cons_ne_nil _ _) r
        rw [List.cons_append] at e
        rw [List.cons_append, toksT_part h1 h2 h3, e, ← List.cons_append, List.take_append_of_le_length hfit, List.drop_append_of_le_length hfit, hk, i1, ahead_pre, pre_app]
        rfl
      · rw [toksT_part h1 h2 h3, hk, i2]
        exact ⟨_, rfl⟩
/-- what may stand behind a bad part -/
def behinds : List (List Nat) := [[], [32, 120], [10, 36], [10, 48, 55], [32, 35, 32, 120], [59]]
structure BadOk (p : List Nat) : Prop where
  nl : 10 ∉ p
  len : p.length ≤ 60
  err : ∀ (l : Nat), ∀ b ∈ behinds, toksT l (p ++ b) = .error l
def badB (p : List Nat) : Bool := (match p with
  | [] => false
  | c :: _ => decide (c ≠ 35) && decide (c ≠ 32) && decide (c ≠ 10)) && (behinds.all fun b => (tokOf ((p ++ b).take (partLen (p ++ b)))).isNone) && decide (10 ∉ p) && decide (p.length ≤ 60)
theorem bad_of {p : List Nat} (h : badB p = true) : BadOk p := by
  unfold badB at h
  simp only [Bool.and_eq_true, decide_eq_true_eq] at h
  obtain ⟨⟨⟨h1, h2⟩, h3⟩, h4⟩ := h
  refine ⟨h3, h4, fun l b hb => ?_⟩
  cases p with
  | nil => cases h1
  | cons c q =>
    simp only [Bool.and_eq_true, decide_eq_true_eq] at h1
    have e := List.all_eq_true.mp h2 b hb
    rw [Option.isNone_iff_eq_none] at e
    rw [List.cons_append] at e ⊢
    rw [toksT_part h1.1.1 h1.1.2 h1.2, e]
    rfl
/-- a run that is no token -/
theorem bad_run {p : List Nat} (hne : p ≠ []) (hall : p.all inRun = true) (hl : p.length ≤ 60) (hk : tokOf p = none) : BadOk p := by
  obtain ⟨c, q, rfl⟩ := head_one hne
  have hc := inRun_ne (List.all_eq_true.mp hall c List.mem_cons_self)
  have key : ∀ b ∈ behinds, (match b with | [] => true | d :: _ => !inRun d) = true := by decide +kernel
  refine ⟨fun hm => (inRun_ne (List.all_eq_true.mp hall 10 hm)).2.2 rfl, hl, fun l b hb => ?_⟩
  have e : partLen (c :: q ++ b) = (c :: q).length := by
    unfold partLen
    have h0 : headIn (letters ++ digits ++ [95]) (c :: q ++ b) = true := by
      have := List.all_eq_true.mp hall c List.mem_cons_self
      rw [inRun_iff (r := q ++ b)] at this
      exact this
    rw [if_pos h0, tw_app hall]
    intro d r' eb
    have := key b hb
    rw [eb] at this
    simpa using this
  rw [List.cons_append] at e ⊢
  rw [toksT_part hc.1 hc.2.1 hc.2.2, e, ← List.cons_append, List.take_left', hk]
  · rfl
  · rfl
theorem tok_none {p : List Nat} {c : Nat} {q : List Nat} (e : p = c :: q) (hr : inRun c = true) (h1 : ¬ (c ∈ letters ∧ p.length ≤ 16)) (h2 : isNum p = false) : tokOf p = none := by
  subst e
  have key : ∀ x ∈ longs ++ shorts, (match x.cps.toList with | [] => true | d :: _ => !inRun d) = true := by decide +kernel
  unfold Tk.tokOf
  rw [if_neg (fun z => h1 ⟨of_decide_eq_true z.1, z.2⟩), if_neg (by rw [h2]; exact Bool.false_ne_true), if_neg]
  rintro (z | z)
  · have := key _ (List.mem_append_left _ z)
    have h3 : (!inRun c) = true := this
    rw [hr] at h3
    cases h3
  · have := key _ (List.mem_append_right _ z)
    have h3 : (!inRun c) = true := this
    rw [hr] at h3
    cases h3
end Pk
set_option Elab.async false
set_option linter.all false
set_option maxRecDepth 100000
set_option maxHeartbeats 4000000
namespace Pk
open PySem PySem.Spec PyProof.Rows L2 SX GxR Tk PySem.ErX
abbrev sBad : Stmt := topS 30
abbrev sGood : Stmt := topS 31
abbrev sBefore : Stmt := topS 32
abbrev sOutcome : Stmt := topS 33
abbrev sLaw : Stmt := topS 34
theorem scBad : FnScope ["state", "kind"] ["state"] (defScope sBad) := ⟨rfl, rfl, rfl, by decide +kernel, rfl, by decide +kernel, by decide +kernel⟩
theorem scGood : FnScope ["state"] ["state"] (defScope sGood) := ⟨rfl, rfl, rfl, by decide +kernel, rfl, by decide +kernel, by decide +kernel⟩
theorem scBefore : FnScope ["state", "text", "k"] ["state"] (defScope sBefore) := ⟨rfl, rfl, rfl, by decide +kernel, rfl, by decide +kernel, by decide +kernel⟩
theorem scOutcome : FnScope ["text", "actual", "e"] ["text"] (defScope sOutcome) := ⟨rfl, rfl, rfl, by decide +kernel, rfl, by decide +kernel, by decide +kernel⟩
theorem scLaw : FnScope ["script", "state", "before", "bad", "line", "behind", "good", "char"] ["script"] (defScope sLaw) := ⟨rfl, rfl, rfl, by decide +kernel, rfl, by decide +kernel, by decide +kernel⟩
theorem StAt.neS {H : Hp} {s c p : Addr} (h : StAt H s c) (hp : H p = none) : p ≠ s ∧ p ≠ c := by
  obtain ⟨cells, seed, h1, h2, _⟩ := h
  exact ⟨Ne.symm (ne_of_none h1 hp), Ne.symm (ne_of_none h2 hp)⟩
theorem dig_run {c : Nat} (h : c ∈ digits) : inRun c = true := by
  have key : ∀ c ∈ digits, inRun c = true := by decide +kernel
  exact key c h
theorem digs_in {p : List Nat} (h : NumText.AllDigits p) : ∀ c ∈ p, c ∈ digits := by
  have key : ∀ c, c < 58 → 48 ≤ c → c ∈ digits := by decide +kernel
  intro c hc
  have := h c hc
  exact key c (by omega) this.1
theorem dig_no {c : Nat} (h : c ∈ digits) : c ∉ letters ∧ c ≠ 120 := by
  have key : ∀ c ∈ digits, c ∉ letters ∧ c ≠ 120 := by decide +kernel
  exact key c h
theorem all_run {p : List Nat} (h : ∀ c ∈ p, c ∈ digits) : p.all inRun = true := List.all_eq_true.mpr fun c hc => dig_run (h c hc)
/-- a zero ahead of digits -/
theorem bad_zero {n : Nat} (h : n < 100) : BadOk ([48] ++ TL.numL n) := by
  have hd := digs_in (TL.numL_digits n)
  have hl : (TL.numL n).length ≤ 2 := TL.numL_len (by decide) (by omega)
  obtain ⟨d, r, e⟩ := head_one (TL.numL_ne n)
  refine bad_run (List.cons_ne_nil _ _) (all_run fun c hc => ?_) (by rw [List.length_append]; show 1 + _ ≤ 60; omega) (tok_none (c := 48) (q := TL.numL n) rfl (by decide +kernel) (fun z => ?_) ?_)
  · rcases List.mem_append.mp hc with hc | hc
    · obtain rfl := List.mem_singleton.mp hc
      decide +kernel
    · exact hd c hc
  · have : ¬ (48 : Nat) ∈ letters := by decide +kernel
    exact this z.1
  · rw [e] at hd ⊢
    have hx : isHexed ([48] ++ d :: r) = false := by
      refine decide_eq_false fun z => ?_
      have : d = 120 := (List.cons.inj (List.cons.inj z).2).1
      exact (dig_no (hd d List.mem_cons_self)).2 this
    unfold isNum
    rw [hx, if_neg Bool.false_ne_true, if_pos (show List.take 1 ([48] ++ d :: r) = [48] from rfl)]
    exact decide_eq_false fun z => by cases z
/-- a run that begins with a digit from 1 on and is no number -/
theorem num_head {n : Nat} (h : 0 < n) : ∃ d r, TL.numL n = d :: r ∧ d ∈ digits ∧ d ≠ 48 := by
  have key : ∀ m : Nat, 0 < m → ∃ d r, TL.numL m = d :: r ∧ d ≠ 48 := by
    intro m
    induction m using Nat.strongRecOn with
    | ind m ih =>
      intro hm
      by_cases hs : m < 10
      · exact ⟨48 + m, [], TL.numL_lt hs, by omega⟩
      · obtain ⟨d, r, e, hd⟩ := ih (m / 10) (by omega) (by omega)
        rw [TL.numL_step (by omega), e]
        exact ⟨d, _, rfl, hd⟩
  obtain ⟨d, r, e, hd⟩ := key n h
  exact ⟨d, r, e, digs_in (TL.numL_digits n) d (by rw [e]; exact List.mem_cons_self), hd⟩
theorem not_hex {d : Nat} {r : List Nat} (h : d ≠ 48) : isHexed (d :: r) = false := decide_eq_false fun z => by
  cases r with
  | nil => cases z
  | cons a r => exact h (List.cons.inj z).1
theorem bad_tail {n : Nat} {s : List Nat} (h0 : 0 < n) (h : n ≤ 5000) (hs : s = [97] ∨ s = [95] ∨ s = [120, 49]) : BadOk (TL.numL n ++ s) := by
  have hd := digs_in (TL.numL_digits n)
  have hl : (TL.numL n).length ≤ 4 := TL.numL_len (by decide) (by omega)
  obtain ⟨d, r, e, h1, h2⟩ := num_head h0
  have hsl : s.length ≤ 2 ∧ s.all inRun = true ∧ allIn s digits = false := by
    rcases hs with rfl | rfl | rfl <;> exact ⟨by decide, by decide +kernel, by decide +kernel⟩
  refine bad_run (by rw [e]; exact List.cons_ne_nil _ _) ?_ (by rw [List.length_append]; omega) (tok_none (c := d) (q := r ++ s) (by rw [e]; rfl) (dig_run h1) (fun z => (dig_no h1).1 z.1) ?_)
  · rw [List.all_append, all_run hd, hsl.2.1]
    rfl
  · have ha : allIn (TL.numL n ++ s) digits = false := by
      unfold allIn
      rw [List.all_append]
      have := hsl.2.2
      unfold allIn at this
      rw [this, Bool.and_false]
    have hlen : ¬ 10 < (TL.numL n ++ s).length := by rw [List.length_append]; omega
    unfold isNum
    rw [e] at ha hlen ⊢
    rw [if_neg (by rw [List.cons_append, not_hex h2]; exact Bool.false_ne_true), if_neg (show ¬ List.take 1 (d :: r ++ s) = [48] from fun z => h2 (List.cons.inj z).1), if_neg hlen, ha, Bool.false_and]
theorem bad_big {n : Nat} (h : 4294967296 ≤ n) (h2 : n < 100000000000) : BadOk (TL.numL n) := by
  have hd := digs_in (TL.numL_digits n)
  have hl : (TL.numL n).length ≤ 11 := TL.numL_len (by decide) (by omega)
  obtain ⟨d, r, e, h1, h3⟩ := num_head (n := n) (by omega)
  refine bad_run (TL.numL_ne n) (all_run hd) (by omega) (tok_none e (dig_run h1) (fun z => (dig_no h1).1 z.1) ?_)
  have hv := TL.numL_val n
  unfold isNum
  rw [e] at hv ⊢
  rw [if_neg (by rw [not_hex h3]; exact Bool.false_ne_true), if_neg (show ¬ List.take 1 (d :: r) = [48] from fun z => h3 (List.cons.inj z).1), hv]
  split
  · rfl
  · rw [decide_eq_false (by omega), Bool.and_false]
theorem bad_name : ∀ m, m < 10 → 1 ≤ m → badB ((List.replicate 4 [97, 90, 95, 55]).flatten ++ (List.replicate m [98]).flatten) = true := by decide +kernel
def badL : List Str := [">", "*", "/", "!", "$", "@", "?", "~", "[", "]", "_", "_a", "\"", "'", "0x", "0xG", "0xA1", "0X1", "0x1_", "12345678901234567890"].map Str.ofString
theorem bad_str {x : Str} (h : x ∈ badL) : ∃ p, x = S p ∧ BadOk p := by
  have key : ∀ x ∈ badL, badB x.cps.toList = true := by decide +kernel
  exact ⟨x.cps.toList, (S_tl x).symm, bad_of (key x h)⟩
theorem bad_nine : badB (List.replicate 10 [57]).flatten = true := by decide +kernel
theorem bad_one : badB (List.replicate 11 [49]).flatten = true := by decide +kernel
theorem bad_hex : badB ([48, 120, 49] ++ [48, 97, 102, 57, 51, 99, 50, 101]) = true := by decide +kernel
/-- a good part -/
structure GoodOk (p : List Nat) : Prop where
  nl : 10 ∉ p
  len : p.length ≤ 20
  ok : ∀ l, ∃ ts, toksT l p = .ok ts
def goodB (p : List Nat) : Bool := okP 30 p && decide (10 ∉ p) && decide (p.length ≤ 20)
theorem good_of {p : List Nat} (h : goodB p = true) : GoodOk p := by
  unfold goodB at h
  simp only [Bool.and_eq_true, decide_eq_true_eq] at h
  exact ⟨h.1.2, h.2, fun l => (line_ok 30 p h.1.1 h.1.2 l).2⟩
def goodL : List Str := ["4294967295", "0xffffffff", "0", "0x0", "->", "==", "Z_9"].map Str.ofString
theorem good_str {x : Str} (h : x ∈ goodL) : ∃ p, x = S p ∧ GoodOk p := by
  have key : ∀ x ∈ goodL, goodB x.cps.toList = true := by decide +kernel
  exact ⟨x.cps.toList, (S_tl x).symm, good_of (key x h)⟩
theorem good_a : goodB (List.replicate 16 [97]).flatten = true := by decide +kernel
/-- a line of good tokens -/
structure LineOk (p : List Nat) : Prop where
  nl : 10 ∉ p
  len : p.length ≤ 20
  ok : ∀ l r, ∃ ds, toksT l (p ++ 10 :: r) = pre ds (toksT (l + 1) r)
def lineL : List Str := ["go", "x1 {", "# 07 $", "", "  ", "7 & 0x1f ->", "=", "==="].map Str.ofString
theorem line_str {x : Str} (h : x ∈ lineL) : ∃ p, x = S p ∧ LineOk p := by
  have key : ∀ x ∈ lineL, okP 30 x.cps.toList = true ∧ 10 ∉ x.cps.toList ∧ x.cps.toList.length ≤ 20 := by decide +kernel
  obtain ⟨h1, h2, h3⟩ := key x h
  exact ⟨x.cps.toList, (S_tl x).symm, h2, h3, fun l => (line_ok 30 _ h1 h2 l).1⟩
def behL : List Str := ["", " x", "\n$", "\n07", " # x", ";"].map Str.ofString
theorem beh_str {x : Str} (h : x ∈ behL) : ∃ p, x = S p ∧ p ∈ behinds ∧ p.length ≤ 10 := by
  have key : ∀ x ∈ behL, x.cps.toList ∈ behinds ∧ x.cps.toList.length ≤ 10 := by decide +kernel
  exact ⟨x.cps.toList, (S_tl x).symm, key x h⟩
end Pk
set_option Elab.async false
set_option linter.all false
set_option maxRecDepth 100000
set_option maxHeartbeats 4000000
namespace Pk
open PySem PySem.Spec PyProof.Rows L2 SX GxR Tk PySem.ErX
theorem op_mulS0 {X : Cx} : OpR X (binaryOp .Mult) (fun x y H Q => ∃ (l : List Nat) (n : Nat), x = .str (S l) ∧ y = .int n ∧ n ≤ 1000 ∧ l.length ≤ 1000 ∧ Q (.str (S (List.replicate n l).flatten)) H) := by
  intro pins s σ H x y v u Q I rx ry h
  obtain ⟨l, n, rfl, rfl, h2, h3, q⟩ := h
  by_cases h1 : 1 ≤ n
  · exact op_mulS pins s σ H _ _ v u Q I rx ry ⟨l, n, rfl, rfl, h1, h2, h3, q⟩
  · obtain rfl : n = 0 := by omega
    obtain ⟨t, rfl⟩ := rx
    obtain ⟨t', rfl⟩ := ry
    exact P.mul_str_none (by decide) (by decide) ⟨.str _, H, I.tok _, ⟨_, rfl⟩, q⟩
def spBad : Sp := fun vs H Q _ => ∃ s c : Addr, vs = [.ref s] ∧ StAt H s c ∧ ∀ H' p, BadOk p → StAt H' s c → Kp s c H H' → Q (.str (S p)) H'
def spGood : Sp := fun vs H Q _ => ∃ s c : Addr, vs = [.ref s] ∧ StAt H s c ∧ ∀ H' p, GoodOk p → StAt H' s c → Kp s c H H' → Q (.str (S p)) H'
/-- lines ahead of the rest -/
def BefOk (t : List Nat) : Prop := t.length ≤ 1000 ∧ ∀ r, ∃ ds, toksT 1 (t ++ r) = pre ds (toksT (1 + t.count 10) r)
def spBefore : Sp := fun vs H Q _ => ∃ s c : Addr, vs = [.ref s] ∧ StAt H s c ∧ ∀ H' p, BefOk p → StAt H' s c → Kp s c H H' → Q (.str (S p)) H'
section
variable {P : Program} {w : World} {K : PySem.W.Frag} {mg : Str → Option Value} {base : Heap}
theorem mem_bad {j : Nat} {x : V} {xs : List Str} (h : (xs.map V.str)[j]? = some x) (hs : ∀ y ∈ xs, y ∈ badL) : ∃ p, x = .str (S p) ∧ BadOk p := by
  obtain ⟨y, hy, rfl⟩ := List.mem_map.mp (List.mem_of_getElem? h)
  obtain ⟨p, rfl, hp⟩ := bad_str (hs y hy)
  exact ⟨p, rfl, hp⟩
theorem log_small {n : Nat} (h : n < 100000000000) : ((n : Nat) : Int).natAbs.log2 < 1920 := by
  rw [Int.natAbs_natCast]
  by_cases hz : n = 0
  · subst hz
    decide
  · exact (Nat.log2_lt hz).mpr (Nat.lt_of_lt_of_le h (Nat.le_trans (by decide : 100000000000 ≤ 2 ^ 40) (Nat.pow_le_pow_right (by decide) (by decide))))
theorem nine_code : Str.ofString "9" = S [57] := by decide +kernel
theorem one_code : Str.ofString "1" = S [49] := by decide +kernel
theorem az_code : Str.ofString "aZ_7" = S [97, 90, 95, 55] := by decide +kernel
theorem b_code : Str.ofString "b" = S [98] := by decide +kernel
theorem a_code : Str.ofString "a" = S [97] := by decide +kernel
theorem hex_code : Str.ofString "0x1" = S [48, 120, 49] := by decide +kernel
theorem hex2_code : Str.ofString "0af93c2e" = S [48, 97, 102, 57, 51, 99, 50, 101] := by decide +kernel
theorem tail_str {j : Nat} {x : V} (h : ([V.str "a", .str "_", .str "x1"] : List V)[j]? = some x) : ∃ s, x = .str (S s) ∧ (s = [97] ∨ s = [95] ∨ s = [120, 49]) := by
  have e1 : Str.ofString "_" = S [95] := by decide +kernel
  have e2 : Str.ofString "x1" = S [120, 49] := by decide +kernel
  have hm := List.mem_of_getElem? h
  simp only [List.mem_cons, List.not_mem_nil, or_false] at hm
  rcases hm with rfl | rfl | rfl
  · exact ⟨_, congrArg V.str a_code, .inl rfl⟩
  · exact ⟨_, congrArg V.str e1, .inr (.inl rfl)⟩
  · exact ⟨_, congrArg V.str e2, .inr (.inr rfl)⟩
theorem ok_bad {f : Addr} {fd : FuncData} {k : Nat} (F : Fun K "_law_bad" "_law_bad" sBad f fd) (zStr : mg "str" = none) (DD : Df P w K mg base CX0 (k + 1) "_law_draw" ["state", "many"] spDraw) (DP : Df P w K mg base CX0 (k + 2) "_law_pick" ["state", "row"] (spPick K)) :
    FnOk P w K mg base CX0 (k + 3) f fd ["state"] spBad := by
  obtain ⟨fD, fdD, GD, gD, kD, bD⟩ := DD.ex
  obtain ⟨fP, fdP, GP, gP, kP, bP⟩ := DP.ex
  refine F.ok scBad (fun vs H Q E h => ?_) (fun cdv A outer s0 H vs Q E hr h => ?_)
  · obtain ⟨s, c, rfl, _⟩ := h
    rfl
  · obtain ⟨s, c, rfl, hS, q⟩ := h
    have nd := scBad.nd
    have hr1 : Room (k + 1) _ := hr.mono (Nat.le_succ _)
    refine ⟨_, pss_cons (ps_set (i := 1) nd rfl (.inl rfl) (pe_call GD hr1 (by rfl) gD kD bD .nil pass0 (pa_cons (pv 0) (pa_cons pe_int pa_nil))))
      (pss_cons (ps_if (pt_cmpR op_eq (pv 1) pe_int (nomark _)) (pss_one (ps_ret (pe_call GP hr (by rfl) gP kP bP .nil pass0 (pa_cons (pv 0) (pa_cons (pe_lst (pa_cons pe_str (pa_cons pe_str (pa_cons pe_str (pa_cons pe_str (pa_cons pe_str (pa_cons pe_str (pa_cons pe_str (pa_cons pe_str (pa_cons pe_str (pa_cons pe_str (pa_cons pe_str (pa_cons pe_str (pa_cons pe_str (pa_cons pe_str pa_nil))))))))))))))) pa_nil))))) pss_nil)
      (pss_cons (ps_if (pt_cmpR op_eq (pv 1) pe_int (nomark _)) (pss_one (ps_ret (pe_op op_add_str (pe_op op_mulS pe_str pe_int) (pe_op op_mulS pe_str (pe_op op_add pe_int (pe_call GD hr1 (by rfl) gD kD bD .nil pass0 (pa_cons (pv 0) (pa_cons pe_int pa_nil)))))))) pss_nil)
      (pss_cons (ps_if (pt_cmpR op_eq (pv 1) pe_int (nomark _)) (pss_one (ps_ret (pe_op op_add_str pe_str (pe_callTy call_str_int (by rfl) zStr (by decide +kernel) (pa_cons (pe_call GD hr1 (by rfl) gD kD bD .nil pass0 (pa_cons (pv 0) (pa_cons pe_int pa_nil))) pa_nil))))) pss_nil)
      (pss_cons (ps_if (pt_cmpR op_eq (pv 1) pe_int (nomark _)) (pss_one (ps_ret (pe_op op_add_str (pe_callTy call_str_int (by rfl) zStr (by decide +kernel) (pa_cons (pe_op op_add pe_int (pe_call GD hr1 (by rfl) gD kD bD .nil pass0 (pa_cons (pv 0) (pa_cons pe_int pa_nil)))) pa_nil))
          (pe_call GP hr (by rfl) gP kP bP .nil pass0 (pa_cons (pv 0) (pa_cons (pe_lst (pa_cons pe_str (pa_cons pe_str (pa_cons pe_str pa_nil)))) pa_nil)))))) pss_nil)
      (pss_cons (ps_if (pt_cmpR op_eq (pv 1) pe_int (nomark _)) (pss_one (ps_ret (pe_callTy call_str_int (by rfl) zStr (by decide +kernel) (pa_cons (pe_op op_add pe_int (pe_call GD hr1 (by rfl) gD kD bD .nil pass0 (pa_cons (pv 0) (pa_cons pe_int pa_nil)))) pa_nil)))) pss_nil)
      (pss_cons (ps_if (pt_cmpR op_eq (pv 1) pe_int (nomark _)) (pss_one (ps_ret (pe_call GP hr (by rfl) gP kP bP .nil pass0 (pa_cons (pv 0) (pa_cons (pe_lst (pa_cons pe_str (pa_cons pe_str (pa_cons pe_str (pa_cons pe_str (pa_cons pe_str pa_nil)))))) pa_nil))))) pss_nil)
      (pss_cons (ps_if (pt_cmpR op_eq (pv 1) pe_int (nomark _)) (pss_one (ps_ret (pe_op op_add_str pe_str pe_str))) pss_nil)
      (pss_one (ps_ret (pe_call GP hr (by rfl) gP kP bP .nil pass0 (pa_cons (pv 0) (pa_cons (pe_lst (pa_cons pe_str (pa_cons (pe_op op_mulS pe_str pe_int) (pa_cons (pe_op op_mulS pe_str pe_int) pa_nil)))) pa_nil)))))))))))), ?_⟩
    refine ⟨_, rfl, s, c, 8, rfl, hS, by decide, by decide, fun H1 r r0 r1 hS1 k1 => ?_⟩
    have step : ∀ {n : Int} {T E : Prop}, (r = n → T) → (¬ r = n → E) → (if decide (V.int r = V.int n) = true then T else E) := fun ht he => by
      rw [dcInt]
      exact iteD ht he
    have pk : ∀ {H3 : Hp} {p : Addr} {xs : List V} {Q2 : VK}, StAt H3 s c → Kp s c H H3 → H3 p = none → 0 < xs.length → xs.length ≤ 1000 → (∀ H' j x, xs[j]? = some x → StAt H' s c → Kp s c H H' → Q2 x H') → spPick K [.ref s, .ref p] (upd H3 p (.lst xs)) Q2 fun _ _ _ => False := fun h3 k3 hp l0 l1 h => by
      have hn := h3.neS hp
      exact ⟨s, c, _, _, rfl, h3.new hp, SqL.of upd_same, hn.1, hn.2, l0, l1, fun H2 j x hx hS2 k2 => h H2 j x hx hS2 ((k3.trans (Kp.new hp)).trans k2)⟩
    refine ⟨_, rfl, rfl, _, rfl, step (fun _ => ?_) fun h0 => ?_⟩
    · refine ⟨_, rfl, (by show 14 ≤ sizeLine; decide), fun p hp => pk hS1 k1 hp (by decide) (by decide) fun H2 j x hx hS2 k2 => ?_⟩
      obtain ⟨p, rfl, hb⟩ := mem_bad (xs := [">", "*", "/", "!", "$", "@", "?", "~", "[", "]", "_", "_a", "\"", "'"].map Str.ofString) hx (by decide +kernel)
      exact q _ _ hb hS2 k2
    refine ⟨_, rfl, rfl, _, rfl, step (fun _ => ?_) fun h1 => ?_⟩
    · refine ⟨[97, 90, 95, 55], 4, congrArg V.str az_code, rfl, by decide, by decide, by decide, _, rfl, s, c, 9, rfl, hS1, by decide, by decide, fun H2 a a0 a1 hS2 k2 => ⟨_, _, rfl, rfl, ?_⟩⟩
      obtain ⟨m, hm⟩ : ∃ m : Nat, (1 : Int) + a = m := ⟨(1 + a).toNat, by omega⟩
      refine ⟨[98], m, congrArg V.str b_code, congrArg V.int hm, by omega, by omega, by decide, _, _, rfl, rfl, ?_, ?_⟩
      · rw [S_len, S_len, sizeLine_eq]
        simp
        omega
      · rw [S_cat]
        exact q _ _ (bad_of (bad_name m (by omega) (by omega))) hS2 (k1.trans k2)
    refine ⟨_, rfl, rfl, _, rfl, step (fun _ => ?_) fun h2 => ?_⟩
    · refine ⟨_, rfl, s, c, 100, rfl, hS1, by decide, by decide, fun H2 a a0 a1 hS2 k2 => ?_⟩
      obtain ⟨m, rfl⟩ : ∃ m : Nat, a = m := ⟨a.toNat, by omega⟩
      refine ⟨_, rfl, log_small (by omega), _, _, rfl, rfl, ?_, ?_⟩
      · rw [num_S m, zero_code, S_len, S_len, sizeLine_eq]
        have : (TL.numL m).length ≤ 2 := TL.numL_len (by decide) (by omega)
        show 1 + _ ≤ _
        omega
      · rw [num_S m, zero_code, S_cat]
        exact q _ _ (bad_zero (by omega)) hS2 (k1.trans k2)
    refine ⟨_, rfl, rfl, _, rfl, step (fun _ => ?_) fun h3 => ?_⟩
    · refine ⟨_, rfl, s, c, 5000, rfl, hS1, by decide, by decide, fun H2 a a0 a1 hS2 k2 => ⟨_, _, rfl, rfl, ?_⟩⟩
      obtain ⟨m, hm⟩ : ∃ m : Nat, (1 : Int) + a = m := ⟨(1 + a).toNat, by omega⟩
      refine ⟨_, rfl, by rw [hm]; exact log_small (by omega), _, rfl, (by show 3 ≤ sizeLine; decide), fun p hp => pk hS2 (k1.trans k2) hp (by decide) (by decide) fun H3 j x hx hS3 k3 => ?_⟩
      obtain ⟨t, rfl, ht⟩ := tail_str hx
      refine ⟨_, _, rfl, rfl, ?_, ?_⟩
      · rw [hm, num_S m, S_len, S_len, sizeLine_eq]
        have : (TL.numL m).length ≤ 4 := TL.numL_len (by decide) (by omega)
        have : t.length ≤ 2 := by rcases ht with rfl | rfl | rfl <;> decide
        omega
      · rw [hm, num_S m, S_cat]
        exact q _ _ (bad_tail (by omega) (by omega) ht) hS3 k3
    refine ⟨_, rfl, rfl, _, rfl, step (fun _ => ?_) fun h4 => ?_⟩
    · refine ⟨_, rfl, s, c, 9000000000, rfl, hS1, by decide, by decide, fun H2 a a0 a1 hS2 k2 => ⟨_, _, rfl, rfl, ?_⟩⟩
      obtain ⟨m, hm⟩ : ∃ m : Nat, (4294967296 : Int) + a = m := ⟨(4294967296 + a).toNat, by omega⟩
      refine ⟨_, rfl, by rw [hm]; exact log_small (by omega), ?_⟩
      rw [hm, num_S m]
      exact q _ _ (bad_big (by omega) (by omega)) hS2 (k1.trans k2)
    refine ⟨_, rfl, rfl, _, rfl, step (fun _ => ?_) fun h5 => ?_⟩
    · refine ⟨_, rfl, (by show 5 ≤ sizeLine; decide), fun p hp => pk hS1 k1 hp (by decide) (by decide) fun H2 j x hx hS2 k2 => ?_⟩
      obtain ⟨p, rfl, hb⟩ := mem_bad (xs := ["0x", "0xG", "0xA1", "0X1", "0x1_"].map Str.ofString) hx (by decide +kernel)
      exact q _ _ hb hS2 k2
    refine ⟨_, rfl, rfl, _, rfl, step (fun _ => ?_) fun h6 => ?_⟩
    · refine ⟨_, _, rfl, rfl, by decide +kernel, ?_⟩
      rw [hex_code, hex2_code, S_cat]
      exact q _ _ (bad_of bad_hex) hS1 k1
    · refine ⟨_, rfl, [57], 10, congrArg V.str nine_code, rfl, by decide, by decide, by decide, [49], 11, congrArg V.str one_code, rfl, by decide, by decide, by decide, (by show 3 ≤ sizeLine; decide), fun p hp => pk hS1 k1 hp (by decide) (by decide) fun H2 j x hx hS2 k2 => ?_⟩
      have hm := List.mem_of_getElem? hx
      simp only [List.mem_cons, List.not_mem_nil, or_false] at hm
      rcases hm with rfl | rfl | rfl
      · obtain ⟨p, e, hb⟩ := bad_str (x := "12345678901234567890") (by decide +kernel)
        rw [e]
        exact q _ _ hb hS2 k2
      · exact q _ _ (bad_of bad_nine) hS2 k2
      · exact q _ _ (bad_of bad_one) hS2 k2
end
end Pk
set_option Elab.async false
set_option linter.all false
set_option maxRecDepth 100000
set_option maxHeartbeats 4000000
namespace Pk
open PySem PySem.Spec PyProof.Rows L2 SX GxR Tk PySem.ErX
/-- what the handler of the outcome asks of TextError -/
structure OutE (P : Program) (K : PySem.W.Frag) (mg : Str → Option Value) (cT cR cC cS : Addr) : Prop where
  TE : ErT P K mg "TextError" cT "line"
  ex : ExcC K cT
  self : PySem.W.exmOne K (.ref cT) (.ref cT) = some true
  nT : PySem.W.findIn K (.ref cT) "line" = some none
  gR : mg "RuleError" = some (.ref cR)
  kR : PySem.W.kitOne K (.ref cT) (.ref cR) = some false
  gC : mg "CommandError" = some (.ref cC)
  kC : PySem.W.kitOne K (.ref cT) (.ref cC) = some false
  gS : mg "SwitchError" = some (.ref cS)
  kS : PySem.W.kitOne K (.ref cT) (.ref cS) = some true
  kV : PySem.W.kitOne K (.ref cT) (.type "ValueError") = some true
  zIsi : mg "isinstance" = none
  zVE : mg "ValueError" = none
  zBool : mg "bool" = none
  zList : mg "list" = none
def outV (x : Except Nat (List Tk.Tok)) : Int := match x with
  | .ok _ => 0
  | .error l => l
def spOutcome (Pt : Addr) : Sp := fun vs H Q _ => ∃ t : List Nat, vs = [.str (S t)] ∧ t.length ≤ 1000000 ∧ TabG H Pt ∧ ∀ H', Sm H H' → TabG H' Pt → Q (.int (outV (toksT 1 t))) H'
def tIsT (K : PySem.W.Frag) (cls : Value) (d : Option Addr) (a : Addr) (c : V) : TT := tB (tCB (rIsA K cls d a) (tCons (tVar 2) (tCons (tC c) tNil)))
def tMin2 : TE := tUn (rU fun i => .int (-i)) (tC (.int 2))
def t_suiteO (K : PySem.W.Frag) (cR cC cS : Addr) : Addr → Value → Option Addr → TS := fun a cls d =>
  tSeq (tIfS (tOr (tIsT K cls d a (.ref cR)) (tOr (tIsT K cls d a (.ref cC)) (tB (tCB (rIsi K) (tCons (tXfA K a cls d "line" (tVar 2)) (tCons (tC (.ty "bool")) tNil)))))) (tRet tMin2) tNext)
  (tRet (tIf (tAnd (tIsT K cls d a (.ref cS)) (tIsT K cls d a (.ty "ValueError"))) (tXfA K a cls d "line" (tVar 2)) tMin2))
section
variable {P : Program} {w : World} {K : PySem.W.Frag} {mg : Str → Option Value} {base : Heap} {cT cR cC cS : Addr}
theorem isT_rd {a D : Addr} {d : Option Addr} {c : V} {cv : Value} {b : Bool} {σ : L2.St} {H : Hp} {Q : Bool → Hp → Prop} (C : ExcC K D) (hd : DictOf H d) (hc : ∀ u, RelV c u → u = cv) (hk : PySem.W.kitOne K (.ref D) cv = some b) (h2 : σ[2]? = some (some (.ref a))) (q : Q b H) :
    tIsT K (.ref D) d a c σ H Q := ⟨.ref a, h2, D, c, cv, b, rfl, C, hd, rfl, hc, hk, _, rfl, q⟩
theorem ok_outcome {f Pt : Addr} {fd : FuncData} {k : Nat} (F : Fun K "_law_outcome" "_law_outcome" sOutcome f fd) (T : OutE P K mg cT cR cC cS) (D : Df P w K mg base (L2.CX P w) (k + 5) "tokenize" ["text"] (spTokenize Pt cT)) : FnOk P w K mg base CX0 (k + 6) f fd ["text"] (spOutcome Pt) := by
  obtain ⟨fT, fdT, GT, gT, kT, bT⟩ := D.ex
  refine F.ok scOutcome (fun vs H Q E h => ?_) (fun cdv A outer s H vs Q E hr h => ?_)
  · obtain ⟨t, rfl, _⟩ := h
    rfl
  · obtain ⟨t, rfl, hz, tg, q⟩ := h
    have nd := scOutcome.nd
    refine ⟨_, pss_cons (ps_try_as (i := 2) (tb := fun W => tAsg (tCallS (spTokenize Pt cT) (WE W) (tCons (tVar 0) tNil)) (gName 1)) (ts := t_suiteO K cR cC cS) (Wout := fun _ _ _ _ => False) rfl rfl nd rfl rfl ⟨rfl, by decide, Or.inl T.TE.gC⟩ takes0
        (fun W pn xe tk _ => pss_one (ps_set (i := 1) nd rfl (Or.inl rfl) (by exact (pe_callS GT hr rfl gT kT bT (fun σ => passAt tk σ) (by exact (pa_cons (pv 0) pa_nil))))))
        (fun a oe cls d pn hz hf => pss_cons (ps_if (PW.pt (pw_or (pt_val (pe_callB (call_isA hz hf) (by rfl) T.zIsi PyProof.Rows.boot_isinstance (pa_cons (pv 2) (pa_cons (pe_glob rfl T.gR rfl) pa_nil))) (by intro _; rfl))
            (pw_or (pt_val (pe_callB (call_isA hz hf) (by rfl) T.zIsi PyProof.Rows.boot_isinstance (pa_cons (pv 2) (pa_cons (pe_glob rfl T.gC rfl) pa_nil))) (by intro _; rfl))
            (pw_or1 (pt_val (pe_callB call_isi (by rfl) T.zIsi PyProof.Rows.boot_isinstance (pa_cons (pe_xfA hz hf (pv 2)) (pa_cons (pe_bltn (v := .ty "bool") (u := .type "bool") rfl T.zBool (by decide +kernel) rfl) pa_nil))) (by intro _; rfl)))))) (pss_one (ps_ret (pe_un un_neg pe_int))) pss_nil)
          (pss_one (ps_ret (pe_ifExp (PW.pt (pw_and (pt_val (pe_callB (call_isA hz hf) (by rfl) T.zIsi PyProof.Rows.boot_isinstance (pa_cons (pv 2) (pa_cons (pe_glob rfl T.gS rfl) pa_nil))) (by intro _; rfl))
            (pw_and1 (pt_val (pe_callB (call_isA hz hf) (by rfl) T.zIsi PyProof.Rows.boot_isinstance (pa_cons (pv 2) (pa_cons (pe_bltn (v := .ty "ValueError") rfl T.zVE PyProof.Rows.Boot.«ValueError» rfl) pa_nil))) (by intro _; rfl))))) (pe_xfA hz hf (pv 2)) (pe_un un_neg pe_int))))))
      (pss_one (ps_ret (pe_ifExp (pt_val (pe_callB call_isi (by rfl) T.zIsi PyProof.Rows.boot_isinstance (pa_cons (pv 1) (pa_cons (pe_bltn (v := .ty "list") (u := .type "list") rfl T.zList (by decide +kernel) rfl) pa_nil))) (by intro _; rfl)) pe_int (pe_un un_neg pe_int)))), ?_⟩
    refine ⟨_, rfl, t, rfl, hz, tg, fun ts hts H' p rs sm tg' hp hT hR => ?_, fun l hl H' d sm tg' hd => ?_⟩
    · refine ⟨_, rfl, _, _, _, _, true, rfl, .ty _, .base (.lst hT), kit_ty (by decide +kernel), _, rfl, iteT ?_⟩
      have := q H' sm tg'
      rw [hts] at this
      exact this
    · refine ⟨true, T.self, fun _ a na => ?_, fun z => Bool.noConfusion z⟩
      have D0 : DictOf H' (some d) := .inr ⟨d, _, rfl, hd⟩
      have fld : ∀ {σ : L2.St} {Q : VK}, σ[2]? = some (some (.ref a)) → Q (.int (l : Nat)) H' → tXfA K a (.ref cT) (some d) "line" (tVar 2) σ H' Q := fun h2 q2 =>
        ⟨.ref a, h2, rfl, cT, rfl, ⟨T.ex.hg, T.ex.hk, T.ex.hs, T.ex.hd⟩, T.nT, d, _, _, rfl, hd, by simp [List.lookup], q2⟩
      have rr : ∀ {c : Addr} (u : Value), RelV (.ref c) u → u = .ref c := fun u r => r
      refine isT_rd T.ex D0 rr T.kR rfl (iteF (isT_rd T.ex D0 rr T.kC rfl (iteF (fld rfl ⟨_, _, _, _, false, rfl, .ty _, .base (.int _), kit_ty (by decide +kernel), _, rfl, iteF ?_⟩))))
      refine isT_rd T.ex D0 rr T.kS rfl (iteT (isT_rd T.ex D0 (cv := .type "ValueError") (fun u r => r) T.kV rfl (iteT (fld rfl ?_))))
      have := q H' sm tg'
      rw [hl] at this
      exact this
theorem ok_good {f : Addr} {fd : FuncData} {k : Nat} (F : Fun K "_law_good" "_law_good" sGood f fd) (DP : Df P w K mg base CX0 (k + 2) "_law_pick" ["state", "row"] (spPick K)) : FnOk P w K mg base CX0 (k + 3) f fd ["state"] spGood := by
  obtain ⟨fP, fdP, GP, gP, kP, bP⟩ := DP.ex
  refine F.ok scGood (fun vs H Q E h => ?_) (fun cdv A outer s0 H vs Q E hr h => ?_)
  · obtain ⟨s, c, rfl, _⟩ := h
    rfl
  · obtain ⟨s, c, rfl, hS, q⟩ := h
    refine ⟨_, pss_one (ps_ret (pe_call GP hr (by rfl) gP kP bP .nil pass0 (pa_cons (pv 0) (pa_cons (pe_lst (pa_cons (pe_op op_mulS pe_str pe_int) (pa_cons pe_str (pa_cons pe_str (pa_cons pe_str (pa_cons pe_str (pa_cons pe_str (pa_cons pe_str (pa_cons pe_str pa_nil))))))))) pa_nil)))), ?_⟩
    refine ⟨_, rfl, [97], 16, congrArg V.str a_code, rfl, by decide, by decide, by decide, (by show 8 ≤ sizeLine; decide), fun p hp => ?_⟩
    have hn := hS.neS hp
    refine ⟨s, c, p, _, rfl, hS.new hp, SqL.of upd_same, hn.1, hn.2, (by show 0 < 8; decide), (by show 8 ≤ 1000; decide), fun H2 j x hx hS2 k2 => ?_⟩
    have hm := List.mem_of_getElem? hx
    have kk := (Kp.new (s := s) (c := c) (o := .lst [.str (S (List.replicate 16 [97]).flatten), .str "4294967295", .str "0xffffffff", .str "0", .str "0x0", .str "->", .str "==", .str "Z_9"]) hp).trans k2
    rcases List.mem_cons.mp hm with rfl | hm
    · exact q _ _ (good_of good_a) hS2 kk
    · have hm' : x ∈ goodL.map V.str := hm
      obtain ⟨y, hy, rfl⟩ := List.mem_map.mp hm'
      obtain ⟨t, rfl, ht⟩ := good_str hy
      exact q _ _ ht hS2 kk
theorem toksT_spaces : ∀ (n l : Nat) (r : List Nat), toksT l (List.replicate n 32 ++ r) = toksT l r
  | 0, l, r => rfl
  | n + 1, l, r => by
    rw [List.replicate_succ, List.cons_append, toksT_space]
    exact toksT_spaces n l r
theorem flat_one (n c : Nat) : (List.replicate n [c]).flatten = List.replicate n c := by
  induction n with
  | zero => rfl
  | succ n ih => rw [List.replicate_succ, List.flatten_cons, ih, List.replicate_succ]; rfl
theorem ok_before {f : Addr} {fd : FuncData} {k : Nat} (F : Fun K "_law_before" "_law_before" sBefore f fd) (zRange : mg "range" = none) (DD : Df P w K mg base CX0 (k + 1) "_law_draw" ["state", "many"] spDraw) (DP : Df P w K mg base CX0 (k + 2) "_law_pick" ["state", "row"] (spPick K)) :
    FnOk P w K mg base CX0 (k + 3) f fd ["state"] spBefore := by
  obtain ⟨fD, fdD, GD, gD, kD, bD⟩ := DD.ex
  obtain ⟨fP, fdP, GP, gP, kP, bP⟩ := DP.ex
  refine F.ok scBefore (fun vs H Q E h => ?_) (fun cdv A outer s0 H vs Q E hr h => ?_)
  · obtain ⟨s, c, rfl, _⟩ := h
    rfl
  · obtain ⟨s, c, rfl, hS, q⟩ := h
    have nd := scBefore.nd
    have hr1 : Room (k + 1) _ := hr.mono (Nat.le_succ _)
    refine ⟨_, pss_cons (ps_set (i := 1) nd rfl (.inl rfl) pe_str)
      (pss_cons (ps_for PassesOwn.never rfl (pi_range1 (by rfl) zRange (pa_cons (pe_call GD hr1 (by rfl) gD kD bD .nil pass0 (pa_cons (pv 0) (pa_cons pe_int pa_nil))) pa_nil)) (pg_name (i := 2) nd rfl (.inl rfl))
        (pss_one (ps_set (i := 1) nd rfl (.inl rfl) (pe_op op_add_str (pe_op op_add_str (pv 1) (pe_call GP hr (by rfl) gP kP bP .nil pass0 (pa_cons (pv 0) (pa_cons (pe_lst (pa_cons pe_str (pa_cons pe_str (pa_cons pe_str (pa_cons pe_str (pa_cons pe_str (pa_cons pe_str (pa_cons pe_str (pa_cons pe_str pa_nil))))))))) pa_nil)))) pe_str))))
      (pss_one (ps_ret (pe_op op_add_str (pv 1) (pe_op op_mulS0 pe_str (pe_call GD hr1 (by rfl) gD kD bD .nil pass0 (pa_cons (pv 0) (pa_cons pe_int pa_nil)))))))), ?_⟩
    refine ⟨_, rfl, s, c, 9, rfl, hS, by decide, by decide, fun H1 r r0 r1 hS1 k1 => ⟨r, rfl, by omega, by omega, ?_⟩⟩
    refine for_range (lo := 0) (n := r.toNat) (fun i σ H' => ∃ (t : List Nat) (v : Option V), σ = [some (.ref s), some (.str (S t)), v] ∧ StAt H' s c ∧ Kp s c H H' ∧ t.length ≤ 21 * i ∧ ∀ z, ∃ ds, toksT 1 (t ++ z) = pre ds (toksT (1 + t.count 10) z))
      ⟨[], none, rfl, hS1, k1, Nat.zero_le _, fun z => ⟨[], (pre_nil _).symm⟩⟩ ?_ ?_
    · rintro i σ H2 hi ⟨t, v, rfl, hS2, k2, hlen, ht⟩
      refine ⟨_, rfl, _, rfl, (by show 8 ≤ sizeLine; decide), fun p hp => ?_⟩
      have hn := hS2.neS hp
      refine ⟨s, c, p, _, rfl, hS2.new hp, SqL.of upd_same, hn.1, hn.2, (by show 0 < 8; decide), (by show 8 ≤ 1000; decide), fun H3 j x hx hS3 k3 => ?_⟩
      have hm' : x ∈ lineL.map V.str := List.mem_of_getElem? hx
      obtain ⟨y, hy, rfl⟩ := List.mem_map.mp hm'
      obtain ⟨l, rfl, hl⟩ := line_str hy
      have hll := hl.len
      refine ⟨_, _, rfl, rfl, ?_, _, _, rfl, rfl, ?_, ?_⟩
      · rw [S_len, S_len, sizeLine_eq]
        omega
      · rw [S_cat, nl_code, S_len, S_len, List.length_append, sizeLine_eq]
        show _ + 1 ≤ _
        omega
      · refine ⟨t ++ l ++ [10], some (.int (0 + (i : Int))), ?_, hS3, (k2.trans (Kp.new hp)).trans k3, ?_, fun z => ?_⟩
        · rw [S_cat, nl_code, S_cat]
          rfl
        · rw [List.length_append, List.length_append]
          show _ + 1 ≤ _
          omega
        · obtain ⟨d2, h2⟩ := hl.ok (1 + t.count 10) z
          obtain ⟨d1, h1⟩ := ht (l ++ 10 :: z)
          refine ⟨d1 ++ d2, ?_⟩
          rw [List.append_assoc, List.append_assoc]
          show toksT 1 (t ++ (l ++ 10 :: z)) = _
          rw [h1, h2, pre_app, List.count_append, List.count_append, List.count_eq_zero.mpr hl.nl]
          rfl
    · rintro σ H2 ⟨t, v, rfl, hS2, k2, hlen, ht⟩
      refine ⟨_, rfl, _, rfl, s, c, 3, rfl, hS2, by decide, by decide, fun H3 a a0 a1 hS3 k3 => ?_⟩
      obtain ⟨m, rfl⟩ : ∃ m : Nat, a = m := ⟨a.toNat, by omega⟩
      refine ⟨[32], m, congrArg V.str sp_code, rfl, by omega, by decide, _, _, rfl, rfl, ?_, ?_⟩
      · rw [flat_one, S_len, S_len, List.length_replicate, sizeLine_eq]
        omega
      · rw [flat_one, S_cat]
        refine q _ _ ⟨?_, fun z => ?_⟩ hS3 (k2.trans k3)
        · rw [List.length_append, List.length_replicate]
          omega
        · obtain ⟨d1, h1⟩ := ht (List.replicate m 32 ++ z)
          refine ⟨d1, ?_⟩
          rw [List.append_assoc, h1, toksT_spaces, List.count_append, List.count_eq_zero.mpr (show 10 ∉ List.replicate m 32 from fun hm => by cases (List.mem_replicate.mp hm).2)]
          rfl
end
end Pk
set_option Elab.async false
set_option linter.all false
set_option maxRecDepth 100000
set_option maxHeartbeats 4000000
namespace Pk
open PySem PySem.Spec PyProof.Rows L2 SX GxR Tk PySem.ErX
def spLaw (K : PySem.W.Frag) (Pt : Addr) : Sp := fun vs H Q _ => ∃ (a : Addr) (ns : List Int), vs = [.ref a] ∧ SqL K H a (ns.map V.int) ∧ ns.length ≤ 63 ∧ TabG H Pt ∧ ∀ H', Q (.bl true) H'
theorem StAt.sm {H H' : Hp} {s c : Addr} (h : StAt H s c) (k : Sm H H') : StAt H' s c := by
  obtain ⟨cells, seed, h1, h2, h3⟩ := h
  exact ⟨cells, seed, k _ _ ntL h1, k _ _ ntL h2, h3⟩
/-- the table of code objects stands beside the drawing state -/
theorem tab_kp {Pt s c : Addr} {H H' : Hp} (tg : TabG H Pt) (hS : StAt H s c) (k : Kp s c H H') : TabG H' Pt := by
  obtain ⟨ps, e1, e2⟩ := tg
  obtain ⟨cells, seed, h1, h2, _⟩ := hS
  exact ⟨ps, k _ _ (fun z => by rw [z, h1] at e1; cases e1) (fun z => by rw [z, h2] at e1; cases e1) e1, e2⟩
theorem tab_same {Pt : Addr} {H H' : Hp} (tg : TabG H Pt) (k : Same H H') : TabG H' Pt := by
  obtain ⟨ps, e1, e2⟩ := tg
  exact ⟨ps, k _ _ e1, e2⟩
theorem take_more {α : Type} {l : List α} {i : Nat} {x : α} (h : l[i]? = some x) : l.take (i + 1) = l.take i ++ [x] := by
  rw [List.take_add_one, h]
  rfl
theorem out_bad {t p b : List Nat} (ht : BefOk t) (hp : BadOk p) (hb : b ∈ behinds) : outV (toksT 1 (t ++ p ++ b)) = 1 + (t.count 10 : Nat) := by
  obtain ⟨ds, h⟩ := ht.2 (p ++ b)
  rw [List.append_assoc, h, hp.err _ b hb]
  show ((1 + t.count 10 : Nat) : Int) = _
  omega
theorem out_good {t p : List Nat} (ht : BefOk t) (hp : GoodOk p) : outV (toksT 1 (t ++ p)) = 0 := by
  obtain ⟨ds, h⟩ := ht.2 p
  obtain ⟨ts, h2⟩ := hp.ok (1 + t.count 10)
  rw [h, h2]
  rfl
theorem out_note {t b p : List Nat} (ht : BefOk t) (hb : BadOk b) (hp : GoodOk p) : outV (toksT 1 (t ++ [35, 32] ++ b ++ [10] ++ p)) = 0 := by
  obtain ⟨ds, h⟩ := ht.2 (35 :: 32 :: (b ++ 10 :: p))
  obtain ⟨ts, h2⟩ := hp.ok (1 + t.count 10 + 1)
  have e : t ++ [35, 32] ++ b ++ [10] ++ p = t ++ (35 :: 32 :: (b ++ 10 :: p)) := by simp
  have hn : 10 ∉ 32 :: b := fun z => by
    rcases List.mem_cons.mp z with z | z
    · cases z
    · exact hb.nl z
  rw [e, h, toksT_hash, ← List.cons_append, dropWhile_nl hn, toksT_nl, h2]
  rfl
section
variable {P : Program} {w : World} {K : PySem.W.Frag} {mg : Str → Option Value} {base : Heap}
theorem note_code : Str.ofString "# " = S [35, 32] := by decide +kernel
theorem ok_law {f Pt : Addr} {fd : FuncData} {k : Nat} (F : Fun K "law" "law" sLaw f fd) (zLen : mg "len" = none) (D1 : Df P w K mg base CX0 (k + 1) "_law_state" ["script"] (spState K)) (DP : Df P w K mg base CX0 (k + 2) "_law_pick" ["state", "row"] (spPick K))
    (D2 : Df P w K mg base CX0 (k + 3) "_law_before" ["state"] spBefore) (D3 : Df P w K mg base CX0 (k + 3) "_law_bad" ["state"] spBad) (D4 : Df P w K mg base CX0 (k + 3) "_law_good" ["state"] spGood) (D5 : Df P w K mg base CX0 (k + 6) "_law_outcome" ["text"] (spOutcome Pt)) :
    FnOk P w K mg base CX0 (k + 7) f fd ["script"] (spLaw K Pt) := by
  obtain ⟨f1, fd1, G1, g1, k1, b1⟩ := D1.ex
  obtain ⟨fP, fdP, GP, gP, kP, bP⟩ := DP.ex
  obtain ⟨f2, fd2, G2, g2, k2, b2⟩ := D2.ex
  obtain ⟨f3, fd3, G3, g3, k3, b3⟩ := D3.ex
  obtain ⟨f4, fd4, G4, g4, k4, b4⟩ := D4.ex
  obtain ⟨f5, fd5, G5, g5, k5, b5⟩ := D5.ex
  refine F.ok scLaw (fun vs H Q E h => ?_) (fun cdv A outer s0 H vs Q E hr h => ?_)
  · obtain ⟨a, ns, rfl, _⟩ := h
    rfl
  · obtain ⟨a, ns, rfl, hS, hn, tg, q⟩ := h
    have nd := scLaw.nd
    have hr3 : Room (k + 3) _ := hr.mono (by omega)
    have hr2 : Room (k + 2) _ := hr.mono (by omega)
    have hr1 : Room (k + 1) _ := hr.mono (by omega)
    refine ⟨_, pss_cons (ps_set (i := 1) nd rfl (.inl rfl) (pe_call G1 hr1 (by rfl) g1 k1 b1 .nil pass0 (pa_cons (pv 0) pa_nil)))
      (pss_cons (ps_set (i := 2) nd rfl (.inl rfl) (pe_call G2 hr3 (by rfl) g2 k2 b2 .nil pass0 (pa_cons (pv 1) pa_nil)))
      (pss_cons (ps_set (i := 3) nd rfl (.inl rfl) (pe_call G3 hr3 (by rfl) g3 k3 b3 .nil pass0 (pa_cons (pv 1) pa_nil)))
      (pss_cons (ps_set (i := 4) nd rfl (.inl rfl) (pe_op op_add pe_int (pe_callB call_len_seq (by rfl) zLen PySem.boot_len (pa_cons
        (pe_lc (own := [("char", 7)]) (g := gName 7) rfl nd (pi_str (pv 2)) (blkOk_by (N := ["script", "state", "before", "bad", "line", "behind", "good", "char"]) (sc := defScope sLaw) (by decide +kernel)) (fun _ _ _ _ _ => pg_name (i := 7) nd rfl (Or.inl rfl))
          (fun _ _ _ _ _ => pts_one (pt_cmpR op_eq (pv 7) pe_str (nomark _))) (fun _ _ _ _ _ => pv 7)) pa_nil))))
      (pss_cons (ps_set (i := 5) nd rfl (.inl rfl) (pe_call GP hr2 (by rfl) gP kP bP .nil pass0 (pa_cons (pv 1) (pa_cons (pe_lst (pa_cons pe_str (pa_cons pe_str (pa_cons pe_str (pa_cons pe_str (pa_cons pe_str (pa_cons pe_str pa_nil))))))) pa_nil))))
      (pss_cons (ps_if (pt_cmpR op_ne (pe_call G5 hr (by rfl) g5 k5 b5 .nil pass0 (pa_cons (pe_op op_add_str (pe_op op_add_str (pv 2) (pv 3)) (pv 5)) pa_nil)) (pv 4) (nomark _)) (pss_one (ps_ret pe_bl)) pss_nil)
      (pss_cons (ps_set (i := 6) nd rfl (.inl rfl) (pe_call G4 hr3 (by rfl) g4 k4 b4 .nil pass0 (pa_cons (pv 1) pa_nil)))
      (pss_one (ps_ret (pe_and (pe_cmpR op_eq (pe_call G5 hr (by rfl) g5 k5 b5 .nil pass0 (pa_cons (pe_op op_add_str (pv 2) (pv 6)) pa_nil)) pe_int (nomark _))
        (pe_one (pe_cmpR op_eq (pe_call G5 hr (by rfl) g5 k5 b5 .nil pass0 (pa_cons (pe_op op_add_str (pe_op op_add_str (pe_op op_add_str (pe_op op_add_str (pv 2) pe_str) (pv 3)) pe_str) (pv 6)) pa_nil)) pe_int (nomark _)))))))))))), ?_⟩
    refine ⟨_, rfl, a, ns, rfl, hS, hn, fun H1 s c s1 _ _ st1 => ?_⟩
    have tg1 := tab_same tg s1
    refine ⟨_, rfl, s, c, rfl, st1, fun H2 t ht st2 kp2 => ?_⟩
    refine ⟨_, rfl, s, c, rfl, st2, fun H3 b hb st3 kp3 => ?_⟩
    have tg3 := tab_kp (tab_kp tg1 st1 kp2) st2 kp3
    have htl := ht.1
    have hbl := hb.len
    refine ⟨_, rfl, S t, rfl, fun D hD => lc_it (walk_str (z := S t)) (fun i H' => Same H3 H' ∧ ∃ xs : List V, H' D = some (.lst xs) ∧ xs.length = (t.take i).count 10) ⟨same_new hD, [], upd_same, rfl⟩ (fun _ _ _ _ => trivial) ?_ ?_⟩
    · rintro i y H4 H5 hi ⟨e1, xs, e2, e3⟩ ⟨rfl, ch, hc, rfl⟩
      have hc' : t[i]? = some ch := by
        rw [← List.getElem?_toArray]
        exact hc
      refine ⟨rfl, _, rfl, rfl, _, rfl, ?_⟩
      rw [nl_code, show (V.str ⟨#[ch]⟩) = V.str (S [ch]) from rfl, dcStr, dcS]
      have e : (t.take (i + 1)).count 10 = (t.take i).count 10 + (if ch = 10 then 1 else 0) := by
        rw [take_more hc', List.count_append]
        congr 1
        rw [List.count_singleton]
        by_cases h : ch = 10
        · rw [h]; rfl
        · rw [if_neg h, if_neg (by rw [beq_iff_eq]; exact h)]
      refine iteD (fun h => ?_) fun h => ?_
      · have hc10 : ch = 10 := (List.cons.inj h).1
        refine ⟨_, rfl, xs, e2, ?_, fun b o eb => ?_, _, upd_same, ?_⟩
        · refine small_len ?_
          have h1 := List.count_le_length (a := 10) (l := t.take i)
          rw [List.length_take] at h1
          omega
        · rw [upd_ne (ne_of_none eb hD)]
          exact e1 b o eb
        · rw [List.length_append, e3, e, if_pos hc10]
          rfl
      · have hc10 : ¬ ch = 10 := fun z => h (by rw [z])
        exact ⟨e1, xs, e2, by rw [e3, e, if_neg hc10]; rfl⟩
    rintro H4 ⟨e1, xs, e2, e3⟩
    have hs : (S t).cps.size = t.length := S_len t
    rw [hs, List.take_length] at e3
    have st4 := st3.same e1
    refine ⟨D, xs, rfl, .inl (SqL.of e2), _, _, rfl, rfl, ?_⟩
    rw [e3]
    refine ⟨_, rfl, (by show 6 ≤ sizeLine; decide), fun p hp => ?_⟩
    have hn5 := st4.neS hp
    refine ⟨s, c, p, _, rfl, st4.new hp, SqL.of upd_same, hn5.1, hn5.2, (by show 0 < 6; decide), (by show 6 ≤ 1000; decide), fun H5 j x hx st5 kp5 => ?_⟩
    have tg5 := tab_kp (tab_same (tab_same tg3 e1) (same_new hp)) (st4.new hp) kp5
    have hm' : x ∈ behL.map V.str := List.mem_of_getElem? hx
    obtain ⟨y, hy, rfl⟩ := List.mem_map.mp hm'
    obtain ⟨u, rfl, hu, hul⟩ := beh_str hy
    refine ⟨_, rfl, _, rfl, _, _, rfl, rfl, ?_, _, rfl, _, _, rfl, rfl, ?_, ?_⟩
    · rw [S_len, S_len, sizeLine_eq]
      omega
    · rw [S_cat, S_len, S_len, List.length_append, sizeLine_eq]
      omega
    rw [S_cat, S_cat]
    refine ⟨_, rfl, ?_, tg5, fun H6 sm6 tg6 => ?_⟩
    · rw [List.length_append, List.length_append]
      omega
    rw [out_bad ht hb hu]
    refine ⟨_, rfl, rfl, _, rfl, ?_⟩
    rw [decide_eq_true rfl]
    refine iteF ?_
    refine ⟨_, rfl, s, c, rfl, st5.sm sm6, fun H7 g hg st7 kp7 => ?_⟩
    have tg7 := tab_kp tg6 (st5.sm sm6) kp7
    have hgl := hg.len
    refine ⟨_, rfl, _, rfl, _, _, rfl, rfl, ?_, ?_⟩
    · rw [S_len, S_len, sizeLine_eq]
      omega
    rw [S_cat]
    refine ⟨_, rfl, ?_, tg7, fun H8 sm8 tg8 => ?_⟩
    · rw [List.length_append]
      omega
    rw [out_good ht hg]
    refine ⟨rfl, _, rfl, iteDT rfl ?_⟩
    refine ⟨_, rfl, _, _, rfl, rfl, ?_, _, rfl, _, _, rfl, rfl, ?_, _, _, rfl, rfl, ?_, _, rfl, _, _, rfl, rfl, ?_, ?_⟩
    · rw [note_code, S_len, S_len, sizeLine_eq]
      show _ + 2 ≤ _
      omega
    · rw [note_code, S_cat, S_len, S_len, List.length_append, sizeLine_eq]
      show _ + 2 + _ ≤ _
      omega
    · rw [note_code, S_cat, S_cat, nl_code, S_len, S_len, List.length_append, List.length_append, sizeLine_eq]
      show _ + 2 + _ + 1 ≤ _
      omega
    · rw [note_code, S_cat, S_cat, nl_code, S_cat, S_len, S_len, List.length_append, List.length_append, List.length_append, sizeLine_eq]
      show _ + 2 + _ + 1 + _ ≤ _
      omega
    rw [note_code, S_cat, S_cat, nl_code, S_cat, S_cat]
    refine ⟨_, rfl, ?_, tg8, fun H9 sm9 tg9 => ?_⟩
    · rw [List.length_append, List.length_append, List.length_append, List.length_append]
      show _ + 2 + _ + 1 + _ ≤ _
      omega
    rw [out_note ht hb hg]
    exact ⟨rfl, q _⟩
end
end Pk
set_option Elab.async false
set_option linter.all false
set_option maxRecDepth 100000
set_option maxHeartbeats 8000000
namespace Pk
open PySem PySem.Spec PyProof.Rows L2 SX GxR Tk PySem.ErX
theorem atd_mk {K : PySem.W.Frag} {h : Heap} {mg : Str → Option Value} {x : Str} {st : Stmt} {ps : List Str} {f : Addr} {oc : Value} {od an : Option Addr} {osl : Array (Option Value)} {kV doc pm cdv ct : Value} (X : K.In h) (G : h.Ns mainGlobals mg)
    (a : PySem.W.nsIn K mainGlobals x = some (some (.ref f))) (l : K.lookup f = some ⟨oc, od, .func (PySem.W.fnOf x x (defArgs st) (defBody st) (defScope st) .none kV doc pm an cdv ct), osl⟩)
    (c : PySem.W.codeIn K cdv x = true) (k : PySem.W.keepIn K (.ref f) = true)
    (hb : ∀ (kV doc pm : Value) (an : Option Addr) (cdv ct : Value) (us : List Value), us.length = ps.length → bindArgs (PySem.W.fnOf x x (defArgs st) (defBody st) (defScope st) .none kV doc pm an cdv ct) ⟨us, []⟩ = pure (ps.zip us)) : AtD K mg x st ps :=
  ⟨f, _, fun_mk l c k, PySem.W.mg_of X G a, (fun_mk l c k).binds hb⟩
theorem all_mk {P : Program} {w : World} {K : PySem.W.Frag} {h : Heap} {mg : Str → Option Value} {q : Program} {fa : Addr}
    {f0 : Addr} {oc0 : Value} {od0 an0 : Option Addr} {osl0 : Array (Option Value)} {kV0 doc0 pm0 ct0 : Value}
    {cd0 : Value}
    {f1 : Addr} {oc1 : Value} {od1 an1 : Option Addr} {osl1 : Array (Option Value)} {kV1 doc1 pm1 ct1 : Value}
    {cd1 : Value}
    {f2 : Addr} {oc2 : Value} {od2 an2 : Option Addr} {osl2 : Array (Option Value)} {kV2 doc2 pm2 ct2 : Value}
    {cd2 : Value}
    {f3 : Addr} {oc3 : Value} {od3 an3 : Option Addr} {osl3 : Array (Option Value)} {kV3 doc3 pm3 ct3 : Value}
    {cd3 : Value}
    {f4 : Addr} {oc4 : Value} {od4 an4 : Option Addr} {osl4 : Array (Option Value)} {kV4 doc4 pm4 ct4 : Value}
    {cd4 : Value}
    {f5 : Addr} {oc5 : Value} {od5 an5 : Option Addr} {osl5 : Array (Option Value)} {kV5 doc5 pm5 ct5 : Value}
    {cd5 : Value}
    {f6 : Addr} {oc6 : Value} {od6 an6 : Option Addr} {osl6 : Array (Option Value)} {kV6 doc6 pm6 ct6 : Value}
    {cd6 : Value}
    {f7 : Addr} {oc7 : Value} {od7 an7 : Option Addr} {osl7 : Array (Option Value)} {kV7 doc7 pm7 ct7 : Value}
    {cd7 : Value}
    {f8 : Addr} {oc8 : Value} {od8 an8 : Option Addr} {osl8 : Array (Option Value)} {kV8 doc8 pm8 ct8 : Value}
    {cd8 : Value}
    {f9 : Addr} {oc9 : Value} {od9 an9 : Option Addr} {osl9 : Array (Option Value)} {kV9 doc9 pm9 ct9 : Value}
    {cd9 : Value}
    {f10 : Addr} {oc10 : Value} {od10 an10 : Option Addr} {osl10 : Array (Option Value)} {kV10 doc10 pm10 ct10 : Value}
    {cd10 : Value}
    {f11 : Addr} {oc11 : Value} {od11 an11 : Option Addr} {osl11 : Array (Option Value)} {kV11 doc11 pm11 ct11 : Value}
    {cd11 : Value}
    {f12 : Addr} {oc12 : Value} {od12 an12 : Option Addr} {osl12 : Array (Option Value)} {kV12 doc12 pm12 ct12 : Value}
    {cd12 : Value}
    {f13 : Addr} {oc13 : Value} {od13 an13 : Option Addr} {osl13 : Array (Option Value)} {kV13 doc13 pm13 ct13 : Value}
    {cd13 : Value}
    {f14 : Addr} {oc14 : Value} {od14 an14 : Option Addr} {osl14 : Array (Option Value)} {kV14 doc14 pm14 ct14 : Value}
    {cd14 : Value}
    {f15 : Addr} {oc15 : Value} {od15 an15 : Option Addr} {osl15 : Array (Option Value)} {kV15 doc15 pm15 ct15 : Value}
    {cd15 : Value}
    {f16 : Addr} {oc16 : Value} {od16 an16 : Option Addr} {osl16 : Array (Option Value)} {kV16 doc16 pm16 ct16 : Value}
    {cd16 : Value}
    {f17 : Addr} {oc17 : Value} {od17 an17 : Option Addr} {osl17 : Array (Option Value)} {kV17 doc17 pm17 ct17 : Value}
    {uLET : Value}
    {uDIG : Value}
    {uHEX : Value}
    {uLNM : Value}
    {uMDG : Value}
    {uMHX : Value}
    {uGRT : Value}
    {pRES : Addr} {oRES : Option Addr} {iRES : Array Value} {nRES : Nat} {sRES : Array (Option Value)}
    {pLNG : Addr} {oLNG : Option Addr} {iLNG : Array Value} {nLNG : Nat} {sLNG : Array (Option Value)}
    {pSHT : Addr} {oSHT : Option Addr} {iSHT : Array Value} {nSHT : Nat} {sSHT : Array (Option Value)}
    {cT0 Pt : Addr} {dr : DefRec}
    {cT fIT cdaT ccT : Addr} {nmT qnT : Str} {NT : Addr} {bsT bmT : List Value} {snT : List Str} {subT : List Value} {abT : Bool} {colT : Option Bool} {ddT : Option Addr} {m0T m1T m2T m3T m5T : Option Value}
    {ocT docT pmT ctT cclT clT : Value} {odT anT cddT cldT : Option Addr} {oslT ccsT cslT : Array (Option Value)} {vsT : Array Value} {fileT : Str} {tfT : PySem.Tok} {a1T a2T b1T b2T b3T b4T b5T b6T b7T b8T b9T d1T d2T d3T d4T : Pos}
    {cR cC cS : Addr}
    (X : K.In h) (G : h.Ns mainGlobals mg) (hfa : mg "law" = some (.ref fa))
    (a0 : PySem.W.nsIn K mainGlobals "is_reserved" = some (some (.ref f0)))
    (l0 : K.lookup f0 = some ⟨oc0, od0, .func (PySem.W.fnOf "is_reserved" "is_reserved" (defArgs sIsRes) (defBody sIsRes) (defScope sIsRes) .none kV0 doc0 pm0 an0 cd0 ct0), osl0⟩)
    (c0 : PySem.W.codeIn K cd0 "is_reserved" = true)
    (k0 : PySem.W.keepIn K (.ref f0) = true)
    (a1 : PySem.W.nsIn K mainGlobals "tokenize" = some (some (.ref f1)))
    (l1 : K.lookup f1 = some ⟨oc1, od1, .func (PySem.W.fnOf "tokenize" "tokenize" (defArgs sTokenize) (defBody sTokenize) (defScope sTokenize) .none kV1 doc1 pm1 an1 cd1 ct1), osl1⟩)
    (c1 : PySem.W.codeIn K cd1 "tokenize" = true)
    (k1 : PySem.W.keepIn K (.ref f1) = true)
    (a2 : PySem.W.nsIn K mainGlobals "comment_end" = some (some (.ref f2)))
    (l2 : K.lookup f2 = some ⟨oc2, od2, .func (PySem.W.fnOf "comment_end" "comment_end" (defArgs sComEnd) (defBody sComEnd) (defScope sComEnd) .none kV2 doc2 pm2 an2 cd2 ct2), osl2⟩)
    (c2 : PySem.W.codeIn K cd2 "comment_end" = true)
    (k2 : PySem.W.keepIn K (.ref f2) = true)
    (a3 : PySem.W.nsIn K mainGlobals "part_end" = some (some (.ref f3)))
    (l3 : K.lookup f3 = some ⟨oc3, od3, .func (PySem.W.fnOf "part_end" "part_end" (defArgs sPartEnd) (defBody sPartEnd) (defScope sPartEnd) .none kV3 doc3 pm3 an3 cd3 ct3), osl3⟩)
    (c3 : PySem.W.codeIn K cd3 "part_end" = true)
    (k3 : PySem.W.keepIn K (.ref f3) = true)
    (a4 : PySem.W.nsIn K mainGlobals "in_run" = some (some (.ref f4)))
    (l4 : K.lookup f4 = some ⟨oc4, od4, .func (PySem.W.fnOf "in_run" "in_run" (defArgs sInRun) (defBody sInRun) (defScope sInRun) .none kV4 doc4 pm4 an4 cd4 ct4), osl4⟩)
    (c4 : PySem.W.codeIn K cd4 "in_run" = true)
    (k4 : PySem.W.keepIn K (.ref f4) = true)
    (a5 : PySem.W.nsIn K mainGlobals "token_of" = some (some (.ref f5)))
    (l5 : K.lookup f5 = some ⟨oc5, od5, .func (PySem.W.fnOf "token_of" "token_of" (defArgs sTokenOf) (defBody sTokenOf) (defScope sTokenOf) .none kV5 doc5 pm5 an5 cd5 ct5), osl5⟩)
    (c5 : PySem.W.codeIn K cd5 "token_of" = true)
    (k5 : PySem.W.keepIn K (.ref f5) = true)
    (a6 : PySem.W.nsIn K mainGlobals "is_number" = some (some (.ref f6)))
    (l6 : K.lookup f6 = some ⟨oc6, od6, .func (PySem.W.fnOf "is_number" "is_number" (defArgs sIsNum) (defBody sIsNum) (defScope sIsNum) .none kV6 doc6 pm6 an6 cd6 ct6), osl6⟩)
    (c6 : PySem.W.codeIn K cd6 "is_number" = true)
    (k6 : PySem.W.keepIn K (.ref f6) = true)
    (a7 : PySem.W.nsIn K mainGlobals "number_value" = some (some (.ref f7)))
    (l7 : K.lookup f7 = some ⟨oc7, od7, .func (PySem.W.fnOf "number_value" "number_value" (defArgs sNumVal) (defBody sNumVal) (defScope sNumVal) .none kV7 doc7 pm7 an7 cd7 ct7), osl7⟩)
    (c7 : PySem.W.codeIn K cd7 "number_value" = true)
    (k7 : PySem.W.keepIn K (.ref f7) = true)
    (a8 : PySem.W.nsIn K mainGlobals "_law_state" = some (some (.ref f8)))
    (l8 : K.lookup f8 = some ⟨oc8, od8, .func (PySem.W.fnOf "_law_state" "_law_state" (defArgs sState) (defBody sState) (defScope sState) .none kV8 doc8 pm8 an8 cd8 ct8), osl8⟩)
    (c8 : PySem.W.codeIn K cd8 "_law_state" = true)
    (k8 : PySem.W.keepIn K (.ref f8) = true)
    (a9 : PySem.W.nsIn K mainGlobals "_law_draw" = some (some (.ref f9)))
    (l9 : K.lookup f9 = some ⟨oc9, od9, .func (PySem.W.fnOf "_law_draw" "_law_draw" (defArgs sDraw) (defBody sDraw) (defScope sDraw) .none kV9 doc9 pm9 an9 cd9 ct9), osl9⟩)
    (c9 : PySem.W.codeIn K cd9 "_law_draw" = true)
    (k9 : PySem.W.keepIn K (.ref f9) = true)
    (a10 : PySem.W.nsIn K mainGlobals "_law_pick" = some (some (.ref f10)))
    (l10 : K.lookup f10 = some ⟨oc10, od10, .func (PySem.W.fnOf "_law_pick" "_law_pick" (defArgs sPick) (defBody sPick) (defScope sPick) .none kV10 doc10 pm10 an10 cd10 ct10), osl10⟩)
    (c10 : PySem.W.codeIn K cd10 "_law_pick" = true)
    (k10 : PySem.W.keepIn K (.ref f10) = true)
    (a11 : PySem.W.nsIn K mainGlobals "_law_bad" = some (some (.ref f11)))
    (l11 : K.lookup f11 = some ⟨oc11, od11, .func (PySem.W.fnOf "_law_bad" "_law_bad" (defArgs sBad) (defBody sBad) (defScope sBad) .none kV11 doc11 pm11 an11 cd11 ct11), osl11⟩)
    (c11 : PySem.W.codeIn K cd11 "_law_bad" = true)
    (k11 : PySem.W.keepIn K (.ref f11) = true)
    (a12 : PySem.W.nsIn K mainGlobals "_law_good" = some (some (.ref f12)))
    (l12 : K.lookup f12 = some ⟨oc12, od12, .func (PySem.W.fnOf "_law_good" "_law_good" (defArgs sGood) (defBody sGood) (defScope sGood) .none kV12 doc12 pm12 an12 cd12 ct12), osl12⟩)
    (c12 : PySem.W.codeIn K cd12 "_law_good" = true)
    (k12 : PySem.W.keepIn K (.ref f12) = true)
    (a13 : PySem.W.nsIn K mainGlobals "_law_before" = some (some (.ref f13)))
    (l13 : K.lookup f13 = some ⟨oc13, od13, .func (PySem.W.fnOf "_law_before" "_law_before" (defArgs sBefore) (defBody sBefore) (defScope sBefore) .none kV13 doc13 pm13 an13 cd13 ct13), osl13⟩)
    (c13 : PySem.W.codeIn K cd13 "_law_before" = true)
    (k13 : PySem.W.keepIn K (.ref f13) = true)
    (a14 : PySem.W.nsIn K mainGlobals "_law_outcome" = some (some (.ref f14)))
    (l14 : K.lookup f14 = some ⟨oc14, od14, .func (PySem.W.fnOf "_law_outcome" "_law_outcome" (defArgs sOutcome) (defBody sOutcome) (defScope sOutcome) .none kV14 doc14 pm14 an14 cd14 ct14), osl14⟩)
    (c14 : PySem.W.codeIn K cd14 "_law_outcome" = true)
    (k14 : PySem.W.keepIn K (.ref f14) = true)
    (a15 : PySem.W.nsIn K mainGlobals "is_decimal" = some (some (.ref f15)))
    (l15 : K.lookup f15 = some ⟨oc15, od15, .func (PySem.W.fnOf "is_decimal" "is_decimal" (defArgs sIsDec) (defBody sIsDec) (defScope sIsDec) .none kV15 doc15 pm15 an15 cd15 ct15), osl15⟩)
    (c15 : PySem.W.codeIn K cd15 "is_decimal" = true)
    (k15 : PySem.W.keepIn K (.ref f15) = true)
    (a16 : PySem.W.nsIn K mainGlobals "law" = some (some (.ref f16)))
    (l16 : K.lookup f16 = some ⟨oc16, od16, .func (PySem.W.fnOf "law" "law" (defArgs sLaw) (defBody sLaw) (defScope sLaw) .none kV16 doc16 pm16 an16 cd16 ct16), osl16⟩)
    (c16 : PySem.W.codeIn K cd16 "law" = true)
    (k16 : PySem.W.keepIn K (.ref f16) = true)
    (a17 : PySem.W.nsIn K mainGlobals "consists_of" = some (some (.ref f17)))
    (l17 : K.lookup f17 = some ⟨oc17, od17, .func (PySem.W.fnOf "consists_of" "consists_of" (defArgs sCons) (defBody sCons) (defScope sCons) .none kV17 doc17 pm17 an17 (.ref cT0) ct17), osl17⟩)
    (c17 : PySem.W.codeIn K (.ref cT0) "consists_of" = true)
    (k17 : PySem.W.keepIn K (.ref f17) = true)
    (aLET : PySem.W.nsIn K mainGlobals "LETTERS" = some (some uLET))
    (rLET : L2.RelV (.str lettersS) uLET)
    (aDIG : PySem.W.nsIn K mainGlobals "DIGITS" = some (some uDIG))
    (rDIG : L2.RelV (.str digitsS) uDIG)
    (aHEX : PySem.W.nsIn K mainGlobals "HEX_DIGITS" = some (some uHEX))
    (rHEX : L2.RelV (.str hexS) uHEX)
    (aLNM : PySem.W.nsIn K mainGlobals "LONGEST_NAME" = some (some uLNM))
    (rLNM : L2.RelV (.int 16) uLNM)
    (aMDG : PySem.W.nsIn K mainGlobals "MOST_DIGITS" = some (some uMDG))
    (rMDG : L2.RelV (.int 10) uMDG)
    (aMHX : PySem.W.nsIn K mainGlobals "MOST_HEX_DIGITS" = some (some uMHX))
    (rMHX : L2.RelV (.int 8) uMHX)
    (aGRT : PySem.W.nsIn K mainGlobals "GREATEST_NUMBER" = some (some uGRT))
    (rGRT : L2.RelV (.int 4294967295) uGRT)
    (aRES : PySem.W.nsIn K mainGlobals "RESERVED" = some (some (.ref pRES)))
    (lRES : K.lookup pRES = some ⟨.type "tuple", oRES, .seq iRES nRES, sRES⟩)
    (vRES : L2.Vals (words.map V.str) iRES.toList)
    (aLNG : PySem.W.nsIn K mainGlobals "LONG_SIGNS" = some (some (.ref pLNG)))
    (lLNG : K.lookup pLNG = some ⟨.type "tuple", oLNG, .seq iLNG nLNG, sLNG⟩)
    (vLNG : L2.Vals (longs.map V.str) iLNG.toList)
    (aSHT : PySem.W.nsIn K mainGlobals "SHORT_SIGNS" = some (some (.ref pSHT)))
    (lSHT : K.lookup pSHT = some ⟨.type "tuple", oSHT, .seq iSHT nSHT, sSHT⟩)
    (vSHT : L2.Vals (shorts.map V.str) iSHT.toList)
    (zInt : PySem.W.nsIn K mainGlobals "int" = some none)
    (zLen : PySem.W.nsIn K mainGlobals "len" = some none)
    (zAll : PySem.W.nsIn K mainGlobals "all" = some none)
    (zAbs : PySem.W.nsIn K mainGlobals "abs" = some none)
    (zIsi : PySem.W.nsIn K mainGlobals "isinstance" = some none)
    (zList : PySem.W.nsIn K mainGlobals "list" = some none)
    (zTuple : PySem.W.nsIn K mainGlobals "tuple" = some none)
    (zBool : PySem.W.nsIn K mainGlobals "bool" = some none)
    (zStr : PySem.W.nsIn K mainGlobals "str" = some none)
    (zRange : PySem.W.nsIn K mainGlobals "range" = some none)
    (zVE : PySem.W.nsIn K mainGlobals "ValueError" = some none)
    (zSup : PySem.W.nsIn K mainGlobals "super" = some none)
    (hrec : (recsOf q).find? (fun e => e.name == ("consists_of" : Str)) = some dr)
    (htab : PySem.W.tabIn K "consists_of" = some (cT0, Pt))
    (hno : K.lookup Pt = none)
    (gT : PySem.W.nsIn K mainGlobals "TextError" = some (some (.ref cT)))
    (xT : K.lookup cT = some (excClassObj nmT qnT cT NT bsT bmT true snT subT abT colT ddT m0T m1T m2T m3T m5T "ValueError.__new__"))
    (rT : PySem.HandSPX.refsVE bmT = true)
    (saT : PySem.W.findIn K (.ref cT) "__setattr__" = some (some (.builtin "object.__setattr__")))
    (kT : PySem.W.keepIn K (.ref cT) = true)
    (vT : PySem.W.subIn K (.ref cT) (.type "ValueError") = some true)
    (nT : PySem.W.findIn K (.ref cT) "line" = some none)
    (suT : PySem.W.ks_superIn K cT cT "__init__" = some (some (.builtin "ValueError.__init__")))
    (mrT : PySem.W.mroIn K cT (.ref cT) = some true)
    (iT : PySem.W.findIn K (.ref cT) "__init__" = some (some (.ref fIT)))
    (uT : PySem.W.typeIn K (.ref fIT) = some (.type "function"))
    (lT : K.lookup fIT = some ⟨ocT, odT, .func (PySem.W.ksFn "__init__" "TextError.__init__" (iA "line" ⟨a1T, a2T, b1T, b2T, b3T, b4T, b5T, b6T, b7T, b8T, b9T, d1T, d2T, d3T, d4T⟩) (iB "line" "line " ⟨a1T, a2T, b1T, b2T, b3T, b4T, b5T, b6T, b7T, b8T, b9T, d1T, d2T, d3T, d4T⟩) (iS "line") .none .none docT pmT anT (.ref cdaT) ctT ccT), oslT⟩)
    (oT : PySem.W.codeIn K (.ref cdaT) "TextError.__init__" = true)
    (pT : (b3T.endLine == b8T.line) = true)
    (dT : K.lookup cdaT = some ⟨cclT, cddT, .fields vsT, ccsT⟩)
    (fT : vsT[2]? = some (.str fileT tfT))
    (fiT : ((P.main.file : Str) == fileT) = true)
    (zT : K.lookup ccT = some ⟨clT, cldT, .cell (some (.ref cT)), cslT⟩)
    (eT : PySem.W.subIn K (.ref cT) (.type "BaseException") = some true)
    (tT : PySem.W.typeIn K (.ref cT) = some (.type "type"))
    (hgT : PySem.W.findIn K (.ref cT) "__getattribute__" = some (some (.builtin "BaseException.__getattribute__")))
    (hkT : PySem.W.findIn K (.ref cT) "__getattr__" = some none)
    (hdT : PySem.W.hasDictIn K cT = true)
    (haT : PySem.W.findIn K (.ref cT) "__class__" = some (some (.builtin "object.__class__")))
    (hmT : PySem.W.mroIn K cT (.type "object") = some true)
    (sfT : PySem.W.subIn K (.ref cT) (.ref cT) = some true)
    (veT : PySem.W.kitOne K (.ref cT) (.type "ValueError") = some true)
    (hn : PySem.W.specialIn K (.builtin "object.__class__") "__get__" = some (some (.builtin "getset_descriptor.__get__")))
    (ht : PySem.W.takesIn K (.builtin "object.__class__") = some true)
    (tp : PySem.W.nsIn K cStatics "thirdparty.any" = some none)
    (top : (P.main.scope.names.lookup ("super" : Str)).isSome = false)
    (gR : PySem.W.nsIn K mainGlobals "RuleError" = some (some (.ref cR)))
    (yR : PySem.W.kitOne K (.ref cT) (.ref cR) = some false)
    (gC : PySem.W.nsIn K mainGlobals "CommandError" = some (some (.ref cC)))
    (yC : PySem.W.kitOne K (.ref cT) (.ref cC) = some false)
    (gS : PySem.W.nsIn K mainGlobals "SwitchError" = some (some (.ref cS)))
    (yS : PySem.W.kitOne K (.ref cT) (.ref cS) = some true)
    : ∃ (fd : FuncData) (c Pt : Addr) (dr : DefRec), ((recsOf q).find? (fun e => e.name == ("consists_of" : Str)) = some dr ∧ PySem.W.tabIn K "consists_of" = some (c, Pt) ∧ K.lookup Pt = none) ∧ (∀ (s : Shared) (u : Value), BindsTo s fd ⟨[u], []⟩ [("script", u)]) ∧
        ∀ base : Heap, K.In base → base.Ns mainGlobals mg → TabB base mg c Pt → FnOk P w K mg base CX0 7 fa fd ["script"] (spLaw K Pt) := by
  have e := hfa.symm.trans (PySem.W.mg_of X G a16)
  cases e
  have T : Tx K mg := ⟨PySem.W.mg_none_of X G zInt, PySem.W.mg_none_of X G zLen, PySem.W.mg_none_of X G zAll,
    ⟨_, PySem.W.mg_of X G aRES, ⟨_, _, _, lRES, rfl, rfl, by rw [← Array.length_toList, ← vRES.length]; decide +kernel, vRES⟩⟩, ⟨_, PySem.W.mg_of X G aLNG, ⟨_, _, _, lLNG, rfl, rfl, by rw [← Array.length_toList, ← vLNG.length]; decide +kernel, vLNG⟩⟩, ⟨_, PySem.W.mg_of X G aSHT, ⟨_, _, _, lSHT, rfl, rfl, by rw [← Array.length_toList, ← vSHT.length]; decide +kernel, vSHT⟩⟩,
    ⟨_, PySem.W.mg_of X G aLET, rLET⟩, ⟨_, PySem.W.mg_of X G aDIG, rDIG⟩, ⟨_, PySem.W.mg_of X G aHEX, rHEX⟩, ⟨_, PySem.W.mg_of X G aLNM, rLNM⟩, ⟨_, PySem.W.mg_of X G aMDG, rMDG⟩, ⟨_, PySem.W.mg_of X G aMHX, rMHX⟩, ⟨_, PySem.W.mg_of X G aGRT, rGRT⟩⟩
  have IT : InitTxt P K cT fIT "line" "line " "TextError.__init__" := { cls := { cls := ⟨nmT, qnT, NT, bsT, bmT, snT, subT, abT, colT, ddT, m0T, m1T, m2T, m3T, m5T, xT, rT⟩, sa := saT, kC := kT, exC := eT, veC := vT, tyC := tT }, noN := nT, su := suT, mrC := mrT, iC := iT, tC := uT, tp := tp, top := top, fn := ⟨_, _, _, _, _, _, _, _, _, ⟨a1T, a2T, b1T, b2T, b3T, b4T, b5T, b6T, b7T, b8T, b9T, d1T, d2T, d3T, d4T⟩, pT, lT, oT, ⟨_, _, _, _, _, _, dT, fT, fiT⟩, _, _, _, zT⟩ }
  have TT : ErT P K mg "TextError" cT "line" := ⟨⟨_, _, _, IT, by decide +kernel⟩, PySem.W.mg_of X G gT, PySem.W.mg_none_of X G zSup, .inl rfl⟩
  have A0 : AtD K mg "is_reserved" sIsRes ["name"] := atd_mk X G a0 l0 c0 k0 fun _ _ _ _ _ _ us hl => match us, hl with | [_], _ => rfl
  have A1 : AtD K mg "tokenize" sTokenize ["text"] := atd_mk X G a1 l1 c1 k1 fun _ _ _ _ _ _ us hl => match us, hl with | [_], _ => rfl
  have A2 : AtD K mg "comment_end" sComEnd ["text", "at"] := atd_mk X G a2 l2 c2 k2 fun _ _ _ _ _ _ us hl => match us, hl with | [_, _], _ => rfl
  have A3 : AtD K mg "part_end" sPartEnd ["text", "at"] := atd_mk X G a3 l3 c3 k3 fun _ _ _ _ _ _ us hl => match us, hl with | [_, _], _ => rfl
  have A4 : AtD K mg "in_run" sInRun ["char"] := atd_mk X G a4 l4 c4 k4 fun _ _ _ _ _ _ us hl => match us, hl with | [_], _ => rfl
  have A5 : AtD K mg "token_of" sTokenOf ["part", "line"] := atd_mk X G a5 l5 c5 k5 fun _ _ _ _ _ _ us hl => match us, hl with | [_, _], _ => rfl
  have A6 : AtD K mg "is_number" sIsNum ["part"] := atd_mk X G a6 l6 c6 k6 fun _ _ _ _ _ _ us hl => match us, hl with | [_], _ => rfl
  have A7 : AtD K mg "number_value" sNumVal ["part"] := atd_mk X G a7 l7 c7 k7 fun _ _ _ _ _ _ us hl => match us, hl with | [_], _ => rfl
  have A8 : AtD K mg "_law_state" sState ["script"] := atd_mk X G a8 l8 c8 k8 fun _ _ _ _ _ _ us hl => match us, hl with | [_], _ => rfl
  have A9 : AtD K mg "_law_draw" sDraw ["state", "many"] := atd_mk X G a9 l9 c9 k9 fun _ _ _ _ _ _ us hl => match us, hl with | [_, _], _ => rfl
  have A10 : AtD K mg "_law_pick" sPick ["state", "row"] := atd_mk X G a10 l10 c10 k10 fun _ _ _ _ _ _ us hl => match us, hl with | [_, _], _ => rfl
  have A11 : AtD K mg "_law_bad" sBad ["state"] := atd_mk X G a11 l11 c11 k11 fun _ _ _ _ _ _ us hl => match us, hl with | [_], _ => rfl
  have A12 : AtD K mg "_law_good" sGood ["state"] := atd_mk X G a12 l12 c12 k12 fun _ _ _ _ _ _ us hl => match us, hl with | [_], _ => rfl
  have A13 : AtD K mg "_law_before" sBefore ["state"] := atd_mk X G a13 l13 c13 k13 fun _ _ _ _ _ _ us hl => match us, hl with | [_], _ => rfl
  have A14 : AtD K mg "_law_outcome" sOutcome ["text"] := atd_mk X G a14 l14 c14 k14 fun _ _ _ _ _ _ us hl => match us, hl with | [_], _ => rfl
  have A15 : AtD K mg "is_decimal" sIsDec ["part"] := atd_mk X G a15 l15 c15 k15 fun _ _ _ _ _ _ us hl => match us, hl with | [_], _ => rfl
  refine ⟨PySem.W.fnOf "law" "law" (defArgs sLaw) (defBody sLaw) (defScope sLaw) .none kV16 doc16 pm16 an16 cd16 ct16, cT0, Pt, dr, ⟨hrec, htab, hno⟩, fun s u => .of_eq rfl, fun base _ _ TB => ?_⟩
  have Bt : Blt mg := ⟨PySem.W.mg_none_of X G zInt, PySem.W.mg_none_of X G zAbs, PySem.W.mg_none_of X G zLen⟩
  have DC : Df P w K mg base CX0 1 "consists_of" ["part", "chars"] (spCons Pt) := ⟨_, _, ok_cons l17 c17 T TB, PySem.W.mg_of X G a17, k17, (fun_mk (st := sCons) l17 c17 k17).binds fun _ _ _ _ _ _ us hl => match us, hl with | [_, _], _ => rfl⟩
  have D9 : Df P w K mg base CX0 1 "is_reserved" ["name"] spIsRes := A0.df fun f fd F => ok_isres F T
  have DR : Df P w K mg base CX0 1 "in_run" ["char"] spInRun := A4.df fun f fd F => ok_inrun F T
  have DCE : Df P w K mg base CX0 1 "comment_end" ["text", "at"] spComEnd := A2.df fun f fd F => ok_comend F T
  have DPE : Df P w K mg base CX0 2 "part_end" ["text", "at"] spPartEnd := A3.df fun f fd F => ok_partend F T DR
  have DDe : Df P w K mg base CX0 2 "is_decimal" ["part"] (spIsDec Pt) := A15.df fun f fd F => ok_isdec F T DC
  have DNu : Df P w K mg base CX0 3 "is_number" ["part"] (spIsNum Pt) := A6.df fun f fd F => ok_isnum F T DC DDe
  have DV : Df P w K mg base CX0 1 "number_value" ["part"] spNumVal := A7.df fun f fd F => ok_numval F T
  have DO : Df P w K mg base (L2.CX P w) 4 "token_of" ["part", "line"] (spTokOf Pt cT) := A5.df fun f fd F => ok_tokof F T D9 DNu DV TT
  have DT : Df P w K mg base (L2.CX P w) 5 "tokenize" ["text"] (spTokenize Pt cT) := A1.df fun f fd F => ok_tokenize F T DCE DPE DO
  have D1 : Df P w K mg base CX0 1 "_law_state" ["script"] (spState K) := A8.df fun f fd F => ok_state F Bt
  have D2 : Df P w K mg base CX0 1 "_law_draw" ["state", "many"] spDraw := A9.df fun f fd F => ok_draw F Bt
  have DP : Df P w K mg base CX0 2 "_law_pick" ["state", "row"] (spPick K) := A10.df fun f fd F => by
    obtain ⟨fD, fdD, GD, gD, kD, bD⟩ := D2.ex
    exact ok_pick F Bt GD gD kD bD
  have OE : OutE P K mg cT cR cC cS := { TE := TT, ex := ⟨hgT, hkT, eT, hdT, haT, hn, ht, hmT⟩, self := PySem.W.exm_ref eT hdT tT sfT, nT := nT, gR := PySem.W.mg_of X G gR, kR := yR, gC := PySem.W.mg_of X G gC, kC := yC, gS := PySem.W.mg_of X G gS, kS := yS, kV := veT, zIsi := PySem.W.mg_none_of X G zIsi, zVE := PySem.W.mg_none_of X G zVE, zBool := PySem.W.mg_none_of X G zBool, zList := PySem.W.mg_none_of X G zList }
  have E1 : Df P w K mg base CX0 3 "_law_before" ["state"] spBefore := A13.df fun f fd F => ok_before F (PySem.W.mg_none_of X G zRange) D2 DP
  have E2 : Df P w K mg base CX0 3 "_law_bad" ["state"] spBad := A11.df fun f fd F => ok_bad F (PySem.W.mg_none_of X G zStr) D2 DP
  have E3 : Df P w K mg base CX0 3 "_law_good" ["state"] spGood := A12.df fun f fd F => ok_good F DP
  have E4 : Df P w K mg base CX0 6 "_law_outcome" ["text"] (spOutcome Pt) := A14.df fun f fd F => ok_outcome F OE DT
  exact ok_law (fun_mk (st := sLaw) l16 c16 k16) (PySem.W.mg_none_of X G zLen) D1 DP E1 E2 E3 E4
theorem tri0 : TriplesOk (#[] : Array Value).toList := by
  first | trivial | exact .nil | decide
theorem walk {l : PySem.W.OpenLaw} {q : Program} {loose : List Str} {XP : (Str → Option Value) → Heap → Prop} {YP : World → Heap → Prop} {d : DefRec} {K : Params → PySem.W.Frag} (hn : l.most = some 63) (hdf : d.params.defaults = [])
    (hY : ∀ (w : World) (h : Heap), YP w h → (K w.params).In h)
    (F : ∀ (w : World) (mg : Str → Option Value) (fa : Addr) (h : Heap), (K w.params).In h → h.Ns mainGlobals mg → mg d.name = some (.ref fa) →
      ∃ (fd : FuncData) (c Pt : Addr) (dr : DefRec), ((recsOf q).find? (fun e => e.name == ("consists_of" : Str)) = some dr ∧ PySem.W.tabIn (K w.params) "consists_of" = some (c, Pt) ∧ (K w.params).lookup Pt = none) ∧ (∀ (s : Shared) (u : Value), BindsTo s fd ⟨[u], []⟩ [("script", u)]) ∧
        ∀ base : Heap, (K w.params).In base → base.Ns mainGlobals mg → TabB base mg c Pt → FnOk l.prog w (K w.params) mg base CX0 7 fa fd ["script"] (spLaw (K w.params) Pt)) :
    PySem.W.WalkO q loose XP YP l.row.toRowW d [] (fun f vs => PySem.call f vs) := by
  refine Att.attach_callB hn hdf fun w s0 s1 mg mb fa o pm cd doc a vs ns G Y ho hd hcd hmg hobj hints hlen hbits hg => ?_
  have KX := hY w _ Y
  obtain ⟨fd, c, Pt, dr, ⟨hrec, htab, hno⟩, hb, hF⟩ := F w mg fa _ KX G.T.g hmg
  obtain ⟨hCd, hTb⟩ := PySem.W.tab_of G.T KX hrec htab
  have one : ∀ {R : Addr × Addr → Prop}, R (c, Pt) → ∀ p ∈ [(c, Pt)], R p := fun h p hp => by
    obtain rfl := List.mem_singleton.mp hp
    exact h
  have mem : (c, Pt) ∈ [(c, Pt)] := List.mem_singleton.mpr rfl
  exact LamX.law_callTs (cs := [(c, Pt)]) (CX := CX0) (k := 7) (x := "script") (sp := spLaw (K w.params) Pt) KX G.T.g G.T.b G.T.builtins G.T.nolimit hg (one hTb) (one hno) (one hCd) G.T.bmain hobj hints (Nat.le_trans hlen (by decide)) ⟨rfl, by decide, by decide⟩
    (fun base h1 h2 h3 => hF base h1 h2 ⟨(h3 _ mem).code, (h3 _ mem).bm, (h3 _ mem).gP⟩) hb (fun H hH hS => ⟨a, ns, rfl, hS, hlen, ⟨#[], hH _ mem, tri0⟩, fun _ => rfl⟩) fun _ _ _ z => z
end Pk
open PySem PySem.W PyProof.Rows
set_option maxRecDepth 100000 in
set_option maxHeartbeats 0 in
theorem PySem.Challenge.cw_wholepackets_k02_errors_of_tokens_holds : PySem.Challenge.rw_wholepackets_k02_errors_of_tokens.Holds := by
  w_on; o_law; k_head; (case hw => w_witness2)
  k_fill
  refine Pk.walk (l := PySem.Challenge.rw_wholepackets_k02_errors_of_tokens) rfl rfl (fun w h Y => PySem.W.kIn_of Y) ?F
  case F =>
    intro w mg fa h KX G hmg
    refine' Pk.all_mk KX G hmg ?a0 ?l0 ?c0 ?k0 ?a1 ?l1 ?c1 ?k1 ?a2 ?l2 ?c2 ?k2 ?a3 ?l3 ?c3 ?k3 ?a4 ?l4 ?c4 ?k4 ?a5 ?l5 ?c5 ?k5 ?a6 ?l6 ?c6 ?k6 ?a7 ?l7 ?c7 ?k7 ?a8 ?l8 ?c8 ?k8 ?a9 ?l9 ?c9 ?k9 ?a10 ?l10 ?c10 ?k10 ?a11 ?l11 ?c11 ?k11 ?a12 ?l12 ?c12 ?k12 ?a13 ?l13 ?c13 ?k13 ?a14 ?l14 ?c14 ?k14 ?a15 ?l15 ?c15 ?k15 ?a16 ?l16 ?c16 ?k16 ?a17 ?l17 ?c17 ?k17 ?aLET ?rLET ?aDIG ?rDIG ?aHEX ?rHEX ?aLNM ?rLNM ?aMDG ?rMDG ?aMHX ?rMHX ?aGRT ?rGRT ?aRES ?lRES ?vRES ?aLNG ?lLNG ?vLNG ?aSHT ?lSHT ?vSHT ?zInt ?zLen ?zAll ?zAbs ?zIsi ?zList ?zTuple ?zBool ?zStr ?zRange ?zVE ?zSup ?hrec ?htab ?hno ?gT ?xT ?rT ?saT ?kT ?vT ?nT ?suT ?mrT ?iT ?uT ?lT ?oT ?pT ?dT ?fT ?fiT ?zT ?eT ?tT ?hgT ?hkT ?hdT ?haT ?hmT ?sfT ?veT ?hn ?ht ?tp ?top ?gR ?yR ?gC ?yC ?gS ?yS
    (case a0 => k_is)
    (case l0 => k_is)
    (case c0 => k_is)
    (case k0 => k_is)
    (case a1 => k_is)
    (case l1 => k_is)
    (case c1 => k_is)
    (case k1 => k_is)
    (case a2 => k_is)
    (case l2 => k_is)
    (case c2 => k_is)
    (case k2 => k_is)
    (case a3 => k_is)
    (case l3 => k_is)
    (case c3 => k_is)
    (case k3 => k_is)
    (case a4 => k_is)
    (case l4 => k_is)
    (case c4 => k_is)
    (case k4 => k_is)
    (case a5 => k_is)
    (case l5 => k_is)
    (case c5 => k_is)
    (case k5 => k_is)
    (case a6 => k_is)
    (case l6 => k_is)
    (case c6 => k_is)
    (case k6 => k_is)
    (case a7 => k_is)
    (case l7 => k_is)
    (case c7 => k_is)
    (case k7 => k_is)
    (case a8 => k_is)
    (case l8 => k_is)
    (case c8 => k_is)
    (case k8 => k_is)
    (case a9 => k_is)
    (case l9 => k_is)
    (case c9 => k_is)
    (case k9 => k_is)
    (case a10 => k_is)
    (case l10 => k_is)
    (case c10 => k_is)
    (case k10 => k_is)
    (case a11 => k_is)
    (case l11 => k_is)
    (case c11 => k_is)
    (case k11 => k_is)
    (case a12 => k_is)
    (case l12 => k_is)
    (case c12 => k_is)
    (case k12 => k_is)
    (case a13 => k_is)
    (case l13 => k_is)
    (case c13 => k_is)
    (case k13 => k_is)
    (case a14 => k_is)
    (case l14 => k_is)
    (case c14 => k_is)
    (case k14 => k_is)
    (case a15 => k_is)
    (case l15 => k_is)
    (case c15 => k_is)
    (case k15 => k_is)
    (case a16 => k_is)
    (case l16 => k_is)
    (case c16 => k_is)
    (case k16 => k_is)
    (case a17 => k_is)
    (case l17 => k_is)
    (case c17 => k_is)
    (case k17 => k_is)
    (case aLET => k_is)
    (case rLET => exact ⟨_, rfl⟩)
    (case aDIG => k_is)
    (case rDIG => exact ⟨_, rfl⟩)
    (case aHEX => k_is)
    (case rHEX => exact ⟨_, rfl⟩)
    (case aLNM => k_is)
    (case rLNM => exact ⟨_, rfl⟩)
    (case aMDG => k_is)
    (case rMDG => exact ⟨_, rfl⟩)
    (case aMHX => k_is)
    (case rMHX => exact ⟨_, rfl⟩)
    (case aGRT => k_is)
    (case rGRT => exact ⟨_, rfl⟩)
    (case aRES => k_is)
    (case lRES => k_is)
    (case vRES => repeat (first | exact .nil | refine .cons ⟨_, rfl⟩ ?_))
    (case aLNG => k_is)
    (case lLNG => k_is)
    (case vLNG => repeat (first | exact .nil | refine .cons ⟨_, rfl⟩ ?_))
    (case aSHT => k_is)
    (case lSHT => k_is)
    (case vSHT => repeat (first | exact .nil | refine .cons ⟨_, rfl⟩ ?_))
    (case zInt => k_is)
    (case zLen => k_is)
    (case zAll => k_is)
    (case zAbs => k_is)
    (case zIsi => k_is)
    (case zList => k_is)
    (case zTuple => k_is)
    (case zBool => k_is)
    (case zStr => k_is)
    (case zRange => k_is)
    (case zVE => k_is)
    (case zSup => k_is)
    (case hrec => rfl)
    (case htab => first | k_is | with_unfolding_all rfl)
    (case hno => first | rfl | kernel_rfl | with_unfolding_all rfl)
    (case gT => k_is)
    (case xT => k_is)
    (case rT => first | rfl | decide +kernel)
    (case saT => k_is)
    (case kT => k_is)
    (case vT => k_is)
    (case nT => k_is)
    (case suT => first | ks_is | kernel_rfl | with_unfolding_all rfl)
    (case mrT => k_is)
    (case iT => k_is)
    (case uT => k_is)
    (case lT => k_is)
    (case oT => k_is)
    (case pT => rfl)
    (case dT => k_is)
    (case fT => rfl)
    (case fiT => first | rfl | decide +kernel)
    (case zT => k_is)
    (case eT => k_is)
    (case tT => k_is)
    (case hgT => k_is)
    (case hkT => k_is)
    (case hdT => k_is)
    (case haT => k_is)
    (case hmT => k_is)
    (case sfT => first | k_is | rfl | kernel_rfl)
    (case veT => first | kit_is | k_is | kernel_rfl | with_unfolding_all rfl)
    (case hn => k_is)
    (case ht => k_is)
    (case tp => k_is)
    (case top => first | rfl | decide +kernel)
    (case gR => k_is)
    (case yR => first | kit_is | k_is | kernel_rfl | with_unfolding_all rfl)
    (case gC => k_is)
    (case yC => first | kit_is | k_is | kernel_rfl | with_unfolding_all rfl)
    (case gS => k_is)
    (case yS => first | kit_is | k_is | kernel_rfl | with_unfolding_all rfl)
