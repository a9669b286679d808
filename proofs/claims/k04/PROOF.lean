import PyProof.Rows.All
import Wide.All
import OpenK.AllK
import Wide.FinOn
import HandS.ForMost
import HandS.Wide
import HandS.Codes
import HandS.IsInst
import HandS.IntHex
import HandS.AnyAll
import HandS.Walk
import HandS.Flow
import HandS.StrMore
import HandS.EndTab
import HandS.Base
import HandS.Call
import HandS.Exc
import HandS.ExcInit
import KE.KExcSuper
import KE.KExcMake
import PyProof.FString
import PyProof.FString4
import HandS.ExcOwn
import HandS.ExcIs
import HandS.ExcField
import HandS.TryOnly
import KE.KExcIs
import HandS.WordsExc
import HandS.Replace
import HandS.ReplaceLit
import HandS.ReplaceList
import HandS.ReplaceDef
import HandS.NoneIn
import KE.RegKIsAll
import HandS.Ends
import PySem.Challenge.RW_wholepackets_k04_errors_of_parsing
set_option Elab.async false
set_option linter.all false
set_option maxRecDepth 100000
set_option maxHeartbeats 4000000
namespace Pk
open PySem PySem.Spec PyProof.Rows L2

/-! ### the drawing state of the law: at s the list [cells, seed], at c the cells -/
def StAt (H : Hp) (s c : Addr) : Prop := ∃ (cells : List Int) (seed : Int), H s = some (.lst [.ref c, .int seed]) ∧ H c = some (.lst (cells.map V.int)) ∧
  (∀ z ∈ cells, 0 ≤ z) ∧ 0 ≤ seed ∧ seed < 2147483648
theorem StAt.ne {H : Hp} {s c : Addr} (h : StAt H s c) : s ≠ c := by
  obtain ⟨cells, seed, h1, h2, _⟩ := h
  refine ne_of h1 h2 fun z => ?_
  have z' := HO.lst.inj z
  cases cells with
  | nil => cases z'
  | cons a r =>
    have e : V.ref c = V.int a := (List.cons.inj z').1
    cases e
/-- what stood beside s and c stands -/
def Kp (s c : Addr) (H H' : Hp) : Prop := ∀ b o, b ≠ s → b ≠ c → H b = some o → H' b = some o
theorem Kp.refl (s c : Addr) (H : Hp) : Kp s c H H := fun _ _ _ _ e => e
theorem Kp.trans {s c : Addr} {H H1 H2 : Hp} (a : Kp s c H H1) (b : Kp s c H1 H2) : Kp s c H H2 := fun x o h1 h2 e => b x o h1 h2 (a x o h1 h2 e)
theorem Kp.same {s c : Addr} {H H1 : Hp} (a : Same H H1) : Kp s c H H1 := fun x o _ _ e => a x o e
theorem Kp.new {s c p : Addr} {H : Hp} {o : HO} (h : H p = none) : Kp s c H (upd H p o) := fun b u _ _ e => by
  rw [upd_ne (ne_of_none e h)]
  exact e
theorem same_new {p : Addr} {H : Hp} {o : HO} (h : H p = none) : Same H (upd H p o) := fun b u e => by
  rw [upd_ne (ne_of_none e h)]
  exact e
theorem StAt.same {H H' : Hp} {s c : Addr} (h : StAt H s c) (k : Same H H') : StAt H' s c := by
  obtain ⟨cells, seed, h1, h2, h3⟩ := h
  exact ⟨cells, seed, k _ _ h1, k _ _ h2, h3⟩
theorem StAt.upd {H : Hp} {s c p : Addr} {o : HO} (h : StAt H s c) (n1 : p ≠ s) (n2 : p ≠ c) : StAt (upd H p o) s c := by
  obtain ⟨cells, seed, h1, h2, h3⟩ := h
  exact ⟨cells, seed, by rw [upd_ne (Ne.symm n1)]; exact h1, by rw [upd_ne (Ne.symm n2)]; exact h2, h3⟩
theorem StAt.new {H : Hp} {s c p : Addr} {o : HO} (h : StAt H s c) (n : H p = none) : StAt (L2.upd H p o) s c := h.same (same_new n)

/-! ### promises of the drawing defs -/
def spState (K : PySem.W.Frag) : Sp := fun vs H Q _ => ∃ (a : Addr) (ns : List Int), vs = [.ref a] ∧ SqL K H a (ns.map V.int) ∧ ns.length ≤ 63 ∧
  ∀ (H' : Hp) (s c : Addr), Same H H' → H s = none → H c = none → StAt H' s c → Q (.ref s) H'
def spDraw : Sp := fun vs H Q _ => ∃ (s c : Addr) (many : Int), vs = [.ref s, .int many] ∧ StAt H s c ∧ 0 < many ∧ many ≤ 1099511627776 ∧
  ∀ (H' : Hp) (r : Int), 0 ≤ r → r < many → StAt H' s c → Kp s c H H' → Q (.int r) H'
def spPick (K : PySem.W.Frag) : Sp := fun vs H Q _ => ∃ (s c p : Addr) (xs : List V), vs = [.ref s, .ref p] ∧ StAt H s c ∧ SqL K H p xs ∧ p ≠ s ∧ p ≠ c ∧ 0 < xs.length ∧ xs.length ≤ 1000 ∧
  ∀ (H' : Hp) (i : Nat) (x : V), xs[i]? = some x → StAt H' s c → Kp s c H H' → Q x H'
theorem Kp.seq {K : PySem.W.Frag} {s c p : Addr} {H H' : Hp} {xs : List V} (k : Kp s c H H') (h : SqL K H p xs) (n1 : p ≠ s) (n2 : p ≠ c) : SqL K H' p xs := by
  rcases h with (h | ⟨o, h⟩) | h
  · exact .inl (.inl (k _ _ n1 n2 h))
  · exact .inl (.inr ⟨o, k _ _ n1 n2 h⟩)
  · exact .inr h
theorem iteD {p A B : Prop} [Decidable p] (h1 : p → A) (h2 : ¬ p → B) : if decide p = true then A else B := by
  by_cases h : p
  · rw [if_pos (decide_eq_true h)]
    exact h1 h
  · rw [decide_eq_false h, if_neg Bool.false_ne_true]
    exact h2 h
theorem iteDT {p A B : Prop} [Decidable p] (h : p) (h1 : A) : if decide p = true then A else B := by
  rw [if_pos (decide_eq_true h)]
  exact h1
theorem iteDF {p A B : Prop} [Decidable p] (h : ¬ p) (h1 : B) : if decide p = true then A else B := by
  rw [decide_eq_false h, if_neg Bool.false_ne_true]
  exact h1
theorem dcInt {i j : Int} : decide (V.int i = V.int j) = decide (i = j) := by
  by_cases h : i = j
  · rw [h, decide_eq_true rfl, decide_eq_true rfl]
  · rw [decide_eq_false h, decide_eq_false fun z => h (V.int.inj z)]
/-- built-ins that the law's own text does not name anew -/
structure Blt (mg : Str → Option Value) : Prop where
  zInt : mg "int" = none
  zAbs : mg "abs" = none
  zLen : mg "len" = none
end Pk
set_option Elab.async false
set_option linter.all false
set_option maxRecDepth 100000
set_option maxHeartbeats 4000000
namespace Tk
open PySem L2 SX
/-! ### the signs and words of the document, as code points -/
def lettersS : Str := Str.ofString "abcdefghijklmnopqrstuvwxyzABCDEFGHIJKLMNOPQRSTUVWXYZ"
def digitsS : Str := Str.ofString "0123456789"
def hexS : Str := Str.ofString "0123456789abcdef"
abbrev letters : List Nat := lettersS.cps.toList
abbrev digits : List Nat := digitsS.cps.toList
abbrev hexes : List Nat := hexS.cps.toList
def words : List Str := ["accept", "action", "add", "apply", "control", "default", "drop", "else", "emit", "exact", "extract", "go", "header", "if", "key", "mask", "meta", "not", "packet", "parser", "prefix", "program", "reject", "remove", "select", "send", "size", "state", "table", "use", "valid"].map Str.ofString
def longs : List Str := [Str.ofString "==", Str.ofString "->"]
def shorts : List Str := ["{", "}", "(", ")", ":", ";", ",", ".", "=", "<", "+", "-", "&", "|", "^"].map Str.ofString
def inRun (c : Nat) : Bool := decide (c ∈ letters) || decide (c ∈ digits) || decide (c = 95)
def isHexed (p : List Nat) : Bool := decide (p.take 2 = [48, 120])
def allIn (p l : List Nat) : Bool := p.all fun c => decide (c ∈ l)
def isNum (p : List Nat) : Bool :=
  if isHexed p = true then decide (1 ≤ (p.drop 2).length) && decide ((p.drop 2).length ≤ 8) && allIn (p.drop 2) hexes
  else if p.take 1 = [48] then decide (p = [48])
  else if 10 < p.length then false else allIn p digits && decide (NumText.digitsVal p ≤ 4294967295)
def numVal (p : List Nat) : Nat := if isHexed p = true then Hx.hexNum (p.drop 2) else NumText.digitsVal p
def headIn (l p : List Nat) : Bool := match p with
  | [] => false
  | c :: _ => decide (c ∈ l)
/-- a run's or a sign's token: its kind and value -/
def tokOf (p : List Nat) : Option (Str × V) :=
  if headIn letters p = true ∧ p.length ≤ 16 then
    (if S p ∈ words then some (Str.ofString "word", .str (S p)) else some (Str.ofString "name", .str (S p)))
  else if isNum p = true then some (Str.ofString "number", .int (numVal p))
  else if S p ∈ longs ∨ S p ∈ shorts then some (Str.ofString "sign", .str (S p)) else none
/-- how long the run or the sign is that stands at the head -/
def partLen (t : List Nat) : Nat :=
  if headIn (letters ++ digits ++ [95]) t = true then (t.takeWhile inRun).length
  else if S (t.take 2) ∈ longs then 2 else 1
abbrev Tok := Str × V × Nat
def endTok (l : Nat) : Tok := (Str.ofString "end", .str (Str.ofString ""), l)
/-- a token ahead of the others -/
def ahead (kv : Option (Str × V)) (l : Nat) (rest : Except Nat (List Tok)) : Except Nat (List Tok) := match kv with
  | none => .error l
  | some (k, v) => match rest with
    | .error e => .error e
    | .ok ts => .ok ((k, v, l) :: ts)
/-- the tokens of a text that begins in line l; .error: the line of the first part that is none -/
def toks : Nat → Nat → List Nat → Except Nat (List Tok)
  | _, l, [] => .ok [endTok l]
  | 0, l, _ :: _ => .error l
  | f + 1, l, c :: r =>
    if c = 35 then toks f l (r.dropWhile (· ≠ 10))
    else if c = 32 then toks f l r
    else if c = 10 then toks f (l + 1) r
    else ahead (tokOf ((c :: r).take (partLen (c :: r)))) l (toks f l ((c :: r).drop (partLen (c :: r))))
theorem toks_cons (f l c : Nat) (r : List Nat) : toks (f + 1) l (c :: r) = if c = 35 then toks f l (r.dropWhile (· ≠ 10))
    else if c = 32 then toks f l r
    else if c = 10 then toks f (l + 1) r
    else ahead (tokOf ((c :: r).take (partLen (c :: r)))) l (toks f l ((c :: r).drop (partLen (c :: r)))) := by rw [toks]
theorem dropWhile_le {α : Type} (p : α → Bool) : ∀ l : List α, (l.dropWhile p).length ≤ l.length
  | [] => Nat.le_refl _
  | a :: l => by
    rw [List.dropWhile_cons]
    split
    · exact Nat.le_succ_of_le (dropWhile_le p l)
    · exact Nat.le_refl _
theorem inRun_iff (c : Nat) : inRun c = headIn (letters ++ digits ++ [95]) (c :: r) := by
  unfold inRun headIn
  rw [Bool.eq_iff_iff]
  simp [List.mem_append, or_assoc]
theorem partLen_pos (c : Nat) (r : List Nat) : 1 ≤ partLen (c :: r) := by
  unfold partLen
  split
  · rename_i h
    rw [← inRun_iff (r := r)] at h
    rw [List.takeWhile_cons, if_pos h]
    simp
  · split <;> omega
/-- more fuel than signs changes nothing -/
theorem toks_fuel : ∀ (n f : Nat) (l : Nat) (t : List Nat), t.length ≤ n → n ≤ f → toks f l t = toks n l t := by
  intro n
  induction n with
  | zero =>
    intro f l t h1 h2
    cases t with
    | nil => cases f <;> rfl
    | cons c r => simp at h1
  | succ n ih =>
    intro f l t h1 h2
    cases t with
    | nil => cases f <;> rfl
    | cons c r =>
      obtain ⟨g, rfl⟩ : ∃ g, f = g + 1 := ⟨f - 1, by omega⟩
      have hr : r.length ≤ n := by simpa using h1
      have hd : (r.dropWhile (· ≠ 10)).length ≤ n := Nat.le_trans (dropWhile_le _ _) hr
      have hp : ((c :: r).drop (partLen (c :: r))).length ≤ n := by
        have := partLen_pos c r
        rw [List.length_drop, List.length_cons]
        omega
      rw [toks_cons, toks_cons, ih g l _ hd (by omega), ih g l r hr (by omega), ih g (l + 1) r hr (by omega), ih g l _ hp (by omega)]
/-- the tokens of a text that begins in line l -/
def toksT (l : Nat) (t : List Nat) : Except Nat (List Tok) := toks t.length l t
theorem toksT_nil (l : Nat) : toksT l [] = .ok [endTok l] := rfl
theorem toksT_of {f l : Nat} {t : List Nat} (h : t.length ≤ f) : toks f l t = toksT l t := toks_fuel _ f l t (Nat.le_refl _) h
theorem toksT_hash (l : Nat) (r : List Nat) : toksT l (35 :: r) = toksT l (r.dropWhile (· ≠ 10)) := by
  rw [← toksT_of (f := r.length) (dropWhile_le _ _)]
  show toks (r.length + 1) l (35 :: r) = _
  rw [toks_cons, if_pos rfl]
theorem toksT_space (l : Nat) (r : List Nat) : toksT l (32 :: r) = toksT l r := by
  show toks (r.length + 1) l (32 :: r) = _
  rw [toks_cons, if_neg (by decide), if_pos rfl]
  rfl
theorem toksT_nl (l : Nat) (r : List Nat) : toksT l (10 :: r) = toksT (l + 1) r := by
  show toks (r.length + 1) l (10 :: r) = _
  rw [toks_cons, if_neg (by decide), if_neg (by decide), if_pos rfl]
  rfl
theorem toksT_part {l c : Nat} {r : List Nat} (h1 : c ≠ 35) (h2 : c ≠ 32) (h3 : c ≠ 10) :
    toksT l (c :: r) = ahead (tokOf ((c :: r).take (partLen (c :: r)))) l (toksT l ((c :: r).drop (partLen (c :: r)))) := by
  have hp : ((c :: r).drop (partLen (c :: r))).length ≤ r.length := by
    have := partLen_pos c r
    rw [List.length_drop, List.length_cons]
    omega
  show toks (r.length + 1) l (c :: r) = _
  rw [toks_cons, if_neg h1, if_neg h2, if_neg h3, toksT_of hp]
end Tk
set_option Elab.async false
set_option linter.all false
set_option maxRecDepth 100000
set_option maxHeartbeats 4000000
namespace Pk
open PySem PySem.Spec PyProof.Rows L2 SX
/-- a tuple of the written part -/
def TupK (K : PySem.W.Frag) (p : Addr) (xs : List V) : Prop := ∃ (o : Obj) (its : Array Value) (n : Nat), K.lookup p = some o ∧ o.cls = .type "tuple" ∧ o.data = .seq its n ∧ its.size ≤ sizeLine ∧ Vals xs its.toList
theorem TupK.at {K : PySem.W.Frag} {p : Addr} {xs : List V} (h : TupK K p xs) (H : Hp) : SqT K H p xs := .inr h
/-- a def, under its name, that keeps its promise -/
structure Df (P : Program) (w : World) (K : PySem.W.Frag) (mg : Str → Option Value) (base : Heap) (CX : CXT) (k : Nat) (x : Str) (ps : List Str) (sp : Sp) : Prop where
  ex : ∃ (f : Addr) (fd : FuncData), FnOk P w K mg base CX k f fd ps sp ∧ mg x = some (.ref f) ∧ PySem.W.keepIn K (.ref f) = true ∧ Binds K fd ps []
/-- a def of the text as it stands under its name -/
structure AtD (K : PySem.W.Frag) (mg : Str → Option Value) (x : Str) (st : Stmt) (ps : List Str) : Prop where
  ex : ∃ (f : Addr) (fd : FuncData), Fun K x x st f fd ∧ mg x = some (.ref f) ∧ Binds K fd ps []
theorem AtD.df {P : Program} {w : World} {K : PySem.W.Frag} {mg : Str → Option Value} {base : Heap} {CX : CXT} {k : Nat} {x : Str} {st : Stmt} {ps : List Str} {sp : Sp} (A : AtD K mg x st ps)
    (h : ∀ (f : Addr) (fd : FuncData), Fun K x x st f fd → FnOk P w K mg base CX k f fd ps sp) : Df P w K mg base CX k x ps sp := by
  obtain ⟨f, fd, F, g, b⟩ := A.ex
  exact ⟨f, fd, h f fd F, g, F.kp, b⟩
/-! ### values -/
theorem inV_strs {x : Str} : ∀ ws : List Str, inV (.str x) (ws.map V.str) = decide (x ∈ ws)
  | [] => by simp [inV]
  | w :: ws => by
    have ih := inV_strs (x := x) ws
    unfold inV at ih ⊢
    rw [List.map_cons, List.any_cons, ih]
    show ((w == x) || decide (x ∈ ws)) = _
    rw [Bool.eq_iff_iff, Bool.or_eq_true, beq_iff_eq, decide_eq_true_eq, decide_eq_true_eq, List.mem_cons]
    constructor
    · rintro (h | h)
      · exact .inl h.symm
      · exact .inr h
    · rintro (h | h)
      · exact .inl h.symm
      · exact .inr h
theorem inV_int {n : Int} : ∀ ws : List Str, inV (.int n) (ws.map V.str) = false
  | [] => by simp [inV]
  | w :: ws => by
    have ih := inV_int (n := n) ws
    unfold inV at ih ⊢
    rw [List.map_cons, List.any_cons, ih]
    rfl
theorem flat_strs (ws : List Str) : (ws.map V.str).all flatV = true := by
  rw [List.all_eq_true]
  intro x hx
  obtain ⟨y, _, rfl⟩ := List.mem_map.mp hx
  rfl
theorem dcStr {x y : Str} : decide (V.str x = V.str y) = decide (x = y) := by
  by_cases h : x = y
  · rw [h, decide_eq_true rfl, decide_eq_true rfl]
  · rw [decide_eq_false h, decide_eq_false fun z => h (V.str.inj z)]
theorem dcS {a b : List Nat} : decide (S a = S b) = decide (a = b) := by
  by_cases h : a = b
  · rw [h, decide_eq_true rfl, decide_eq_true rfl]
  · rw [decide_eq_false h, decide_eq_false fun z => h (S_inj z)]
/-- s[i:j], s[i:] -/
theorem cut2 (t : List Nat) (i j : Nat) : cutS (S t) (some (i : Int)) (some (j : Int)) = S ((t.drop i).take (j - i)) := by
  have hl : (S t).length = t.length := S_len t
  unfold cutS
  rw [HT.sIx_nat, HT.sIx_nat, hl]
  show S _ = S _
  congr 1
  show ((t.drop (min i t.length)).take (min j t.length - min i t.length)) = _
  by_cases hi : i ≤ t.length
  · rw [Nat.min_eq_left hi]
    by_cases hj : j ≤ t.length
    · rw [Nat.min_eq_left hj]
    · have e : min j t.length = t.length := by omega
      rw [e, List.take_of_length_le (by rw [List.length_drop]; exact Nat.le_refl _), List.take_of_length_le (by rw [List.length_drop]; omega)]
  · have e : min i t.length = t.length := by omega
    rw [e, List.drop_of_length_le (Nat.le_refl _), List.drop_of_length_le (show t.length ≤ i by omega), List.take_nil, List.take_nil]
theorem cut1f (t : List Nat) (i : Nat) : cutS (S t) (some (i : Int)) none = S (t.drop i) := by
  have hl : (S t).length = t.length := S_len t
  unfold cutS
  rw [HT.sIx_nat, HT.sIx_none, hl]
  show S _ = S _
  congr 1
  show ((t.drop (min i t.length)).take (t.length - min i t.length)) = _
  by_cases hi : i ≤ t.length
  · rw [Nat.min_eq_left hi, List.take_of_length_le (by rw [List.length_drop]; exact Nat.le_refl _)]
  · have e : min i t.length = t.length := by omega
    rw [e, List.drop_of_length_le (Nat.le_refl _), List.drop_of_length_le (show t.length ≤ i by omega), List.take_nil]
theorem starts2 (p q : List Nat) : Txt.startswith (S p) (S q) = decide (p.take q.length = q) := by
  unfold Txt.startswith
  rw [S_len, S_len, Nat.zero_add]
  have e : Builtin.Str.subAt (S p) (S q) 0 = decide (p.take q.length = q) := by
    unfold Builtin.Str.subAt
    rw [S_len, Nat.zero_add]
    show (p.toArray.extract 0 q.length == q.toArray) = _
    rw [Bool.eq_iff_iff, beq_iff_eq, decide_eq_true_eq]
    constructor
    · intro h
      have h2 := congrArg Array.toList h
      simpa using h2
    · intro h
      rw [List.extract_toArray]
      simp [h]
  rw [e]
  by_cases h : p.take q.length = q
  · have : q.length ≤ p.length := by
      have := congrArg List.length h
      rw [List.length_take] at this
      omega
    rw [decide_eq_true h, decide_eq_true this]
    rfl
  · rw [decide_eq_false h, Bool.and_false]
theorem takeWhile_self {α : Type} {p : α → Bool} : ∀ {l : List α}, (∀ x ∈ l, p x = true) → l.takeWhile p = l
  | [], _ => rfl
  | a :: l, h => by
    rw [List.takeWhile_cons, if_pos (h a List.mem_cons_self), takeWhile_self fun x hx => h x (List.mem_cons_of_mem _ hx)]
/-- where a sign is found from i on -/
theorem find_sign {t : List Nat} {i : Nat} (c : Nat) (hi : i ≤ t.length) :
    (Txt.find3 (S t) (S [c]) (i : Int) = -1 ∧ (t.drop i).takeWhile (· ≠ c) = t.drop i) ∨
    Txt.find3 (S t) (S [c]) (i : Int) = ((i + ((t.drop i).takeWhile (· ≠ c)).length : Nat) : Int) ∧ i + ((t.drop i).takeWhile (· ≠ c)).length < t.length := by
  have fi : fromIndex (S t).length (i : Int) = i := by
    unfold fromIndex
    rw [if_neg (by omega)]
    omega
  have gd : ∀ v, v < t.length → (S t).cps.getD v 0 = t[v]?.getD 0 := fun v hv => by
    simp [S, Array.getD, hv]
  rcases StrLaws.find3_spec (S t) c (i : Int) with ⟨h1, h2⟩ | ⟨k, h1, h2, h3, h4, h5⟩
  · refine .inl ⟨h1, ?_⟩
    refine takeWhile_self fun x hx => ?_
    obtain ⟨j, hj, rfl⟩ := List.getElem_of_mem hx
    rw [List.length_drop] at hj
    have := h2 (i + j) (by rw [fi]; omega) (by rw [S_len]; omega)
    rw [gd _ (by omega), List.getElem?_eq_getElem (by omega)] at this
    rw [List.getElem_drop]
    exact decide_eq_true this
  · rw [fi] at h2
    rw [S_len] at h3
    have key : ((t.drop i).takeWhile (· ≠ c)).length = k - i := by
      have hk : t.drop i = (t.drop i).take (k - i) ++ t.drop k := by
        have e := (List.take_append_drop (k - i) (t.drop i)).symm
        rw [List.drop_drop, show i + (k - i) = k by omega] at e
        exact e
      rw [hk, List.takeWhile_append_of_pos]
      · rw [List.drop_eq_getElem_cons h3, List.takeWhile_cons]
        have hc : t[k] = c := by
          have := h4
          rw [gd _ h3, List.getElem?_eq_getElem h3] at this
          exact this
        rw [if_neg (by simp [hc]), List.append_nil, List.length_take, List.length_drop]
        omega
      · intro x hx
        obtain ⟨j, hj, rfl⟩ := List.getElem_of_mem hx
        rw [List.length_take, List.length_drop] at hj
        have := h5 (i + j) (by rw [fi]; omega) (by omega)
        rw [gd _ (by omega), List.getElem?_eq_getElem (by omega)] at this
        rw [List.getElem_take, List.getElem_drop]
        exact decide_eq_true this
    refine .inr ⟨?_, ?_⟩
    · rw [h1, key, show i + (k - i) = k by omega]
    · rw [key]
      omega
end Pk
set_option Elab.async false
set_option linter.all false
set_option maxRecDepth 100000
set_option maxHeartbeats 4000000
namespace Pk
open PySem PySem.Spec PyProof.Rows L2 SX GxR
/-! ### all(x in y for x in e), y a captured text -/
/-- the reading: y stands in slot j; behind it the def's table may have grown -/
def tAllC (P : Addr) (j : Nat) (te : TE) : TE := fun σ H Q => te σ H fun v H1 => ∃ a z : Str, v = .str a ∧ σ[j]? = some (some (.str z)) ∧ TabG H1 P ∧
  ∀ H2, Tabbed P H1 H2 → Q (.bl (a.cps.toList.all fun c => decide (c ∈ z.cps.toList))) H2
/-- x in y within the generator: x a sign at the generator's own name, y read off its cell -/
theorem elt_in {prog : Program} {w : World} {A : Around} {E : Value → Shared → Prop} {env : Env} {x y : Str} {q1 q2 q3 : Pos} {s : Shared} {m : Str → Option Value} {c : Nat} {t u : Tok} {z : Str} {ca : Addr}
    (hk : env.scope.kind = .function) (hx : env.scope.names.lookup x = some .local) (hy : env.scope.names.lookup y = some .free) (dx : (x == ("__debug__" : Str)) = false) (dy : (y == ("__debug__" : Str)) = false) (ey : (y == ("__classdict__" : Str)) = false)
    (hn : s.heap.Ns env.locals m) (hm : m x = some (.str ⟨#[c]⟩ t)) (hc : env.cells.lookup y = some ca) (ho : s.heap.IsCell ca (some (.str z u))) :
    wpAny (model prog w) A (eval (.Compare (.Name x q1) [.In] [.Name y q2] q3) env) (fun v s' => v = .bool (decide (c ∈ z.cps.toList)) ∧ Keeps s s') E s := by
  refine wpAny_Compare1 ?_
  refine wpAny_Name (wpAny_loadName_local hk hx hn hm ?_) dx
  refine wpAny_Name (wpAny_loadName_free hk hy hc ho ?_ ey) dy
  refine in_str ⟨?_, keeps_refl s⟩
  have e := in_one z.cps.toList c
  rw [S_tl] at e
  exact congrArg Value.bool e
variable {X : Cx}
/-- the code object of a generator expression: found in the def's table, or made and put there -/
theorem gen_code {pins : List (Addr × Obj)} {σ : L2.St} {H1 : Hp} {s1 : Shared} {c P : Addr} {gpos : Pos} {scope : Scope} {o : Obj} {ps : Array Value} {Q3 : Value → Shared → Prop} {E : Value → Shared → Prop}
    (TB : TabB X.base X.mg c P) (hcode : X.env.code = .ref c) (I1 : L2.Inv X pins σ H1 s1) (hP : H1 P = some (.tbl ps)) (tri : TriplesOk ps.toList)
    (h : ∀ (code : Value) (h3 : Heap) (k3 : Nat) (more : Array Value), Heap.ExtBut P (s1.heap.push o) h3 → s1.heap.objs.size + 1 ≤ h3.objs.size →
      h3.get? P = some { cls := .none, data := .fields (ps ++ more) } → TriplesOk (ps ++ more).toList → Q3 code { s1 with heap := h3, toks := k3 }) :
    wpAny (model X.prog X.w) X.A (genexprCode X.env gpos (X.env.qual ++ "<genexpr>") scope) Q3 E { s1 with heap := s1.heap.push o } := by
  have atP : s1.heap.get? P = some { cls := .none, data := .fields ps } := I1.hok P _ hP
  have atP2 : (s1.heap.push o).get? P = some { cls := .none, data := .fields ps } := Heap.get?_push_of_some _ atP
  have hd2 : PySem.W.CodeHd (s1.heap.push o) c P := TB.code.keeps fun b u e => Heap.get?_push_of_some _ (I1.bk b u e)
  have sz2 : (s1.heap.push o).objs.size = s1.heap.objs.size + 1 := Heap.size_push ..
  cases found : codeAmong gpos ps.toList with
  | some cv =>
    apply wpAny_genexprCode_hit hcode (hd2.code atP2 tri) found
    refine h cv (s1.heap.push o) s1.toks #[] (Heap.ExtBut.refl _ _) (Nat.le_of_eq sz2.symm) ?_ ?_
    · rw [Array.append_empty]
      exact atP2
    · rw [Array.append_empty]
      exact tri
  | none =>
    apply wpAny_genexprCodeX hcode (hd2.code atP2 tri) (hd2.tab atP2) found
    intro c' h' tk hx hge hlt hco' _ htab' _
    obtain ⟨o1, vs, f1, tf, fl, tg, inF, tx, tt, op, _, _, _, _, _, _, _, _, _, htr, _⟩ := hco'
    refine h _ h' tk _ hx ?_ htab'.2 htr
    have l1 : (s1.heap.push o).objs.size ≤ h'.objs.size := Nat.le_trans hge (Nat.le_of_lt hlt)
    rw [sz2] at l1
    exact l1
theorem pe_allC {c P : Addr} {part : Expr} {x y : Str} {j k : Nat} {q1 q2 q3 px pa gpos pos : Pos} {scope : Scope} {te : TE}
    (hr : Room k X.A) (hg : Gl X "all") (zAll : X.mg "all" = none) (bAll : bootBuiltins "all" = some (.builtin "all")) (TB : TabB X.base X.mg c P) (hcode : X.env.code = .ref c) (S : GenS X.env scope x)
    (hi : PE X part te) (hN : X.N[j]? = some y) (hy : X.env.scope.names.lookup y = some .cell) (fy : scope.names.lookup y = some .free)
    (clo : ∀ (cells : List (Str × Addr)) (ca : Addr), cells.lookup y = some ca → (cloFrom cells scope.names []).lookup y = some ca)
    (dx : (x == ("__debug__" : Str)) = false) (dy : (y == ("__debug__" : Str)) = false) (ey : (y == ("__classdict__" : Str)) = false) (hf : ∀ v, genFold part X.env v = pure v)
    (he : starEach [.GeneratorExp (.Compare (.Name x q1) [.In] [.Name y q2] q3) [⟨.Name x px, part, [], 0⟩] scope gpos] X.env =
      (false, eval (.GeneratorExp (.Compare (.Name x q1) [.In] [.Name y q2] q3) [⟨.Name x px, part, [], 0⟩] scope gpos) X.env) :: starEach [] X.env := by rfl) :
    PE X (.Call (.Name "all" pa) [.GeneratorExp (.Compare (.Name x q1) [.In] [.Name y q2] q3) [⟨.Name x px, part, [], 0⟩] scope gpos] [] pos) (tAllC P j te) := by
  constructor
  intro pins s σ H Q I hQ
  have dep := hr.dp
  apply wpAny_Call_Name_kw
  apply ld_blt I hg zAll bAll
  · apply PyProof.Rows.callWith_builtin1 _ he (by rfl)
    rw [he]
    show wpAny _ _ (spliced ((false, eval (.GeneratorExp _ _ scope gpos) X.env) :: backTo pos (starEach [] X.env))) _ _ s
    apply Calls.spliced_cons
    apply wpAny_GeneratorExp_walksQ hr.hd S.co (closure_ok S.free) S.cell S.dot S.loc S.kind (by omega) _ hf
    refine wpAny_mono (hi.run pins s σ H _ I hQ) (fun pv s1 w1 => ?_) fun _ _ e => e
    obtain ⟨v, H1, I1, r1, a, z, ev, hz, ⟨ps, hP, tri⟩, q1⟩ := w1
    subst ev
    obtain ⟨ta, ea⟩ : ∃ t, pv = Value.str a t := r1
    subst ea
    -- the cell of y, and what is in it
    obtain ⟨mL, nsL, look⟩ := I1.loc
    obtain ⟨uz, rz, lk⟩ := look j y (.str z) hN hz (.inr (.inl hy))
    obtain ⟨tz, euz⟩ : ∃ t, uz = Value.str z t := rz
    subst euz
    have cellY : ∃ ca, X.env.cells.lookup y = some ca ∧ s1.heap.IsCell ca (some (.str z tz)) := by
      cases lk with
      | inl l =>
        have l1 : X.env.scope.names.lookup y = some .local := l.1
        rw [hy] at l1
        cases l1
      | inr l => exact l.2
    obtain ⟨ca, hca, isC⟩ := cellY
    apply wpAny_pyIter_str
    intro o St W hst
    refine ⟨I1.nolimit.push o, gen_code TB hcode I1 hP tri fun code h3 k3 more ext le3 atP3 tri3 => ?_⟩
    have atP : s1.heap.get? P = some { cls := .none, data := .fields ps } := I1.hok P _ hP
    have notP : ∀ b, s1.heap.objs.size ≤ b → b ≠ P := fun b hb e => by
      have := Heap.lt_size atP
      rw [← e] at this
      exact absurd (Nat.lt_of_lt_of_le this hb) (Nat.lt_irrefl _)
    have keep3 : ∀ b u, b ≠ P → s1.heap.get? b = some u → h3.get? b = some u := fun b u n e => ext b u n (Heap.get?_push_of_some _ e)
    have stat : cStatics < s1.heap.objs.size ∧ cStatics ≠ P := by
      obtain ⟨_, ns1, _⟩ := I1.nolimit
      refine ⟨ns1.lt, fun e => ?_⟩
      obtain ⟨o', es, ep, ho, hd, _⟩ := ns1
      rw [e, atP] at ho
      cases ho
      cases hd
    have cellP : ca ≠ P := fun e => by
      obtain ⟨oc, h1, h2⟩ := isC
      rw [e, atP] at h1
      cases h1
      cases h2
    obtain ⟨bm, ob, b1, b2, b3, b4, b5, b6, b7, b8⟩ := TB.bm
    have glob2 := (I1.mod.glob.keeps I1.bk).push o
    rw [← I1.ok.glob] at glob2
    refine wpAny_builtinsFor (m := X.mg) (glob2.extBut ext (by rw [I1.ok.glob]; exact TB.gP)) b1 b2 (keep3 _ _ b4 (I1.bk _ _ b5)) b6 b7 b8 ?_
    let it := s1.heap.objs.size
    refine ⟨it, [it], [it], a.cps.size, SignAt a, St, fun _ => true, fun i v => ∃ cc, a.cps[i]? = some cc ∧ v = .bool (decide (cc ∈ z.cps.toList)), rfl, W, ?_, ?_, (I1.nolimit.push o).extBut ext stat.2, ?_, ?_, ?_⟩
    · refine (W X.A hr.hd).frame _ _ _ hst fun b hb u e => ext b u ?_ e
      obtain rfl : b = it := List.mem_singleton.mp hb
      exact notP _ (Nat.le_refl _)
    · intro b hb
      obtain rfl : b = it := List.mem_singleton.mp hb
      exact le3
    · intro hb
      have e : cStatics = it := List.mem_singleton.mp hb
      have := stat.1
      rw [e] at this
      exact Nat.lt_irrefl _ this
    · intro href hhref
      have cell3 : href.get? ca = h3.get? ca ∧ ca < h3.objs.size ∧ ca ∉ [it] := by
        obtain ⟨oc, h1, h2⟩ := isC
        have l1 := Heap.lt_size h1
        have e3 := keep3 ca oc cellP h1
        refine ⟨(hhref ca oc e3).trans e3.symm, Nat.lt_of_lt_of_le l1 (Nat.le_of_succ_le le3), fun hm => ?_⟩
        have e : ca = it := List.mem_singleton.mp hm
        rw [e] at l1
        exact Nat.lt_irrefl _ l1
      refine ⟨fun A' E' i v s₂ m₂ hA hPv hn hm hk => ?_, fun A' E' i v s₂ m₂ hA hPv hp hn hm hk => ?_⟩
      · simp only [List.forIn_nil]
        exact wpAny_pure ⟨rfl, keeps_refl _⟩
      · obtain ⟨cc, u, hcc, rfl⟩ := hPv
        have isC2 : s₂.heap.IsCell ca (some (.str z tz)) := by
          obtain ⟨oc, h1, h2⟩ := isC
          exact ⟨oc, hk ca (List.mem_range.mpr cell3.2.1) cell3.2.2 oc (by rw [cell3.1]; exact keep3 ca oc cellP h1), h2⟩
        refine wpAny_mono (elt_in (s := s₂) (m := m₂) (c := cc) (t := u) (u := tz) (z := z) (ca := ca) S.kind S.loc fy dx dy ey hn hm (clo _ _ hca) isC2) (fun v s3 r => ⟨⟨cc, hcc, r.1⟩, r.2⟩) fun _ _ e => e
    · intro g h5 tk5 gs hgb hag hsz5 hk5 W5 hat
      simp only [GxR.passing_true, List.length_range] at W5
      have WS := W5.in4_1
      refine Calls.spliced_nil (call_all_walkS (WS.self 0 _ _ _ hat ⟨g, _, _, _, _, _, _, trF (fun c => decide (c ∈ z.cps.toList)) a.cps.toList, rfl, WS, hat, ?_, fun s' hmv => ?_⟩))
      · intro i v si Qi Ei hv hQi
        obtain ⟨i', hi', cc, hcc, rfl⟩ := hv
        obtain ⟨hlt, ei⟩ := List.getElem?_eq_some_iff.mp hi'
        rw [List.getElem_range] at ei
        subst ei
        have hQ2 : Qi (trF (fun c => decide (c ∈ z.cps.toList)) a.cps.toList i) si := hQi
        rw [trF_some (show a.cps.toList[i]? = some cc by rw [Array.getElem?_toList]; exact hcc)] at hQ2
        exact wpAny_truthy_bool hQ2
      · have fresh : ∀ b u, s1.heap.get? b = some u → b ∉ h3.objs.size :: [it] := fun b u e hb => by
          have hl : b < it := Heap.lt_size e
          rcases List.mem_cons.mp hb with z1 | z1
          · have le4 : it + 1 ≤ h3.objs.size := le3
            rw [z1] at hl
            exact absurd (Nat.lt_of_lt_of_le hl (Nat.le_of_succ_le le4)) (Nat.lt_irrefl _)
          · have e1 : b = it := List.mem_singleton.mp z1
            rw [e1] at hl
            exact Nat.lt_irrefl _ hl
        have J := inv_tab (more := more) (h' := s'.heap) (g' := s'.gens) (d' := s'.drawn) (t' := s'.toks) I1 hP (fun b u n e => hmv.heap b u (fresh b u e) (hk5 b u (keep3 b u n e)))
          (hmv.heap P _ (fresh P _ atP) (hk5 P _ atP3)) (AllBare.movedS (I1.bare.push hgb) hmv)
        rw [sh_eta s1 s' hmv.os] at J
        have fin := q1 (upd H1 P (.tbl (ps ++ more))) ⟨⟨_, upd_same, tri3⟩, fun b hb => upd_ne hb⟩
        rw [← all_signs a (fun c => decide (c ∈ z.cps.toList))] at fin
        exact ⟨.bl _, _, J, rfl, fin⟩
end Pk
set_option Elab.async false
set_option linter.all false
set_option maxRecDepth 100000
set_option maxHeartbeats 4000000
namespace Pk
open PySem PySem.Spec PyProof.Rows L2
def topS (i : Nat) : Stmt := PySem.Challenge.pw_wholepackets_k04_errors_of_parsing.main.body.getD i (.Pass ⟨0, 0, 0, 0⟩)
abbrev sState : Stmt := topS 61
abbrev sDraw : Stmt := topS 62
abbrev sPick : Stmt := topS 63
theorem scState : FnScope ["script", "seed", "cell"] ["script"] (defScope sState) := ⟨rfl, rfl, rfl, by decide +kernel, rfl, by decide +kernel, by decide +kernel⟩
theorem scDraw : FnScope ["state", "many", "cells", "value", "mixed"] ["state", "many"] (defScope sDraw) := ⟨rfl, rfl, rfl, by decide +kernel, rfl, by decide +kernel, by decide +kernel⟩
theorem scPick : FnScope ["state", "row"] ["state", "row"] (defScope sPick) := ⟨rfl, rfl, rfl, by decide +kernel, rfl, by decide +kernel, by decide +kernel⟩
section
variable {P : Program} {w : World} {K : PySem.W.Frag} {mg : Str → Option Value} {base : Heap}
theorem map_at {ns : List Int} {i : Nat} {y : V} (h : (ns.map V.int)[i]? = some y) : ∃ z, ns[i]? = some z ∧ y = V.int z := by
  rw [List.getElem?_map] at h
  cases e : ns[i]? with
  | none => rw [e] at h; cases h
  | some z => rw [e] at h; exact ⟨z, rfl, (Option.some.inj h).symm⟩
def absI (z : Int) : Int := if z < 0 then -z else z
theorem ok_state {f : Addr} {fd : FuncData} {k : Nat} (F : Fun K "_law_state" "_law_state" sState f fd) (T : Blt mg) : FnOk P w K mg base CX0 (k + 1) f fd ["script"] (spState K) := by
  refine F.ok scState (fun vs H Q E h => ?_) (fun cdv A outer s H vs Q E hr h => ?_)
  · obtain ⟨a, ns, rfl, _⟩ := h
    rfl
  · obtain ⟨a, ns, rfl, hS, hn, q⟩ := h
    refine ⟨_, pss_cons (ps_set (i := 1) scState.nd rfl (.inl rfl) pe_int)
      (pss_cons (ps_for PassesOwn.never rfl (pi_list (pv 0)) (pg_name (i := 2) scState.nd rfl (.inl rfl))
        (pss_one (ps_set (i := 1) scState.nd rfl (.inl rfl) (pe_op op_mod (pe_callTy call_int1 (by rfl) T.zInt (by decide +kernel) (pa_cons (pe_op op_add (pe_op op_mul (pv 1) pe_int) (pv 2)) pa_nil)) pe_int))))
      (pss_one (ps_ret (pe_lst (pa_cons (pe_lc (own := [("cell", 2)]) (g := gName 2) (tt := tYes) rfl scState.nd (pi_list (pv 0)) (blkOk_by (N := ["script", "seed", "cell"]) (sc := defScope sState) (by decide +kernel))
        (fun _ _ _ _ _ => pg_name (i := 2) scState.nd rfl (Or.inl rfl)) (fun _ _ _ _ _ => pts_nil) (fun _ _ _ _ _ => pe_callB call_abs (by rfl) T.zAbs (by decide +kernel) (pa_cons (pv 2) pa_nil)))
        (pa_cons (pe_op op_add (pv 1) pe_int) pa_nil)))))), ?_⟩
    refine ⟨_, rfl, a, rfl, ⟨_, hS⟩, for_list (K := K) (a := a) (xs := ns.map V.int) (fun i σ H' => ∃ (sd : Int) (v : Option V), σ = [some (.ref a), some (.int sd), v] ∧ H' = H ∧ 0 ≤ sd ∧ sd < 1000003)
      ⟨7, none, rfl, rfl, by decide, by decide⟩ (fun i σ H' _ ⟨_, _, _, e, _⟩ => by subst e; exact hS) ?_ ?_⟩
    · rintro i y σ H' hi ⟨sd, v, rfl, rfl, h0, h1⟩
      obtain ⟨z, _, rfl⟩ := map_at hi
      refine ⟨_, rfl, _, _, rfl, rfl, .inl ⟨by omega, by omega⟩, _, rfl, _, _, rfl, rfl, .inl ⟨_, rfl, _, _, rfl, rfl, (by show (0 : Int) < 1000003; decide), ?_⟩⟩
      exact ⟨_, _, rfl, rfl, Int.emod_nonneg _ (by decide), Int.emod_lt_of_pos _ (by decide)⟩
    · rintro σ H' ⟨sd, v, rfl, rfl, h0, h1⟩
      refine ⟨_, rfl, a, rfl, ⟨_, hS⟩, fun D hD => lc_list (K := K) (a := a) (xs := ns.map V.int) (fun i H2 => Same H' H2 ∧ H2 D = some (.lst ((ns.take i).map fun z => V.int (absI z))))
        ⟨same_new hD, upd_same⟩ (fun i H2 _ h => h.1.seq hS) ?_ ?_⟩
      · rintro i y H2 hi ⟨k1, k2⟩
        obtain ⟨z, hz, rfl⟩ := map_at hi
        refine ⟨rfl, ⟨_, rfl, _, rfl, _, k2, ?_, fun b o e => ?_, ?_⟩⟩
        · rw [List.length_map, List.length_take]
          exact Nat.lt_of_le_of_lt (Nat.min_le_right _ _) (small1000 (by omega))
        · rw [upd_ne (ne_of_none e hD)]
          exact k1 b o e
        · rw [upd_same, List.take_add_one, hz, List.map_append]
          rfl
      · rintro H2 ⟨k1, k2⟩
        refine ⟨_, rfl, _, _, rfl, rfl, (by show 2 ≤ sizeLine; decide), fun p hp => ?_⟩
        have e : (ns.map V.int).length = ns.length := List.length_map ..
        rw [e, List.take_length] at k2
        have npD : D ≠ p := ne_of_none k2 hp
        refine q _ p D (k1.trans (same_new hp)) (k1.free hp) hD ⟨ns.map absI, sd + 1, upd_same, ?_, ?_, by omega, by omega⟩
        · rw [upd_ne npD, k2, List.map_map]
          rfl
        · intro z hz
          obtain ⟨y, _, rfl⟩ := List.mem_map.mp hz
          unfold absI
          split <;> omega
theorem ok_draw {f : Addr} {fd : FuncData} {k : Nat} (F : Fun K "_law_draw" "_law_draw" sDraw f fd) (T : Blt mg) : FnOk P w K mg base CX0 (k + 1) f fd ["state", "many"] spDraw := by
  refine F.ok scDraw (fun vs H Q E h => ?_) (fun cdv A outer s H vs Q E hr h => ?_)
  · obtain ⟨s, c, many, rfl, _⟩ := h
    rfl
  · obtain ⟨s, c, many, rfl, hS, hm0, hm1, q⟩ := h
    refine ⟨_, pss_cons (ps_set (i := 2) scDraw.nd rfl (.inl rfl) (pe_ix ix_list (pv 0) pe_int (fun _ _ => rfl)))
      (pss_cons (ps_while PassesOwn.never (PW.pt (pw_and (pt_cmpR op_gt (pe_callB call_len_seq (by rfl) T.zLen PySem.boot_len (pa_cons (pv 2) pa_nil)) pe_int (nomark _)) (pw_and1 (pt_cmpR op_eq (pe_ix ix_list (pv 2) pe_int (fun _ _ => rfl)) pe_int (nomark _)))))
        (pss_one (ps_expr (pe_bm PySem.F.plainAttrs_list PySem.F.slot_list_pop PySem.F.type_list_pop mt_popAt (pv 2) (pa_cons pe_int pa_nil)))))
      (pss_cons (ps_if (pt_cmpR op_gt (pe_callB call_len_seq (by rfl) T.zLen PySem.boot_len (pa_cons (pv 2) pa_nil)) pe_int (nomark _))
        (pss_cons (ps_set (i := 3) scDraw.nd rfl (.inl rfl) (pe_ix ix_list (pv 2) pe_int (fun _ _ => rfl)))
        (pss_cons (ps_asg (pe_op op_fdivW (pv 3) (pv 1)) (pg_sub (pv 2) pe_int set_list))
        (pss_one (ps_ret (pe_op op_mod (pe_callTy call_int1 (by rfl) T.zInt (by decide +kernel) (pa_cons (pv 3) pa_nil)) (pv 1)))))) pss_nil)
      (pss_cons (ps_set (i := 4) scDraw.nd rfl (.inl rfl) (pe_op op_mod (pe_callTy call_int1 (by rfl) T.zInt (by decide +kernel) (pa_cons (pe_op op_add (pe_op op_mul (pe_ix ix_list (pv 0) pe_int (fun _ _ => rfl)) pe_int) pe_int) pa_nil)) pe_int))
      (pss_cons (ps_asg (pv 4) (pg_sub (pv 0) pe_int set_list))
      (pss_one (ps_ret (pe_op op_mod (pe_callTy call_int1 (by rfl) T.zInt (by decide +kernel) (pa_cons (pe_op op_fdivW (pv 4) pe_int) pa_nil)) (pv 1)))))))), ?_⟩
    have hSC := hS
    have hne := hS.ne
    obtain ⟨cells, seed, h1, h2, h3, h4, h5⟩ := hS
    refine ⟨.ref s, rfl, s, _, _, _, rfl, rfl, SqL.of h1, atI_nat (j := 0) rfl, ?_⟩
    -- the while: cells lose their zeros
    refine ⟨fun m σ H' => ∃ cs : List Int, m = cs.length ∧ σ = [some (.ref s), some (.int many), some (.ref c), none, none] ∧ H' s = some (.lst [.ref c, .int seed]) ∧ H' c = some (.lst (cs.map V.int)) ∧ (∀ z ∈ cs, 0 ≤ z) ∧ Kp s c H H',
      ⟨cells.length, cells, rfl, rfl, h1, h2, h3, Kp.refl _ _ _⟩, ?_⟩
    rintro m σ H' ⟨cs, rfl, rfl, g1, g2, g3, g4⟩
    refine ⟨.ref c, rfl, c, _, rfl, .inl (SqL.of g2), _, _, rfl, rfl, _, rfl, ?_⟩
    cases cs with
    | nil =>
      refine iteDF (by decide) (iteF ?_)
      -- no cell is left: mixed
      refine ⟨.ref c, rfl, c, _, rfl, .inl (SqL.of g2), _, _, rfl, rfl, _, rfl, iteDF (by decide) ?_⟩
      refine ⟨.ref s, rfl, s, _, _, _, rfl, rfl, SqL.of g1, atI_nat (j := 1) rfl, _, _, rfl, rfl, .inl ⟨by omega, by omega⟩, _, _, rfl, rfl, .inl ⟨_, rfl, _, _, rfl, rfl, (by show (0 : Int) < 2147483647; decide), ?_⟩⟩
      have b0 : 0 ≤ (seed * 48271 + 12345) % 2147483647 := Int.emod_nonneg _ (by decide)
      have b1 : (seed * 48271 + 12345) % 2147483647 < 2147483647 := Int.emod_lt_of_pos _ (by decide)
      refine ⟨_, rfl, .ref s, rfl, s, _, _, 1, rfl, rfl, g1, rfl, ?_⟩
      refine ⟨_, rfl, _, _, rfl, rfl, ⟨by decide, by decide⟩, .inl ⟨_, rfl, _, rfl, _, _, rfl, rfl, hm0, ?_⟩⟩
      refine q _ _ (Int.emod_nonneg _ (by omega)) (Int.emod_lt_of_pos _ hm0) ⟨[], _, upd_same, ?_, fun z hz => absurd hz (by simp), b0, by omega⟩ fun b o n1 n2 e => ?_
      · rw [upd_ne (Ne.symm hne)]
        exact g2
      · rw [upd_ne n1]
        exact g4 b o n1 n2 e
    | cons z r =>
      refine iteDT (by rw [List.length_map, List.length_cons]; omega) ?_
      refine ⟨.ref c, rfl, c, _, _, _, rfl, rfl, SqL.of g2, atI_nat (j := 0) rfl, rfl, _, rfl, ?_⟩
      rw [dcInt]
      refine iteD (fun hz => ?_) fun hz => ?_
      · -- a zero is dropped
        refine ⟨fun σ' H' => ∃ m', m' < (z :: r).length ∧ ∃ cs : List Int, m' = cs.length ∧ σ' = [some (.ref s), some (.int many), some (.ref c), none, none] ∧ H' s = some (.lst [.ref c, .int seed]) ∧ H' c = some (.lst (cs.map V.int)) ∧ (∀ z ∈ cs, 0 ≤ z) ∧ Kp s c H H',
          fun _ _ h => h, ?_⟩
        refine ⟨.ref c, rfl, .inl ⟨rfl, _, SqL.of g2⟩, c, _, _, 0, _, rfl, rfl, g2, by decide, by decide, ?_, rfl, r.length, by rw [List.length_cons]; omega, r, rfl, rfl, ?_, ?_, fun y hy => g3 y (List.mem_cons_of_mem _ hy), fun b o n1 n2 e => ?_⟩
        · exact PySem.StrLaws.seqIndex_nonneg (Int.le_refl 0) (by rw [List.length_map, List.length_cons]; omega)
        · rw [upd_ne hne]
          exact g1
        · rw [upd_same]
          rfl
        · rw [upd_ne n2]
          exact g4 b o n1 n2 e
      · -- the first cell is drawn from
        refine ⟨.ref c, rfl, c, _, rfl, .inl (SqL.of g2), _, _, rfl, rfl, _, rfl, iteDT (by rw [List.length_map, List.length_cons]; omega) ?_⟩
        have z0 := g3 z List.mem_cons_self
        refine ⟨.ref c, rfl, c, _, _, _, rfl, rfl, SqL.of g2, atI_nat (j := 0) rfl, ?_⟩
        refine ⟨_, rfl, _, rfl, _, _, rfl, rfl, wide_div (b := 41) hm0 (by omega) (by decide) (by decide), .ref c, rfl, c, _, _, 0, rfl, rfl, g2, ?_, ?_⟩
        · rw [List.length_map, List.length_cons]
          unfold ixN
          rw [if_pos (Int.le_refl 0), if_pos (by omega)]
          rfl
        refine ⟨_, rfl, .inl ⟨_, rfl, _, rfl, _, _, rfl, rfl, hm0, ?_⟩⟩
        refine q _ _ (Int.emod_nonneg _ (by omega)) (Int.emod_lt_of_pos _ hm0) ⟨z / many :: r, seed, ?_, ?_, ?_, h4, h5⟩ fun b o n1 n2 e => ?_
        · rw [upd_ne hne]
          exact g1
        · rw [upd_same]
          rfl
        · intro y hy
          rcases List.mem_cons.mp hy with rfl | hy
          · exact Int.ediv_nonneg z0 (by omega)
          · exact g3 y (List.mem_cons_of_mem _ hy)
        · rw [upd_ne n2]
          exact g4 b o n1 n2 e
theorem ok_pick {f fD : Addr} {fd fdD : FuncData} {k : Nat} (F : Fun K "_law_pick" "_law_pick" sPick f fd) (T : Blt mg) (G : FnOk P w K mg base CX0 (k + 1) fD fdD ["state", "many"] spDraw)
    (gD : mg "_law_draw" = some (.ref fD)) (kD : PySem.W.keepIn K (.ref fD) = true) (bD : Binds K fdD ["state", "many"] []) : FnOk P w K mg base CX0 (k + 2) f fd ["state", "row"] (spPick K) := by
  refine F.ok scPick (fun vs H Q E h => ?_) (fun cdv A outer s H vs Q E hr h => ?_)
  · obtain ⟨s, c, p, xs, rfl, _⟩ := h
    rfl
  · obtain ⟨s, c, p, xs, rfl, hS, hL, n1, n2, l0, l1, q⟩ := h
    refine ⟨_, pss_one (ps_ret (pe_ix ix_list (pv 1) (pe_call G hr (by rfl) gD kD bD .nil pass0 (pa_cons (pv 0) (pa_cons (pe_callB call_len_seq (by rfl) T.zLen PySem.boot_len (pa_cons (pv 1) pa_nil)) pa_nil))) (fun _ _ => rfl))), ?_⟩
    refine ⟨.ref p, rfl, .ref s, rfl, .ref p, rfl, p, xs, rfl, .inl hL, s, c, xs.length, rfl, hS, by omega, by omega, fun H' r r0 r1 hS' k' => ?_⟩
    obtain ⟨j, rfl⟩ : ∃ j : Nat, r = (j : Int) := ⟨r.toNat, by omega⟩
    have hj : j < xs.length := by omega
    have e : xs[j]? = some xs[j] := List.getElem?_eq_getElem hj
    exact ⟨p, xs, _, _, rfl, rfl, k'.seq hL n1 n2, atI_nat e, q H' j _ e hS' k'⟩
end
end Pk
set_option Elab.async false
set_option linter.all false
set_option maxRecDepth 100000
set_option maxHeartbeats 4000000
namespace Pk
open PySem PySem.Spec PyProof.Rows L2 SX GxR Tk
abbrev sIsRes : Stmt := topS 16
abbrev sTokenize : Stmt := topS 17
abbrev sComEnd : Stmt := topS 18
abbrev sPartEnd : Stmt := topS 19
abbrev sInRun : Stmt := topS 20
abbrev sTokenOf : Stmt := topS 21
abbrev sIsNum : Stmt := topS 22
abbrev sIsDec : Stmt := topS 23
abbrev sNumVal : Stmt := topS 24
abbrev sCons : Stmt := topS 25
theorem scIsRes : FnScope ["name"] ["name"] (defScope sIsRes) := ⟨rfl, rfl, rfl, by decide +kernel, rfl, by decide +kernel, by decide +kernel⟩
theorem scTokenize : FnScope ["text", "tokens", "line", "at", "char", "end"] ["text"] (defScope sTokenize) := ⟨rfl, rfl, rfl, by decide +kernel, rfl, by decide +kernel, by decide +kernel⟩
theorem scComEnd : FnScope ["text", "at", "end"] ["text", "at"] (defScope sComEnd) := ⟨rfl, rfl, rfl, by decide +kernel, rfl, by decide +kernel, by decide +kernel⟩
theorem scPartEnd : FnScope ["text", "at", "end"] ["text", "at"] (defScope sPartEnd) := ⟨rfl, rfl, rfl, by decide +kernel, rfl, by decide +kernel, by decide +kernel⟩
theorem scInRun : FnScope ["char"] ["char"] (defScope sInRun) := ⟨rfl, rfl, rfl, by decide +kernel, rfl, by decide +kernel, by decide +kernel⟩
theorem scTokenOf : FnScope ["part", "line"] ["part", "line"] (defScope sTokenOf) := ⟨rfl, rfl, rfl, by decide +kernel, rfl, by decide +kernel, by decide +kernel⟩
theorem scIsNum : FnScope ["part", "digits"] ["part"] (defScope sIsNum) := ⟨rfl, rfl, rfl, by decide +kernel, rfl, by decide +kernel, by decide +kernel⟩
theorem scIsDec : FnScope ["part"] ["part"] (defScope sIsDec) := ⟨rfl, rfl, rfl, by decide +kernel, rfl, by decide +kernel, by decide +kernel⟩
theorem scNumVal : FnScope ["part"] ["part"] (defScope sNumVal) := ⟨rfl, rfl, rfl, by decide +kernel, rfl, by decide +kernel, by decide +kernel⟩
theorem scCons : FnScope ["part", "chars"] ["part", "chars"] (defScope sCons) := ⟨rfl, rfl, rfl, by decide +kernel, rfl, by decide +kernel, by decide +kernel⟩
/-- the constants of the program's top -/
structure Tx (K : PySem.W.Frag) (mg : Str → Option Value) : Prop where
  zInt : mg "int" = none
  zLen : mg "len" = none
  zAll : mg "all" = none
  RES : ∃ p, mg "RESERVED" = some (.ref p) ∧ TupK K p (words.map V.str)
  LNG : ∃ p, mg "LONG_SIGNS" = some (.ref p) ∧ TupK K p (longs.map V.str)
  SHT : ∃ p, mg "SHORT_SIGNS" = some (.ref p) ∧ TupK K p (shorts.map V.str)
  LET : ∃ u, mg "LETTERS" = some u ∧ RelV (.str lettersS) u
  DIG : ∃ u, mg "DIGITS" = some u ∧ RelV (.str digitsS) u
  HEX : ∃ u, mg "HEX_DIGITS" = some u ∧ RelV (.str hexS) u
  LNM : ∃ u, mg "LONGEST_NAME" = some u ∧ RelV (.int 16) u
  MDG : ∃ u, mg "MOST_DIGITS" = some u ∧ RelV (.int 10) u
  MHX : ∃ u, mg "MOST_HEX_DIGITS" = some u ∧ RelV (.int 8) u
  GRT : ∃ u, mg "GREATEST_NUMBER" = some u ∧ RelV (.int 4294967295) u
/-! ### promises -/
def spIsRes : Sp := fun vs H Q _ => ∃ x : Str, vs = [.str x] ∧ Q (.bl (decide (x ∈ words))) H
def spInRun : Sp := fun vs H Q _ => ∃ c : Nat, vs = [.str (S [c])] ∧ Q (.bl (inRun c)) H
/-- where the comment ends that begins at i -/
def comLen (t : List Nat) : Nat := (t.takeWhile (· ≠ 10)).length
def spComEnd : Sp := fun vs H Q _ => ∃ (t : List Nat) (i : Nat), vs = [.str (S t), .int i] ∧ i ≤ t.length ∧ t.length ≤ 16000000 ∧ Q (.int ((i + comLen (t.drop i) : Nat) : Int)) H
def spPartEnd : Sp := fun vs H Q _ => ∃ (t : List Nat) (i : Nat), vs = [.str (S t), .int i] ∧ i < t.length ∧ t.length ≤ 16000000 ∧ Q (.int ((i + partLen (t.drop i) : Nat) : Int)) H
def spCons (P : Addr) : Sp := fun vs H Q _ => ∃ (p : List Nat) (z : Str), vs = [.str (S p), .str z] ∧ TabG H P ∧ ∀ H', Tabbed P H H' → Q (.bl (allIn p z.cps.toList)) H'
def spIsNum (P : Addr) : Sp := fun vs H Q _ => ∃ p : List Nat, vs = [.str (S p)] ∧ p ≠ [] ∧ p.length ≤ 16000000 ∧ TabG H P ∧ ∀ H', Tabbed P H H' → Q (.bl (isNum p)) H'
/-- a number in decimal digits that is not too great -/
def isDec (p : List Nat) : Bool :=
  if p.take 1 = [48] then decide (p = [48])
  else if 1 ≤ p.length ∧ p.length ≤ 10 then allIn p digits && decide (NumText.digitsVal p ≤ 4294967295) else false
def spIsDec (P : Addr) : Sp := fun vs H Q _ => ∃ p : List Nat, vs = [.str (S p)] ∧ p.length ≤ 16000000 ∧ TabG H P ∧ ∀ H', Tabbed P H H' → Q (.bl (isDec p)) H'
theorem isDec_num {p : List Nat} (hne : p ≠ []) (hx : ¬ isHexed p = true) : isNum p = isDec p := by
  have h0 : 1 ≤ p.length := by
    cases p with
    | nil => exact absurd rfl hne
    | cons a r => rw [List.length_cons]; omega
  unfold isNum isDec
  rw [if_neg hx]
  by_cases h1 : p.take 1 = [48]
  · rw [if_pos h1, if_pos h1]
  · rw [if_neg h1, if_neg h1]
    by_cases h2 : 10 < p.length
    · rw [if_pos h2, if_neg (by omega)]
    · rw [if_neg h2, if_pos ⟨h0, by omega⟩]
def spNumVal : Sp := fun vs H Q _ => ∃ p : List Nat, vs = [.str (S p)] ∧ p ≠ [] ∧ isNum p = true ∧ Q (.int (numVal p)) H
section
variable {P : Program} {w : World} {K : PySem.W.Frag} {mg : Str → Option Value} {base : Heap}
theorem ok_isres {f : Addr} {fd : FuncData} {k : Nat} (F : Fun K "is_reserved" "is_reserved" sIsRes f fd) (T : Tx K mg) : FnOk P w K mg base CX0 (k + 1) f fd ["name"] spIsRes := by
  obtain ⟨p, gp, tp⟩ := T.RES
  refine F.ok scIsRes (fun vs H Q E h => ?_) (fun cdv A outer s H vs Q E hr h => ?_)
  · obtain ⟨x, rfl, _⟩ := h
    rfl
  · obtain ⟨x, rfl, q⟩ := h
    refine ⟨_, pss_one (ps_ret (pe_cmpR op_in_seq (pv 0) (pe_glob (v := .ref p) rfl gp rfl) (by rfl))), ?_⟩
    refine ⟨_, rfl, p, _, rfl, .inr (tp.at H), rfl, flat_strs _, ?_⟩
    show Q (.bl (inV (.str x) (words.map V.str))) H
    rw [inV_strs]
    exact q
theorem us_code : Str.ofString "_" = S [95] := by decide +kernel
theorem ok_inrun {f : Addr} {fd : FuncData} {k : Nat} (F : Fun K "in_run" "in_run" sInRun f fd) (T : Tx K mg) : FnOk P w K mg base CX0 (k + 1) f fd ["char"] spInRun := by
  obtain ⟨uL, gL, rL⟩ := T.LET
  obtain ⟨uD, gD, rD⟩ := T.DIG
  refine F.ok scInRun (fun vs H Q E h => ?_) (fun cdv A outer s H vs Q E hr h => ?_)
  · obtain ⟨x, rfl, _⟩ := h
    rfl
  · obtain ⟨c, rfl, q⟩ := h
    refine ⟨_, pss_one (ps_ret (pe_or (pe_cmpR op_in_sign (pv 0) (pe_glob rfl gL rL) (by rfl)) (pe_or (pe_cmpR op_in_sign (pv 0) (pe_glob rfl gD rD) (by rfl)) (pe_one (pe_cmpR op_eq (pv 0) pe_str (nomark _)))))), ?_⟩
    have e : inRun c = (decide (c ∈ letters) || decide (c ∈ digits) || decide (c = 95)) := rfl
    refine ⟨_, rfl, c, lettersS, rfl, rfl, _, rfl, iteD (fun h1 => ?_) fun h1 => ?_⟩
    · rw [e, decide_eq_true h1] at q
      exact q
    · refine ⟨_, rfl, c, digitsS, rfl, rfl, _, rfl, iteD (fun h2 => ?_) fun h2 => ?_⟩
      · rw [e, decide_eq_true h2, Bool.or_true] at q
        exact q
      · refine ⟨_, rfl, rfl, ?_⟩
        rw [e, decide_eq_false h1, decide_eq_false h2] at q
        rw [us_code, dcStr, dcS]
        have e2 : decide ([c] = [95]) = decide (c = 95) := by
          by_cases h : c = 95
          · rw [h]; rfl
          · rw [decide_eq_false h, decide_eq_false fun z => h (List.cons.inj z).1]
        rw [e2]
        exact q
theorem nl_code : Str.ofString "\n" = S [10] := by decide +kernel
theorem ok_comend {f : Addr} {fd : FuncData} {k : Nat} (F : Fun K "comment_end" "comment_end" sComEnd f fd) (T : Tx K mg) : FnOk P w K mg base CX0 (k + 1) f fd ["text", "at"] spComEnd := by
  refine F.ok scComEnd (fun vs H Q E h => ?_) (fun cdv A outer s H vs Q E hr h => ?_)
  · obtain ⟨t, i, rfl, _⟩ := h
    rfl
  · obtain ⟨t, i, rfl, hi, hz, q⟩ := h
    refine ⟨_, pss_cons (ps_set (i := 2) scComEnd.nd rfl (.inl rfl) (pe_bm PySem.F.plainAttrs_str PySem.F.slot_str_find PySem.F.type_str_find mt_find3 (pv 0) (pa_cons pe_str (pa_cons (pv 1) pa_nil))))
      (pss_cons (ps_if (pt_cmpR op_eq (pv 2) (pe_un un_neg pe_int) (nomark _)) (pss_one (ps_ret (pe_callB call_len_str (by rfl) T.zLen PySem.boot_len (pa_cons (pv 0) pa_nil)))) pss_nil)
      (pss_one (ps_ret (pv 2)))), ?_⟩
    refine ⟨_, rfl, rfl, _, rfl, _, _, _, rfl, rfl, ?_⟩
    rw [nl_code]
    have hl : (S t).length = t.length := S_len t
    rcases find_sign 10 hi with ⟨e1, e2⟩ | ⟨e1, e2⟩
    · rw [e1]
      refine ⟨_, rfl, 1, rfl, rfl, _, rfl, iteT ?_⟩
      refine ⟨_, rfl, _, rfl, ?_, ?_⟩
      · rw [hl, sizeLine_eq]
        omega
      · have : i + comLen (t.drop i) = t.length := by
          unfold comLen
          rw [e2, List.length_drop]
          omega
        rw [this] at q
        rw [hl]
        exact q
    · rw [e1]
      refine ⟨_, rfl, 1, rfl, rfl, _, rfl, ?_⟩
      rw [dcInt]
      exact iteDF (by omega) ⟨_, rfl, q⟩
end
end Pk
set_option Elab.async false
set_option linter.all false
set_option maxRecDepth 100000
set_option maxHeartbeats 4000000
namespace Pk
open PySem PySem.Spec PyProof.Rows L2 SX GxR Tk
section
variable {P : Program} {w : World} {K : PySem.W.Frag} {mg : Str → Option Value} {base : Heap}
theorem at_S {t : List Nat} {i : Nat} (h : i < t.length) : atI (S t).cps.toList (i : Int) = some t[i] := atI_nat (by show t[i]? = some t[i]; exact List.getElem?_eq_getElem h)
theorem drop_run (t : List Nat) (i : Nat) (h : i < t.length) : (t.drop i).takeWhile inRun = if inRun t[i] = true then t[i] :: (t.drop (i + 1)).takeWhile inRun else [] := by
  rw [List.drop_eq_getElem_cons h, List.takeWhile_cons]
theorem runLen_at {t : List Nat} {i : Nat} (h : i < t.length) (hr : inRun t[i] = true) : partLen (t.drop i) = ((t.drop i).takeWhile inRun).length := by
  unfold partLen
  rw [List.drop_eq_getElem_cons h, ← inRun_iff (r := t.drop (i + 1)), if_pos hr]
theorem ok_partend {f : Addr} {fd : FuncData} {k : Nat} (F : Fun K "part_end" "part_end" sPartEnd f fd) (T : Tx K mg) (DR : Df P w K mg base CX0 (k + 1) "in_run" ["char"] spInRun) : FnOk P w K mg base CX0 (k + 2) f fd ["text", "at"] spPartEnd := by
  obtain ⟨pl, gl, tl⟩ := T.LNG
  obtain ⟨fR, fdR, GR, gR, kR, bR⟩ := DR.ex
  refine F.ok scPartEnd (fun vs H Q E h => ?_) (fun cdv A outer s H vs Q E hr h => ?_)
  · obtain ⟨t, i, rfl, _⟩ := h
    rfl
  · obtain ⟨t, i, rfl, hi, hz, q⟩ := h
    have hl : (S t).length = t.length := S_len t
    have hsz : (S t).length ≤ sizeLine := by rw [hl, sizeLine_eq]; omega
    refine ⟨_, pss_cons (ps_if (pt_not (pt_val (pe_call GR hr (by rfl) gR kR bR .nil pass0 (pa_cons (pe_ix ix_str (pv 0) (pv 1) (fun _ _ => rfl)) pa_nil)) (by intro _; rfl)))
        (pss_cons (ps_if (pt_cmpR op_in_seq (pe_slice sl_str (pv 0) (po_some (pv 1)) (po_some (pe_op op_add (pv 1) pe_int))) (pe_glob (v := .ref pl) rfl gl rfl) (by rfl)) (pss_one (ps_ret (pe_op op_add (pv 1) pe_int))) pss_nil)
        (pss_one (ps_ret (pe_op op_add (pv 1) pe_int)))) pss_nil)
      (pss_cons (ps_set (i := 2) scPartEnd.nd rfl (.inl rfl) (pv 1))
      (pss_cons (ps_while PassesOwn.never (PW.pt (pw_and (pt_cmpR op_lt (pv 2) (pe_callB call_len_str (by rfl) T.zLen PySem.boot_len (pa_cons (pv 0) pa_nil)) (nomark _))
          (pw_and1 (pt_val (pe_call GR hr (by rfl) gR kR bR .nil pass0 (pa_cons (pe_ix ix_str (pv 0) (pv 2) (fun _ _ => rfl)) pa_nil)) (by intro _; rfl)))))
        (pss_one (ps_aug (i := 2) scPartEnd.nd rfl (.inl rfl) pe_int ip_add)))
      (pss_one (ps_ret (pv 2))))), ?_⟩
    refine ⟨_, rfl, _, rfl, _, _, _, rfl, rfl, hsz, at_S hi, _, rfl, _, rfl, ?_⟩
    cases hrun : inRun t[i] with
    | false =>
      refine iteT ?_
      refine ⟨_, rfl, _, rfl, _, rfl, _, rfl, _, _, rfl, rfl, _, rfl, _, rfl, hsz, pl, _, rfl, .inr (tl.at H), rfl, flat_strs _, ?_⟩
      have e2 : cutS (S t) (some (i : Int)) (some ((i : Int) + 2)) = S ((t.drop i).take 2) := by
        have := cut2 t i (i + 2)
        rw [show i + 2 - i = 2 by omega] at this
        exact this
      show ∃ k, V.bl (inV (.str (cutS (S t) (some (i : Int)) (some ((i : Int) + 2)))) (longs.map V.str)) = .bl k ∧ _
      rw [e2, inV_strs]
      have hp : partLen (t.drop i) = if S ((t.drop i).take 2) ∈ longs then 2 else 1 := by
        unfold partLen
        rw [List.drop_eq_getElem_cons hi, ← inRun_iff (r := t.drop (i + 1)), if_neg (by rw [hrun]; exact Bool.false_ne_true)]
      refine ⟨_, rfl, iteD (fun h => ?_) fun h => ?_⟩
      · rw [hp, if_pos h] at q
        exact ⟨_, rfl, _, _, rfl, rfl, q⟩
      · rw [hp, if_neg h] at q
        exact ⟨_, rfl, _, _, rfl, rfl, q⟩
    | true =>
      refine iteF ?_
      rw [runLen_at hi hrun] at q
      -- end: i and a part of the run
      refine ⟨_, rfl, ⟨fun m σ H' => ∃ j : Nat, m = t.length - j ∧ σ = [some (.str (S t)), some (.int i), some (.int j)] ∧ H' = H ∧ j ≤ t.length ∧ i + ((t.drop i).takeWhile inRun).length = j + ((t.drop j).takeWhile inRun).length,
        ⟨t.length - i, i, rfl, rfl, rfl, by omega, rfl⟩, ?_⟩⟩
      rintro m σ H' ⟨j, rfl, rfl, rfl, hj, ej⟩
      refine ⟨_, rfl, _, rfl, _, rfl, hsz, _, _, rfl, rfl, _, rfl, iteD (fun h => ?_) fun h => ?_⟩
      · have hj2 : j < t.length := by rw [hl] at h; omega
        refine ⟨_, rfl, _, rfl, _, _, _, rfl, rfl, hsz, at_S hj2, _, rfl, _, rfl, ?_⟩
        cases hrj : inRun t[j] with
        | true =>
          refine iteT ⟨fun σ' H'' => ∃ m', m' < t.length - j ∧ ∃ j : Nat, m' = t.length - j ∧ σ' = [some (.str (S t)), some (.int i), some (.int j)] ∧ H'' = H' ∧ j ≤ t.length ∧ i + ((t.drop i).takeWhile inRun).length = j + ((t.drop j).takeWhile inRun).length,
            fun _ _ h => h, ?_⟩
          refine ⟨_, rfl, _, _, rfl, rfl, t.length - (j + 1), by omega, j + 1, rfl, rfl, rfl, by omega, ?_⟩
          rw [ej, drop_run t j hj2, if_pos hrj, List.length_cons]
          omega
        | false =>
          refine iteF ⟨_, rfl, ?_⟩
          rw [drop_run t j hj2, if_neg (by rw [hrj]; exact Bool.false_ne_true)] at ej
          rw [ej] at q
          exact q
      · have hj2 : j = t.length := by rw [hl] at h; omega
        refine iteF ⟨_, rfl, ?_⟩
        rw [hj2, List.drop_of_length_le (Nat.le_refl _)] at ej
        rw [ej, ← hj2] at q
        exact q
/-! ### all of a text's signs among others -/
theorem ok_cons {f c Pt : Addr} {oc : Value} {od an : Option Addr} {osl : Array (Option Value)} {kV doc pm ct : Value} {k : Nat}
    (l : K.lookup f = some ⟨oc, od, .func (PySem.W.fnOf "consists_of" "consists_of" (defArgs sCons) (defBody sCons) (defScope sCons) .none kV doc pm an (.ref c) ct), osl⟩)
    (hcd : PySem.W.codeIn K (.ref c) "consists_of" = true) (T : Tx K mg) (TB : TabB base mg c Pt) :
    FnOk P w K mg base CX0 (k + 1) f (PySem.W.fnOf "consists_of" "consists_of" (defArgs sCons) (defBody sCons) (defScope sCons) .none kV doc pm an (.ref c) ct) ["part", "chars"] (spCons Pt) := by
  refine fn_of l hcd scCons (fun vs H Q E h => ?_) fun A outer s H vs Q E hr h => ?_
  · obtain ⟨p, z, rfl, _⟩ := h
    rfl
  · obtain ⟨p, z, rfl, tg, q⟩ := h
    refine ⟨_, (PSs.nox (pss_one (ps_ret (pe_allC (P := Pt) (c := c) (j := 1) hr (by rfl) T.zAll (by decide +kernel) TB rfl ⟨rfl, rfl, by decide +kernel, rfl, rfl, fun y hy e => ?fr⟩ (pv 0) rfl rfl rfl (fun cells ca h => ?clo) (by decide +kernel) (by decide +kernel) (by decide +kernel) (fun _ => rfl))))), ?_⟩
    case fr =>
      have key : ∀ y ∈ ([(Str.ofString ".0", NameKind.local), (Str.ofString "char", NameKind.local), (Str.ofString "chars", NameKind.free)] : List (Str × NameKind)), y.2 = .free → y.1 = Str.ofString "chars" := by decide +kernel
      rw [key y hy e]
      exact cell_has (sc := defScope sCons) rfl
    case clo =>
      show List.lookup (Str.ofString "chars") [(Str.ofString "chars", (List.lookup (Str.ofString "chars") cells).getD 0)] = some ca
      rw [h, List.lookup_cons, beq_self_eq_true]
      rfl
    exact ⟨_, rfl, S p, z, rfl, rfl, tg, fun H2 h2 => q H2 h2⟩
/-! ### numbers -/
theorem zx_code : Str.ofString "0x" = S [48, 120] := by decide +kernel
theorem zero_code : Str.ofString "0" = S [48] := by decide +kernel
theorem head_one {p : List Nat} (h : p ≠ []) : ∃ c r, p = c :: r := by
  cases p with
  | nil => exact absurd rfl h
  | cons c r => exact ⟨c, r, rfl⟩
theorem digit_of {c : Nat} (h : c ∈ digits) : 48 ≤ c ∧ c ≤ 57 := by
  have key : ∀ d ∈ digits, 48 ≤ d ∧ d ≤ 57 := by decide +kernel
  exact key c h
theorem all_digits {p : List Nat} (h : allIn p digits = true) : NumText.AllDigits p := fun c hc => digit_of (of_decide_eq_true (List.all_eq_true.mp h c hc))
theorem hex_of {c : Nat} (h : c ∈ hexes) : Hx.IsHex c := by
  have key : ∀ d ∈ hexes, (48 ≤ d ∧ d ≤ 57) ∨ (97 ≤ d ∧ d ≤ 102) := by decide +kernel
  rcases key c h with h | h
  · exact .inl h
  · exact .inr (.inl h)
theorem ok_numval {f : Addr} {fd : FuncData} {k : Nat} (F : Fun K "number_value" "number_value" sNumVal f fd) (T : Tx K mg) : FnOk P w K mg base CX0 (k + 1) f fd ["part"] spNumVal := by
  refine F.ok scNumVal (fun vs H Q E h => ?_) (fun cdv A outer s H vs Q E hr h => ?_)
  · obtain ⟨p, rfl, _⟩ := h
    rfl
  · obtain ⟨p, rfl, hne, hn, q⟩ := h
    refine ⟨_, pss_cons (ps_if (pt_val (pe_bm PySem.F.plainAttrs_str PySem.F.slot_str_startswith PySem.F.type_str_startswith mt_startswith (pv 0) (pa_cons pe_str pa_nil)) (by intro _; rfl))
        (pss_one (ps_ret (pe_callTy call_int_hex (by rfl) T.zInt (by decide +kernel) (pa_cons (pe_slice sl_str (pv 0) (po_some pe_int) po_none) (pa_cons pe_int pa_nil))))) pss_nil)
      (pss_one (ps_ret (pe_callTy call_int_str (by rfl) T.zInt (by decide +kernel) (pa_cons (pv 0) pa_nil)))), ?_⟩
    refine ⟨_, rfl, rfl, _, _, rfl, rfl, ?_⟩
    rw [zx_code, starts2]
    have hb : isHexed p = decide (p.take [48, 120].length = [48, 120]) := rfl
    refine ⟨_, rfl, iteD (fun h => ?_) fun h => ?_⟩
    · have hx : isHexed p = true := by rw [hb]; exact decide_eq_true h
      unfold isNum at hn
      rw [if_pos hx, Bool.and_eq_true, Bool.and_eq_true, decide_eq_true_eq, decide_eq_true_eq] at hn
      obtain ⟨⟨h1, h2⟩, h3⟩ := hn
      have hlen : p.length ≤ 10 := by rw [List.length_drop] at h2; omega
      unfold numVal at q
      rw [if_pos hx] at q
      refine ⟨_, rfl, 2, rfl, _, rfl, by rw [S_len, sizeLine_eq]; omega, p.drop 2, ?_, ?_, by omega, fun c hc => hex_of (of_decide_eq_true (List.all_eq_true.mp h3 c hc)), q⟩
      · have e := cut1f p 2
        show [V.str (cutS (S p) (some ((2 : Nat) : Int)) none), V.int 16] = _
        rw [e]
      · intro z
        rw [z] at h1
        simp at h1
    · have hx : ¬ isHexed p = true := by rw [hb, decide_eq_true_eq]; exact h
      unfold isNum at hn
      unfold numVal at q
      rw [if_neg hx] at hn q
      have hd : NumText.AllDigits p ∧ p.length ≤ 10 := by
        by_cases h0 : p.take 1 = [48]
        · rw [if_pos h0] at hn
          have e := of_decide_eq_true hn
          subst e
          exact ⟨fun c hc => by obtain rfl := List.mem_singleton.mp hc; omega, by decide⟩
        · rw [if_neg h0] at hn
          by_cases h1 : 10 < p.length
          · rw [if_pos h1] at hn
            cases hn
          · rw [if_neg h1, Bool.and_eq_true] at hn
            exact ⟨all_digits hn.1, by omega⟩
      refine ⟨_, rfl, S p, _, rfl, PySem.intText_digits (x := S p) hd.1 hne (by rw [S_len]; omega), by rw [S_len]; omega, q⟩
theorem Tabbed.refl {Pt : Addr} {H : Hp} (h : TabG H Pt) : Tabbed Pt H H := ⟨h, fun _ _ => rfl⟩
theorem iteNF {p A B : Prop} [Decidable p] (h : p) (b : B) : if (!decide p) = true then A else B := by
  rw [decide_eq_true h]
  exact b
theorem iteNT {p A B : Prop} [Decidable p] (h : ¬ p) (a : A) : if (!decide p) = true then A else B := by
  rw [decide_eq_false h]
  exact a
theorem ok_isdec {f Pt : Addr} {fd : FuncData} {k : Nat} (F : Fun K "is_decimal" "is_decimal" sIsDec f fd) (T : Tx K mg) (DC : Df P w K mg base CX0 (k + 1) "consists_of" ["part", "chars"] (spCons Pt)) : FnOk P w K mg base CX0 (k + 2) f fd ["part"] (spIsDec Pt) := by
  obtain ⟨fC, fdC, GC, gC, kC, bC⟩ := DC.ex
  obtain ⟨uD, gD, rD⟩ := T.DIG
  obtain ⟨uM, gM, rM⟩ := T.MDG
  obtain ⟨uG, gG, rG⟩ := T.GRT
  refine F.ok scIsDec (fun vs H Q E h => ?_) (fun cdv A outer s H vs Q E hr h => ?_)
  · obtain ⟨p, rfl, _⟩ := h
    rfl
  · obtain ⟨p, rfl, hz, tg, q⟩ := h
    have hsz : (S p).length ≤ sizeLine := by rw [S_len, sizeLine_eq]; omega
    refine ⟨_, pss_cons (ps_if (pt_val (pe_bm PySem.F.plainAttrs_str PySem.F.slot_str_startswith PySem.F.type_str_startswith mt_startswith (pv 0) (pa_cons pe_str pa_nil)) (by intro _; rfl)) (pss_one (ps_ret (pe_cmpR op_eq (pv 0) pe_str (nomark _)))) pss_nil)
      (pss_cons (ps_if (PW.pt (pw_or (pt_not (pt_chain op_le op_le pe_int (pe_callB call_len_str (by rfl) T.zLen PySem.boot_len (pa_cons (pv 0) pa_nil)) (pe_glob rfl gM rM)))
          (pw_or1 (pt_not (pt_val (pe_call GC hr (by rfl) gC kC bC .nil pass0 (pa_cons (pv 0) (pa_cons (pe_glob rfl gD rD) pa_nil))) (by intro _; rfl))))))
        (pss_one (ps_ret pe_bl)) pss_nil)
      (pss_one (ps_ret (pe_cmpR op_le (pe_callTy call_int_str (by rfl) T.zInt (by decide +kernel) (pa_cons (pv 0) pa_nil)) (pe_glob rfl gG rG) (nomark _))))), ?_⟩
    refine ⟨_, rfl, rfl, _, _, rfl, rfl, ?_⟩
    rw [zero_code, starts2]
    refine ⟨_, rfl, iteD (fun h0 => ?_) fun h0 => ?_⟩
    · have := q H (Tabbed.refl tg)
      have h0' : p.take 1 = [48] := h0
      unfold isDec at this
      rw [if_pos h0'] at this
      refine ⟨_, rfl, rfl, ?_⟩
      rw [dcStr, dcS]
      exact this
    · have h0' : ¬ p.take 1 = [48] := h0
      have e1 : isDec p = if 1 ≤ p.length ∧ p.length ≤ 10 then allIn p digits && decide (NumText.digitsVal p ≤ 4294967295) else false := if_neg h0'
      refine ⟨_, rfl, _, rfl, hsz, _, _, rfl, rfl, _, rfl, ?_⟩
      have hlI : (((S p).length : Nat) : Int) = (p.length : Int) := by rw [S_len]
      rw [hlI]
      by_cases h1 : 1 ≤ p.length
      · refine iteDT (by omega) ⟨_, _, rfl, rfl, _, rfl, ?_⟩
        by_cases h2 : p.length ≤ 10
        · have e2 := e1.trans (if_pos ⟨h1, h2⟩)
          refine iteNF (show ((p.length : Nat) : Int) ≤ 10 by omega) ⟨_, rfl, p, digitsS, rfl, tg, fun H' hH => ⟨_, rfl, ?_⟩⟩
          have q2 := q H' hH
          cases ha : allIn p digits with
          | false =>
            refine iteT ?_
            rw [e2, ha] at q2
            exact q2
          | true =>
            refine iteF ?_
            rw [e2, ha, Bool.true_and] at q2
            refine ⟨_, rfl, S p, _, rfl, PySem.intText_digits (x := S p) (all_digits ha) (by rintro rfl; exact absurd h1 (by decide)) (by rw [S_len]; omega), by rw [S_len]; omega, _, _, rfl, rfl, ?_⟩
            have e4 : decide (((NumText.digitsVal p : Nat) : Int) ≤ 4294967295) = decide (NumText.digitsVal p ≤ 4294967295) := by
              rw [Bool.eq_iff_iff, decide_eq_true_eq, decide_eq_true_eq]
              omega
            show Q (.bl (decide (((NumText.digitsVal p : Nat) : Int) ≤ 4294967295))) H'
            rw [e4]
            exact q2
        · have e2 := e1.trans (if_neg fun z => h2 z.2)
          refine iteNT (show ¬ ((p.length : Nat) : Int) ≤ 10 by omega) ?_
          have := q H (Tabbed.refl tg)
          rw [e2] at this
          exact this
      · have e2 := e1.trans (if_neg fun z => h1 z.1)
        refine iteDF (by omega) ⟨_, rfl, iteT ?_⟩
        have := q H (Tabbed.refl tg)
        rw [e2] at this
        exact this
theorem ok_isnum {f Pt : Addr} {fd : FuncData} {k : Nat} (F : Fun K "is_number" "is_number" sIsNum f fd) (T : Tx K mg) (DC : Df P w K mg base CX0 (k + 1) "consists_of" ["part", "chars"] (spCons Pt)) (DD : Df P w K mg base CX0 (k + 2) "is_decimal" ["part"] (spIsDec Pt)) : FnOk P w K mg base CX0 (k + 3) f fd ["part"] (spIsNum Pt) := by
  obtain ⟨fC, fdC, GC, gC, kC, bC⟩ := DC.ex
  obtain ⟨fD, fdD, GD, gD, kD, bD⟩ := DD.ex
  obtain ⟨uH, gH, rH⟩ := T.HEX
  obtain ⟨uX, gX, rX⟩ := T.MHX
  refine F.ok scIsNum (fun vs H Q E h => ?_) (fun cdv A outer s H vs Q E hr h => ?_)
  · obtain ⟨p, rfl, _⟩ := h
    rfl
  · obtain ⟨p, rfl, hne, hz, tg, q⟩ := h
    have hsz : ∀ l : List Nat, l.length ≤ p.length → (S l).length ≤ sizeLine := fun l hl => by rw [S_len, sizeLine_eq]; omega
    have hrC : Room (k + 1) _ := hr.mono (by omega)
    refine ⟨_, pss_cons (ps_if (pt_val (pe_bm PySem.F.plainAttrs_str PySem.F.slot_str_startswith PySem.F.type_str_startswith mt_startswith (pv 0) (pa_cons pe_str pa_nil)) (by intro _; rfl))
        (pss_cons (ps_set (i := 1) scIsNum.nd rfl (.inl rfl) (pe_slice sl_str (pv 0) (po_some pe_int) po_none))
        (pss_one (ps_ret (pe_and (pe_chain op_le op_le pe_int (pe_callB call_len_str (by rfl) T.zLen PySem.boot_len (pa_cons (pv 1) pa_nil)) (pe_glob rfl gX rX))
          (pe_one (pe_call GC hrC (by rfl) gC kC bC .nil pass0 (pa_cons (pv 1) (pa_cons (pe_glob rfl gH rH) pa_nil)))))))) pss_nil)
      (pss_one (ps_ret (pe_call GD hr (by rfl) gD kD bD .nil pass0 (pa_cons (pv 0) pa_nil)))), ?_⟩
    refine ⟨_, rfl, rfl, _, _, rfl, rfl, ?_⟩
    rw [zx_code, starts2]
    have hb : isHexed p = decide (p.take [48, 120].length = [48, 120]) := rfl
    refine ⟨_, rfl, iteD (fun h => ?_) fun h => ?_⟩
    · have hx : isHexed p = true := by rw [hb]; exact decide_eq_true h
      have e : isNum p = (decide (1 ≤ (p.drop 2).length) && decide ((p.drop 2).length ≤ 8) && allIn (p.drop 2) hexes) := if_pos hx
      have e2 : cutS (S p) (some (2 : Int)) none = S (p.drop 2) := cut1f p 2
      have hl2 : (p.drop 2).length ≤ p.length := by rw [List.length_drop]; omega
      refine ⟨_, rfl, 2, rfl, _, rfl, hsz p (Nat.le_refl _), ?_⟩
      rw [e2]
      refine ⟨_, rfl, _, rfl, hsz _ hl2, _, _, rfl, rfl, _, rfl, ?_⟩
      have hlI : (((S (p.drop 2)).length : Nat) : Int) = ((p.drop 2).length : Int) := by rw [S_len]
      rw [hlI]
      by_cases h1 : 1 ≤ (p.drop 2).length
      · refine iteDT (by omega) ⟨_, _, rfl, rfl, _, rfl, ?_⟩
        by_cases h2 : (p.drop 2).length ≤ 8
        · refine iteDT (by omega) ⟨_, rfl, p.drop 2, hexS, rfl, tg, fun H' hH => ?_⟩
          have := q H' hH
          rw [e, decide_eq_true h1, decide_eq_true h2] at this
          exact this
        · refine iteDF (by omega) ?_
          have := q H (Tabbed.refl tg)
          rw [e, decide_eq_true h1, decide_eq_false h2] at this
          exact this
      · refine iteDF (by omega) ⟨_, rfl, iteF ?_⟩
        have := q H (Tabbed.refl tg)
        rw [e, decide_eq_false h1] at this
        exact this
    · have hx : ¬ isHexed p = true := by rw [hb, decide_eq_true_eq]; exact h
      refine ⟨_, rfl, p, rfl, hz, tg, fun H' hH => ?_⟩
      have := q H' hH
      rw [isDec_num hne hx] at this
      exact this
end
end Pk
set_option Elab.async false
set_option linter.all false
set_option maxRecDepth 100000
set_option maxHeartbeats 4000000
namespace PySem
namespace ErX
open PySem.W PySem.Calls PyProof.Rows PySem.HandSPX
/-! ### the text of an own error's __init__: super().__init__(f"pre{l}"), self.l = l -/
structure Ps where
  (a1 a2 b1 b2 b3 b4 b5 b6 b7 b8 b9 c1 c2 c3 c4 : Pos)
def iA (l : Str) (p : Ps) : Arguments := { posonlyargs := [], args := [{ arg := "self", annotation := none, pos := p.a1 }, { arg := l, annotation := none, pos := p.a2 }], vararg := none, kwonlyargs := [], kw_defaults := [], kwarg := none, defaults := [] }
def iC (l pre : Str) (p : Ps) : Expr := .Call (.Attribute (.Call (.Name "super" p.b1) [] [] p.b2) "__init__" p.b3) [.JoinedStr [.Constant (.str pre) 0 p.b4, .FormattedValue (.Name l p.b5) (-1) none p.b6] p.b7] [] p.b8
def iB (l pre : Str) (p : Ps) : List Stmt := [.Expr (iC l pre p) p.b9, .Assign [.Attribute (.Name "self" p.c1) l p.c2] (.Name l p.c3) p.c4]
def iS (l : Str) : Scope := { kind := .function, names := [(PySem.Str.ofString "self", .local), (l, .local), (PySem.Str.ofString "__class__", .free), (PySem.Str.ofString "super", .globalImplicit)], isGenerator := false, isCoroutine := false, more := [] }
/-- a text or an int, short -/
def VOk (v : Value) : Prop := (∃ y t, v = .str y t ∧ y.length ≤ 1000000) ∨ ∃ (i : Int) (t : PySem.Tok), v = .int i t ∧ i.natAbs.log2 < 1900
/-- what __init__ leaves of a fresh exception at x -/
structure InitEnd (h h' : Heap) (x C dx t1 : Addr) (l : Str) (v : Value) : Prop where
  keep : ∀ b o, b ≠ x → h.get? b = some o → h'.get? b = some o
  obj : h'.get? x = some { cls := .ref C, dict := some dx, data := .fields #[.ref t1, .none, .none, .none, .bool false, .none] }
  dbig : h.objs.size ≤ dx
  dne : dx ≠ x
  ns : h'.Ns1 dx (fun y => if y = l then some v else none)
structure ClsTxt (K : Frag) (C : Addr) : Prop where
  cls : ∃ nm q N bs bm sn sub ab col dd k0 k1 k2 k3 k5, K.lookup C = some (excClassObj nm q C N bs bm true sn sub ab col dd k0 k1 k2 k3 k5 "ValueError.__new__") ∧ refsVE bm = true
  sa : findIn K (.ref C) "__setattr__" = some (some (.builtin "object.__setattr__"))
  kC : keepIn K (.ref C) = true
  exC : subIn K (.ref C) (.type "BaseException") = some true
  veC : subIn K (.ref C) (.type "ValueError") = some true
  tyC : typeIn K (.ref C) = some (.type "type")
/-- the written part of such a def, at fI, of the class at C -/
structure InitTxt (prog : Program) (K : Frag) (C fI : Addr) (l pre qual : Str) : Prop where
  cls : ClsTxt K C
  noN : findIn K (.ref C) l = some none
  su : ks_superIn K C C "__init__" = some (some (.builtin "ValueError.__init__"))
  mrC : mroIn K C (.ref C) = some true
  iC : findIn K (.ref C) "__init__" = some (some (.ref fI))
  tC : typeIn K (.ref fI) = some (.type "function")
  tp : nsIn K cStatics "thirdparty.any" = some none
  top : (prog.main.scope.names.lookup ("super" : Str)).isSome = false
  fn : ∃ (oc : Value) (od : Option Addr) (doc pm : Value) (an : Option Addr) (cda cc : Addr) (ct : Value) (osl : Array (Option Value)) (p : Ps), (p.b3.endLine == p.b8.line) = true ∧
    K.lookup fI = some ⟨oc, od, .func (ksFn "__init__" qual (iA l p) (iB l pre p) (iS l) .none .none doc pm an (.ref cda) ct cc), osl⟩ ∧ codeIn K (.ref cda) qual = true ∧
    (∃ (ccl : Value) (cdd : Option Addr) (vs : Array Value) (ccs : Array (Option Value)) (file : Str) (tf : PySem.Tok), K.lookup cda = some ⟨ccl, cdd, .fields vs, ccs⟩ ∧ vs[2]? = some (.str file tf) ∧ ((prog.main.file : Str) == file) = true) ∧
    ∃ (cl : Value) (cld : Option Addr) (csl : Array (Option Value)), K.lookup cc = some ⟨cl, cld, .cell (some (.ref C)), csl⟩
theorem lt_size_of {n : Nat} (h : n ≤ 1000000 + 10) : n ≤ sizeLine := by rw [sizeLine_eq]; omega
section
variable {prog : Program} {w : World} {A : Around} {E : Value → Shared → Prop} {s : Shared} {h₀ : Heap} {Q : Value → Shared → Prop}
/-- super().__init__ bound to the exception at x, called -/
theorem call_mw {K : Frag} {C u x t0 : Addr} {rest : List Value} (T : ClsTxt K C) {h : Heap} {g : Array GenState} {d : Drawn} {t : Nat} {os : OsState} (X : K.In h) (hx : h.get? x = some (excO C t0)) (hu : h.get? u = some (kxs_mw "ValueError.__init__" x)) (hz : rest.length ≤ sizeLine)
    (hq : ∀ h' t1, (∀ b o, b ≠ x → h.get? b = some o → h'.get? b = some o) → h.objs.size ≤ h'.objs.size → h'.get? x = some (excO C t1) → Q .none ⟨h', g, d, t, os⟩) :
    wpAny (model prog w) A (call (.ref u) rest) Q E ⟨h, g, d, t, os⟩ := by
  obtain ⟨nm, q, N, bs, bm, sn, sub, ab, col, dd, k0, k1, k2, k3, k5, hC, hbm⟩ := T.cls
  refine wpAny_call (codeAny_of_tree ?_)
  show wpAny _ A.in1 (callAny (.ref u) ⟨rest, []⟩) _ _ _
  simp only [callAny]
  refine wpAny_bind (wpAny_load hu ?_)
  simp only [kxs_mw, show (Value.type "method-wrapper" == Value.type "method" || Value.type "method-wrapper" == Value.type "builtin_function_or_method" || Value.type "method-wrapper" == Value.type "method-wrapper") = true by decide, if_true]
  refine KFB.if_so (by decide) ?_
  refine wpAny_bind (check_bound_init F.excBase_ValueError.toExcCallFacts (X _ _ hC) hx rfl ?_)
  refine wpAny_bind (wpAny_pure (wpAny_pure ?_))
  refine ⟨plainId_quiet F.excBase_ValueError.init.plain _, codeAny_builtin F.excBase_ValueError.initEntry ?_⟩
  refine exc_init_tree (cls := .ref C) (t0 := t0) (dv := none) (c2 := .none) (c3 := .none) (b4 := .bool false) hx hz fun h' k e te => ?_
  exact hq h' _ k (Nat.le_of_lt (Heap.lt_size te)) e
/-- the text of the error -/
theorem ev_txt {env : Env} {l pre : Str} {p5 p6 p7 p4 : Pos} {v : Value} {m : Str → Option Value} {L : Addr} (hL : env.locals = L) (hn : s.heap.Ns L m) (hm : m l = some v) (hv : VOk v) (hpre : pre.length ≤ 10)
    (hk : env.scope.kind = .function) (hl : env.kindOf l = some .local) (hd : (l == ("__debug__" : Str)) = false) (h : ∀ y t t', Q (.str y t) { s with toks := t' }) :
    wpAny (model prog w) A (eval (.JoinedStr [.Constant (.str pre) 0 p4, .FormattedValue (.Name l p5) (-1) none p6] p7) env) Q E s := by
  subst hL
  refine wpAny_JoinedStr ?_
  show Joins _ _ _ [eval (.Constant (.str pre) 0 p4) env, eval (.FormattedValue (.Name l p5) (-1) none p6) env] _ _ _
  have le : (Str.empty : Str).length = 0 := rfl
  have hz0 : (Str.empty ++ pre).length ≤ sizeLine := by
    rw [Str.length_append, le, sizeLine_eq]
    omega
  refine Calls.Constant_str ⟨pre, _, rfl, hz0, ?_⟩
  refine wpAny_FormattedValue_plain (wpAny_Name (wpAny_loadName_local hk hl hn hm ?_) hd)
  have key : ∀ (y : Str) (t t' : Nat), y.length ≤ 1000000 → ∃ (y' : Str) (t2 : PySem.Tok), Value.str y t = .str y' t2 ∧ (Str.empty ++ pre ++ y').length ≤ sizeLine ∧ Joins (model prog w) A E [] (Str.empty ++ pre ++ y') (fun out s₁ => out.length ≤ sizeLine ∧ Q (.str out s₁.toks) { s₁ with toks := s₁.toks + 1 }) { s with toks := t' } := fun y t t' hy => by
    have hz : (Str.empty ++ pre ++ y).length ≤ sizeLine := by
      rw [Str.length_append, Str.length_append, le, sizeLine_eq]
      omega
    exact ⟨y, t, rfl, hz, hz, h _ _ _⟩
  rcases hv with ⟨y, t, rfl, hy⟩ | ⟨i, t, rfl, hi⟩
  · exact wpAny_formatField_str (key y t _ hy) (key y _ _ hy) (by rw [sizeLine_eq]; omega)
  · refine wpAny_formatField_int (by omega) (key (toString i) _ _ ?_)
    have e := int_text_length_le (k := 1920) (by decide) (a := i) (by omega)
    show (Str.ofString (toString i)).length ≤ _
    rw [ofString_length]
    omega
theorem env_kind {q : Str} {l : Str} {L a : Addr} {cd : Value} {cc : Addr} {x : Str} : (ksEnv q (iS l) L a cd cc).kindOf x = (iS l).names.lookup x := rfl
end
end ErX
end PySem
set_option Elab.async false
set_option linter.all false
set_option maxRecDepth 100000
set_option maxHeartbeats 4000000
namespace PySem
namespace ErX
open PySem.W PySem.Calls PyProof.Rows PySem.HandSPX
theorem no_cell {l : Str} : ∀ y ∈ (iS l).names, y.2 ≠ NameKind.cell := by
  intro y hy
  simp only [iS, List.mem_cons, List.not_mem_nil, or_false] at hy
  rcases hy with rfl | rfl | rfl | rfl <;> exact fun z => by cases z
theorem loc_all {l : Str} {a b : Value} (hl : l = "line" ∨ l = "rule" ∨ l = "reason") : ∀ y ∈ [((PySem.Str.ofString "self" : Str), a), (l, b)], (iS l).names.lookup y.1 = some NameKind.local := by
  intro y hy
  rcases List.mem_cons.mp hy with rfl | hy
  · rfl
  · obtain rfl := List.mem_singleton.mp hy
    rcases hl with rfl | rfl | rfl <;> rfl
theorem he_call {l pre : Str} {p : Ps} {env : Env} (h : (p.b3.endLine == p.b8.line) = true) : eval (iC l pre p) env = (do
      let ov ← attributeBase (.Call (.Name "super" p.b1) [] [] p.b2) "__init__" env (eval (.Call (.Name "super" p.b1) [] [] p.b2) env)
      standAt p.b3.atName
      let (f, first) ← holding [ov] (getMethod ov "__init__" (do return (← importBound (.Call (.Name "super" p.b1) [] [] p.b2) env).getD true))
      callWith p.b8 f first (backTo p.b8 (starEach [.JoinedStr [.Constant (.str pre) 0 p.b4, .FormattedValue (.Name l p.b5) (-1) none p.b6] p.b7] env)) []) := by
  unfold iC
  rw [arm_eval_Call]
  have e : ∀ ov, methodCall (.Call (.Name "super" p.b1) [] [] p.b2) "__init__" p.b3 p.b8 env ov 1 (backTo p.b8 (starEach [.JoinedStr [.Constant (.str pre) 0 p.b4, .FormattedValue (.Name l p.b5) (-1) none p.b6] p.b7] env)) [] = (do
      let (f, first) ← holding [ov] (getMethod ov "__init__" (do return (← importBound (.Call (.Name "super" p.b1) [] [] p.b2) env).getD true))
      callWith p.b8 f first (backTo p.b8 (starEach [.JoinedStr [.Constant (.str pre) 0 p.b4, .FormattedValue (.Name l p.b5) (-1) none p.b6] p.b7] env)) []) := fun ov => by
    unfold methodCall
    have hform : methodCallForm 1 (backTo p.b8 (starEach [.JoinedStr [.Constant (.str pre) 0 p.b4, .FormattedValue (.Name l p.b5) (-1) none p.b6] p.b7] env)) [] = true := rfl
    have hpos : methodCallPos true (.Call (.Name "super" p.b1) [] [] p.b2) env p.b3 p.b8 = pure p.b8 := by
      unfold methodCallPos
      rw [h]
      rfl
    rw [hform, hpos]
    rfl
  have e2 := funext e
  show (attributeBase _ _ _ _ >>= fun ov => standAt _ >>= fun _ => methodCall _ _ _ _ _ ov 1 _ []) = _
  simp only [e]
section
variable {prog : Program} {w : World} {A : Around} {R : Result → Shared → Prop} {K : Frag} {C fI : Addr} {l pre qual : Str}
theorem err_init {h₀ : Heap} {g : Array GenState} {d : Drawn} {t : Nat} {os : OsState} {mg mb : Str → Option Value} (T : InitTxt prog K C fI l pre qual) (hl : l = "line" ∨ l = "rule" ∨ l = "reason") (hpre : pre.length ≤ 10) {x t0 : Addr} {v : Value} (X : K.In h₀) (hlim : h₀.NoLimit) (hg : h₀.Ns mainGlobals mg) (hmg : mg "super" = none) (hb : h₀.Ns builtinsNs mb) (hmb : mb "super" = some (.type "super"))
    (hx : h₀.get? x = some (excO C t0)) (hnx : K.lookup x = none) (hroom : A.depth < recursionLimit) (hv : VOk v)
    (hq : ∀ h' tk dx t1, InitEnd h₀ h' x C dx t1 l v → R (.ok (.ret .none)) ⟨h', g, d, tk, os⟩) :
    codeAny (model prog w) A (.call (.ref fI) ⟨[.ref x, v], []⟩) R ⟨h₀, g, d, t, os⟩ := by
  obtain ⟨oc, od, doc, pm, an, cda, cc, ct, osl, p, hp, ho, hcd, ⟨ccl, cdd, vs, ccs, file, tf, hcode, hvs, hfile⟩, cl, cld, csl, hcell⟩ := T.fn
  obtain ⟨nm, q, N, bs, bm, sn, sub, ab, col, dd, k0, k1, k2, k3, k5, hC, hbm⟩ := T.cls.cls
  have hcl : clsIn K C = some { name := nm, bases := bs, mro := .ref C :: bm, ns := N, qualname := q, hasDict := true, slotNames := sn, subclasses := sub, abstract := ab, collection := col, hasDel := false } := by unfold clsIn; rw [hC] <;> rfl
  have hno := T.noN
  have hsu : alongIn K "__init__" (((Value.ref C :: bm).dropWhile (· != .ref C)).drop 1) = some (some (.builtin "ValueError.__init__")) := by
    have z := T.su
    unfold ks_superIn at z
    rw [hcl] at z
    exact z
  have xC : x ≠ C := fun z => by
    rw [z, X _ _ hC] at hx
    cases hx
  rcases hl with rfl | rfl | rfl
  all_goals
    refine ks_codeAny_call_defAt (fd := ksFn "__init__" qual (iA _ p) (iB _ pre p) (iS _) .none .none doc pm an (.ref cda) ct cc) (body := iB _ pre p) (binds := [("self", .ref x), (_, v)]) hroom (X _ _ ho) rfl hlim (codeRec_of X hcd) rfl (BindsTo.of_eq (by first | rfl | with_unfolding_all rfl)) no_cell (loc_all (by first | exact Or.inl rfl | exact Or.inr (Or.inl rfl) | exact Or.inr (Or.inr rfl))) (fun h₁ hns hk₁ => ?_) rfl rfl rfl
    have X₁ := X.keeps hk₁
    have hx₁ := hk₁ _ _ hx
    have s1 : h₀.objs.size < h₁.objs.size := hns.lt
    have hxL : x ≠ h₀.objs.size := Nat.ne_of_lt (Heap.lt_size hx)
    refine ks_wpAt_execs_cons (ks_wpAt_Expr_any (ks_wpAt_MethodCall ?_ (he_call hp)))
    refine ks_wpAt_super_base (ar := { arg := "self", annotation := none, pos := p.a1 }) rfl rfl rfl rfl (X₁ _ _ ho) rfl rfl rfl (X₁ _ _ hcode) rfl hvs hfile T.top ?_
    refine ks_loadName_global rfl rfl (loadGlobal_builtin (hg.keeps hk₁) hmg (hb.keeps hk₁) hmb ⟨rfl, ?_⟩)
    refine wpAny_loadName_free rfl rfl rfl ⟨_, X₁ _ _ hcell, rfl⟩ ?_
    refine wpAny_loadName_local rfl rfl hns (v := .ref x) (by first | rfl | with_unfolding_all rfl | kernel_rfl) ?_
    refine ks_wpAny_isType_cls (X₁ _ _ hC) rfl ⟨rfl, ?_⟩
    refine ks_wpAny_call_super (X₁ _ _ hC) rfl hx₁ rfl (fun c e => by cases e) (looks_mroIn X₁ T.mrC) (fun h₂ e₂ k₂ => ?_)
    have X₂ := X₁.keeps k₂
    have hx₂ := k₂ _ _ hx₁
    have I₂ : InstAt h₂ x (excO C t0) C none := ⟨hx₂, rfl, rfl, trivial⟩
    refine kxs_getMethod kxs_ValueError e₂ (looks_opaque X₂ T.tp) (l₀ := .ref C :: bm) ((looks_clsIn X₂ hcl).andThen .now) rfl X₂ hsu (I₂.type.andThen (looks_subIn X₂ T.cls.veC)) xC rfl ?_
    have hns₂ := hns.keeps k₂
    have k₃ : ∀ b o, h₂.get? b = some o → (h₂.push (kxs_mw "ValueError.__init__" x)).get? b = some o := fun b o e => Heap.get?_push_of_some _ e
    refine kxs_callWith (i := "ValueError.__init__") (x := x) rfl ?_
    refine evalArgs_plain (spliced_cons ?_)
    refine ev_txt (pre := pre) (p4 := p.b4) (p5 := p.b5) (p6 := p.b6) (p7 := p.b7) (m := fun y => List.lookup y (List.reverse [("self", .ref x), (_, v)])) rfl (hns₂.keeps k₃) (by first | rfl | with_unfolding_all rfl | kernel_rfl) hv hpre rfl rfl (by decide) fun y ty tk => ?_
    refine spliced_nil ⟨Heap.get?_push_at rfl rfl, ?_⟩
    refine call_mw T.cls (X₂.keeps k₃) (k₃ _ _ hx₂) (Heap.get?_push_at rfl rfl) (by rw [sizeLine_eq]; exact (by decide : 1 ≤ 16777216)) fun h₄ t4 k₄ z₄ hx₄ => ?_
    show wpAt _ _ _ _ _ _ _
    have kx : ∀ b o, b ≠ x → h₁.get? b = some o → h₄.get? b = some o := fun b o hb e => k₄ b o hb (k₃ _ _ (k₂ _ _ e))
    have hns₄ := hns.at (h' := h₄) fun o e => kx _ o hxL.symm e
    have X₄ : K.In h₄ := fun b o e => kx b o (fun z => by rw [z, hnx] at e; cases e) (X₁ b o e)
    refine ks_wpAt_execs_cons (ks_wpAt_Assign_Attr (wpAt_of_wpAny ?_))
    refine wpAny_Name (wpAny_loadName_local rfl rfl hns₄ (v := v) (by first | rfl | with_unfolding_all rfl | kernel_rfl) ?_) (by decide)
    refine wpAny_Name (wpAny_loadName_local rfl rfl hns₄ (v := .ref x) (by first | rfl | with_unfolding_all rfl | kernel_rfl) ?_) (by decide)
    refine set_plain X₄ (ox := excO C t4) (od := none) ⟨hx₄, rfl, rfl, trivial⟩ T.cls.sa ?_
    refine exc_osa X₄ hx₄ hcl (show refsVE (.ref C :: bm) = true from hbm) rfl hno (fun h₅ tk₅ dx k₅ dn dne hx₅ hn₅ => ?_)
    show wpAt _ _ _ (execs [] _) _ _ _
    refine wpAt_of_wpAny (wpAny_execs_nil ?_)
    have z4 : h₀.objs.size < h₄.objs.size := hns₄.lt
    exact hq h₅ tk₅ dx _ ⟨fun b o hb e => k₅ b o hb (kx b o hb (hk₁ b o e)), hx₅, Nat.le_of_lt (Nat.lt_of_lt_of_le z4 dn), dne, hn₅⟩
end
end ErX
end PySem
set_option Elab.async false
set_option linter.all false
set_option maxRecDepth 100000
set_option maxHeartbeats 4000000
namespace PySem
namespace ErX
open PySem.W PySem.Calls PyProof.Rows PySem.HandSPX
/-- a made error of the class at C -/
structure OwnMade (h h' : Heap) (e C d : Addr) (l : Str) (v : Value) : Prop where
  keep : ∀ b o, h.get? b = some o → h'.get? b = some o
  new : h.objs.size ≤ e
  obj : ∃ oe vs, h'.get? e = some oe ∧ oe.cls = .ref C ∧ oe.dict = some d ∧ oe.data = .fields vs ∧ vs[1]? = some .none
  dbig : h.objs.size ≤ d
  dne : d ≠ e
  ns : h'.Ns1 d (fun y => if y = l then some v else none)
section
variable {prog : Program} {w : World} {A : Around} {R : Result → Shared → Prop} {K : Frag} {C fI : Addr} {l pre qual : Str}
theorem err_made {h₀ : Heap} {g : Array GenState} {dr : Drawn} {t : Nat} {os : OsState} {mg mb : Str → Option Value} (T : InitTxt prog K C fI l pre qual) (hl : l = "line" ∨ l = "rule" ∨ l = "reason") (hpre : pre.length ≤ 10) {v : Value} (X : K.In h₀) (hlim : h₀.NoLimit) (hg : h₀.Ns mainGlobals mg) (hmg : mg "super" = none) (hb : h₀.Ns builtinsNs mb) (hmb : mb "super" = some (.type "super"))
    (hroom : A.depth + 1 < recursionLimit) (hv : VOk v)
    (hq : ∀ h' tk e d, OwnMade h₀ h' e C d l v → R (.ok (.ret (.ref e))) ⟨h', g, dr, tk, os⟩) :
    codeAny (model prog w) A (.call (.ref C) ⟨[v], []⟩) R ⟨h₀, g, dr, t, os⟩ := by
  obtain ⟨nm, q, N, bs, bm, sn, sub, ab, col, dd, k0, k1, k2, k3, k5, hC, hbm⟩ := T.cls.cls
  have k : ∀ b o, h₀.get? b = some o → ((h₀.push (kdv_tup [v])).push (excO C h₀.objs.size)).get? b = some o := fun b o e => Heap.get?_push_of_some _ (Heap.get?_push_of_some _ e)
  have hget : ((h₀.push (kdv_tup [v])).push (excO C h₀.objs.size)).get? (h₀.objs.size + 1) = some (excO C h₀.objs.size) := by heap_get
  have hnx : K.lookup (h₀.objs.size + 1) = none := by
    cases e : K.lookup (h₀.objs.size + 1) with
    | none => rfl
    | some o =>
      have z : h₀.get? (h₀.objs.size + 1) = some o := X _ _ e
      exact absurd (Nat.lt_of_succ_lt (Heap.lt_size z)) (Nat.lt_irrefl _)
  refine call_own F.excBase_ValueError (fun X => refsVE_contains X bm hbm) (X _ _ hC) (looks_findIn X T.iC) (fun self => bind_fn X self T.tC) (by rw [sizeLine_eq]; exact (by decide : 1 ≤ 16777216)) ?_
  refine err_init T hl hpre (X.keeps k) (hlim.keeps k) (hg.keeps k) hmg (hb.keeps k) hmb hget hnx ?_ hv fun h' tk' dx t1 ⟨k', hx, dn, dne, hns⟩ => ?_
  · show A.depth + 1 < recursionLimit
    exact hroom
  · have old : ∀ b o, h₀.get? b = some o → h'.get? b = some o := fun b o e => k' b o (Nat.ne_of_lt (Nat.lt_succ_of_lt (Heap.lt_size e))) (k b o e)
    have z : h₀.objs.size + 1 + 1 ≤ dx := by
      first
        | (simpa only [Heap.size_push] using dn)
        | exact dn
        | (have q := dn; rw [Heap.size_push, Heap.size_push] at q; exact q)
    exact ⟨rfl, hq h' tk' (h₀.objs.size + 1) dx ⟨old, Nat.le_succ _, ⟨_, _, hx, rfl, rfl, rfl, rfl⟩, Nat.le_trans (Nat.le_trans (Nat.le_succ _) (Nat.le_succ _)) z, dne, hns⟩⟩
end
end ErX
end PySem
namespace L2
open PySem PySem.Spec PyProof.Rows PySem.ErX
theorem relO_one {l : Str} {v : V} {v' : Value} (r : RelV v v') (f : Str) : RelO (List.lookup f [(l, v)]) (if f = l then some v' else none) := by
  by_cases hw : f = l
  · subst hw
    rw [if_pos rfl]
    have q : List.lookup f [(f, v)] = some v := by simp [List.lookup]
    rw [q]
    exact r
  · rw [if_neg hw]
    have qw : (f == l) = false := by simpa using hw
    have q2 : List.lookup f [(l, v)] = none := by simp [List.lookup, qw]
    rw [q2]
    trivial
/-- a short text or an int, as an error holds it -/
def EV (v : V) : Prop := (∃ y : Str, v = .str y ∧ y.length ≤ 1000000) ∨ ∃ i : Int, v = .int i ∧ i.natAbs.log2 < 1900
theorem EV.vok {v : V} {u : Value} (h : EV v) (r : RelV v u) : VOk u := by
  rcases h with ⟨y, rfl, hy⟩ | ⟨i, rfl, hi⟩
  · obtain ⟨t, rfl⟩ := r
    exact Or.inl ⟨y, t, rfl, hy⟩
  · obtain ⟨t, rfl⟩ := r
    exact Or.inr ⟨i, t, rfl, hi⟩
/-- what the written part says of an own error with one field -/
structure ErT (prog : Program) (K : PySem.W.Frag) (mg : Str → Option Value) (x : Str) (C : Addr) (l : Str) : Prop where
  ex : ∃ (fI : Addr) (pre qual : Str), InitTxt prog K C fI l pre qual ∧ pre.length ≤ 10
  gC : mg x = some (.ref C)
  gS : mg "super" = none
  hl : l = "line" ∨ l = "rule" ∨ l = "reason"
section
variable {X : Cx} {C : Addr} {l : Str}
/-- C(e) -/
def tMkE (C : Addr) (l : Str) (ta : TA) : St → Hp → XK → Prop := fun σ H Q => ta σ H fun vs H1 => ∃ v, vs = [v] ∧ EV v ∧ ∀ d, H1 d = none → Q (.ref C) (some d) (upd H1 d (.xd [(l, v)]))
theorem pmk_err {a : Expr} {ta : TA} {x : Str} {p pos : Pos} {k : Nat} (T : ErT X.prog X.K X.mg x C l) (hr : Room k X.A) (ha : PA X [a] ta) (hg : Gl X x) (hdb : (x == ("__debug__" : Str)) = false := by decide)
    (he : starEach (a :: []) X.env = (false, eval a X.env) :: starEach [] X.env := by rfl) (hpl : (backTo pos (starEach [] X.env)).any (·.1) = false := by rfl) :
    PMk X (.Call (.Name x p) [a] [] pos) (tMkE C l ta) := by
  intro pins s σ H Q I h
  obtain ⟨fI, pre, qual, TI, hpre⟩ := T.ex
  refine wpAny_Call_Name_kw (ld_glob I hg T.gC ?_ hdb)
  refine PySem.W.callWith_K (h₀ := X.base) I.ok.mod.kin TI.cls.kC (thn (ha.run pos pins s σ H _ I h) fun us s1 hh => ?_) he hpl
  obtain ⟨vs, H1, I1, r1, v, ev, hev, q1⟩ := hh
  subst ev
  refine ⟨I1.kIn, ?_⟩
  cases r1 with
  | cons rv rn =>
    rename_i v' us'
    cases rn
    show wpAny _ _ (call (.ref C) [v']) _ _ _
    have hlim := I1.nolimit
    obtain ⟨mb, hmb1, hmb2⟩ := I1.mod.blt
    have hG := I1.mod.glob.keeps I1.bk
    have hB := hmb1.keeps I1.bk
    obtain ⟨hp, g, dr, tk, os⟩ := s1
    refine wpAny_call (err_made TI T.hl hpre I1.kIn hlim hG T.gS hB ((hmb2 "super" (by decide)).trans PyProof.Rows.Boot.«super») (by have := hr.dp; omega) (hev.vok rv) fun h' tk' e d M => ?_)
    show MkP X pins σ Q (.ref e) ⟨h', g, dr, tk', os⟩
    obtain ⟨oe, fv, hoe, hc, hd, hdat, h1⟩ := M.obj
    have hns := M.ns
    obtain ⟨G', g1, g2⟩ := restrict h' fun b => decide (b ≠ e)
    have gk : ∀ b, b ≠ e → G'.get? b = h'.get? b := fun b hb => g1 b (decide_eq_true hb)
    have ge : G'.get? e = none := g2 e (by simp)
    have old : ∀ b o, hp.get? b = some o → G'.get? b = some o := fun b o q => (gk b (Nat.ne_of_lt (Nat.lt_of_lt_of_le (Heap.lt_size q) M.new))).trans (M.keep b o q)
    have ob : ObjOk X.prog X.w (upd H1 d (.xd [(l, v)])) G' d (.xd [(l, v)]) :=
      ⟨_, hns.at (fun o q => (gk d M.dne).trans q), fun f => relO_one rv f⟩
    have J : Inv X pins σ (upd H1 d (.xd [(l, v)])) ⟨G', g, dr, tk', os⟩ := I1.laid (t' := tk') old M.dbig ob
    refine ⟨e, oe, fv, ⟨G', g, dr, tk', os⟩, _, .ref C, some d, rfl, J, fun b o q => ?_, ge, hoe, ⟨hc, hd⟩, hdat, h1, ?_, rfl, I1.bare, raises_own TI.cls.exC TI.cls.tyC, q1 d (I1.hok.fresh M.dbig)⟩
    · by_cases hb : b = e
      · have q' : G'.get? b = some o := q
        rw [hb, ge] at q'; cases q'
      · exact (gk b hb).symm.trans q
    · rw [upd_ne (Ne.symm M.dne)]
      exact I1.hok.fresh M.new
/-- raise C(e) -/
def tRaiseE (C : Addr) (l : Str) (W : WX) (ta : TA) : TS := fun _ σ H => tMkE C l ta σ H fun cls d H' => W cls d σ H'
theorem ps_raiseE {a : Expr} {ta : TA} {W : WX} {x : Str} {p pos pos2 : Pos} {k : Nat} (hc : X.calm = true) (T : ErT X.prog X.K X.mg x C l) (hr : Room k X.A) (tk : Takes X W) (ha : PA X [a] ta) (hg : Gl X x := by rfl) (hdb : (x == ("__debug__" : Str)) = false := by decide)
    (he : starEach (a :: []) X.env = (false, eval a X.env) :: starEach [] X.env := by rfl) (hpl : (backTo pos (starEach [] X.env)).any (·.1) = false := by rfl) :
    PS X (.Raise (some (.Call (.Name x p) [a] [] pos)) none pos2) (tRaiseE C l W ta) := ps_raise hc tk (pmk_err T hr ha hg hdb he hpl)
end
end L2
set_option Elab.async false
set_option linter.all false
set_option maxRecDepth 100000
set_option maxHeartbeats 4000000
namespace L2
open PySem PySem.Spec PyProof.Rows PySem.ErX
/-- the dict of a caught error -/
def DictOf (H : Hp) (d : Option Addr) : Prop := d = none ∨ ∃ dd fs, d = some dd ∧ H dd = some (.xd fs)
theorem instE {X : Cx} {pins : List (Addr × Obj)} {σ : St} {H : Hp} {s : Shared} {a D : Addr} {oe : Obj} {d : Option Addr} (I : Inv X pins σ H s) (hget : s.heap.get? a = some oe) (hz : Zc (.ref D) d oe) (hf : ∃ vs, oe.data = .fields vs) (hd : DictOf H d) : ∃ od, PySem.W.InstAt s.heap a oe D od := by
  obtain ⟨vs, hv⟩ := hf
  obtain ⟨oc, odd, oda, osl⟩ := oe
  obtain ⟨h1, h2⟩ := hz
  dsimp only at h1 h2 hv
  subst h1 h2 hv
  rcases hd with rfl | ⟨dd, fs, rfl, hx⟩
  · exact ⟨none, hget, rfl, rfl, trivial⟩
  · have hx' : ObjOk X.prog X.w H s.heap dd (.xd fs) := I.hok dd _ hx
    obtain ⟨mA, ⟨o, es, ep, ho, hr⟩, hl⟩ := hx'
    exact ⟨some o, hget, rfl, rfl, ho⟩
/-- isinstance(e, c), e the exception that the suite holds; its class told by the reading -/
def rIsA (K : PySem.W.Frag) (cls : Value) (d : Option Addr) (a : Addr) : List V → Hp → VK → Prop := fun xs H Q => ∃ (D : Addr) (c : V) (cv : Value) (b : Bool), cls = .ref D ∧ ExcC K D ∧ DictOf H d ∧ xs = [.ref a, c] ∧ (∀ u, RelV c u → u = cv) ∧ PySem.W.kitOne K (.ref D) cv = some b ∧ Q (.bl b) H
theorem call_isA {X : Cx} {a : Addr} {cls : Value} {d : Option Addr} {oe : Obj} {pn : List (Addr × Obj)} (hz : Zc cls d oe) (hf : ∃ vs, oe.data = .fields vs) : CallR (X.suite a ((a, oe) :: pn)) (.builtin "isinstance") (rIsA X.K cls d a) := by
  intro pins s σ H xs us Q I r h
  obtain ⟨D, c, cv, b, rfl, C, hd, rfl, hcv, e, q⟩ := h
  cases r with
  | cons rx rr =>
    cases rr with
    | cons rt rr =>
      cases rr
      cases rx
      have ec := hcv _ rt
      subst ec
      obtain ⟨hget, _⟩ := I.pin (a, oe) (List.mem_append.mpr (.inl List.mem_cons_self))
      obtain ⟨od, J⟩ := instE I hget hz hf hd
      exact PySem.W.kia_one (PySem.W.kitx_exc (od := od) (by obtain ⟨cd, hc, _⟩ := PySem.W.any_some C.hd; rw [hc]; rfl) C.hg C.hk C.hs C.ha C.hn C.ht C.hm) I.kIn J e (fun z => nomatch z) fun tk => ⟨.bl b, H, I.kept (t' := tk) fun _ _ z => z, rfl, q⟩
/-- err.f, the class told by the reading -/
def tXfA (K : PySem.W.Frag) (a : Addr) (cls : Value) (d : Option Addr) (f : Str) (te : TE) : TE := fun σ H Q => te σ H fun x H1 => x = .ref a ∧ ∃ C : Addr, cls = .ref C ∧ XfC K C ∧ PySem.W.findIn K (.ref C) f = some none ∧ ∃ (dd : Addr) (fs : List (Str × V)) (v : V), d = some dd ∧ H1 dd = some (.xd fs) ∧ fs.lookup f = some v ∧ Q v H1
theorem pe_xfA {X : Cx} {a : Addr} {oe : Obj} {cls : Value} {d : Option Addr} {pn : List (Addr × Obj)} {e : Expr} {te : TE} {pos : Pos} {n : Str}
    (hz : Zc cls d oe) (hf : ∃ vs, oe.data = .fields vs) (he : PE (X.suite a ((a, oe) :: pn)) e te) (hb : attributeBase e n X.env (eval e X.env) = eval e X.env := by rfl) :
    PE (X.suite a ((a, oe) :: pn)) (.Attribute e n pos) (tXfA X.K a cls d n te) := by
  refine ⟨fun pins s σ H Q I h => ?_⟩
  refine attr_of hb (thn (he.run pins s σ H _ I h) fun u s1 hh => ?_)
  obtain ⟨x, H1, I1, rx, ex, C, ec, T, hno, dd, fs, v, ed, ea, l, q⟩ := hh
  subst ex
  obtain rfl : u = Value.ref a := rx
  subst ec
  subst ed
  obtain ⟨ha, _⟩ := I1.pin (a, oe) (List.mem_append_left _ List.mem_cons_self)
  obtain ⟨vs, hd⟩ := hf
  have hx : ObjOk X.prog X.w H1 s1.heap dd (.xd fs) := I1.hok dd _ ea
  obtain ⟨mA, hns, hr⟩ := hx
  obtain ⟨od, ho, hl⟩ := lookIn_ns hns
  obtain ⟨u, hu, ru⟩ := RelO.some_of (v := v) (o := mA n) (by rw [← l]; exact hr n)
  have J : PySem.W.InstAt s1.heap a oe C (some od) := ⟨ha, hz.1, by unfold PySem.W.notCls; rw [hd] <;> rfl, by rw [hz.2]; exact ho⟩
  exact HandSPX.exc_get I1.kIn J T.ga T.gg T.exC (PySem.W.findObj_own T.hdC hno rfl (by rw [hl, hu])) (handed_of ru) ⟨v, H1, I1.tok _, ru, q⟩
section
variable {X : Cx} {C : Addr} {bmB : List Value} {B newId initId : String}
/-- C() -/
theorem pmk_own0 {x : Str} {p pos : Pos} (F : ExcBaseFacts B newId initId bmB) (q : PySem.W.excIn X.K C bmB newId = true) (gC : X.mg x = some (.ref C)) (kC : PySem.W.keepIn X.K (.ref C) = true) (r : Raises X (.ref C)) (hg : Gl X x)
    (hdb : (x == ("__debug__" : Str)) = false := by decide) : PMk X (.Call (.Name x p) [] [] pos) (fun _ H Q => Q (.ref C) none H) := by
  intro pins s σ H Q I h
  refine wpAny_Call_Name_kw (ld_glob I hg gC ?_ hdb)
  refine PySem.W.callWith_K0 I.kIn kC ?_
  show wpAny _ _ (call (.ref C) []) _ _ _
  obtain ⟨bm, N, nm, qn, bs, hdct, sn, sub, ab, col, dd, k0, k1, k2, k3, k5, mN, hC, hN, hni, T⟩ := exc_obj I.kIn q
  refine wpAny_call_exc_subT F T hC hN hni (fun h' e hm => ?_) (by show 0 ≤ sizeLine; rw [sizeLine_eq]; omega)
  exact mk_of I hm r h (I.hok.gone hm.new)
end
end L2
set_option Elab.async false
set_option linter.all false
set_option maxRecDepth 100000
set_option maxHeartbeats 4000000
namespace Pk
open PySem PySem.Spec PyProof.Rows L2 SX GxR Tk PySem.ErX
/-- all but the tables of code objects stands as it stood -/
def Sm (H H' : Hp) : Prop := ∀ b o, (∀ ps, o ≠ .tbl ps) → H b = some o → H' b = some o
theorem Sm.refl (H : Hp) : Sm H H := fun _ _ _ e => e
theorem Sm.trans {H H1 H2 : Hp} (a : Sm H H1) (b : Sm H1 H2) : Sm H H2 := fun x o n e => b x o n (a x o n e)
theorem Sm.same {H H1 : Hp} (a : Same H H1) : Sm H H1 := fun x o _ e => a x o e
theorem Tabbed.sm {Pt : Addr} {H H' : Hp} (tg : TabG H Pt) (h : Tabbed Pt H H') : Sm H H' := fun b o n e => by
  obtain ⟨ps, e1, _⟩ := tg
  by_cases hb : b = Pt
  · rw [hb, e1] at e
    exact absurd (Option.some.inj e).symm (n ps)
  · rw [h.2 b hb]
    exact e
theorem TabG.upd {Pt p : Addr} {H : Hp} {o : HO} (tg : TabG H Pt) (h : H p = none ∨ ∃ u, H p = some u ∧ ∀ ps, u ≠ .tbl ps) : TabG (L2.upd H p o) Pt := by
  obtain ⟨ps, e1, e2⟩ := tg
  refine ⟨ps, ?_, e2⟩
  rw [upd_ne ?_]
  · exact e1
  · rintro rfl
    rcases h with h | ⟨u, h, n⟩
    · rw [e1] at h
      cases h
    · rw [e1] at h
      exact n ps (Option.some.inj h).symm
/-- at each of the addresses stands the tuple of a token -/
def TokAt (H : Hp) (r : V) (t : Tk.Tok) : Prop := ∃ q : Addr, r = .ref q ∧ H q = some (.tup [.str t.1, t.2.1, .int (t.2.2 : Nat)])
abbrev ToksAt (H : Hp) : List V → List Tk.Tok → Prop := Paired (TokAt H)
theorem ToksAt.sm {H H' : Hp} (k : Sm H H') : ∀ {rs : List V} {ts : List Tk.Tok}, ToksAt H rs ts → ToksAt H' rs ts
  | _, _, .nil => .nil
  | _, _, .cons ⟨q, e1, e2⟩ r => .cons ⟨q, e1, k _ _ (fun _ z => nomatch z) e2⟩ (ToksAt.sm k r)
theorem ToksAt.lst {H : Hp} {T : Addr} {xs ys : List V} (h : H T = some (.lst xs)) : ∀ {rs : List V} {ts : List Tk.Tok}, ToksAt H rs ts → ToksAt (upd H T (.lst ys)) rs ts
  | _, _, .nil => .nil
  | _, _, .cons ⟨q, e1, e2⟩ r => .cons ⟨q, e1, by rw [upd_ne (ne_of e2 h fun z => nomatch z)]; exact e2⟩ (ToksAt.lst h r)
theorem ToksAt.app {H : Hp} : ∀ {rs qs : List V} {ts us : List Tk.Tok}, ToksAt H rs ts → ToksAt H qs us → ToksAt H (rs ++ qs) (ts ++ us)
  | _, _, _, _, .nil, h => h
  | _, _, _, _, .cons a r, h => .cons a (ToksAt.app r h)
def spTokOf (Pt cT : Addr) : Sp := fun vs H Q E => ∃ (p : List Nat) (l : Nat), vs = [.str (S p), .int l] ∧ p ≠ [] ∧ p.length ≤ 16000000 ∧ l ≤ 16000000 ∧ TabG H Pt ∧
  (∀ k v, tokOf p = some (k, v) → ∀ H' t, Tabbed Pt H H' → H' t = none → Q (.ref t) (upd H' t (.tup [.str k, v, .int l]))) ∧
  (tokOf p = none → ∀ H' d, Tabbed Pt H H' → H' d = none → E (.ref cT) (some d) (upd H' d (.xd [("line", .int l)])))
def spTokenize (Pt cT : Addr) : Sp := fun vs H Q E => ∃ t : List Nat, vs = [.str (S t)] ∧ t.length ≤ 1000000 ∧ TabG H Pt ∧
  (∀ ts, toksT 1 t = .ok ts → ∀ H' p rs, Sm H H' → TabG H' Pt → H p = none → H' p = some (.lst rs) → ToksAt H' rs ts → Q (.ref p) H') ∧
  (∀ l, toksT 1 t = .error l → ∀ H' d, Sm H H' → TabG H' Pt → H' d = some (.xd [("line", .int (l : Nat))]) → E (.ref cT) (some d) H')
theorem ev_nat {l : Nat} (h : l ≤ 16000000) : EV (.int (l : Nat)) := .inr ⟨_, rfl, by
  have h2 : ((l : Nat) : Int).natAbs < 2 ^ 25 := by omega
  by_cases h0 : ((l : Nat) : Int).natAbs = 0
  · rw [h0]
    decide
  · have := (Nat.log2_lt h0).mpr h2
    omega⟩
section
variable {P : Program} {w : World} {K : PySem.W.Frag} {mg : Str → Option Value} {base : Heap}
theorem pick_false {p A B : Prop} [Decidable p] (h : p → B → A) (b : B) : if decide p = true then A else B := by
  by_cases hp : p
  · rw [if_pos (decide_eq_true hp)]
    exact h hp b
  · rw [decide_eq_false hp, if_neg Bool.false_ne_true]
    exact b
theorem len3 : (3 : Nat) ≤ sizeLine := by decide
theorem ok_tokof {f Pt cT : Addr} {fd : FuncData} {k : Nat} (F : Fun K "token_of" "token_of" sTokenOf f fd) (T : Tx K mg) (DR : Df P w K mg base CX0 (k + 1) "is_reserved" ["name"] spIsRes)
    (DN : Df P w K mg base CX0 (k + 3) "is_number" ["part"] (spIsNum Pt)) (DV : Df P w K mg base CX0 (k + 1) "number_value" ["part"] spNumVal) (TE : ErT P K mg "TextError" cT "line") : FnOk P w K mg base (L2.CX P w) (k + 4) f fd ["part", "line"] (spTokOf Pt cT) := by
  obtain ⟨fR, fdR, GR, gR, kR, bR⟩ := DR.ex
  obtain ⟨fN, fdN, GN, gN, kN, bN⟩ := DN.ex
  obtain ⟨fV, fdV, GV, gV, kV, bV⟩ := DV.ex
  obtain ⟨uL, gL, rL⟩ := T.LET
  obtain ⟨uM, gM, rM⟩ := T.LNM
  obtain ⟨pl, gl, tl⟩ := T.LNG
  obtain ⟨ps, gs, tsh⟩ := T.SHT
  refine F.okX scTokenOf (fun vs H Q E h => ?_) (fun cdv A outer s H vs Q E hr h => ?_)
  · obtain ⟨p, l, rfl, _⟩ := h
    rfl
  · obtain ⟨p, l, rfl, hne, hz, hzl, tg, q, qe⟩ := h
    have hr1 : Room (k + 1) _ := hr.mono (by omega)
    have hsz : (S p).length ≤ sizeLine := by rw [S_len, sizeLine_eq]; omega
    refine ⟨_, pss_cons (ps_if (PW.pt (pw_and (pt_cmpR op_in_sign (pe_ix ix_str (pv 0) pe_int (fun _ _ => rfl)) (pe_glob rfl gL rL) (by rfl)) (pw_and1 (pt_cmpR op_le (pe_callB call_len_str (by rfl) T.zLen PySem.boot_len (pa_cons (pv 0) pa_nil)) (pe_glob rfl gM rM) (nomark _)))))
        (pss_cons (ps_if (pt_val (pe_call GR hr1 (by rfl) gR kR bR .nil pass0 (pa_cons (pv 0) pa_nil)) (by intro _; rfl)) (pss_one (ps_ret (pe_tup (pa_cons pe_str (pa_cons (pv 0) (pa_cons (pv 1) pa_nil)))))) pss_nil)
        (pss_one (ps_ret (pe_tup (pa_cons pe_str (pa_cons (pv 0) (pa_cons (pv 1) pa_nil))))))) pss_nil)
      (pss_cons (ps_if (pt_val (pe_call GN hr (by rfl) gN kN bN .nil pass0 (pa_cons (pv 0) pa_nil)) (by intro _; rfl))
        (pss_one (ps_ret (pe_tup (pa_cons pe_str (pa_cons (pe_call GV hr1 (by rfl) gV kV bV .nil pass0 (pa_cons (pv 0) pa_nil)) (pa_cons (pv 1) pa_nil)))))) pss_nil)
      (pss_cons (ps_if (PW.pt (pw_or (pt_cmpR op_in_seq (pv 0) (pe_glob (v := .ref pl) rfl gl rfl) (by rfl)) (pw_or1 (pt_cmpR op_in_seq (pv 0) (pe_glob (v := .ref ps) rfl gs rfl) (by rfl)))))
        (pss_one (ps_ret (pe_tup (pa_cons pe_str (pa_cons (pv 0) (pa_cons (pv 1) pa_nil)))))) pss_nil)
      (pss_one (ps_raiseE rfl TE hr (takes_of rfl rfl rfl rfl) (pa_cons (pv 1) pa_nil))))), ?_⟩
    obtain ⟨c, r, rfl⟩ := head_one hne
    have e0 : tokOf (c :: r) = if decide (c ∈ letters) = true ∧ (c :: r).length ≤ 16 then
        (if S (c :: r) ∈ words then some (Str.ofString "word", .str (S (c :: r))) else some (Str.ofString "name", .str (S (c :: r))))
      else if isNum (c :: r) = true then some (Str.ofString "number", .int (numVal (c :: r)))
      else if S (c :: r) ∈ longs ∨ S (c :: r) ∈ shorts then some (Str.ofString "sign", .str (S (c :: r))) else none := rfl
    have hlI : (((S (c :: r)).length : Nat) : Int) = ((c :: r).length : Int) := by rw [S_len]
    refine ⟨_, rfl, _, _, _, rfl, rfl, hsz, atI_nat (j := 0) rfl, c, lettersS, rfl, rfl, _, rfl, ?_⟩
    by_cases hn : decide (c ∈ letters) = true ∧ (c :: r).length ≤ 16
    · refine iteDT (of_decide_eq_true hn.1) ⟨_, rfl, _, rfl, hsz, _, _, rfl, rfl, _, rfl, ?_⟩
      rw [hlI]
      refine iteDT (by have := hn.2; omega) ⟨_, rfl, S (c :: r), rfl, _, rfl, ?_⟩
      rw [if_pos hn] at e0
      by_cases h3 : S (c :: r) ∈ words
      · rw [if_pos h3] at e0
        exact iteDT h3 ⟨_, rfl, _, rfl, len3, fun t ht => q _ _ e0 H t (Tabbed.refl tg) ht⟩
      · rw [if_neg h3] at e0
        exact iteDF h3 ⟨_, rfl, _, rfl, len3, fun t ht => q _ _ e0 H t (Tabbed.refl tg) ht⟩
    · refine pick_false (fun h1 hB => ⟨_, rfl, _, rfl, hsz, _, _, rfl, rfl, _, rfl, iteDF (fun z => hn ⟨decide_eq_true h1, ?_⟩) hB⟩) (iteF ?_)
      · have z' : (((S (c :: r)).length : Nat) : Int) ≤ 16 := z
        rw [hlI] at z'
        omega
      rw [if_neg hn] at e0
      refine ⟨_, rfl, c :: r, rfl, hne, hz, tg, fun H' hH => ⟨_, rfl, ?_⟩⟩
      cases hnum : isNum (c :: r) with
      | true =>
        rw [if_pos hnum] at e0
        exact iteT ⟨_, rfl, c :: r, rfl, hne, hnum, _, rfl, len3, fun t ht => q _ _ e0 H' t hH ht⟩
      | false =>
        rw [if_neg (by rw [hnum]; exact Bool.false_ne_true)] at e0
        refine iteF ⟨_, rfl, pl, _, rfl, .inr (tl.at H'), rfl, flat_strs _, ?_⟩
        show ∃ k, V.bl (inV (.str (S (c :: r))) (longs.map V.str)) = .bl k ∧ _
        rw [inV_strs]
        refine ⟨_, rfl, ?_⟩
        by_cases h1 : S (c :: r) ∈ longs
        · rw [if_pos (.inl h1)] at e0
          exact iteDT h1 (iteT ⟨_, rfl, _, rfl, len3, fun t ht => q _ _ e0 H' t hH ht⟩)
        · refine iteDF h1 ⟨_, rfl, ps, _, rfl, .inr (tsh.at H'), rfl, flat_strs _, ?_⟩
          show ∃ k, V.bl (inV (.str (S (c :: r))) (shorts.map V.str)) = .bl k ∧ _
          rw [inV_strs]
          refine ⟨_, rfl, ?_⟩
          by_cases h2 : S (c :: r) ∈ shorts
          · rw [if_pos (.inr h2)] at e0
            exact iteDT h2 ⟨_, rfl, _, rfl, len3, fun t ht => q _ _ e0 H' t hH ht⟩
          · rw [if_neg (fun z => z.elim h1 h2)] at e0
            exact iteDF h2 ⟨_, rfl, _, rfl, ev_nat hzl, fun d hd => qe e0 H' d hH hd⟩
end
end Pk
set_option Elab.async false
set_option linter.all false
set_option maxRecDepth 100000
set_option maxHeartbeats 4000000
namespace Pk
open PySem PySem.Spec PyProof.Rows L2 SX Tk
theorem tooLong_small {n : Nat} (h : n ≤ 1000000) : Builtin.Str.tooLong n = false := by
  unfold Builtin.Str.tooLong
  rw [decide_eq_false_iff_not, sizeLine_eq]
  omega
/-- s * n, n from 1 on -/
theorem op_mulS {X : Cx} : OpR X (binaryOp .Mult) (fun x y H Q => ∃ (l : List Nat) (n : Nat), x = .str (S l) ∧ y = .int n ∧ 1 ≤ n ∧ n ≤ 1000 ∧ l.length ≤ 1000 ∧ Q (.str (S (List.replicate n l).flatten)) H) := by
  intro pins s σ H x y v u Q I rx ry h
  obtain ⟨l, n, rfl, rfl, h1, h2, h3, q⟩ := h
  obtain ⟨t, rfl⟩ := rx
  obtain ⟨t', rfl⟩ := ry
  have hl : (S l).length = l.length := S_len l
  have hle : (S l).length * n ≤ 1000000 := by
    rw [hl]
    exact Nat.le_trans (Nat.mul_le_mul h3 h2) (by decide)
  have fin : ∀ z tk k, z = S (List.replicate n l).flatten → EP X pins σ Q (.str z tk) { s with toks := k } := fun z tk k e => by
    subst e
    exact ⟨.str _, H, I.tok _, ⟨_, rfl⟩, q⟩
  refine P.mul_str ?_ (fun _ hx => ?_) (fun _ _ => ?_) ?_
  · rw [decide_eq_false (by omega), decide_eq_false (by omega)]
    rfl
  · rw [hl]
    have h0 : (0 : Int) < n := by omega
    have : (1000 : Int) ≤ (2 ^ 63 - 1) / (n : Int) := by
      refine (Int.le_ediv_iff_mul_le h0).mpr ?_
      omega
    omega
  · rw [Int.toNat_natCast]
    exact tooLong_small hle
  · rw [if_neg (by omega)]
    by_cases hc : ((n : Int) == 1 || (S l).length == 0) = true
    · rw [if_pos hc]
      have e : (List.replicate n l).flatten = l := by
        rw [Bool.or_eq_true, beq_iff_eq, beq_iff_eq, hl] at hc
        rcases hc with hc | hc
        · obtain rfl : n = 1 := by omega
          simp
        · obtain rfl : l = [] := List.length_eq_zero_iff.mp hc
          simp
      rw [e] at q
      exact ⟨.str _, H, I, ⟨_, rfl⟩, q⟩
    · rw [if_neg hc]
      have e : ∀ (k : Nat) (acc : Array Nat), ((List.replicate k (S l).cps).foldl (· ++ ·) acc).toList = acc.toList ++ (List.replicate k l).flatten := by
        intro k
        induction k with
        | zero => intro acc; simp
        | succ k ih =>
          intro acc
          rw [List.replicate_succ, List.foldl_cons, ih, Array.toList_append, List.replicate_succ, List.flatten_cons, List.append_assoc]
      have e2 : (⟨(List.replicate (n : Int).toNat (S l).cps).foldl (· ++ ·) #[]⟩ : Str) = S (List.replicate n l).flatten := by
        refine TL.ext_tl ?_
        rw [Int.toNat_natCast]
        show ((List.replicate n (S l).cps).foldl (· ++ ·) #[]).toList = _
        rw [e]
        rfl
      rw [e2]
      refine ⟨?_, fin _ _ _ rfl⟩
      have hf : (List.replicate n l).flatten.length = n * l.length := by simp
      have hm : n * l.length ≤ 1000000 := Nat.le_trans (Nat.mul_le_mul h2 h3) (by decide)
      show (S (List.replicate n l).flatten).length ≤ sizeLine
      rw [S_len, hf, sizeLine_eq]
      omega
/-! ### pieces of a text -/
def signsL : List Str := ["{", "}", "(", ")", ":", ";", ",", ".", "=", "==", "<", "+", "-", "&", "|", "^", "->"].map Str.ofString
def kSign : Str := Str.ofString "sign"
/-- a piece: its kind, its value, its signs -/
structure PieceOk (k : Str) (v : V) (p : List Nat) : Prop where
  tok : tokOf p = some (k, v)
  ne : p ≠ []
  len : p.length ≤ 20
  nl : 10 ∉ p
  alt : (k ≠ kSign ∧ p.all inRun = true) ∨ (k = kSign ∧ S p ∈ signsL ∧ v = .str (S p))
/-- what may stand behind a piece -/
def after (k : Str) (v : V) (r : List Nat) : Prop := match r with
  | [] => True
  | c :: _ => if k = kSign then (v = .str (S [61]) → c ≠ 61) ∧ (v = .str (S [45]) → c ≠ 62) else inRun c = false
/-- what stands for a list of tokens ahead of others -/
def pre (ds : List Tk.Tok) (x : Except Nat (List Tk.Tok)) : Except Nat (List Tk.Tok) := match x with
  | .error e => .error e
  | .ok ts => .ok (ds ++ ts)
theorem pre_nil (x : Except Nat (List Tk.Tok)) : pre [] x = x := by cases x <;> rfl
theorem pre_app (a b : List Tk.Tok) (x : Except Nat (List Tk.Tok)) : pre a (pre b x) = pre (a ++ b) x := by
  cases x with
  | error e => rfl
  | ok ts => exact congrArg Except.ok (List.append_assoc a b ts).symm
theorem ahead_pre {k : Str} {v : V} {l : Nat} (x : Except Nat (List Tk.Tok)) : ahead (some (k, v)) l x = pre [(k, v, l)] x := by cases x <;> rfl
theorem sign_facts : ∀ x ∈ signsL, ∃ c r, x = S (c :: r) ∧ inRun c = false ∧ c ≠ 35 ∧ c ≠ 32 ∧ c ≠ 10 := by
  have key : ∀ x ∈ signsL, (match x.cps.toList with | [] => false | c :: _ => !inRun c && decide (c ≠ 35) && decide (c ≠ 32) && decide (c ≠ 10)) = true := by decide +kernel
  intro x hx
  have h := key x hx
  have e := S_tl x
  cases hc : x.cps.toList with
  | nil => rw [hc] at h; cases h
  | cons c r =>
    rw [hc] at h e
    simp only [Bool.and_eq_true, decide_eq_true_eq, Bool.not_eq_true'] at h
    exact ⟨c, r, e.symm, h.1.1.1, h.1.1.2, h.1.2, h.2⟩
theorem inRun_ne {c : Nat} (h : inRun c = true) : c ≠ 35 ∧ c ≠ 32 ∧ c ≠ 10 := by
  have k1 : inRun 35 = false := by decide +kernel
  have k2 : inRun 32 = false := by decide +kernel
  have k3 : inRun 10 = false := by decide +kernel
  refine ⟨?_, ?_, ?_⟩ <;> rintro rfl
  · rw [k1] at h; cases h
  · rw [k2] at h; cases h
  · rw [k3] at h; cases h
theorem tw_app {p : List Nat} (h : p.all inRun = true) (r : List Nat) (hr : ∀ c r', r = c :: r' → inRun c = false) : (p ++ r).takeWhile inRun = p := by
  induction p with
  | nil =>
    cases r with
    | nil => rfl
    | cons c r =>
      rw [List.nil_append, List.takeWhile_cons, if_neg (by rw [hr c r rfl]; exact Bool.false_ne_true)]
  | cons a p ih =>
    rw [List.all_cons, Bool.and_eq_true] at h
    rw [List.cons_append, List.takeWhile_cons, if_pos h.1, ih h.2]
/-- the run or sign at the head of p ++ r is p -/
theorem partLen_piece {k : Str} {v : V} {p r : List Nat} (h : PieceOk k v p) (ha : after k v r) : partLen (p ++ r) = p.length := by
  obtain ⟨c, q, rfl⟩ : ∃ c q, p = c :: q := by
    cases hp : p with
    | nil => exact absurd hp h.ne
    | cons c q => exact ⟨c, q, rfl⟩
  unfold partLen
  rw [List.cons_append, ← inRun_iff (r := q ++ r)]
  rcases h.alt with ⟨hk, hall⟩ | ⟨hk, hs, hv⟩
  · have hc := (Bool.and_eq_true_iff.mp (List.all_cons ▸ hall)).1
    rw [if_pos hc, ← List.cons_append, tw_app hall r]
    intro d r' e
    subst e
    have : if k = kSign then _ else inRun d = false := ha
    rw [if_neg hk] at this
    exact this
  · obtain ⟨c', r', e, hc, _⟩ := sign_facts _ hs
    have e' := S_inj e
    cases e'
    rw [if_neg (by rw [hc]; exact Bool.false_ne_true)]
    have ha' : match r with | [] => True | d :: _ => (V.str (S (c :: q)) = .str (S [61]) → d ≠ 61) ∧ (V.str (S (c :: q)) = .str (S [45]) → d ≠ 62) := by
      cases r with
      | nil => trivial
      | cons d r =>
        have : if k = kSign then (v = .str (S [61]) → d ≠ 61) ∧ (v = .str (S [45]) → d ≠ 62) else inRun d = false := ha
        rw [if_pos hk, hv] at this
        exact this
    have key : ∀ x ∈ signsL, (match x.cps.toList with | [] => false | [a] => (List.range 200).all (fun b => (decide (a = 61) && decide (b = 61)) || (decide (a = 45) && decide (b = 62)) || decide (S [a, b] ∉ longs)) && decide (S [a] ∉ longs) | [a, b] => decide (S [a, b] ∈ longs) | _ => false) = true := by decide +kernel
    have hx := key _ hs
    match q, hx, ha', hs with
    | [], hx, ha', hs =>
      have hx' : ((List.range 200).all (fun b => (decide (c = 61) && decide (b = 61)) || (decide (c = 45) && decide (b = 62)) || decide (S [c, b] ∉ longs)) && decide (S [c] ∉ longs)) = true := hx
      rw [Bool.and_eq_true, decide_eq_true_eq] at hx'
      cases r with
      | nil =>
        rw [if_neg]
        · rfl
        · exact hx'.2
      | cons d r =>
        rw [if_neg]
        · rfl
        · show S [c, d] ∉ longs
          by_cases hd : d < 200
          · have hq := List.all_eq_true.mp hx'.1 d (List.mem_range.mpr hd)
            simp only [Bool.or_eq_true, Bool.and_eq_true, decide_eq_true_eq] at hq
            rcases hq with (hq | hq) | hq
            · exact absurd hq.2 (ha'.1 (by rw [hq.1]))
            · exact absurd hq.2 (ha'.2 (by rw [hq.1]))
            · exact hq
          · intro z
            have kl : ∀ x ∈ longs, x.cps.toList.all (· < 200) = true := by decide +kernel
            have := kl _ z
            have h2 : (decide (c < 200) && (decide (d < 200) && true)) = true := this
            rw [Bool.and_eq_true, Bool.and_eq_true, decide_eq_true_eq, decide_eq_true_eq] at h2
            exact hd h2.2.1
    | [b], hx, ha', hs =>
      have hx' : decide (S [c, b] ∈ longs) = true := hx
      rw [if_pos (show S ((c :: ([b] ++ r)).take 2) ∈ longs from of_decide_eq_true hx')]
      rfl
    | a :: b :: q, hx, _, _ => cases hx
/-- the tokens of a piece and of what follows it -/
theorem toks_piece {k : Str} {v : V} {p r : List Nat} (l : Nat) (h : PieceOk k v p) (ha : after k v r) : toksT l (p ++ r) = pre [(k, v, l)] (toksT l r) := by
  have hp := partLen_piece h ha
  obtain ⟨c, q, e⟩ : ∃ c q, p = c :: q := by
    cases hp : p with
    | nil => exact absurd hp h.ne
    | cons c q => exact ⟨c, q, rfl⟩
  have hc : c ≠ 35 ∧ c ≠ 32 ∧ c ≠ 10 := by
    rcases h.alt with ⟨_, hall⟩ | ⟨_, hs, _⟩
    · rw [e] at hall
      exact inRun_ne (Bool.and_eq_true_iff.mp (List.all_cons ▸ hall)).1
    · obtain ⟨c', r', e', _, h1, h2, h3⟩ := sign_facts _ hs
      have := S_inj e'
      rw [e] at this
      cases this
      exact ⟨h1, h2, h3⟩
  have e2 : p ++ r = c :: (q ++ r) := by rw [e, List.cons_append]
  rw [e2, toksT_part hc.1 hc.2.1 hc.2.2, ← e2, hp, List.take_left, List.drop_left, h.tok, ahead_pre]
end Pk
set_option Elab.async false
set_option linter.all false
set_option maxRecDepth 100000
set_option maxHeartbeats 4000000
namespace Pk
open PySem PySem.Spec PyProof.Rows L2 SX GxR Tk
theorem hash_code : Str.ofString "#" = S [35] := by decide +kernel
theorem sp_code : Str.ofString " " = S [32] := by decide +kernel
theorem drop_tw {α : Type} (p : α → Bool) : ∀ l : List α, l.drop (l.takeWhile p).length = l.dropWhile p
  | [] => rfl
  | a :: l => by
    rw [List.takeWhile_cons, List.dropWhile_cons]
    split
    · rw [List.length_cons, List.drop_succ_cons]
      exact drop_tw p l
    · rfl
theorem tw_le {α : Type} (p : α → Bool) : ∀ l : List α, (l.takeWhile p).length ≤ l.length
  | [] => Nat.le_refl _
  | a :: l => by
    rw [List.takeWhile_cons]
    split
    · exact Nat.succ_le_succ (tw_le p l)
    · exact Nat.zero_le _
theorem partLen_le (t : List Nat) (h : t ≠ []) : partLen t ≤ t.length + 1 := by
  unfold partLen
  split
  · exact Nat.le_succ_of_le (tw_le _ _)
  · obtain ⟨c, r, rfl⟩ := head_one h
    rw [List.length_cons]
    split <;> omega
theorem part_fits {t : List Nat} (h0 : t ≠ []) : partLen t ≤ t.length := by
  obtain ⟨c, r, rfl⟩ := head_one h0
  unfold partLen
  split
  · exact tw_le _ _
  · split
    · rename_i h2
      have key : ∀ x ∈ longs, x.length = 2 := by decide +kernel
      have := key _ h2
      rw [S_len, List.length_take] at this
      omega
    · rw [List.length_cons]
      omega
theorem pre_ahead {ds : List Tk.Tok} {k : Str} {v : V} {l : Nat} {x : Except Nat (List Tk.Tok)} : pre ds (ahead (some (k, v)) l x) = pre (ds ++ [(k, v, l)]) x := by
  rw [ahead_pre, pre_app]
theorem ntL {xs : List V} : ∀ ps, HO.lst xs ≠ .tbl ps := fun _ z => nomatch z
theorem ntT {xs : List V} : ∀ ps, HO.tup xs ≠ .tbl ps := fun _ z => nomatch z
theorem tup_lst {xs ys : List V} : HO.tup xs ≠ .lst ys := fun z => nomatch z
theorem small_len {n : Nat} (h : n ≤ 1000000) : n < sizeLine := by rw [sizeLine_eq]; omega
section
variable {P : Program} {w : World} {K : PySem.W.Frag} {mg : Str → Option Value} {base : Heap}
/-- between two turns of tokenize's loop -/
def TokW (Pt : Addr) (t : List Nat) (all : Except Nat (List Tk.Tok)) (T : Addr) (H : Hp) (m : Nat) (σ : L2.St) (H' : Hp) : Prop :=
  ∃ (i l : Nat) (rs : List V) (done : List Tk.Tok) (c4 c5 : Option V), m = t.length - i ∧ σ = [some (.str (S t)), some (.ref T), some (.int (l : Nat)), some (.int (i : Nat)), c4, c5] ∧ i ≤ t.length ∧ TabG H' Pt ∧ Sm H H' ∧
    H' T = some (.lst rs) ∧ ToksAt H' rs done ∧ rs.length ≤ i ∧ l ≤ i + 1 ∧ all = pre done (toksT l (t.drop i))
theorem ok_tokenize {f Pt cT : Addr} {fd : FuncData} {k : Nat} (F : Fun K "tokenize" "tokenize" sTokenize f fd) (T : Tx K mg) (DC : Df P w K mg base CX0 (k + 1) "comment_end" ["text", "at"] spComEnd)
    (DP : Df P w K mg base CX0 (k + 2) "part_end" ["text", "at"] spPartEnd) (DO : Df P w K mg base (L2.CX P w) (k + 4) "token_of" ["part", "line"] (spTokOf Pt cT)) : FnOk P w K mg base (L2.CX P w) (k + 5) f fd ["text"] (spTokenize Pt cT) := by
  obtain ⟨fC, fdC, GC, gC, kC, bC⟩ := DC.ex
  obtain ⟨fP, fdP, GP, gP, kP, bP⟩ := DP.ex
  obtain ⟨fO, fdO, GO, gO, kO, bO⟩ := DO.ex
  refine F.okX scTokenize (fun vs H Q E h => ?_) (fun cdv A outer s H vs Q E hr h => ?_)
  · obtain ⟨t, rfl, _⟩ := h
    rfl
  · obtain ⟨t, rfl, hz, tg, q, qe⟩ := h
    have hr2 : Room (k + 2) _ := hr.mono (by omega)
    have hr1 : Room (k + 1) _ := hr2.mono (Nat.le_succ _)
    have hl : (S t).length = t.length := S_len t
    have hsz : (S t).length ≤ sizeLine := by rw [hl, sizeLine_eq]; omega
    have nd := scTokenize.nd
    refine ⟨_, pss_cons (ps_set (i := 1) nd rfl (.inl rfl) (pe_lst pa_nil))
      (pss_cons (ps_set (i := 2) nd rfl (.inl rfl) pe_int)
      (pss_cons (ps_set (i := 3) nd rfl (.inl rfl) pe_int)
      (pss_cons (ps_while (passes_of rfl) (pt_cmpR op_lt (pv 3) (pe_callB call_len_str (by rfl) T.zLen PySem.boot_len (pa_cons (pv 0) pa_nil)) (nomark _))
        (pss_cons (ps_set (i := 4) nd rfl (.inl rfl) (pe_ix ix_str (pv 0) (pv 3) (fun _ _ => rfl)))
        (pss_one (ps_if (pt_cmpR op_eq (pv 4) pe_str (nomark _)) (pss_one (ps_set (i := 3) nd rfl (.inl rfl) (pe_call GC hr1 (by rfl) gC kC bC .nil pass0 (pa_cons (pv 0) (pa_cons (pv 3) pa_nil)))))
          (pss_one (ps_if (pt_cmpR op_eq (pv 4) pe_str (nomark _)) (pss_one (ps_aug (i := 3) nd rfl (.inl rfl) pe_int ip_add))
          (pss_one (ps_if (pt_cmpR op_eq (pv 4) pe_str (nomark _)) (pss_cons (ps_aug (i := 2) nd rfl (.inl rfl) pe_int ip_add) (pss_one (ps_aug (i := 3) nd rfl (.inl rfl) pe_int ip_add)))
            (pss_cons (ps_set (i := 5) nd rfl (.inl rfl) (pe_call GP hr2 (by rfl) gP kP bP .nil pass0 (pa_cons (pv 0) (pa_cons (pv 3) pa_nil))))
            (pss_cons (ps_expr (pe_bm PySem.F.plainAttrs_list PySem.F.slot_list_append PySem.F.type_list_append mt_append (pv 1) (pa_cons
              (pe_callS GO hr (by rfl) gO kO bO (fun σ => passAt (takes_of rfl rfl rfl rfl) σ) (pa_cons (pe_slice sl_str (pv 0) (po_some (pv 3)) (po_some (pv 5))) (pa_cons (pv 2) pa_nil))) pa_nil)))
            (pss_one (ps_set (i := 3) nd rfl (.inl rfl) (pv 5)))))))))))))
      (pss_cons (ps_expr (pe_bm PySem.F.plainAttrs_list PySem.F.slot_list_append PySem.F.type_list_append mt_append (pv 1) (pa_cons (pe_tup (pa_cons pe_str (pa_cons pe_str (pa_cons (pv 2) pa_nil)))) pa_nil)))
      (pss_one (ps_ret (pv 1))))))), ?_⟩
    refine ⟨Nat.zero_le _, fun p hp => ?_⟩
    have s0 : Same H (upd H p (.lst [])) := same_new hp
    refine ⟨TokW Pt t (toksT 1 t) p H, ⟨t.length, 0, 1, [], [], none, none, rfl, rfl, Nat.zero_le _, TabG.upd tg (.inl hp), Sm.same s0, upd_same, .nil, Nat.le_refl _, Nat.le_refl _, (pre_nil _).symm⟩, ?_⟩
    rintro m σ H' ⟨i, l, rs, done, c4, c5, rfl, rfl, hi, tg', sm, hT, hD, hrs, hli, hall⟩
    refine ⟨_, rfl, _, rfl, _, rfl, hsz, _, _, rfl, rfl, _, rfl, iteD (fun h => ?_) fun h => ?_⟩
    · have hi2 : i < t.length := by rw [hl] at h; omega
      have hd : t.drop i = t[i] :: t.drop (i + 1) := List.drop_eq_getElem_cons hi2
      refine ⟨fun σ' H'' => ∃ m', m' < t.length - i ∧ TokW Pt t (toksT 1 t) p H m' σ' H'', fun _ _ h => h, ?_⟩
      refine ⟨_, rfl, _, rfl, _, _, _, rfl, rfl, hsz, at_S hi2, ?_⟩
      refine ⟨_, rfl, rfl, ?_⟩
      rw [hash_code, dcStr, dcS]
      refine ⟨_, rfl, ?_⟩
      by_cases h1 : t[i] = 35
      · refine iteDT (by rw [h1]) ⟨_, rfl, _, rfl, t, i, rfl, hi, by omega, ?_⟩
        have e1 : comLen (t.drop i) = 1 + ((t.drop (i + 1)).takeWhile (· ≠ 10)).length := by
          unfold comLen
          rw [hd, List.takeWhile_cons, h1, if_pos (by decide), List.length_cons]
          omega
        have e2 : t.drop (i + comLen (t.drop i)) = (t.drop (i + 1)).dropWhile (· ≠ 10) := by
          rw [e1, ← Nat.add_assoc, ← List.drop_drop, drop_tw]
        have e3 := tw_le (· ≠ 10) (t.drop (i + 1))
        rw [List.length_drop] at e3
        rw [hd, h1, toksT_hash, ← e2] at hall
        exact ⟨t.length - (i + comLen (t.drop i)), by omega, i + comLen (t.drop i), l, rs, done, _, c5, rfl, rfl, by omega, tg', sm, hT, hD, by omega, by omega, hall⟩
      · refine iteDF (fun z => h1 (List.cons.inj z).1) ⟨_, rfl, rfl, ?_⟩
        rw [sp_code, dcStr, dcS]
        refine ⟨_, rfl, ?_⟩
        by_cases h2 : t[i] = 32
        · refine iteDT (by rw [h2]) ⟨_, rfl, _, _, rfl, rfl, ?_⟩
          rw [hd, h2, toksT_space] at hall
          exact ⟨t.length - (i + 1), by omega, i + 1, l, rs, done, _, c5, rfl, rfl, by omega, tg', sm, hT, hD, by omega, by omega, hall⟩
        · refine iteDF (fun z => h2 (List.cons.inj z).1) ⟨_, rfl, rfl, ?_⟩
          rw [nl_code, dcStr, dcS]
          refine ⟨_, rfl, ?_⟩
          by_cases h3 : t[i] = 10
          · refine iteDT (by rw [h3]) ⟨_, rfl, _, _, rfl, rfl, _, rfl, _, _, rfl, rfl, ?_⟩
            rw [hd, h3, toksT_nl] at hall
            exact ⟨t.length - (i + 1), by omega, i + 1, l + 1, rs, done, _, c5, rfl, rfl, by omega, tg', sm, hT, hD, by omega, by omega, hall⟩
          · refine iteDF (fun z => h3 (List.cons.inj z).1) ⟨_, rfl, _, rfl, t, i, rfl, hi2, by omega, ?_⟩
            rw [hd, toksT_part h1 h2 h3, ← hd] at hall
            have hp1 := partLen_pos t[i] (t.drop (i + 1))
            rw [← hd] at hp1
            have hp2 := part_fits (t := t.drop i) (by rw [hd]; exact List.cons_ne_nil _ _)
            rw [List.length_drop] at hp2
            have ecut : cutS (S t) (some (i : Int)) (some ((i + partLen (t.drop i) : Nat) : Int)) = S ((t.drop i).take (partLen (t.drop i))) := by
              have := cut2 t i (i + partLen (t.drop i))
              rw [show i + partLen (t.drop i) - i = partLen (t.drop i) by omega] at this
              exact this
            refine ⟨_, rfl, .inl ⟨rfl, _, SqL.of hT⟩, _, rfl, _, rfl, _, rfl, _, rfl, _, rfl, _, rfl, hsz, ?_⟩
            rw [ecut]
            refine ⟨_, rfl, (t.drop i).take (partLen (t.drop i)), l, rfl, ?_, ?_, by omega, tg', fun kd v hk H2 q2 ht2 hn2 => ?_, fun hk H2 d2 ht2 hn2 => ?_⟩
            · intro z
              have := congrArg List.length z
              rw [List.length_take, List.length_drop, List.length_nil] at this
              omega
            · rw [List.length_take, List.length_drop]
              omega
            · have sm2 := Tabbed.sm tg' ht2
              have hT2 := sm2 _ _ ntL hT
              have s3 : Same H2 (upd H2 q2 (.tup [.str kd, v, .int l])) := same_new hn2
              have hT3 := s3 _ _ hT2
              refine ⟨p, rs, _, rfl, rfl, hT3, small_len (by omega), _, rfl, ?_⟩
              have hnn : ∀ b o, H b = some o → b ≠ p := fun b o e => ne_of_none e hp
              refine ⟨t.length - (i + partLen (t.drop i)), by omega, i + partLen (t.drop i), l, rs ++ [.ref q2], done ++ [(kd, v, l)], _, _, rfl, rfl, by omega, ?_, ?_, upd_same, ?_, ?_, by omega, ?_⟩
              · exact TabG.upd (TabG.upd ht2.1 (.inl hn2)) (.inr ⟨_, hT3, ntL⟩)
              · intro b o n e
                rw [upd_ne (hnn b o e)]
                exact s3 _ _ (sm2 _ _ n (sm _ _ n e))
              · refine (ToksAt.lst hT3 ((hD.sm sm2).sm (Sm.same s3))).app (.cons ⟨q2, rfl, ?_⟩ .nil)
                rw [upd_ne (ne_of upd_same hT3 tup_lst), upd_same]
              · rw [List.length_append, List.length_singleton]
                omega
              · rw [hall, hk, pre_ahead, List.drop_drop]
            · have sm2 := Tabbed.sm tg' ht2
              rw [hk] at hall
              refine qe l hall _ d2 ?_ (TabG.upd ht2.1 (.inl hn2)) upd_same
              · intro b o n e
                exact (same_new (o := .xd [("line", .int l)]) hn2) _ _ (sm2 _ _ n (sm _ _ n e))
    · have hi2 : i = t.length := by rw [hl] at h; omega
      rw [hi2, List.drop_of_length_le (Nat.le_refl _), toksT_nil] at hall
      have hall2 : toksT 1 t = .ok (done ++ [endTok l]) := hall
      refine ⟨_, rfl, .inl ⟨rfl, _, SqL.of hT⟩, _, rfl, len3, fun q2 hq2 => ?_⟩
      have s3 : Same H' (upd H' q2 (.tup [.str (Str.ofString "end"), .str (Str.ofString ""), .int l])) := same_new hq2
      have hT3 := s3 _ _ hT
      refine ⟨p, rs, _, rfl, rfl, hT3, small_len (by omega), _, rfl, ?_⟩
      refine q _ hall2 _ p _ ?_ ?_ hp upd_same ?_
      · intro b o n e
        rw [upd_ne (ne_of_none e hp)]
        exact s3 _ _ (sm _ _ n e)
      · exact TabG.upd (TabG.upd tg' (.inl hq2)) (.inr ⟨_, hT3, ntL⟩)
      · refine (ToksAt.lst hT3 (hD.sm (Sm.same s3))).app (.cons ⟨q2, rfl, ?_⟩ .nil)
        rw [upd_ne (ne_of upd_same hT3 tup_lst), upd_same]
        rfl
end
end Pk
set_option Elab.async false
set_option linter.all false
set_option maxRecDepth 100000
set_option maxHeartbeats 4000000
/-! the mirror of the reader and of the parser's parts; no row -/
namespace Tk
open PySem L2 SX
abbrev Rem := List Tok
def valAt : Rem → V
  | (_, v, _) :: _ => v
  | [] => .non
def kindAt : Rem → Str
  | (k, _, _) :: _ => k
  | [] => Str.empty
def lineAt : Rem → Nat
  | (_, _, l) :: _ => l
  | [] => 0
def wordAt (w : Str) (r : Rem) : Bool := decide (valAt r = .str w)
def mSkip (w : Str) (r : Rem) : Rem := if wordAt w r = true then r.tail else r
def mTake (w : Str) (r : Rem) : Except Nat Rem := if wordAt w r = true then .ok r.tail else .error (lineAt r)
def mKind (k : Str) (r : Rem) : Except Nat (V × Rem) := if kindAt r = k then .ok (valAt r, r.tail) else .error (lineAt r)
def mOne (ws : List Str) (r : Rem) : Except Nat (V × Rem) := if inV (valAt r) (ws.map V.str) = true then .ok (valAt r, r.tail) else .error (lineAt r)
def mName : Rem → Except Nat (V × Rem) := mKind (Str.ofString "name")
def mNum : Rem → Except Nat (V × Rem) := mKind (Str.ofString "number")
def mEnd (r : Rem) : Except Nat Rem := if kindAt r = Str.ofString "end" then .ok r else .error (lineAt r)
/-- a token's value: a text or a number -/
def TV (v : V) : Prop := (∃ x, v = .str x) ∨ ∃ n : Nat, v = .int n
/-- a token as data -/
def tvD (v : V) : PyData := match v with
  | .str x => .str x
  | .int n => .int n
  | _ => .none
/-- the rest of the tokens: at its end, and only there, "end" -/
structure RemOk (r : Rem) : Prop where
  last : ∃ p l, r = p ++ [endTok l]
  len : r.length ≤ 1000001
  tv : ∀ t ∈ r, TV t.2.1
theorem RemOk.ne {r : Rem} (h : RemOk r) : r ≠ [] := by
  obtain ⟨p, l, rfl⟩ := h.last
  simp
theorem RemOk.tl {r : Rem} (h : RemOk r) (ht : kindAt r ≠ Str.ofString "end" ∨ valAt r ≠ .str (Str.ofString "")) : RemOk r.tail := by
  have hl := h.len
  obtain ⟨p, l, rfl⟩ := h.last
  cases p with
  | nil => rcases ht with ht | ht <;> exact absurd rfl ht
  | cons a p => exact ⟨⟨p, l, rfl⟩, Nat.le_of_succ_le hl, fun t hm => h.tv t (List.mem_cons_of_mem _ hm)⟩
theorem RemOk.val {r : Rem} (h : RemOk r) : TV (valAt r) := by
  obtain ⟨p, l, rfl⟩ := h.last
  cases p with
  | nil => exact h.tv _ List.mem_cons_self
  | cons a p => exact h.tv _ List.mem_cons_self
theorem RemOk.word {r : Rem} {w : Str} (h : RemOk r) (hw : w ≠ Str.ofString "") (e : wordAt w r = true) : RemOk r.tail := h.tl (.inr fun z => by
  unfold wordAt at e
  rw [z] at e
  exact hw (V.str.inj (of_decide_eq_true e)).symm)
theorem RemOk.skip {r : Rem} {w : Str} (h : RemOk r) (hw : w ≠ Str.ofString "") : RemOk (mSkip w r) := by
  unfold mSkip
  by_cases e : wordAt w r = true
  · rw [if_pos e]
    exact h.word hw e
  · rw [if_neg e]
    exact h
end Tk
namespace Pk
open PySem PySem.Spec PyProof.Rows L2 SX Tk PySem.ErX
/-- the reader's class -/
structure RdC (K : PySem.W.Frag) (C : Addr) : Prop where
  cl : Cls K C
  nT : NoAttr K C "tokens"
  nA : NoAttr K C "at"
/-- at a: a reader ahead of the tokens r -/
def Rd (C : Addr) (H : Hp) (a tl : Addr) (r : Tk.Rem) : Prop := ∃ (dx : Addr) (i : Nat) (rs : List V) (ts : List Tk.Tok), H a = some (.ins C dx [("tokens", .ref tl), ("at", .int (i : Nat))]) ∧ H tl = some (.lst rs) ∧
  Paired (fun (r : V) (t : Tk.Tok) => ∃ q : Addr, r = .ref q ∧ H q = some (.tup [.str t.1, t.2.1, .int (t.2.2 : Nat)])) rs ts ∧ r = ts.drop i ∧ RemOk r ∧ ∀ t ∈ ts, t.2.2 ≤ 16000000
/-- all but the reader stands -/
def Ev (a : Addr) (H H' : Hp) : Prop := ∀ b o, b ≠ a → H b = some o → H' b = some o
theorem Ev.refl (a : Addr) (H : Hp) : Ev a H H := fun _ _ _ e => e
theorem Ev.trans {a : Addr} {H H1 H2 : Hp} (h : Ev a H H1) (h' : Ev a H1 H2) : Ev a H H2 := fun b o n e => h' b o n (h b o n e)
theorem Ev.same {a : Addr} {H H1 : Hp} (h : Same H H1) : Ev a H H1 := fun b o _ e => h b o e
/-- what the reader goes ahead of stands -/
theorem paired_ev {a : Addr} {H H' : Hp} (k : ∀ b o, (∀ C dx fs, o ≠ .ins C dx fs) → H b = some o → H' b = some o) : ∀ {rs : List V} {ts : List Tk.Tok}, Paired (fun (r : V) (t : Tk.Tok) => ∃ q : Addr, r = .ref q ∧ H q = some (.tup [.str t.1, t.2.1, .int (t.2.2 : Nat)])) rs ts →
    Paired (fun (r : V) (t : Tk.Tok) => ∃ q : Addr, r = .ref q ∧ H' q = some (.tup [.str t.1, t.2.1, .int (t.2.2 : Nat)])) rs ts
  | _, _, .nil => .nil
  | _, _, .cons ⟨q, e1, e2⟩ r => .cons ⟨q, e1, k _ _ (fun _ _ _ z => by cases z) e2⟩ (paired_ev (a := a) k r)
theorem Rd.same {C : Addr} {H H' : Hp} {a tl : Addr} {r : Tk.Rem} (h : Rd C H a tl r) (k : Same H H') : Rd C H' a tl r := by
  obtain ⟨dx, i, rs, ts, h1, h2, h3, h4⟩ := h
  exact ⟨dx, i, rs, ts, k _ _ h1, k _ _ h2, paired_ev (a := a) (fun b o _ e => k b o e) h3, h4⟩
theorem Rd.here {C : Addr} {H : Hp} {a tl : Addr} {r : Tk.Rem} (h : Rd C H a tl r) : H a ≠ none ∧ H tl ≠ none := by
  obtain ⟨dx, i, rs, ts, h1, h2, h3, h4⟩ := h
  refine ⟨fun z => ?_, fun z => ?_⟩
  · rw [h1] at z
    cases z
  · rw [h2] at z
    cases z
/-- a change of a list beside it -/
theorem Rd.at {C : Addr} {H H' : Hp} {a tl p : Addr} {r : Tk.Rem} {xs : List V} (h : Rd C H a tl r) (hp : ∀ b o, b ≠ p → H b = some o → H' b = some o) (n : p ≠ a) (n2 : p ≠ tl) (nt : H p = some (.lst xs)) : Rd C H' a tl r := by
  obtain ⟨dx, i, rs, ts, h1, h2, h3, h4⟩ := h
  refine ⟨dx, i, rs, ts, hp _ _ (Ne.symm n) h1, hp _ _ (Ne.symm n2) h2, ?_, h4⟩
  clear h4 h2
  induction h3 with
  | nil => exact .nil
  | cons hq _ ih =>
    obtain ⟨q, e1, e2⟩ := hq
    exact .cons ⟨q, e1, hp _ _ (fun z => by
      rw [z, nt] at e2
      cases e2) e2⟩ ih
/-- the objects that are new -/
def New (H H' : Hp) : Hp := fun b => if H b = none then H' b else none
theorem New.of {H H' : Hp} {b : Addr} {o : HO} (h : H b = none) (e : H' b = some o) : New H H' b = some o := by
  unfold New
  rw [if_pos h]
  exact e
theorem New.get {H H' : Hp} {b : Addr} {o : HO} (e : New H H' b = some o) : H b = none ∧ H' b = some o := by
  unfold New at e
  by_cases h : H b = none
  · rw [if_pos h] at e
    exact ⟨h, e⟩
  · rw [if_neg h] at e
    cases e
mutual
theorem dp_mono {K : PySem.W.Frag} {G G' : Hp} (k : ∀ b o, G b = some o → G' b = some o) : ∀ {d : PyData} {v : V}, Dp K G v d → Dp K G' v d
  | _, _, .non => .non
  | _, _, .bl b => .bl b
  | _, _, .int i => .int i
  | _, _, .str x => .str x
  | _, _, .lst (a := a) (xs := xs) h r => .lst (by
      rcases h with (h | ⟨o, h⟩) | h
      · exact .inl (.inl (k _ _ h))
      · exact .inl (.inr ⟨o, k _ _ h⟩)
      · exact .inr h) (dpAll_mono k r)
  | _, _, .tup (a := a) (xs := xs) h r => .tup (by
      rcases h with (h | ⟨o, h⟩) | h
      · exact .inl (.inl (k _ _ h))
      · exact .inl (.inr ⟨o, k _ _ h⟩)
      · exact .inr h) (dpAll_mono k r)
theorem dpAll_mono {K : PySem.W.Frag} {G G' : Hp} (k : ∀ b o, G b = some o → G' b = some o) : ∀ {ds : List PyData} {vs : List V}, DpAll K G vs ds → DpAll K G' vs ds
  | _, _, .nil => .nil
  | _, _, .cons h r => .cons (dp_mono k h) (dpAll_mono k r)
end
theorem new_mono {a : Addr} {H0 H H1 H2 : Hp} (ha : H a ≠ none) (h0 : ∀ b, H b = none → H0 b = none) (k : Ev a H1 H2) : ∀ b o, New H H1 b = some o → New H0 H2 b = some o := fun b o e => by
  obtain ⟨h1, h2⟩ := New.get e
  exact New.of (h0 b h1) (k b o (fun z => ha (by rw [← z]; exact h1)) h2)
theorem ev_none {a : Addr} {H H' : Hp} (h : Ev a H H') (ha : H' a ≠ none) : ∀ b, H' b = none → H b = none := fun b e => by
  cases q : H b with
  | none => rfl
  | some o =>
    by_cases hb : b = a
    · rw [hb] at e
      exact absurd e ha
    · rw [h b o hb q] at e
      cases e
theorem tvD_dp {K : PySem.W.Frag} {G : Hp} {v : V} (h : TV v) : Dp K G v (tvD v) := by
  rcases h with ⟨x, rfl⟩ | ⟨n, rfl⟩
  · exact .str x
  · exact .int n
end Pk
set_option Elab.async false
set_option linter.all false
set_option maxRecDepth 100000
set_option maxHeartbeats 4000000
namespace Pk
open PySem PySem.Spec PyProof.Rows L2 SX GxR Tk PySem.ErX
def rdS (i : Nat) : Stmt := inClass (topS 4) i
abbrev rInit : Stmt := rdS 0
abbrev rKind : Stmt := rdS 1
abbrev rValue : Stmt := rdS 2
abbrev rFail : Stmt := rdS 3
abbrev rSkip : Stmt := rdS 4
abbrev rTake : Stmt := rdS 5
abbrev rOne : Stmt := rdS 6
abbrev rName : Stmt := rdS 7
abbrev rNumber : Stmt := rdS 8
abbrev rTakeK : Stmt := rdS 9
abbrev rEnd : Stmt := rdS 10
theorem scrInit : FnScope ["self", "tokens"] ["self", "tokens"] (defScope rInit) := ⟨rfl, rfl, rfl, by decide +kernel, rfl, by decide +kernel, by decide +kernel⟩
theorem scrKind : FnScope ["self"] ["self"] (defScope rKind) := ⟨rfl, rfl, rfl, by decide +kernel, rfl, by decide +kernel, by decide +kernel⟩
theorem scrValue : FnScope ["self"] ["self"] (defScope rValue) := ⟨rfl, rfl, rfl, by decide +kernel, rfl, by decide +kernel, by decide +kernel⟩
theorem scrFail : FnScope ["self"] ["self"] (defScope rFail) := ⟨rfl, rfl, rfl, by decide +kernel, rfl, by decide +kernel, by decide +kernel⟩
theorem scrSkip : FnScope ["self", "word"] ["self", "word"] (defScope rSkip) := ⟨rfl, rfl, rfl, by decide +kernel, rfl, by decide +kernel, by decide +kernel⟩
theorem scrTake : FnScope ["self", "word"] ["self", "word"] (defScope rTake) := ⟨rfl, rfl, rfl, by decide +kernel, rfl, by decide +kernel, by decide +kernel⟩
theorem scrOne : FnScope ["self", "words", "word"] ["self", "words"] (defScope rOne) := ⟨rfl, rfl, rfl, by decide +kernel, rfl, by decide +kernel, by decide +kernel⟩
theorem scrName : FnScope ["self"] ["self"] (defScope rName) := ⟨rfl, rfl, rfl, by decide +kernel, rfl, by decide +kernel, by decide +kernel⟩
theorem scrNumber : FnScope ["self"] ["self"] (defScope rNumber) := ⟨rfl, rfl, rfl, by decide +kernel, rfl, by decide +kernel, by decide +kernel⟩
theorem scrTakeK : FnScope ["self", "kind", "value"] ["self", "kind"] (defScope rTakeK) := ⟨rfl, rfl, rfl, by decide +kernel, rfl, by decide +kernel, by decide +kernel⟩
theorem scrEnd : FnScope ["self"] ["self"] (defScope rEnd) := ⟨rfl, rfl, rfl, by decide +kernel, rfl, by decide +kernel, by decide +kernel⟩
/-! ### promises: C the reader's class, cT TextError -/
/-- the way out with an error of the line l -/
def ErrAt (cT a : Addr) (H : Hp) (E : XK) (l : Nat) : Prop := ∀ (H' : Hp) (x : Addr), Ev a H H' → H' x = some (.xd [("line", .int (l : Nat))]) → E (.ref cT) (some x) H'
/-- the ways out of a method that gives a value -/
def PostV (C cT a tl : Addr) (H : Hp) (Q : VK) (E : XK) : Except Nat (V × Tk.Rem) → Prop
  | .ok (v, r) => ∀ H', Ev a H H' → Rd C H' a tl r → Q v H'
  | .error l => ErrAt cT a H E l
def PostN (C cT a tl : Addr) (H : Hp) (Q : VK) (E : XK) : Except Nat Tk.Rem → Prop
  | .ok r => ∀ H', Ev a H H' → Rd C H' a tl r → Q .non H'
  | .error l => ErrAt cT a H E l
def sprInit (C : Addr) : Sp := fun vs H Q _ => ∃ (a dx tl : Addr), vs = [.ref a, .ref tl] ∧ H a = some (.ins C dx []) ∧ Q .non (upd H a (.ins C dx [("tokens", .ref tl), ("at", .int (0 : Nat))]))
def sprKind (C : Addr) : Sp := fun vs H Q _ => ∃ (a tl : Addr) (r : Tk.Rem), vs = [.ref a] ∧ Rd C H a tl r ∧ Q (.str (kindAt r)) H
def sprValue (C : Addr) : Sp := fun vs H Q _ => ∃ (a tl : Addr) (r : Tk.Rem), vs = [.ref a] ∧ Rd C H a tl r ∧ Q (valAt r) H
def sprFail (C cT : Addr) : Sp := fun vs H _ E => ∃ (a tl : Addr) (r : Tk.Rem), vs = [.ref a] ∧ Rd C H a tl r ∧ ∀ (H' : Hp) (x : Addr), Same H H' → H' x = some (.xd [("line", .int (lineAt r : Nat))]) → E (.ref cT) (some x) H'
def sprSkip (C : Addr) : Sp := fun vs H Q _ => ∃ (a tl : Addr) (r : Tk.Rem) (w : Str), vs = [.ref a, .str w] ∧ w ≠ Str.ofString "" ∧ Rd C H a tl r ∧ ∀ H', Ev a H H' → Rd C H' a tl (mSkip w r) → Q (.bl (wordAt w r)) H'
def sprTake (C cT : Addr) : Sp := fun vs H Q E => ∃ (a tl : Addr) (r : Tk.Rem) (w : Str), vs = [.ref a, .str w] ∧ w ≠ Str.ofString "" ∧ Rd C H a tl r ∧ PostN C cT a tl H Q E (mTake w r)
def sprOne (K : PySem.W.Frag) (C cT : Addr) : Sp := fun vs H Q E => ∃ (a tl p : Addr) (r : Tk.Rem) (ws : List Str), vs = [.ref a, .ref p] ∧ TupK K p (ws.map V.str) ∧ Str.ofString "" ∉ ws ∧ Rd C H a tl r ∧ PostV C cT a tl H Q E (mOne ws r)
def sprTakeK (C cT : Addr) : Sp := fun vs H Q E => ∃ (a tl : Addr) (r : Tk.Rem) (w : Str), vs = [.ref a, .str w] ∧ w ≠ Str.ofString "end" ∧ Rd C H a tl r ∧ PostV C cT a tl H Q E (mKind w r)
def sprName (C cT : Addr) : Sp := fun vs H Q E => ∃ (a tl : Addr) (r : Tk.Rem), vs = [.ref a] ∧ Rd C H a tl r ∧ PostV C cT a tl H Q E (mName r)
def sprNumber (C cT : Addr) : Sp := fun vs H Q E => ∃ (a tl : Addr) (r : Tk.Rem), vs = [.ref a] ∧ Rd C H a tl r ∧ PostV C cT a tl H Q E (mNum r)
def sprEnd (C cT : Addr) : Sp := fun vs H Q E => ∃ (a tl : Addr) (r : Tk.Rem), vs = [.ref a] ∧ Rd C H a tl r ∧ PostN C cT a tl H Q E (mEnd r)
/-- a method of the reader that keeps its promise -/
structure Mt (P : Program) (w : World) (K : PySem.W.Frag) (mg : Str → Option Value) (base : Heap) (CX : CXT) (k : Nat) (C : Addr) (x : Str) (ps : List Str) (sp : Sp) : Prop where
  ex : ∃ (f : Addr) (fd : FuncData), FnOk P w K mg base CX k f fd ps sp ∧ Meth K C x f ∧ Binds K fd ps []
section
variable {P : Program} {w : World} {K : PySem.W.Frag} {mg : Str → Option Value} {base : Heap} {C cT : Addr}
theorem paired_at {H : Hp} : ∀ {rs : List V} {ts : List Tk.Tok} {i : Nat} {t : Tk.Tok}, Paired (fun (r : V) (t : Tk.Tok) => ∃ q : Addr, r = .ref q ∧ H q = some (.tup [.str t.1, t.2.1, .int (t.2.2 : Nat)])) rs ts → ts[i]? = some t →
    ∃ v, rs[i]? = some v ∧ ∃ q : Addr, v = .ref q ∧ H q = some (.tup [.str t.1, t.2.1, .int (t.2.2 : Nat)])
  | _, _, _, _, .nil, e => by cases e
  | _, _, 0, _, .cons a _, e => by
    cases e
    exact ⟨_, rfl, a⟩
  | _, _, i + 1, _, .cons _ r, e => paired_at (i := i) r e
/-- the token ahead, as the reader finds it -/
theorem rd_tok {H : Hp} {a tl : Addr} {r : Tk.Rem} (h : Rd C H a tl r) : ∃ (dx : Addr) (i : Nat) (rs : List V) (q : Addr), H a = some (.ins C dx [("tokens", .ref tl), ("at", .int (i : Nat))]) ∧ SqL K H tl rs ∧ atI rs ((i : Nat) : Int) = some (.ref q) ∧ SqT K H q [.str (kindAt r), valAt r, .int (lineAt r : Nat)] ∧ lineAt r ≤ 16000000 := by
  obtain ⟨dx, i, rs, ts, h1, h2, h3, h4, h5, h6⟩ := h
  have hne := h5.ne
  cases r with
  | nil => exact absurd rfl hne
  | cons t r =>
    have e : ts[i]? = some t := by
      have := congrArg List.head? h4
      rw [List.head?_drop] at this
      exact this.symm
    obtain ⟨v, hv, q, rfl, hq⟩ : ∃ v, rs[i]? = some v ∧ ∃ q : Addr, v = .ref q ∧ H q = some (.tup [.str t.1, t.2.1, .int (t.2.2 : Nat)]) := by
      exact paired_at h3 e
    exact ⟨dx, i, rs, q, h1, SqL.of h2, atI_nat hv, SqT.of hq, h6 t (List.mem_of_getElem? e)⟩
/-- one token on -/
theorem rd_on {H : Hp} {a tl : Addr} {r : Tk.Rem} (h : Rd C H a tl r) (ht : RemOk r.tail) : ∃ (dx : Addr) (i : Nat), H a = some (.ins C dx [("tokens", .ref tl), ("at", .int (i : Nat))]) ∧ Rd C (upd H a (.ins C dx [("tokens", .ref tl), ("at", .int ((i : Nat) + 1))])) a tl r.tail ∧ Ev a H (upd H a (.ins C dx [("tokens", .ref tl), ("at", .int ((i : Nat) + 1))])) := by
  obtain ⟨dx, i, rs, ts, h1, h2, h3, h4, h5, h6⟩ := h
  have ka : ∀ b o, (∀ C dx fs, o ≠ .ins C dx fs) → H b = some o → upd H a (.ins C dx [("tokens", .ref tl), ("at", .int ((i : Nat) + 1))]) b = some o := fun b o n e => by
    rw [upd_ne]
    · exact e
    · rintro rfl
      rw [h1] at e
      exact n _ _ _ (Option.some.inj e).symm
  refine ⟨dx, i, h1, ⟨dx, i + 1, rs, ts, upd_same, ka _ _ (fun _ _ _ z => by cases z) h2, paired_ev (a := a) ka h3, ?_, ht, h6⟩, fun b o n e => by rw [upd_ne n]; exact e⟩
  rw [h4, List.tail_drop]
end
end Pk
set_option Elab.async false
set_option linter.all false
set_option maxRecDepth 100000
set_option maxHeartbeats 4000000
namespace Pk
open PySem PySem.Spec PyProof.Rows L2 SX GxR Tk PySem.ErX
/-- a method whose own body passes errors on: what a callee lets out leaves -/
theorem passE {X : Cx} {E : XK} (tk : Takes X (fun cls d _ H => E cls d H)) : Passes (L2.CX X.prog X.w) X E := passes_call tk fun _ _ _ _ h => h
theorem fl_kind {dx tl : V} : List.lookup ("kind" : Str) [(("tokens" : Str), dx), (("at" : Str), tl)] = none := rfl
section
variable {P : Program} {w : World} {K : PySem.W.Frag} {mg : Str → Option Value} {base : Heap} {C cT : Addr}
theorem ok_rInit {f : Addr} {fd : FuncData} {k : Nat} (F : Fun K "__init__" "Reader.__init__" rInit f fd) (R : RdC K C) : FnOk P w K mg base CX0 (k + 1) f fd ["self", "tokens"] (sprInit C) := by
  refine F.ok scrInit (fun vs H Q E h => ?_) (fun cdv A outer s H vs Q E hr h => ?_)
  · obtain ⟨a, dx, tl, rfl, _⟩ := h
    rfl
  · obtain ⟨a, dx, tl, rfl, ha, q⟩ := h
    refine ⟨_, pss_cons (ps_fld (pv 0) (pv 1) rfl) (pss_one (ps_fld (pv 0) pe_int rfl)), ?_⟩
    refine ⟨_, rfl, _, rfl, a, C, dx, _, rfl, ha, R.cl, R.nT, by decide, _, rfl, a, C, dx, _, rfl, upd_same, R.cl, R.nA, (by show 1 < 1000; decide), ?_⟩
    have e : upd (upd H a (.ins C dx (putF "tokens" (.ref tl) []))) a (.ins C dx (putF "at" (.int 0) (putF "tokens" (.ref tl) []))) = upd H a (.ins C dx [("tokens", .ref tl), ("at", .int (0 : Nat))]) := by
      funext b
      by_cases hb : b = a
      · rw [hb, upd_same, upd_same]
        rfl
      · rw [upd_ne hb, upd_ne hb, upd_ne hb]
    show Q .non _
    rw [e]
    exact q
theorem ok_rKind {f : Addr} {fd : FuncData} {k : Nat} (F : Fun K "kind" "Reader.kind" rKind f fd) (R : RdC K C) : FnOk P w K mg base CX0 (k + 1) f fd ["self"] (sprKind C) := by
  refine F.ok scrKind (fun vs H Q E h => ?_) (fun cdv A outer s H vs Q E hr h => ?_)
  · obtain ⟨a, tl, r, rfl, _⟩ := h
    rfl
  · obtain ⟨a, tl, r, rfl, hR, q⟩ := h
    obtain ⟨dx, i, rs, qa, h1, h2, h3, h4, h5⟩ := rd_tok hR
    refine ⟨_, pss_one (ps_ret (pe_ix ix_tup (pe_ix ix_list (pe_fld (pv 0) rfl) (pe_fld (pv 0) rfl) (fun _ _ => rfl)) pe_int (fun _ _ => rfl))), ?_⟩
    exact ⟨_, rfl, a, C, dx, _, _, rfl, h1, R.cl, R.nT, rfl, _, rfl, a, C, dx, _, _, rfl, h1, R.cl, R.nA, rfl, tl, rs, _, _, rfl, rfl, h2, h3, qa, _, _, _, rfl, rfl, h4, atI_nat (j := 0) rfl, q⟩
theorem ok_rValue {f : Addr} {fd : FuncData} {k : Nat} (F : Fun K "value" "Reader.value" rValue f fd) (R : RdC K C) : FnOk P w K mg base CX0 (k + 1) f fd ["self"] (sprValue C) := by
  refine F.ok scrValue (fun vs H Q E h => ?_) (fun cdv A outer s H vs Q E hr h => ?_)
  · obtain ⟨a, tl, r, rfl, _⟩ := h
    rfl
  · obtain ⟨a, tl, r, rfl, hR, q⟩ := h
    obtain ⟨dx, i, rs, qa, h1, h2, h3, h4, h5⟩ := rd_tok hR
    refine ⟨_, pss_one (ps_ret (pe_ix ix_tup (pe_ix ix_list (pe_fld (pv 0) rfl) (pe_fld (pv 0) rfl) (fun _ _ => rfl)) pe_int (fun _ _ => rfl))), ?_⟩
    exact ⟨_, rfl, a, C, dx, _, _, rfl, h1, R.cl, R.nT, rfl, _, rfl, a, C, dx, _, _, rfl, h1, R.cl, R.nA, rfl, tl, rs, _, _, rfl, rfl, h2, h3, qa, _, _, _, rfl, rfl, h4, atI_nat (j := 1) rfl, q⟩
theorem ok_rFail {f : Addr} {fd : FuncData} {k : Nat} (F : Fun K "fail" "Reader.fail" rFail f fd) (R : RdC K C) (T : ErT P K mg "TextError" cT "line") : FnOk P w K mg base (L2.CX P w) (k + 1) f fd ["self"] (sprFail C cT) := by
  refine F.okX scrFail (fun vs H Q E h => ?_) (fun cdv A outer s H vs Q E hr h => ?_)
  · obtain ⟨a, tl, r, rfl, _⟩ := h
    rfl
  · obtain ⟨a, tl, r, rfl, hR, q⟩ := h
    obtain ⟨dx, i, rs, qa, h1, h2, h3, h4, h5⟩ := rd_tok hR
    refine ⟨_, pss_one (ps_raiseE rfl T hr (takes_of rfl rfl rfl rfl) (pa_cons (pe_ix ix_tup (pe_ix ix_list (pe_fld (pv 0) rfl) (pe_fld (pv 0) rfl) (fun _ _ => rfl)) pe_int (fun _ _ => rfl)) pa_nil)), ?_⟩
    exact ⟨_, rfl, a, C, dx, _, _, rfl, h1, R.cl, R.nT, rfl, _, rfl, a, C, dx, _, _, rfl, h1, R.cl, R.nA, rfl, tl, rs, _, _, rfl, rfl, h2, h3, qa, _, _, _, rfl, rfl, h4, atI_nat (j := 2) rfl, _, rfl, ev_nat h5, fun d hd => q _ d (same_new hd) upd_same⟩
theorem tv_scal {v : V} {w : Str} (h : TV v) : scal v (.str w) = true := by
  rcases h with ⟨x, rfl⟩ | ⟨n, rfl⟩ <;> rfl
theorem ok_rSkip {f : Addr} {fd : FuncData} {k : Nat} (F : Fun K "skip" "Reader.skip" rSkip f fd) (R : RdC K C) (MV : Mt P w K mg base CX0 (k + 1) C "value" ["self"] (sprValue C)) : FnOk P w K mg base CX0 (k + 2) f fd ["self", "word"] (sprSkip C) := by
  obtain ⟨fV, fdV, GV, mV, bV⟩ := MV.ex
  refine F.ok scrSkip (fun vs H Q E h => ?_) (fun cdv A outer s H vs Q E hr h => ?_)
  · obtain ⟨a, tl, r, w, rfl, _⟩ := h
    rfl
  · obtain ⟨a, tl, r, w, rfl, hw, hR, q⟩ := h
    refine ⟨_, pss_cons (ps_if (pt_cmpR op_ne (pe_meth0 (pv 0) R.cl mV GV hr bV .nil pass0) (pv 1) (nomark _)) (pss_one (ps_ret pe_bl)) pss_nil)
      (pss_cons (ps_fldaug (pv 0) pe_int in_add) (pss_one (ps_ret pe_bl))), ?_⟩
    have hRR := hR
    obtain ⟨dx0, i0, rs0, ts0, g1, g2, g3, g4, g5, g6⟩ := hR
    refine ⟨_, rfl, a, dx0, _, rfl, g1, rfl, a, tl, r, rfl, hRR, _, rfl, tv_scal g5.val, _, rfl, ?_⟩
    have e0 : wordAt w r = decide (valAt r = .str w) := rfl
    rw [← e0]
    cases hc : wordAt w r with
    | false =>
      refine iteT ?_
      rw [hc] at q
      refine q H (Ev.refl _ _) ?_
      unfold mSkip
      rw [hc, if_neg Bool.false_ne_true]
      exact hRR
    | true =>
      refine iteF ?_
      rw [hc] at q
      obtain ⟨dx, i, h1, h2, h3⟩ := rd_on hRR (g5.word hw hc)
      refine ⟨_, rfl, a, C, dx, _, _, rfl, h1, R.cl, R.nA, rfl, _, _, rfl, rfl, dx, _, h1, (by show 2 < 1000; decide), ?_⟩
      refine q _ h3 ?_
      unfold mSkip
      rw [hc, if_pos rfl]
      exact h2
theorem ok_rTake {f : Addr} {fd : FuncData} {k : Nat} (F : Fun K "take" "Reader.take" rTake f fd) (R : RdC K C) (MS : Mt P w K mg base CX0 (k + 2) C "skip" ["self", "word"] (sprSkip C)) (MF : Mt P w K mg base (L2.CX P w) (k + 1) C "fail" ["self"] (sprFail C cT)) :
    FnOk P w K mg base (L2.CX P w) (k + 3) f fd ["self", "word"] (sprTake C cT) := by
  obtain ⟨fS, fdS, GS, mS, bS⟩ := MS.ex
  obtain ⟨fF, fdF, GF, mF, bF⟩ := MF.ex
  refine F.okX scrTake (fun vs H Q E h => ?_) (fun cdv A outer s H vs Q E hr h => ?_)
  · obtain ⟨a, tl, r, w, rfl, _⟩ := h
    rfl
  · obtain ⟨a, tl, r, w, rfl, hw, hR, q⟩ := h
    have hr1 : Room (k + 1) _ := hr.mono (by omega)
    refine ⟨_, pss_one (ps_if (pt_not (pt_val (pe_meth (pv 0) R.cl mS GS hr bS .nil pass0 (pa_cons (pv 1) pa_nil)) (by intro _; rfl))) (pss_one (ps_expr (pe_meth0 (pv 0) R.cl mF GF hr1 bF .nil (passE (takes_of rfl rfl rfl rfl))))) pss_nil), ?_⟩
    have hRR := hR
    obtain ⟨dx0, i0, rs0, ts0, g1, _⟩ := hR
    refine ⟨_, rfl, a, dx0, _, rfl, g1, rfl, _, rfl, a, tl, r, w, rfl, hw, hRR, fun H1 ev1 hR1 => ⟨_, rfl, ?_⟩⟩
    unfold mTake at q
    cases hc : wordAt w r with
    | true =>
      rw [hc, if_pos rfl] at q
      unfold mSkip at hR1
      rw [hc, if_pos rfl] at hR1
      exact iteF (q H1 ev1 hR1)
    | false =>
      rw [hc, if_neg Bool.false_ne_true] at q
      unfold mSkip at hR1
      rw [hc, if_neg Bool.false_ne_true] at hR1
      have hRR1 := hR1
      obtain ⟨dx1, i1, rs1, ts1, j1, _⟩ := hR1
      exact iteT ⟨_, rfl, a, dx1, _, rfl, j1, rfl, a, tl, r, rfl, hRR1, fun H' x s hx => q H' x (ev1.trans (Ev.same s)) hx⟩
theorem ok_rTakeK {f : Addr} {fd : FuncData} {k : Nat} (F : Fun K "take_kind" "Reader.take_kind" rTakeK f fd) (R : RdC K C) (MK : Mt P w K mg base CX0 (k + 1) C "kind" ["self"] (sprKind C)) (MV : Mt P w K mg base CX0 (k + 1) C "value" ["self"] (sprValue C)) (MF : Mt P w K mg base (L2.CX P w) (k + 1) C "fail" ["self"] (sprFail C cT)) :
    FnOk P w K mg base (L2.CX P w) (k + 2) f fd ["self", "kind"] (sprTakeK C cT) := by
  obtain ⟨fK, fdK, GK, mK, bK⟩ := MK.ex
  obtain ⟨fV, fdV, GV, mV, bV⟩ := MV.ex
  obtain ⟨fF, fdF, GF, mF, bF⟩ := MF.ex
  refine F.okX scrTakeK (fun vs H Q E h => ?_) (fun cdv A outer s H vs Q E hr h => ?_)
  · obtain ⟨a, tl, r, w, rfl, _⟩ := h
    rfl
  · obtain ⟨a, tl, r, w, rfl, hw, hR, q⟩ := h
    have nd := scrTakeK.nd
    refine ⟨_, pss_cons (ps_if (pt_cmpR op_ne (pe_meth0 (pv 0) R.cl mK GK hr bK .nil pass0) (pv 1) (nomark _)) (pss_one (ps_expr (pe_meth0 (pv 0) R.cl mF GF hr bF .nil (passE (takes_of rfl rfl rfl rfl))))) pss_nil)
      (pss_cons (ps_set (i := 2) nd rfl (.inl rfl) (pe_meth0 (pv 0) R.cl mV GV hr bV .nil pass0))
      (pss_cons (ps_fldaug (pv 0) pe_int in_add) (pss_one (ps_ret (pv 2))))), ?_⟩
    have hRR := hR
    obtain ⟨dx0, i0, rs0, ts0, g1, g2, g3, g4, g5, g6⟩ := hR
    refine ⟨_, rfl, a, dx0, _, rfl, g1, rfl, a, tl, r, rfl, hRR, _, rfl, rfl, _, rfl, ?_⟩
    unfold mKind at q
    by_cases hc : kindAt r = w
    · rw [if_pos hc] at q
      rw [hc, decide_eq_true rfl]
      refine iteF ⟨_, rfl, a, dx0, _, rfl, g1, rfl, a, tl, r, rfl, hRR, ?_⟩
      obtain ⟨dx, i, h1, h2, h3⟩ := rd_on hRR (g5.tl (.inl fun z => hw (by rw [← hc, z])))
      exact ⟨_, rfl, a, C, dx, _, _, rfl, h1, R.cl, R.nA, rfl, _, _, rfl, rfl, dx, _, h1, (by show 2 < 1000; decide), _, rfl, q _ h3 h2⟩
    · rw [if_neg hc] at q
      rw [decide_eq_false (fun z => hc (V.str.inj z))]
      exact iteT ⟨_, rfl, a, dx0, _, rfl, g1, rfl, a, tl, r, rfl, hRR, fun H' x s hx => q H' x (Ev.same s) hx⟩
theorem ok_rName {f : Addr} {fd : FuncData} {k : Nat} (F : Fun K "take_name" "Reader.take_name" rName f fd) (R : RdC K C) (MT : Mt P w K mg base (L2.CX P w) (k + 2) C "take_kind" ["self", "kind"] (sprTakeK C cT)) : FnOk P w K mg base (L2.CX P w) (k + 3) f fd ["self"] (sprName C cT) := by
  obtain ⟨fK, fdK, GK, mK, bK⟩ := MT.ex
  refine F.okX scrName (fun vs H Q E h => ?_) (fun cdv A outer s H vs Q E hr h => ?_)
  · obtain ⟨a, tl, r, rfl, _⟩ := h
    rfl
  · obtain ⟨a, tl, r, rfl, hR, q⟩ := h
    refine ⟨_, pss_one (ps_ret (pe_meth (pv 0) R.cl mK GK hr bK .nil (passE (takes_of rfl rfl rfl rfl)) (pa_cons pe_str pa_nil))), ?_⟩
    have hRR := hR
    obtain ⟨dx0, i0, rs0, ts0, g1, _⟩ := hR
    exact ⟨_, rfl, a, dx0, _, rfl, g1, rfl, a, tl, r, _, rfl, by decide +kernel, hRR, q⟩
theorem ok_rNumber {f : Addr} {fd : FuncData} {k : Nat} (F : Fun K "take_number" "Reader.take_number" rNumber f fd) (R : RdC K C) (MT : Mt P w K mg base (L2.CX P w) (k + 2) C "take_kind" ["self", "kind"] (sprTakeK C cT)) : FnOk P w K mg base (L2.CX P w) (k + 3) f fd ["self"] (sprNumber C cT) := by
  obtain ⟨fK, fdK, GK, mK, bK⟩ := MT.ex
  refine F.okX scrNumber (fun vs H Q E h => ?_) (fun cdv A outer s H vs Q E hr h => ?_)
  · obtain ⟨a, tl, r, rfl, _⟩ := h
    rfl
  · obtain ⟨a, tl, r, rfl, hR, q⟩ := h
    refine ⟨_, pss_one (ps_ret (pe_meth (pv 0) R.cl mK GK hr bK .nil (passE (takes_of rfl rfl rfl rfl)) (pa_cons pe_str pa_nil))), ?_⟩
    have hRR := hR
    obtain ⟨dx0, i0, rs0, ts0, g1, _⟩ := hR
    exact ⟨_, rfl, a, dx0, _, rfl, g1, rfl, a, tl, r, _, rfl, by decide +kernel, hRR, q⟩
theorem ok_rEnd {f : Addr} {fd : FuncData} {k : Nat} (F : Fun K "check_end" "Reader.check_end" rEnd f fd) (R : RdC K C) (MK : Mt P w K mg base CX0 (k + 1) C "kind" ["self"] (sprKind C)) (MF : Mt P w K mg base (L2.CX P w) (k + 1) C "fail" ["self"] (sprFail C cT)) :
    FnOk P w K mg base (L2.CX P w) (k + 2) f fd ["self"] (sprEnd C cT) := by
  obtain ⟨fK, fdK, GK, mK, bK⟩ := MK.ex
  obtain ⟨fF, fdF, GF, mF, bF⟩ := MF.ex
  refine F.okX scrEnd (fun vs H Q E h => ?_) (fun cdv A outer s H vs Q E hr h => ?_)
  · obtain ⟨a, tl, r, rfl, _⟩ := h
    rfl
  · obtain ⟨a, tl, r, rfl, hR, q⟩ := h
    refine ⟨_, pss_one (ps_if (pt_cmpR op_ne (pe_meth0 (pv 0) R.cl mK GK hr bK .nil pass0) pe_str (nomark _)) (pss_one (ps_expr (pe_meth0 (pv 0) R.cl mF GF hr bF .nil (passE (takes_of rfl rfl rfl rfl))))) pss_nil), ?_⟩
    have hRR := hR
    obtain ⟨dx0, i0, rs0, ts0, g1, _⟩ := hR
    refine ⟨_, rfl, a, dx0, _, rfl, g1, rfl, a, tl, r, rfl, hRR, rfl, _, rfl, ?_⟩
    unfold mEnd at q
    by_cases hc : kindAt r = Str.ofString "end"
    · rw [if_pos hc] at q
      rw [decide_eq_true (congrArg V.str hc)]
      exact iteF (q H (Ev.refl _ _) hRR)
    · rw [if_neg hc] at q
      rw [decide_eq_false (fun z => hc (V.str.inj z))]
      exact iteT ⟨_, rfl, a, dx0, _, rfl, g1, rfl, a, tl, r, rfl, hRR, fun H' x s hx => q H' x (Ev.same s) hx⟩
theorem tv_flat {v : V} (h : TV v) : flatV v = true := by
  rcases h with ⟨x, rfl⟩ | ⟨n, rfl⟩ <;> rfl
theorem inV_mem {v : V} (ws : List Str) (h : TV v) (e : inV v (ws.map V.str) = true) : ∃ x ∈ ws, v = .str x := by
  rcases h with ⟨x, rfl⟩ | ⟨n, rfl⟩
  · rw [inV_strs] at e
    exact ⟨x, of_decide_eq_true e, rfl⟩
  · rw [inV_int] at e
    cases e
theorem ok_rOne {f : Addr} {fd : FuncData} {k : Nat} (F : Fun K "take_one" "Reader.take_one" rOne f fd) (R : RdC K C) (MV : Mt P w K mg base CX0 (k + 1) C "value" ["self"] (sprValue C)) (MF : Mt P w K mg base (L2.CX P w) (k + 1) C "fail" ["self"] (sprFail C cT)) :
    FnOk P w K mg base (L2.CX P w) (k + 2) f fd ["self", "words"] (sprOne K C cT) := by
  obtain ⟨fV, fdV, GV, mV, bV⟩ := MV.ex
  obtain ⟨fF, fdF, GF, mF, bF⟩ := MF.ex
  refine F.okX scrOne (fun vs H Q E h => ?_) (fun cdv A outer s H vs Q E hr h => ?_)
  · obtain ⟨a, tl, p, r, ws, rfl, _⟩ := h
    rfl
  · obtain ⟨a, tl, p, r, ws, rfl, hp, hw, hR, q⟩ := h
    have nd := scrOne.nd
    refine ⟨_, pss_cons (ps_set (i := 2) nd rfl (.inl rfl) (pe_meth0 (pv 0) R.cl mV GV hr bV .nil pass0))
      (pss_cons (ps_if (pt_cmpR op_notIn_seq (pv 2) (pv 1) (by rfl)) (pss_one (ps_expr (pe_meth0 (pv 0) R.cl mF GF hr bF .nil (passE (takes_of rfl rfl rfl rfl))))) pss_nil)
      (pss_cons (ps_fldaug (pv 0) pe_int in_add) (pss_one (ps_ret (pv 2))))), ?_⟩
    have hRR := hR
    obtain ⟨dx0, i0, rs0, ts0, g1, g2, g3, g4, g5, g6⟩ := hR
    refine ⟨_, rfl, a, dx0, _, rfl, g1, rfl, a, tl, r, rfl, hRR, _, rfl, _, rfl, p, _, rfl, .inr (hp.at _), tv_flat g5.val, flat_strs _, _, rfl, ?_⟩
    unfold mOne at q
    cases hc : inV (valAt r) (ws.map V.str) with
    | true =>
      rw [hc, if_pos rfl] at q
      obtain ⟨x, hx, hv⟩ := inV_mem ws g5.val hc
      refine iteF ?_
      obtain ⟨dx, i, h1, h2, h3⟩ := rd_on hRR (g5.tl (.inr fun z => by
        rw [hv] at z
        exact hw (by rw [← V.str.inj z]; exact hx)))
      exact ⟨_, rfl, a, C, dx, _, _, rfl, h1, R.cl, R.nA, rfl, _, _, rfl, rfl, dx, _, h1, (by show 2 < 1000; decide), _, rfl, q _ h3 h2⟩
    | false =>
      rw [hc, if_neg Bool.false_ne_true] at q
      exact iteT ⟨_, rfl, a, dx0, _, rfl, g1, rfl, a, tl, r, rfl, hRR, fun H' x s hx => q H' x (Ev.same s) hx⟩
end
end Pk
set_option Elab.async false
set_option linter.all false
set_option maxRecDepth 100000
set_option maxHeartbeats 4000000
namespace Tk
open PySem L2 SX
/-! ### the mirror of the parser -/
abbrev Rs := Except Nat (PyData × Rem)
abbrev RsL := Except Nat (List PyData × Rem)
def bd {α β : Type} (x : Except Nat α) (f : α → Except Nat β) : Except Nat β := match x with
  | .error l => .error l
  | .ok a => f a
theorem bd_ok {α β : Type} {a : α} {f : α → Except Nat β} : bd (.ok a) f = f a := rfl
theorem bd_err {α β : Type} {l : Nat} {f : α → Except Nat β} : bd (.error l : Except Nat α) f = .error l := rfl
theorem bd_inv {α β : Type} {x : Except Nat α} {f : α → Except Nat β} {b : β} (h : bd x f = .ok b) : ∃ a, x = .ok a ∧ f a = .ok b := by
  cases x with
  | error l => cases h
  | ok a => exact ⟨a, rfl, h⟩
/-- while not reader.skip(stop): .. -/
def mLoop (stop : Str) (step : Rem → Rs) : Nat → Rem → RsL
  | 0, r => .error (lineAt r)
  | f + 1, r => if wordAt stop r = true then .ok ([], r.tail) else bd (step r) fun p => bd (mLoop stop step f p.2) fun q => .ok (p.1 :: q.1, q.2)
/-- while reader.skip(word): .. -/
def mMany (word : Str) (step : Rem → Rs) : Nat → Rem → RsL
  | 0, r => .error (lineAt r)
  | f + 1, r => if wordAt word r = true then bd (step r.tail) fun p => bd (mMany word step f p.2) fun q => .ok (p.1 :: q.1, q.2) else .ok ([], r)
theorem mLoop_s (stop : Str) (step : Rem → Rs) (f : Nat) (r : Rem) : mLoop stop step (f + 1) r = if wordAt stop r = true then .ok ([], r.tail) else bd (step r) fun p => bd (mLoop stop step f p.2) fun q => .ok (p.1 :: q.1, q.2) := by rw [mLoop]
theorem mMany_s (word : Str) (step : Rem → Rs) (f : Nat) (r : Rem) : mMany word step (f + 1) r = if wordAt word r = true then bd (step r.tail) fun p => bd (mMany word step f p.2) fun q => .ok (p.1 :: q.1, q.2) else .ok ([], r) := by rw [mMany]
/-- what a part leaves is shorter -/
def Short (m : Rem → Rs) : Prop := ∀ r d r2, m r = .ok (d, r2) → r2.length < r.length
theorem tail_lt {r : Rem} (h : r ≠ []) : r.tail.length < r.length := by
  cases r with
  | nil => exact absurd rfl h
  | cons t r => exact Nat.lt_succ_self _
theorem word_ne {w : Str} {r : Rem} (h : wordAt w r = true) : r ≠ [] := by
  rintro rfl
  have : decide (V.non = .str w) = true := h
  exact absurd (of_decide_eq_true this) fun z => by cases z
theorem take_lt {w : Str} {r r2 : Rem} (h : mTake w r = .ok r2) : r2.length < r.length := by
  unfold mTake at h
  split at h
  · rename_i c
    cases h
    exact tail_lt (word_ne c)
  · cases h
theorem kind_lt {k : Str} {r r2 : Rem} {v : V} (hk : k ≠ Str.empty) (h : mKind k r = .ok (v, r2)) : r2.length < r.length := by
  unfold mKind at h
  split at h
  · rename_i c
    cases h
    refine tail_lt fun z => hk ?_
    rw [z] at c
    exact c.symm
  · cases h
theorem name_lt {r r2 : Rem} {v : V} (h : mName r = .ok (v, r2)) : r2.length < r.length := kind_lt (by decide +kernel) h
theorem num_lt {r r2 : Rem} {v : V} (h : mNum r = .ok (v, r2)) : r2.length < r.length := kind_lt (by decide +kernel) h
theorem one_lt {ws : List Str} {r r2 : Rem} {v : V} (h : mOne ws r = .ok (v, r2)) : r2.length < r.length := by
  unfold mOne at h
  split at h
  · rename_i c
    cases h
    refine tail_lt fun z => ?_
    rw [z] at c
    have key : ∀ ws : List Str, inV .non (ws.map V.str) = false := by
      intro ws
      induction ws with
      | nil => rfl
      | cons a ws ih =>
        show (inV .non ([V.str a] ++ ws.map V.str)) = false
        unfold inV at ih ⊢
        rw [List.any_append, ih]
        rfl
    have c' : inV .non (ws.map V.str) = true := c
    rw [key] at c'
    cases c'
  · cases h
theorem loop_lt {stop : Str} {step : Rem → Rs} (hs : Short step) : ∀ (f : Nat) (r : Rem) (ds : List PyData) (r2 : Rem), mLoop stop step f r = .ok (ds, r2) → r2.length < r.length
  | 0, _, _, _, h => by cases h
  | f + 1, r, ds, r2, h => by
    rw [mLoop_s] at h
    split at h
    · rename_i c
      cases h
      exact tail_lt (word_ne c)
    · obtain ⟨p, h1, h⟩ := bd_inv h
      obtain ⟨q, h2, h⟩ := bd_inv h
      cases h
      have := loop_lt hs f _ _ _ h2
      have := hs _ _ _ h1
      omega
theorem many_le {word : Str} {step : Rem → Rs} (hs : Short step) : ∀ (f : Nat) (r : Rem) (ds : List PyData) (r2 : Rem), mMany word step f r = .ok (ds, r2) → r2.length ≤ r.length
  | 0, _, _, _, h => by cases h
  | f + 1, r, ds, r2, h => by
    rw [mMany_s] at h
    split at h
    · rename_i c
      obtain ⟨p, h1, h⟩ := bd_inv h
      obtain ⟨q, h2, h⟩ := bd_inv h
      cases h
      have := many_le hs f _ _ _ h2
      have := hs _ _ _ h1
      have := tail_lt (word_ne c)
      omega
    · cases h
      exact Nat.le_refl _
/-! the parts -/
def endTargets : List Str := ["accept", "reject"].map Str.ofString
def ownerWords : List Str := ["meta", "packet"].map Str.ofString
def operators : List Str := ["+", "-", "&", "|", "^"].map Str.ofString
def keyKinds : List Str := ["exact", "mask", "prefix"].map Str.ofString
def comparisons : List Str := ["==", "<"].map Str.ofString
def mWidth (r : Rem) : Rs := bd (mName r) fun n => bd (mTake ":" n.2) fun r => bd (mNum r) fun m => .ok (.tuple [tvD n.1, tvD m.1], m.2)
def mFieldStep (r : Rem) : Rs := bd (mWidth r) fun p => bd (mTake ";" p.2) fun r => .ok (p.1, r)
def mFields (r : Rem) : RsL := bd (mTake "{" r) fun r => mLoop "}" mFieldStep (r.length + 1) r
def mHeader (r : Rem) : Rs := bd (mName r) fun n => bd (mFields n.2) fun p => .ok (.tuple [.str "header", tvD n.1, .list p.1], p.2)
def mTargetV (r : Rem) : Except Nat (V × Rem) := if inV (valAt r) (endTargets.map V.str) = true then mOne endTargets r else mName r
def mOwnerV (r : Rem) : Except Nat (V × Rem) := if inV (valAt r) (ownerWords.map V.str) = true then mOne ownerWords r else mName r
def mField (r : Rem) : Rs := bd (mOwnerV r) fun o => bd (mTake "." o.2) fun r => bd (mName r) fun n => .ok (.tuple [tvD o.1, tvD n.1], n.2)
def mOpt (word : Str) (m : Rem → Rs) (r : Rem) : Rs := if wordAt word r = true then m r.tail else .ok (.none, r)
def mNumD (r : Rem) : Rs := bd (mNum r) fun p => .ok (tvD p.1, p.2)
def mNameD (r : Rem) : Rs := bd (mName r) fun p => .ok (tvD p.1, p.2)
def mNameS (r : Rem) : Rs := bd (mName r) fun p => bd (mTake ";" p.2) fun r => .ok (tvD p.1, r)
def mRow (r : Rem) : Rs := bd (mNum r) fun v => bd (mOpt "&" mNumD v.2) fun m => bd (mTake "->" m.2) fun r => bd (mTargetV r) fun t => bd (mTake ";" t.2) fun r => .ok (.tuple [tvD v.1, m.1, tvD t.1], r)
def mSelEnd (r : Rem) : Except Nat (V × Rem) := bd (mTake "->" r) fun r => bd (mTargetV r) fun t => bd (mTake ";" t.2) fun r => bd (mTake "}" r) fun r => .ok (t.1, r)
def mWay (r : Rem) : Rs := if wordAt "go" r = true then bd (mTargetV r.tail) fun t => bd (mTake ";" t.2) fun r => .ok (.tuple [.str "go", tvD t.1], r)
  else bd (mTake "select" r) fun r => bd (mField r) fun f => bd (mTake "{" f.2) fun r => bd (mLoop "else" mRow (r.length + 1) r) fun rows => bd (mSelEnd rows.2) fun t => .ok (.tuple [.str "select", f.1, .list rows.1, tvD t.1], t.2)
def mState (r : Rem) : Rs := bd (mTake "state" r) fun r => bd (mName r) fun n => bd (mTake "{" n.2) fun r => bd (mOpt "extract" mNameS r) fun h => bd (mWay h.2) fun w => bd (mTake "}" w.2) fun r => .ok (.tuple [.str "state", tvD n.1, h.1, w.1], r)
def mStates (r : Rem) : RsL := bd (mTake "{" r) fun r => mLoop "}" mState (r.length + 1) r
def mListIn (o c : Str) (step : Rem → Rs) (r : Rem) : RsL := bd (mTake o r) fun r => if wordAt c r = true then .ok ([], r.tail) else bd (step r) fun p => bd (mMany "," step (p.2.length + 1) p.2) fun q => bd (mTake c q.2) fun r => .ok (p.1 :: q.1, r)
def mParams : Rem → RsL := mListIn "(" ")" mWidth
def mArgs : Rem → RsL := mListIn "(" ")" mNumD
def mOperand (r : Rem) : Rs := if kindAt r = Str.ofString "number" then bd (mNum r) fun n => .ok (.tuple [.str "num", tvD n.1], n.2)
  else bd (mOwnerV r) fun o => if (!inV o.1 (ownerWords.map V.str) && !wordAt "." o.2) = true then .ok (.tuple [.str "param", tvD o.1], o.2) else bd (mTake "." o.2) fun r => bd (mName r) fun n => .ok (.tuple [.str "field", tvD o.1, tvD n.1], n.2)
def mExpr (r : Rem) : Rs := bd (mOperand r) fun x => if inV (valAt x.2) (operators.map V.str) = true then bd (mOne operators x.2) fun o => bd (mOperand o.2) fun y => .ok (.tuple [tvD o.1, x.1, y.1], y.2) else .ok (x.1, x.2)
def mOper0 (r : Rem) : Rs := if wordAt "send" r = true then bd (mExpr r.tail) fun e => .ok (.tuple [.str "send", e.1], e.2)
  else if wordAt "drop" r = true then .ok (.tuple [.str "drop"], r.tail)
  else if wordAt "add" r = true then bd (mName r.tail) fun n => .ok (.tuple [.str "add", tvD n.1], n.2)
  else if wordAt "remove" r = true then bd (mName r.tail) fun n => .ok (.tuple [.str "remove", tvD n.1], n.2)
  else bd (mField r) fun f => bd (mTake "=" f.2) fun r => bd (mExpr r) fun e => .ok (.tuple [.str "set", f.1, e.1], e.2)
def mOper (r : Rem) : Rs := bd (mOper0 r) fun o => bd (mTake ";" o.2) fun r => .ok (o.1, r)
def mAction (r : Rem) : Rs := bd (mName r) fun n => bd (mParams n.2) fun p => bd (mTake "{" p.2) fun r => bd (mLoop "}" mOper (r.length + 1) r) fun q => .ok (.tuple [.str "action", tvD n.1, .list p.1, .list q.1], q.2)
def mKey (r : Rem) : Rs := bd (mField r) fun f => bd (mOne keyKinds f.2) fun k => bd (mTake ";" k.2) fun r => .ok (.tuple [f.1, tvD k.1], r)
def mDefault (r : Rem) : Rs := bd (mTake "default" r) fun r => bd (mName r) fun n => bd (mArgs n.2) fun p => bd (mTake ";" p.2) fun r => .ok (.tuple [tvD n.1, .list p.1], r)
def mTable (r : Rem) : Rs := bd (mName r) fun n => bd (mTake "{" n.2) fun r => bd (mMany "key" mKey (r.length + 1) r) fun ks => bd (mMany "use" mNameS (ks.2.length + 1) ks.2) fun us => bd (mDefault us.2) fun d => bd (mTake "size" d.2) fun r => bd (mNum r) fun z =>
  bd (mTake ";" z.2) fun r => bd (mTake "}" r) fun r => .ok (.tuple [.str "table", tvD n.1, .list ks.1, .list us.1, d.1, tvD z.1], r)
def mCmp (r : Rem) : Rs := if wordAt "valid" r = true then bd (mName r.tail) fun n => .ok (.tuple [.str "valid", tvD n.1], n.2) else bd (mField r) fun f => bd (mOne comparisons f.2) fun s => bd (mNum s.2) fun n => .ok (.tuple [tvD s.1, f.1, tvD n.1], n.2)
def mNots : Nat → Rem → Nat × Rem
  | 0, r => (0, r)
  | n + 1, r => if wordAt "not" r = true then ((mNots n r.tail).1 + 1, (mNots n r.tail).2) else (0, r)
def wrapN : Nat → PyData → PyData
  | 0, d => d
  | n + 1, d => .tuple [.str "not", wrapN n d]
def mCond (r : Rem) : Rs := bd (mCmp (mNots 8 r).2) fun c => .ok (wrapN (mNots 8 r).1 c.1, c.2)
def mStmt (blk : Rem → RsL) (r : Rem) : Rs := if wordAt "apply" r = true then bd (mName r.tail) fun n => bd (mTake ";" n.2) fun r => .ok (.tuple [.str "apply", tvD n.1], r)
  else bd (mTake "if" r) fun r => bd (mCond r) fun c => bd (blk c.2) fun t => bd (if wordAt "else" t.2 = true then blk t.2.tail else .ok ([], t.2)) fun e => .ok (.tuple [.str "if", c.1, .list t.1, .list e.1], e.2)
def mBlock : Nat → Rem → RsL
  | 0, r => .error (lineAt r)
  | n + 1, r => bd (mTake "{" r) fun r => mLoop "}" (mStmt (mBlock n)) (r.length + 1) r
def mEmits (r : Rem) : RsL := bd (mName r) fun n => bd (mMany "," mNameD (n.2.length + 1) n.2) fun q => bd (mTake ";" q.2) fun r => .ok (tvD n.1 :: q.1, r)
def mProgram (r : Rem) : Rs := bd (mTake "program" r) fun r => bd (mName r) fun n => bd (mMany "header" mHeader (n.2.length + 1) n.2) fun hs => bd (if wordAt "meta" hs.2 = true then mFields hs.2.tail else .ok ([], hs.2)) fun ms =>
  bd (mTake "parser" ms.2) fun r => bd (mStates r) fun ss => bd (mMany "action" mAction (ss.2.length + 1) ss.2) fun as => bd (mMany "table" mTable (as.2.length + 1) as.2) fun ts => bd (mTake "control" ts.2) fun r => bd (mBlock 8 r) fun cs =>
  bd (if wordAt "emit" cs.2 = true then mEmits cs.2.tail else .ok ([], cs.2)) fun es => bd (mEnd es.2) fun r => .ok (.tuple [.str "program", tvD n.1, .list hs.1, .list ms.1, .list ss.1, .list as.1, .list ts.1, .list cs.1, .list es.1], r)
theorem width_short : Short mWidth := fun r d r2 h => by
  obtain ⟨n, h1, h⟩ := bd_inv h
  obtain ⟨x, h2, h⟩ := bd_inv h
  obtain ⟨m, h3, h⟩ := bd_inv h
  cases h
  have := name_lt h1
  have := take_lt h2
  have := num_lt h3
  omega
theorem fieldStep_short : Short mFieldStep := fun r d r2 h => by
  obtain ⟨n, h1, h⟩ := bd_inv h
  obtain ⟨x, h2, h⟩ := bd_inv h
  cases h
  have := width_short _ _ _ h1
  have := take_lt h2
  omega
theorem target_lt {r r2 : Rem} {v : V} (h : mTargetV r = .ok (v, r2)) : r2.length < r.length := by
  unfold mTargetV at h
  split at h
  · exact one_lt h
  · exact name_lt h
theorem owner_lt {r r2 : Rem} {v : V} (h : mOwnerV r = .ok (v, r2)) : r2.length < r.length := by
  unfold mOwnerV at h
  split at h
  · exact one_lt h
  · exact name_lt h
theorem opt_le {w : Str} {m : Rem → Rs} (hm : Short m) {r r2 : Rem} {d : PyData} (h : mOpt w m r = .ok (d, r2)) : r2.length ≤ r.length := by
  unfold mOpt at h
  split at h
  · rename_i c
    have := hm _ _ _ h
    have := tail_lt (word_ne c)
    omega
  · cases h
    exact Nat.le_refl _
theorem numD_short : Short mNumD := fun r d r2 h => by
  obtain ⟨n, h1, h⟩ := bd_inv h
  cases h
  exact num_lt h1
theorem nameD_short : Short mNameD := fun r d r2 h => by
  obtain ⟨n, h1, h⟩ := bd_inv h
  cases h
  exact name_lt h1
theorem nameS_short : Short mNameS := fun r d r2 h => by
  obtain ⟨n, h1, h⟩ := bd_inv h
  obtain ⟨x, h2, h⟩ := bd_inv h
  cases h
  have := name_lt h1
  have := take_lt h2
  omega
theorem field_short : Short mField := fun r d r2 h => by
  obtain ⟨n, h1, h⟩ := bd_inv h
  obtain ⟨x, h2, h⟩ := bd_inv h
  obtain ⟨y, h3, h⟩ := bd_inv h
  cases h
  have := owner_lt h1
  have := take_lt h2
  have := name_lt h3
  omega
theorem fields_lt {r r2 : Rem} {ds : List PyData} (h : mFields r = .ok (ds, r2)) : r2.length < r.length := by
  obtain ⟨x, h2, h⟩ := bd_inv h
  have := take_lt h2
  have := loop_lt fieldStep_short _ _ _ _ h
  omega
theorem header_short : Short mHeader := fun r d r2 h => by
  obtain ⟨n, h1, h⟩ := bd_inv h
  obtain ⟨x, h2, h⟩ := bd_inv h
  cases h
  have := name_lt h1
  have := fields_lt h2
  omega
theorem row_short : Short mRow := fun r d r2 h => by
  obtain ⟨n, h1, h⟩ := bd_inv h
  obtain ⟨x, h2, h⟩ := bd_inv h
  obtain ⟨y, h3, h⟩ := bd_inv h
  obtain ⟨z, h4, h⟩ := bd_inv h
  obtain ⟨u, h5, h⟩ := bd_inv h
  cases h
  have := num_lt h1
  have := opt_le numD_short h2
  have := take_lt h3
  have := target_lt h4
  have := take_lt h5
  omega
theorem selEnd_lt {r r2 : Rem} {v : V} (h : mSelEnd r = .ok (v, r2)) : r2.length < r.length := by
  obtain ⟨y, h3, h⟩ := bd_inv h
  obtain ⟨z, h4, h⟩ := bd_inv h
  obtain ⟨u, h5, h⟩ := bd_inv h
  obtain ⟨w, h6, h⟩ := bd_inv h
  cases h
  have := take_lt h3
  have := target_lt h4
  have := take_lt h5
  have := take_lt h6
  omega
theorem way_short : Short mWay := fun r d r2 h => by
  unfold mWay at h
  split at h
  · rename_i c
    obtain ⟨z, h4, h⟩ := bd_inv h
    obtain ⟨u, h5, h⟩ := bd_inv h
    cases h
    have := target_lt h4
    have := take_lt h5
    have := tail_lt (word_ne c)
    omega
  · obtain ⟨y, h3, h⟩ := bd_inv h
    obtain ⟨z, h4, h⟩ := bd_inv h
    obtain ⟨u, h5, h⟩ := bd_inv h
    obtain ⟨w, h6, h⟩ := bd_inv h
    obtain ⟨x, h7, h⟩ := bd_inv h
    cases h
    have := take_lt h3
    have := field_short _ _ _ h4
    have := take_lt h5
    have := loop_lt row_short _ _ _ _ h6
    have := selEnd_lt h7
    omega
theorem state_short : Short mState := fun r d r2 h => by
  obtain ⟨n, h1, h⟩ := bd_inv h
  obtain ⟨x, h2, h⟩ := bd_inv h
  obtain ⟨y, h3, h⟩ := bd_inv h
  obtain ⟨z, h4, h⟩ := bd_inv h
  obtain ⟨u, h5, h⟩ := bd_inv h
  obtain ⟨w, h6, h⟩ := bd_inv h
  cases h
  have := take_lt h1
  have := name_lt h2
  have := take_lt h3
  have := opt_le nameS_short h4
  have := way_short _ _ _ h5
  have := take_lt h6
  omega
theorem listIn_lt {o c : Str} {step : Rem → Rs} (hs : Short step) {r r2 : Rem} {ds : List PyData} (h : mListIn o c step r = .ok (ds, r2)) : r2.length < r.length := by
  obtain ⟨x, h1, h⟩ := bd_inv h
  have h2 := take_lt h1
  split at h
  · rename_i cc
    cases h
    have := tail_lt (word_ne cc)
    omega
  · obtain ⟨y, h3, h⟩ := bd_inv h
    obtain ⟨z, h4, h⟩ := bd_inv h
    obtain ⟨u, h5, h⟩ := bd_inv h
    cases h
    have := hs _ _ _ h3
    have := many_le hs _ _ _ _ h4
    have := take_lt h5
    omega
theorem operand_short : Short mOperand := fun r d r2 h => by
  unfold mOperand at h
  split at h
  · obtain ⟨z, h4, h⟩ := bd_inv h
    cases h
    exact num_lt h4
  · obtain ⟨z, h4, h⟩ := bd_inv h
    have := owner_lt h4
    split at h
    · cases h
      omega
    · obtain ⟨u, h5, h⟩ := bd_inv h
      obtain ⟨w, h6, h⟩ := bd_inv h
      cases h
      have := take_lt h5
      have := name_lt h6
      omega
theorem expr_short : Short mExpr := fun r d r2 h => by
  obtain ⟨z, h4, h⟩ := bd_inv h
  have := operand_short _ _ _ h4
  split at h
  · obtain ⟨u, h5, h⟩ := bd_inv h
    obtain ⟨w, h6, h⟩ := bd_inv h
    cases h
    have := one_lt h5
    have := operand_short _ _ _ h6
    omega
  · cases h
    omega
theorem oper0_short : Short mOper0 := fun r d r2 h => by
  unfold mOper0 at h
  split at h
  · rename_i c
    obtain ⟨z, h4, h⟩ := bd_inv h
    cases h
    have := expr_short _ _ _ h4
    have := tail_lt (word_ne c)
    omega
  · split at h
    · rename_i c
      cases h
      exact tail_lt (word_ne c)
    · split at h
      · rename_i c
        obtain ⟨z, h4, h⟩ := bd_inv h
        cases h
        have := name_lt h4
        have := tail_lt (word_ne c)
        omega
      · split at h
        · rename_i c
          obtain ⟨z, h4, h⟩ := bd_inv h
          cases h
          have := name_lt h4
          have := tail_lt (word_ne c)
          omega
        · obtain ⟨z, h4, h⟩ := bd_inv h
          obtain ⟨u, h5, h⟩ := bd_inv h
          obtain ⟨w, h6, h⟩ := bd_inv h
          cases h
          have := field_short _ _ _ h4
          have := take_lt h5
          have := expr_short _ _ _ h6
          omega
theorem oper_short : Short mOper := fun r d r2 h => by
  obtain ⟨u, h5, h⟩ := bd_inv h
  obtain ⟨w, h6, h⟩ := bd_inv h
  cases h
  have := oper0_short _ _ _ h5
  have := take_lt h6
  omega
theorem action_short : Short mAction := fun r d r2 h => by
  obtain ⟨n, h1, h⟩ := bd_inv h
  obtain ⟨x, h2, h⟩ := bd_inv h
  obtain ⟨y, h3, h⟩ := bd_inv h
  obtain ⟨z, h4, h⟩ := bd_inv h
  cases h
  have := name_lt h1
  have := listIn_lt width_short h2
  have := take_lt h3
  have := loop_lt oper_short _ _ _ _ h4
  omega
theorem key_short : Short mKey := fun r d r2 h => by
  obtain ⟨n, h1, h⟩ := bd_inv h
  obtain ⟨x, h2, h⟩ := bd_inv h
  obtain ⟨y, h3, h⟩ := bd_inv h
  cases h
  have := field_short _ _ _ h1
  have := one_lt h2
  have := take_lt h3
  omega
theorem default_short : Short mDefault := fun r d r2 h => by
  obtain ⟨n, h1, h⟩ := bd_inv h
  obtain ⟨x, h2, h⟩ := bd_inv h
  obtain ⟨y, h3, h⟩ := bd_inv h
  obtain ⟨z, h4, h⟩ := bd_inv h
  cases h
  have := take_lt h1
  have := name_lt h2
  have := listIn_lt numD_short h3
  have := take_lt h4
  omega
theorem table_short : Short mTable := fun r d r2 h => by
  obtain ⟨n, h1, h⟩ := bd_inv h
  obtain ⟨x, h2, h⟩ := bd_inv h
  obtain ⟨y, h3, h⟩ := bd_inv h
  obtain ⟨z, h4, h⟩ := bd_inv h
  obtain ⟨u, h5, h⟩ := bd_inv h
  obtain ⟨w, h6, h⟩ := bd_inv h
  obtain ⟨i, h7, h⟩ := bd_inv h
  obtain ⟨j, h8, h⟩ := bd_inv h
  obtain ⟨k, h9, h⟩ := bd_inv h
  cases h
  have := name_lt h1
  have := take_lt h2
  have := many_le key_short _ _ _ _ h3
  have := many_le nameS_short _ _ _ _ h4
  have := default_short _ _ _ h5
  have := take_lt h6
  have := num_lt h7
  have := take_lt h8
  have := take_lt h9
  omega
theorem cmp_short : Short mCmp := fun r d r2 h => by
  unfold mCmp at h
  split at h
  · rename_i c
    obtain ⟨z, h4, h⟩ := bd_inv h
    cases h
    have := name_lt h4
    have := tail_lt (word_ne c)
    omega
  · obtain ⟨z, h4, h⟩ := bd_inv h
    obtain ⟨u, h5, h⟩ := bd_inv h
    obtain ⟨w, h6, h⟩ := bd_inv h
    cases h
    have := field_short _ _ _ h4
    have := one_lt h5
    have := num_lt h6
    omega
theorem nots_le : ∀ (n : Nat) (r : Rem), (mNots n r).2.length ≤ r.length
  | 0, _ => Nat.le_refl _
  | n + 1, r => by
    unfold mNots
    split
    · have := nots_le n r.tail
      rw [List.length_tail] at this
      show (mNots n r.tail).2.length ≤ _
      omega
    · exact Nat.le_refl _
theorem cond_short : Short mCond := fun r d r2 h => by
  obtain ⟨u, h5, h⟩ := bd_inv h
  cases h
  have := cmp_short _ _ _ h5
  have := nots_le 8 r
  omega
theorem stmt_short {blk : Rem → RsL} (hb : ∀ r ds r2, blk r = .ok (ds, r2) → r2.length < r.length) : Short (mStmt blk) := fun r d r2 h => by
  unfold mStmt at h
  split at h
  · rename_i c
    obtain ⟨z, h4, h⟩ := bd_inv h
    obtain ⟨u, h5, h⟩ := bd_inv h
    cases h
    have := name_lt h4
    have := take_lt h5
    have := tail_lt (word_ne c)
    omega
  · obtain ⟨z, h4, h⟩ := bd_inv h
    obtain ⟨u, h5, h⟩ := bd_inv h
    obtain ⟨w, h6, h⟩ := bd_inv h
    obtain ⟨i, h7, h⟩ := bd_inv h
    cases h
    have := take_lt h4
    have := cond_short _ _ _ h5
    have := hb _ _ _ h6
    split at h7
    · have := hb _ _ _ h7
      rw [List.length_tail] at this
      omega
    · cases h7
      show (w.2).length < r.length
      omega
theorem block_lt : ∀ (n : Nat) (r : Rem) (ds : List PyData) (r2 : Rem), mBlock n r = .ok (ds, r2) → r2.length < r.length
  | 0, _, _, _, h => by cases h
  | n + 1, r, ds, r2, h => by
    obtain ⟨z, h4, h⟩ := bd_inv h
    have := take_lt h4
    have := loop_lt (stmt_short (block_lt n)) _ _ _ _ h
    omega
theorem emits_lt {r r2 : Rem} {ds : List PyData} (h : mEmits r = .ok (ds, r2)) : r2.length < r.length := by
  obtain ⟨n, h1, h⟩ := bd_inv h
  obtain ⟨x, h2, h⟩ := bd_inv h
  obtain ⟨y, h3, h⟩ := bd_inv h
  cases h
  have := name_lt h1
  have := many_le nameD_short _ _ _ _ h2
  have := take_lt h3
  omega
end Tk
set_option Elab.async false
set_option linter.all false
set_option maxRecDepth 100000
set_option maxHeartbeats 4000000
namespace Pk
open PySem PySem.Spec PyProof.Rows L2 SX GxR Tk PySem.ErX
abbrev pHeader : Stmt := topS 35
abbrev pFields : Stmt := topS 36
abbrev pWidth : Stmt := topS 37
abbrev pTarget : Stmt := topS 43
abbrev pField : Stmt := topS 49
abbrev pOwner : Stmt := topS 50
/-! ### what is built stands beside what stood -/
section
variable {K : PySem.W.Frag} {C : Addr}
theorem lift {a tl : Addr} {r : Tk.Rem} {H0 H H1 H2 : Hp} {v : V} {d : PyData} (h0 : Ev a H0 H) (hR : Rd C H a tl r) (k : Ev a H1 H2) (h : Dp K (New H H1) v d) : Dp K (New H0 H2) v d := dp_mono (new_mono hR.here.1 (ev_none h0 hR.here.1) k) h
theorem liftS {a : Addr} {H0 H1 H2 : Hp} {v : V} {d : PyData} (ha : H0 a ≠ none) (k : Ev a H1 H2) (h : Dp K (New H0 H1) v d) : Dp K (New H0 H2) v d := dp_mono (new_mono ha (fun _ e => e) k) h
theorem liftAll {a : Addr} {H0 H1 H2 : Hp} {vs : List V} {ds : List PyData} (ha : H0 a ≠ none) (k : Ev a H1 H2) (h : DpAll K (New H0 H1) vs ds) : DpAll K (New H0 H2) vs ds := dpAll_mono (new_mono ha (fun _ e => e) k) h
theorem mk_tup {a tl q : Addr} {r : Tk.Rem} {Hs H : Hp} {vs : List V} {ds : List PyData} (ev : Ev a Hs H) (hR : Rd C H a tl r) (hs : Hs a ≠ none) (hq : H q = none) (all : DpAll K (New Hs H) vs ds) :
    Ev a Hs (upd H q (.tup vs)) ∧ Rd C (upd H q (.tup vs)) a tl r ∧ Dp K (New Hs (upd H q (.tup vs))) (.ref q) (.tuple ds) := by
  have k : Ev a H (upd H q (.tup vs)) := Ev.same (same_new hq)
  exact ⟨ev.trans k, hR.same (same_new hq), .tup (SqT.of (New.of (ev_none ev hR.here.1 q hq) upd_same)) (liftAll hs k all)⟩
/-- a list at p that is being made: Hb the heap ahead of it -/
structure LSt (K : PySem.W.Frag) (C a tl p : Addr) (Hb H : Hp) (ds : List PyData) (r : Tk.Rem) : Prop where
  ha : Hb a ≠ none
  hp : Hb p = none
  ev : Ev a Hb H
  rd : Rd C H a tl r
  nl : p ≠ tl
  at_ : ∃ vs, H p = some (.lst vs) ∧ DpAll K (fun b => if b = p then none else New Hb H b) vs ds ∧ vs.length + r.length ≤ 1000001
theorem LSt.na {a tl p : Addr} {Hb H : Hp} {ds : List PyData} {r : Tk.Rem} (L : LSt K C a tl p Hb H ds r) : p ≠ a := fun z => L.ha (by rw [← z]; exact L.hp)
theorem LSt.start {a tl p : Addr} {H : Hp} {r : Tk.Rem} (hR : Rd C H a tl r) (hp : H p = none) : LSt K C a tl p H (upd H p (.lst [])) [] r := by
  refine ⟨hR.here.1, hp, Ev.same (same_new hp), hR.same (same_new hp), fun z => hR.here.2 (by rw [← z]; exact hp), [], upd_same, .nil, ?_⟩
  obtain ⟨_, _, _, _, _, _, _, _, h, _⟩ := hR
  have := h.len
  simpa using this
theorem LSt.adv {a tl p : Addr} {Hb H H' : Hp} {ds : List PyData} {r r' : Tk.Rem} (L : LSt K C a tl p Hb H ds r) (ev : Ev a H H') (hR : Rd C H' a tl r') (hl : r'.length ≤ r.length) : LSt K C a tl p Hb H' ds r' := by
  obtain ⟨vs, h1, h2, h3⟩ := L.at_
  refine ⟨L.ha, L.hp, L.ev.trans ev, hR, L.nl, vs, ev _ _ L.na h1, dpAll_mono (fun b o e => ?_) h2, by omega⟩
  by_cases hb : b = p
  · rw [if_pos hb] at e
    cases e
  · rw [if_neg hb] at e ⊢
    exact new_mono L.ha (fun _ e => e) ev b o e
theorem LSt.app {a tl p : Addr} {Hb H H' : Hp} {ds : List PyData} {r r' : Tk.Rem} {v : V} {d : PyData} (L : LSt K C a tl p Hb H ds r) (ev : Ev a H H') (hR : Rd C H' a tl r') (dv : Dp K (New H H') v d) (hl : r'.length < r.length) :
    ∃ vs, H' p = some (.lst vs) ∧ vs.length < sizeLine ∧ LSt K C a tl p Hb (upd H' p (.lst (vs ++ [v]))) (ds ++ [d]) r' := by
  obtain ⟨vs, h1, h2, h3⟩ := L.at_
  have hp' := ev _ _ L.na h1
  refine ⟨vs, hp', by rw [sizeLine_eq]; omega, L.ha, L.hp, fun b o n e => ?_, ?_, L.nl, vs ++ [v], upd_same, ?_, ?_⟩
  · rw [upd_ne (ne_of_none e L.hp)]
    exact (L.ev.trans ev) b o n e
  · exact hR.at (fun b o n e => by rw [upd_ne n]; exact e) L.na L.nl hp'
  · have step : ∀ b o, (if b = p then none else New Hb H' b) = some o → (if b = p then none else New Hb (upd H' p (.lst (vs ++ [v]))) b) = some o := fun b o e => by
      by_cases hb : b = p
      · rw [if_pos hb] at e
        cases e
      · rw [if_neg hb] at e ⊢
        obtain ⟨e1, e2⟩ := New.get e
        exact New.of e1 (by rw [upd_ne hb]; exact e2)
    have old : DpAll K (fun b => if b = p then none else New Hb (upd H' p (.lst (vs ++ [v]))) b) vs ds := dpAll_mono step (dpAll_mono (fun b o e => by
      by_cases hb : b = p
      · rw [if_pos hb] at e
        cases e
      · rw [if_neg hb] at e ⊢
        exact new_mono L.ha (fun _ e => e) ev b o e) h2)
    have new : Dp K (fun b => if b = p then none else New Hb (upd H' p (.lst (vs ++ [v]))) b) v d := dp_mono (fun b o e => by
      obtain ⟨e1, e2⟩ := New.get e
      have hb : b ≠ p := fun z => by
        rw [z, h1] at e1
        cases e1
      refine step b o ?_
      rw [if_neg hb]
      exact New.of (ev_none L.ev L.rd.here.1 b e1) e2) dv
    have app : ∀ {vs : List V} {ds : List PyData} {G : Hp}, DpAll K G vs ds → Dp K G v d → DpAll K G (vs ++ [v]) (ds ++ [d]) := by
      intro vs ds G h hv
      induction vs generalizing ds with
      | nil => cases h; exact .cons hv .nil
      | cons x vs ih => cases h with | cons h1 h2 => exact .cons h1 (ih h2)
    exact app old new
  · rw [List.length_append, List.length_singleton]
    omega
theorem LSt.fin {a tl p : Addr} {Hb H : Hp} {ds : List PyData} {r : Tk.Rem} (L : LSt K C a tl p Hb H ds r) : Dp K (New Hb H) (.ref p) (.list ds) := by
  obtain ⟨vs, h1, h2, h3⟩ := L.at_
  refine .lst (SqL.of (New.of L.hp h1)) (dpAll_mono (fun b o e => ?_) h2)
  by_cases hb : b = p
  · rw [if_pos hb] at e
    cases e
  · rw [if_neg hb] at e
    exact e
end
/-! ### promises -/
def PostD (K : PySem.W.Frag) (C cT a tl : Addr) (H : Hp) (Q : VK) (E : XK) : Tk.Rs → Prop
  | .ok (d, r) => ∀ H' v, Ev a H H' → Rd C H' a tl r → Dp K (New H H') v d → Q v H'
  | .error l => ErrAt cT a H E l
def spP (K : PySem.W.Frag) (C cT : Addr) (m : Tk.Rem → Tk.Rs) : Sp := fun vs H Q E => ∃ (a tl : Addr) (r : Tk.Rem), vs = [.ref a] ∧ Rd C H a tl r ∧ PostD K C cT a tl H Q E (m r)
def asL (m : Tk.Rem → Tk.RsL) (r : Tk.Rem) : Tk.Rs := bd (m r) fun p => .ok (.list p.1, p.2)
/-- the reader's methods, as the parser calls them -/
structure RM (P : Program) (w : World) (K : PySem.W.Frag) (mg : Str → Option Value) (base : Heap) (k : Nat) (C cT : Addr) : Prop where
  R : RdC K C
  val : Mt P w K mg base CX0 (k + 1) C "value" ["self"] (sprValue C)
  knd : Mt P w K mg base CX0 (k + 1) C "kind" ["self"] (sprKind C)
  fail : Mt P w K mg base (L2.CX P w) (k + 1) C "fail" ["self"] (sprFail C cT)
  skip : Mt P w K mg base CX0 (k + 2) C "skip" ["self", "word"] (sprSkip C)
  take : Mt P w K mg base (L2.CX P w) (k + 3) C "take" ["self", "word"] (sprTake C cT)
  one : Mt P w K mg base (L2.CX P w) (k + 2) C "take_one" ["self", "words"] (sprOne K C cT)
  name : Mt P w K mg base (L2.CX P w) (k + 3) C "take_name" ["self"] (sprName C cT)
  num : Mt P w K mg base (L2.CX P w) (k + 3) C "take_number" ["self"] (sprNumber C cT)
  fin : Mt P w K mg base (L2.CX P w) (k + 2) C "check_end" ["self"] (sprEnd C cT)
theorem ErrAt.ev {cT a : Addr} {H H' : Hp} {E : XK} {l : Nat} (h : ErrAt cT a H E l) (e : Ev a H H') : ErrAt cT a H' E l := fun H2 x e2 hx => h H2 x (e.trans e2) hx
theorem Rd.ins {C a tl : Addr} {H : Hp} {r : Tk.Rem} (h : Rd C H a tl r) : ∃ (dx : Addr) (i : Nat), H a = some (.ins C dx [("tokens", .ref tl), ("at", .int (i : Nat))]) := by
  obtain ⟨dx, i, rs, ts, h1, _⟩ := h
  exact ⟨dx, i, h1⟩
theorem Rd.ok {C a tl : Addr} {H : Hp} {r : Tk.Rem} (h : Rd C H a tl r) : RemOk r := by
  obtain ⟨_, _, _, _, _, _, _, _, h, _⟩ := h
  exact h
theorem kind_tv {C a tl : Addr} {H : Hp} {r r2 : Tk.Rem} {k : Str} {v : V} (h : Rd C H a tl r) (e : mKind k r = .ok (v, r2)) : TV v := by
  unfold mKind at e
  split at e
  · cases e
    exact h.ok.val
  · cases e
theorem one_tv {C a tl : Addr} {H : Hp} {r r2 : Tk.Rem} {ws : List Str} {v : V} (h : Rd C H a tl r) (e : mOne ws r = .ok (v, r2)) : TV v := by
  unfold mOne at e
  split at e
  · cases e
    exact h.ok.val
  · cases e
section
variable {P : Program} {w : World} {K : PySem.W.Frag} {mg : Str → Option Value} {base : Heap} {C cT : Addr}
/-! readings of the reader's methods; E the def's own way out -/
theorem name_rd {k : Nat} {σ : L2.St} {a tl : Addr} {r : Tk.Rem} {Hs H : Hp} {Q : VK} {E : XK} {i : Nat} (hσ : σ[i]? = some (some (.ref a))) (hR : Rd C H a tl r) (ev : Ev a Hs H) (he : ∀ l, mName r = .error l → ErrAt cT a Hs E l) (hk : ∀ v r2, mName r = .ok (v, r2) → ∀ H', Ev a H H' → Rd C H' a tl r2 → Q v H') :
    tMeth C "take_name" (sprName C cT) [] E (tVar i) tNil σ H Q := by
  obtain ⟨dx, n, h1⟩ := hR.ins
  refine ⟨_, hσ, a, dx, _, rfl, h1, rfl, a, tl, r, rfl, hR, ?_⟩
  cases e : mName r with
  | error l => exact (he l e).ev ev
  | ok p => exact hk p.1 p.2 e
theorem num_rd {k : Nat} {σ : L2.St} {a tl : Addr} {r : Tk.Rem} {Hs H : Hp} {Q : VK} {E : XK} {i : Nat} (hσ : σ[i]? = some (some (.ref a))) (hR : Rd C H a tl r) (ev : Ev a Hs H) (he : ∀ l, mNum r = .error l → ErrAt cT a Hs E l) (hk : ∀ v r2, mNum r = .ok (v, r2) → ∀ H', Ev a H H' → Rd C H' a tl r2 → Q v H') :
    tMeth C "take_number" (sprNumber C cT) [] E (tVar i) tNil σ H Q := by
  obtain ⟨dx, n, h1⟩ := hR.ins
  refine ⟨_, hσ, a, dx, _, rfl, h1, rfl, a, tl, r, rfl, hR, ?_⟩
  cases e : mNum r with
  | error l => exact (he l e).ev ev
  | ok p => exact hk p.1 p.2 e
theorem take_rd {σ : L2.St} {a tl : Addr} {r : Tk.Rem} {Hs H : Hp} {Q : VK} {E : XK} {i : Nat} {x : Str} (hx : x ≠ Str.ofString "") (hσ : σ[i]? = some (some (.ref a))) (hR : Rd C H a tl r) (ev : Ev a Hs H) (he : ∀ l, mTake x r = .error l → ErrAt cT a Hs E l) (hk : ∀ r2, mTake x r = .ok r2 → ∀ H', Ev a H H' → Rd C H' a tl r2 → Q .non H') :
    tMeth C "take" (sprTake C cT) [] E (tVar i) (tCons (tC (.str x)) tNil) σ H Q := by
  obtain ⟨dx, n, h1⟩ := hR.ins
  refine ⟨_, hσ, a, dx, _, rfl, h1, rfl, a, tl, r, x, rfl, hx, hR, ?_⟩
  cases e : mTake x r with
  | error l => exact (he l e).ev ev
  | ok p => exact hk p e
theorem one_rd {σ : L2.St} {a tl p : Addr} {r : Tk.Rem} {Hs H : Hp} {Q : VK} {E : XK} {i : Nat} {ws : List Str} (hw : TupK K p (ws.map V.str)) (hn : Str.ofString "" ∉ ws) (hσ : σ[i]? = some (some (.ref a))) (hR : Rd C H a tl r) (ev : Ev a Hs H) (he : ∀ l, mOne ws r = .error l → ErrAt cT a Hs E l) (hk : ∀ v r2, mOne ws r = .ok (v, r2) → ∀ H', Ev a H H' → Rd C H' a tl r2 → Q v H') :
    tMeth C "take_one" (sprOne K C cT) [] E (tVar i) (tCons (tC (.ref p)) tNil) σ H Q := by
  obtain ⟨dx, n, h1⟩ := hR.ins
  refine ⟨_, hσ, a, dx, _, rfl, h1, rfl, a, tl, p, r, ws, rfl, hw, hn, hR, ?_⟩
  cases e : mOne ws r with
  | error l => exact (he l e).ev ev
  | ok q => exact hk q.1 q.2 e
theorem skip_rd {σ : L2.St} {a tl : Addr} {r : Tk.Rem} {H : Hp} {Q : VK} {E : XK} {i : Nat} {x : Str} (hx : x ≠ Str.ofString "") (hσ : σ[i]? = some (some (.ref a))) (hR : Rd C H a tl r) (hk : ∀ H', Ev a H H' → Rd C H' a tl (mSkip x r) → Q (.bl (wordAt x r)) H') :
    tMeth C "skip" (sprSkip C) [] E (tVar i) (tCons (tC (.str x)) tNil) σ H Q := by
  obtain ⟨dx, n, h1⟩ := hR.ins
  exact ⟨_, hσ, a, dx, _, rfl, h1, rfl, a, tl, r, x, rfl, hx, hR, hk⟩
theorem val_rd {σ : L2.St} {a tl : Addr} {r : Tk.Rem} {H : Hp} {Q : VK} {E : XK} {i : Nat} (hσ : σ[i]? = some (some (.ref a))) (hR : Rd C H a tl r) (hk : Q (valAt r) H) : tMeth C "value" (sprValue C) [] E (tVar i) tNil σ H Q := by
  obtain ⟨dx, n, h1⟩ := hR.ins
  exact ⟨_, hσ, a, dx, _, rfl, h1, rfl, a, tl, r, rfl, hR, hk⟩
/-- a part of the parser that is called -/
theorem part_rd {m : Tk.Rem → Tk.Rs} {σ : L2.St} {a tl : Addr} {r : Tk.Rem} {Hs H : Hp} {Q : VK} {E : XK} {i : Nat} (hσ : σ[i]? = some (some (.ref a))) (hR : Rd C H a tl r) (ev : Ev a Hs H) (he : ∀ l, m r = .error l → ErrAt cT a Hs E l) (hk : ∀ d r2, m r = .ok (d, r2) → ∀ H' v, Ev a H H' → Rd C H' a tl r2 → Dp K (New H H') v d → Q v H') :
    tCall (spP K C cT m) [] E (tCons (tVar i) tNil) σ H Q := by
  refine ⟨_, hσ, a, tl, r, rfl, hR, ?_⟩
  cases e : m r with
  | error l => exact (he l e).ev ev
  | ok p => exact hk p.1 p.2 e
theorem scpWidth : FnScope ["reader", "name"] ["reader"] (defScope pWidth) := ⟨rfl, rfl, rfl, by decide +kernel, rfl, by decide +kernel, by decide +kernel⟩
theorem ok_pWidth {f : Addr} {fd : FuncData} {k : Nat} (F : Fun K "parse_width" "parse_width" pWidth f fd) (M : RM P w K mg base k C cT) : FnOk P w K mg base (L2.CX P w) (k + 4) f fd ["reader"] (spP K C cT mWidth) := by
  obtain ⟨fN, fdN, GN, mN, bN⟩ := M.name.ex
  obtain ⟨fT, fdT, GT, mT, bT⟩ := M.take.ex
  obtain ⟨fU, fdU, GU, mU, bU⟩ := M.num.ex
  refine F.okX scpWidth (fun vs H Q E h => ?_) (fun cdv A outer s H vs Q E hr h => ?_)
  · obtain ⟨a, tl, r, rfl, _⟩ := h
    rfl
  · obtain ⟨a, tl, r, rfl, hR, q⟩ := h
    have nd := scpWidth.nd
    refine ⟨_, pss_cons (ps_set (i := 1) nd rfl (.inl rfl) (pe_meth0 (pv 0) M.R.cl mN GN hr bN .nil (passE (takes_of rfl rfl rfl rfl))))
      (pss_cons (ps_expr (pe_meth (pv 0) M.R.cl mT GT hr bT .nil (passE (takes_of rfl rfl rfl rfl)) (pa_cons pe_str pa_nil)))
      (pss_one (ps_ret (pe_tup (pa_cons (pv 1) (pa_cons (pe_meth0 (pv 0) M.R.cl mU GU hr bU .nil (passE (takes_of rfl rfl rfl rfl))) pa_nil)))))), ?_⟩
    have hs := hR.here.1
    unfold mWidth at q
    refine name_rd (k := k) rfl hR (Ev.refl _ _) (fun l e => by rw [e] at q; exact q) fun v r1 e1 H1 ev1 R1 => ?_
    rw [e1, bd_ok] at q
    refine take_rd (by decide +kernel) rfl R1 ev1 (fun l e => by rw [e] at q; exact q) fun r2 e2 H2 ev2 R2 => ?_
    rw [e2, bd_ok] at q
    refine ⟨_, rfl, ?_⟩
    refine num_rd (k := k) rfl R2 (ev1.trans ev2) (fun l e => by rw [e] at q; exact q) fun v3 r3 e3 H3 ev3 R3 => ⟨(by show 2 ≤ sizeLine; decide), fun p hp => ?_⟩
    rw [e3, bd_ok] at q
    obtain ⟨x1, x2, x3⟩ := mk_tup (K := K) ((ev1.trans ev2).trans ev3) R3 hs hp (.cons (tvD_dp (kind_tv hR e1)) (.cons (tvD_dp (kind_tv R2 e3)) .nil))
    exact q _ _ x1 x2 x3
end
end Pk
set_option Elab.async false
set_option linter.all false
set_option maxRecDepth 100000
set_option maxHeartbeats 4000000
namespace Pk
open PySem PySem.Spec PyProof.Rows L2 SX GxR Tk PySem.ErX
/-! ### loops of the parser -/
def PL (K : PySem.W.Frag) (C cT a tl p : Addr) (Hb : Hp) (E : XK) (σ : L2.St) (N : L2.St → Hp → Prop) (ds : List PyData) : Tk.RsL → Prop
  | .ok (es, r2) => ∀ H2, LSt K C a tl p Hb H2 (ds ++ es) r2 → N σ H2
  | .error l => ErrAt cT a Hb E l
def P1 (K : PySem.W.Frag) (C cT a tl p : Addr) (Hb : Hp) (E : XK) (σ : L2.St) (N : L2.St → Hp → Prop) (ds : List PyData) : Tk.Rs → Prop
  | .ok (d, r2) => ∀ H2, LSt K C a tl p Hb H2 (ds ++ [d]) r2 → N σ H2
  | .error l => ErrAt cT a Hb E l
section
variable {K : PySem.W.Frag} {C cT : Addr}
theorem skip_le (w : Str) (r : Tk.Rem) : (mSkip w r).length ≤ r.length := by
  unfold mSkip
  split
  · rw [List.length_tail]
    omega
  · exact Nat.le_refl _
theorem loop_rd {stop : Str} (hs : stop ≠ Str.ofString "") {step : Tk.Rem → Tk.Rs} (hsh : Short step) {σ : L2.St} {a tl p : Addr} {Hb H : Hp} {E E2 : XK} {j : Nat} {D : Ends} {tb : TS} {r : Tk.Rem} (hσ : σ[j]? = some (some (.ref a))) (L : LSt K C a tl p Hb H [] r)
    (hbody : ∀ (N : L2.St → Hp → Prop) (H1 : Hp) (ds : List PyData) (r1 : Tk.Rem), LSt K C a tl p Hb H1 ds r1 → P1 K C cT a tl p Hb E σ N ds (step r1) → tb { D with nx := N, ct := N, bk := D.nx } σ H1)
    (q : PL K C cT a tl p Hb E σ D.nx [] (mLoop stop step (r.length + 1) r)) :
    tWhile (tNot (tB (tMeth C "skip" (sprSkip C) [] E2 (tVar j) (tCons (tC (.str stop)) tNil)))) tb D σ H := by
  refine ⟨fun m σ' H' => σ' = σ ∧ ∃ (f : Nat) (ds : List PyData) (r1 : Tk.Rem), m = r1.length ∧ r1.length < f ∧ LSt K C a tl p Hb H' ds r1 ∧ PL K C cT a tl p Hb E σ D.nx ds (mLoop stop step f r1), ⟨r.length, rfl, _, [], r, rfl, Nat.lt_succ_self _, L, q⟩, ?_⟩
  rintro m σ' H' ⟨rfl, f, ds, r1, rfl, hf, L1, q1⟩
  obtain ⟨f, rfl⟩ : ∃ g, f = g + 1 := ⟨f - 1, by omega⟩
  rw [mLoop_s] at q1
  refine skip_rd hs hσ L1.rd fun H2 ev2 R2 => ⟨_, rfl, ?_⟩
  cases hc : wordAt stop r1 with
  | true =>
    rw [hc, if_pos rfl] at q1
    unfold mSkip at R2
    rw [hc, if_pos rfl] at R2
    refine iteF (q1 H2 ?_)
    rw [List.append_nil]
    exact L1.adv ev2 R2 (by rw [List.length_tail]; omega)
  | false =>
    rw [hc, if_neg Bool.false_ne_true] at q1
    unfold mSkip at R2
    rw [hc, if_neg Bool.false_ne_true] at R2
    refine iteT ⟨fun σ2 H3 => ∃ m', m' < r1.length ∧ σ2 = σ' ∧ ∃ (f : Nat) (ds : List PyData) (r1 : Tk.Rem), m' = r1.length ∧ r1.length < f ∧ LSt K C a tl p Hb H3 ds r1 ∧ PL K C cT a tl p Hb E σ' D.nx ds (mLoop stop step f r1), fun _ _ h => h, ?_⟩
    refine hbody _ H2 ds r1 (L1.adv ev2 R2 (Nat.le_refl _)) ?_
    cases e : step r1 with
    | error l =>
      rw [e] at q1
      exact q1
    | ok pr =>
      obtain ⟨d, r2⟩ := pr
      rw [e, bd_ok] at q1
      have hl := hsh _ _ _ e
      intro H3 L3
      refine ⟨r2.length, hl, rfl, f, ds ++ [d], r2, rfl, by omega, L3, ?_⟩
      cases e2 : mLoop stop step f r2 with
      | error l =>
        rw [e2] at q1
        exact q1
      | ok pr =>
        obtain ⟨es, r3⟩ := pr
        rw [e2, bd_ok] at q1
        intro H4 L4
        refine q1 H4 ?_
        rw [List.append_assoc] at L4
        exact L4
theorem many_rd {word : Str} (hs : word ≠ Str.ofString "") {step : Tk.Rem → Tk.Rs} (hsh : Short step) {σ : L2.St} {a tl p : Addr} {Hb H : Hp} {E E2 : XK} {j : Nat} {D : Ends} {tb : TS} {r : Tk.Rem} {ds0 : List PyData} (hσ : σ[j]? = some (some (.ref a))) (L : LSt K C a tl p Hb H ds0 r)
    (hbody : ∀ (N : L2.St → Hp → Prop) (H1 : Hp) (ds : List PyData) (r1 : Tk.Rem), LSt K C a tl p Hb H1 ds r1 → P1 K C cT a tl p Hb E σ N ds (step r1) → tb { D with nx := N, ct := N, bk := D.nx } σ H1)
    (q : PL K C cT a tl p Hb E σ D.nx ds0 (mMany word step (r.length + 1) r)) :
    tWhile (tB (tMeth C "skip" (sprSkip C) [] E2 (tVar j) (tCons (tC (.str word)) tNil))) tb D σ H := by
  refine ⟨fun m σ' H' => σ' = σ ∧ ∃ (f : Nat) (ds : List PyData) (r1 : Tk.Rem), m = r1.length ∧ r1.length < f ∧ LSt K C a tl p Hb H' ds r1 ∧ PL K C cT a tl p Hb E σ D.nx ds (mMany word step f r1), ⟨r.length, rfl, _, ds0, r, rfl, Nat.lt_succ_self _, L, q⟩, ?_⟩
  rintro m σ' H' ⟨rfl, f, ds, r1, rfl, hf, L1, q1⟩
  obtain ⟨f, rfl⟩ : ∃ g, f = g + 1 := ⟨f - 1, by omega⟩
  rw [mMany_s] at q1
  refine skip_rd hs hσ L1.rd fun H2 ev2 R2 => ⟨_, rfl, ?_⟩
  cases hc : wordAt word r1 with
  | true =>
    rw [hc, if_pos rfl] at q1
    unfold mSkip at R2
    rw [hc, if_pos rfl] at R2
    have ht := tail_lt (word_ne hc)
    refine iteT ⟨fun σ2 H3 => ∃ m', m' < r1.length ∧ σ2 = σ' ∧ ∃ (f : Nat) (ds : List PyData) (r1 : Tk.Rem), m' = r1.length ∧ r1.length < f ∧ LSt K C a tl p Hb H3 ds r1 ∧ PL K C cT a tl p Hb E σ' D.nx ds (mMany word step f r1), fun _ _ h => h, ?_⟩
    refine hbody _ H2 ds r1.tail (L1.adv ev2 R2 (Nat.le_of_lt ht)) ?_
    cases e : step r1.tail with
    | error l =>
      rw [e] at q1
      exact q1
    | ok pr =>
      obtain ⟨d, r2⟩ := pr
      rw [e, bd_ok] at q1
      have hl := hsh _ _ _ e
      intro H3 L3
      refine ⟨r2.length, by omega, rfl, f, ds ++ [d], r2, rfl, by omega, L3, ?_⟩
      cases e2 : mMany word step f r2 with
      | error l =>
        rw [e2] at q1
        exact q1
      | ok pr =>
        obtain ⟨es, r3⟩ := pr
        rw [e2, bd_ok] at q1
        intro H4 L4
        refine q1 H4 ?_
        rw [List.append_assoc] at L4
        exact L4
  | false =>
    rw [hc, if_neg Bool.false_ne_true] at q1
    unfold mSkip at R2
    rw [hc, if_neg Bool.false_ne_true] at R2
    refine iteF (q1 H2 ?_)
    rw [List.append_nil]
    exact L1.adv ev2 R2 (Nat.le_refl _)
end
end Pk
set_option Elab.async false
set_option linter.all false
set_option maxRecDepth 100000
set_option maxHeartbeats 4000000
namespace Pk
open PySem PySem.Spec PyProof.Rows L2 SX GxR Tk PySem.ErX
/-- the constants of the parser's top -/
structure PTx (K : PySem.W.Frag) (mg : Str → Option Value) : Prop where
  END : ∃ p, mg "END_TARGETS" = some (.ref p) ∧ TupK K p (endTargets.map V.str)
  OWN : ∃ p, mg "OWNER_WORDS" = some (.ref p) ∧ TupK K p (ownerWords.map V.str)
  OPS : ∃ p, mg "OPERATORS" = some (.ref p) ∧ TupK K p (operators.map V.str)
  KEY : ∃ p, mg "KEY_KINDS" = some (.ref p) ∧ TupK K p (keyKinds.map V.str)
  CMP : ∃ p, mg "COMPARISONS" = some (.ref p) ∧ TupK K p (comparisons.map V.str)
  MBL : ∃ u, mg "MOST_BLOCKS" = some u ∧ RelV (.int 8) u
  MNO : ∃ u, mg "MOST_NOTS" = some u ∧ RelV (.int 8) u
def spPV (C cT : Addr) (m : Tk.Rem → Except Nat (V × Tk.Rem)) : Sp := fun vs H Q E => ∃ (a tl : Addr) (r : Tk.Rem), vs = [.ref a] ∧ Rd C H a tl r ∧ PostV C cT a tl H Q E (m r)
abbrev RP : List Str := ["reader"]
section
variable {P : Program} {w : World} {K : PySem.W.Frag} {mg : Str → Option Value} {base : Heap} {C cT : Addr}
theorem partV_rd {m : Tk.Rem → Except Nat (V × Tk.Rem)} {σ : L2.St} {a tl : Addr} {r : Tk.Rem} {Hs H : Hp} {Q : VK} {E : XK} {i : Nat} (hσ : σ[i]? = some (some (.ref a))) (hR : Rd C H a tl r) (ev : Ev a Hs H) (he : ∀ l, m r = .error l → ErrAt cT a Hs E l) (hk : ∀ d r2, m r = .ok (d, r2) → ∀ H', Ev a H H' → Rd C H' a tl r2 → Q d H') :
    tCall (spPV C cT m) [] E (tCons (tVar i) tNil) σ H Q := by
  refine ⟨_, hσ, a, tl, r, rfl, hR, ?_⟩
  cases e : m r with
  | error l => exact (he l e).ev ev
  | ok p => exact hk p.1 p.2 e
theorem scpFields : FnScope ["reader", "fields"] ["reader"] (defScope pFields) := ⟨rfl, rfl, rfl, by decide +kernel, rfl, by decide +kernel, by decide +kernel⟩
theorem ok_pFields {f : Addr} {fd : FuncData} {k : Nat} (F : Fun K "parse_fields" "parse_fields" pFields f fd) (M : RM P w K mg base k C cT) (D1 : Df P w K mg base (L2.CX P w) (k + 4) "parse_width" RP (spP K C cT mWidth)) : FnOk P w K mg base (L2.CX P w) (k + 5) f fd ["reader"] (spP K C cT (asL mFields)) := by
  obtain ⟨fS, fdS, GS, mS, bS⟩ := M.skip.ex
  obtain ⟨fT, fdT, GT, mT, bT⟩ := M.take.ex
  obtain ⟨f1, fd1, G1, g1, k1, b1⟩ := D1.ex
  refine F.okX scpFields (fun vs H Q E h => ?_) (fun cdv A outer s H vs Q E hr h => ?_)
  · obtain ⟨a, tl, r, rfl, _⟩ := h
    rfl
  · obtain ⟨a, tl, r, rfl, hR, q⟩ := h
    have nd := scpFields.nd
    have hr3 : Room (k + 3) _ := hr.mono (by omega)
    have hr2 : Room (k + 2) _ := hr.mono (by omega)
    refine ⟨_, pss_cons (ps_set (i := 1) nd rfl (.inl rfl) (pe_lst pa_nil))
      (pss_cons (ps_expr (pe_meth (pv 0) M.R.cl mT GT hr3 bT .nil (passE (takes_of rfl rfl rfl rfl)) (pa_cons pe_str pa_nil)))
      (pss_cons (ps_while (passes_of rfl) (pt_not (pt_val (pe_meth (pv 0) M.R.cl mS GS hr2 bS .nil pass0 (pa_cons pe_str pa_nil)) (by intro _; rfl)))
        (pss_cons (ps_expr (pe_bm PySem.F.plainAttrs_list PySem.F.slot_list_append PySem.F.type_list_append mt_append (pv 1) (pa_cons (pe_call G1 hr (by rfl) g1 k1 b1 .nil (passE (takes_of rfl rfl rfl rfl)) (pa_cons (pv 0) pa_nil)) pa_nil)))
        (pss_one (ps_expr (pe_meth (pv 0) M.R.cl mT GT hr3 bT .nil (passE (takes_of rfl rfl rfl rfl)) (pa_cons pe_str pa_nil))))))
      (pss_one (ps_ret (pv 1))))), ?_⟩
    unfold asL mFields at q
    refine ⟨Nat.zero_le _, fun p hp => ?_⟩
    have L0 := LSt.start (K := K) hR hp
    refine take_rd (by decide +kernel) rfl L0.rd L0.ev (fun l e => by rw [e] at q; exact q) fun r1 e1 H1 ev1 R1 => ?_
    rw [e1, bd_ok] at q
    refine loop_rd (E := E) (cT := cT) (by decide +kernel) fieldStep_short rfl (L0.adv ev1 R1 (Nat.le_of_lt (take_lt e1))) (fun N H2 ds r2 L2 q2 => ?_) ?_
    · obtain ⟨vs2, hv2, _⟩ := L2.at_
      refine ⟨_, rfl, .inl ⟨rfl, _, SqL.of hv2⟩, ?_⟩
      unfold mFieldStep at q2
      refine part_rd rfl L2.rd L2.ev (fun l e => by rw [e] at q2; exact q2) fun d r3 e3 H3 v ev3 R3 d3 => ?_
      rw [e3, bd_ok] at q2
      obtain ⟨vs3, hv3, hl3, L3⟩ := L2.app ev3 R3 d3 (width_short _ _ _ e3)
      refine ⟨p, vs3, v, rfl, rfl, hv3, hl3, ?_⟩
      refine take_rd (by decide +kernel) rfl L3.rd L3.ev (fun l e => by rw [e] at q2; exact q2) fun r4 e4 H4 ev4 R4 => ?_
      rw [e4, bd_ok] at q2
      exact q2 H4 (L3.adv ev4 R4 (Nat.le_of_lt (take_lt e4)))
    · cases e2 : mLoop "}" mFieldStep (r1.length + 1) r1 with
      | error l => rw [e2] at q; exact q
      | ok pr =>
        rw [e2, bd_ok] at q
        intro H2 L2
        exact ⟨_, rfl, q H2 _ L2.ev L2.rd L2.fin⟩
theorem scpHeader : FnScope ["reader", "name"] ["reader"] (defScope pHeader) := ⟨rfl, rfl, rfl, by decide +kernel, rfl, by decide +kernel, by decide +kernel⟩
theorem ok_pHeader {f : Addr} {fd : FuncData} {k : Nat} (F : Fun K "parse_header" "parse_header" pHeader f fd) (M : RM P w K mg base k C cT) (D1 : Df P w K mg base (L2.CX P w) (k + 5) "parse_fields" RP (spP K C cT (asL mFields))) : FnOk P w K mg base (L2.CX P w) (k + 6) f fd ["reader"] (spP K C cT mHeader) := by
  obtain ⟨fN, fdN, GN, mN, bN⟩ := M.name.ex
  obtain ⟨f1, fd1, G1, g1, k1, b1⟩ := D1.ex
  refine F.okX scpHeader (fun vs H Q E h => ?_) (fun cdv A outer s H vs Q E hr h => ?_)
  · obtain ⟨a, tl, r, rfl, _⟩ := h
    rfl
  · obtain ⟨a, tl, r, rfl, hR, q⟩ := h
    have nd := scpHeader.nd
    have hr3 : Room (k + 3) _ := hr.mono (by omega)
    refine ⟨_, pss_cons (ps_set (i := 1) nd rfl (.inl rfl) (pe_meth0 (pv 0) M.R.cl mN GN hr3 bN .nil (passE (takes_of rfl rfl rfl rfl))))
      (pss_one (ps_ret (pe_tup (pa_cons pe_str (pa_cons (pv 1) (pa_cons (pe_call G1 hr (by rfl) g1 k1 b1 .nil (passE (takes_of rfl rfl rfl rfl)) (pa_cons (pv 0) pa_nil)) pa_nil)))))), ?_⟩
    have hs := hR.here.1
    unfold mHeader at q
    refine name_rd (k := k) rfl hR (Ev.refl _ _) (fun l e => by rw [e] at q; exact q) fun v r1 e1 H1 ev1 R1 => ?_
    rw [e1, bd_ok] at q
    refine ⟨_, rfl, part_rd rfl R1 ev1 (fun l e => ?_) fun d r2 e2 H2 v2 ev2 R2 d2 => ⟨(by show 3 ≤ sizeLine; decide), fun p hp => ?_⟩⟩
    · unfold asL at e
      cases e3 : mFields r1 with
      | error l2 => rw [e3, bd_err] at e; cases e; rw [e3] at q; exact q
      | ok pr => rw [e3, bd_ok] at e; cases e
    · unfold asL at e2
      obtain ⟨pr, e3, e4⟩ := bd_inv e2
      cases e4
      rw [e3, bd_ok] at q
      obtain ⟨x1, x2, x3⟩ := mk_tup (K := K) (ev1.trans ev2) R2 hs hp (.cons (.str _) (.cons (tvD_dp (kind_tv hR e1)) (.cons (lift ev1 R1 (Ev.refl _ _) d2) .nil)))
      exact q _ _ x1 x2 x3
theorem scpTarget : FnScope ["reader"] ["reader"] (defScope pTarget) := ⟨rfl, rfl, rfl, by decide +kernel, rfl, by decide +kernel, by decide +kernel⟩
theorem scpOwner : FnScope ["reader"] ["reader"] (defScope pOwner) := ⟨rfl, rfl, rfl, by decide +kernel, rfl, by decide +kernel, by decide +kernel⟩
theorem ok_pTarget {f : Addr} {fd : FuncData} {k : Nat} (F : Fun K "parse_target" "parse_target" pTarget f fd) (M : RM P w K mg base k C cT) (T : PTx K mg) : FnOk P w K mg base (L2.CX P w) (k + 4) f fd ["reader"] (spPV C cT mTargetV) := by
  obtain ⟨fV, fdV, GV, mV, bV⟩ := M.val.ex
  obtain ⟨fO, fdO, GO, mO, bO⟩ := M.one.ex
  obtain ⟨fN, fdN, GN, mN, bN⟩ := M.name.ex
  obtain ⟨pe, ge, te⟩ := T.END
  refine F.okX scpTarget (fun vs H Q E h => ?_) (fun cdv A outer s H vs Q E hr h => ?_)
  · obtain ⟨a, tl, r, rfl, _⟩ := h
    rfl
  · obtain ⟨a, tl, r, rfl, hR, q⟩ := h
    have hr2 : Room (k + 2) _ := hr.mono (by omega)
    have hr1 : Room (k + 1) _ := hr.mono (by omega)
    refine ⟨_, pss_cons (ps_if (pt_cmpR op_in_seq (pe_meth0 (pv 0) M.R.cl mV GV hr1 bV .nil pass0) (pe_glob (v := .ref pe) rfl ge rfl) (by rfl))
        (pss_one (ps_ret (pe_meth (pv 0) M.R.cl mO GO hr2 bO .nil (passE (takes_of rfl rfl rfl rfl)) (pa_cons (pe_glob (v := .ref pe) rfl ge rfl) pa_nil)))) pss_nil)
      (pss_one (ps_ret (pe_meth0 (pv 0) M.R.cl mN GN hr bN .nil (passE (takes_of rfl rfl rfl rfl))))), ?_⟩
    unfold mTargetV at q
    refine val_rd rfl hR ⟨pe, _, rfl, .inr (te.at _), tv_flat hR.ok.val, flat_strs _, _, rfl, ?_⟩
    cases hc : inV (valAt r) (endTargets.map V.str) with
    | true =>
      rw [hc, if_pos rfl] at q
      exact iteT (one_rd te (by decide +kernel) rfl hR (Ev.refl _ _) (fun l e => by rw [e] at q; exact q) fun v r2 e H' ev R2 => by rw [e] at q; exact q H' ev R2)
    | false =>
      rw [hc, if_neg Bool.false_ne_true] at q
      exact iteF (name_rd (k := k) rfl hR (Ev.refl _ _) (fun l e => by rw [e] at q; exact q) fun v r2 e H' ev R2 => by rw [e] at q; exact q H' ev R2)
theorem ok_pOwner {f : Addr} {fd : FuncData} {k : Nat} (F : Fun K "parse_owner" "parse_owner" pOwner f fd) (M : RM P w K mg base k C cT) (T : PTx K mg) : FnOk P w K mg base (L2.CX P w) (k + 4) f fd ["reader"] (spPV C cT mOwnerV) := by
  obtain ⟨fV, fdV, GV, mV, bV⟩ := M.val.ex
  obtain ⟨fO, fdO, GO, mO, bO⟩ := M.one.ex
  obtain ⟨fN, fdN, GN, mN, bN⟩ := M.name.ex
  obtain ⟨pe, ge, te⟩ := T.OWN
  refine F.okX scpOwner (fun vs H Q E h => ?_) (fun cdv A outer s H vs Q E hr h => ?_)
  · obtain ⟨a, tl, r, rfl, _⟩ := h
    rfl
  · obtain ⟨a, tl, r, rfl, hR, q⟩ := h
    have hr2 : Room (k + 2) _ := hr.mono (by omega)
    have hr1 : Room (k + 1) _ := hr.mono (by omega)
    refine ⟨_, pss_cons (ps_if (pt_cmpR op_in_seq (pe_meth0 (pv 0) M.R.cl mV GV hr1 bV .nil pass0) (pe_glob (v := .ref pe) rfl ge rfl) (by rfl))
        (pss_one (ps_ret (pe_meth (pv 0) M.R.cl mO GO hr2 bO .nil (passE (takes_of rfl rfl rfl rfl)) (pa_cons (pe_glob (v := .ref pe) rfl ge rfl) pa_nil)))) pss_nil)
      (pss_one (ps_ret (pe_meth0 (pv 0) M.R.cl mN GN hr bN .nil (passE (takes_of rfl rfl rfl rfl))))), ?_⟩
    unfold mOwnerV at q
    refine val_rd rfl hR ⟨pe, _, rfl, .inr (te.at _), tv_flat hR.ok.val, flat_strs _, _, rfl, ?_⟩
    cases hc : inV (valAt r) (ownerWords.map V.str) with
    | true =>
      rw [hc, if_pos rfl] at q
      exact iteT (one_rd te (by decide +kernel) rfl hR (Ev.refl _ _) (fun l e => by rw [e] at q; exact q) fun v r2 e H' ev R2 => by rw [e] at q; exact q H' ev R2)
    | false =>
      rw [hc, if_neg Bool.false_ne_true] at q
      exact iteF (name_rd (k := k) rfl hR (Ev.refl _ _) (fun l e => by rw [e] at q; exact q) fun v r2 e H' ev R2 => by rw [e] at q; exact q H' ev R2)
theorem target_tv {a tl : Addr} {H : Hp} {r r2 : Tk.Rem} {v : V} (h : Rd C H a tl r) (e : mTargetV r = .ok (v, r2)) : TV v := by
  unfold mTargetV at e
  split at e
  · exact one_tv h e
  · exact kind_tv h e
theorem owner_tv {a tl : Addr} {H : Hp} {r r2 : Tk.Rem} {v : V} (h : Rd C H a tl r) (e : mOwnerV r = .ok (v, r2)) : TV v := by
  unfold mOwnerV at e
  split at e
  · exact one_tv h e
  · exact kind_tv h e
theorem scpField : FnScope ["reader", "owner"] ["reader"] (defScope pField) := ⟨rfl, rfl, rfl, by decide +kernel, rfl, by decide +kernel, by decide +kernel⟩
theorem ok_pField {f : Addr} {fd : FuncData} {k : Nat} (F : Fun K "parse_field" "parse_field" pField f fd) (M : RM P w K mg base k C cT) (D1 : Df P w K mg base (L2.CX P w) (k + 4) "parse_owner" RP (spPV C cT mOwnerV)) : FnOk P w K mg base (L2.CX P w) (k + 5) f fd ["reader"] (spP K C cT mField) := by
  obtain ⟨fN, fdN, GN, mN, bN⟩ := M.name.ex
  obtain ⟨fT, fdT, GT, mT, bT⟩ := M.take.ex
  obtain ⟨f1, fd1, G1, g1, k1, b1⟩ := D1.ex
  refine F.okX scpField (fun vs H Q E h => ?_) (fun cdv A outer s H vs Q E hr h => ?_)
  · obtain ⟨a, tl, r, rfl, _⟩ := h
    rfl
  · obtain ⟨a, tl, r, rfl, hR, q⟩ := h
    have nd := scpField.nd
    have hr3 : Room (k + 3) _ := hr.mono (by omega)
    refine ⟨_, pss_cons (ps_set (i := 1) nd rfl (.inl rfl) (pe_call G1 hr (by rfl) g1 k1 b1 .nil (passE (takes_of rfl rfl rfl rfl)) (pa_cons (pv 0) pa_nil)))
      (pss_cons (ps_expr (pe_meth (pv 0) M.R.cl mT GT hr3 bT .nil (passE (takes_of rfl rfl rfl rfl)) (pa_cons pe_str pa_nil)))
      (pss_one (ps_ret (pe_tup (pa_cons (pv 1) (pa_cons (pe_meth0 (pv 0) M.R.cl mN GN hr3 bN .nil (passE (takes_of rfl rfl rfl rfl))) pa_nil)))))), ?_⟩
    have hs := hR.here.1
    unfold mField at q
    refine partV_rd rfl hR (Ev.refl _ _) (fun l e => by rw [e] at q; exact q) fun v r1 e1 H1 ev1 R1 => ?_
    rw [e1, bd_ok] at q
    refine take_rd (by decide +kernel) rfl R1 ev1 (fun l e => by rw [e] at q; exact q) fun r2 e2 H2 ev2 R2 => ?_
    rw [e2, bd_ok] at q
    refine ⟨_, rfl, ?_⟩
    refine name_rd (k := k) rfl R2 (ev1.trans ev2) (fun l e => by rw [e] at q; exact q) fun v3 r3 e3 H3 ev3 R3 => ⟨(by show 2 ≤ sizeLine; decide), fun p hp => ?_⟩
    rw [e3, bd_ok] at q
    obtain ⟨x1, x2, x3⟩ := mk_tup (K := K) ((ev1.trans ev2).trans ev3) R3 hs hp (.cons (tvD_dp (owner_tv hR e1)) (.cons (tvD_dp (kind_tv R2 e3)) .nil))
    exact q _ _ x1 x2 x3
end
end Pk
set_option Elab.async false
set_option linter.all false
set_option maxRecDepth 100000
set_option maxHeartbeats 4000000
namespace Pk
open PySem PySem.Spec PyProof.Rows L2 SX GxR Tk PySem.ErX
abbrev pStates : Stmt := topS 38
abbrev pState : Stmt := topS 39
abbrev pWay : Stmt := topS 40
abbrev pRow : Stmt := topS 41
abbrev pSelEnd : Stmt := topS 42
abbrev pParams : Stmt := topS 45
abbrev pArgs : Stmt := topS 54
theorem mSkip_t {x : Str} {r : Tk.Rem} (h : wordAt x r = true) : mSkip x r = r.tail := by unfold mSkip; rw [if_pos h]
theorem mSkip_f {x : Str} {r : Tk.Rem} (h : wordAt x r = false) : mSkip x r = r := by unfold mSkip; rw [h, if_neg Bool.false_ne_true]
theorem mOpt_t {x : Str} {m : Tk.Rem → Tk.Rs} {r : Tk.Rem} (h : wordAt x r = true) : mOpt x m r = m r.tail := by unfold mOpt; rw [if_pos h]
theorem mOpt_f {x : Str} {m : Tk.Rem → Tk.Rs} {r : Tk.Rem} (h : wordAt x r = false) : mOpt x m r = .ok (.none, r) := by unfold mOpt; rw [h, if_neg Bool.false_ne_true]
theorem asL_err {m : Tk.Rem → Tk.RsL} {r : Tk.Rem} {l : Nat} (e : asL m r = .error l) : m r = .error l := by
  unfold asL at e
  cases e3 : m r with
  | error l2 => rw [e3, bd_err] at e; cases e; rfl
  | ok pr => rw [e3, bd_ok] at e; cases e
theorem asL_ok {m : Tk.Rem → Tk.RsL} {r r2 : Tk.Rem} {d : PyData} (e : asL m r = .ok (d, r2)) : ∃ ds, m r = .ok (ds, r2) ∧ d = .list ds := by
  obtain ⟨pr, e3, e4⟩ := bd_inv e
  cases e4
  exact ⟨_, e3, rfl⟩
section
variable {P : Program} {w : World} {K : PySem.W.Frag} {mg : Str → Option Value} {base : Heap} {C cT : Addr}
theorem LSt.start1 {a tl p : Addr} {Hb H : Hp} {r : Tk.Rem} {v : V} {d : PyData} (ha : Hb a ≠ none) (nl : Hb tl ≠ none) (ev : Ev a Hb H) (hR : Rd C H a tl r) (hp : H p = none) (dv : Dp K (New Hb H) v d) (hl : r.length < 1000001) : LSt K C a tl p Hb (upd H p (.lst [v])) [d] r := by
  have hbp := ev_none ev hR.here.1 p hp
  refine ⟨ha, hbp, ev.trans (Ev.same (same_new hp)), hR.same (same_new hp), fun z => nl (by rw [← z]; exact hbp), [v], upd_same, .cons (dp_mono (fun b o e => ?_) dv) .nil, by rw [List.length_singleton]; omega⟩
  obtain ⟨e1, e2⟩ := New.get e
  have hb : b ≠ p := fun z => by
    rw [z, hp] at e2
    cases e2
  rw [if_neg hb]
  exact New.of e1 (by rw [upd_ne hb]; exact e2)
theorem scpRow : FnScope ["reader", "value", "mask", "target"] ["reader"] (defScope pRow) := ⟨rfl, rfl, rfl, by decide +kernel, rfl, by decide +kernel, by decide +kernel⟩
theorem ok_pRow {f : Addr} {fd : FuncData} {k : Nat} (F : Fun K "parse_row" "parse_row" pRow f fd) (M : RM P w K mg base k C cT) (D1 : Df P w K mg base (L2.CX P w) (k + 4) "parse_target" RP (spPV C cT mTargetV)) : FnOk P w K mg base (L2.CX P w) (k + 5) f fd ["reader"] (spP K C cT mRow) := by
  obtain ⟨fS, fdS, GS, mS, bS⟩ := M.skip.ex
  obtain ⟨fT, fdT, GT, mT, bT⟩ := M.take.ex
  obtain ⟨fN, fdN, GN, mN, bN⟩ := M.num.ex
  obtain ⟨f1, fd1, G1, g1, k1, b1⟩ := D1.ex
  refine F.okX scpRow (fun vs H Q E h => ?_) (fun cdv A outer s H vs Q E hr h => ?_)
  · obtain ⟨a, tl, r, rfl, _⟩ := h
    rfl
  · obtain ⟨a, tl, r, rfl, hR, q⟩ := h
    have nd := scpRow.nd
    have hr3 : Room (k + 3) _ := hr.mono (by omega)
    have hr2 : Room (k + 2) _ := hr.mono (by omega)
    have hs := hR.here.1
    refine ⟨_, pss_cons (ps_set (i := 1) nd rfl (.inl rfl) (pe_meth0 (pv 0) M.R.cl mN GN hr3 bN .nil (passE (takes_of rfl rfl rfl rfl))))
      (pss_cons (ps_set (i := 2) nd rfl (.inl rfl) pe_non)
      (C8.pss_cut (ps_if (pt_val (pe_meth (pv 0) M.R.cl mS GS hr2 bS .nil pass0 (pa_cons pe_str pa_nil)) (by intro _; rfl)) (pss_one (ps_set (i := 2) nd rfl (.inl rfl) (pe_meth0 (pv 0) M.R.cl mN GN hr3 bN .nil (passE (takes_of rfl rfl rfl rfl))))) pss_nil)
      (pss_cons (ps_expr (pe_meth (pv 0) M.R.cl mT GT hr3 bT .nil (passE (takes_of rfl rfl rfl rfl)) (pa_cons pe_str pa_nil)))
      (pss_cons (ps_set (i := 3) nd rfl (.inl rfl) (pe_call G1 hr (by rfl) g1 k1 b1 .nil (passE (takes_of rfl rfl rfl rfl)) (pa_cons (pv 0) pa_nil)))
      (pss_cons (ps_expr (pe_meth (pv 0) M.R.cl mT GT hr3 bT .nil (passE (takes_of rfl rfl rfl rfl)) (pa_cons pe_str pa_nil)))
      (pss_one (ps_ret (pe_tup (pa_cons (pv 1) (pa_cons (pv 2) (pa_cons (pv 3) pa_nil))))))))))), ?_⟩
    unfold mRow at q
    refine num_rd (k := k) rfl hR (Ev.refl _ _) (fun l e => by rw [e] at q; exact q) fun v r1 e1 H1 ev1 R1 => ?_
    rw [e1, bd_ok] at q
    refine ⟨fun σ' H' => ∃ vm d r', σ' = [some (.ref a), some v, some vm, none] ∧ Ev a H H' ∧ Rd C H' a tl r' ∧ mOpt "&" mNumD r1 = .ok (d, r') ∧ ∀ G, Dp K G vm d, ?_, ?_⟩
    · refine skip_rd (by decide +kernel) rfl R1 fun H2 ev2 R2 => ⟨_, rfl, ?_⟩
      cases hc : wordAt "&" r1 with
      | true =>
        rw [mSkip_t hc] at R2
        rw [mOpt_t hc] at q ⊢
        unfold mNumD at q ⊢
        refine iteT (num_rd (k := k) rfl R2 (ev1.trans ev2) (fun l e => by rw [e] at q; exact q) fun v2 r2 e2 H3 ev3 R3 => ?_)
        exact ⟨v2, _, r2, rfl, (ev1.trans ev2).trans ev3, R3, by rw [e2]; rfl, fun G => tvD_dp (kind_tv R2 e2)⟩
      | false =>
        rw [mSkip_f hc] at R2
        exact iteF ⟨.non, .none, r1, rfl, ev1.trans ev2, R2, mOpt_f hc, fun G => .non⟩
    · rintro σ2 H2 ⟨vm, dm, r2, rfl, ev2, R2, e2, dvm⟩
      rw [e2, bd_ok] at q
      refine take_rd (by decide +kernel) rfl R2 ev2 (fun l e => by rw [e] at q; exact q) fun r3 e3 H3 ev3 R3 => ?_
      rw [e3, bd_ok] at q
      refine partV_rd rfl R3 (ev2.trans ev3) (fun l e => by rw [e] at q; exact q) fun t r4 e4 H4 ev4 R4 => ?_
      rw [e4, bd_ok] at q
      refine take_rd (by decide +kernel) rfl R4 ((ev2.trans ev3).trans ev4) (fun l e => by rw [e] at q; exact q) fun r5 e5 H5 ev5 R5 => ?_
      rw [e5, bd_ok] at q
      refine ⟨_, rfl, _, rfl, _, rfl, (by show 3 ≤ sizeLine; decide), fun p hp => ?_⟩
      obtain ⟨x1, x2, x3⟩ := mk_tup (K := K) (((ev2.trans ev3).trans ev4).trans ev5) R5 hs hp (.cons (tvD_dp (kind_tv hR e1)) (.cons (dvm _) (.cons (tvD_dp (target_tv R3 e4)) .nil)))
      exact q _ _ x1 x2 x3
theorem scpSelEnd : FnScope ["reader", "target"] ["reader"] (defScope pSelEnd) := ⟨rfl, rfl, rfl, by decide +kernel, rfl, by decide +kernel, by decide +kernel⟩
theorem ok_pSelEnd {f : Addr} {fd : FuncData} {k : Nat} (F : Fun K "parse_select_end" "parse_select_end" pSelEnd f fd) (M : RM P w K mg base k C cT) (D1 : Df P w K mg base (L2.CX P w) (k + 4) "parse_target" RP (spPV C cT mTargetV)) : FnOk P w K mg base (L2.CX P w) (k + 5) f fd ["reader"] (spPV C cT mSelEnd) := by
  obtain ⟨fT, fdT, GT, mT, bT⟩ := M.take.ex
  obtain ⟨f1, fd1, G1, g1, k1, b1⟩ := D1.ex
  refine F.okX scpSelEnd (fun vs H Q E h => ?_) (fun cdv A outer s H vs Q E hr h => ?_)
  · obtain ⟨a, tl, r, rfl, _⟩ := h
    rfl
  · obtain ⟨a, tl, r, rfl, hR, q⟩ := h
    have nd := scpSelEnd.nd
    have hr3 : Room (k + 3) _ := hr.mono (by omega)
    refine ⟨_, pss_cons (ps_expr (pe_meth (pv 0) M.R.cl mT GT hr3 bT .nil (passE (takes_of rfl rfl rfl rfl)) (pa_cons pe_str pa_nil)))
      (pss_cons (ps_set (i := 1) nd rfl (.inl rfl) (pe_call G1 hr (by rfl) g1 k1 b1 .nil (passE (takes_of rfl rfl rfl rfl)) (pa_cons (pv 0) pa_nil)))
      (pss_cons (ps_expr (pe_meth (pv 0) M.R.cl mT GT hr3 bT .nil (passE (takes_of rfl rfl rfl rfl)) (pa_cons pe_str pa_nil)))
      (pss_cons (ps_expr (pe_meth (pv 0) M.R.cl mT GT hr3 bT .nil (passE (takes_of rfl rfl rfl rfl)) (pa_cons pe_str pa_nil)))
      (pss_one (ps_ret (pv 1)))))), ?_⟩
    unfold mSelEnd at q
    refine take_rd (by decide +kernel) rfl hR (Ev.refl _ _) (fun l e => by rw [e] at q; exact q) fun r3 e3 H3 ev3 R3 => ?_
    rw [e3, bd_ok] at q
    refine partV_rd rfl R3 ev3 (fun l e => by rw [e] at q; exact q) fun t r4 e4 H4 ev4 R4 => ?_
    rw [e4, bd_ok] at q
    refine take_rd (by decide +kernel) rfl R4 (ev3.trans ev4) (fun l e => by rw [e] at q; exact q) fun r5 e5 H5 ev5 R5 => ?_
    rw [e5, bd_ok] at q
    refine take_rd (by decide +kernel) rfl R5 ((ev3.trans ev4).trans ev5) (fun l e => by rw [e] at q; exact q) fun r6 e6 H6 ev6 R6 => ?_
    rw [e6, bd_ok] at q
    exact ⟨_, rfl, q _ (((ev3.trans ev4).trans ev5).trans ev6) R6⟩
theorem take_ok {x : Str} (hx : x ≠ Str.ofString "") {r r2 : Tk.Rem} (h : RemOk r) (e : mTake x r = .ok r2) : RemOk r2 := by
  unfold mTake at e
  split at e
  · rename_i c
    cases e
    exact h.word hx c
  · cases e
theorem kind_tvR {r r2 : Tk.Rem} {k : Str} {v : V} (h : RemOk r) (e : mKind k r = .ok (v, r2)) : TV v := by
  unfold mKind at e
  split at e
  · cases e
    exact h.val
  · cases e
theorem one_tvR {r r2 : Tk.Rem} {ws : List Str} {v : V} (h : RemOk r) (e : mOne ws r = .ok (v, r2)) : TV v := by
  unfold mOne at e
  split at e
  · cases e
    exact h.val
  · cases e
theorem target_tvR {r r2 : Tk.Rem} {v : V} (h : RemOk r) (e : mTargetV r = .ok (v, r2)) : TV v := by
  unfold mTargetV at e
  split at e
  · exact one_tvR h e
  · exact kind_tvR h e
theorem selEnd_tv {r r2 : Tk.Rem} {v : V} (h : RemOk r) (e : mSelEnd r = .ok (v, r2)) : TV v := by
  obtain ⟨r1, e1, e⟩ := bd_inv e
  obtain ⟨t, e2, e⟩ := bd_inv e
  obtain ⟨r3, e3, e⟩ := bd_inv e
  obtain ⟨r4, e4, e⟩ := bd_inv e
  cases e
  have h1 := take_ok (by decide +kernel) h e1
  exact target_tvR h1 e2
theorem scpWay : FnScope ["reader", "target", "field", "rows"] ["reader"] (defScope pWay) := ⟨rfl, rfl, rfl, by decide +kernel, rfl, by decide +kernel, by decide +kernel⟩
theorem ok_pWay {f : Addr} {fd : FuncData} {k : Nat} (F : Fun K "parse_way" "parse_way" pWay f fd) (M : RM P w K mg base k C cT) (D1 : Df P w K mg base (L2.CX P w) (k + 4) "parse_target" RP (spPV C cT mTargetV)) (D2 : Df P w K mg base (L2.CX P w) (k + 5) "parse_field" RP (spP K C cT mField))
    (D3 : Df P w K mg base (L2.CX P w) (k + 5) "parse_row" RP (spP K C cT mRow)) (D4 : Df P w K mg base (L2.CX P w) (k + 5) "parse_select_end" RP (spPV C cT mSelEnd)) : FnOk P w K mg base (L2.CX P w) (k + 6) f fd ["reader"] (spP K C cT mWay) := by
  obtain ⟨fS, fdS, GS, mS, bS⟩ := M.skip.ex
  obtain ⟨fT, fdT, GT, mT, bT⟩ := M.take.ex
  obtain ⟨f1, fd1, G1, g1, k1, b1⟩ := D1.ex
  obtain ⟨f2, fd2, G2, g2, k2, b2⟩ := D2.ex
  obtain ⟨f3, fd3, G3, g3, k3, b3⟩ := D3.ex
  obtain ⟨f4, fd4, G4, g4, k4, b4⟩ := D4.ex
  refine F.okX scpWay (fun vs H Q E h => ?_) (fun cdv A outer s H vs Q E hr h => ?_)
  · obtain ⟨a, tl, r, rfl, _⟩ := h
    rfl
  · obtain ⟨a, tl, r, rfl, hR, q⟩ := h
    have nd := scpWay.nd
    have hr4 : Room (k + 4) _ := hr.mono (by omega)
    have hr3 : Room (k + 3) _ := hr.mono (by omega)
    have hr2 : Room (k + 2) _ := hr.mono (by omega)
    have hs := hR.here.1
    refine ⟨_, pss_cons (ps_if (pt_val (pe_meth (pv 0) M.R.cl mS GS hr2 bS .nil pass0 (pa_cons pe_str pa_nil)) (by intro _; rfl))
        (pss_cons (ps_set (i := 1) nd rfl (.inl rfl) (pe_call G1 hr4 (by rfl) g1 k1 b1 .nil (passE (takes_of rfl rfl rfl rfl)) (pa_cons (pv 0) pa_nil)))
        (pss_cons (ps_expr (pe_meth (pv 0) M.R.cl mT GT hr3 bT .nil (passE (takes_of rfl rfl rfl rfl)) (pa_cons pe_str pa_nil)))
        (pss_one (ps_ret (pe_tup (pa_cons pe_str (pa_cons (pv 1) pa_nil))))))) pss_nil)
      (pss_cons (ps_expr (pe_meth (pv 0) M.R.cl mT GT hr3 bT .nil (passE (takes_of rfl rfl rfl rfl)) (pa_cons pe_str pa_nil)))
      (pss_cons (ps_set (i := 2) nd rfl (.inl rfl) (pe_call G2 hr (by rfl) g2 k2 b2 .nil (passE (takes_of rfl rfl rfl rfl)) (pa_cons (pv 0) pa_nil)))
      (pss_cons (ps_set (i := 3) nd rfl (.inl rfl) (pe_lst pa_nil))
      (pss_cons (ps_expr (pe_meth (pv 0) M.R.cl mT GT hr3 bT .nil (passE (takes_of rfl rfl rfl rfl)) (pa_cons pe_str pa_nil)))
      (pss_cons (ps_while (passes_of rfl) (pt_not (pt_val (pe_meth (pv 0) M.R.cl mS GS hr2 bS .nil pass0 (pa_cons pe_str pa_nil)) (by intro _; rfl)))
        (pss_one (ps_expr (pe_bm PySem.F.plainAttrs_list PySem.F.slot_list_append PySem.F.type_list_append mt_append (pv 3) (pa_cons (pe_call G3 hr (by rfl) g3 k3 b3 .nil (passE (takes_of rfl rfl rfl rfl)) (pa_cons (pv 0) pa_nil)) pa_nil)))))
      (pss_one (ps_ret (pe_tup (pa_cons pe_str (pa_cons (pv 2) (pa_cons (pv 3) (pa_cons (pe_call G4 hr (by rfl) g4 k4 b4 .nil (passE (takes_of rfl rfl rfl rfl)) (pa_cons (pv 0) pa_nil)) pa_nil)))))))))))), ?_⟩
    unfold mWay at q
    refine skip_rd (by decide +kernel) rfl hR fun H1 ev1 R1 => ⟨_, rfl, ?_⟩
    cases hc : wordAt "go" r with
    | true =>
      rw [hc, if_pos rfl] at q
      rw [mSkip_t hc] at R1
      refine iteT (partV_rd rfl R1 ev1 (fun l e => by rw [e] at q; exact q) fun t r4 e4 H4 ev4 R4 => ?_)
      rw [e4, bd_ok] at q
      refine take_rd (by decide +kernel) rfl R4 (ev1.trans ev4) (fun l e => by rw [e] at q; exact q) fun r5 e5 H5 ev5 R5 => ?_
      rw [e5, bd_ok] at q
      refine ⟨_, rfl, (by show 2 ≤ sizeLine; decide), fun p hp => ?_⟩
      obtain ⟨x1, x2, x3⟩ := mk_tup (K := K) ((ev1.trans ev4).trans ev5) R5 hs hp (.cons (.str _) (.cons (tvD_dp (target_tv R1 e4)) .nil))
      exact q _ _ x1 x2 x3
    | false =>
      rw [hc, if_neg Bool.false_ne_true] at q
      rw [mSkip_f hc] at R1
      refine iteF (take_rd (by decide +kernel) rfl R1 ev1 (fun l e => by rw [e] at q; exact q) fun r2 e2 H2 ev2 R2 => ?_)
      rw [e2, bd_ok] at q
      refine part_rd rfl R2 (ev1.trans ev2) (fun l e => by rw [e] at q; exact q) fun df r3 e3 H3 vf ev3 R3 d3 => ?_
      rw [e3, bd_ok] at q
      refine ⟨Nat.zero_le _, fun p hp => ?_⟩
      have E3 := (ev1.trans ev2).trans ev3
      have L0 := LSt.start (K := K) R3 hp
      refine take_rd (by decide +kernel) rfl L0.rd (E3.trans L0.ev) (fun l e => by rw [e] at q; exact q) fun r4 e4 H4 ev4 R4 => ?_
      rw [e4, bd_ok] at q
      refine loop_rd (E := E) (cT := cT) (by decide +kernel) row_short rfl (L0.adv ev4 R4 (Nat.le_of_lt (take_lt e4))) (fun N H5 ds r5 L5 q5 => ?_) ?_
      · obtain ⟨vs5, hv5, _⟩ := L5.at_
        refine ⟨_, rfl, .inl ⟨rfl, _, SqL.of hv5⟩, ?_⟩
        refine part_rd rfl L5.rd L5.ev (fun l e => by rw [e] at q5; exact q5) fun d r6 e6 H6 v ev6 R6 d6 => ?_
        rw [e6] at q5
        obtain ⟨vs6, hv6, hl6, L6⟩ := L5.app ev6 R6 d6 (row_short _ _ _ e6)
        exact ⟨p, vs6, v, rfl, rfl, hv6, hl6, q5 _ L6⟩
      · cases e5 : mLoop "else" mRow (r4.length + 1) r4 with
        | error l => rw [e5] at q; exact q.ev E3
        | ok pr =>
          rw [e5, bd_ok] at q
          intro H5 L5
          refine ⟨_, rfl, _, rfl, partV_rd rfl L5.rd (E3.trans L5.ev) (fun l e => by rw [e] at q; exact q) fun t r6 e6 H6 ev6 R6 => ⟨(by show 4 ≤ sizeLine; decide), fun p2 hp2 => ?_⟩⟩
          rw [e6, bd_ok] at q
          obtain ⟨x1, x2, x3⟩ := mk_tup (K := K) ((E3.trans L5.ev).trans ev6) R6 hs hp2 (.cons (.str _) (.cons (lift (ev1.trans ev2) R2 (L5.ev.trans ev6) d3) (.cons (lift E3 R3 ev6 L5.fin) (.cons (tvD_dp (selEnd_tv L5.rd.ok e6)) .nil))))
          exact q _ _ x1 x2 x3
theorem scpState : FnScope ["reader", "name", "header", "way"] ["reader"] (defScope pState) := ⟨rfl, rfl, rfl, by decide +kernel, rfl, by decide +kernel, by decide +kernel⟩
theorem ok_pState {f : Addr} {fd : FuncData} {k : Nat} (F : Fun K "parse_state" "parse_state" pState f fd) (M : RM P w K mg base k C cT) (D1 : Df P w K mg base (L2.CX P w) (k + 6) "parse_way" RP (spP K C cT mWay)) : FnOk P w K mg base (L2.CX P w) (k + 7) f fd ["reader"] (spP K C cT mState) := by
  obtain ⟨fS, fdS, GS, mS, bS⟩ := M.skip.ex
  obtain ⟨fT, fdT, GT, mT, bT⟩ := M.take.ex
  obtain ⟨fN, fdN, GN, mN, bN⟩ := M.name.ex
  obtain ⟨f1, fd1, G1, g1, k1, b1⟩ := D1.ex
  refine F.okX scpState (fun vs H Q E h => ?_) (fun cdv A outer s H vs Q E hr h => ?_)
  · obtain ⟨a, tl, r, rfl, _⟩ := h
    rfl
  · obtain ⟨a, tl, r, rfl, hR, q⟩ := h
    have nd := scpState.nd
    have hr3 : Room (k + 3) _ := hr.mono (by omega)
    have hr2 : Room (k + 2) _ := hr.mono (by omega)
    have hs := hR.here.1
    refine ⟨_, pss_cons (ps_expr (pe_meth (pv 0) M.R.cl mT GT hr3 bT .nil (passE (takes_of rfl rfl rfl rfl)) (pa_cons pe_str pa_nil)))
      (pss_cons (ps_set (i := 1) nd rfl (.inl rfl) (pe_meth0 (pv 0) M.R.cl mN GN hr3 bN .nil (passE (takes_of rfl rfl rfl rfl))))
      (pss_cons (ps_expr (pe_meth (pv 0) M.R.cl mT GT hr3 bT .nil (passE (takes_of rfl rfl rfl rfl)) (pa_cons pe_str pa_nil)))
      (pss_cons (ps_set (i := 2) nd rfl (.inl rfl) pe_non)
      (C8.pss_cut (ps_if (pt_val (pe_meth (pv 0) M.R.cl mS GS hr2 bS .nil pass0 (pa_cons pe_str pa_nil)) (by intro _; rfl)) (pss_cons (ps_set (i := 2) nd rfl (.inl rfl) (pe_meth0 (pv 0) M.R.cl mN GN hr3 bN .nil (passE (takes_of rfl rfl rfl rfl))))
        (pss_one (ps_expr (pe_meth (pv 0) M.R.cl mT GT hr3 bT .nil (passE (takes_of rfl rfl rfl rfl)) (pa_cons pe_str pa_nil))))) pss_nil)
      (pss_cons (ps_set (i := 3) nd rfl (.inl rfl) (pe_call G1 hr (by rfl) g1 k1 b1 .nil (passE (takes_of rfl rfl rfl rfl)) (pa_cons (pv 0) pa_nil)))
      (pss_cons (ps_expr (pe_meth (pv 0) M.R.cl mT GT hr3 bT .nil (passE (takes_of rfl rfl rfl rfl)) (pa_cons pe_str pa_nil)))
      (pss_one (ps_ret (pe_tup (pa_cons pe_str (pa_cons (pv 1) (pa_cons (pv 2) (pa_cons (pv 3) pa_nil))))))))))))), ?_⟩
    unfold mState at q
    refine take_rd (by decide +kernel) rfl hR (Ev.refl _ _) (fun l e => by rw [e] at q; exact q) fun r1 e1 H1 ev1 R1 => ?_
    rw [e1, bd_ok] at q
    refine name_rd (k := k) rfl R1 ev1 (fun l e => by rw [e] at q; exact q) fun v r2 e2 H2 ev2 R2 => ?_
    rw [e2, bd_ok] at q
    have E2 := ev1.trans ev2
    refine take_rd (by decide +kernel) rfl R2 E2 (fun l e => by rw [e] at q; exact q) fun r3 e3 H3 ev3 R3 => ?_
    rw [e3, bd_ok] at q
    have E3 := E2.trans ev3
    refine ⟨fun σ' H' => ∃ vm d r', σ' = [some (.ref a), some v, some vm, none] ∧ Ev a H H' ∧ Rd C H' a tl r' ∧ mOpt "extract" mNameS r3 = .ok (d, r') ∧ ∀ G, Dp K G vm d, ?_, ?_⟩
    · refine skip_rd (by decide +kernel) rfl R3 fun H4 ev4 R4 => ⟨_, rfl, ?_⟩
      cases hc : wordAt "extract" r3 with
      | true =>
        rw [mSkip_t hc] at R4
        rw [mOpt_t hc] at q ⊢
        unfold mNameS at q ⊢
        refine iteT (name_rd (k := k) rfl R4 (E3.trans ev4) (fun l e => by rw [e] at q; exact q) fun v5 r5 e5 H5 ev5 R5 => ?_)
        rw [e5, bd_ok] at q ⊢
        refine take_rd (by decide +kernel) rfl R5 ((E3.trans ev4).trans ev5) (fun l e => by rw [e] at q; exact q) fun r6 e6 H6 ev6 R6 => ?_
        exact ⟨v5, _, r6, rfl, ((E3.trans ev4).trans ev5).trans ev6, R6, by rw [e6]; rfl, fun G => tvD_dp (kind_tv R4 e5)⟩
      | false =>
        rw [mSkip_f hc] at R4
        exact iteF ⟨.non, .none, r3, rfl, E3.trans ev4, R4, mOpt_f hc, fun G => .non⟩
    · rintro σ4 H4 ⟨vm, dm, r4, rfl, E4, R4, e4, dvm⟩
      rw [e4, bd_ok] at q
      refine part_rd rfl R4 E4 (fun l e => by rw [e] at q; exact q) fun dw r5 e5 H5 vw ev5 R5 d5 => ?_
      rw [e5, bd_ok] at q
      refine take_rd (by decide +kernel) rfl R5 (E4.trans ev5) (fun l e => by rw [e] at q; exact q) fun r6 e6 H6 ev6 R6 => ?_
      rw [e6, bd_ok] at q
      refine ⟨_, rfl, _, rfl, _, rfl, (by show 4 ≤ sizeLine; decide), fun p hp => ?_⟩
      obtain ⟨x1, x2, x3⟩ := mk_tup (K := K) ((E4.trans ev5).trans ev6) R6 hs hp (.cons (.str _) (.cons (tvD_dp (kind_tv R1 e2)) (.cons (dvm _) (.cons (lift E4 R4 ev6 d5) .nil))))
      exact q _ _ x1 x2 x3
theorem scpStates : FnScope ["reader", "states"] ["reader"] (defScope pStates) := ⟨rfl, rfl, rfl, by decide +kernel, rfl, by decide +kernel, by decide +kernel⟩
theorem ok_pStates {f : Addr} {fd : FuncData} {k : Nat} (F : Fun K "parse_states" "parse_states" pStates f fd) (M : RM P w K mg base k C cT) (D1 : Df P w K mg base (L2.CX P w) (k + 7) "parse_state" RP (spP K C cT mState)) : FnOk P w K mg base (L2.CX P w) (k + 8) f fd ["reader"] (spP K C cT (asL mStates)) := by
  obtain ⟨fS, fdS, GS, mS, bS⟩ := M.skip.ex
  obtain ⟨fT, fdT, GT, mT, bT⟩ := M.take.ex
  obtain ⟨f1, fd1, G1, g1, k1, b1⟩ := D1.ex
  refine F.okX scpStates (fun vs H Q E h => ?_) (fun cdv A outer s H vs Q E hr h => ?_)
  · obtain ⟨a, tl, r, rfl, _⟩ := h
    rfl
  · obtain ⟨a, tl, r, rfl, hR, q⟩ := h
    have nd := scpStates.nd
    have hr3 : Room (k + 3) _ := hr.mono (by omega)
    have hr2 : Room (k + 2) _ := hr.mono (by omega)
    refine ⟨_, pss_cons (ps_set (i := 1) nd rfl (.inl rfl) (pe_lst pa_nil))
      (pss_cons (ps_expr (pe_meth (pv 0) M.R.cl mT GT hr3 bT .nil (passE (takes_of rfl rfl rfl rfl)) (pa_cons pe_str pa_nil)))
      (pss_cons (ps_while (passes_of rfl) (pt_not (pt_val (pe_meth (pv 0) M.R.cl mS GS hr2 bS .nil pass0 (pa_cons pe_str pa_nil)) (by intro _; rfl)))
        (pss_one (ps_expr (pe_bm PySem.F.plainAttrs_list PySem.F.slot_list_append PySem.F.type_list_append mt_append (pv 1) (pa_cons (pe_call G1 hr (by rfl) g1 k1 b1 .nil (passE (takes_of rfl rfl rfl rfl)) (pa_cons (pv 0) pa_nil)) pa_nil)))))
      (pss_one (ps_ret (pv 1))))), ?_⟩
    unfold asL mStates at q
    refine ⟨Nat.zero_le _, fun p hp => ?_⟩
    have L0 := LSt.start (K := K) hR hp
    refine take_rd (by decide +kernel) rfl L0.rd L0.ev (fun l e => by rw [e] at q; exact q) fun r1 e1 H1 ev1 R1 => ?_
    rw [e1, bd_ok] at q
    refine loop_rd (E := E) (cT := cT) (by decide +kernel) state_short rfl (L0.adv ev1 R1 (Nat.le_of_lt (take_lt e1))) (fun N H5 ds r5 L5 q5 => ?_) ?_
    · obtain ⟨vs5, hv5, _⟩ := L5.at_
      refine ⟨_, rfl, .inl ⟨rfl, _, SqL.of hv5⟩, ?_⟩
      refine part_rd rfl L5.rd L5.ev (fun l e => by rw [e] at q5; exact q5) fun d r6 e6 H6 v ev6 R6 d6 => ?_
      rw [e6] at q5
      obtain ⟨vs6, hv6, hl6, L6⟩ := L5.app ev6 R6 d6 (state_short _ _ _ e6)
      exact ⟨p, vs6, v, rfl, rfl, hv6, hl6, q5 _ L6⟩
    · cases e2 : mLoop "}" mState (r1.length + 1) r1 with
      | error l => rw [e2] at q; exact q
      | ok pr =>
        rw [e2, bd_ok] at q
        intro H2 L2
        exact ⟨_, rfl, q H2 _ L2.ev L2.rd L2.fin⟩
theorem scpParams : FnScope ["reader", "params"] ["reader"] (defScope pParams) := ⟨rfl, rfl, rfl, by decide +kernel, rfl, by decide +kernel, by decide +kernel⟩
theorem ok_pParams {f : Addr} {fd : FuncData} {k : Nat} (F : Fun K "parse_params" "parse_params" pParams f fd) (M : RM P w K mg base k C cT) (D1 : Df P w K mg base (L2.CX P w) (k + 4) "parse_width" RP (spP K C cT mWidth)) : FnOk P w K mg base (L2.CX P w) (k + 5) f fd ["reader"] (spP K C cT (asL mParams)) := by
  obtain ⟨fS, fdS, GS, mS, bS⟩ := M.skip.ex
  obtain ⟨fT, fdT, GT, mT, bT⟩ := M.take.ex
  obtain ⟨f1, fd1, G1, g1, k1, b1⟩ := D1.ex
  refine F.okX scpParams (fun vs H Q E h => ?_) (fun cdv A outer s H vs Q E hr h => ?_)
  · obtain ⟨a, tl, r, rfl, _⟩ := h
    rfl
  · obtain ⟨a, tl, r, rfl, hR, q⟩ := h
    have nd := scpParams.nd
    have hr3 : Room (k + 3) _ := hr.mono (by omega)
    have hr2 : Room (k + 2) _ := hr.mono (by omega)
    have hs := hR.here.1
    refine ⟨_, pss_cons (ps_expr (pe_meth (pv 0) M.R.cl mT GT hr3 bT .nil (passE (takes_of rfl rfl rfl rfl)) (pa_cons pe_str pa_nil)))
      (pss_cons (ps_if (pt_val (pe_meth (pv 0) M.R.cl mS GS hr2 bS .nil pass0 (pa_cons pe_str pa_nil)) (by intro _; rfl)) (pss_one (ps_ret (pe_lst pa_nil))) pss_nil)
      (pss_cons (ps_set (i := 1) nd rfl (.inl rfl) (pe_lst (pa_cons (pe_call G1 hr (by rfl) g1 k1 b1 .nil (passE (takes_of rfl rfl rfl rfl)) (pa_cons (pv 0) pa_nil)) pa_nil)))
      (pss_cons (ps_while (passes_of rfl) (pt_val (pe_meth (pv 0) M.R.cl mS GS hr2 bS .nil pass0 (pa_cons pe_str pa_nil)) (by intro _; rfl))
        (pss_one (ps_expr (pe_bm PySem.F.plainAttrs_list PySem.F.slot_list_append PySem.F.type_list_append mt_append (pv 1) (pa_cons (pe_call G1 hr (by rfl) g1 k1 b1 .nil (passE (takes_of rfl rfl rfl rfl)) (pa_cons (pv 0) pa_nil)) pa_nil)))))
      (pss_cons (ps_expr (pe_meth (pv 0) M.R.cl mT GT hr3 bT .nil (passE (takes_of rfl rfl rfl rfl)) (pa_cons pe_str pa_nil)))
      (pss_one (ps_ret (pv 1))))))), ?_⟩
    unfold asL mParams mListIn at q
    refine take_rd (by decide +kernel) rfl hR (Ev.refl _ _) (fun l e => by rw [e] at q; exact q) fun r1 e1 H1 ev1 R1 => ?_
    rw [e1, bd_ok] at q
    refine skip_rd (by decide +kernel) rfl R1 fun H2 ev2 R2 => ⟨_, rfl, ?_⟩
    cases hc : wordAt ")" r1 with
    | true =>
      rw [hc, if_pos rfl, bd_ok] at q
      rw [mSkip_t hc] at R2
      refine iteT ⟨Nat.zero_le _, fun p hp => ?_⟩
      exact q _ _ ((ev1.trans ev2).trans (Ev.same (same_new hp))) (R2.same (same_new hp)) (.lst (SqL.of (New.of (ev_none (ev1.trans ev2) R2.here.1 p hp) upd_same)) .nil)
    | false =>
      rw [hc, if_neg Bool.false_ne_true] at q
      rw [mSkip_f hc] at R2
      have E2 := ev1.trans ev2
      refine iteF (part_rd rfl R2 E2 (fun l e => by rw [e] at q; exact q) fun d r3 e3 H3 v ev3 R3 d3 => ⟨(by show 1 ≤ sizeLine; decide), fun p hp => ?_⟩)
      rw [e3, bd_ok] at q
      have hl3 := width_short _ _ _ e3
      have hl1 := R1.ok.len
      have L0 := LSt.start1 (K := K) R2.here.1 R2.here.2 ev3 R3 hp d3 (by omega)
      refine many_rd (E := E) (cT := cT) (by decide +kernel) width_short rfl L0 (fun N H5 ds r5 L5 q5 => ?_) ?_
      · obtain ⟨vs5, hv5, _⟩ := L5.at_
        refine ⟨_, rfl, .inl ⟨rfl, _, SqL.of hv5⟩, ?_⟩
        refine part_rd rfl L5.rd L5.ev (fun l e => by rw [e] at q5; exact q5) fun d r6 e6 H6 v ev6 R6 d6 => ?_
        rw [e6] at q5
        obtain ⟨vs6, hv6, hl6, L6⟩ := L5.app ev6 R6 d6 (width_short _ _ _ e6)
        exact ⟨p, vs6, v, rfl, rfl, hv6, hl6, q5 _ L6⟩
      · cases e4 : mMany "," mWidth (r3.length + 1) r3 with
        | error l => rw [e4] at q; exact q.ev E2
        | ok pr =>
          rw [e4, bd_ok] at q
          intro H5 L5
          refine take_rd (by decide +kernel) rfl L5.rd (E2.trans L5.ev) (fun l e => by rw [e] at q; exact q) fun r6 e6 H6 ev6 R6 => ?_
          rw [e6, bd_ok, bd_ok] at q
          have L6 := L5.adv ev6 R6 (Nat.le_of_lt (take_lt e6))
          exact ⟨_, rfl, q _ _ (E2.trans L6.ev) R6 (lift E2 R2 (Ev.refl _ _) L6.fin)⟩
end
end Pk
set_option Elab.async false
set_option linter.all false
set_option maxRecDepth 100000
set_option maxHeartbeats 4000000
namespace Pk
open PySem PySem.Spec PyProof.Rows L2 SX GxR Tk PySem.ErX
abbrev pAction : Stmt := topS 44
abbrev pOper : Stmt := topS 46
abbrev pExpr : Stmt := topS 47
abbrev pOperand : Stmt := topS 48
abbrev pTable : Stmt := topS 51
abbrev pKey : Stmt := topS 52
abbrev pDefault : Stmt := topS 53
abbrev pCmp : Stmt := topS 58
section
variable {P : Program} {w : World} {K : PySem.W.Frag} {mg : Str → Option Value} {base : Heap} {C cT : Addr}
theorem owner_tvR {r r2 : Tk.Rem} {v : V} (h : RemOk r) (e : mOwnerV r = .ok (v, r2)) : TV v := by
  unfold mOwnerV at e
  split at e
  · exact one_tvR h e
  · exact kind_tvR h e
theorem scpArgs : FnScope ["reader", "args"] ["reader"] (defScope pArgs) := ⟨rfl, rfl, rfl, by decide +kernel, rfl, by decide +kernel, by decide +kernel⟩
theorem ok_pArgs {f : Addr} {fd : FuncData} {k : Nat} (F : Fun K "parse_args" "parse_args" pArgs f fd) (M : RM P w K mg base k C cT) : FnOk P w K mg base (L2.CX P w) (k + 4) f fd ["reader"] (spP K C cT (asL mArgs)) := by
  obtain ⟨fS, fdS, GS, mS, bS⟩ := M.skip.ex
  obtain ⟨fT, fdT, GT, mT, bT⟩ := M.take.ex
  obtain ⟨fN, fdN, GN, mN, bN⟩ := M.num.ex
  refine F.okX scpArgs (fun vs H Q E h => ?_) (fun cdv A outer s H vs Q E hr h => ?_)
  · obtain ⟨a, tl, r, rfl, _⟩ := h
    rfl
  · obtain ⟨a, tl, r, rfl, hR, q⟩ := h
    have nd := scpArgs.nd
    have hr2 : Room (k + 2) _ := hr.mono (by omega)
    have hs := hR.here.1
    refine ⟨_, pss_cons (ps_expr (pe_meth (pv 0) M.R.cl mT GT hr bT .nil (passE (takes_of rfl rfl rfl rfl)) (pa_cons pe_str pa_nil)))
      (pss_cons (ps_if (pt_val (pe_meth (pv 0) M.R.cl mS GS hr2 bS .nil pass0 (pa_cons pe_str pa_nil)) (by intro _; rfl)) (pss_one (ps_ret (pe_lst pa_nil))) pss_nil)
      (pss_cons (ps_set (i := 1) nd rfl (.inl rfl) (pe_lst (pa_cons (pe_meth0 (pv 0) M.R.cl mN GN hr bN .nil (passE (takes_of rfl rfl rfl rfl))) pa_nil)))
      (pss_cons (ps_while (passes_of rfl) (pt_val (pe_meth (pv 0) M.R.cl mS GS hr2 bS .nil pass0 (pa_cons pe_str pa_nil)) (by intro _; rfl))
        (pss_one (ps_expr (pe_bm PySem.F.plainAttrs_list PySem.F.slot_list_append PySem.F.type_list_append mt_append (pv 1) (pa_cons (pe_meth0 (pv 0) M.R.cl mN GN hr bN .nil (passE (takes_of rfl rfl rfl rfl))) pa_nil)))))
      (pss_cons (ps_expr (pe_meth (pv 0) M.R.cl mT GT hr bT .nil (passE (takes_of rfl rfl rfl rfl)) (pa_cons pe_str pa_nil)))
      (pss_one (ps_ret (pv 1))))))), ?_⟩
    unfold asL mArgs mListIn at q
    refine take_rd (by decide +kernel) rfl hR (Ev.refl _ _) (fun l e => by rw [e] at q; exact q) fun r1 e1 H1 ev1 R1 => ?_
    rw [e1, bd_ok] at q
    refine skip_rd (by decide +kernel) rfl R1 fun H2 ev2 R2 => ⟨_, rfl, ?_⟩
    cases hc : wordAt ")" r1 with
    | true =>
      rw [hc, if_pos rfl, bd_ok] at q
      rw [mSkip_t hc] at R2
      refine iteT ⟨Nat.zero_le _, fun p hp => ?_⟩
      exact q _ _ ((ev1.trans ev2).trans (Ev.same (same_new hp))) (R2.same (same_new hp)) (.lst (SqL.of (New.of (ev_none (ev1.trans ev2) R2.here.1 p hp) upd_same)) .nil)
    | false =>
      rw [hc, if_neg Bool.false_ne_true] at q
      rw [mSkip_f hc] at R2
      have E2 := ev1.trans ev2
      refine iteF (num_rd (k := k) rfl R2 E2 (fun l e => by unfold mNumD at q; rw [e] at q; exact q) fun v r3 e3 H3 ev3 R3 => ⟨(by show 1 ≤ sizeLine; decide), fun p hp => ?_⟩)
      have e3' : mNumD r1 = .ok (tvD v, r3) := by unfold mNumD; rw [e3]; rfl
      rw [e3', bd_ok] at q
      have hl3 := num_lt e3
      have hl1 := R1.ok.len
      have L0 := LSt.start1 (K := K) R2.here.1 R2.here.2 ev3 R3 hp (tvD_dp (kind_tv R2 e3)) (by omega)
      refine many_rd (E := E) (cT := cT) (by decide +kernel) numD_short rfl L0 (fun N H5 ds r5 L5 q5 => ?_) ?_
      · obtain ⟨vs5, hv5, _⟩ := L5.at_
        refine ⟨_, rfl, .inl ⟨rfl, _, SqL.of hv5⟩, ?_⟩
        refine num_rd (k := k) rfl L5.rd L5.ev (fun l e => by unfold mNumD at q5; rw [e] at q5; exact q5) fun v6 r6 e6 H6 ev6 R6 => ?_
        have e6' : mNumD r5 = .ok (tvD v6, r6) := by unfold mNumD; rw [e6]; rfl
        rw [e6'] at q5
        obtain ⟨vs6, hv6, hl6, L6⟩ := L5.app ev6 R6 (tvD_dp (kind_tv L5.rd e6)) (num_lt e6)
        exact ⟨p, vs6, v6, rfl, rfl, hv6, hl6, q5 _ L6⟩
      · cases e4 : mMany "," mNumD (r3.length + 1) r3 with
        | error l => rw [e4] at q; exact q.ev E2
        | ok pr =>
          rw [e4, bd_ok] at q
          intro H5 L5
          refine take_rd (by decide +kernel) rfl L5.rd (E2.trans L5.ev) (fun l e => by rw [e] at q; exact q) fun r6 e6 H6 ev6 R6 => ?_
          rw [e6, bd_ok, bd_ok] at q
          have L6 := L5.adv ev6 R6 (Nat.le_of_lt (take_lt e6))
          exact ⟨_, rfl, q _ _ (E2.trans L6.ev) R6 (lift E2 R2 (Ev.refl _ _) L6.fin)⟩
theorem knd_rd {σ : L2.St} {a tl : Addr} {r : Tk.Rem} {H : Hp} {Q : VK} {E : XK} {i : Nat} (hσ : σ[i]? = some (some (.ref a))) (hR : Rd C H a tl r) (hk : Q (.str (kindAt r)) H) : tMeth C "kind" (sprKind C) [] E (tVar i) tNil σ H Q := by
  obtain ⟨dx, n, h1⟩ := hR.ins
  exact ⟨_, hσ, a, dx, _, rfl, h1, rfl, a, tl, r, rfl, hR, hk⟩
theorem scpOperand : FnScope ["reader", "owner"] ["reader"] (defScope pOperand) := ⟨rfl, rfl, rfl, by decide +kernel, rfl, by decide +kernel, by decide +kernel⟩
theorem ok_pOperand {f : Addr} {fd : FuncData} {k : Nat} (F : Fun K "parse_operand" "parse_operand" pOperand f fd) (M : RM P w K mg base k C cT) (T : PTx K mg) (D1 : Df P w K mg base (L2.CX P w) (k + 4) "parse_owner" RP (spPV C cT mOwnerV)) : FnOk P w K mg base (L2.CX P w) (k + 5) f fd ["reader"] (spP K C cT mOperand) := by
  obtain ⟨fK, fdK, GK, mK, bK⟩ := M.knd.ex
  obtain ⟨fV, fdV, GV, mV, bV⟩ := M.val.ex
  obtain ⟨fU, fdU, GU, mU, bU⟩ := M.num.ex
  obtain ⟨fN, fdN, GN, mN, bN⟩ := M.name.ex
  obtain ⟨fT, fdT, GT, mT, bT⟩ := M.take.ex
  obtain ⟨f1, fd1, G1, g1, k1, b1⟩ := D1.ex
  obtain ⟨pe, ge, te⟩ := T.OWN
  refine F.okX scpOperand (fun vs H Q E h => ?_) (fun cdv A outer s H vs Q E hr h => ?_)
  · obtain ⟨a, tl, r, rfl, _⟩ := h
    rfl
  · obtain ⟨a, tl, r, rfl, hR, q⟩ := h
    have nd := scpOperand.nd
    have hr3 : Room (k + 3) _ := hr.mono (by omega)
    have hr1 : Room (k + 1) _ := hr.mono (by omega)
    have hs := hR.here.1
    refine ⟨_, pss_cons (ps_if (pt_cmpR op_eq (pe_meth0 (pv 0) M.R.cl mK GK hr1 bK .nil pass0) pe_str (nomark _)) (pss_one (ps_ret (pe_tup (pa_cons pe_str (pa_cons (pe_meth0 (pv 0) M.R.cl mU GU hr3 bU .nil (passE (takes_of rfl rfl rfl rfl))) pa_nil))))) pss_nil)
      (pss_cons (ps_set (i := 1) nd rfl (.inl rfl) (pe_call G1 hr (by rfl) g1 k1 b1 .nil (passE (takes_of rfl rfl rfl rfl)) (pa_cons (pv 0) pa_nil)))
      (pss_cons (ps_if (PW.pt (pw_and (pt_cmpR op_notIn_seq (pv 1) (pe_glob (v := .ref pe) rfl ge rfl) (by rfl)) (pw_and1 (pt_cmpR op_ne (pe_meth0 (pv 0) M.R.cl mV GV hr1 bV .nil pass0) pe_str (nomark _))))) (pss_one (ps_ret (pe_tup (pa_cons pe_str (pa_cons (pv 1) pa_nil))))) pss_nil)
      (pss_cons (ps_expr (pe_meth (pv 0) M.R.cl mT GT hr3 bT .nil (passE (takes_of rfl rfl rfl rfl)) (pa_cons pe_str pa_nil)))
      (pss_one (ps_ret (pe_tup (pa_cons pe_str (pa_cons (pv 1) (pa_cons (pe_meth0 (pv 0) M.R.cl mN GN hr3 bN .nil (passE (takes_of rfl rfl rfl rfl))) pa_nil))))))))), ?_⟩
    unfold mOperand at q
    refine knd_rd rfl hR ⟨rfl, _, rfl, ?_⟩
    by_cases hk : kindAt r = Str.ofString "number"
    · rw [if_pos hk] at q
      rw [decide_eq_true (congrArg V.str hk)]
      refine iteT (num_rd (k := k) rfl hR (Ev.refl _ _) (fun l e => by rw [e] at q; exact q) fun v r2 e2 H2 ev2 R2 => ⟨(by show 2 ≤ sizeLine; decide), fun p hp => ?_⟩)
      rw [e2, bd_ok] at q
      obtain ⟨x1, x2, x3⟩ := mk_tup (K := K) ev2 R2 hs hp (.cons (.str _) (.cons (tvD_dp (kind_tv hR e2)) .nil))
      exact q _ _ x1 x2 x3
    · rw [if_neg hk] at q
      rw [decide_eq_false (fun z => hk (V.str.inj z))]
      refine iteF (partV_rd rfl hR (Ev.refl _ _) (fun l e => by rw [e] at q; exact q) fun v r1 e1 H1 ev1 R1 => ?_)
      rw [e1, bd_ok] at q
      have tv1 := owner_tvR hR.ok e1
      have tail : PostD K C cT a tl H Q E (bd (mTake "." r1) fun r => bd (mName r) fun n => .ok (.tuple [.str "field", tvD v, tvD n.1], n.2)) → tSeq (tDrop (tMeth C "take" (sprTake C cT) [] E (tVar 0) (tCons (tC (.str ".")) tNil)))
          (tRet (tTup (tCons (tC (.str "field")) (tCons (tVar 1) (tCons (tMeth C "take_name" (sprName C cT) [] E (tVar 0) tNil) tNil))))) { nx := fun _ H' => Q .non H', rt := Q } [some (.ref a), some v] H1 := fun q => by
        refine take_rd (by decide +kernel) rfl R1 ev1 (fun l e => by rw [e] at q; exact q) fun r2 e2 H2 ev2 R2 => ?_
        rw [e2, bd_ok] at q
        refine ⟨_, rfl, name_rd (k := k) rfl R2 (ev1.trans ev2) (fun l e => by rw [e] at q; exact q) fun v3 r3 e3 H3 ev3 R3 => ⟨(by show 3 ≤ sizeLine; decide), fun p hp => ?_⟩⟩
        rw [e3, bd_ok] at q
        obtain ⟨x1, x2, x3⟩ := mk_tup (K := K) ((ev1.trans ev2).trans ev3) R3 hs hp (.cons (.str _) (.cons (tvD_dp tv1) (.cons (tvD_dp (kind_tv R2 e3)) .nil)))
        exact q _ _ x1 x2 x3
      refine ⟨_, rfl, pe, _, rfl, .inr (te.at _), tv_flat tv1, flat_strs _, _, rfl, ?_⟩
      cases hin : inV v (ownerWords.map V.str) with
      | true =>
        rw [hin] at q
        exact iteF (iteF (tail q))
      | false =>
        rw [hin] at q
        refine iteT (val_rd rfl R1 ⟨tv_scal R1.ok.val, _, rfl, ?_⟩)
        have e0 : wordAt "." r1 = decide (valAt r1 = .str ".") := rfl
        rw [← e0]
        cases hw : wordAt "." r1 with
        | true =>
          rw [hw] at q
          exact iteF (tail q)
        | false =>
          rw [hw] at q
          refine iteT ⟨_, rfl, (by show 2 ≤ sizeLine; decide), fun p hp => ?_⟩
          obtain ⟨x1, x2, x3⟩ := mk_tup (K := K) ev1 R1 hs hp (.cons (.str _) (.cons (tvD_dp tv1) .nil))
          exact q _ _ x1 x2 x3
theorem scpExpr : FnScope ["reader", "first", "operator"] ["reader"] (defScope pExpr) := ⟨rfl, rfl, rfl, by decide +kernel, rfl, by decide +kernel, by decide +kernel⟩
theorem ok_pExpr {f : Addr} {fd : FuncData} {k : Nat} (F : Fun K "parse_expression" "parse_expression" pExpr f fd) (M : RM P w K mg base k C cT) (T : PTx K mg) (D1 : Df P w K mg base (L2.CX P w) (k + 5) "parse_operand" RP (spP K C cT mOperand)) : FnOk P w K mg base (L2.CX P w) (k + 6) f fd ["reader"] (spP K C cT mExpr) := by
  obtain ⟨fV, fdV, GV, mV, bV⟩ := M.val.ex
  obtain ⟨fO, fdO, GO, mO, bO⟩ := M.one.ex
  obtain ⟨f1, fd1, G1, g1, k1, b1⟩ := D1.ex
  obtain ⟨pe, ge, te⟩ := T.OPS
  refine F.okX scpExpr (fun vs H Q E h => ?_) (fun cdv A outer s H vs Q E hr h => ?_)
  · obtain ⟨a, tl, r, rfl, _⟩ := h
    rfl
  · obtain ⟨a, tl, r, rfl, hR, q⟩ := h
    have nd := scpExpr.nd
    have hr2 : Room (k + 2) _ := hr.mono (by omega)
    have hr1 : Room (k + 1) _ := hr.mono (by omega)
    have hs := hR.here.1
    refine ⟨_, pss_cons (ps_set (i := 1) nd rfl (.inl rfl) (pe_call G1 hr (by rfl) g1 k1 b1 .nil (passE (takes_of rfl rfl rfl rfl)) (pa_cons (pv 0) pa_nil)))
      (pss_cons (ps_if (pt_cmpR op_notIn_seq (pe_meth0 (pv 0) M.R.cl mV GV hr1 bV .nil pass0) (pe_glob (v := .ref pe) rfl ge rfl) (by rfl)) (pss_one (ps_ret (pv 1))) pss_nil)
      (pss_cons (ps_set (i := 2) nd rfl (.inl rfl) (pe_meth (pv 0) M.R.cl mO GO hr2 bO .nil (passE (takes_of rfl rfl rfl rfl)) (pa_cons (pe_glob (v := .ref pe) rfl ge rfl) pa_nil)))
      (pss_one (ps_ret (pe_tup (pa_cons (pv 2) (pa_cons (pv 1) (pa_cons (pe_call G1 hr (by rfl) g1 k1 b1 .nil (passE (takes_of rfl rfl rfl rfl)) (pa_cons (pv 0) pa_nil)) pa_nil)))))))), ?_⟩
    unfold mExpr at q
    refine part_rd rfl hR (Ev.refl _ _) (fun l e => by rw [e] at q; exact q) fun d r1 e1 H1 v ev1 R1 d1 => ?_
    rw [e1, bd_ok] at q
    refine val_rd rfl R1 ⟨pe, _, rfl, .inr (te.at _), tv_flat R1.ok.val, flat_strs _, _, rfl, ?_⟩
    cases hin : inV (valAt r1) (operators.map V.str) with
    | false =>
      rw [hin, if_neg Bool.false_ne_true] at q
      exact iteT ⟨_, rfl, q _ _ ev1 R1 d1⟩
    | true =>
      rw [hin, if_pos rfl] at q
      refine iteF (one_rd te (by decide +kernel) rfl R1 ev1 (fun l e => by rw [e] at q; exact q) fun o r2 e2 H2 ev2 R2 => ?_)
      rw [e2, bd_ok] at q
      refine ⟨_, rfl, _, rfl, part_rd rfl R2 (ev1.trans ev2) (fun l e => by rw [e] at q; exact q) fun d3 r3 e3 H3 v3 ev3 R3 dd3 => ⟨(by show 3 ≤ sizeLine; decide), fun p hp => ?_⟩⟩
      rw [e3, bd_ok] at q
      obtain ⟨x1, x2, x3⟩ := mk_tup (K := K) ((ev1.trans ev2).trans ev3) R3 hs hp (.cons (tvD_dp (one_tv R1 e2)) (.cons (liftS hs (ev2.trans ev3) d1) (.cons (lift (ev1.trans ev2) R2 (Ev.refl _ _) dd3) .nil)))
      exact q _ _ x1 x2 x3
theorem scpKey : FnScope ["reader", "field", "kind"] ["reader"] (defScope pKey) := ⟨rfl, rfl, rfl, by decide +kernel, rfl, by decide +kernel, by decide +kernel⟩
theorem ok_pKey {f : Addr} {fd : FuncData} {k : Nat} (F : Fun K "parse_key" "parse_key" pKey f fd) (M : RM P w K mg base k C cT) (T : PTx K mg) (D1 : Df P w K mg base (L2.CX P w) (k + 5) "parse_field" RP (spP K C cT mField)) : FnOk P w K mg base (L2.CX P w) (k + 6) f fd ["reader"] (spP K C cT mKey) := by
  obtain ⟨fT, fdT, GT, mT, bT⟩ := M.take.ex
  obtain ⟨fO, fdO, GO, mO, bO⟩ := M.one.ex
  obtain ⟨f1, fd1, G1, g1, k1, b1⟩ := D1.ex
  obtain ⟨pe, ge, te⟩ := T.KEY
  refine F.okX scpKey (fun vs H Q E h => ?_) (fun cdv A outer s H vs Q E hr h => ?_)
  · obtain ⟨a, tl, r, rfl, _⟩ := h
    rfl
  · obtain ⟨a, tl, r, rfl, hR, q⟩ := h
    have nd := scpKey.nd
    have hr3 : Room (k + 3) _ := hr.mono (by omega)
    have hr2 : Room (k + 2) _ := hr.mono (by omega)
    have hs := hR.here.1
    refine ⟨_, pss_cons (ps_set (i := 1) nd rfl (.inl rfl) (pe_call G1 hr (by rfl) g1 k1 b1 .nil (passE (takes_of rfl rfl rfl rfl)) (pa_cons (pv 0) pa_nil)))
      (pss_cons (ps_set (i := 2) nd rfl (.inl rfl) (pe_meth (pv 0) M.R.cl mO GO hr2 bO .nil (passE (takes_of rfl rfl rfl rfl)) (pa_cons (pe_glob (v := .ref pe) rfl ge rfl) pa_nil)))
      (pss_cons (ps_expr (pe_meth (pv 0) M.R.cl mT GT hr3 bT .nil (passE (takes_of rfl rfl rfl rfl)) (pa_cons pe_str pa_nil)))
      (pss_one (ps_ret (pe_tup (pa_cons (pv 1) (pa_cons (pv 2) pa_nil))))))), ?_⟩
    unfold mKey at q
    refine part_rd rfl hR (Ev.refl _ _) (fun l e => by rw [e] at q; exact q) fun d r1 e1 H1 v ev1 R1 d1 => ?_
    rw [e1, bd_ok] at q
    refine one_rd te (by decide +kernel) rfl R1 ev1 (fun l e => by rw [e] at q; exact q) fun o r2 e2 H2 ev2 R2 => ?_
    rw [e2, bd_ok] at q
    refine take_rd (by decide +kernel) rfl R2 (ev1.trans ev2) (fun l e => by rw [e] at q; exact q) fun r3 e3 H3 ev3 R3 => ?_
    rw [e3, bd_ok] at q
    refine ⟨_, rfl, _, rfl, (by show 2 ≤ sizeLine; decide), fun p hp => ?_⟩
    obtain ⟨x1, x2, x3⟩ := mk_tup (K := K) ((ev1.trans ev2).trans ev3) R3 hs hp (.cons (liftS hs (ev2.trans ev3) d1) (.cons (tvD_dp (one_tv R1 e2)) .nil))
    exact q _ _ x1 x2 x3
theorem scpDefault : FnScope ["reader", "name", "args"] ["reader"] (defScope pDefault) := ⟨rfl, rfl, rfl, by decide +kernel, rfl, by decide +kernel, by decide +kernel⟩
theorem ok_pDefault {f : Addr} {fd : FuncData} {k : Nat} (F : Fun K "parse_default" "parse_default" pDefault f fd) (M : RM P w K mg base k C cT) (D1 : Df P w K mg base (L2.CX P w) (k + 4) "parse_args" RP (spP K C cT (asL mArgs))) : FnOk P w K mg base (L2.CX P w) (k + 5) f fd ["reader"] (spP K C cT mDefault) := by
  obtain ⟨fT, fdT, GT, mT, bT⟩ := M.take.ex
  obtain ⟨fN, fdN, GN, mN, bN⟩ := M.name.ex
  obtain ⟨f1, fd1, G1, g1, k1, b1⟩ := D1.ex
  refine F.okX scpDefault (fun vs H Q E h => ?_) (fun cdv A outer s H vs Q E hr h => ?_)
  · obtain ⟨a, tl, r, rfl, _⟩ := h
    rfl
  · obtain ⟨a, tl, r, rfl, hR, q⟩ := h
    have nd := scpDefault.nd
    have hr3 : Room (k + 3) _ := hr.mono (by omega)
    have hs := hR.here.1
    refine ⟨_, pss_cons (ps_expr (pe_meth (pv 0) M.R.cl mT GT hr3 bT .nil (passE (takes_of rfl rfl rfl rfl)) (pa_cons pe_str pa_nil)))
      (pss_cons (ps_set (i := 1) nd rfl (.inl rfl) (pe_meth0 (pv 0) M.R.cl mN GN hr3 bN .nil (passE (takes_of rfl rfl rfl rfl))))
      (pss_cons (ps_set (i := 2) nd rfl (.inl rfl) (pe_call G1 hr (by rfl) g1 k1 b1 .nil (passE (takes_of rfl rfl rfl rfl)) (pa_cons (pv 0) pa_nil)))
      (pss_cons (ps_expr (pe_meth (pv 0) M.R.cl mT GT hr3 bT .nil (passE (takes_of rfl rfl rfl rfl)) (pa_cons pe_str pa_nil)))
      (pss_one (ps_ret (pe_tup (pa_cons (pv 1) (pa_cons (pv 2) pa_nil)))))))), ?_⟩
    unfold mDefault at q
    refine take_rd (by decide +kernel) rfl hR (Ev.refl _ _) (fun l e => by rw [e] at q; exact q) fun r1 e1 H1 ev1 R1 => ?_
    rw [e1, bd_ok] at q
    refine name_rd (k := k) rfl R1 ev1 (fun l e => by rw [e] at q; exact q) fun v r2 e2 H2 ev2 R2 => ?_
    rw [e2, bd_ok] at q
    have E2 := ev1.trans ev2
    refine part_rd rfl R2 E2 (fun l e => by have e' := asL_err e; rw [e'] at q; exact q) fun d r3 e3 H3 v3 ev3 R3 d3 => ?_
    obtain ⟨ds, e3', rfl⟩ := asL_ok e3
    rw [e3', bd_ok] at q
    refine take_rd (by decide +kernel) rfl R3 (E2.trans ev3) (fun l e => by rw [e] at q; exact q) fun r4 e4 H4 ev4 R4 => ?_
    rw [e4, bd_ok] at q
    refine ⟨_, rfl, _, rfl, (by show 2 ≤ sizeLine; decide), fun p hp => ?_⟩
    obtain ⟨x1, x2, x3⟩ := mk_tup (K := K) ((E2.trans ev3).trans ev4) R4 hs hp (.cons (tvD_dp (kind_tv R1 e2)) (.cons (lift E2 R2 ev4 d3) .nil))
    exact q _ _ x1 x2 x3
theorem scpCmp : FnScope ["reader", "field", "sign"] ["reader"] (defScope pCmp) := ⟨rfl, rfl, rfl, by decide +kernel, rfl, by decide +kernel, by decide +kernel⟩
theorem ok_pCmp {f : Addr} {fd : FuncData} {k : Nat} (F : Fun K "parse_comparison" "parse_comparison" pCmp f fd) (M : RM P w K mg base k C cT) (T : PTx K mg) (D1 : Df P w K mg base (L2.CX P w) (k + 5) "parse_field" RP (spP K C cT mField)) : FnOk P w K mg base (L2.CX P w) (k + 6) f fd ["reader"] (spP K C cT mCmp) := by
  obtain ⟨fS, fdS, GS, mS, bS⟩ := M.skip.ex
  obtain ⟨fN, fdN, GN, mN, bN⟩ := M.name.ex
  obtain ⟨fU, fdU, GU, mU, bU⟩ := M.num.ex
  obtain ⟨fO, fdO, GO, mO, bO⟩ := M.one.ex
  obtain ⟨f1, fd1, G1, g1, k1, b1⟩ := D1.ex
  obtain ⟨pe, ge, te⟩ := T.CMP
  refine F.okX scpCmp (fun vs H Q E h => ?_) (fun cdv A outer s H vs Q E hr h => ?_)
  · obtain ⟨a, tl, r, rfl, _⟩ := h
    rfl
  · obtain ⟨a, tl, r, rfl, hR, q⟩ := h
    have nd := scpCmp.nd
    have hr3 : Room (k + 3) _ := hr.mono (by omega)
    have hr2 : Room (k + 2) _ := hr.mono (by omega)
    have hs := hR.here.1
    refine ⟨_, pss_cons (ps_if (pt_val (pe_meth (pv 0) M.R.cl mS GS hr2 bS .nil pass0 (pa_cons pe_str pa_nil)) (by intro _; rfl)) (pss_one (ps_ret (pe_tup (pa_cons pe_str (pa_cons (pe_meth0 (pv 0) M.R.cl mN GN hr3 bN .nil (passE (takes_of rfl rfl rfl rfl))) pa_nil))))) pss_nil)
      (pss_cons (ps_set (i := 1) nd rfl (.inl rfl) (pe_call G1 hr (by rfl) g1 k1 b1 .nil (passE (takes_of rfl rfl rfl rfl)) (pa_cons (pv 0) pa_nil)))
      (pss_cons (ps_set (i := 2) nd rfl (.inl rfl) (pe_meth (pv 0) M.R.cl mO GO hr2 bO .nil (passE (takes_of rfl rfl rfl rfl)) (pa_cons (pe_glob (v := .ref pe) rfl ge rfl) pa_nil)))
      (pss_one (ps_ret (pe_tup (pa_cons (pv 2) (pa_cons (pv 1) (pa_cons (pe_meth0 (pv 0) M.R.cl mU GU hr3 bU .nil (passE (takes_of rfl rfl rfl rfl))) pa_nil)))))))), ?_⟩
    unfold mCmp at q
    refine skip_rd (by decide +kernel) rfl hR fun H1 ev1 R1 => ⟨_, rfl, ?_⟩
    cases hc : wordAt "valid" r with
    | true =>
      rw [hc, if_pos rfl] at q
      rw [mSkip_t hc] at R1
      refine iteT (name_rd (k := k) rfl R1 ev1 (fun l e => by rw [e] at q; exact q) fun v r2 e2 H2 ev2 R2 => ⟨(by show 2 ≤ sizeLine; decide), fun p hp => ?_⟩)
      rw [e2, bd_ok] at q
      obtain ⟨x1, x2, x3⟩ := mk_tup (K := K) (ev1.trans ev2) R2 hs hp (.cons (.str _) (.cons (tvD_dp (kind_tv R1 e2)) .nil))
      exact q _ _ x1 x2 x3
    | false =>
      rw [hc, if_neg Bool.false_ne_true] at q
      rw [mSkip_f hc] at R1
      refine iteF (part_rd rfl R1 ev1 (fun l e => by rw [e] at q; exact q) fun d r2 e2 H2 v ev2 R2 d2 => ?_)
      rw [e2, bd_ok] at q
      have E2 := ev1.trans ev2
      refine one_rd te (by decide +kernel) rfl R2 E2 (fun l e => by rw [e] at q; exact q) fun o r3 e3 H3 ev3 R3 => ?_
      rw [e3, bd_ok] at q
      refine ⟨_, rfl, _, rfl, num_rd (k := k) rfl R3 (E2.trans ev3) (fun l e => by rw [e] at q; exact q) fun v4 r4 e4 H4 ev4 R4 => ⟨(by show 3 ≤ sizeLine; decide), fun p hp => ?_⟩⟩
      rw [e4, bd_ok] at q
      obtain ⟨x1, x2, x3⟩ := mk_tup (K := K) ((E2.trans ev3).trans ev4) R4 hs hp (.cons (tvD_dp (one_tv R2 e3)) (.cons (lift ev1 R1 (ev3.trans ev4) d2) (.cons (tvD_dp (kind_tv R3 e4)) .nil)))
      exact q _ _ x1 x2 x3
end
end Pk
set_option Elab.async false
set_option linter.all false
set_option maxRecDepth 100000
set_option maxHeartbeats 4000000
namespace Pk
open PySem PySem.Spec PyProof.Rows L2 SX GxR Tk PySem.ErX
section
variable {P : Program} {w : World} {K : PySem.W.Frag} {mg : Str → Option Value} {base : Heap} {C cT : Addr}
theorem scpOper : FnScope ["reader", "operation", "field"] ["reader"] (defScope pOper) := ⟨rfl, rfl, rfl, by decide +kernel, rfl, by decide +kernel, by decide +kernel⟩
theorem ok_pOper {f : Addr} {fd : FuncData} {k : Nat} (F : Fun K "parse_operation" "parse_operation" pOper f fd) (M : RM P w K mg base k C cT) (D1 : Df P w K mg base (L2.CX P w) (k + 6) "parse_expression" RP (spP K C cT mExpr)) (D2 : Df P w K mg base (L2.CX P w) (k + 5) "parse_field" RP (spP K C cT mField)) :
    FnOk P w K mg base (L2.CX P w) (k + 7) f fd ["reader"] (spP K C cT mOper) := by
  obtain ⟨fS, fdS, GS, mS, bS⟩ := M.skip.ex
  obtain ⟨fT, fdT, GT, mT, bT⟩ := M.take.ex
  obtain ⟨fN, fdN, GN, mN, bN⟩ := M.name.ex
  obtain ⟨f1, fd1, G1, g1, k1, b1⟩ := D1.ex
  obtain ⟨f2, fd2, G2, g2, k2, b2⟩ := D2.ex
  refine F.okX scpOper (fun vs H Q E h => ?_) (fun cdv A outer s H vs Q E hr h => ?_)
  · obtain ⟨a, tl, r, rfl, _⟩ := h
    rfl
  · obtain ⟨a, tl, r, rfl, hR, q⟩ := h
    have nd := scpOper.nd
    have hr5 : Room (k + 5) _ := hr.mono (by omega)
    have hr3 : Room (k + 3) _ := hr.mono (by omega)
    have hr2 : Room (k + 2) _ := hr.mono (by omega)
    have hs := hR.here.1
    refine ⟨_, C8.pss_cut (ps_if (pt_val (pe_meth (pv 0) M.R.cl mS GS hr2 bS .nil pass0 (pa_cons pe_str pa_nil)) (by intro _; rfl)) (pss_one (ps_set (i := 1) nd rfl (.inl rfl) (pe_tup (pa_cons pe_str (pa_cons (pe_call G1 hr (by rfl) g1 k1 b1 .nil (passE (takes_of rfl rfl rfl rfl)) (pa_cons (pv 0) pa_nil)) pa_nil)))))
        (pss_one (ps_if (pt_val (pe_meth (pv 0) M.R.cl mS GS hr2 bS .nil pass0 (pa_cons pe_str pa_nil)) (by intro _; rfl)) (pss_one (ps_set (i := 1) nd rfl (.inl rfl) (pe_tup (pa_cons pe_str pa_nil))))
        (pss_one (ps_if (pt_val (pe_meth (pv 0) M.R.cl mS GS hr2 bS .nil pass0 (pa_cons pe_str pa_nil)) (by intro _; rfl)) (pss_one (ps_set (i := 1) nd rfl (.inl rfl) (pe_tup (pa_cons pe_str (pa_cons (pe_meth0 (pv 0) M.R.cl mN GN hr3 bN .nil (passE (takes_of rfl rfl rfl rfl))) pa_nil)))))
        (pss_one (ps_if (pt_val (pe_meth (pv 0) M.R.cl mS GS hr2 bS .nil pass0 (pa_cons pe_str pa_nil)) (by intro _; rfl)) (pss_one (ps_set (i := 1) nd rfl (.inl rfl) (pe_tup (pa_cons pe_str (pa_cons (pe_meth0 (pv 0) M.R.cl mN GN hr3 bN .nil (passE (takes_of rfl rfl rfl rfl))) pa_nil)))))
          (pss_cons (ps_set (i := 2) nd rfl (.inl rfl) (pe_call G2 hr5 (by rfl) g2 k2 b2 .nil (passE (takes_of rfl rfl rfl rfl)) (pa_cons (pv 0) pa_nil)))
          (pss_cons (ps_expr (pe_meth (pv 0) M.R.cl mT GT hr3 bT .nil (passE (takes_of rfl rfl rfl rfl)) (pa_cons pe_str pa_nil)))
          (pss_one (ps_set (i := 1) nd rfl (.inl rfl) (pe_tup (pa_cons pe_str (pa_cons (pv 2) (pa_cons (pe_call G1 hr (by rfl) g1 k1 b1 .nil (passE (takes_of rfl rfl rfl rfl)) (pa_cons (pv 0) pa_nil)) pa_nil)))))))))))))))
      (pss_cons (ps_expr (pe_meth (pv 0) M.R.cl mT GT hr3 bT .nil (passE (takes_of rfl rfl rfl rfl)) (pa_cons pe_str pa_nil))) (pss_one (ps_ret (pv 1)))), ?_⟩
    unfold mOper at q
    refine ⟨fun σ' H' => ∃ v d r' fl, σ' = [some (.ref a), some v, fl] ∧ Ev a H H' ∧ Rd C H' a tl r' ∧ mOper0 r = .ok (d, r') ∧ Dp K (New H H') v d, ?_, ?_⟩
    · have qe : ∀ l, mOper0 r = .error l → ErrAt cT a H E l := fun l e => by rw [e] at q; exact q
      clear q
      unfold mOper0 at qe ⊢
      refine skip_rd (by decide +kernel) rfl hR fun H1 ev1 R1 => ⟨_, rfl, ?_⟩
      cases hc1 : wordAt "send" r with
      | true =>
        rw [hc1] at qe
        rw [mSkip_t hc1] at R1
        refine iteT (part_rd rfl R1 ev1 (fun l e => qe l (by rw [if_pos rfl, e]; rfl)) fun d r2 e2 H2 v ev2 R2 d2 => ⟨(by show 2 ≤ sizeLine; decide), fun p hp => ?_⟩)
        obtain ⟨x1, x2, x3⟩ := mk_tup (K := K) (ev1.trans ev2) R2 hs hp (.cons (.str _) (.cons (lift ev1 R1 (Ev.refl _ _) d2) .nil))
        exact ⟨_, _, r2, none, rfl, x1, x2, by rw [if_pos rfl, e2]; rfl, x3⟩
      | false =>
        rw [hc1] at qe
        rw [mSkip_f hc1] at R1
        refine iteF (skip_rd (by decide +kernel) rfl R1 fun H2 ev2 R2 => ⟨_, rfl, ?_⟩)
        have E2 := ev1.trans ev2
        cases hc2 : wordAt "drop" r with
        | true =>
          rw [hc2] at qe
          rw [mSkip_t hc2] at R2
          refine iteT ⟨(by show 1 ≤ sizeLine; decide), fun p hp => ?_⟩
          obtain ⟨x1, x2, x3⟩ := mk_tup (K := K) E2 R2 hs hp (.cons (.str _) .nil)
          exact ⟨_, _, r.tail, none, rfl, x1, x2, by rw [if_neg Bool.false_ne_true, if_pos rfl], x3⟩
        | false =>
          rw [hc2] at qe
          rw [mSkip_f hc2] at R2
          refine iteF (skip_rd (by decide +kernel) rfl R2 fun H3 ev3 R3 => ⟨_, rfl, ?_⟩)
          have E3 := E2.trans ev3
          cases hc3 : wordAt "add" r with
          | true =>
            rw [hc3] at qe
            rw [mSkip_t hc3] at R3
            refine iteT (name_rd (k := k) rfl R3 E3 (fun l e => qe l (by rw [if_neg Bool.false_ne_true, if_neg Bool.false_ne_true, if_pos rfl, e]; rfl)) fun v r4 e4 H4 ev4 R4 => ⟨(by show 2 ≤ sizeLine; decide), fun p hp => ?_⟩)
            obtain ⟨x1, x2, x3⟩ := mk_tup (K := K) (E3.trans ev4) R4 hs hp (.cons (.str _) (.cons (tvD_dp (kind_tv R3 e4)) .nil))
            exact ⟨_, _, r4, none, rfl, x1, x2, by rw [if_neg Bool.false_ne_true, if_neg Bool.false_ne_true, if_pos rfl, e4]; rfl, x3⟩
          | false =>
            rw [hc3] at qe
            rw [mSkip_f hc3] at R3
            refine iteF (skip_rd (by decide +kernel) rfl R3 fun H4 ev4 R4 => ⟨_, rfl, ?_⟩)
            have E4 := E3.trans ev4
            cases hc4 : wordAt "remove" r with
            | true =>
              rw [hc4] at qe
              rw [mSkip_t hc4] at R4
              refine iteT (name_rd (k := k) rfl R4 E4 (fun l e => qe l (by rw [if_neg Bool.false_ne_true, if_neg Bool.false_ne_true, if_neg Bool.false_ne_true, if_pos rfl, e]; rfl)) fun v r5 e5 H5 ev5 R5 => ⟨(by show 2 ≤ sizeLine; decide), fun p hp => ?_⟩)
              obtain ⟨x1, x2, x3⟩ := mk_tup (K := K) (E4.trans ev5) R5 hs hp (.cons (.str _) (.cons (tvD_dp (kind_tv R4 e5)) .nil))
              exact ⟨_, _, r5, none, rfl, x1, x2, by rw [if_neg Bool.false_ne_true, if_neg Bool.false_ne_true, if_neg Bool.false_ne_true, if_pos rfl, e5]; rfl, x3⟩
            | false =>
              rw [hc4] at qe
              rw [mSkip_f hc4] at R4
              simp only [Bool.false_eq_true, if_false] at qe ⊢
              refine part_rd rfl R4 E4 (fun l e => qe l (by rw [e]; rfl)) fun d r5 e5 H5 v ev5 R5 d5 => ?_
              rw [e5, bd_ok] at qe ⊢
              have E5 := E4.trans ev5
              refine take_rd (by decide +kernel) rfl R5 E5 (fun l e => qe l (by rw [e]; rfl)) fun r6 e6 H6 ev6 R6 => ?_
              rw [e6, bd_ok] at qe ⊢
              have E6 := E5.trans ev6
              refine ⟨_, rfl, part_rd rfl R6 E6 (fun l e => qe l (by rw [e]; rfl)) fun d7 r7 e7 H7 v7 ev7 R7 dd7 => ⟨(by show 3 ≤ sizeLine; decide), fun p hp => ?_⟩⟩
              obtain ⟨x1, x2, x3⟩ := mk_tup (K := K) (E6.trans ev7) R7 hs hp (.cons (.str _) (.cons (lift E4 R4 (ev6.trans ev7) d5) (.cons (lift E6 R6 (Ev.refl _ _) dd7) .nil)))
              exact ⟨_, _, r7, some v, rfl, x1, x2, by rw [e7]; rfl, x3⟩
    · rintro σ1 H1 ⟨v, d, r1, fl, rfl, ev1, R1, e1, d1⟩
      rw [e1, bd_ok] at q
      refine take_rd (by decide +kernel) rfl R1 ev1 (fun l e => by rw [e] at q; exact q) fun r2 e2 H2 ev2 R2 => ?_
      rw [e2, bd_ok] at q
      exact ⟨_, rfl, q _ _ (ev1.trans ev2) R2 (liftS hs ev2 d1)⟩
end
end Pk
set_option Elab.async false
set_option linter.all false
set_option maxRecDepth 100000
set_option maxHeartbeats 4000000
namespace Pk
open PySem PySem.Spec PyProof.Rows L2 SX GxR Tk PySem.ErX
abbrev pCond : Stmt := topS 57
abbrev pEmits : Stmt := topS 59
section
variable {P : Program} {w : World} {K : PySem.W.Frag} {mg : Str → Option Value} {base : Heap} {C cT : Addr}
theorem scpAction : FnScope ["reader", "name", "params", "operations"] ["reader"] (defScope pAction) := ⟨rfl, rfl, rfl, by decide +kernel, rfl, by decide +kernel, by decide +kernel⟩
theorem ok_pAction {f : Addr} {fd : FuncData} {k : Nat} (F : Fun K "parse_action" "parse_action" pAction f fd) (M : RM P w K mg base k C cT) (D1 : Df P w K mg base (L2.CX P w) (k + 5) "parse_params" RP (spP K C cT (asL mParams))) (D2 : Df P w K mg base (L2.CX P w) (k + 7) "parse_operation" RP (spP K C cT mOper)) :
    FnOk P w K mg base (L2.CX P w) (k + 8) f fd ["reader"] (spP K C cT mAction) := by
  obtain ⟨fS, fdS, GS, mS, bS⟩ := M.skip.ex
  obtain ⟨fT, fdT, GT, mT, bT⟩ := M.take.ex
  obtain ⟨fN, fdN, GN, mN, bN⟩ := M.name.ex
  obtain ⟨f1, fd1, G1, g1, k1, b1⟩ := D1.ex
  obtain ⟨f2, fd2, G2, g2, k2, b2⟩ := D2.ex
  refine F.okX scpAction (fun vs H Q E h => ?_) (fun cdv A outer s H vs Q E hr h => ?_)
  · obtain ⟨a, tl, r, rfl, _⟩ := h
    rfl
  · obtain ⟨a, tl, r, rfl, hR, q⟩ := h
    have nd := scpAction.nd
    have hr5 : Room (k + 5) _ := hr.mono (by omega)
    have hr3 : Room (k + 3) _ := hr.mono (by omega)
    have hr2 : Room (k + 2) _ := hr.mono (by omega)
    have hs := hR.here.1
    refine ⟨_, pss_cons (ps_set (i := 1) nd rfl (.inl rfl) (pe_meth0 (pv 0) M.R.cl mN GN hr3 bN .nil (passE (takes_of rfl rfl rfl rfl))))
      (pss_cons (ps_set (i := 2) nd rfl (.inl rfl) (pe_call G1 hr5 (by rfl) g1 k1 b1 .nil (passE (takes_of rfl rfl rfl rfl)) (pa_cons (pv 0) pa_nil)))
      (pss_cons (ps_set (i := 3) nd rfl (.inl rfl) (pe_lst pa_nil))
      (pss_cons (ps_expr (pe_meth (pv 0) M.R.cl mT GT hr3 bT .nil (passE (takes_of rfl rfl rfl rfl)) (pa_cons pe_str pa_nil)))
      (pss_cons (ps_while (passes_of rfl) (pt_not (pt_val (pe_meth (pv 0) M.R.cl mS GS hr2 bS .nil pass0 (pa_cons pe_str pa_nil)) (by intro _; rfl))) (pss_one (ps_expr (pe_bm PySem.F.plainAttrs_list PySem.F.slot_list_append PySem.F.type_list_append mt_append (pv 3) (pa_cons (pe_call G2 hr (by rfl) g2 k2 b2 .nil (passE (takes_of rfl rfl rfl rfl)) (pa_cons (pv 0) pa_nil)) pa_nil)))))
      (pss_one (ps_ret (pe_tup (pa_cons pe_str (pa_cons (pv 1) (pa_cons (pv 2) (pa_cons (pv 3) pa_nil))))))))))), ?_⟩
    unfold mAction at q
    refine name_rd (k := k) rfl hR (Ev.refl _ _) (fun l e => by rw [e] at q; exact q) fun v r1 e1 H1 ev1 R1 => ?_
    rw [e1, bd_ok] at q
    refine part_rd rfl R1 ev1 (fun l e => by have e' := asL_err e; rw [e'] at q; exact q) fun d r2 e2 H2 v2 ev2 R2 d2 => ⟨Nat.zero_le _, fun p hp => ?_⟩
    obtain ⟨ds, e2', rfl⟩ := asL_ok e2
    rw [e2', bd_ok] at q
    have E2 := ev1.trans ev2
    have L0 := LSt.start (K := K) R2 hp
    refine take_rd (by decide +kernel) rfl L0.rd (E2.trans L0.ev) (fun l e => by rw [e] at q; exact q) fun r3 e3 H3 ev3 R3 => ?_
    rw [e3, bd_ok] at q
    refine loop_rd (E := E) (cT := cT) (by decide +kernel) oper_short rfl (L0.adv ev3 R3 (Nat.le_of_lt (take_lt e3))) (fun N H5 ds5 r5 L5 q5 => ?_) ?_
    · obtain ⟨vs5, hv5, _⟩ := L5.at_
      refine ⟨_, rfl, .inl ⟨rfl, _, SqL.of hv5⟩, ?_⟩
      refine part_rd rfl L5.rd L5.ev (fun l e => by rw [e] at q5; exact q5) fun d r6 e6 H6 v6 ev6 R6 d6 => ?_
      rw [e6] at q5
      obtain ⟨vs6, hv6, hl6, L6⟩ := L5.app ev6 R6 d6 (oper_short _ _ _ e6)
      exact ⟨p, vs6, v6, rfl, rfl, hv6, hl6, q5 _ L6⟩
    · cases e5 : mLoop "}" mOper (r3.length + 1) r3 with
      | error l => rw [e5] at q; exact q.ev E2
      | ok pr =>
        rw [e5, bd_ok] at q
        intro H5 L5
        refine ⟨_, rfl, _, rfl, _, rfl, (by show 4 ≤ sizeLine; decide), fun p2 hp2 => ?_⟩
        obtain ⟨x1, x2, x3⟩ := mk_tup (K := K) (E2.trans L5.ev) L5.rd hs hp2 (.cons (.str _) (.cons (tvD_dp (kind_tv hR e1)) (.cons (lift ev1 R1 L5.ev d2) (.cons (lift E2 R2 (Ev.refl _ _) L5.fin) .nil))))
        exact q _ _ x1 x2 x3
theorem scpTable : FnScope ["reader", "name", "keys", "uses", "default", "size"] ["reader"] (defScope pTable) := ⟨rfl, rfl, rfl, by decide +kernel, rfl, by decide +kernel, by decide +kernel⟩
theorem ok_pTable {f : Addr} {fd : FuncData} {k : Nat} (F : Fun K "parse_table" "parse_table" pTable f fd) (M : RM P w K mg base k C cT) (D1 : Df P w K mg base (L2.CX P w) (k + 6) "parse_key" RP (spP K C cT mKey)) (D2 : Df P w K mg base (L2.CX P w) (k + 5) "parse_default" RP (spP K C cT mDefault)) :
    FnOk P w K mg base (L2.CX P w) (k + 7) f fd ["reader"] (spP K C cT mTable) := by
  obtain ⟨fS, fdS, GS, mS, bS⟩ := M.skip.ex
  obtain ⟨fT, fdT, GT, mT, bT⟩ := M.take.ex
  obtain ⟨fN, fdN, GN, mN, bN⟩ := M.name.ex
  obtain ⟨fU, fdU, GU, mU, bU⟩ := M.num.ex
  obtain ⟨f1, fd1, G1, g1, k1, b1⟩ := D1.ex
  obtain ⟨f2, fd2, G2, g2, k2, b2⟩ := D2.ex
  refine F.okX scpTable (fun vs H Q E h => ?_) (fun cdv A outer s H vs Q E hr h => ?_)
  · obtain ⟨a, tl, r, rfl, _⟩ := h
    rfl
  · obtain ⟨a, tl, r, rfl, hR, q⟩ := h
    have nd := scpTable.nd
    have hr5 : Room (k + 5) _ := hr.mono (by omega)
    have hr3 : Room (k + 3) _ := hr.mono (by omega)
    have hr2 : Room (k + 2) _ := hr.mono (by omega)
    have hs := hR.here.1
    refine ⟨_, pss_cons (ps_set (i := 1) nd rfl (.inl rfl) (pe_meth0 (pv 0) M.R.cl mN GN hr3 bN .nil (passE (takes_of rfl rfl rfl rfl))))
      (pss_cons (ps_expr (pe_meth (pv 0) M.R.cl mT GT hr3 bT .nil (passE (takes_of rfl rfl rfl rfl)) (pa_cons pe_str pa_nil)))
      (pss_cons (ps_set (i := 2) nd rfl (.inl rfl) (pe_lst pa_nil))
      (pss_cons (ps_while (passes_of rfl) (pt_val (pe_meth (pv 0) M.R.cl mS GS hr2 bS .nil pass0 (pa_cons pe_str pa_nil)) (by intro _; rfl)) (pss_one (ps_expr (pe_bm PySem.F.plainAttrs_list PySem.F.slot_list_append PySem.F.type_list_append mt_append (pv 2) (pa_cons (pe_call G1 hr (by rfl) g1 k1 b1 .nil (passE (takes_of rfl rfl rfl rfl)) (pa_cons (pv 0) pa_nil)) pa_nil)))))
      (pss_cons (ps_set (i := 3) nd rfl (.inl rfl) (pe_lst pa_nil))
      (pss_cons (ps_while (passes_of rfl) (pt_val (pe_meth (pv 0) M.R.cl mS GS hr2 bS .nil pass0 (pa_cons pe_str pa_nil)) (by intro _; rfl)) (pss_cons (ps_expr (pe_bm PySem.F.plainAttrs_list PySem.F.slot_list_append PySem.F.type_list_append mt_append (pv 3) (pa_cons (pe_meth0 (pv 0) M.R.cl mN GN hr3 bN .nil (passE (takes_of rfl rfl rfl rfl))) pa_nil))) (pss_one (ps_expr (pe_meth (pv 0) M.R.cl mT GT hr3 bT .nil (passE (takes_of rfl rfl rfl rfl)) (pa_cons pe_str pa_nil))))))
      (pss_cons (ps_set (i := 4) nd rfl (.inl rfl) (pe_call G2 hr5 (by rfl) g2 k2 b2 .nil (passE (takes_of rfl rfl rfl rfl)) (pa_cons (pv 0) pa_nil)))
      (pss_cons (ps_expr (pe_meth (pv 0) M.R.cl mT GT hr3 bT .nil (passE (takes_of rfl rfl rfl rfl)) (pa_cons pe_str pa_nil)))
      (pss_cons (ps_set (i := 5) nd rfl (.inl rfl) (pe_meth0 (pv 0) M.R.cl mU GU hr3 bU .nil (passE (takes_of rfl rfl rfl rfl))))
      (pss_cons (ps_expr (pe_meth (pv 0) M.R.cl mT GT hr3 bT .nil (passE (takes_of rfl rfl rfl rfl)) (pa_cons pe_str pa_nil)))
      (pss_cons (ps_expr (pe_meth (pv 0) M.R.cl mT GT hr3 bT .nil (passE (takes_of rfl rfl rfl rfl)) (pa_cons pe_str pa_nil)))
      (pss_one (ps_ret (pe_tup (pa_cons pe_str (pa_cons (pv 1) (pa_cons (pv 2) (pa_cons (pv 3) (pa_cons (pv 4) (pa_cons (pv 5) pa_nil))))))))))))))))))), ?_⟩
    unfold mTable at q
    refine name_rd (k := k) rfl hR (Ev.refl _ _) (fun l e => by rw [e] at q; exact q) fun v r1 e1 H1 ev1 R1 => ?_
    rw [e1, bd_ok] at q
    refine take_rd (by decide +kernel) rfl R1 ev1 (fun l e => by rw [e] at q; exact q) fun r2 e2 H2 ev2 R2 => ⟨Nat.zero_le _, fun p hp => ?_⟩
    rw [e2, bd_ok] at q
    have E2 := ev1.trans ev2
    refine many_rd (E := E) (cT := cT) (by decide +kernel) key_short rfl (LSt.start (K := K) R2 hp) (fun N H5 ds5 r5 L5 q5 => ?_) ?_
    · obtain ⟨vs5, hv5, _⟩ := L5.at_
      refine ⟨_, rfl, .inl ⟨rfl, _, SqL.of hv5⟩, ?_⟩
      refine part_rd rfl L5.rd L5.ev (fun l e => by rw [e] at q5; exact q5) fun d r6 e6 H6 v6 ev6 R6 d6 => ?_
      rw [e6] at q5
      obtain ⟨vs6, hv6, hl6, L6⟩ := L5.app ev6 R6 d6 (key_short _ _ _ e6)
      exact ⟨p, vs6, v6, rfl, rfl, hv6, hl6, q5 _ L6⟩
    cases e3 : mMany "key" mKey (r2.length + 1) r2 with
    | error l => rw [e3] at q; exact q.ev E2
    | ok pr =>
    rw [e3, bd_ok] at q
    intro H3 L3
    have E3 := E2.trans L3.ev
    have R3 := L3.rd
    refine ⟨Nat.zero_le _, fun p4 hp4 => ?_⟩
    refine many_rd (E := E) (cT := cT) (by decide +kernel) nameS_short rfl (LSt.start (K := K) R3 hp4) (fun N H5 ds5 r5 L5 q5 => ?_) ?_
    · obtain ⟨vs5, hv5, _⟩ := L5.at_
      refine ⟨_, rfl, .inl ⟨rfl, _, SqL.of hv5⟩, ?_⟩
      unfold mNameS at q5
      refine name_rd (k := k) rfl L5.rd L5.ev (fun l e => by rw [e] at q5; exact q5) fun v6 r6 e6 H6 ev6 R6 => ?_
      rw [e6, bd_ok] at q5
      obtain ⟨vs6, hv6, hl6, L6⟩ := L5.app ev6 R6 (tvD_dp (kind_tv L5.rd e6)) (name_lt e6)
      refine ⟨p4, vs6, v6, rfl, rfl, hv6, hl6, ?_⟩
      refine take_rd (by decide +kernel) rfl L6.rd L6.ev (fun l e => by rw [e] at q5; exact q5) fun r7 e7 H7 ev7 R7 => ?_
      rw [e7, bd_ok] at q5
      exact q5 _ (L6.adv ev7 R7 (Nat.le_of_lt (take_lt e7)))
    cases e4 : mMany "use" mNameS (pr.2.length + 1) pr.2 with
    | error l => rw [e4] at q; exact q.ev E3
    | ok pr4 =>
    rw [e4, bd_ok] at q
    intro H4 L4
    have E4 := E3.trans L4.ev
    refine part_rd rfl L4.rd E4 (fun l e => by rw [e] at q; exact q) fun d5 r5 e5 H5 v5 ev5 R5 dd5 => ?_
    rw [e5, bd_ok] at q
    have E5 := E4.trans ev5
    refine take_rd (by decide +kernel) rfl R5 E5 (fun l e => by rw [e] at q; exact q) fun r6 e6 H6 ev6 R6 => ?_
    rw [e6, bd_ok] at q
    have E6 := E5.trans ev6
    refine num_rd (k := k) rfl R6 E6 (fun l e => by rw [e] at q; exact q) fun v7 r7 e7 H7 ev7 R7 => ?_
    rw [e7, bd_ok] at q
    have E7 := E6.trans ev7
    refine take_rd (by decide +kernel) rfl R7 E7 (fun l e => by rw [e] at q; exact q) fun r8 e8 H8 ev8 R8 => ?_
    rw [e8, bd_ok] at q
    have E8 := E7.trans ev8
    refine take_rd (by decide +kernel) rfl R8 E8 (fun l e => by rw [e] at q; exact q) fun r9 e9 H9 ev9 R9 => ?_
    rw [e9, bd_ok] at q
    have E9 := E8.trans ev9
    have T59 := ((ev6.trans ev7).trans ev8).trans ev9
    refine ⟨_, rfl, _, rfl, _, rfl, _, rfl, _, rfl, (by show 6 ≤ sizeLine; decide), fun p9 hp9 => ?_⟩
    obtain ⟨x1, x2, x3⟩ := mk_tup (K := K) E9 R9 hs hp9 (.cons (.str _) (.cons (tvD_dp (kind_tv hR e1)) (.cons (lift E2 R2 ((L4.ev.trans ev5).trans T59) L3.fin) (.cons (lift E3 R3 (ev5.trans T59) L4.fin) (.cons (lift E4 L4.rd T59 dd5) (.cons (tvD_dp (kind_tv R6 e7)) .nil))))))
    exact q _ _ x1 x2 x3
theorem scpEmits : FnScope ["reader", "names"] ["reader"] (defScope pEmits) := ⟨rfl, rfl, rfl, by decide +kernel, rfl, by decide +kernel, by decide +kernel⟩
theorem ok_pEmits {f : Addr} {fd : FuncData} {k : Nat} (F : Fun K "parse_emits" "parse_emits" pEmits f fd) (M : RM P w K mg base k C cT) : FnOk P w K mg base (L2.CX P w) (k + 4) f fd ["reader"] (spP K C cT (asL mEmits)) := by
  obtain ⟨fS, fdS, GS, mS, bS⟩ := M.skip.ex
  obtain ⟨fT, fdT, GT, mT, bT⟩ := M.take.ex
  obtain ⟨fN, fdN, GN, mN, bN⟩ := M.name.ex
  refine F.okX scpEmits (fun vs H Q E h => ?_) (fun cdv A outer s H vs Q E hr h => ?_)
  · obtain ⟨a, tl, r, rfl, _⟩ := h
    rfl
  · obtain ⟨a, tl, r, rfl, hR, q⟩ := h
    have nd := scpEmits.nd
    have hr3 : Room (k + 3) _ := hr.mono (by omega)
    have hr2 : Room (k + 2) _ := hr.mono (by omega)
    have hs := hR.here.1
    refine ⟨_, pss_cons (ps_set (i := 1) nd rfl (.inl rfl) (pe_lst (pa_cons (pe_meth0 (pv 0) M.R.cl mN GN hr3 bN .nil (passE (takes_of rfl rfl rfl rfl))) pa_nil)))
      (pss_cons (ps_while (passes_of rfl) (pt_val (pe_meth (pv 0) M.R.cl mS GS hr2 bS .nil pass0 (pa_cons pe_str pa_nil)) (by intro _; rfl)) (pss_one (ps_expr (pe_bm PySem.F.plainAttrs_list PySem.F.slot_list_append PySem.F.type_list_append mt_append (pv 1) (pa_cons (pe_meth0 (pv 0) M.R.cl mN GN hr3 bN .nil (passE (takes_of rfl rfl rfl rfl))) pa_nil)))))
      (pss_cons (ps_expr (pe_meth (pv 0) M.R.cl mT GT hr3 bT .nil (passE (takes_of rfl rfl rfl rfl)) (pa_cons pe_str pa_nil))) (pss_one (ps_ret (pv 1))))), ?_⟩
    unfold asL mEmits at q
    refine name_rd (k := k) rfl hR (Ev.refl _ _) (fun l e => by rw [e] at q; exact q) fun v r3 e3 H3 ev3 R3 => ⟨(by show 1 ≤ sizeLine; decide), fun p hp => ?_⟩
    rw [e3, bd_ok] at q
    have hl3 := name_lt e3
    have hl1 := hR.ok.len
    have L0 := LSt.start1 (K := K) hR.here.1 hR.here.2 ev3 R3 hp (tvD_dp (kind_tv hR e3)) (by omega)
    refine many_rd (E := E) (cT := cT) (by decide +kernel) nameD_short rfl L0 (fun N H5 ds r5 L5 q5 => ?_) ?_
    · obtain ⟨vs5, hv5, _⟩ := L5.at_
      refine ⟨_, rfl, .inl ⟨rfl, _, SqL.of hv5⟩, ?_⟩
      refine name_rd (k := k) rfl L5.rd L5.ev (fun l e => by unfold mNameD at q5; rw [e] at q5; exact q5) fun v6 r6 e6 H6 ev6 R6 => ?_
      have e6' : mNameD r5 = .ok (tvD v6, r6) := by unfold mNameD; rw [e6]; rfl
      rw [e6'] at q5
      obtain ⟨vs6, hv6, hl6, L6⟩ := L5.app ev6 R6 (tvD_dp (kind_tv L5.rd e6)) (name_lt e6)
      exact ⟨p, vs6, v6, rfl, rfl, hv6, hl6, q5 _ L6⟩
    · cases e4 : mMany "," mNameD (r3.length + 1) r3 with
      | error l => rw [e4] at q; exact q
      | ok pr =>
        rw [e4, bd_ok] at q
        intro H5 L5
        refine take_rd (by decide +kernel) rfl L5.rd L5.ev (fun l e => by rw [e] at q; exact q) fun r6 e6 H6 ev6 R6 => ?_
        rw [e6, bd_ok, bd_ok] at q
        have L6 := L5.adv ev6 R6 (Nat.le_of_lt (take_lt e6))
        exact ⟨_, rfl, q _ _ L6.ev R6 L6.fin⟩
end
end Pk
set_option Elab.async false
set_option linter.all false
set_option maxRecDepth 100000
set_option maxHeartbeats 4000000
namespace Pk
open PySem PySem.Spec PyProof.Rows L2 SX GxR Tk PySem.ErX
abbrev pBlock : Stmt := topS 55
abbrev pStmt : Stmt := topS 56
section
variable {P : Program} {w : World} {K : PySem.W.Frag} {mg : Str → Option Value} {base : Heap} {C cT : Addr}
theorem mNots_s (n : Nat) (r : Tk.Rem) : mNots (n + 1) r = if wordAt "not" r = true then ((mNots n r.tail).1 + 1, (mNots n r.tail).2) else (0, r) := by rw [mNots]
theorem scpCond : FnScope ["reader", "nots", "condition", "_"] ["reader"] (defScope pCond) := ⟨rfl, rfl, rfl, by decide +kernel, rfl, by decide +kernel, by decide +kernel⟩
theorem ok_pCond {f : Addr} {fd : FuncData} {k : Nat} (F : Fun K "parse_condition" "parse_condition" pCond f fd) (M : RM P w K mg base k C cT) (T : PTx K mg) (zRange : mg "range" = none) (D1 : Df P w K mg base (L2.CX P w) (k + 6) "parse_comparison" RP (spP K C cT mCmp)) :
    FnOk P w K mg base (L2.CX P w) (k + 7) f fd ["reader"] (spP K C cT mCond) := by
  obtain ⟨fS, fdS, GS, mS, bS⟩ := M.skip.ex
  obtain ⟨f1, fd1, G1, g1, k1, b1⟩ := D1.ex
  obtain ⟨un, gn, rn⟩ := T.MNO
  refine F.okX scpCond (fun vs H Q E h => ?_) (fun cdv A outer s H vs Q E hr h => ?_)
  · obtain ⟨a, tl, r, rfl, _⟩ := h
    rfl
  · obtain ⟨a, tl, r, rfl, hR, q⟩ := h
    have nd := scpCond.nd
    have hr2 : Room (k + 2) _ := hr.mono (by omega)
    have hs := hR.here.1
    refine ⟨_, pss_cons (ps_set (i := 1) nd rfl (.inl rfl) pe_int)
      (pss_cons (ps_while (passes_of rfl) (PW.pt (pw_and (pt_cmpR op_lt (pv 1) (pe_glob rfl gn rn) (nomark _)) (pw_and1 (pt_val (pe_meth (pv 0) M.R.cl mS GS hr2 bS .nil pass0 (pa_cons pe_str pa_nil)) (by intro _; rfl))))) (pss_one (ps_aug (i := 1) nd rfl (.inl rfl) pe_int ip_add)))
      (pss_cons (ps_set (i := 2) nd rfl (.inl rfl) (pe_call G1 hr (by rfl) g1 k1 b1 .nil (passE (takes_of rfl rfl rfl rfl)) (pa_cons (pv 0) pa_nil)))
      (pss_cons (ps_for (passes_of rfl) rfl (pi_range1 (by rfl) zRange (pa_cons (pv 1) pa_nil)) (pg_name (i := 3) nd rfl (.inl rfl)) (pss_one (ps_set (i := 2) nd rfl (.inl rfl) (pe_tup (pa_cons pe_str (pa_cons (pv 2) pa_nil))))))
      (pss_one (ps_ret (pv 2)))))), ?_⟩
    unfold mCond at q
    refine ⟨fun m σ' H' => ∃ (n : Nat) (r' : Tk.Rem), m = 8 - n ∧ σ' = [some (.ref a), some (.int (n : Nat)), none, none] ∧ n ≤ 8 ∧ Ev a H H' ∧ Rd C H' a tl r' ∧ mNots 8 r = ((mNots (8 - n) r').1 + n, (mNots (8 - n) r').2), ⟨8, 0, r, rfl, rfl, by decide, Ev.refl _ _, hR, rfl⟩, ?_⟩
    rintro m σ' H1 ⟨n, r1, rfl, rfl, hn, ev1, R1, en⟩
    have fin : ∀ H2, Ev a H H2 → Rd C H2 a tl r1 → mNots 8 r = (n, r1) → tSeq (tAsg (tCall (spP K C cT mCmp) [] E (tCons (tVar 0) tNil)) (gName 2)) (tSeq (tFor (iRng1 (tCons (tVar 1) tNil)) (gName 3) (tAsg (tTup (tCons (tC (.str "not")) (tCons (tVar 2) tNil))) (gName 2))) (tRet (tVar 2)))
        { nx := fun _ H' => Q .non H', rt := Q } [some (.ref a), some (.int (n : Nat)), none, none] H2 := fun H2 ev2 R2 e0 => by
      rw [e0] at q
      refine part_rd rfl R2 ev2 (fun l e => by rw [e] at q; exact q) fun d r3 e3 H3 v ev3 R3 d3 => ?_
      have q' : PostD K C cT a tl H Q E (bd (mCmp r1) fun c => .ok (wrapN n c.1, c.2)) := q
      rw [e3, bd_ok] at q'
      have E3 := ev2.trans ev3
      refine ⟨_, rfl, (n : Nat), rfl, by omega, by omega, for_range (lo := 0) (n := ((n : Nat) : Int).toNat) (fun i σ' H' => ∃ v' v3, σ' = [some (.ref a), some (.int (n : Nat)), some v', v3] ∧ Ev a H H' ∧ Rd C H' a tl r3 ∧ Dp K (New H H') v' (wrapN i d))
        ⟨v, none, rfl, E3, R3, lift ev2 R2 (Ev.refl _ _) d3⟩ ?_ ?_⟩
      · rintro i σ' H4 hi ⟨v', v3, rfl, E4, R4, d4⟩
        refine ⟨_, rfl, (by show 2 ≤ sizeLine; decide), fun p hp => ?_⟩
        obtain ⟨x1, x2, x3⟩ := mk_tup (K := K) E4 R4 hs hp (.cons (.str _) (.cons d4 .nil))
        exact ⟨_, _, rfl, x1, x2, x3⟩
      · rintro σ' H4 ⟨v', v3, rfl, E4, R4, d4⟩
        rw [Int.toNat_natCast] at d4
        exact ⟨_, rfl, q' _ _ E4 R4 d4⟩
    refine ⟨_, rfl, _, _, rfl, rfl, _, rfl, iteD (fun hlt => ?_) fun hlt => ?_⟩
    · obtain ⟨j, hj⟩ : ∃ j, 8 - n = j + 1 := ⟨7 - n, by omega⟩
      rw [hj, mNots_s j r1] at en
      refine skip_rd (by decide +kernel) rfl R1 fun H2 ev2 R2 => ⟨_, rfl, ?_⟩
      cases hc : wordAt "not" r1 with
      | true =>
        rw [hc, if_pos rfl] at en
        rw [mSkip_t hc] at R2
        refine iteT ⟨fun σ2 H3 => ∃ m', m' < 8 - n ∧ ∃ (n : Nat) (r' : Tk.Rem), m' = 8 - n ∧ σ2 = [some (.ref a), some (.int (n : Nat)), none, none] ∧ n ≤ 8 ∧ Ev a H H3 ∧ Rd C H3 a tl r' ∧ mNots 8 r = ((mNots (8 - n) r').1 + n, (mNots (8 - n) r').2), fun _ _ h => h, ?_⟩
        refine ⟨_, rfl, _, _, rfl, rfl, 8 - (n + 1), by omega, n + 1, r1.tail, rfl, rfl, by omega, ev1.trans ev2, R2, ?_⟩
        have e8 : 8 - (n + 1) = j := by omega
        rw [en, e8]
        show (_, _) = (_, _)
        congr 1
        omega
      | false =>
        rw [hc, if_neg Bool.false_ne_true] at en
        rw [mSkip_f hc] at R2
        exact iteF (fin H2 (ev1.trans ev2) R2 (by rw [en]; show (0 + n, r1) = _; rw [Nat.zero_add]))
    · have h8 : n = 8 := by omega
      subst h8
      exact iteF (fin H1 ev1 R1 (by rw [en]; show (0 + 8, r1) = _; rfl))
/-! blocks and statements, n the blocks that may still be opened -/
def spBlk (K : PySem.W.Frag) (C cT : Addr) (n : Nat) : Sp := fun vs H Q E => ∃ (a tl : Addr) (r : Tk.Rem), vs = [.ref a, .int (8 - (n : Int))] ∧ n ≤ 8 ∧ Rd C H a tl r ∧ PostD K C cT a tl H Q E (asL (mBlock n) r)
def spStm (K : PySem.W.Frag) (C cT : Addr) (n : Nat) : Sp := fun vs H Q E => ∃ (a tl : Addr) (r : Tk.Rem), vs = [.ref a, .int (8 - (n : Int))] ∧ n ≤ 8 ∧ Rd C H a tl r ∧ PostD K C cT a tl H Q E (mStmt (mBlock n) r)
abbrev RO : List Str := ["reader", "outer"]
theorem scpStmt : FnScope ["reader", "outer", "name", "condition", "then", "other"] ["reader", "outer"] (defScope pStmt) := ⟨rfl, rfl, rfl, by decide +kernel, rfl, by decide +kernel, by decide +kernel⟩
theorem scpBlock : FnScope ["reader", "outer", "statements"] ["reader", "outer"] (defScope pBlock) := ⟨rfl, rfl, rfl, by decide +kernel, rfl, by decide +kernel, by decide +kernel⟩
theorem ok_pStmt {f : Addr} {fd : FuncData} {k n : Nat} (hk : 9 ≤ k) (F : Fun K "parse_statement" "parse_statement" pStmt f fd) (M : RM P w K mg base 0 C cT) (D1 : Df P w K mg base (L2.CX P w) 7 "parse_condition" RP (spP K C cT mCond)) (D2 : Df P w K mg base (L2.CX P w) k "parse_block" RO (spBlk K C cT n)) :
    FnOk P w K mg base (L2.CX P w) (k + 1) f fd ["reader", "outer"] (spStm K C cT n) := by
  obtain ⟨fS, fdS, GS, mS, bS⟩ := M.skip.ex
  obtain ⟨fT, fdT, GT, mT, bT⟩ := M.take.ex
  obtain ⟨fN, fdN, GN, mN, bN⟩ := M.name.ex
  obtain ⟨f1, fd1, G1, g1, k1, b1⟩ := D1.ex
  obtain ⟨f2, fd2, G2, g2, k2, b2⟩ := D2.ex
  refine F.okX scpStmt (fun vs H Q E h => ?_) (fun cdv A outer s H vs Q E hr h => ?_)
  · obtain ⟨a, tl, r, rfl, _⟩ := h
    rfl
  · obtain ⟨a, tl, r, rfl, hn8, hR, q⟩ := h
    have nd := scpStmt.nd
    have hr7 : Room 7 _ := hr.mono (by omega)
    have hr3 : Room (0 + 3) _ := hr.mono (by omega)
    have hr2 : Room (0 + 2) _ := hr.mono (by omega)
    have hs := hR.here.1
    refine ⟨_, pss_cons (ps_if (pt_val (pe_meth (pv 0) M.R.cl mS GS hr2 bS .nil pass0 (pa_cons pe_str pa_nil)) (by intro _; rfl)) (pss_cons (ps_set (i := 2) nd rfl (.inl rfl) (pe_meth0 (pv 0) M.R.cl mN GN hr3 bN .nil (passE (takes_of rfl rfl rfl rfl)))) (pss_cons (ps_expr (pe_meth (pv 0) M.R.cl mT GT hr3 bT .nil (passE (takes_of rfl rfl rfl rfl)) (pa_cons pe_str pa_nil))) (pss_one (ps_ret (pe_tup (pa_cons pe_str (pa_cons (pv 2) pa_nil))))))) pss_nil)
      (pss_cons (ps_expr (pe_meth (pv 0) M.R.cl mT GT hr3 bT .nil (passE (takes_of rfl rfl rfl rfl)) (pa_cons pe_str pa_nil)))
      (pss_cons (ps_set (i := 3) nd rfl (.inl rfl) (pe_call G1 hr7 (by rfl) g1 k1 b1 .nil (passE (takes_of rfl rfl rfl rfl)) (pa_cons (pv 0) pa_nil)))
      (pss_cons (ps_set (i := 4) nd rfl (.inl rfl) (pe_call G2 hr (by rfl) g2 k2 b2 .nil (passE (takes_of rfl rfl rfl rfl)) (pa_cons (pv 0) (pa_cons (pv 1) pa_nil))))
      (pss_cons (ps_set (i := 5) nd rfl (.inl rfl) (pe_lst pa_nil))
      (C8.pss_cut (ps_if (pt_val (pe_meth (pv 0) M.R.cl mS GS hr2 bS .nil pass0 (pa_cons pe_str pa_nil)) (by intro _; rfl)) (pss_one (ps_set (i := 5) nd rfl (.inl rfl) (pe_call G2 hr (by rfl) g2 k2 b2 .nil (passE (takes_of rfl rfl rfl rfl)) (pa_cons (pv 0) (pa_cons (pv 1) pa_nil))))) pss_nil)
      (pss_one (ps_ret (pe_tup (pa_cons pe_str (pa_cons (pv 3) (pa_cons (pv 4) (pa_cons (pv 5) pa_nil)))))))))))), ?_⟩
    unfold mStmt at q
    refine skip_rd (by decide +kernel) rfl hR fun H1 ev1 R1 => ⟨_, rfl, ?_⟩
    cases hc : wordAt "apply" r with
    | true =>
      rw [hc, if_pos rfl] at q
      rw [mSkip_t hc] at R1
      refine iteT (name_rd (k := 0) rfl R1 ev1 (fun l e => by rw [e] at q; exact q) fun v r2 e2 H2 ev2 R2 => ?_)
      rw [e2, bd_ok] at q
      refine take_rd (by decide +kernel) rfl R2 (ev1.trans ev2) (fun l e => by rw [e] at q; exact q) fun r3 e3 H3 ev3 R3 => ⟨_, rfl, (by show 2 ≤ sizeLine; decide), fun p hp => ?_⟩
      rw [e3, bd_ok] at q
      obtain ⟨x1, x2, x3⟩ := mk_tup (K := K) ((ev1.trans ev2).trans ev3) R3 hs hp (.cons (.str _) (.cons (tvD_dp (kind_tv R1 e2)) .nil))
      exact q _ _ x1 x2 x3
    | false =>
      rw [hc, if_neg Bool.false_ne_true] at q
      rw [mSkip_f hc] at R1
      refine iteF (take_rd (by decide +kernel) rfl R1 ev1 (fun l e => by rw [e] at q; exact q) fun r2 e2 H2 ev2 R2 => ?_)
      rw [e2, bd_ok] at q
      have E2 := ev1.trans ev2
      refine part_rd rfl R2 E2 (fun l e => by rw [e] at q; exact q) fun d3 r3 e3 H3 v3 ev3 R3 dd3 => ?_
      rw [e3, bd_ok] at q
      have E3 := E2.trans ev3
      refine ⟨_, rfl, _, rfl, a, tl, r3, rfl, hn8, R3, ?_⟩
      unfold asL
      cases e4 : mBlock n r3 with
      | error l => rw [e4] at q; exact q.ev E3
      | ok pr4 =>
      rw [e4, bd_ok] at q
      intro H4 v4 ev4 R4 dd4
      have E4 := E3.trans ev4
      refine ⟨Nat.zero_le _, fun p5 hp5 => ?_⟩
      have ev5 : Ev a H4 (upd H4 p5 (.lst [])) := Ev.same (same_new hp5)
      have R5 := R4.same (same_new (o := .lst []) hp5)
      have E5 := E4.trans ev5
      have dd5 : Dp K (New H (upd H4 p5 (.lst []))) (.ref p5) (.list []) := .lst (SqL.of (New.of (ev_none E4 R4.here.1 p5 hp5) upd_same)) .nil
      refine ⟨fun σ' H' => ∃ vo ds r', σ' = [some (.ref a), some (.int (8 - (n : Int))), none, some v3, some v4, some vo] ∧ Ev a H4 H' ∧ Rd C H' a tl r' ∧ (if wordAt "else" pr4.2 = true then mBlock n pr4.2.tail else .ok ([], pr4.2)) = .ok (ds, r') ∧ Dp K (New H H') vo (.list ds), ?_, ?_⟩
      · refine skip_rd (by decide +kernel) rfl R5 fun H6 ev6 R6 => ⟨_, rfl, ?_⟩
        cases hc2 : wordAt "else" pr4.2 with
        | true =>
          rw [hc2, if_pos rfl] at q
          rw [mSkip_t hc2] at R6
          refine iteT ⟨_, rfl, _, rfl, a, tl, pr4.2.tail, rfl, hn8, R6, ?_⟩
          unfold asL
          cases e7 : mBlock n pr4.2.tail with
          | error l => rw [e7] at q; exact q.ev (E5.trans ev6)
          | ok pr7 =>
            rw [bd_ok]
            intro H7 v7 ev7 R7 dd7
            exact ⟨v7, pr7.1, pr7.2, rfl, (ev5.trans ev6).trans ev7, R7, by rw [if_pos rfl], lift (E5.trans ev6) R6 (Ev.refl _ _) dd7⟩
        | false =>
          rw [mSkip_f hc2] at R6
          exact iteF ⟨_, [], pr4.2, rfl, ev5.trans ev6, R6, by rw [if_neg Bool.false_ne_true], liftS hs ev6 dd5⟩
      · rintro σ7 H7 ⟨vo, ds, r7, rfl, ev7, R7, e7, dd7⟩
        rw [e7, bd_ok] at q
        refine ⟨_, rfl, _, rfl, _, rfl, (by show 4 ≤ sizeLine; decide), fun p hp => ?_⟩
        obtain ⟨x1, x2, x3⟩ := mk_tup (K := K) (E4.trans ev7) R7 hs hp (.cons (.str _) (.cons (lift E2 R2 (ev4.trans ev7) dd3) (.cons (lift E3 R3 ev7 dd4) (.cons dd7 .nil))))
        exact q _ _ x1 x2 x3
theorem ok_none {f : Addr} {fd : FuncData} {k : Nat} (F : Fun K "parse_statement" "parse_statement" pStmt f fd) : FnOk P w K mg base (L2.CX P w) (k + 1) f fd ["reader", "outer"] (fun _ _ _ _ => False) :=
  F.okX scpStmt (fun _ _ _ _ h => h.elim) (fun _ _ _ _ _ _ _ _ _ h => h.elim)
theorem ok_pBlock0 {f : Addr} {fd : FuncData} {k : Nat} (hk : 8 ≤ k) (F : Fun K "parse_block" "parse_block" pBlock f fd) (M : RM P w K mg base 0 C cT) (T : PTx K mg) (D2 : Df P w K mg base (L2.CX P w) k "parse_statement" RO (fun _ _ _ _ => False)) :
    FnOk P w K mg base (L2.CX P w) (k + 1) f fd ["reader", "outer"] (spBlk K C cT 0) := by
  obtain ⟨fF, fdF, GF, mF, bF⟩ := M.fail.ex
  obtain ⟨fS, fdS, GS, mS, bS⟩ := M.skip.ex
  obtain ⟨fT, fdT, GT, mT, bT⟩ := M.take.ex
  obtain ⟨f2, fd2, G2, g2, k2, b2⟩ := D2.ex
  obtain ⟨un, gn, rn⟩ := T.MBL
  refine F.okX scpBlock (fun vs H Q E h => ?_) (fun cdv A outer s H vs Q E hr h => ?_)
  · obtain ⟨a, tl, r, rfl, _⟩ := h
    rfl
  · obtain ⟨a, tl, r, rfl, hn8, hR, q⟩ := h
    have nd := scpBlock.nd
    have hr3 : Room (0 + 3) _ := hr.mono (by omega)
    have hr2 : Room (0 + 2) _ := hr.mono (by omega)
    have hr1 : Room (0 + 1) _ := hr.mono (by omega)
    have hs := hR.here.1
    refine ⟨_, pss_cons (ps_if (pt_cmpR op_eq (pv 1) (pe_glob rfl gn rn) (nomark _)) (pss_one (ps_expr (pe_meth0 (pv 0) M.R.cl mF GF hr1 bF .nil (passE (takes_of rfl rfl rfl rfl))))) pss_nil)
      (pss_cons (ps_set (i := 2) nd rfl (.inl rfl) (pe_lst pa_nil))
      (pss_cons (ps_expr (pe_meth (pv 0) M.R.cl mT GT hr3 bT .nil (passE (takes_of rfl rfl rfl rfl)) (pa_cons pe_str pa_nil)))
      (pss_cons (ps_while (passes_of rfl) (pt_not (pt_val (pe_meth (pv 0) M.R.cl mS GS hr2 bS .nil pass0 (pa_cons pe_str pa_nil)) (by intro _; rfl))) (pss_one (ps_expr (pe_bm PySem.F.plainAttrs_list PySem.F.slot_list_append PySem.F.type_list_append mt_append (pv 2) (pa_cons (pe_call G2 hr (by rfl) g2 k2 b2 .nil (passE (takes_of rfl rfl rfl rfl)) (pa_cons (pv 0) (pa_cons (pe_op op_add (pv 1) pe_int) pa_nil))) pa_nil)))))
      (pss_one (ps_ret (pv 2)))))), ?_⟩
    have q' : ErrAt cT a H E (lineAt r) := q
    refine ⟨_, rfl, rfl, _, rfl, ?_⟩
    rw [dcInt]
    refine iteDT (by decide) ?_
    obtain ⟨dx, i, h1⟩ := hR.ins
    exact ⟨_, rfl, a, dx, _, rfl, h1, rfl, a, tl, r, rfl, hR, fun H' x s hx => q' H' x (Ev.same s) hx⟩
theorem ok_pBlockS {f : Addr} {fd : FuncData} {k n : Nat} (hk : 8 ≤ k) (F : Fun K "parse_block" "parse_block" pBlock f fd) (M : RM P w K mg base 0 C cT) (T : PTx K mg) (D2 : Df P w K mg base (L2.CX P w) k "parse_statement" RO (spStm K C cT n)) :
    FnOk P w K mg base (L2.CX P w) (k + 1) f fd ["reader", "outer"] (spBlk K C cT (n + 1)) := by
  obtain ⟨fF, fdF, GF, mF, bF⟩ := M.fail.ex
  obtain ⟨fS, fdS, GS, mS, bS⟩ := M.skip.ex
  obtain ⟨fT, fdT, GT, mT, bT⟩ := M.take.ex
  obtain ⟨f2, fd2, G2, g2, k2, b2⟩ := D2.ex
  obtain ⟨un, gn, rn⟩ := T.MBL
  refine F.okX scpBlock (fun vs H Q E h => ?_) (fun cdv A outer s H vs Q E hr h => ?_)
  · obtain ⟨a, tl, r, rfl, _⟩ := h
    rfl
  · obtain ⟨a, tl, r, rfl, hn8, hR, q⟩ := h
    have nd := scpBlock.nd
    have hr3 : Room (0 + 3) _ := hr.mono (by omega)
    have hr2 : Room (0 + 2) _ := hr.mono (by omega)
    have hr1 : Room (0 + 1) _ := hr.mono (by omega)
    have hs := hR.here.1
    refine ⟨_, pss_cons (ps_if (pt_cmpR op_eq (pv 1) (pe_glob rfl gn rn) (nomark _)) (pss_one (ps_expr (pe_meth0 (pv 0) M.R.cl mF GF hr1 bF .nil (passE (takes_of rfl rfl rfl rfl))))) pss_nil)
      (pss_cons (ps_set (i := 2) nd rfl (.inl rfl) (pe_lst pa_nil))
      (pss_cons (ps_expr (pe_meth (pv 0) M.R.cl mT GT hr3 bT .nil (passE (takes_of rfl rfl rfl rfl)) (pa_cons pe_str pa_nil)))
      (pss_cons (ps_while (passes_of rfl) (pt_not (pt_val (pe_meth (pv 0) M.R.cl mS GS hr2 bS .nil pass0 (pa_cons pe_str pa_nil)) (by intro _; rfl))) (pss_one (ps_expr (pe_bm PySem.F.plainAttrs_list PySem.F.slot_list_append PySem.F.type_list_append mt_append (pv 2) (pa_cons (pe_call G2 hr (by rfl) g2 k2 b2 .nil (passE (takes_of rfl rfl rfl rfl)) (pa_cons (pv 0) (pa_cons (pe_op op_add (pv 1) pe_int) pa_nil))) pa_nil)))))
      (pss_one (ps_ret (pv 2)))))), ?_⟩
    unfold asL at q
    have eB : mBlock (n + 1) r = bd (mTake "{" r) fun r => mLoop "}" (mStmt (mBlock n)) (r.length + 1) r := by rw [mBlock]
    rw [eB] at q
    refine ⟨_, rfl, rfl, _, rfl, ?_⟩
    rw [dcInt]
    refine iteDF (by omega) ⟨Nat.zero_le _, fun p hp => ?_⟩
    have L0 := LSt.start (K := K) hR hp
    refine take_rd (by decide +kernel) rfl L0.rd L0.ev (fun l e => by rw [e] at q; exact q) fun r1 e1 H1 ev1 R1 => ?_
    rw [e1, bd_ok] at q
    refine loop_rd (E := E) (cT := cT) (by decide +kernel) (stmt_short (block_lt n)) rfl (L0.adv ev1 R1 (Nat.le_of_lt (take_lt e1))) (fun N H5 ds r5 L5 q5 => ?_) ?_
    · obtain ⟨vs5, hv5, _⟩ := L5.at_
      refine ⟨_, rfl, .inl ⟨rfl, _, SqL.of hv5⟩, ?_⟩
      refine ⟨_, rfl, _, rfl, _, _, rfl, rfl, a, tl, r5, ?_, by omega, L5.rd, ?_⟩
      · show [V.ref a, V.int (8 - ((n + 1 : Nat) : Int) + 1)] ++ [] = _
        rw [show (8 - ((n + 1 : Nat) : Int) + 1) = 8 - (n : Int) by omega]
        rfl
      cases e6 : mStmt (mBlock n) r5 with
      | error l => rw [e6] at q5; exact ErrAt.ev q5 L5.ev
      | ok pr =>
        rw [e6] at q5
        intro H6 v ev6 R6 d6
        obtain ⟨vs6, hv6, hl6, L6⟩ := L5.app ev6 R6 d6 (stmt_short (block_lt n) _ _ _ e6)
        exact ⟨p, vs6, v, rfl, rfl, hv6, hl6, q5 _ L6⟩
    · cases e2 : mLoop "}" (mStmt (mBlock n)) (r1.length + 1) r1 with
      | error l => rw [e2] at q; exact q
      | ok pr =>
        rw [e2, bd_ok] at q
        intro H2 L2
        exact ⟨_, rfl, q H2 _ L2.ev L2.rd L2.fin⟩
/-- all blocks, by the number of those that may still be opened -/
theorem blocks (AB : AtD K mg "parse_block" pBlock RO) (AS : AtD K mg "parse_statement" pStmt RO) (M : RM P w K mg base 0 C cT) (T : PTx K mg) (D1 : Df P w K mg base (L2.CX P w) 7 "parse_condition" RP (spP K C cT mCond)) :
    ∀ n, Df P w K mg base (L2.CX P w) (2 * n + 9) "parse_block" RO (spBlk K C cT n)
  | 0 => AB.df fun f fd F => ok_pBlock0 (k := 8) (Nat.le_refl _) F M T (AS.df fun f fd F => ok_none (k := 7) F)
  | n + 1 => AB.df fun f fd F => ok_pBlockS (k := 2 * n + 10) (by omega) F M T (AS.df fun f fd F => ok_pStmt (k := 2 * n + 9) (by omega) F M D1 (blocks AB AS M T D1 n))
end
end Pk
set_option Elab.async false
set_option linter.all false
set_option maxRecDepth 100000
set_option maxHeartbeats 4000000
namespace Pk
open PySem PySem.Spec PyProof.Rows L2 SX GxR Tk PySem.ErX
abbrev pProgram : Stmt := topS 34
theorem tokOf_tv {p : List Nat} {k : Str} {v : V} (h : tokOf p = some (k, v)) : TV v := by
  unfold Tk.tokOf at h
  split at h
  · split at h <;> (cases h; exact .inl ⟨_, rfl⟩)
  · split at h
    · cases h
      exact .inr ⟨_, rfl⟩
    · split at h
      · cases h
        exact .inl ⟨_, rfl⟩
      · cases h
theorem tok_rem : ∀ (f l : Nat) (t : List Nat) (ts : List Tk.Tok), toks f l t = .ok ts → (∃ p l', ts = p ++ [endTok l']) ∧ ts.length ≤ t.length + 1 ∧ (∀ x ∈ ts, TV x.2.1) ∧ ∀ x ∈ ts, x.2.2 ≤ l + t.length := by
  intro f
  induction f with
  | zero =>
    intro l t ts h
    cases t with
    | nil =>
      cases h
      exact ⟨⟨[], l, rfl⟩, Nat.le_refl _, fun x hx => by obtain rfl := List.mem_singleton.mp hx; exact .inl ⟨_, rfl⟩, fun x hx => by obtain rfl := List.mem_singleton.mp hx; exact Nat.le_refl _⟩
    | cons c r => cases h
  | succ f ih =>
    intro l t ts h
    cases t with
    | nil =>
      cases h
      exact ⟨⟨[], l, rfl⟩, Nat.le_refl _, fun x hx => by obtain rfl := List.mem_singleton.mp hx; exact .inl ⟨_, rfl⟩, fun x hx => by obtain rfl := List.mem_singleton.mp hx; exact Nat.le_refl _⟩
    | cons c r =>
      rw [toks_cons] at h
      split at h
      · obtain ⟨h1, h2, h3, h4⟩ := ih _ _ _ h
        have hd := dropWhile_le (· ≠ 10) r
        refine ⟨h1, by rw [List.length_cons]; omega, h3, fun x hx => ?_⟩
        have := h4 x hx
        rw [List.length_cons]
        omega
      · split at h
        · obtain ⟨h1, h2, h3, h4⟩ := ih _ _ _ h
          refine ⟨h1, by rw [List.length_cons]; omega, h3, fun x hx => ?_⟩
          have := h4 x hx
          rw [List.length_cons]
          omega
        · split at h
          · obtain ⟨h1, h2, h3, h4⟩ := ih _ _ _ h
            refine ⟨h1, by rw [List.length_cons]; omega, h3, fun x hx => ?_⟩
            have := h4 x hx
            rw [List.length_cons]
            omega
          · cases hk : tokOf ((c :: r).take (partLen (c :: r))) with
            | none => rw [hk] at h; cases h
            | some kv =>
              obtain ⟨k, v⟩ := kv
              rw [hk] at h
              cases hr : toks f l ((c :: r).drop (partLen (c :: r))) with
              | error e => rw [hr] at h; cases h
              | ok us =>
                rw [hr] at h
                cases h
                obtain ⟨⟨p, l', h1⟩, h2, h3, h4⟩ := ih _ _ _ hr
                have hp := partLen_pos c r
                have hd : ((c :: r).drop (partLen (c :: r))).length ≤ r.length := by rw [List.length_drop, List.length_cons]; omega
                refine ⟨⟨(k, v, l) :: p, l', by rw [h1]; rfl⟩, by rw [List.length_cons, List.length_cons]; omega, fun x hx => ?_, fun x hx => ?_⟩
                · rcases List.mem_cons.mp hx with rfl | hx
                  · exact tokOf_tv hk
                  · exact h3 x hx
                · rcases List.mem_cons.mp hx with rfl | hx
                  · exact Nat.le_add_right _ _
                  · have := h4 x hx
                    rw [List.length_cons]
                    omega
/-- the program of a text -/
def progT (t : List Nat) : Except Nat PyData := bd (toksT 1 t) fun ts => bd (mProgram ts) fun p => .ok p.1
def spProgram (K : PySem.W.Frag) (Pt cT : Addr) : Sp := fun vs H Q E => ∃ t : List Nat, vs = [.str (S t)] ∧ t.length ≤ 1000000 ∧ TabG H Pt ∧ match progT t with
  | .ok d => ∀ H' p xs, Sm H H' → TabG H' Pt → H' p = some (.tup xs) → xs.length = 9 → Dp K H' (.ref p) d → Q (.ref p) H'
  | .error l => ∀ H' x, Sm H H' → TabG H' Pt → H' x = some (.xd [("line", .int (l : Nat))]) → E (.ref cT) (some x) H'
/-- the ways out of the whole: nine parts -/
def PostP (K : PySem.W.Frag) (C cT a tl : Addr) (H : Hp) (Q : VK) (E : XK) : Tk.Rs → Prop
  | .ok (d, r) => ∀ H' p xs, Ev a H H' → Rd C H' a tl r → H' p = some (.tup xs) → xs.length = 9 → Dp K (New H H') (.ref p) d → Q (.ref p) H'
  | .error l => ErrAt cT a H E l
theorem scpProgram : FnScope ["text", "reader", "name", "headers", "meta", "states", "actions", "tables", "control", "emits"] ["text"] (defScope pProgram) := ⟨rfl, rfl, rfl, by decide +kernel, rfl, by decide +kernel, by decide +kernel⟩
section
variable {P : Program} {w : World} {K : PySem.W.Frag} {mg : Str → Option Value} {base : Heap} {C cT Pt : Addr}
theorem ok_pProgram {f fI : Addr} {fd fdI : FuncData} (F : Fun K "parse_program" "parse_program" pProgram f fd) (M : RM P w K mg base 0 C cT) (MI : Mk K C fI) (GI : FnOk P w K mg base CX0 1 fI fdI ["self", "tokens"] (sprInit C)) (bI : Binds K fdI ["self", "tokens"] []) (gC : mg "Reader" = some (.ref C))
    (D1 : Df P w K mg base (L2.CX P w) 5 "tokenize" ["text"] (spTokenize Pt cT)) (D2 : Df P w K mg base (L2.CX P w) 6 "parse_header" RP (spP K C cT mHeader)) (D3 : Df P w K mg base (L2.CX P w) 5 "parse_fields" RP (spP K C cT (asL mFields))) (D4 : Df P w K mg base (L2.CX P w) 8 "parse_states" RP (spP K C cT (asL mStates)))
    (D5 : Df P w K mg base (L2.CX P w) 8 "parse_action" RP (spP K C cT mAction)) (D6 : Df P w K mg base (L2.CX P w) 7 "parse_table" RP (spP K C cT mTable)) (D7 : Df P w K mg base (L2.CX P w) 25 "parse_block" RO (spBlk K C cT 8)) (D8 : Df P w K mg base (L2.CX P w) 4 "parse_emits" RP (spP K C cT (asL mEmits))) :
    FnOk P w K mg base (L2.CX P w) 26 f fd ["text"] (spProgram K Pt cT) := by
  obtain ⟨fS, fdS, GS, mS, bS⟩ := M.skip.ex
  obtain ⟨fT, fdT, GT, mT, bT⟩ := M.take.ex
  obtain ⟨fN, fdN, GN, mN, bN⟩ := M.name.ex
  obtain ⟨fF, fdF, GF, mF, bF⟩ := M.fin.ex
  obtain ⟨f1, fd1, G1, g1, k1, b1⟩ := D1.ex
  obtain ⟨f2, fd2, G2, g2, k2, b2⟩ := D2.ex
  obtain ⟨f3, fd3, G3, g3, k3, b3⟩ := D3.ex
  obtain ⟨f4, fd4, G4, g4, k4, b4⟩ := D4.ex
  obtain ⟨f5, fd5, G5, g5, k5, b5⟩ := D5.ex
  obtain ⟨f6, fd6, G6, g6, k6, b6⟩ := D6.ex
  obtain ⟨f7, fd7, G7, g7, k7, b7⟩ := D7.ex
  obtain ⟨f8, fd8, G8, g8, k8, b8⟩ := D8.ex
  refine F.okX scpProgram (fun vs H Q E h => ?_) (fun cdv A outer s H vs Q E hr h => ?_)
  · obtain ⟨t, rfl, _⟩ := h
    rfl
  · obtain ⟨t, rfl, hz, tg, q⟩ := h
    have nd := scpProgram.nd
    have hr8 : Room 8 _ := hr.mono (by omega)
    have hr7 : Room 7 _ := hr.mono (by omega)
    have hr6 : Room 6 _ := hr.mono (by omega)
    have hr5 : Room 5 _ := hr.mono (by omega)
    have hr4 : Room 4 _ := hr.mono (by omega)
    have hr3 : Room (0 + 3) _ := hr.mono (by omega)
    have hr2 : Room (0 + 2) _ := hr.mono (by omega)
    refine ⟨_, pss_cons (ps_set (i := 1) nd rfl (.inl rfl) (pe_make MI GI (hr.mono (by omega)) rfl gC bI .nil pass0 (pa_cons (pe_call G1 (hr.mono (by omega)) (by rfl) g1 k1 b1 .nil (passE (takes_of rfl rfl rfl rfl)) (pa_cons (pv 0) pa_nil)) pa_nil)))
      (pss_cons (ps_expr (pe_meth (pv 1) M.R.cl mT GT hr3 bT .nil (passE (takes_of rfl rfl rfl rfl)) (pa_cons pe_str pa_nil)))
      (pss_cons (ps_set (i := 2) nd rfl (.inl rfl) (pe_meth0 (pv 1) M.R.cl mN GN hr3 bN .nil (passE (takes_of rfl rfl rfl rfl))))
      (pss_cons (ps_set (i := 3) nd rfl (.inl rfl) (pe_lst pa_nil))
      (pss_cons (ps_while (passes_of rfl) (pt_val (pe_meth (pv 1) M.R.cl mS GS hr2 bS .nil pass0 (pa_cons pe_str pa_nil)) (by intro _; rfl)) (pss_one (ps_expr (pe_bm PySem.F.plainAttrs_list PySem.F.slot_list_append PySem.F.type_list_append mt_append (pv 3) (pa_cons (pe_call G2 hr6 (by rfl) g2 k2 b2 .nil (passE (takes_of rfl rfl rfl rfl)) (pa_cons (pv 1) pa_nil)) pa_nil)))))
      (pss_cons (ps_set (i := 4) nd rfl (.inl rfl) (pe_lst pa_nil))
      (C8.pss_cut (ps_if (pt_val (pe_meth (pv 1) M.R.cl mS GS hr2 bS .nil pass0 (pa_cons pe_str pa_nil)) (by intro _; rfl)) (pss_one (ps_set (i := 4) nd rfl (.inl rfl) (pe_call G3 hr5 (by rfl) g3 k3 b3 .nil (passE (takes_of rfl rfl rfl rfl)) (pa_cons (pv 1) pa_nil)))) pss_nil)
      (pss_cons (ps_expr (pe_meth (pv 1) M.R.cl mT GT hr3 bT .nil (passE (takes_of rfl rfl rfl rfl)) (pa_cons pe_str pa_nil)))
      (pss_cons (ps_set (i := 5) nd rfl (.inl rfl) (pe_call G4 hr8 (by rfl) g4 k4 b4 .nil (passE (takes_of rfl rfl rfl rfl)) (pa_cons (pv 1) pa_nil)))
      (pss_cons (ps_set (i := 6) nd rfl (.inl rfl) (pe_lst pa_nil))
      (pss_cons (ps_while (passes_of rfl) (pt_val (pe_meth (pv 1) M.R.cl mS GS hr2 bS .nil pass0 (pa_cons pe_str pa_nil)) (by intro _; rfl)) (pss_one (ps_expr (pe_bm PySem.F.plainAttrs_list PySem.F.slot_list_append PySem.F.type_list_append mt_append (pv 6) (pa_cons (pe_call G5 hr8 (by rfl) g5 k5 b5 .nil (passE (takes_of rfl rfl rfl rfl)) (pa_cons (pv 1) pa_nil)) pa_nil)))))
      (pss_cons (ps_set (i := 7) nd rfl (.inl rfl) (pe_lst pa_nil))
      (pss_cons (ps_while (passes_of rfl) (pt_val (pe_meth (pv 1) M.R.cl mS GS hr2 bS .nil pass0 (pa_cons pe_str pa_nil)) (by intro _; rfl)) (pss_one (ps_expr (pe_bm PySem.F.plainAttrs_list PySem.F.slot_list_append PySem.F.type_list_append mt_append (pv 7) (pa_cons (pe_call G6 hr7 (by rfl) g6 k6 b6 .nil (passE (takes_of rfl rfl rfl rfl)) (pa_cons (pv 1) pa_nil)) pa_nil)))))
      (pss_cons (ps_expr (pe_meth (pv 1) M.R.cl mT GT hr3 bT .nil (passE (takes_of rfl rfl rfl rfl)) (pa_cons pe_str pa_nil)))
      (pss_cons (ps_set (i := 8) nd rfl (.inl rfl) (pe_call G7 hr (by rfl) g7 k7 b7 .nil (passE (takes_of rfl rfl rfl rfl)) (pa_cons (pv 1) (pa_cons pe_int pa_nil))))
      (pss_cons (ps_set (i := 9) nd rfl (.inl rfl) (pe_lst pa_nil))
      (C8.pss_cut (ps_if (pt_val (pe_meth (pv 1) M.R.cl mS GS hr2 bS .nil pass0 (pa_cons pe_str pa_nil)) (by intro _; rfl)) (pss_one (ps_set (i := 9) nd rfl (.inl rfl) (pe_call G8 hr4 (by rfl) g8 k8 b8 .nil (passE (takes_of rfl rfl rfl rfl)) (pa_cons (pv 1) pa_nil)))) pss_nil)
      (pss_cons (ps_expr (pe_meth0 (pv 1) M.R.cl mF GF hr2 bF .nil (passE (takes_of rfl rfl rfl rfl))))
      (pss_one (ps_ret (pe_tup (pa_cons pe_str (pa_cons (pv 2) (pa_cons (pv 3) (pa_cons (pv 4) (pa_cons (pv 5) (pa_cons (pv 6) (pa_cons (pv 7) (pa_cons (pv 8) (pa_cons (pv 9) pa_nil))))))))))))))))))))))))))))), ?_⟩
    unfold progT at q
    refine ⟨_, rfl, t, rfl, hz, tg, fun ts hts H1 p rs sm tg1 hp hT hRs => ?_, fun l hl H' x sm tg' hx => ?_⟩
    case refine_2 =>
      rw [hl, bd_err] at q
      exact q H' x sm tg' hx
    intro a dx ha hdx hne
    refine ⟨a, dx, p, rfl, upd_same, rfl, ?_⟩
    rw [hts, bd_ok] at q
    obtain ⟨⟨tp, tl', e1⟩, e2, e3, e4⟩ := tok_rem _ _ _ _ hts
    have kr : ∀ b o, H1 b = some o → upd (upd (upd H1 dx (.own a)) a (.ins C dx [])) a (.ins C dx [("tokens", .ref p), ("at", .int (0 : Nat))]) b = some o := fun b o e => by
      have n1 : b ≠ a := ne_of_none e ha
      have n2 : b ≠ dx := ne_of_none e hdx
      rw [upd_ne n1, upd_ne n1, upd_ne n2]
      exact e
    have R0 : Rd C (upd (upd (upd H1 dx (.own a)) a (.ins C dx [])) a (.ins C dx [("tokens", .ref p), ("at", .int (0 : Nat))])) a p ts :=
      ⟨dx, 0, rs, ts, upd_same, kr _ _ hT, paired_ev (a := a) (fun b o _ e => kr b o e) hRs, rfl, ⟨⟨tp, tl', e1⟩, by omega, e3⟩, fun x hx => by have := e4 x hx; omega⟩
    have keep : ∀ H', Ev a (upd (upd (upd H1 dx (.own a)) a (.ins C dx [])) a (.ins C dx [("tokens", .ref p), ("at", .int (0 : Nat))])) H' → Sm H H' ∧ TabG H' Pt := fun H' ev => by
      have k1 : ∀ b o, H1 b = some o → H' b = some o := fun b o e => ev b o (ne_of_none e ha) (kr b o e)
      refine ⟨fun b o n e => k1 b o (sm b o n e), ?_⟩
      obtain ⟨ps, t1, t2⟩ := tg1
      exact ⟨ps, k1 _ _ t1, t2⟩
    generalize upd (upd (upd H1 dx (.own a)) a (.ins C dx [])) a (.ins C dx [("tokens", .ref p), ("at", .int (0 : Nat))]) = Hr at R0 keep ⊢
    have q : PostP K C cT a p Hr Q E (mProgram ts) := by
      cases e : mProgram ts with
      | error l =>
        rw [e] at q
        intro H' x ev hx
        exact q H' x (keep H' ev).1 (keep H' ev).2 hx
      | ok pr =>
        rw [e] at q
        intro H' v xs ev R h1 h2 d
        exact q H' v xs (keep H' ev).1 (keep H' ev).2 h1 h2 (dp_mono (fun b o e => (New.get e).2) d)
    have hs := R0.here.1
    unfold mProgram at q
    refine take_rd (by decide +kernel) rfl R0 (Ev.refl _ _) (fun l e => by rw [e] at q; exact q) fun r1 e1 H1 ev1 R1 => ?_
    rw [e1, bd_ok] at q
    refine name_rd (k := 0) rfl R1 ev1 (fun l e => by rw [e] at q; exact q) fun v2 r2 e2 H2 ev2 R2 => ⟨Nat.zero_le _, fun p3 hp3 => ?_⟩
    rw [e2, bd_ok] at q
    have E2 := ev1.trans ev2
    refine many_rd (E := E) (cT := cT) (by decide +kernel) header_short rfl (LSt.start (K := K) R2 hp3) (fun N H5 ds5 r5 L5 q5 => ?_) ?_
    · obtain ⟨vs5, hv5, _⟩ := L5.at_
      refine ⟨_, rfl, .inl ⟨rfl, _, SqL.of hv5⟩, ?_⟩
      refine part_rd rfl L5.rd L5.ev (fun l e => by rw [e] at q5; exact q5) fun d r6 e6 H6 v6 ev6 R6 d6 => ?_
      rw [e6] at q5
      obtain ⟨vs6, hv6, hl6, L6⟩ := L5.app ev6 R6 d6 (header_short _ _ _ e6)
      exact ⟨p3, vs6, v6, rfl, rfl, hv6, hl6, q5 _ L6⟩
    cases e3 : mMany "header" mHeader (r2.length + 1) r2 with
    | error l => rw [e3] at q; exact ErrAt.ev q E2
    | ok pr3 =>
    rw [e3, bd_ok] at q
    intro H3 L3
    have E3 := E2.trans L3.ev
    have R3 := L3.rd
    have d3 := lift (K := K) E2 R2 (Ev.refl a H3) L3.fin
    refine ⟨Nat.zero_le _, fun p4 hp4 => ?_⟩
    have ev4 : Ev a H3 (upd H3 p4 (.lst [])) := Ev.same (same_new hp4)
    have R4 := R3.same (same_new (o := .lst []) hp4)
    have E4 := E3.trans ev4
    have d4 : Dp K (New Hr (upd H3 p4 (.lst []))) (.ref p4) (.list []) := .lst (SqL.of (New.of (ev_none E3 R3.here.1 p4 hp4) upd_same)) .nil
    refine ⟨fun σ' H' => ∃ vm ds r', σ' = [some (.str (S t)), some (.ref a), some v2, some (.ref p3), some vm, none, none, none, none, none] ∧ Ev a (upd H3 p4 (.lst [])) H' ∧ Rd C H' a p r' ∧ (if wordAt "meta" pr3.2 = true then mFields pr3.2.tail else .ok ([], pr3.2)) = .ok (ds, r') ∧ Dp K (New Hr H') vm (.list ds), ?_, ?_⟩
    · refine skip_rd (by decide +kernel) rfl R4 fun H5 ev5 R5 => ⟨_, rfl, ?_⟩
      cases hc : wordAt "meta" pr3.2 with
      | true =>
        rw [hc, if_pos rfl] at q
        rw [mSkip_t hc] at R5
        refine iteT (part_rd rfl R5 (E4.trans ev5) (fun l e => by have e' := asL_err e; rw [e'] at q; exact q) fun d r6 e6 H6 v6 ev6 R6 d6 => ?_)
        obtain ⟨ds, e6', rfl⟩ := asL_ok e6
        exact ⟨v6, ds, r6, rfl, ev5.trans ev6, R6, by rw [if_pos rfl, e6'], lift (E4.trans ev5) R5 (Ev.refl _ _) d6⟩
      | false =>
        rw [mSkip_f hc] at R5
        exact iteF ⟨_, [], pr3.2, rfl, ev5, R5, by rw [if_neg Bool.false_ne_true], liftS hs ev5 d4⟩
    rintro σ5 H5 ⟨vm, dm, r5, rfl, ev5, R5, e5, d5⟩
    rw [e5, bd_ok] at q
    have E5 := E4.trans ev5
    have X5 := ev4.trans ev5
    refine take_rd (by decide +kernel) rfl R5 E5 (fun l e => by rw [e] at q; exact q) fun r6 e6 H6 ev6 R6 => ?_
    rw [e6, bd_ok] at q
    have E6 := E5.trans ev6
    refine part_rd rfl R6 E6 (fun l e => by have e' := asL_err e; rw [e'] at q; exact q) fun d7 r7 e7 H7 v7 ev7 R7 dd7 => ⟨Nat.zero_le _, fun p8 hp8 => ?_⟩
    obtain ⟨ds7, e7', rfl⟩ := asL_ok e7
    rw [e7', bd_ok] at q
    have E7 := E6.trans ev7
    have d7 := lift (K := K) E6 R6 (Ev.refl a H7) dd7
    refine many_rd (E := E) (cT := cT) (by decide +kernel) action_short rfl (LSt.start (K := K) R7 hp8) (fun N H5 ds5 r5 L5 q5 => ?_) ?_
    · obtain ⟨vs5, hv5, _⟩ := L5.at_
      refine ⟨_, rfl, .inl ⟨rfl, _, SqL.of hv5⟩, ?_⟩
      refine part_rd rfl L5.rd L5.ev (fun l e => by rw [e] at q5; exact q5) fun d r6 e6 H6 v6 ev6 R6 d6 => ?_
      rw [e6] at q5
      obtain ⟨vs6, hv6, hl6, L6⟩ := L5.app ev6 R6 d6 (action_short _ _ _ e6)
      exact ⟨p8, vs6, v6, rfl, rfl, hv6, hl6, q5 _ L6⟩
    cases e8 : mMany "action" mAction (r7.length + 1) r7 with
    | error l => rw [e8] at q; exact ErrAt.ev q E7
    | ok pr8 =>
    rw [e8, bd_ok] at q
    intro H8 L8
    have E8 := E7.trans L8.ev
    have R8 := L8.rd
    have d8 := lift (K := K) E7 R7 (Ev.refl a H8) L8.fin
    refine ⟨Nat.zero_le _, fun p9 hp9 => ?_⟩
    refine many_rd (E := E) (cT := cT) (by decide +kernel) table_short rfl (LSt.start (K := K) R8 hp9) (fun N H5 ds5 r5 L5 q5 => ?_) ?_
    · obtain ⟨vs5, hv5, _⟩ := L5.at_
      refine ⟨_, rfl, .inl ⟨rfl, _, SqL.of hv5⟩, ?_⟩
      refine part_rd rfl L5.rd L5.ev (fun l e => by rw [e] at q5; exact q5) fun d r6 e6 H6 v6 ev6 R6 d6 => ?_
      rw [e6] at q5
      obtain ⟨vs6, hv6, hl6, L6⟩ := L5.app ev6 R6 d6 (table_short _ _ _ e6)
      exact ⟨p9, vs6, v6, rfl, rfl, hv6, hl6, q5 _ L6⟩
    cases e9 : mMany "table" mTable (pr8.2.length + 1) pr8.2 with
    | error l => rw [e9] at q; exact ErrAt.ev q E8
    | ok pr9 =>
    rw [e9, bd_ok] at q
    intro H9 L9
    have E9 := E8.trans L9.ev
    have R9 := L9.rd
    have d9 := lift (K := K) E8 R8 (Ev.refl a H9) L9.fin
    refine take_rd (by decide +kernel) rfl R9 E9 (fun l e => by rw [e] at q; exact q) fun r10 e10 H10 ev10 R10 => ?_
    rw [e10, bd_ok] at q
    have E10 := E9.trans ev10
    refine ⟨_, rfl, a, p, r10, rfl, Nat.le_refl _, R10, ?_⟩
    unfold asL
    cases e11 : mBlock 8 r10 with
    | error l => rw [e11] at q; exact ErrAt.ev q E10
    | ok pr11 =>
    rw [e11, bd_ok] at q
    intro H11 v11 ev11 R11 dd11
    have E11 := E10.trans ev11
    have d11 := lift (K := K) E10 R10 (Ev.refl a H11) dd11
    refine ⟨Nat.zero_le _, fun p12 hp12 => ?_⟩
    have ev12 : Ev a H11 (upd H11 p12 (.lst [])) := Ev.same (same_new hp12)
    have R12 := R11.same (same_new (o := .lst []) hp12)
    have E12 := E11.trans ev12
    have d12 : Dp K (New Hr (upd H11 p12 (.lst []))) (.ref p12) (.list []) := .lst (SqL.of (New.of (ev_none E11 R11.here.1 p12 hp12) upd_same)) .nil
    refine ⟨fun σ' H' => ∃ vn ds r', σ' = [some (.str (S t)), some (.ref a), some v2, some (.ref p3), some vm, some v7, some (.ref p8), some (.ref p9), some v11, some vn] ∧ Ev a (upd H11 p12 (.lst [])) H' ∧ Rd C H' a p r' ∧ (if wordAt "emit" pr11.2 = true then mEmits pr11.2.tail else .ok ([], pr11.2)) = .ok (ds, r') ∧ Dp K (New Hr H') vn (.list ds), ?_, ?_⟩
    · refine skip_rd (by decide +kernel) rfl R12 fun H13 ev13 R13 => ⟨_, rfl, ?_⟩
      cases hc : wordAt "emit" pr11.2 with
      | true =>
        rw [hc, if_pos rfl] at q
        rw [mSkip_t hc] at R13
        refine iteT (part_rd rfl R13 (E12.trans ev13) (fun l e => by have e' := asL_err e; rw [e'] at q; exact q) fun d r6 e6 H6 v6 ev6 R6 d6 => ?_)
        obtain ⟨ds, e6', rfl⟩ := asL_ok e6
        exact ⟨v6, ds, r6, rfl, ev13.trans ev6, R6, by rw [if_pos rfl, e6'], lift (E12.trans ev13) R13 (Ev.refl _ _) d6⟩
      | false =>
        rw [mSkip_f hc] at R13
        exact iteF ⟨_, [], pr11.2, rfl, ev13, R13, by rw [if_neg Bool.false_ne_true], liftS hs ev13 d12⟩
    rintro σ13 H13 ⟨ve, de, r13, rfl, ev13, R13, e13, d13⟩
    rw [e13, bd_ok] at q
    have E13 := E12.trans ev13
    have X13 := ev12.trans ev13
    obtain ⟨dxx, ii, hin⟩ := R13.ins
    refine ⟨_, rfl, a, dxx, _, rfl, hin, rfl, a, p, r13, rfl, R13, ?_⟩
    cases e14 : mEnd r13 with
    | error l => rw [e14] at q; exact ErrAt.ev q E13
    | ok r14 =>
    rw [e14, bd_ok] at q
    intro H14 ev14 R14
    have E14 := E13.trans ev14
    have Y := X13.trans ev14
    refine ⟨_, rfl, _, rfl, _, rfl, _, rfl, _, rfl, _, rfl, _, rfl, _, rfl, (by show 9 ≤ sizeLine; decide), fun p15 hp15 => ?_⟩
    have Z9 := (ev10.trans ev11).trans Y
    have Z8 := L9.ev.trans Z9
    have Z7 := L8.ev.trans Z8
    have Z5 := (ev6.trans ev7).trans Z7
    obtain ⟨x1, x2, x3⟩ := mk_tup (K := K) E14 R14 hs hp15 (.cons (.str _) (.cons (tvD_dp (kind_tv R1 e2)) (.cons (liftS hs (X5.trans Z5) d3) (.cons (liftS hs Z5 d5) (.cons (liftS hs Z7 d7) (.cons (liftS hs Z8 d8) (.cons (liftS hs Z9 d9) (.cons (liftS hs Y d11) (.cons (liftS hs ev14 d13) .nil)))))))))
    exact q _ _ _ x1 x2 upd_same rfl x3
end
end Pk
set_option Elab.async false
set_option linter.all false
set_option maxRecDepth 100000
set_option maxHeartbeats 4000000
/-! The parser's mirror asks of a token only its kind, and whether its value is one of the grammar's words and signs: other values, and lines that are all moved by c, change nothing. -/
namespace Tk
open PySem L2 SX
def specials : List Str := ["accept", "reject", "meta", "packet", "+", "-", "&", "|", "^", "exact", "mask", "prefix", "==", "<", "{", "}", "(", ")", ":", ";", ",", ".", "=", "->", "header", "program", "parser", "action", "table", "control", "emit", "state", "extract", "go", "select", "else", "send", "drop", "add", "remove", "default", "size", "key", "use", "apply", "if", "not", "valid"].map Str.ofString
/-- two values that are the same words and signs, or none -/
def Ag (v v' : V) : Prop := ∀ w ∈ specials, decide (v = .str w) = decide (v' = .str w)
/-- lines are moved by F -/
def Sml (F : Nat → Nat) (t t' : Tok) : Prop := t.1 = t'.1 ∧ Ag t.2.1 t'.2.1 ∧ t'.2.2 = F t.2.2
abbrev Rl (F : Nat → Nat) : Rem → Rem → Prop := Paired (Sml F)
theorem Ag.non : Ag .non .non := fun _ _ => rfl
theorem Rl.kind {F : Nat → Nat} : ∀ {r r' : Rem}, Rl F r r' → kindAt r = kindAt r'
  | _, _, .nil => rfl
  | _, _, .cons h _ => h.1
theorem Rl.val {F : Nat → Nat} : ∀ {r r' : Rem}, Rl F r r' → Ag (valAt r) (valAt r')
  | _, _, .nil => Ag.non
  | _, _, .cons h _ => h.2.1
theorem Rl.tail {F : Nat → Nat} : ∀ {r r' : Rem}, Rl F r r' → Rl F r.tail r'.tail
  | _, _, .nil => .nil
  | _, _, .cons _ h => h
theorem Rl.len {F : Nat → Nat} {r r' : Rem} (h : Rl F r r') : r.length = r'.length := Paired.length h
theorem Rl.line {F : Nat → Nat} (hF : F 0 = 0) {r r' : Rem} (h : Rl F r r') : lineAt r' = F (lineAt r) := by
  cases h with
  | nil => exact hF.symm
  | cons h _ => exact h.2.2
theorem Rl.word {F : Nat → Nat} {r r' : Rem} (h : Rl F r r') {w : Str} (hw : w ∈ specials) : wordAt w r = wordAt w r' := h.val w hw
theorem Ag.inV {v v' : V} (h : Ag v v') : ∀ ws : List Str, (∀ w ∈ ws, w ∈ specials) → L2.inV v (ws.map V.str) = L2.inV v' (ws.map V.str) := by
  have key : ∀ (v : V) (w : Str), eqV (.str w) v = decide (v = .str w) := fun v w => by
    cases v <;> first | (show false = _; exact (decide_eq_false fun z => by cases z).symm) | skip
    rename_i x
    show (w == x) = _
    rw [Bool.eq_iff_iff, beq_iff_eq, decide_eq_true_eq]
    exact ⟨fun e => by rw [e], fun e => (V.str.inj e).symm⟩
  intro ws
  induction ws with
  | nil => intro _; rfl
  | cons w ws ih =>
    intro hs
    have ih := ih fun x hx => hs x (List.mem_cons_of_mem _ hx)
    unfold L2.inV at ih ⊢
    rw [List.map_cons, List.any_cons, List.any_cons, ih, key, key, h w (hs w List.mem_cons_self)]
/-- results alike -/
def RsR {α β : Type} (F : Nat → Nat) (g : α → β → Prop) : Except Nat α → Except Nat β → Prop
  | .ok a, .ok b => g a b
  | .error l, .error l' => l' = F l
  | _, _ => False
theorem bd_rs {α β γ δ : Type} {F : Nat → Nat} {g : α → β → Prop} {g' : γ → δ → Prop} {x : Except Nat α} {y : Except Nat β} {f : α → Except Nat γ} {f' : β → Except Nat δ} (h : RsR F g x y) (k : ∀ a b, g a b → RsR F g' (f a) (f' b)) : RsR F g' (bd x f) (bd y f') := by
  cases x with
  | error l =>
    cases y with
    | error l' => exact h
    | ok b => exact h.elim
  | ok a =>
    cases y with
    | error l' => exact h.elim
    | ok b => exact k a b h
/-- what is left is alike -/
def gR (F : Nat → Nat) {α β : Type} (p : α × Rem) (q : β × Rem) : Prop := Rl F p.2 q.2
def gV (F : Nat → Nat) (p q : V × Rem) : Prop := Rl F p.2 q.2 ∧ Ag p.1 q.1
/-- a mirror that renaming does not change -/
def Sim (F : Nat → Nat) {α : Type} (m : Rem → Except Nat (α × Rem)) : Prop := ∀ r r', Rl F r r' → RsR F (gR F) (m r) (m r')
section
variable {F : Nat → Nat} (hF : F 0 = 0)
include hF
theorem take_rs {w : Str} (hw : w ∈ specials) {r r' : Rem} (h : Rl F r r') : RsR F (Rl F) (mTake w r) (mTake w r') := by
  unfold mTake
  rw [h.word hw]
  split
  · exact h.tail
  · exact h.line hF
theorem kind_rs {k : Str} {r r' : Rem} (h : Rl F r r') : RsR F (gV F) (mKind k r) (mKind k r') := by
  unfold mKind
  rw [h.kind]
  split
  · exact ⟨h.tail, h.val⟩
  · exact h.line hF
theorem name_rs {r r' : Rem} (h : Rl F r r') : RsR F (gV F) (mName r) (mName r') := kind_rs hF h
theorem num_rs {r r' : Rem} (h : Rl F r r') : RsR F (gV F) (mNum r) (mNum r') := kind_rs hF h
theorem one_rs {ws : List Str} (hw : ∀ w ∈ ws, w ∈ specials) {r r' : Rem} (h : Rl F r r') : RsR F (gV F) (mOne ws r) (mOne ws r') := by
  unfold mOne
  rw [h.val.inV ws hw]
  split
  · exact ⟨h.tail, h.val⟩
  · exact h.line hF
theorem loop_rs {stop : Str} (hw : stop ∈ specials) {step : Rem → Rs} (hs : Sim F step) : ∀ f, Sim F (mLoop stop step f)
  | 0 => fun r r' h => h.line hF
  | f + 1 => fun r r' h => by
    rw [mLoop_s, mLoop_s, h.word hw]
    split
    · exact h.tail
    · exact bd_rs (hs _ _ h) fun a b h => bd_rs (loop_rs hw hs f _ _ h) fun a b h => h
theorem many_rs {word : Str} (hw : word ∈ specials) {step : Rem → Rs} (hs : Sim F step) : ∀ f, Sim F (mMany word step f)
  | 0 => fun r r' h => h.line hF
  | f + 1 => fun r r' h => by
    rw [mMany_s, mMany_s, h.word hw]
    split
    · exact bd_rs (hs _ _ h.tail) fun a b h => bd_rs (many_rs hw hs f _ _ h) fun a b h => h
    · exact h
theorem width_rs : Sim F mWidth := fun r r' h => bd_rs (name_rs hF h) fun a b h => bd_rs (take_rs hF (by decide +kernel) h.1) fun a b h => bd_rs (num_rs hF h) fun a b h => h.1
theorem fieldStep_rs : Sim F mFieldStep := fun r r' h => bd_rs (width_rs hF _ _ h) fun a b h => bd_rs (take_rs hF (by decide +kernel) h) fun a b h => h
theorem fields_rs : Sim F mFields := fun r r' h => bd_rs (take_rs hF (by decide +kernel) h) fun a b h => by
  rw [h.len]
  exact loop_rs hF (by decide +kernel) (fieldStep_rs hF) _ _ _ h
theorem header_rs : Sim F mHeader := fun r r' h => bd_rs (name_rs hF h) fun a b h => bd_rs (fields_rs hF _ _ h.1) fun a b h => h
theorem target_rs {r r' : Rem} (h : Rl F r r') : RsR F (gV F) (mTargetV r) (mTargetV r') := by
  unfold mTargetV
  rw [h.val.inV endTargets (by decide +kernel)]
  split
  · exact one_rs hF (by decide +kernel) h
  · exact name_rs hF h
theorem owner_rs {r r' : Rem} (h : Rl F r r') : RsR F (gV F) (mOwnerV r) (mOwnerV r') := by
  unfold mOwnerV
  rw [h.val.inV ownerWords (by decide +kernel)]
  split
  · exact one_rs hF (by decide +kernel) h
  · exact name_rs hF h
theorem field_rs : Sim F mField := fun r r' h => bd_rs (owner_rs hF h) fun a b h => bd_rs (take_rs hF (by decide +kernel) h.1) fun a b h => bd_rs (name_rs hF h) fun a b h => h.1
theorem opt_rs {w : Str} (hw : w ∈ specials) {m : Rem → Rs} (hm : Sim F m) : Sim F (mOpt w m) := fun r r' h => by
  unfold mOpt
  rw [h.word hw]
  split
  · exact hm _ _ h.tail
  · exact h
theorem numD_rs : Sim F mNumD := fun r r' h => bd_rs (num_rs hF h) fun a b h => h.1
theorem nameD_rs : Sim F mNameD := fun r r' h => bd_rs (name_rs hF h) fun a b h => h.1
theorem nameS_rs : Sim F mNameS := fun r r' h => bd_rs (name_rs hF h) fun a b h => bd_rs (take_rs hF (by decide +kernel) h.1) fun a b h => h
theorem row_rs : Sim F mRow := fun r r' h => bd_rs (num_rs hF h) fun a b h => bd_rs (opt_rs hF (by decide +kernel) (numD_rs hF) _ _ h.1) fun a b h => bd_rs (take_rs hF (by decide +kernel) h) fun a b h => bd_rs (target_rs hF h) fun a b h => bd_rs (take_rs hF (by decide +kernel) h.1) fun a b h => h
theorem selEnd_rs : Sim F mSelEnd := fun r r' h => bd_rs (take_rs hF (by decide +kernel) h) fun a b h => bd_rs (target_rs hF h) fun a b h => bd_rs (take_rs hF (by decide +kernel) h.1) fun a b h => bd_rs (take_rs hF (by decide +kernel) h) fun a b h => h
theorem way_rs : Sim F mWay := fun r r' h => by
  unfold mWay
  rw [h.word (w := "go") (by decide +kernel)]
  split
  · exact bd_rs (target_rs hF h.tail) fun a b h => bd_rs (take_rs hF (by decide +kernel) h.1) fun a b h => h
  · refine bd_rs (take_rs hF (by decide +kernel) h) fun a b h => bd_rs (field_rs hF _ _ h) fun a b h => bd_rs (take_rs hF (by decide +kernel) h) fun a b h => ?_
    rw [h.len]
    exact bd_rs (loop_rs hF (by decide +kernel) (row_rs hF) _ _ _ h) fun a b h => bd_rs (selEnd_rs hF _ _ h) fun a b h => h
theorem state_rs : Sim F mState := fun r r' h => bd_rs (take_rs hF (by decide +kernel) h) fun a b h => bd_rs (name_rs hF h) fun a b h => bd_rs (take_rs hF (by decide +kernel) h.1) fun a b h => bd_rs (opt_rs hF (by decide +kernel) (nameS_rs hF) _ _ h) fun a b h => bd_rs (way_rs hF _ _ h) fun a b h => bd_rs (take_rs hF (by decide +kernel) h) fun a b h => h
theorem states_rs : Sim F mStates := fun r r' h => bd_rs (take_rs hF (by decide +kernel) h) fun a b h => by
  rw [h.len]
  exact loop_rs hF (by decide +kernel) (state_rs hF) _ _ _ h
theorem listIn_rs {o c : Str} (ho : o ∈ specials) (hc : c ∈ specials) {step : Rem → Rs} (hs : Sim F step) : Sim F (mListIn o c step) := fun r r' h => bd_rs (take_rs hF ho h) fun a b h => by
  rw [h.word hc]
  split
  · exact h.tail
  · refine bd_rs (hs _ _ h) fun a b h => ?_
    rw [show a.2.length = b.2.length from Rl.len h]
    exact bd_rs (many_rs hF (by decide +kernel) hs _ _ _ h) fun a b h => bd_rs (take_rs hF hc h) fun a b h => h
theorem params_rs : Sim F mParams := listIn_rs hF (by decide +kernel) (by decide +kernel) (width_rs hF)
theorem args_rs : Sim F mArgs := listIn_rs hF (by decide +kernel) (by decide +kernel) (numD_rs hF)
theorem operand_rs : Sim F mOperand := fun r r' h => by
  unfold mOperand
  rw [h.kind]
  split
  · exact bd_rs (num_rs hF h) fun a b h => h.1
  · refine bd_rs (owner_rs hF h) fun a b h => ?_
    rw [h.2.inV ownerWords (by decide +kernel), h.1.word (w := ".") (by decide +kernel)]
    split
    · exact h.1
    · exact bd_rs (take_rs hF (by decide +kernel) h.1) fun a b h => bd_rs (name_rs hF h) fun a b h => h.1
theorem expr_rs : Sim F mExpr := fun r r' h => bd_rs (operand_rs hF _ _ h) fun a b h => by
  rw [show L2.inV (valAt a.2) (operators.map V.str) = L2.inV (valAt b.2) (operators.map V.str) from (Rl.val h).inV operators (by decide +kernel)]
  split
  · exact bd_rs (one_rs hF (by decide +kernel) h) fun a b h => bd_rs (operand_rs hF _ _ h.1) fun a b h => h
  · exact h
theorem oper0_rs : Sim F mOper0 := fun r r' h => by
  unfold mOper0
  rw [h.word (w := "send") (by decide +kernel), h.word (w := "drop") (by decide +kernel), h.word (w := "add") (by decide +kernel), h.word (w := "remove") (by decide +kernel)]
  split
  · exact bd_rs (expr_rs hF _ _ h.tail) fun a b h => h
  · split
    · exact h.tail
    · split
      · exact bd_rs (name_rs hF h.tail) fun a b h => h.1
      · split
        · exact bd_rs (name_rs hF h.tail) fun a b h => h.1
        · exact bd_rs (field_rs hF _ _ h) fun a b h => bd_rs (take_rs hF (by decide +kernel) h) fun a b h => bd_rs (expr_rs hF _ _ h) fun a b h => h
theorem oper_rs : Sim F mOper := fun r r' h => bd_rs (oper0_rs hF _ _ h) fun a b h => bd_rs (take_rs hF (by decide +kernel) h) fun a b h => h
theorem action_rs : Sim F mAction := fun r r' h => bd_rs (name_rs hF h) fun a b h => bd_rs (params_rs hF _ _ h.1) fun a b h => bd_rs (take_rs hF (by decide +kernel) h) fun a b h => by
  rw [h.len]
  exact bd_rs (loop_rs hF (by decide +kernel) (oper_rs hF) _ _ _ h) fun a b h => h
theorem key_rs : Sim F mKey := fun r r' h => bd_rs (field_rs hF _ _ h) fun a b h => bd_rs (one_rs hF (by decide +kernel) h) fun a b h => bd_rs (take_rs hF (by decide +kernel) h.1) fun a b h => h
theorem default_rs : Sim F mDefault := fun r r' h => bd_rs (take_rs hF (by decide +kernel) h) fun a b h => bd_rs (name_rs hF h) fun a b h => bd_rs (args_rs hF _ _ h.1) fun a b h => bd_rs (take_rs hF (by decide +kernel) h) fun a b h => h
theorem table_rs : Sim F mTable := fun r r' h => bd_rs (name_rs hF h) fun a b h => bd_rs (take_rs hF (by decide +kernel) h.1) fun a b h => by
  rw [h.len]
  refine bd_rs (many_rs hF (by decide +kernel) (key_rs hF) _ _ _ h) fun a b h => ?_
  rw [show a.2.length = b.2.length from Rl.len h]
  exact bd_rs (many_rs hF (by decide +kernel) (nameS_rs hF) _ _ _ h) fun a b h => bd_rs (default_rs hF _ _ h) fun a b h => bd_rs (take_rs hF (by decide +kernel) h) fun a b h => bd_rs (num_rs hF h) fun a b h => bd_rs (take_rs hF (by decide +kernel) h.1) fun a b h => bd_rs (take_rs hF (by decide +kernel) h) fun a b h => h
theorem cmp_rs : Sim F mCmp := fun r r' h => by
  unfold mCmp
  rw [h.word (w := "valid") (by decide +kernel)]
  split
  · exact bd_rs (name_rs hF h.tail) fun a b h => h.1
  · exact bd_rs (field_rs hF _ _ h) fun a b h => bd_rs (one_rs hF (by decide +kernel) h) fun a b h => bd_rs (num_rs hF h.1) fun a b h => h.1
theorem nots_rs : ∀ (n : Nat) (r r' : Rem), Rl F r r' → (mNots n r).1 = (mNots n r').1 ∧ Rl F (mNots n r).2 (mNots n r').2
  | 0, _, _, h => ⟨rfl, h⟩
  | n + 1, r, r', h => by
    have e := h.word (w := "not") (by decide +kernel)
    obtain ⟨h1, h2⟩ := nots_rs n r.tail r'.tail h.tail
    unfold mNots
    rw [e]
    split
    · exact ⟨congrArg (· + 1) h1, h2⟩
    · exact ⟨rfl, h⟩
theorem cond_rs : Sim F mCond := fun r r' h => bd_rs (cmp_rs hF _ _ (nots_rs hF 8 r r' h).2) fun a b h => h
theorem stmt_rs {blk : Rem → RsL} (hb : Sim F blk) : Sim F (mStmt blk) := fun r r' h => by
  unfold mStmt
  rw [h.word (w := "apply") (by decide +kernel)]
  split
  · exact bd_rs (name_rs hF h.tail) fun a b h => bd_rs (take_rs hF (by decide +kernel) h.1) fun a b h => h
  · refine bd_rs (take_rs hF (by decide +kernel) h) fun a b h => bd_rs (cond_rs hF _ _ h) fun a b h => bd_rs (hb _ _ h) fun a b h => ?_
    rw [show wordAt "else" a.2 = wordAt "else" b.2 from Rl.word h (by decide +kernel)]
    refine bd_rs (g := gR F) ?_ fun a b h => h
    split
    · exact hb _ _ (Rl.tail h)
    · exact h
theorem block_rs : ∀ n, Sim F (mBlock n)
  | 0 => fun r r' h => h.line hF
  | n + 1 => fun r r' h => by
    have e : ∀ r, mBlock (n + 1) r = bd (mTake "{" r) fun r => mLoop "}" (mStmt (mBlock n)) (r.length + 1) r := fun r => by rw [mBlock]
    rw [e, e]
    refine bd_rs (take_rs hF (by decide +kernel) h) fun a b h => ?_
    rw [h.len]
    exact loop_rs hF (by decide +kernel) (stmt_rs hF (block_rs n)) _ _ _ h
theorem emits_rs : Sim F mEmits := fun r r' h => bd_rs (name_rs hF h) fun a b h => by
  rw [show a.2.length = b.2.length from Rl.len h.1]
  exact bd_rs (many_rs hF (by decide +kernel) (nameD_rs hF) _ _ _ h.1) fun a b h => bd_rs (take_rs hF (by decide +kernel) h) fun a b h => h
theorem end_rs {r r' : Rem} (h : Rl F r r') : RsR F (Rl F) (mEnd r) (mEnd r') := by
  unfold mEnd
  rw [h.kind]
  split
  · exact h
  · exact h.line hF
theorem program_rs : Sim F mProgram := fun r r' h => bd_rs (take_rs hF (by decide +kernel) h) fun a b h => bd_rs (name_rs hF h) fun a b h => by
  rw [show a.2.length = b.2.length from Rl.len h.1]
  refine bd_rs (many_rs hF (by decide +kernel) (header_rs hF) _ _ _ h.1) fun a b h => ?_
  rw [show wordAt "meta" a.2 = wordAt "meta" b.2 from Rl.word h (by decide +kernel)]
  refine bd_rs (g := gR F) (by
    split
    · exact fields_rs hF _ _ (Rl.tail h)
    · exact h) fun a b h => bd_rs (take_rs hF (by decide +kernel) h) fun a b h => bd_rs (states_rs hF _ _ h) fun a b h => ?_
  rw [show a.2.length = b.2.length from Rl.len h]
  refine bd_rs (many_rs hF (by decide +kernel) (action_rs hF) _ _ _ h) fun a b h => ?_
  rw [show a.2.length = b.2.length from Rl.len h]
  refine bd_rs (many_rs hF (by decide +kernel) (table_rs hF) _ _ _ h) fun a b h => bd_rs (take_rs hF (by decide +kernel) h) fun a b h => bd_rs (block_rs hF 8 _ _ h) fun a b h => ?_
  rw [show wordAt "emit" a.2 = wordAt "emit" b.2 from Rl.word h (by decide +kernel)]
  exact bd_rs (g := gR F) (by
    split
    · exact emits_rs hF _ _ (Rl.tail h)
    · exact h) fun a b h => bd_rs (end_rs hF h) fun a b h => h
end
end Tk
set_option Elab.async false
set_option linter.all false
set_option maxRecDepth 100000
set_option maxHeartbeats 4000000
/-! lines of a text by their pieces, and the tokens of the whole; no row -/
namespace Pk
open PySem PySem.Spec PyProof.Rows L2 SX Tk
/-- the line p has the tokens ks, whatever stands behind its newline -/
structure LnT (p : List Nat) (ks : List (Str × V)) : Prop where
  nl : 10 ∉ p
  tk : ∀ l r, toksT l (p ++ 10 :: r) = pre (ks.map fun kv => (kv.1, kv.2, l)) (toksT (l + 1) r)
/-- what comes first, of a line's rest or its newline -/
def hd (p : List Nat) : Nat := match p with
  | [] => 10
  | c :: _ => c
theorem lnT_nil : LnT [] [] := ⟨by simp, fun l r => by rw [List.nil_append, toksT_nl]; exact (pre_nil _).symm⟩
theorem lnT_sp {p : List Nat} {ks : List (Str × V)} (h : LnT p ks) : LnT (32 :: p) ks := ⟨fun z => by
  rcases List.mem_cons.mp z with z | z
  · cases z
  · exact h.nl z, fun l r => by rw [List.cons_append, toksT_space]; exact h.tk l r⟩
theorem after_hd {k : Str} {v : V} {p : List Nat} (h : if k = kSign then (v = .str (S [61]) → hd p ≠ 61) ∧ (v = .str (S [45]) → hd p ≠ 62) else inRun (hd p) = false) (r : List Nat) : after k v (p ++ 10 :: r) := by
  cases p with
  | nil => exact h
  | cons c q => exact h
theorem lnT_piece {k : Str} {v : V} {q p : List Nat} {ks : List (Str × V)} (hq : PieceOk k v q) (ha : if k = kSign then (v = .str (S [61]) → hd p ≠ 61) ∧ (v = .str (S [45]) → hd p ≠ 62) else inRun (hd p) = false) (h : LnT p ks) : LnT (q ++ p) ((k, v) :: ks) := by
  refine ⟨fun z => ?_, fun l r => ?_⟩
  · rcases List.mem_append.mp z with z | z
    · exact hq.nl z
    · exact h.nl z
  · rw [List.append_assoc, toks_piece l hq (after_hd ha r), h.tk l r, pre_app]
    rfl
/-- lines one behind the other -/
def joinL (ps : List (List Nat)) : List Nat := (ps.map fun p => p ++ [10]).flatten
/-- their tokens from line l on -/
def toksL : Nat → List (List (Str × V)) → List Tk.Tok
  | l, [] => [endTok l]
  | l, ks :: r => (ks.map fun kv => (kv.1, kv.2, l)) ++ toksL (l + 1) r
theorem toks_join : ∀ (ps : List (List Nat)) (kss : List (List (Str × V))) (l : Nat), Paired LnT ps kss → toksT l (joinL ps) = .ok (toksL l kss)
  | _, _, l, .nil => rfl
  | _, _, l, .cons (a := p) (b := ks) (l₁ := ps) (l₂ := kss) h r => by
    have e : joinL (p :: ps) = p ++ 10 :: joinL ps := by
      unfold joinL
      rw [List.map_cons, List.flatten_cons, List.append_assoc]
      rfl
    rw [e, h.tk, toks_join ps kss (l + 1) r]
    rfl
/-- pieces alike -/
def Kg (a b : Str × V) : Prop := a.1 = b.1 ∧ Ag a.2 b.2
theorem toksL_rl {F : Nat → Nat} (hf : ∀ l, F (l + 1) = F l + 1) : ∀ {kss kss' : List (List (Str × V))} (l : Nat), Paired (Paired Kg) kss kss' → Rl F (toksL l kss) (toksL (F l) kss')
  | _, _, l, .nil => .cons ⟨rfl, fun _ _ => rfl, rfl⟩ .nil
  | _, _, l, .cons (a := ks) (b := ks') h r => by
    have ih := toksL_rl hf (l + 1) r
    rw [hf] at ih
    have key : ∀ {ks ks' : List (Str × V)} {us us' : List Tk.Tok}, Paired Kg ks ks' → Rl F us us' → Rl F ((ks.map fun kv => (kv.1, kv.2, l)) ++ us) ((ks'.map fun kv => (kv.1, kv.2, F l)) ++ us') := by
      intro ks ks' us us' h hu
      induction h with
      | nil => exact hu
      | cons a _ ih => exact .cons ⟨a.1, a.2, rfl⟩ ih
    exact key h ih
/-- a name -/
theorem piece_name {n : List Nat} {c : Nat} {r : List Nat} (e : n = c :: r) (h1 : c ∈ letters) (h2 : n.length ≤ 16) (h3 : n.all inRun = true) (h4 : S n ∉ words) : PieceOk (Str.ofString "name") (.str (S n)) n := by
  refine ⟨?_, by rw [e]; exact List.cons_ne_nil _ _, by omega, fun hm => (inRun_ne (List.all_eq_true.mp h3 10 hm)).2.2 rfl, .inl ⟨by decide +kernel, h3⟩⟩
  unfold Tk.tokOf
  rw [if_pos ⟨by rw [e]; exact decide_eq_true h1, h2⟩, if_neg h4]
/-- names that are no words of the grammar are alike -/
theorem ag_name {x y : Str} (hx : x ∉ specials) (hy : y ∉ specials) : Ag (.str x) (.str y) := fun w hw => by
  have h1 : ¬ V.str x = V.str w := fun z => hx (by rw [V.str.inj z]; exact hw)
  have h2 : ¬ V.str y = V.str w := fun z => hy (by rw [V.str.inj z]; exact hw)
  rw [decide_eq_false h1, decide_eq_false h2]
end Pk
set_option Elab.async false
set_option linter.all false
set_option maxRecDepth 100000
set_option maxHeartbeats 4000000
namespace Pk
open PySem PySem.Spec PyProof.Rows L2 SX GxR Tk PySem.ErX
abbrev sOutcome : Stmt := topS 66
theorem scOutcome : FnScope ["lines", "actual", "e", "line"] ["lines"] (defScope sOutcome) := ⟨rfl, rfl, rfl, by decide +kernel, rfl, by decide +kernel, by decide +kernel⟩
/-- what the handler of the outcome asks of TextError -/
structure OutE (P : Program) (K : PySem.W.Frag) (mg : Str → Option Value) (cT : Addr) : Prop where
  TE : ErT P K mg "TextError" cT "line"
  ex : ExcC K cT
  self : PySem.W.exmOne K (.ref cT) (.ref cT) = some true
  nT : PySem.W.findIn K (.ref cT) "line" = some none
  zIsi : mg "isinstance" = none
  zTuple : mg "tuple" = none
  zLen : mg "len" = none
def outP (x : Except Nat PyData) : Int := match x with
  | .ok _ => 0
  | .error l => l
def lnV (ps : List (List Nat)) : List V := ps.map fun p => V.str (S p)
def spOutcome (K : PySem.W.Frag) (Pt : Addr) : Sp := fun vs H Q _ => ∃ (a : Addr) (ps : List (List Nat)), vs = [.ref a] ∧ SqL K H a (lnV ps) ∧ (joinL ps).length ≤ 1000000 ∧ TabG H Pt ∧ ∀ H', Sm H H' → TabG H' Pt → Q (.int (outP (progT (joinL ps)))) H'
theorem joinL_is (ps : List (List Nat)) : TL.joinL [] (ps.map fun p => p ++ [10]) = joinL ps := by
  unfold joinL
  generalize (ps.map fun p => p ++ [10]) = ys
  induction ys with
  | nil => rfl
  | cons y ys ih =>
    cases ys with
    | nil => simp [TL.joinL]
    | cons z zs =>
      rw [TL.joinL]
      rw [ih]
      simp
theorem sum_len (ps : List (List Nat)) : (((ps.map fun p => p ++ [10]).map S).map (·.length)).sum = (joinL ps).length := by
  unfold joinL
  induction ps with
  | nil => rfl
  | cons p ps ih =>
    rw [List.map_cons, List.map_cons, List.map_cons, List.sum_cons, List.flatten_cons, List.length_append, ih, S_len]
section
variable {P : Program} {w : World} {K : PySem.W.Frag} {mg : Str → Option Value} {base : Heap} {cT : Addr}
theorem ok_outcome {f Pt : Addr} {fd : FuncData} (F : Fun K "_law_outcome" "_law_outcome" sOutcome f fd) (T : OutE P K mg cT) (D : Df P w K mg base (L2.CX P w) 26 "parse_program" ["text"] (spProgram K Pt cT)) : FnOk P w K mg base CX0 27 f fd ["lines"] (spOutcome K Pt) := by
  obtain ⟨fT, fdT, GT, gT, kT, bT⟩ := D.ex
  refine F.ok scOutcome (fun vs H Q E h => ?_) (fun cdv A outer s H vs Q E hr h => ?_)
  · obtain ⟨a, ps, rfl, _⟩ := h
    rfl
  · obtain ⟨a, ps, rfl, hS, hz, tg, q⟩ := h
    have nd := scOutcome.nd
    refine ⟨_, pss_cons (ps_try_as (i := 2) (tb := fun W => tAsg (tCallS (spProgram K Pt cT) (WE W) (tCons (tM1 (fun x xs H Q => ∃ a p, ∃ ys : List Str, x = .str a ∧ xs = [.ref p] ∧ (SqL K H p (ys.map V.str) ∨ SqT K H p (ys.map V.str)) ∧
          (ys.map (·.length)).sum + ys.length * a.length ≤ 16777216 ∧ Q (.str (Txt.join a ys)) H) (tC (.str "")) (tLc (iList K (tVar 0)) (gName 3) tYes (tOp (fun x y H Q => ∃ i j, x = .str i ∧ y = .str j ∧ i.length + j.length ≤ sizeLine ∧ Q (.str (i ++ j)) H) (tVar 3) (tC (.str "\n"))) [3])) tNil)) (gName 1))
        (ts := fun a cls d => tRet (tXfA K a cls d "line" (tVar 2))) (Wout := fun _ _ _ _ => False) rfl rfl nd rfl rfl ⟨rfl, by decide, Or.inl T.TE.gC⟩ takes0
        (fun W pn xe tk _ => pss_one (ps_set (i := 1) nd rfl (Or.inl rfl) (by exact (pe_callS GT hr rfl gT kT bT (fun σ => passAt tk σ) (by exact (pa_cons (pe_join pe_str (pe_lc (own := [("line", 3)]) (g := gName 3) (tt := tYes) rfl nd (pi_list (pv 0)) (blkOk_by (N := ["lines", "actual", "e", "line"]) (sc := defScope sOutcome) (by decide +kernel))
          (fun _ _ _ _ _ => pg_name (i := 3) nd rfl (Or.inl rfl)) (fun _ _ _ _ _ => pts_nil) (fun _ _ _ _ _ => pe_op op_add_str (pv 3) pe_str))) pa_nil))))))
        (fun a oe cls d pn hz hf => pss_one (ps_ret (pe_xfA hz hf (pv 2)))))
      (pss_one (ps_ret (pe_ifExp (PW.pt (pw_and (pt_val (pe_callB call_isi (by rfl) T.zIsi PyProof.Rows.boot_isinstance (pa_cons (pv 1) (pa_cons (pe_bltn (v := .ty "tuple") (u := .type "tuple") rfl T.zTuple (by decide +kernel) rfl) pa_nil))) (by intro _; rfl))
        (pw_and1 (pt_cmpR op_eq (pe_callB call_len_seq (by rfl) T.zLen PySem.boot_len (pa_cons (pv 1) pa_nil)) pe_int (nomark _))))) pe_int (pe_un un_neg pe_int)))), ?_⟩
    refine ⟨⟨_, rfl⟩, _, rfl, a, rfl, ⟨_, hS⟩, fun D hD => lc_list (K := K) (a := a) (xs := lnV ps) (fun i H2 => Same H H2 ∧ H2 D = some (.lst (((ps.take i).map fun p => p ++ [10]).map fun p => V.str (S p)))) ⟨same_new hD, upd_same⟩ (fun i H2 _ h => h.1.seq hS) ?_ ?_⟩
    · rintro i y H2 hi ⟨k1, k2⟩
      obtain ⟨p, hp, rfl⟩ : ∃ p, ps[i]? = some p ∧ y = V.str (S p) := by
        unfold lnV at hi
        rw [List.getElem?_map] at hi
        cases e : ps[i]? with
        | none => rw [e] at hi; cases hi
        | some p => rw [e] at hi; exact ⟨p, rfl, (Option.some.inj hi).symm⟩
      have hpl : p.length + 1 ≤ (joinL ps).length ∧ i < (joinL ps).length := by
        have key : ∀ (ps : List (List Nat)) (i : Nat), ps[i]? = some p → p.length + 1 ≤ (joinL ps).length ∧ i < (joinL ps).length := by
          intro ps
          induction ps with
          | nil => intro i e; cases e
          | cons a ps ih =>
            intro i e
            have e2 : (joinL (a :: ps)).length = a.length + 1 + (joinL ps).length := by
              unfold joinL
              rw [List.map_cons, List.flatten_cons, List.length_append, List.length_append]
              rfl
            cases i with
            | zero => cases e; omega
            | succ i =>
              have := ih i e
              omega
        exact key ps i hp
      refine ⟨rfl, _, rfl, _, _, rfl, rfl, ?_, _, k2, ?_, fun b o e => ?_, ?_⟩
      · rw [nl_code, S_len, S_len, sizeLine_eq]
        show _ + 1 ≤ _
        omega
      · rw [List.length_map, List.length_map, List.length_take]
        exact small_len (by omega)
      · rw [upd_ne (ne_of_none e hD)]
        exact k1 b o e
      · rw [upd_same, List.take_add_one, hp, List.map_append, List.map_append, nl_code, S_cat]
        rfl
    · rintro H2 ⟨k1, k2⟩
      have el : (lnV ps).length = ps.length := List.length_map ..
      rw [el, List.take_length] at k2
      have emp : Str.ofString "" = S [] := by decide +kernel
      refine ⟨S [], D, (ps.map fun p => p ++ [10]).map S, congrArg V.str emp, rfl, .inl (SqL.of ?_), ?_, ?_⟩
      · rw [List.map_map]
        exact k2
      · rw [sum_len]
        show _ + _ * 0 ≤ _
        omega
      rw [join_S, joinL_is]
      have tg2 : TabG H2 Pt := by
        obtain ⟨ps', e1, e2⟩ := tg
        exact ⟨ps', k1 _ _ e1, e2⟩
      refine ⟨joinL ps, rfl, hz, tg2, ?_⟩
      cases e : progT (joinL ps) with
      | ok d =>
        rw [e] at q
        intro H3 p xs sm tg3 hp hx _
        refine ⟨_, rfl, _, _, _, _, true, rfl, .ty _, .base (.tup hp), kit_ty (by decide +kernel), _, rfl, iteT ⟨_, rfl, p, xs, rfl, .inr (SqT.of hp), rfl, _, rfl, ?_⟩⟩
        rw [dcInt, hx]
        refine iteDT rfl ?_
        exact q H3 ((Sm.same k1).trans sm) tg3
      | error l =>
        rw [e] at q
        intro H3 x sm tg3 hx
        refine ⟨true, T.self, fun _ a na => ?_, fun z => Bool.noConfusion z⟩
        refine ⟨.ref a, rfl, rfl, cT, rfl, ⟨T.ex.hg, T.ex.hk, T.ex.hs, T.ex.hd⟩, T.nT, x, _, .int (l : Nat), rfl, hx, by simp [List.lookup], ?_⟩
        exact q H3 ((Sm.same k1).trans sm) tg3
end
end Pk
set_option Elab.async false
set_option linter.all false
set_option maxRecDepth 100000
set_option maxHeartbeats 4000000
namespace Pk
open PySem PySem.Spec PyProof.Rows L2 SX GxR
theorem StAt.neS {H : Hp} {s c p : Addr} (h : StAt H s c) (hp : H p = none) : p ≠ s ∧ p ≠ c := by
  obtain ⟨cells, seed, h1, h2, _⟩ := h
  exact ⟨Ne.symm (ne_of_none h1 hp), Ne.symm (ne_of_none h2 hp)⟩
theorem StAt.sm {H H' : Hp} {s c : Addr} (h : StAt H s c) (k : Sm H H') : StAt H' s c := by
  obtain ⟨cells, seed, h1, h2, h3⟩ := h
  exact ⟨cells, seed, k _ _ (fun _ z => nomatch z) h1, k _ _ (fun _ z => nomatch z) h2, h3⟩
/-- the table of code objects stands beside the drawing state -/
theorem tab_kp {Pt s c : Addr} {H H' : Hp} (tg : TabG H Pt) (hS : StAt H s c) (k : Kp s c H H') : TabG H' Pt := by
  obtain ⟨ps, e1, e2⟩ := tg
  obtain ⟨cells, seed, h1, h2, _⟩ := hS
  exact ⟨ps, k _ _ (fun z => by rw [z, h1] at e1; cases e1) (fun z => by rw [z, h2] at e1; cases e1) e1, e2⟩
theorem tab_same {Pt : Addr} {H H' : Hp} (tg : TabG H Pt) (k : Same H H') : TabG H' Pt := by
  obtain ⟨ps, e1, e2⟩ := tg
  exact ⟨ps, k _ _ e1, e2⟩
/-- a list that begins with a text is not the drawing state -/
theorem StAt.neT {H : Hp} {s c p : Addr} {x : Str} {xs : List V} (h : StAt H s c) (hp : H p = some (.lst (.str x :: xs))) : p ≠ s ∧ p ≠ c := by
  obtain ⟨cells, seed, h1, h2, _⟩ := h
  refine ⟨fun z => ?_, fun z => ?_⟩
  · rw [z, h1] at hp
    cases (List.cons.inj (HO.lst.inj (Option.some.inj hp))).1
  · rw [z, h2] at hp
    have e := HO.lst.inj (Option.some.inj hp)
    cases cells with
    | nil => cases e
    | cons a r =>
      have e2 : V.int a = V.str x := (List.cons.inj e).1
      cases e2
end Pk
set_option Elab.async false
set_option linter.all false
set_option maxRecDepth 100000
set_option maxHeartbeats 4000000
/-! lines with names in them; no row -/
namespace Pk
open PySem PySem.Spec PyProof.Rows L2 SX Tk
/-- a sign, or the name of a number -/
abbrev Sy := Nat ⊕ Nat
/-- what stands in a line: a blank, a token's signs, a name -/
inductive At where
  | sp : At
  | tok (p : List Nat) : At
  | nm (i : Nat) : At
def symA : List At → List Sy
  | [] => []
  | .sp :: r => .inl 32 :: symA r
  | .tok p :: r => p.map .inl ++ symA r
  | .nm i :: r => .inr i :: symA r
def ex (n : Nat → List Nat) : List Sy → List Nat
  | [] => []
  | .inl c :: r => c :: ex n r
  | .inr i :: r => n i ++ ex n r
theorem ex_app (n : Nat → List Nat) : ∀ a b : List Sy, ex n (a ++ b) = ex n a ++ ex n b
  | [], _ => rfl
  | .inl c :: r, b => congrArg (c :: ·) (ex_app n r b)
  | .inr i :: r, b => by
    show n i ++ ex n (r ++ b) = n i ++ ex n r ++ ex n b
    rw [ex_app n r b, List.append_assoc]
theorem ex_inl (n : Nat → List Nat) : ∀ p : List Nat, ex n (p.map .inl) = p
  | [] => rfl
  | c :: p => congrArg (c :: ·) (ex_inl n p)
def kvOf (p : List Nat) : Str × V := (Tk.tokOf p).getD (Str.empty, .non)
def ksA (n : Nat → List Nat) : List At → List (Str × V)
  | [] => []
  | .sp :: r => ksA n r
  | .tok p :: r => kvOf p :: ksA n r
  | .nm i :: r => (Str.ofString "name", .str (S (n i))) :: ksA n r
def hdA : List At → Nat
  | [] => 10
  | .sp :: _ => 32
  | .tok p :: _ => hd p
  | .nm _ :: _ => 97
def pieceB (p : List Nat) : Bool := (Tk.tokOf p).isSome && decide (p ≠ []) && decide (p.length ≤ 20) && decide (10 ∉ p) &&
  ((decide ((kvOf p).1 ≠ kSign) && p.all inRun) || (decide ((kvOf p).1 = kSign) && decide (S p ∈ signsL) && decide ((kvOf p).2 = .str (S p))))
theorem piece_of {p : List Nat} (h : pieceB p = true) : PieceOk (kvOf p).1 (kvOf p).2 p := by
  unfold pieceB at h
  simp only [Bool.and_eq_true, Bool.or_eq_true, decide_eq_true_eq] at h
  obtain ⟨⟨⟨⟨h1, h2⟩, h3⟩, h4⟩, h5⟩ := h
  refine ⟨?_, h2, h3, h4, ?_⟩
  · unfold kvOf
    cases e : Tk.tokOf p with
    | none => rw [e] at h1; cases h1
    | some kv => rfl
  · rcases h5 with ⟨a, b⟩ | ⟨⟨a, b⟩, c⟩
    · exact .inl ⟨a, b⟩
    · exact .inr ⟨a, b, c⟩
def okA : List At → Bool
  | [] => true
  | .sp :: r => okA r
  | .tok p :: r => pieceB p && (if (kvOf p).1 = kSign then !(decide (p = [61]) && decide (hdA r = 61)) && !(decide (p = [45]) && decide (hdA r = 62)) else !inRun (hdA r)) && okA r
  | .nm _ :: r => !inRun (hdA r) && okA r
/-- a name that may stand for any other -/
structure GoodN (p : List Nat) : Prop where
  ne : ∃ c r, p = c :: r ∧ c ∈ letters
  len : p.length ≤ 8
  run : p.all inRun = true
  nw : S p ∉ words
  ns : S p ∉ specials
theorem hd_ex {n : Nat → List Nat} (hn : ∀ i, GoodN (n i)) : ∀ as : List At, okA as = true → (hd (ex n (symA as)) = hdA as ∨ (hdA as = 97 ∧ hd (ex n (symA as)) ∈ letters))
  | [], _ => .inl rfl
  | .sp :: r, _ => .inl rfl
  | .tok p :: r, h => by
    unfold okA at h
    simp only [Bool.and_eq_true] at h
    have hp := (piece_of h.1.1).ne
    cases p with
    | nil => exact absurd rfl hp
    | cons c p => exact .inl rfl
  | .nm i :: r, _ => by
    obtain ⟨c, q, e, hc⟩ := (hn i).ne
    refine .inr ⟨rfl, ?_⟩
    show hd (n i ++ ex n (symA r)) ∈ letters
    rw [e]
    exact hc
theorem letter_run {c : Nat} (h : c ∈ letters) : inRun c = true ∧ c ≠ 61 ∧ c ≠ 62 := by
  have key : ∀ c ∈ letters, inRun c = true ∧ c ≠ 61 ∧ c ≠ 62 := by decide +kernel
  exact key c h
theorem run97 : inRun 97 = true := by decide +kernel
theorem lnT_atoms {n : Nat → List Nat} (hn : ∀ i, GoodN (n i)) : ∀ as : List At, okA as = true → LnT (ex n (symA as)) (ksA n as)
  | [], _ => lnT_nil
  | .sp :: r, h => lnT_sp (lnT_atoms hn r h)
  | .tok p :: r, h => by
    have h0 := h
    unfold okA at h
    simp only [Bool.and_eq_true] at h
    obtain ⟨⟨h1, h2⟩, h3⟩ := h
    have hp := piece_of h1
    have e : ex n (symA (.tok p :: r)) = p ++ ex n (symA r) := by
      show ex n (p.map .inl ++ symA r) = _
      rw [ex_app, ex_inl]
    rw [e]
    show LnT (p ++ ex n (symA r)) (((kvOf p).1, (kvOf p).2) :: ksA n r)
    generalize kvOf p = kv at *
    refine lnT_piece hp ?_ (lnT_atoms hn r h3)
    by_cases hk : kv.1 = kSign
    · rw [if_pos hk] at h2 ⊢
      have hv : kv.2 = .str (S p) := by
        rcases hp.alt with ⟨a, _⟩ | ⟨_, _, a⟩
        · exact absurd hk a
        · exact a
      rw [hv]
      simp only [Bool.and_eq_true, Bool.not_eq_true', Bool.and_eq_false_iff, decide_eq_false_iff_not] at h2
      refine ⟨fun z => ?_, fun z => ?_⟩
      · have z' := S_inj (V.str.inj z)
        rcases h2.1 with a | a
        · exact absurd z' a
        · rcases hd_ex hn r h3 with b | ⟨_, b⟩
          · rw [b]; exact a
          · exact (letter_run b).2.1
      · have z' := S_inj (V.str.inj z)
        rcases h2.2 with a | a
        · exact absurd z' a
        · rcases hd_ex hn r h3 with b | ⟨_, b⟩
          · rw [b]; exact a
          · exact (letter_run b).2.2
    · rw [if_neg hk] at h2 ⊢
      rcases hd_ex hn r h3 with b | ⟨b, _⟩
      · rw [b]; simpa using h2
      · rw [b, run97] at h2; cases h2
  | .nm i :: r, h => by
    unfold okA at h
    simp only [Bool.and_eq_true] at h
    obtain ⟨c, q, e, hc⟩ := (hn i).ne
    have hp := piece_name e hc (Nat.le_trans (hn i).len (by decide)) (hn i).run (hn i).nw
    refine lnT_piece hp ?_ (lnT_atoms hn r h.2)
    rw [if_neg (show ¬ Str.ofString "name" = kSign by decide +kernel)]
    rcases hd_ex hn r h.2 with b | ⟨b, _⟩
    · rw [b]; simpa using h.1
    · rw [b, run97] at h; cases h.1
/-- the atoms of a line of signs -/
def lexS : Nat → List Sy → List At
  | 0, _ => []
  | _, [] => []
  | f + 1, .inr i :: r => .nm i :: lexS f r
  | f + 1, .inl c :: r => if c = 32 then .sp :: lexS f r else
    let run := c :: (r.takeWhile fun y => y.isLeft).map fun y => y.getLeft?.getD 0
    let m := partLen run
    .tok (run.take m) :: lexS f (r.drop (m - 1))
def lex (s : List Sy) : List At := lexS s.length s
def okS (s : List Sy) : Bool := okA (lex s) && decide (symA (lex s) = s)
theorem lnT_sym {n : Nat → List Nat} (hn : ∀ i, GoodN (n i)) {s : List Sy} (h : okS s = true) : LnT (ex n s) (ksA n (lex s)) := by
  unfold okS at h
  rw [Bool.and_eq_true, decide_eq_true_eq] at h
  have := lnT_atoms hn (lex s) h.1
  rw [h.2] at this
  exact this
/-! the canonical names -/
def cn : Nat → List Nat := fun _ => [97]
theorem ks_kg {n m : Nat → List Nat} (hn : ∀ i, GoodN (n i)) (hm : ∀ i, GoodN (m i)) : ∀ as : List At, Paired Kg (ksA n as) (ksA m as)
  | [] => .nil
  | .sp :: r => ks_kg hn hm r
  | .tok p :: r => .cons ⟨rfl, fun _ _ => rfl⟩ (ks_kg hn hm r)
  | .nm i :: r => .cons ⟨rfl, ag_name (hn i).ns (hm i).ns⟩ (ks_kg hn hm r)
def goodB (p : List Nat) : Bool := (match p with | [] => false | c :: _ => decide (c ∈ letters)) && decide (p.length ≤ 8) && p.all inRun && decide (S p ∉ words) && decide (S p ∉ specials)
theorem goodN_of {p : List Nat} (h : goodB p = true) : GoodN p := by
  unfold goodB at h
  simp only [Bool.and_eq_true, decide_eq_true_eq] at h
  obtain ⟨⟨⟨⟨h1, h2⟩, h3⟩, h4⟩, h5⟩ := h
  refine ⟨?_, h2, h3, h4, h5⟩
  cases p with
  | nil => cases h1
  | cons c r => exact ⟨c, r, rfl, of_decide_eq_true h1⟩
theorem cn_good : ∀ i, GoodN (cn i) := fun _ => goodN_of (p := [97]) (by decide +kernel)
/-- lines moved by h, all but no line -/
def Fm (h l : Nat) : Nat := if l = 0 then 0 else l + h
theorem Fm_pos {h l : Nat} (hl : 0 < l) : l + h = Fm h l := (if_neg (show ¬ l = 0 by omega)).symm
theorem toksL_mv {h : Nat} : ∀ {kss kss' : List (List (Str × V))} (l : Nat), 0 < l → Paired (Paired Kg) kss kss' → Rl (Fm h) (toksL l kss) (toksL (l + h) kss')
  | _, _, l, hl, .nil => .cons ⟨rfl, fun _ _ => rfl, Fm_pos hl⟩ .nil
  | _, _, l, hl, .cons (a := ks) (b := ks') hk r => by
    have ih := toksL_mv (h := h) (l + 1) (Nat.succ_pos _) r
    rw [show l + 1 + h = l + h + 1 by omega] at ih
    have key : ∀ {ks ks' : List (Str × V)} {us us' : List Tk.Tok}, Paired Kg ks ks' → Rl (Fm h) us us' → Rl (Fm h) ((ks.map fun kv => (kv.1, kv.2, l)) ++ us) ((ks'.map fun kv => (kv.1, kv.2, l + h)) ++ us') := by
      intro ks ks' us us' hk hu
      induction hk with
      | nil => exact hu
      | cons a _ ih => exact .cons ⟨a.1, a.2, Fm_pos hl⟩ ih
    exact key hk ih
theorem toksL_skip : ∀ (h l : Nat) (kss : List (List (Str × V))), toksL l (List.replicate h [] ++ kss) = toksL (l + h) kss
  | 0, _, _ => rfl
  | h + 1, l, kss => by
    show toksL (l + 1) (List.replicate h [] ++ kss) = _
    rw [toksL_skip h (l + 1) kss, show l + 1 + h = l + (h + 1) by omega]
/-- the line at which the parser of some lines stops, 0 for none -/
def errL {α : Type} (x : Except Nat α) : Nat := match x with
  | .ok _ => 0
  | .error l => l
def canon (ls : List (List Sy)) : List Tk.Tok := toksL 1 (ls.map fun s => ksA cn (lex s))
def errS (ls : List (List Sy)) : Nat := errL (mProgram (canon ls))
def textL (n : Nat → List Nat) (h : Nat) (ls : List (List Sy)) : List (List Nat) := List.replicate h [] ++ ls.map (ex n)
theorem toks_text {n : Nat → List Nat} (hn : ∀ i, GoodN (n i)) (h : Nat) {ls : List (List Sy)} (ok : ls.all okS = true) : toksT 1 (joinL (textL n h ls)) = .ok (toksL (1 + h) (ls.map fun s => ksA n (lex s))) := by
  have p0 : ∀ (h : Nat) {ps : List (List Nat)} {kss : List (List (Str × V))}, Paired LnT ps kss → Paired LnT (List.replicate h [] ++ ps) (List.replicate h [] ++ kss) := by
    intro h ps kss hp
    induction h with
    | zero => exact hp
    | succ h ih => exact .cons lnT_nil ih
  have p1 : ∀ ls : List (List Sy), ls.all okS = true → Paired LnT (ls.map (ex n)) (ls.map fun s => ksA n (lex s)) := by
    intro ls
    induction ls with
    | nil => intro _; exact .nil
    | cons s ls ih =>
      intro ok
      rw [List.all_cons, Bool.and_eq_true] at ok
      exact .cons (lnT_sym hn ok.1) (ih ok.2)
  unfold textL
  rw [toks_join _ _ 1 (p0 h (p1 ls ok)), toksL_skip]
theorem err_text {n : Nat → List Nat} (hn : ∀ i, GoodN (n i)) (h : Nat) {ls : List (List Sy)} (ok : ls.all okS = true) : errL (bd (toksT 1 (joinL (textL n h ls))) mProgram) = Fm h (errS ls) := by
  rw [toks_text hn h ok, bd_ok]
  have pk : Paired (Paired Kg) (ls.map fun s => ksA cn (lex s)) (ls.map fun s => ksA n (lex s)) := by
    clear ok
    induction ls with
    | nil => exact .nil
    | cons s ls ih => exact .cons (ks_kg cn_good hn (lex s)) ih
  have := program_rs (F := Fm h) rfl _ _ (toksL_mv (h := h) 1 (by decide) pk)
  unfold errS canon
  revert this
  cases mProgram (toksL 1 (ls.map fun s => ksA cn (lex s))) with
  | error l =>
    cases mProgram (toksL (1 + h) (ls.map fun s => ksA n (lex s))) with
    | error l' => exact fun e => e
    | ok b => exact fun e => e.elim
  | ok a =>
    cases mProgram (toksL (1 + h) (ls.map fun s => ksA n (lex s))) with
    | error l' => exact fun e => e.elim
    | ok b => exact fun _ => rfl
end Pk
set_option Elab.async false
set_option linter.all false
set_option maxRecDepth 100000
set_option maxHeartbeats 40000000
/-! the lines of k04 and their faults; no row -/
namespace Pk
open PySem PySem.Spec PyProof.Rows L2 SX Tk
/-- a written text or a name -/
inductive Ch where
  | c (s : String) : Ch
  | n (i : Nat) : Ch
def C (s : String) : List Nat := (Str.ofString s).cps.toList
def symC : List Ch → List Sy
  | [] => []
  | .c s :: r => (C s).map .inl ++ symC r
  | .n i :: r => .inr i :: symC r
def bodyC : List (List Ch) := [
  [.c "program ", .n 0],
  [.c "header ", .n 1, .c " {"],
  [.n 2, .c ": 8;"],
  [.c "}"],
  [.c "meta {"],
  [.n 3, .c ": 4;"],
  [.c "}"],
  [.c "parser {"],
  [.c "state start {"],
  [.c "extract ", .n 1, .c ";"],
  [.c "select ", .n 1, .c ".", .n 2, .c " {"],
  [.c "1 & 3 -> reject;"],
  [.c "else -> accept;"],
  [.c "}"],
  [.c "}"],
  [.c "}"],
  [.c "action ", .n 4, .c "(", .n 5, .c ": 8) {"],
  [.n 1, .c ".", .n 2, .c " = ", .n 5, .c " + 1;"],
  [.c "send packet.port;"],
  [.c "add ", .n 1, .c ";"],
  [.c "}"],
  [.c "table ", .n 6, .c " {"],
  [.c "key meta.", .n 3, .c " prefix;"],
  [.c "use ", .n 4, .c ";"],
  [.c "default ", .n 4, .c "(7);"],
  [.c "size 3;"],
  [.c "}"],
  [.c "control {"],
  [.c "if not valid ", .n 1, .c " {"],
  [.c "apply ", .n 6, .c ";"],
  [.c "}"],
  [.c "}"],
  [.c "emit ", .n 1, .c ";"]]
def body : List (List Sy) := bodyC.map symC
def picksC : List String := [")", "->", "prefix", ":", "program", "= ", "<"]
/-- a token ahead of the line at j -/
def fault0 (j : Nat) (s : String) : List (List Sy) := body.set j ((C s).map .inl ++ (.inl 32 :: body[j]?.getD []))
def commas : List Nat := [2, 5, 9, 11, 12, 17, 18, 19, 22, 23, 24, 25, 29]
def comma (l : List Sy) : List Sy := l.map fun y => if y = .inl 59 then .inl 44 else y
def fault1 (j : Nat) : List (List Sy) := body.set j (comma (body[j]?.getD []))
def fault2 : List (List Sy) := body.set 31 []
def endsC : List String := ["}", "emit a;", "7", "apply t;"]
def fault3 (s : String) : List (List Sy) := body ++ [(C s).map .inl]
/-- all that can become of the lines, with the line of the error -/
def faults : List (List (List Sy) × Nat) := (List.range 33).flatMap (fun j => picksC.map fun s => (fault0 j s, j + 1)) ++ commas.map (fun j => (fault1 j, j + 1)) ++ [(fault2, 33)] ++ endsC.map fun s => (fault3 s, 34)
def rep (k : Nat) (s : String) : List Nat := (List.replicate k (C s)).flatten
def nested (blocks nots : Nat) : List (List Sy) := [(C "program p").map .inl, (C "parser { }").map .inl, (C "control {").map .inl] ++ List.replicate (blocks - 1) ((C "if " ++ rep nots "not " ++ C "valid h {").map .inl) ++ List.replicate blocks ((C "}").map .inl)
def nests : List (List (List Sy) × Nat) := (List.range 9).map (fun k => (nested 8 k, 0)) ++ (List.range 9).map (fun k => (nested 9 k, 11)) ++ (List.range 7).map fun k => (nested (2 + k) 9, 4)
theorem body_ok : body.all okS = true ∧ errS body = 0 := by decide +kernel
end Pk
set_option Elab.async false
set_option linter.all false
set_option maxRecDepth 100000
set_option maxHeartbeats 40000000
namespace Pk
open PySem PySem.Spec PyProof.Rows L2 SX Tk
theorem faults_ok : ∀ f ∈ faults, f.1.all okS = true ∧ errS f.1 = f.2 := by decide +kernel
theorem nests_ok : ∀ f ∈ nests, f.1.all okS = true ∧ errS f.1 = f.2 := by decide +kernel
end Pk
set_option Elab.async false
set_option linter.all false
set_option maxRecDepth 100000
set_option maxHeartbeats 4000000
namespace Pk
open PySem PySem.Spec PyProof.Rows L2 SX GxR Tk PySem.ErX
abbrev sName : Stmt := topS 64
abbrev sLines : Stmt := topS 65
theorem scName : FnScope ["state", "k"] ["state", "k"] (defScope sName) := ⟨rfl, rfl, rfl, by decide +kernel, rfl, by decide +kernel, by decide +kernel⟩
abbrev NL : List Str := ["state", "n", "lines", "head", "k"]
theorem scLines : FnScope NL ["state"] (defScope sLines) := ⟨rfl, rfl, rfl, by decide +kernel, rfl, by decide +kernel, by decide +kernel⟩
/-! written texts and names -/
def strCh (n : Nat → List Nat) : Ch → Str
  | .c s => Str.ofString s
  | .n i => S (n i)
def lineStr (n : Nat → List Nat) : List Ch → Str
  | [] => S []
  | c :: r => r.foldl (fun a x => a ++ strCh n x) (strCh n c)
theorem ofs_S (s : String) : Str.ofString s = S (C s) := (S_tl _).symm
theorem strCh_S (n : Nat → List Nat) (c : Ch) : strCh n c = S (ex n (symC [c])) := by
  cases c with
  | c s =>
    show Str.ofString s = S (ex n ((C s).map .inl ++ []))
    rw [List.append_nil, ex_inl]
    exact ofs_S s
  | n i =>
    show S (n i) = S (n i ++ [])
    rw [List.append_nil]
theorem symC_cons (c : Ch) (r : List Ch) : symC (c :: r) = symC [c] ++ symC r := by
  cases c with
  | c s => show _ = (C s).map .inl ++ [] ++ symC r; rw [List.append_nil]; rfl
  | n i => rfl
theorem lineStr_S (n : Nat → List Nat) (cs : List Ch) : lineStr n cs = S (ex n (symC cs)) := by
  have key : ∀ (cs : List Ch) (a : List Nat), cs.foldl (fun a x => a ++ strCh n x) (S a) = S (a ++ ex n (symC cs)) := by
    intro cs
    induction cs with
    | nil => intro a; show S a = S (a ++ []); rw [List.append_nil]
    | cons c cs ih =>
      intro a
      rw [List.foldl_cons, strCh_S, S_cat, ih, symC_cons c cs, ex_app, List.append_assoc]
  cases cs with
  | nil => rfl
  | cons c r =>
    show r.foldl _ (strCh n c) = _
    rw [strCh_S, key, symC_cons c r, ex_app]
theorem catLe {a b : Str} {x y : Nat} (ha : a.length ≤ x) (hb : b.length ≤ y) : (a ++ b).length ≤ x + y := by
  rw [← S_tl a, ← S_tl b] at *
  rw [S_cat, S_len, List.length_append, ← S_len, ← S_len]
  exact Nat.add_le_add ha hb
theorem sizeOk {a b : Str} {x y : Nat} (ha : a.length ≤ x) (hb : b.length ≤ y) (h : x + y ≤ 1000) : a.length + b.length ≤ sizeLine := by
  rw [sizeLine_eq]
  omega
section
variable {P : Program} {w : World} {K : PySem.W.Frag} {mg : Str → Option Value} {base : Heap}
def spName : Sp := fun vs H Q _ => ∃ (s c : Addr) (k : Nat), vs = [.ref s, .int k] ∧ StAt H s c ∧ k < 8 ∧ ∀ H' p, GoodN p → StAt H' s c → Kp s c H H' → Q (.str (S p)) H'
def firsts : List Str := ["a", "Zq", "x_y"].map Str.ofString
def lasts : List Str := ["", "_", "b7"].map Str.ofString
theorem names_ok : ∀ x ∈ firsts, ∀ k ∈ List.range 8, ∀ y ∈ lasts, goodB ((x ++ toString ((k : Nat) : Int)) ++ y : Str).cps.toList = true ∧ x.length ≤ 3 ∧ (toString ((k : Nat) : Int) : Str).length ≤ 1 ∧ y.length ≤ 2 := by decide +kernel
theorem ok_name {f : Addr} {fd : FuncData} {k : Nat} (F : Fun K "_law_name" "_law_name" sName f fd) (zStr : mg "str" = none) (DP : Df P w K mg base CX0 (k + 2) "_law_pick" ["state", "row"] (spPick K)) : FnOk P w K mg base CX0 (k + 3) f fd ["state", "k"] spName := by
  obtain ⟨fP, fdP, GP, gP, kP, bP⟩ := DP.ex
  refine F.ok scName (fun vs H Q E h => ?_) (fun cdv A outer s0 H vs Q E hr h => ?_)
  · obtain ⟨s, c, k, rfl, _⟩ := h
    rfl
  · obtain ⟨s, c, k, rfl, hS, hk, q⟩ := h
    refine ⟨_, pss_one (ps_ret (pe_op op_add_str (pe_op op_add_str (pe_call GP hr (by rfl) gP kP bP .nil pass0 (pa_cons (pv 0) (pa_cons (pe_lst (pa_cons pe_str (pa_cons pe_str (pa_cons pe_str pa_nil)))) pa_nil)))
      (pe_callTy call_str_int (by rfl) zStr (by decide +kernel) (pa_cons (pv 1) pa_nil)))
      (pe_call GP hr (by rfl) gP kP bP .nil pass0 (pa_cons (pv 0) (pa_cons (pe_lst (pa_cons pe_str (pa_cons pe_str (pa_cons pe_str pa_nil)))) pa_nil))))), ?_⟩
    refine ⟨_, rfl, (by show 3 ≤ sizeLine; decide), fun p hp => ?_⟩
    have hn := hS.neS hp
    refine ⟨s, c, p, _, rfl, hS.new hp, SqL.of upd_same, hn.1, hn.2, (by show 0 < 3; decide), (by show 3 ≤ 1000; decide), fun H2 i x hx st2 kp2 => ?_⟩
    have hm : x ∈ firsts.map V.str := List.mem_of_getElem? hx
    obtain ⟨a, ha, rfl⟩ := List.mem_map.mp hm
    refine ⟨_, rfl, _, rfl, ?_, ?_⟩
    · rw [Int.natAbs_natCast]
      have : ∀ k, k < 8 → k.log2 < 1920 := by decide +kernel
      exact this k hk
    have l1 := (names_ok a ha k (List.mem_range.mpr hk) _ (List.mem_cons_self)).2
    refine ⟨_, _, rfl, rfl, sizeOk l1.1 l1.2.1 (by decide), ?_⟩
    refine ⟨_, rfl, (by show 3 ≤ sizeLine; decide), fun p2 hp2 => ?_⟩
    have hn2 := st2.neS hp2
    refine ⟨s, c, p2, _, rfl, st2.new hp2, SqL.of upd_same, hn2.1, hn2.2, (by show 0 < 3; decide), (by show 3 ≤ 1000; decide), fun H3 i x hx st3 kp3 => ?_⟩
    have hm2 : x ∈ lasts.map V.str := List.mem_of_getElem? hx
    obtain ⟨b, hb, rfl⟩ := List.mem_map.mp hm2
    have l2 := names_ok a ha k (List.mem_range.mpr hk) b hb
    refine ⟨_, _, rfl, rfl, sizeOk (catLe l2.2.1 l2.2.2.1) l2.2.2.2 (by decide), ?_⟩
    have e := S_tl ((a ++ toString ((k : Nat) : Int)) ++ b)
    rw [← e]
    exact q _ _ (goodN_of l2.1) st3 (((Kp.new hp).trans kp2).trans ((Kp.new hp2).trans kp3))
/-- lines = lines + [..] -/
theorem cat_rd {H : Hp} {pl p1 : Addr} {h : Nat} {n : Nat → List Nat} {cur ls : List (List Ch)} {vs : List V} {t : V → Hp → Prop} (hL : H pl = some (.lst (List.replicate h (V.str "") ++ cur.map fun cs => V.str (lineStr n cs))))
    (e : vs = ls.map fun cs => V.str (lineStr n cs)) (hh : h ≤ 5) (hb : cur.length + ls.length ≤ 90) (hp : H p1 = none)
    (k : ∀ H2 p2, Same H H2 → H2 p2 = some (.lst (List.replicate h (V.str "") ++ (cur ++ ls).map fun cs => V.str (lineStr n cs))) → t (.ref p2) H2) :
    rCat (.ref pl) (.ref p1) (upd H p1 (.lst vs)) t := by
  subst e
  refine ⟨pl, p1, _, _, rfl, rfl, (same_new hp) _ _ hL, upd_same, ?_, fun p hp2 => k _ p ((same_new hp).trans (same_new hp2)) ?_⟩
  · rw [List.length_append, List.length_replicate, List.length_map, List.length_map, sizeLine_eq]
    omega
  · rw [upd_same, List.map_append, List.append_assoc]
theorem lnV_text (n : Nat → List Nat) (h : Nat) : (List.replicate h (V.str "") ++ bodyC.map fun cs => V.str (lineStr n cs)) = lnV (textL n h body) := by
  unfold lnV textL body
  rw [List.map_append, List.map_replicate, List.map_map, List.map_map]
  have e : Str.ofString "" = S [] := by decide +kernel
  rw [show V.str "" = V.str (S []) from congrArg V.str e]
  congr 1
  refine List.map_congr_left fun cs _ => ?_
  rw [lineStr_S]
  rfl
def spLines (K : PySem.W.Frag) : Sp := fun vs H Q _ => ∃ (s c : Addr), vs = [.ref s] ∧ StAt H s c ∧ ∀ H' p pl h n, h ≤ 5 → (∀ i, GoodN (n i)) → H' p = some (.lst [.ref pl, .int (h : Nat)]) → H' pl = some (.lst (lnV (textL n h body))) → StAt H' s c → Kp s c H H' → Q (.ref p) H'
theorem ok_lines {f : Addr} {fd : FuncData} {k : Nat} (F : Fun K "_law_lines" "_law_lines" sLines f fd) (zRange : mg "range" = none) (zLen : mg "len" = none) (DD : Df P w K mg base CX0 (k + 1) "_law_draw" ["state", "many"] spDraw) (DN : Df P w K mg base CX0 (k + 3) "_law_name" ["state", "k"] spName) :
    FnOk P w K mg base CX0 (k + 4) f fd ["state"] (spLines K) := by
  obtain ⟨fD, fdD, GD, gD, kD, bD⟩ := DD.ex
  obtain ⟨fN, fdN, GN, gN, kN, bN⟩ := DN.ex
  refine F.ok scLines (fun vs H Q E h => ?_) (fun cdv A outer s0 H vs Q E hr h => ?_)
  · obtain ⟨s, c, rfl, _⟩ := h
    rfl
  · obtain ⟨s, c, rfl, hS, q⟩ := h
    have nd := scLines.nd
    have hr1 : Room (k + 1) _ := hr.mono (by omega)
    refine ⟨_, pss_cons (ps_setLc (i := 1) (own := [("k", 4)]) (g := gName 4) (tt := tYes) rfl nd rfl rfl (sw_true rfl rfl rfl (by decide +kernel)) (pi_range1 (by rfl) zRange (pa_cons pe_int pa_nil)) (blkOk_by (N := NL) (sc := defScope sLines) (by decide +kernel)) (fun _ _ _ _ _ => pg_name (i := 4) nd rfl (Or.inl rfl)) (fun _ _ _ _ _ => pts_nil) (fun _ _ _ _ _ => pe_call GN hr (by rfl) gN kN bN .nil pass0 (pa_cons (pv 0) (pa_cons (pv 4) pa_nil))))
      (pss_cons (ps_setLc (i := 2) (own := [("k", 4)]) (g := gName 4) (tt := tYes) rfl nd rfl rfl (sw_true rfl rfl rfl (by decide +kernel)) (pi_range1 (by rfl) zRange (pa_cons (pe_call GD hr1 (by rfl) gD kD bD .nil pass0 (pa_cons (pv 0) (pa_cons pe_int pa_nil))) pa_nil)) (blkOk_by (N := NL) (sc := defScope sLines) (by decide +kernel)) (fun _ _ _ _ _ => pg_name (i := 4) nd rfl (Or.inl rfl)) (fun _ _ _ _ _ => pts_nil) (fun _ _ _ _ _ => pe_str))
      (pss_cons (ps_set (i := 3) nd rfl (.inl rfl) (pe_callB call_len_seq (by rfl) zLen PySem.boot_len (pa_cons (pv 2) pa_nil)))
      (pss_cons (ps_set (i := 2) nd rfl (.inl rfl) (pe_op op_cat (pv 2) (pe_lst (pa_cons (pe_op op_add_str pe_str (pe_ix ix_list (pv 1) pe_int (fun _ _ => rfl))) (pa_cons (pe_op op_add_str (pe_op op_add_str pe_str (pe_ix ix_list (pv 1) pe_int (fun _ _ => rfl))) pe_str) (pa_cons (pe_op op_add_str (pe_ix ix_list (pv 1) pe_int (fun _ _ => rfl)) pe_str) (pa_cons pe_str (pa_cons pe_str (pa_cons (pe_op op_add_str (pe_ix ix_list (pv 1) pe_int (fun _ _ => rfl)) pe_str) (pa_cons pe_str pa_nil))))))))))
      (pss_cons (ps_set (i := 2) nd rfl (.inl rfl) (pe_op op_cat (pv 2) (pe_lst (pa_cons pe_str (pa_cons pe_str (pa_cons (pe_op op_add_str (pe_op op_add_str pe_str (pe_ix ix_list (pv 1) pe_int (fun _ _ => rfl))) pe_str) (pa_cons (pe_op op_add_str (pe_op op_add_str (pe_op op_add_str (pe_op op_add_str pe_str (pe_ix ix_list (pv 1) pe_int (fun _ _ => rfl))) pe_str) (pe_ix ix_list (pv 1) pe_int (fun _ _ => rfl))) pe_str) pa_nil)))))))
      (pss_cons (ps_set (i := 2) nd rfl (.inl rfl) (pe_op op_cat (pv 2) (pe_lst (pa_cons pe_str (pa_cons pe_str (pa_cons pe_str (pa_cons pe_str (pa_cons pe_str pa_nil))))))))
      (pss_cons (ps_set (i := 2) nd rfl (.inl rfl) (pe_op op_cat (pv 2) (pe_lst (pa_cons (pe_op op_add_str (pe_op op_add_str (pe_op op_add_str (pe_op op_add_str pe_str (pe_ix ix_list (pv 1) pe_int (fun _ _ => rfl))) pe_str) (pe_ix ix_list (pv 1) pe_int (fun _ _ => rfl))) pe_str) (pa_cons (pe_op op_add_str (pe_op op_add_str (pe_op op_add_str (pe_op op_add_str (pe_op op_add_str (pe_ix ix_list (pv 1) pe_int (fun _ _ => rfl)) pe_str) (pe_ix ix_list (pv 1) pe_int (fun _ _ => rfl))) pe_str) (pe_ix ix_list (pv 1) pe_int (fun _ _ => rfl))) pe_str) pa_nil)))))
      (pss_cons (ps_set (i := 2) nd rfl (.inl rfl) (pe_op op_cat (pv 2) (pe_lst (pa_cons pe_str (pa_cons (pe_op op_add_str (pe_op op_add_str pe_str (pe_ix ix_list (pv 1) pe_int (fun _ _ => rfl))) pe_str) (pa_cons pe_str pa_nil))))))
      (pss_cons (ps_set (i := 2) nd rfl (.inl rfl) (pe_op op_cat (pv 2) (pe_lst (pa_cons (pe_op op_add_str (pe_op op_add_str pe_str (pe_ix ix_list (pv 1) pe_int (fun _ _ => rfl))) pe_str) (pa_cons (pe_op op_add_str (pe_op op_add_str pe_str (pe_ix ix_list (pv 1) pe_int (fun _ _ => rfl))) pe_str) (pa_cons (pe_op op_add_str (pe_op op_add_str pe_str (pe_ix ix_list (pv 1) pe_int (fun _ _ => rfl))) pe_str) pa_nil))))))
      (pss_cons (ps_set (i := 2) nd rfl (.inl rfl) (pe_op op_cat (pv 2) (pe_lst (pa_cons (pe_op op_add_str (pe_op op_add_str pe_str (pe_ix ix_list (pv 1) pe_int (fun _ _ => rfl))) pe_str) (pa_cons pe_str (pa_cons pe_str pa_nil))))))
      (pss_cons (ps_set (i := 2) nd rfl (.inl rfl) (pe_op op_cat (pv 2) (pe_lst (pa_cons pe_str (pa_cons (pe_op op_add_str (pe_op op_add_str pe_str (pe_ix ix_list (pv 1) pe_int (fun _ _ => rfl))) pe_str) (pa_cons (pe_op op_add_str (pe_op op_add_str pe_str (pe_ix ix_list (pv 1) pe_int (fun _ _ => rfl))) pe_str) (pa_cons pe_str (pa_cons pe_str (pa_cons (pe_op op_add_str (pe_op op_add_str pe_str (pe_ix ix_list (pv 1) pe_int (fun _ _ => rfl))) pe_str) pa_nil)))))))))
      (pss_one (ps_ret (pe_lst (pa_cons (pv 2) (pa_cons (pv 3) pa_nil))))))))))))))), ?_⟩

    refine ⟨_, rfl, by decide, by decide, fun D hD => lc_range (lo := 0) (n := 8) (fun i H2 => StAt H2 s c ∧ Kp s c H H2 ∧ ∃ ns : List (List Nat), ns.length = i ∧ (∀ p ∈ ns, GoodN p) ∧ H2 D = some (.lst (ns.map fun p => V.str (S p)))) ⟨hS.new hD, Kp.new hD, [], rfl, fun p hp => (nomatch hp), upd_same⟩ ?_ ?_⟩
    · rintro i H2 hi ⟨st, kp, ns, hl, hg, hns⟩
      refine ⟨rfl, _, rfl, _, rfl, s, c, i, ?_, st, hi, fun H3 p gp st3 kp3 => ?_⟩
      · rw [Int.zero_add]
        rfl
      have hn := hS.neS hD
      have e3 := kp3 _ _ hn.1 hn.2 hns
      refine ⟨_, e3, ?_, st3.upd hn.1 hn.2, ?_, ns ++ [p], ?_, ?_, ?_⟩
      · rw [List.length_map, hl]
        exact small_len (by omega)
      · refine fun b o n1 n2 e => ?_
        rw [upd_ne (ne_of_none e hD)]
        exact (kp.trans kp3) b o n1 n2 e
      · rw [List.length_append, hl]
        rfl
      · intro x hx
        rcases List.mem_append.mp hx with hx | hx
        · exact hg x hx
        · obtain rfl := List.mem_singleton.mp hx
          exact gp
      · rw [upd_same, List.map_append]
        rfl
    rintro H2 ⟨st, kp, ns, hl, hg, hns⟩
    obtain ⟨n0, n1, n2, n3, n4, n5, n6, n7, rfl⟩ : ∃ n0 n1 n2 n3 n4 n5 n6 n7, ns = [n0, n1, n2, n3, n4, n5, n6, n7] := by
      match ns, hl with
      | [a, b, c, d, e, f, g, h], _ => exact ⟨a, b, c, d, e, f, g, h, rfl⟩
    obtain ⟨n, hn, en⟩ : ∃ n : Nat → List Nat, (∀ i, GoodN (n i)) ∧ [n0, n1, n2, n3, n4, n5, n6, n7] = [n 0, n 1, n 2, n 3, n 4, n 5, n 6, n 7] := by
      refine ⟨fun i => [n0, n1, n2, n3, n4, n5, n6, n7][i]?.getD n0, fun i => ?_, rfl⟩
      show GoodN ([n0, n1, n2, n3, n4, n5, n6, n7][i]?.getD n0)
      cases e : [n0, n1, n2, n3, n4, n5, n6, n7][i]? with
      | none => exact hg _ (List.mem_cons_self)
      | some x => exact hg _ (List.mem_of_getElem? e)
    rw [en] at hns
    clear en hg hl
    have hl : ∀ i, (S (n i)).length ≤ 8 := fun i => by rw [S_len]; exact (hn i).len
    have hN : SqL K H2 D [.str (S (n 0)), .str (S (n 1)), .str (S (n 2)), .str (S (n 3)), .str (S (n 4)), .str (S (n 5)), .str (S (n 6)), .str (S (n 7))] := SqL.of hns
    generalize D = pn at hN hD ⊢
    clear hns
    refine ⟨_, rfl, s, c, 6, rfl, st, by decide, by decide, fun H3 r r0 r1 st3 kp3 => ⟨r, rfl, by omega, by omega, fun D hD3 => ?_⟩⟩
    obtain ⟨h, rfl⟩ : ∃ h : Nat, r = (h : Int) := ⟨r.toNat, by omega⟩
    have npn := hS.neS hD
    replace hN := kp3.seq hN npn.1 npn.2
    have k3 := kp.trans kp3
    refine lc_range (lo := 0) (n := h) (fun i H4 => Same H3 H4 ∧ H4 D = some (.lst (List.replicate i (V.str "")))) ⟨same_new hD3, upd_same⟩ ?_ ?_
    · rintro i H4 hi ⟨sm, e4⟩
      refine ⟨rfl, ⟨_, e4, ?_, fun b o e => ?_, ?_⟩⟩
      · rw [List.length_replicate]
        exact small_len (by omega)
      · rw [upd_ne (ne_of_none e hD3)]
        exact sm b o e
      · rw [upd_same]
        exact congrArg (fun x => some (HO.lst x)) List.replicate_succ'.symm
    rintro H4 ⟨sm, hL0⟩
    have hh5 : h ≤ 5 := by omega
    have hL : H4 D = some (.lst (List.replicate h (V.str "") ++ ([] : List (List Ch)).map fun cs => V.str (lineStr n cs))) := by
      rw [List.map_nil, List.append_nil]
      exact hL0
    replace hN := sm.seq hN
    have st := st3.same sm
    have kp := k3.trans (Kp.same sm)
    clear hL0 sm st3 kp3 k3
    refine ⟨.ref D, rfl, D, _, rfl, .inl (SqL.of hL), ?_⟩
    rw [List.map_nil, List.append_nil, List.length_replicate]
    generalize D = pl at hL ⊢
    clear hD3
    refine ⟨.ref pl, rfl, .ref pn, rfl, pn, _, _, _, rfl, rfl, hN, atI_nat (j := 0) rfl, _, _, rfl, rfl, sizeOk (Nat.le_refl _) (hl 0) (by decide +kernel), .ref pn, rfl, pn, _, _, _, rfl, rfl, hN, atI_nat (j := 1) rfl, _, _, rfl, rfl, sizeOk (Nat.le_refl _) (hl 1) (by decide +kernel), _, _, rfl, rfl, sizeOk (catLe (Nat.le_refl _) (hl 1)) (Nat.le_refl _) (by decide +kernel), .ref pn, rfl, pn, _, _, _, rfl, rfl, hN, atI_nat (j := 2) rfl, _, _, rfl, rfl, sizeOk (hl 2) (Nat.le_refl _) (by decide +kernel), .ref pn, rfl, pn, _, _, _, rfl, rfl, hN, atI_nat (j := 3) rfl, _, _, rfl, rfl, sizeOk (hl 3) (Nat.le_refl _) (by decide +kernel), (by show 7 ≤ sizeLine; decide), fun p1 hp1 => ?_⟩
    refine cat_rd (ls := [[.c "program ", .n 0], [.c "header ", .n 1, .c " {"], [.n 2, .c ": 8;"], [.c "}"], [.c "meta {"], [.n 3, .c ": 4;"], [.c "}"]]) hL (n := n) rfl hh5 (by decide) hp1 fun H2_0 p2_0 sm hL2 => ?_
    replace hN := sm.seq hN
    replace st := st.same sm
    replace kp := kp.trans (Kp.same sm)
    replace hL := hL2
    clear hp1 sm hL2
    refine ⟨.ref p2_0, rfl, .ref pn, rfl, pn, _, _, _, rfl, rfl, hN, atI_nat (j := 1) rfl, _, _, rfl, rfl, sizeOk (Nat.le_refl _) (hl 1) (by decide +kernel), _, _, rfl, rfl, sizeOk (catLe (Nat.le_refl _) (hl 1)) (Nat.le_refl _) (by decide +kernel), .ref pn, rfl, pn, _, _, _, rfl, rfl, hN, atI_nat (j := 1) rfl, _, _, rfl, rfl, sizeOk (Nat.le_refl _) (hl 1) (by decide +kernel), _, _, rfl, rfl, sizeOk (catLe (Nat.le_refl _) (hl 1)) (Nat.le_refl _) (by decide +kernel), .ref pn, rfl, pn, _, _, _, rfl, rfl, hN, atI_nat (j := 2) rfl, _, _, rfl, rfl, sizeOk (catLe (catLe (Nat.le_refl _) (hl 1)) (Nat.le_refl _)) (hl 2) (by decide +kernel), _, _, rfl, rfl, sizeOk (catLe (catLe (catLe (Nat.le_refl _) (hl 1)) (Nat.le_refl _)) (hl 2)) (Nat.le_refl _) (by decide +kernel), (by show 4 ≤ sizeLine; decide), fun p1 hp1 => ?_⟩
    refine cat_rd (ls := [[.c "parser {"], [.c "state start {"], [.c "extract ", .n 1, .c ";"], [.c "select ", .n 1, .c ".", .n 2, .c " {"]]) hL (n := n) rfl hh5 (by decide) hp1 fun H2_1 p2_1 sm hL2 => ?_
    replace hN := sm.seq hN
    replace st := st.same sm
    replace kp := kp.trans (Kp.same sm)
    replace hL := hL2
    clear hp1 sm hL2
    refine ⟨.ref p2_1, rfl, (by show 5 ≤ sizeLine; decide), fun p1 hp1 => ?_⟩
    refine cat_rd (ls := [[.c "1 & 3 -> reject;"], [.c "else -> accept;"], [.c "}"], [.c "}"], [.c "}"]]) hL (n := n) rfl hh5 (by decide) hp1 fun H2_2 p2_2 sm hL2 => ?_
    replace hN := sm.seq hN
    replace st := st.same sm
    replace kp := kp.trans (Kp.same sm)
    replace hL := hL2
    clear hp1 sm hL2
    refine ⟨.ref p2_2, rfl, .ref pn, rfl, pn, _, _, _, rfl, rfl, hN, atI_nat (j := 4) rfl, _, _, rfl, rfl, sizeOk (Nat.le_refl _) (hl 4) (by decide +kernel), _, _, rfl, rfl, sizeOk (catLe (Nat.le_refl _) (hl 4)) (Nat.le_refl _) (by decide +kernel), .ref pn, rfl, pn, _, _, _, rfl, rfl, hN, atI_nat (j := 5) rfl, _, _, rfl, rfl, sizeOk (catLe (catLe (Nat.le_refl _) (hl 4)) (Nat.le_refl _)) (hl 5) (by decide +kernel), _, _, rfl, rfl, sizeOk (catLe (catLe (catLe (Nat.le_refl _) (hl 4)) (Nat.le_refl _)) (hl 5)) (Nat.le_refl _) (by decide +kernel), .ref pn, rfl, pn, _, _, _, rfl, rfl, hN, atI_nat (j := 1) rfl, _, _, rfl, rfl, sizeOk (hl 1) (Nat.le_refl _) (by decide +kernel), .ref pn, rfl, pn, _, _, _, rfl, rfl, hN, atI_nat (j := 2) rfl, _, _, rfl, rfl, sizeOk (catLe (hl 1) (Nat.le_refl _)) (hl 2) (by decide +kernel), _, _, rfl, rfl, sizeOk (catLe (catLe (hl 1) (Nat.le_refl _)) (hl 2)) (Nat.le_refl _) (by decide +kernel), .ref pn, rfl, pn, _, _, _, rfl, rfl, hN, atI_nat (j := 5) rfl, _, _, rfl, rfl, sizeOk (catLe (catLe (catLe (hl 1) (Nat.le_refl _)) (hl 2)) (Nat.le_refl _)) (hl 5) (by decide +kernel), _, _, rfl, rfl, sizeOk (catLe (catLe (catLe (catLe (hl 1) (Nat.le_refl _)) (hl 2)) (Nat.le_refl _)) (hl 5)) (Nat.le_refl _) (by decide +kernel), (by show 2 ≤ sizeLine; decide), fun p1 hp1 => ?_⟩
    refine cat_rd (ls := [[.c "action ", .n 4, .c "(", .n 5, .c ": 8) {"], [.n 1, .c ".", .n 2, .c " = ", .n 5, .c " + 1;"]]) hL (n := n) rfl hh5 (by decide) hp1 fun H2_3 p2_3 sm hL2 => ?_
    replace hN := sm.seq hN
    replace st := st.same sm
    replace kp := kp.trans (Kp.same sm)
    replace hL := hL2
    clear hp1 sm hL2
    refine ⟨.ref p2_3, rfl, .ref pn, rfl, pn, _, _, _, rfl, rfl, hN, atI_nat (j := 1) rfl, _, _, rfl, rfl, sizeOk (Nat.le_refl _) (hl 1) (by decide +kernel), _, _, rfl, rfl, sizeOk (catLe (Nat.le_refl _) (hl 1)) (Nat.le_refl _) (by decide +kernel), (by show 3 ≤ sizeLine; decide), fun p1 hp1 => ?_⟩
    refine cat_rd (ls := [[.c "send packet.port;"], [.c "add ", .n 1, .c ";"], [.c "}"]]) hL (n := n) rfl hh5 (by decide) hp1 fun H2_4 p2_4 sm hL2 => ?_
    replace hN := sm.seq hN
    replace st := st.same sm
    replace kp := kp.trans (Kp.same sm)
    replace hL := hL2
    clear hp1 sm hL2
    refine ⟨.ref p2_4, rfl, .ref pn, rfl, pn, _, _, _, rfl, rfl, hN, atI_nat (j := 6) rfl, _, _, rfl, rfl, sizeOk (Nat.le_refl _) (hl 6) (by decide +kernel), _, _, rfl, rfl, sizeOk (catLe (Nat.le_refl _) (hl 6)) (Nat.le_refl _) (by decide +kernel), .ref pn, rfl, pn, _, _, _, rfl, rfl, hN, atI_nat (j := 3) rfl, _, _, rfl, rfl, sizeOk (Nat.le_refl _) (hl 3) (by decide +kernel), _, _, rfl, rfl, sizeOk (catLe (Nat.le_refl _) (hl 3)) (Nat.le_refl _) (by decide +kernel), .ref pn, rfl, pn, _, _, _, rfl, rfl, hN, atI_nat (j := 4) rfl, _, _, rfl, rfl, sizeOk (Nat.le_refl _) (hl 4) (by decide +kernel), _, _, rfl, rfl, sizeOk (catLe (Nat.le_refl _) (hl 4)) (Nat.le_refl _) (by decide +kernel), (by show 3 ≤ sizeLine; decide), fun p1 hp1 => ?_⟩
    refine cat_rd (ls := [[.c "table ", .n 6, .c " {"], [.c "key meta.", .n 3, .c " prefix;"], [.c "use ", .n 4, .c ";"]]) hL (n := n) rfl hh5 (by decide) hp1 fun H2_5 p2_5 sm hL2 => ?_
    replace hN := sm.seq hN
    replace st := st.same sm
    replace kp := kp.trans (Kp.same sm)
    replace hL := hL2
    clear hp1 sm hL2
    refine ⟨.ref p2_5, rfl, .ref pn, rfl, pn, _, _, _, rfl, rfl, hN, atI_nat (j := 4) rfl, _, _, rfl, rfl, sizeOk (Nat.le_refl _) (hl 4) (by decide +kernel), _, _, rfl, rfl, sizeOk (catLe (Nat.le_refl _) (hl 4)) (Nat.le_refl _) (by decide +kernel), (by show 3 ≤ sizeLine; decide), fun p1 hp1 => ?_⟩
    refine cat_rd (ls := [[.c "default ", .n 4, .c "(7);"], [.c "size 3;"], [.c "}"]]) hL (n := n) rfl hh5 (by decide) hp1 fun H2_6 p2_6 sm hL2 => ?_
    replace hN := sm.seq hN
    replace st := st.same sm
    replace kp := kp.trans (Kp.same sm)
    replace hL := hL2
    clear hp1 sm hL2
    refine ⟨.ref p2_6, rfl, .ref pn, rfl, pn, _, _, _, rfl, rfl, hN, atI_nat (j := 1) rfl, _, _, rfl, rfl, sizeOk (Nat.le_refl _) (hl 1) (by decide +kernel), _, _, rfl, rfl, sizeOk (catLe (Nat.le_refl _) (hl 1)) (Nat.le_refl _) (by decide +kernel), .ref pn, rfl, pn, _, _, _, rfl, rfl, hN, atI_nat (j := 6) rfl, _, _, rfl, rfl, sizeOk (Nat.le_refl _) (hl 6) (by decide +kernel), _, _, rfl, rfl, sizeOk (catLe (Nat.le_refl _) (hl 6)) (Nat.le_refl _) (by decide +kernel), .ref pn, rfl, pn, _, _, _, rfl, rfl, hN, atI_nat (j := 1) rfl, _, _, rfl, rfl, sizeOk (Nat.le_refl _) (hl 1) (by decide +kernel), _, _, rfl, rfl, sizeOk (catLe (Nat.le_refl _) (hl 1)) (Nat.le_refl _) (by decide +kernel), (by show 6 ≤ sizeLine; decide), fun p1 hp1 => ?_⟩
    refine cat_rd (ls := [[.c "control {"], [.c "if not valid ", .n 1, .c " {"], [.c "apply ", .n 6, .c ";"], [.c "}"], [.c "}"], [.c "emit ", .n 1, .c ";"]]) hL (n := n) rfl hh5 (by decide) hp1 fun H2_7 p2_7 sm hL2 => ?_
    replace hN := sm.seq hN
    replace st := st.same sm
    replace kp := kp.trans (Kp.same sm)
    replace hL := hL2
    clear hp1 sm hL2

    refine ⟨_, rfl, _, rfl, (by show 2 ≤ sizeLine; decide), fun p hp => ?_⟩
    refine q _ p p2_7 h n (by omega) hn upd_same ?_ (st.new hp) (kp.trans (Kp.new hp))
    rw [upd_ne (ne_of_none hL hp), hL]
    exact congrArg (fun x => some (HO.lst x)) (lnV_text n h)
end
end Pk
set_option Elab.async false
set_option linter.all false
set_option maxRecDepth 100000
set_option maxHeartbeats 4000000
namespace Pk
open PySem PySem.Spec PyProof.Rows L2 SX GxR Tk PySem.ErX
abbrev sFaulty : Stmt := topS 67
abbrev NF : List Str := ["state", "lines", "head", "kind", "at"]
theorem scFaulty : FnScope NF ["state", "lines", "head"] (defScope sFaulty) := ⟨rfl, rfl, rfl, by decide +kernel, rfl, by decide +kernel, by decide +kernel⟩
theorem pst_asg {X : Cx} {tg e : Expr} {te : TE} {g : TG} {pos : Pos} (he : PET X e te) (hg : PG X tg g) (hs : swapsWithSole [tg] e pos.line X.env = pure false := by rfl) (hw : swappedStores [tg] e X.env = pure none := by rfl)
    (h1 : (assignEach [tg] X.env).map (·.2) = [assign tg X.env] := by rfl) : PST X (.Assign [tg] e pos) (tAsg te g) := by
  intro pins s σ H D h0 I h
  refine wpAny_Assign_stores (thn (he pins s σ H _ h0 I h) fun v s1 ⟨x, H1, I1, r1, q1⟩ => ?_) hs hw
  rw [h1]
  exact thn (hg.run pins s1 σ H1 x v _ I1 r1 q1) fun _ s2 q => q
/-! lines at a place -/
theorem lnV_at {n : Nat → List Nat} {h j : Nat} {ls : List (List Sy)} {s : List Sy} (e : ls[j]? = some s) : (lnV (textL n h ls))[h + j]? = some (V.str (S (ex n s))) := by
  unfold lnV textL
  rw [List.getElem?_map, List.getElem?_append_right (by rw [List.length_replicate]; omega), List.length_replicate, Nat.add_sub_cancel_left, List.getElem?_map, e]
  rfl
theorem lnV_set {n : Nat → List Nat} {h j : Nat} {ls : List (List Sy)} {s : List Sy} : (lnV (textL n h ls)).set (h + j) (V.str (S (ex n s))) = lnV (textL n h (ls.set j s)) := by
  unfold lnV textL
  rw [List.map_append, List.set_append_right _ _ (by rw [List.length_map, List.length_replicate]; omega), List.length_map, List.length_replicate, Nat.add_sub_cancel_left, List.map_append, List.map_set, List.map_set]
theorem lnV_len {n : Nat → List Nat} {h : Nat} {ls : List (List Sy)} : (lnV (textL n h ls)).length = h + ls.length := by
  unfold lnV textL
  rw [List.length_map, List.length_append, List.length_replicate, List.length_map]
theorem lnV_end {n : Nat → List Nat} {h : Nat} {ls : List (List Sy)} {s : List Sy} : lnV (textL n h ls) ++ [V.str (S (ex n s))] = lnV (textL n h (ls ++ [s])) := by
  unfold lnV textL
  rw [List.map_append, List.map_append, List.map_append, List.map_append, List.append_assoc]
  rfl
theorem ex_len {n : Nat → List Nat} (hn : ∀ i, GoodN (n i)) : ∀ s : List Sy, (ex n s).length ≤ 8 * s.length
  | [] => Nat.zero_le _
  | .inl c :: r => by
    have := ex_len hn r
    show (ex n r).length + 1 ≤ 8 * (r.length + 1)
    omega
  | .inr i :: r => by
    have := ex_len hn r
    have h2 := (hn i).len
    show (n i ++ ex n r).length ≤ 8 * (r.length + 1)
    rw [List.length_append]
    omega
theorem join_len {n : Nat → List Nat} (hn : ∀ i, GoodN (n i)) {h : Nat} {ls : List (List Sy)} (hh : h ≤ 5) (h1 : ls.length ≤ 50) (h2 : ∀ s ∈ ls, s.length ≤ 100) : (joinL (textL n h ls)).length ≤ 1000000 := by
  have key : ∀ ps : List (List Nat), (∀ p ∈ ps, p.length ≤ 800) → (joinL ps).length ≤ 801 * ps.length := by
    intro ps
    induction ps with
    | nil => intro _; exact Nat.zero_le _
    | cons p ps ih =>
      intro hp
      have e2 : (joinL (p :: ps)).length = p.length + 1 + (joinL ps).length := by
        unfold joinL
        rw [List.map_cons, List.flatten_cons, List.length_append, List.length_append]
        rfl
      have := ih fun q hq => hp q (List.mem_cons_of_mem _ hq)
      have := hp p List.mem_cons_self
      rw [e2, List.length_cons]
      omega
  have := key (textL n h ls) fun p hp => by
    unfold textL at hp
    rcases List.mem_append.mp hp with hp | hp
    · rw [(List.mem_replicate.mp hp).2]
      exact Nat.zero_le _
    · obtain ⟨s, hs, rfl⟩ := List.mem_map.mp hp
      have := ex_len hn s
      have := h2 s hs
      omega
  have e : (textL n h ls).length = h + ls.length := by
    unfold textL
    rw [List.length_append, List.length_replicate, List.length_map]
  rw [e] at this
  omega
theorem faults_small : ∀ f ∈ faults, f.1.length ≤ 50 ∧ ∀ s ∈ f.1, s.length ≤ 100 := by decide +kernel
theorem nests_small : ∀ f ∈ nests, f.1.length ≤ 50 ∧ ∀ s ∈ f.1, s.length ≤ 100 := by decide +kernel
theorem body_small : body.length = 33 ∧ ∀ s ∈ body, s.length ≤ 100 := by decide +kernel
theorem repl_one (l : List Nat) : PySem.StrLaws.replL [59] [44] l = l.map fun c => if c = 59 then 44 else c := by
  induction l with
  | nil => exact PySem.StrLaws.replL_nil
  | cons c l ih =>
    by_cases h : c = 59
    · subst h
      rw [PySem.StrLaws.replL_hit (by decide) rfl, List.map_cons, if_pos rfl]
      exact congrArg (44 :: ·) ih
    · rw [PySem.StrLaws.replL_miss (y := [59]) (fun z => h (List.cons.inj (show [c] = [59] from z)).1), List.map_cons, if_neg h, ih]
theorem ex_comma {n : Nat → List Nat} (hn : ∀ i, GoodN (n i)) : ∀ s : List Sy, (ex n s).map (fun c => if c = 59 then 44 else c) = ex n (comma s)
  | [] => rfl
  | .inl c :: r => by
    show (if c = 59 then 44 else c) :: (ex n r).map _ = ex n ((if (.inl c : Sy) = .inl 59 then .inl 44 else .inl c) :: comma r)
    rw [ex_comma hn r]
    by_cases h : c = 59
    · rw [if_pos h, if_pos (by rw [h])]
      rfl
    · rw [if_neg h, if_neg (fun z => h (Sum.inl.inj z))]
      rfl
  | .inr i :: r => by
    show (n i ++ ex n r).map _ = ex n ((if (.inr i : Sy) = .inl 59 then .inl 44 else .inr i) :: comma r)
    rw [List.map_append, ex_comma hn r, if_neg (fun z => nomatch z)]
    have e : (n i).map (fun c => if c = 59 then 44 else c) = n i := by
      have h := (hn i).run
      generalize n i = p at h
      induction p with
      | nil => rfl
      | cons c p ih =>
        rw [List.all_cons, Bool.and_eq_true] at h
        rw [List.map_cons, ih h.2, if_neg]
        intro z
        subst z
        have : inRun 59 = false := by decide +kernel
        rw [this] at h
        exact absurd h.1 Bool.false_ne_true
    rw [e]
    rfl
theorem repl_line {n : Nat → List Nat} (hn : ∀ i, GoodN (n i)) (s : List Sy) : Txt.replace (S (ex n s)) (Str.ofString ";") (Str.ofString ",") = S (ex n (comma s)) := by
  refine TL.ext_tl ?_
  show (Txt.replace (S (ex n s)) (Str.ofString ";") (Str.ofString ",")).cps.toList = _
  rw [PySem.StrLaws.replace_list (by decide +kernel), show (Str.ofString ";").cps.toList = [59] by decide +kernel, show (Str.ofString ",").cps.toList = [44] by decide +kernel]
  show PySem.StrLaws.replL [59] [44] (ex n s) = ex n (comma s)
  rw [repl_one, ex_comma hn]
/-- all but the drawing state and the lines stands -/
def Kp3 (s c p : Addr) (H H' : Hp) : Prop := ∀ b o, b ≠ s → b ≠ c → b ≠ p → H b = some o → H' b = some o
def spFaulty : Sp := fun vs H Q _ => ∃ (s c pl : Addr) (h : Nat) (n : Nat → List Nat), vs = [.ref s, .ref pl, .int (h : Nat)] ∧ h ≤ 5 ∧ (∀ i, GoodN (n i)) ∧ StAt H s c ∧ H pl = some (.lst (lnV (textL n h body))) ∧
  ∀ H' f, f ∈ faults → H' pl = some (.lst (lnV (textL n h f.1))) → StAt H' s c → Kp3 s c pl H H' → Q (.int ((h + f.2 : Nat) : Int)) H'
theorem text_head {n : Nat → List Nat} {h : Nat} {ls : List (List Sy)} (hl : ls ≠ []) : ∃ x xs, lnV (textL n h ls) = V.str x :: xs := by
  cases h with
  | zero =>
    cases ls with
    | nil => exact absurd rfl hl
    | cons s ls => exact ⟨_, _, rfl⟩
  | succ h => exact ⟨_, _, rfl⟩
section
variable {P : Program} {w : World} {K : PySem.W.Frag} {mg : Str → Option Value} {base : Heap}
theorem comma_int {x : V} {i : Nat} (h : ([V.int 2, .int 5, .int 9, .int 11, .int 12, .int 17, .int 18, .int 19, .int 22, .int 23, .int 24, .int 25, .int 29] : List V)[i]? = some x) : ∃ j : Nat, j ∈ commas ∧ x = .int (j : Nat) := by
  have hm : x ∈ commas.map fun j : Nat => V.int (j : Nat) := List.mem_of_getElem? h
  obtain ⟨j, hj, rfl⟩ := List.mem_map.mp hm
  exact ⟨j, hj, rfl⟩
theorem commas_lt : ∀ j ∈ commas, j < 33 := by decide
theorem body_at {j : Nat} (h : j < 33) : ∃ s, body[j]? = some s ∧ s ∈ body := by
  have hb : j < body.length := by rw [body_small.1]; exact h
  exact ⟨body[j], List.getElem?_eq_getElem hb, List.getElem_mem hb⟩
theorem mem0 {j : Nat} {u : String} (hj : j < 33) (hu : u ∈ picksC) : (fault0 j u, j + 1) ∈ faults :=
  List.mem_append_left _ (List.mem_append_left _ (List.mem_append_left _ (List.mem_flatMap.mpr ⟨j, List.mem_range.mpr hj, List.mem_map.mpr ⟨u, hu, rfl⟩⟩)))
theorem mem1 {j : Nat} (hj : j ∈ commas) : (fault1 j, j + 1) ∈ faults :=
  List.mem_append_left _ (List.mem_append_left _ (List.mem_append_right _ (List.mem_map.mpr ⟨j, hj, rfl⟩)))
theorem mem2 : (fault2, 33) ∈ faults := List.mem_append_left _ (List.mem_append_right _ (List.mem_singleton.mpr rfl))
theorem mem3 {u : String} (hu : u ∈ endsC) : (fault3 u, 34) ∈ faults := List.mem_append_right _ (List.mem_map.mpr ⟨u, hu, rfl⟩)
theorem picks_len : ∀ u ∈ picksC, (Str.ofString u).length ≤ 10 := by decide +kernel
theorem ok_faulty {f : Addr} {fd : FuncData} {k : Nat} (F : Fun K "_law_faulty" "_law_faulty" sFaulty f fd) (zLen : mg "len" = none) (DD : Df P w K mg base CX0 (k + 1) "_law_draw" ["state", "many"] spDraw) (DP : Df P w K mg base CX0 (k + 2) "_law_pick" ["state", "row"] (spPick K)) :
    FnOk P w K mg base CX0 (k + 3) f fd ["state", "lines", "head"] spFaulty := by
  obtain ⟨fD, fdD, GD, gD, kD, bD⟩ := DD.ex
  obtain ⟨fP, fdP, GP, gP, kP, bP⟩ := DP.ex
  obtain ⟨oc, od, kV, doc, pm, an, cdv, ct, osl, rfl, lk, hcd⟩ := F.ex
  refine fn_ofT lk hcd scFaulty (by decide +kernel) (by decide) (fun vs H Q E h => ?_) fun A outer s0 H vs Q E hr h => ?_
  · obtain ⟨s, c, pl, h, n, rfl, _⟩ := h
    rfl
  · obtain ⟨s, c, pl, h, n, rfl, hh, hn, hS, hL, q⟩ := h
    have nd := scFaulty.nd
    have hr1 : Room (k + 1) _ := hr.mono (by omega)
    have hd : body ≠ [] := fun z => by
      have := body_small.1
      rw [z] at this
      cases this
    obtain ⟨x0, xs0, ex0⟩ := text_head (n := n) (h := h) hd
    have npl := hS.neT (by rw [hL, ex0])
    refine ⟨_, psst_cons (PST.of (ps_set (i := 3) nd rfl (.inl rfl) (pe_call GD hr1 (by rfl) gD kD bD .nil pass0 (pa_cons (pv 0) (pa_cons pe_int pa_nil)))))
      (psst_cons (PST.of (ps_if (pt_cmpR op_eq (pv 3) pe_int (nomark _)) (pss_cons (ps_set (i := 4) nd rfl (.inl rfl) (pe_op op_add (pv 2) (pe_call GD hr1 (by rfl) gD kD bD .nil pass0 (pa_cons (pv 0) (pa_cons (pe_op op_sub (pe_callB call_len_seq (by rfl) zLen PySem.boot_len (pa_cons (pv 1) pa_nil)) (pv 2)) pa_nil)))))
          (pss_cons (ps_asg (pe_op op_add_str (pe_op op_add_str (pe_call GP hr (by rfl) gP kP bP .nil pass0 (pa_cons (pv 0) (pa_cons (pe_lst (pa_cons pe_str (pa_cons pe_str (pa_cons pe_str (pa_cons pe_str (pa_cons pe_str (pa_cons pe_str (pa_cons pe_str pa_nil)))))))) pa_nil))) pe_str) (pe_ix ix_list (pv 1) (pv 4) (fun _ _ => rfl))) (pg_sub (pv 1) (pv 4) set_list))
          (pss_one (ps_ret (pe_op op_add (pv 4) pe_int))))) pss_nil))
      (psst_cons (CwR.pst_if (pt_cmpR op_eq (pv 3) pe_int (nomark _)) (psst_cons (PST.of (ps_set (i := 4) nd rfl (.inl rfl) (pe_op op_add (pv 2) (pe_call GP hr (by rfl) gP kP bP .nil pass0 (pa_cons (pv 0) (pa_cons (pe_lst (pa_cons pe_int (pa_cons pe_int (pa_cons pe_int (pa_cons pe_int (pa_cons pe_int (pa_cons pe_int (pa_cons pe_int (pa_cons pe_int (pa_cons pe_int (pa_cons pe_int (pa_cons pe_int (pa_cons pe_int (pa_cons pe_int pa_nil)))))))))))))) pa_nil))))))
          (psst_cons (pst_asg (CwR.pet_replC (pe_ix ix_list (pv 1) (pv 4) (fun _ _ => rfl)) (by decide +kernel)) (pg_sub (pv 1) (pv 4) set_list))
          (PSsT.of (pss_one (ps_ret (pe_op op_add (pv 4) pe_int)))))) CwR.psst_nil)
      (PSsT.of (pss_cons (ps_if (pt_cmpR op_eq (pv 3) pe_int (nomark _)) (pss_cons (ps_asg pe_str (pg_sub (pv 1) (pe_op op_add (pv 2) pe_int) set_list)) (pss_one (ps_ret (pe_op op_add (pv 2) pe_int)))) pss_nil)
      (pss_cons (ps_expr (pe_bm PySem.F.plainAttrs_list PySem.F.slot_list_append PySem.F.type_list_append mt_append (pv 1) (pa_cons (pe_call GP hr (by rfl) gP kP bP .nil pass0 (pa_cons (pv 0) (pa_cons (pe_lst (pa_cons pe_str (pa_cons pe_str (pa_cons pe_str (pa_cons pe_str pa_nil))))) pa_nil))) pa_nil)))
      (pss_one (ps_ret (pe_callB call_len_seq (by rfl) zLen PySem.boot_len (pa_cons (pv 1) pa_nil))))))))), ?_⟩
    refine ⟨_, rfl, s, c, 4, rfl, hS, by decide, by decide, fun H1 kd d0 d1 st1 kp1 => ?_⟩
    have hL1 := kp1 _ _ npl.1 npl.2 hL
    have fin : ∀ {H' H2 : Hp} {g : List (List Sy) × Nat} {z : Int}, Kp s c H H2 → StAt H2 s c → g ∈ faults → z = ((h + g.2 : Nat) : Int) → H' = upd H2 pl (.lst (lnV (textL n h g.1))) → Q (.int z) H' := by
      intro H' H2 g z kp st hg hz e
      subst e
      subst hz
      refine q _ g hg upd_same (st.upd npl.1 npl.2) fun b o n1 n2 n3 e => ?_
      rw [upd_ne n3]
      exact kp b o n1 n2 e
    have body_ix : ∀ {j : Nat} {t : List Sy}, body[j]? = some t → j < 33 → ixN (lnV (textL n h body)).length (((h : Nat) : Int) + ((j : Nat) : Int)) = some (h + j) := by
      intro j t _ hj
      rw [lnV_len, body_small.1]
      unfold ixN
      rw [if_pos (by omega), if_pos (by omega)]
      congr 1
    have line_le : ∀ t ∈ body, (S (ex n t)).length ≤ 800 := fun t ht => by
      have := ex_len hn t
      have := body_small.2 t ht
      rw [S_len]
      omega
    refine ⟨_, rfl, rfl, _, rfl, ?_⟩
    rw [dcInt]
    refine iteD (fun e0 => ?_) fun e0 => ?_
    · subst e0
      refine ⟨_, rfl, _, rfl, .ref pl, rfl, pl, _, rfl, .inl (SqL.of hL1), _, rfl, _, _, rfl, rfl, s, c, _, rfl, st1, ?_, ?_, fun H2 r r0 r1 st2 kp2 => ⟨_, _, rfl, rfl, ?_⟩⟩
      · rw [lnV_len, body_small.1]
        omega
      · rw [lnV_len, body_small.1]
        omega
      rw [lnV_len, body_small.1] at r1
      obtain ⟨j, rfl⟩ : ∃ j : Nat, r = (j : Int) := ⟨r.toNat, by omega⟩
      have hj : j < 33 := by omega
      obtain ⟨t, ht, hm⟩ := body_at hj
      have hL2 := kp2 _ _ npl.1 npl.2 hL1
      refine ⟨_, rfl, (by show 7 ≤ sizeLine; decide), fun p hp => ?_⟩
      have hn5 := st2.neS hp
      refine ⟨s, c, p, _, rfl, st2.new hp, SqL.of upd_same, hn5.1, hn5.2, (by show 0 < 7; decide), (by show 7 ≤ 1000; decide), fun H3 i x hx st3 kp3 => ?_⟩
      have hm' : x ∈ picksC.map fun s : String => V.str (Str.ofString s) := List.mem_of_getElem? hx
      obtain ⟨u, hu, rfl⟩ := List.mem_map.mp hm'
      have hL3 := kp3 _ _ npl.1 npl.2 (same_new (o := .lst [.str ")", .str "->", .str "prefix", .str ":", .str "program", .str "= ", .str "<"]) hp _ _ hL2)
      have ul : (Str.ofString u).length ≤ 10 := picks_len u hu
      refine ⟨_, _, rfl, rfl, sizeOk ul (Nat.le_refl _) (by decide +kernel), .ref pl, rfl, _, rfl, pl, _, _, _, rfl, rfl, SqL.of hL3, at_of (j := h + j) (Int.natCast_add h j).symm (lnV_at ht), _, _, rfl, rfl, sizeOk (catLe ul (Nat.le_refl _)) (line_le t hm) (by decide +kernel), .ref pl, rfl, _, rfl, pl, _, _, _, rfl, rfl, hL3, body_ix ht hj, _, rfl, _, _, rfl, rfl, ?_⟩
      have ev : (Str.ofString u ++ Str.ofString " ") ++ S (ex n t) = S (ex n ((C u).map .inl ++ (.inl 32 :: t))) := by
        rw [ofs_S u, show Str.ofString " " = S [32] by decide +kernel, S_cat, S_cat, ex_app, ex_inl, List.append_assoc]
        rfl
      refine fin ((kp1.trans kp2).trans ((Kp.new hp).trans kp3)) st3 (mem0 hj hu) ?_ ?_
      · show _ = ((h + (j + 1) : Nat) : Int)
        omega
      · show _ = upd H3 pl (.lst (lnV (textL n h (body.set j ((C u).map .inl ++ (.inl 32 :: body[j]?.getD []))))))
        rw [ev, lnV_set, ht]
        rfl
    refine ⟨_, rfl, rfl, _, rfl, ?_⟩
    rw [dcInt]
    refine iteD (fun e1 => ?_) fun e1 => ?_
    · subst e1
      refine ⟨_, rfl, _, rfl, (by show 13 ≤ sizeLine; decide), fun p hp => ?_⟩
      have hn5 := st1.neS hp
      refine ⟨s, c, p, _, rfl, st1.new hp, SqL.of upd_same, hn5.1, hn5.2, (by show 0 < 13; decide), (by show 13 ≤ 1000; decide), fun H3 i x hx st3 kp3 => ?_⟩
      obtain ⟨j, hjm, rfl⟩ := comma_int hx
      have hj := commas_lt j hjm
      obtain ⟨t, ht, hm⟩ := body_at hj
      have hL3 := kp3 _ _ npl.1 npl.2 (same_new (o := .lst [V.int 2, .int 5, .int 9, .int 11, .int 12, .int 17, .int 18, .int 19, .int 22, .int 23, .int 24, .int 25, .int 29]) hp _ _ hL1)
      have ll := line_le t hm
      refine ⟨_, _, rfl, rfl, .ref pl, rfl, _, rfl, pl, _, _, _, rfl, rfl, SqL.of hL3, at_of (j := h + j) (Int.natCast_add h j).symm (lnV_at ht), _, rfl, ?_, .ref pl, rfl, _, rfl, pl, _, _, _, rfl, rfl, hL3, body_ix ht hj, _, rfl, _, _, rfl, rfl, ?_⟩
      · rw [show (Str.ofString ",").length = 1 by decide +kernel]
        omega
      refine fin (kp1.trans ((Kp.new hp).trans kp3)) st3 (mem1 hjm) ?_ ?_
      · show _ = ((h + (j + 1) : Nat) : Int)
        omega
      · show _ = upd H3 pl (.lst (lnV (textL n h (body.set j (comma (body[j]?.getD []))))))
        rw [repl_line hn, lnV_set, ht]
        rfl
    refine ⟨_, rfl, rfl, _, rfl, ?_⟩
    rw [dcInt]
    refine iteD (fun e2 => ?_) fun e2 => ?_
    · obtain ⟨t, ht, hm⟩ := body_at (show 31 < 33 by decide)
      refine ⟨.ref pl, rfl, _, rfl, _, _, rfl, rfl, pl, _, _, _, rfl, rfl, hL1, body_ix (j := 31) ht (by decide), _, rfl, _, _, rfl, rfl, ?_⟩
      refine fin kp1 st1 mem2 ?_ ?_
      · show _ = ((h + 33 : Nat) : Int)
        omega
      · show _ = upd H1 pl (.lst (lnV (textL n h (body.set 31 []))))
        have e : Str.ofString "" = S (ex n []) := by
          show _ = S []
          decide +kernel
        rw [e, lnV_set]
    refine ⟨.ref pl, rfl, .inl ⟨rfl, _, SqL.of hL1⟩, _, rfl, (by show 4 ≤ sizeLine; decide), fun p hp => ?_⟩
    have hn5 := st1.neS hp
    refine ⟨s, c, p, _, rfl, st1.new hp, SqL.of upd_same, hn5.1, hn5.2, (by show 0 < 4; decide), (by show 4 ≤ 1000; decide), fun H3 i x hx st3 kp3 => ?_⟩
    have hm' : x ∈ endsC.map fun s : String => V.str (Str.ofString s) := List.mem_of_getElem? hx
    obtain ⟨u, hu, rfl⟩ := List.mem_map.mp hm'
    have hL3 := kp3 _ _ npl.1 npl.2 (same_new (o := .lst [V.str "}", .str "emit a;", .str "7", .str "apply t;"]) hp _ _ hL1)
    refine ⟨pl, _, _, rfl, rfl, hL3, ?_, .ref pl, rfl, pl, _, rfl, .inl (SqL.of upd_same), ?_⟩
    · rw [lnV_len, body_small.1]
      exact small_len (by omega)
    refine fin (kp1.trans ((Kp.new hp).trans kp3)) st3 (mem3 hu) ?_ ?_
    · show _ = ((h + 34 : Nat) : Int)
      rw [List.length_append, lnV_len, body_small.1]
      rfl
    · show _ = upd H3 pl (.lst (lnV (textL n h (body ++ [(C u).map .inl]))))
      rw [← lnV_end, ex_inl, ← ofs_S]
end
end Pk
set_option Elab.async false
set_option linter.all false
set_option maxRecDepth 100000
set_option maxHeartbeats 4000000
namespace Pk
open PySem PySem.Spec PyProof.Rows L2 SX Tk
theorem op_mulS0 {X : Cx} : OpR X (binaryOp .Mult) (fun x y H Q => ∃ (l : List Nat) (n : Nat), x = .str (S l) ∧ y = .int n ∧ n ≤ 1000 ∧ l.length ≤ 1000 ∧ Q (.str (S (List.replicate n l).flatten)) H) := by
  intro pins s σ H x y v u Q I rx ry h
  obtain ⟨l, n, rfl, rfl, h2, h3, q⟩ := h
  by_cases h1 : 1 ≤ n
  · exact op_mulS pins s σ H _ _ v u Q I rx ry ⟨l, n, rfl, rfl, h1, h2, h3, q⟩
  · obtain rfl : n = 0 := by omega
    obtain ⟨t, rfl⟩ := rx
    obtain ⟨t', rfl⟩ := ry
    exact P.mul_str_none (by decide) (by decide) ⟨.str _, H, I.tok _, ⟨_, rfl⟩, q⟩
end Pk
set_option Elab.async false
set_option linter.all false
set_option maxRecDepth 100000
set_option maxHeartbeats 4000000
namespace Pk
open PySem PySem.Spec PyProof.Rows L2 SX GxR Tk PySem.ErX
abbrev sNested : Stmt := topS 68
abbrev sLaw : Stmt := topS 69
abbrev NNe : List Str := ["blocks", "nots", "first", "k"]
abbrev NLw : List Str := ["script", "state", "lines", "head", "line", "nots"]
theorem scNested : FnScope NNe ["blocks", "nots"] (defScope sNested) := ⟨rfl, rfl, rfl, by decide +kernel, rfl, by decide +kernel, by decide +kernel⟩
theorem scLaw : FnScope NLw ["script"] (defScope sLaw) := ⟨rfl, rfl, rfl, by decide +kernel, rfl, by decide +kernel, by decide +kernel⟩
theorem iteNE {x y : V} {A B : Prop} (h : x = y) (b : B) : if (!decide (x = y)) = true then A else B := by
  rw [decide_eq_true h]
  exact b
theorem cn_any (ls : List (List Sy)) : lnV (textL cn 0 ls) = ls.map fun s => V.str (S (ex cn s)) := by
  unfold lnV textL
  rw [List.replicate_zero, List.nil_append, List.map_map]
  rfl
def spNested : Sp := fun vs H Q _ => ∃ (b m : Nat), vs = [.int b, .int m] ∧ 1 ≤ b ∧ b ≤ 9 ∧ m ≤ 9 ∧ ∀ H' p, Same H H' → H p = none → H' p = some (.lst (lnV (textL cn 0 (nested b m)))) → Q (.ref p) H'
def spLaw (K : PySem.W.Frag) (Pt : Addr) : Sp := fun vs H Q _ => ∃ (a : Addr) (ns : List Int), vs = [.ref a] ∧ SqL K H a (ns.map V.int) ∧ ns.length ≤ 63 ∧ TabG H Pt ∧ ∀ H', Q (.bl true) H'
section
variable {P : Program} {w : World} {K : PySem.W.Frag} {mg : Str → Option Value} {base : Heap}
theorem ok_nested {f : Addr} {fd : FuncData} {k : Nat} (F : Fun K "_law_nested" "_law_nested" sNested f fd) (zRange : mg "range" = none) : FnOk P w K mg base CX0 (k + 1) f fd ["blocks", "nots"] spNested := by
  refine F.ok scNested (fun vs H Q E h => ?_) (fun cdv A outer s0 H vs Q E hr h => ?_)
  · obtain ⟨b, m, rfl, _⟩ := h
    rfl
  · obtain ⟨b, m, rfl, hb0, hb, hm, q⟩ := h
    have nd := scNested.nd
    refine ⟨_, pss_cons (ps_set (i := 2) nd rfl (.inl rfl) (pe_op op_cat (pe_lst (pa_cons pe_str (pa_cons pe_str (pa_cons pe_str pa_nil))))
        (pe_lc (own := [("k", 3)]) (g := gName 3) (tt := tYes) rfl nd (pi_range1 (by rfl) zRange (pa_cons (pe_op op_sub (pv 0) pe_int) pa_nil)) (blkOk_by (N := NNe) (sc := defScope sNested) (by decide +kernel)) (fun _ _ _ _ _ => pg_name (i := 3) nd rfl (Or.inl rfl)) (fun _ _ _ _ _ => pts_nil)
          (fun _ _ _ _ _ => pe_op op_add_str (pe_op op_add_str pe_str (pe_op op_mulS0 pe_str (pv 1))) pe_str))))
      (pss_one (ps_ret (pe_op op_cat (pv 2) (pe_lc (own := [("k", 3)]) (g := gName 3) (tt := tYes) rfl nd (pi_range1 (by rfl) zRange (pa_cons (pv 0) pa_nil)) (blkOk_by (N := NNe) (sc := defScope sNested) (by decide +kernel)) (fun _ _ _ _ _ => pg_name (i := 3) nd rfl (Or.inl rfl)) (fun _ _ _ _ _ => pts_nil)
          (fun _ _ _ _ _ => pe_str))))), ?_⟩
    have n_code : Str.ofString "not " = S (C "not ") := ofs_S _
    refine ⟨(by show 3 ≤ sizeLine; decide), fun p0 hp0 => ⟨_, rfl, _, _, rfl, rfl, _, rfl, by omega, by omega, fun D hD => ?_⟩⟩
    have hbn : (((b : Nat) : Int) - 1).toNat = b - 1 := by omega
    have H0 : (upd H p0 (.lst [V.str "program p", .str "parser { }", .str "control {"])) p0 = some (.lst [V.str "program p", .str "parser { }", .str "control {"]) := upd_same
    have s0 : Same H (upd H p0 (.lst [V.str "program p", .str "parser { }", .str "control {"])) := same_new hp0
    refine lc_range (lo := 0) (n := (((b : Nat) : Int) - 1).toNat) (fun i H2 => Same H H2 ∧ H2 p0 = some (.lst [V.str "program p", .str "parser { }", .str "control {"]) ∧ H2 D = some (.lst (List.replicate i (V.str (S (C "if " ++ rep m "not " ++ C "valid h {"))))))
      ⟨s0.trans (same_new hD), (same_new hD) _ _ H0, upd_same⟩ ?_ ?_
    · rintro i H2 hi ⟨sm, e0, e1⟩
      have hrl : (rep m "not ").length = 4 * m := by
        unfold rep
        rw [show (C "not ") = [110, 111, 116, 32] by decide +kernel]
        simp
        omega
      refine ⟨rfl, _, rfl, C "not ", m, congrArg V.str n_code, rfl, by omega, by decide +kernel, _, _, rfl, rfl, ?_, _, _, rfl, rfl, ?_, _, e1, ?_, ?_⟩
      · rw [show (Str.ofString "if ").length = 3 by decide +kernel, S_len, sizeLine_eq]
        show 3 + (rep m "not ").length ≤ _
        omega
      · rw [ofs_S "if ", S_cat, S_len, List.length_append, show (C "if ").length = 3 by decide +kernel, show (Str.ofString "valid h {").length = 9 by decide +kernel, sizeLine_eq]
        show 3 + (rep m "not ").length + 9 ≤ _
        omega
      · rw [List.length_replicate]
        exact small_len (by omega)
      · refine ⟨fun b o e => ?_, ?_, ?_⟩
        · rw [upd_ne (ne_of_none (s0 _ _ e) hD)]
          exact sm b o e
        · rw [upd_ne (ne_of_none H0 hD)]
          exact e0
        · rw [upd_same, ofs_S "if ", S_cat, ofs_S "valid h {", S_cat]
          exact congrArg (fun x => some (HO.lst x)) List.replicate_succ'.symm
    rintro H2 ⟨sm, e0, e1⟩
    rw [hbn] at e1
    refine ⟨p0, D, _, _, rfl, rfl, e0, e1, ?_, fun p hp => ?_⟩
    · rw [List.length_replicate, sizeLine_eq]
      show 3 + _ ≤ _
      omega
    have s2 := sm.trans (same_new (o := .lst ([V.str "program p", .str "parser { }", .str "control {"] ++ List.replicate (b - 1) (V.str (S (C "if " ++ rep m "not " ++ C "valid h {"))))) hp)
    have e2 : (upd H2 p (.lst ([V.str "program p", .str "parser { }", .str "control {"] ++ List.replicate (b - 1) (V.str (S (C "if " ++ rep m "not " ++ C "valid h {")))))) p = _ := upd_same
    generalize upd H2 p (.lst ([V.str "program p", .str "parser { }", .str "control {"] ++ List.replicate (b - 1) (V.str (S (C "if " ++ rep m "not " ++ C "valid h {"))))) = H3 at s2 e2 ⊢
    refine ⟨_, rfl, _, rfl, _, rfl, by omega, by omega, fun D2 hD2 => ?_⟩
    refine lc_range (lo := 0) (n := ((b : Nat) : Int).toNat) (fun i H4 => Same H3 H4 ∧ H4 D2 = some (.lst (List.replicate i (V.str "}")))) ⟨same_new hD2, upd_same⟩ ?_ ?_
    · rintro i H4 hi ⟨sm, e4⟩
      refine ⟨rfl, ⟨_, e4, ?_, fun b o e => ?_, ?_⟩⟩
      · rw [List.length_replicate]
        exact small_len (by omega)
      · rw [upd_ne (ne_of_none e hD2)]
        exact sm b o e
      · rw [upd_same]
        exact congrArg (fun x => some (HO.lst x)) List.replicate_succ'.symm
    rintro H4 ⟨sm4, e4⟩
    rw [Int.toNat_natCast] at e4
    refine ⟨p, D2, _, _, rfl, rfl, sm4 _ _ e2, e4, ?_, fun p5 hp5 => ?_⟩
    · rw [List.length_append, List.length_replicate, List.length_replicate, sizeLine_eq]
      show 3 + _ + _ ≤ _
      omega
    have s5 := (s2.trans sm4).trans (same_new (o := .lst ([V.str "program p", .str "parser { }", .str "control {"] ++ List.replicate (b - 1) (V.str (S (C "if " ++ rep m "not " ++ C "valid h {"))) ++ List.replicate b (V.str "}"))) hp5)
    refine q _ p5 s5 ((s2.trans sm4).free hp5) ?_
    rw [upd_same, cn_any]
    unfold nested
    rw [List.map_append, List.map_append, List.map_replicate, List.map_replicate, ex_inl, ex_inl, ← ofs_S "}"]
    rw [List.map_cons, List.map_cons, List.map_cons, List.map_nil, ex_inl, ex_inl, ex_inl, ← ofs_S, ← ofs_S, ← ofs_S]
theorem outP_err (t : List Nat) : outP (progT t) = ((errL (bd (toksT 1 t) mProgram) : Nat) : Int) := by
  unfold progT
  cases toksT 1 t with
  | error l => rfl
  | ok ts =>
    rw [bd_ok, bd_ok]
    cases mProgram ts with
    | error l => rfl
    | ok p => rfl
theorem out_lines {n : Nat → List Nat} (hn : ∀ i, GoodN (n i)) (h : Nat) {ls : List (List Sy)} (ok : ls.all okS = true) : outP (progT (joinL (textL n h ls))) = ((Fm h (errS ls) : Nat) : Int) := by
  rw [outP_err, err_text hn h ok]
theorem nest_len {b m e : Nat} (hm : (nested b m, e) ∈ nests) : (joinL (textL cn 0 (nested b m))).length ≤ 1000000 := by
  have sm := nests_small _ hm
  exact join_len cn_good (by decide) sm.1 sm.2
theorem out0 {b m e : Nat} (hm : (nested b m, e) ∈ nests) : outP (progT (joinL (textL cn 0 (nested b m)))) = ((e : Nat) : Int) := by
  have ok := nests_ok _ hm
  rw [out_lines cn_good 0 ok.1, ok.2]
  have : Fm 0 e = e := by
    unfold Fm
    split
    · omega
    · rfl
  rw [this]
theorem faults_pos : ∀ f ∈ faults, 0 < f.2 := by decide +kernel
theorem ok_law {f Pt : Addr} {fd : FuncData} (F : Fun K "law" "law" sLaw f fd) (D1 : Df P w K mg base CX0 1 "_law_state" ["script"] (spState K)) (D2 : Df P w K mg base CX0 1 "_law_draw" ["state", "many"] spDraw)
    (D3 : Df P w K mg base CX0 4 "_law_lines" ["state"] (spLines K)) (D4 : Df P w K mg base CX0 3 "_law_faulty" ["state", "lines", "head"] spFaulty) (D5 : Df P w K mg base CX0 1 "_law_nested" ["blocks", "nots"] spNested) (D6 : Df P w K mg base CX0 27 "_law_outcome" ["lines"] (spOutcome K Pt)) :
    FnOk P w K mg base CX0 28 f fd ["script"] (spLaw K Pt) := by
  obtain ⟨f1, fd1, G1, g1, k1, b1⟩ := D1.ex
  obtain ⟨f2, fd2, G2, g2, k2, b2⟩ := D2.ex
  obtain ⟨f3, fd3, G3, g3, k3, b3⟩ := D3.ex
  obtain ⟨f4, fd4, G4, g4, k4, b4⟩ := D4.ex
  obtain ⟨f5, fd5, G5, g5, k5, b5⟩ := D5.ex
  obtain ⟨f6, fd6, G6, g6, k6, b6⟩ := D6.ex
  refine F.ok scLaw (fun vs H Q E h => ?_) (fun cdv A outer s0 H vs Q E hr h => ?_)
  · obtain ⟨a, ns, rfl, _⟩ := h
    rfl
  · obtain ⟨a, ns, rfl, hS, hn, tg, q⟩ := h
    have nd := scLaw.nd
    have hr4 : Room 4 _ := hr.mono (by omega)
    have hr3 : Room 3 _ := hr.mono (by omega)
    have hr1 : Room 1 _ := hr.mono (by omega)
    refine ⟨_, pss_cons (ps_set (i := 1) nd rfl (.inl rfl) (pe_call G1 hr1 (by rfl) g1 k1 b1 .nil pass0 (pa_cons (pv 0) pa_nil)))
      (pss_cons (ps_asg (pe_call G3 hr4 (by rfl) g3 k3 b3 .nil pass0 (pa_cons (pv 1) pa_nil)) (pg_unl rfl (pgs_cons (pg_name (i := 2) nd rfl (.inl rfl)) (pgs_cons (pg_name (i := 3) nd rfl (.inl rfl)) pgs_nil))))
      (pss_cons (ps_if (pt_cmpR op_ne (pe_call G6 hr (by rfl) g6 k6 b6 .nil pass0 (pa_cons (pv 2) pa_nil)) pe_int (nomark _)) (pss_one (ps_ret pe_bl)) pss_nil)
      (pss_cons (ps_set (i := 4) nd rfl (.inl rfl) (pe_call G4 hr3 (by rfl) g4 k4 b4 .nil pass0 (pa_cons (pv 1) (pa_cons (pv 2) (pa_cons (pv 3) pa_nil)))))
      (pss_cons (ps_if (pt_cmpR op_ne (pe_call G6 hr (by rfl) g6 k6 b6 .nil pass0 (pa_cons (pv 2) pa_nil)) (pv 4) (nomark _)) (pss_one (ps_ret pe_bl)) pss_nil)
      (pss_cons (ps_set (i := 5) nd rfl (.inl rfl) (pe_call G2 hr1 (by rfl) g2 k2 b2 .nil pass0 (pa_cons (pv 1) (pa_cons pe_int pa_nil))))
      (pss_cons (ps_if (PW.pt (pw_or (pt_cmpR op_ne (pe_call G6 hr (by rfl) g6 k6 b6 .nil pass0 (pa_cons (pe_call G5 hr1 (by rfl) g5 k5 b5 .nil pass0 (pa_cons pe_int (pa_cons (pv 5) pa_nil))) pa_nil)) pe_int (nomark _))
          (pw_or1 (pt_cmpR op_ne (pe_call G6 hr (by rfl) g6 k6 b6 .nil pass0 (pa_cons (pe_call G5 hr1 (by rfl) g5 k5 b5 .nil pass0 (pa_cons pe_int (pa_cons (pv 5) pa_nil))) pa_nil)) pe_int (nomark _))))) (pss_one (ps_ret pe_bl)) pss_nil)
      (pss_one (ps_ret (pe_cmpR op_eq (pe_call G6 hr (by rfl) g6 k6 b6 .nil pass0 (pa_cons (pe_call G5 hr1 (by rfl) g5 k5 b5 .nil pass0 (pa_cons (pe_op op_add pe_int (pe_call G2 hr1 (by rfl) g2 k2 b2 .nil pass0 (pa_cons (pv 1) (pa_cons pe_int pa_nil)))) (pa_cons pe_int pa_nil))) pa_nil)) pe_int (nomark _)))))))))), ?_⟩
    refine ⟨_, rfl, a, ns, rfl, hS, hn, fun H1 s c s1 _ _ st1 => ?_⟩
    have tg1 := tab_same tg s1
    refine ⟨_, rfl, s, c, rfl, st1, fun H2 p pl h n hh hn hp hL st2 kp2 => ⟨p, _, rfl, SqL.of hp, rfl, _, _, rfl, _, _, rfl, rfl, ?_⟩⟩
    have tg2 := tab_kp tg1 st1 kp2
    have hd : body ≠ [] := fun z => by
      have := body_small.1
      rw [z] at this
      cases this
    obtain ⟨x0, xs0, ex0⟩ := text_head (n := n) (h := h) hd
    refine ⟨_, rfl, pl, _, rfl, SqL.of hL, join_len hn hh (by rw [body_small.1]; decide) body_small.2, tg2, fun H3 sm3 tg3 => ?_⟩
    rw [out_lines hn h body_ok.1, body_ok.2]
    refine ⟨rfl, _, rfl, iteNE rfl ?_⟩
    have st3 := st2.sm sm3
    have hL3 := sm3 _ _ (fun _ z => by cases z) hL
    refine ⟨_, rfl, _, rfl, _, rfl, s, c, pl, h, n, rfl, hh, hn, st3, hL3, fun H4 g hg hL4 st4 kp4 => ?_⟩
    have tg4 : TabG H4 Pt := by
      obtain ⟨ps, e1, e2⟩ := tg3
      have q1 := st3
      obtain ⟨cells, seed, h1, h2, _⟩ := q1
      exact ⟨ps, kp4 _ _ (fun z => by rw [z, h1] at e1; cases e1) (fun z => by rw [z, h2] at e1; cases e1) (fun z => by rw [z, hL3] at e1; cases e1) e1, e2⟩
    obtain ⟨ok1, ok2⟩ := faults_ok g hg
    have sm1 := faults_small g hg
    refine ⟨_, rfl, pl, _, rfl, SqL.of hL4, join_len hn hh sm1.1 sm1.2, tg4, fun H5 sm5 tg5 => ?_⟩
    rw [out_lines hn h ok1, ok2, ← Fm_pos (faults_pos g hg), Nat.add_comm g.2 h]
    refine ⟨_, rfl, rfl, _, rfl, iteNE rfl ?_⟩
    have st5 := st4.sm sm5
    refine ⟨_, rfl, s, c, 9, rfl, st5, by decide, by decide, fun H6 r r0 r1 st6 kp6 => ?_⟩
    have tg6 := tab_kp tg5 st5 kp6
    obtain ⟨m, rfl⟩ : ∃ m : Nat, r = (m : Int) := ⟨r.toNat, by omega⟩
    have hm : m < 9 := by omega
    have hm8 : (nested 8 m, 0) ∈ nests := List.mem_append_left _ (List.mem_append_left _ (List.mem_map.mpr ⟨m, List.mem_range.mpr hm, rfl⟩))
    have hm9 : (nested 9 m, 11) ∈ nests := List.mem_append_left _ (List.mem_append_right _ (List.mem_map.mpr ⟨m, List.mem_range.mpr hm, rfl⟩))
    refine ⟨_, rfl, 8, m, rfl, by decide, by decide, by omega, fun H7 p7 s7 n7 hp7 => ?_⟩
    refine ⟨p7, _, rfl, SqL.of hp7, nest_len hm8, tab_same tg6 s7, fun H8 sm8 tg8 => ?_⟩
    rw [out0 hm8]
    refine ⟨rfl, _, rfl, iteNE rfl ?_⟩
    refine ⟨_, rfl, 9, m, rfl, by decide, by decide, by omega, fun H9 p9 s9 n9 hp9 => ?_⟩
    refine ⟨p9, _, rfl, SqL.of hp9, nest_len hm9, tab_same tg8 s9, fun H10 sm10 tg10 => ?_⟩
    rw [out0 hm9]
    refine ⟨rfl, _, rfl, iteNE rfl ?_⟩
    have st10 := (((st6.same s7).sm sm8).same s9).sm sm10
    refine ⟨_, rfl, s, c, 7, rfl, st10, by decide, by decide, fun H11 r r0 r1 st11 kp11 => ?_⟩
    have tg11 := tab_kp tg10 st10 kp11
    obtain ⟨j, rfl⟩ : ∃ j : Nat, r = (j : Int) := ⟨r.toNat, by omega⟩
    have hj : j < 7 := by omega
    have hmj : (nested (2 + j) 9, 4) ∈ nests := List.mem_append_right _ (List.mem_map.mpr ⟨j, List.mem_range.mpr hj, rfl⟩)
    refine ⟨_, _, rfl, rfl, 2 + j, 9, ?_, by omega, by omega, by decide, fun H12 p12 s12 n12 hp12 => ?_⟩
    · exact congrArg (fun z : Int => [V.int z, V.int 9]) (Int.natCast_add 2 j).symm
    refine ⟨p12, _, rfl, SqL.of hp12, nest_len hmj, tab_same tg11 s12, fun H13 sm13 tg13 => ?_⟩
    rw [out0 hmj]
    exact ⟨rfl, q _⟩
end
end Pk
set_option Elab.async false
set_option linter.all false
set_option maxRecDepth 100000
set_option maxHeartbeats 8000000
namespace Pk
open PySem PySem.Spec PyProof.Rows L2 SX GxR Tk PySem.ErX
theorem atd_mk {K : PySem.W.Frag} {h : Heap} {mg : Str → Option Value} {x : Str} {st : Stmt} {ps : List Str} {f : Addr} {oc : Value} {od an : Option Addr} {osl : Array (Option Value)} {kV doc pm cdv ct : Value} (X : K.In h) (G : h.Ns mainGlobals mg)
    (a : PySem.W.nsIn K mainGlobals x = some (some (.ref f))) (l : K.lookup f = some ⟨oc, od, .func (PySem.W.fnOf x x (defArgs st) (defBody st) (defScope st) .none kV doc pm an cdv ct), osl⟩)
    (c : PySem.W.codeIn K cdv x = true) (k : PySem.W.keepIn K (.ref f) = true)
    (hb : ∀ (kV doc pm : Value) (an : Option Addr) (cdv ct : Value) (us : List Value), us.length = ps.length → bindArgs (PySem.W.fnOf x x (defArgs st) (defBody st) (defScope st) .none kV doc pm an cdv ct) ⟨us, []⟩ = pure (ps.zip us)) : AtD K mg x st ps :=
  ⟨f, _, fun_mk l c k, PySem.W.mg_of X G a, (fun_mk l c k).binds hb⟩
theorem all_mk {P : Program} {w : World} {K : PySem.W.Frag} {h : Heap} {mg : Str → Option Value} {q : Program} {fa : Addr}
    {f0 : Addr} {oc0 : Value} {od0 an0 : Option Addr} {osl0 : Array (Option Value)} {kV0 doc0 pm0 ct0 : Value}
    {cd0 : Value}
    {f1 : Addr} {oc1 : Value} {od1 an1 : Option Addr} {osl1 : Array (Option Value)} {kV1 doc1 pm1 ct1 : Value}
    {cd1 : Value}
    {f2 : Addr} {oc2 : Value} {od2 an2 : Option Addr} {osl2 : Array (Option Value)} {kV2 doc2 pm2 ct2 : Value}
    {cd2 : Value}
    {f3 : Addr} {oc3 : Value} {od3 an3 : Option Addr} {osl3 : Array (Option Value)} {kV3 doc3 pm3 ct3 : Value}
    {cd3 : Value}
    {f4 : Addr} {oc4 : Value} {od4 an4 : Option Addr} {osl4 : Array (Option Value)} {kV4 doc4 pm4 ct4 : Value}
    {cd4 : Value}
    {f5 : Addr} {oc5 : Value} {od5 an5 : Option Addr} {osl5 : Array (Option Value)} {kV5 doc5 pm5 ct5 : Value}
    {cd5 : Value}
    {f6 : Addr} {oc6 : Value} {od6 an6 : Option Addr} {osl6 : Array (Option Value)} {kV6 doc6 pm6 ct6 : Value}
    {cd6 : Value}
    {f7 : Addr} {oc7 : Value} {od7 an7 : Option Addr} {osl7 : Array (Option Value)} {kV7 doc7 pm7 ct7 : Value}
    {cd7 : Value}
    {f8 : Addr} {oc8 : Value} {od8 an8 : Option Addr} {osl8 : Array (Option Value)} {kV8 doc8 pm8 ct8 : Value}
    {cd8 : Value}
    {f9 : Addr} {oc9 : Value} {od9 an9 : Option Addr} {osl9 : Array (Option Value)} {kV9 doc9 pm9 ct9 : Value}
    {cd9 : Value}
    {f10 : Addr} {oc10 : Value} {od10 an10 : Option Addr} {osl10 : Array (Option Value)} {kV10 doc10 pm10 ct10 : Value}
    {cd10 : Value}
    {f11 : Addr} {oc11 : Value} {od11 an11 : Option Addr} {osl11 : Array (Option Value)} {kV11 doc11 pm11 ct11 : Value}
    {cd11 : Value}
    {f12 : Addr} {oc12 : Value} {od12 an12 : Option Addr} {osl12 : Array (Option Value)} {kV12 doc12 pm12 ct12 : Value}
    {cd12 : Value}
    {f13 : Addr} {oc13 : Value} {od13 an13 : Option Addr} {osl13 : Array (Option Value)} {kV13 doc13 pm13 ct13 : Value}
    {cd13 : Value}
    {f14 : Addr} {oc14 : Value} {od14 an14 : Option Addr} {osl14 : Array (Option Value)} {kV14 doc14 pm14 ct14 : Value}
    {cd14 : Value}
    {f15 : Addr} {oc15 : Value} {od15 an15 : Option Addr} {osl15 : Array (Option Value)} {kV15 doc15 pm15 ct15 : Value}
    {cd15 : Value}
    {f16 : Addr} {oc16 : Value} {od16 an16 : Option Addr} {osl16 : Array (Option Value)} {kV16 doc16 pm16 ct16 : Value}
    {cd16 : Value}
    {f17 : Addr} {oc17 : Value} {od17 an17 : Option Addr} {osl17 : Array (Option Value)} {kV17 doc17 pm17 ct17 : Value}
    {cd17 : Value}
    {f18 : Addr} {oc18 : Value} {od18 an18 : Option Addr} {osl18 : Array (Option Value)} {kV18 doc18 pm18 ct18 : Value}
    {cd18 : Value}
    {f19 : Addr} {oc19 : Value} {od19 an19 : Option Addr} {osl19 : Array (Option Value)} {kV19 doc19 pm19 ct19 : Value}
    {cd19 : Value}
    {f20 : Addr} {oc20 : Value} {od20 an20 : Option Addr} {osl20 : Array (Option Value)} {kV20 doc20 pm20 ct20 : Value}
    {cd20 : Value}
    {f21 : Addr} {oc21 : Value} {od21 an21 : Option Addr} {osl21 : Array (Option Value)} {kV21 doc21 pm21 ct21 : Value}
    {cd21 : Value}
    {f22 : Addr} {oc22 : Value} {od22 an22 : Option Addr} {osl22 : Array (Option Value)} {kV22 doc22 pm22 ct22 : Value}
    {cd22 : Value}
    {f23 : Addr} {oc23 : Value} {od23 an23 : Option Addr} {osl23 : Array (Option Value)} {kV23 doc23 pm23 ct23 : Value}
    {cd23 : Value}
    {f24 : Addr} {oc24 : Value} {od24 an24 : Option Addr} {osl24 : Array (Option Value)} {kV24 doc24 pm24 ct24 : Value}
    {cd24 : Value}
    {f25 : Addr} {oc25 : Value} {od25 an25 : Option Addr} {osl25 : Array (Option Value)} {kV25 doc25 pm25 ct25 : Value}
    {cd25 : Value}
    {f26 : Addr} {oc26 : Value} {od26 an26 : Option Addr} {osl26 : Array (Option Value)} {kV26 doc26 pm26 ct26 : Value}
    {cd26 : Value}
    {f27 : Addr} {oc27 : Value} {od27 an27 : Option Addr} {osl27 : Array (Option Value)} {kV27 doc27 pm27 ct27 : Value}
    {cd27 : Value}
    {f28 : Addr} {oc28 : Value} {od28 an28 : Option Addr} {osl28 : Array (Option Value)} {kV28 doc28 pm28 ct28 : Value}
    {cd28 : Value}
    {f29 : Addr} {oc29 : Value} {od29 an29 : Option Addr} {osl29 : Array (Option Value)} {kV29 doc29 pm29 ct29 : Value}
    {cd29 : Value}
    {f30 : Addr} {oc30 : Value} {od30 an30 : Option Addr} {osl30 : Array (Option Value)} {kV30 doc30 pm30 ct30 : Value}
    {cd30 : Value}
    {f31 : Addr} {oc31 : Value} {od31 an31 : Option Addr} {osl31 : Array (Option Value)} {kV31 doc31 pm31 ct31 : Value}
    {cd31 : Value}
    {f32 : Addr} {oc32 : Value} {od32 an32 : Option Addr} {osl32 : Array (Option Value)} {kV32 doc32 pm32 ct32 : Value}
    {cd32 : Value}
    {f33 : Addr} {oc33 : Value} {od33 an33 : Option Addr} {osl33 : Array (Option Value)} {kV33 doc33 pm33 ct33 : Value}
    {cd33 : Value}
    {f34 : Addr} {oc34 : Value} {od34 an34 : Option Addr} {osl34 : Array (Option Value)} {kV34 doc34 pm34 ct34 : Value}
    {cd34 : Value}
    {f35 : Addr} {oc35 : Value} {od35 an35 : Option Addr} {osl35 : Array (Option Value)} {kV35 doc35 pm35 ct35 : Value}
    {cd35 : Value}
    {f36 : Addr} {oc36 : Value} {od36 an36 : Option Addr} {osl36 : Array (Option Value)} {kV36 doc36 pm36 ct36 : Value}
    {cd36 : Value}
    {f37 : Addr} {oc37 : Value} {od37 an37 : Option Addr} {osl37 : Array (Option Value)} {kV37 doc37 pm37 ct37 : Value}
    {cd37 : Value}
    {f38 : Addr} {oc38 : Value} {od38 an38 : Option Addr} {osl38 : Array (Option Value)} {kV38 doc38 pm38 ct38 : Value}
    {cd38 : Value}
    {f39 : Addr} {oc39 : Value} {od39 an39 : Option Addr} {osl39 : Array (Option Value)} {kV39 doc39 pm39 ct39 : Value}
    {cd39 : Value}
    {f40 : Addr} {oc40 : Value} {od40 an40 : Option Addr} {osl40 : Array (Option Value)} {kV40 doc40 pm40 ct40 : Value}
    {cd40 : Value}
    {f41 : Addr} {oc41 : Value} {od41 an41 : Option Addr} {osl41 : Array (Option Value)} {kV41 doc41 pm41 ct41 : Value}
    {cd41 : Value}
    {f42 : Addr} {oc42 : Value} {od42 an42 : Option Addr} {osl42 : Array (Option Value)} {kV42 doc42 pm42 ct42 : Value}
    {cd42 : Value}
    {f43 : Addr} {oc43 : Value} {od43 an43 : Option Addr} {osl43 : Array (Option Value)} {kV43 doc43 pm43 ct43 : Value}
    {cd43 : Value}
    {f44 : Addr} {oc44 : Value} {od44 an44 : Option Addr} {osl44 : Array (Option Value)} {kV44 doc44 pm44 ct44 : Value}
    {uLET : Value}
    {uDIG : Value}
    {uHEX : Value}
    {uLNM : Value}
    {uMDG : Value}
    {uMHX : Value}
    {uGRT : Value}
    {uMBL : Value}
    {uMNO : Value}
    {pRES : Addr} {oRES : Option Addr} {iRES : Array Value} {nRES : Nat} {sRES : Array (Option Value)}
    {pLNG : Addr} {oLNG : Option Addr} {iLNG : Array Value} {nLNG : Nat} {sLNG : Array (Option Value)}
    {pSHT : Addr} {oSHT : Option Addr} {iSHT : Array Value} {nSHT : Nat} {sSHT : Array (Option Value)}
    {pEND : Addr} {oEND : Option Addr} {iEND : Array Value} {nEND : Nat} {sEND : Array (Option Value)}
    {pOWN : Addr} {oOWN : Option Addr} {iOWN : Array Value} {nOWN : Nat} {sOWN : Array (Option Value)}
    {pOPS : Addr} {oOPS : Option Addr} {iOPS : Array Value} {nOPS : Nat} {sOPS : Array (Option Value)}
    {pKEY : Addr} {oKEY : Option Addr} {iKEY : Array Value} {nKEY : Nat} {sKEY : Array (Option Value)}
    {pCMP : Addr} {oCMP : Option Addr} {iCMP : Array Value} {nCMP : Nat} {sCMP : Array (Option Value)}
    {cT0 Pt : Addr} {dr : DefRec}
    {cT fIT cdaT ccT : Addr} {nmT qnT : Str} {NT : Addr} {bsT bmT : List Value} {snT : List Str} {subT : List Value} {abT : Bool} {colT : Option Bool} {ddT : Option Addr} {m0T m1T m2T m3T m5T : Option Value}
    {ocT docT pmT ctT cclT clT : Value} {odT anT cddT cldT : Option Addr} {oslT ccsT cslT : Array (Option Value)} {vsT : Array Value} {fileT : Str} {tfT : PySem.Tok} {a1T a2T b1T b2T b3T b4T b5T b6T b7T b8T b9T d1T d2T d3T d4T : Pos}
    {cRd : Addr}
    {fM0 : Addr} {ocM0 : Value} {odM0 anM0 : Option Addr} {oslM0 : Array (Option Value)} {kVM0 docM0 pmM0 cdM0 ctM0 : Value}
    {fM1 : Addr} {ocM1 : Value} {odM1 anM1 : Option Addr} {oslM1 : Array (Option Value)} {kVM1 docM1 pmM1 cdM1 ctM1 : Value}
    {fM2 : Addr} {ocM2 : Value} {odM2 anM2 : Option Addr} {oslM2 : Array (Option Value)} {kVM2 docM2 pmM2 cdM2 ctM2 : Value}
    {fM3 : Addr} {ocM3 : Value} {odM3 anM3 : Option Addr} {oslM3 : Array (Option Value)} {kVM3 docM3 pmM3 cdM3 ctM3 : Value}
    {fM4 : Addr} {ocM4 : Value} {odM4 anM4 : Option Addr} {oslM4 : Array (Option Value)} {kVM4 docM4 pmM4 cdM4 ctM4 : Value}
    {fM5 : Addr} {ocM5 : Value} {odM5 anM5 : Option Addr} {oslM5 : Array (Option Value)} {kVM5 docM5 pmM5 cdM5 ctM5 : Value}
    {fM6 : Addr} {ocM6 : Value} {odM6 anM6 : Option Addr} {oslM6 : Array (Option Value)} {kVM6 docM6 pmM6 cdM6 ctM6 : Value}
    {fM7 : Addr} {ocM7 : Value} {odM7 anM7 : Option Addr} {oslM7 : Array (Option Value)} {kVM7 docM7 pmM7 cdM7 ctM7 : Value}
    {fM8 : Addr} {ocM8 : Value} {odM8 anM8 : Option Addr} {oslM8 : Array (Option Value)} {kVM8 docM8 pmM8 cdM8 ctM8 : Value}
    {fM9 : Addr} {ocM9 : Value} {odM9 anM9 : Option Addr} {oslM9 : Array (Option Value)} {kVM9 docM9 pmM9 cdM9 ctM9 : Value}
    {fM10 : Addr} {ocM10 : Value} {odM10 anM10 : Option Addr} {oslM10 : Array (Option Value)} {kVM10 docM10 pmM10 cdM10 ctM10 : Value}
    (X : K.In h) (G : h.Ns mainGlobals mg) (hfa : mg "law" = some (.ref fa))
    (a0 : PySem.W.nsIn K mainGlobals "is_reserved" = some (some (.ref f0)))
    (l0 : K.lookup f0 = some ⟨oc0, od0, .func (PySem.W.fnOf "is_reserved" "is_reserved" (defArgs sIsRes) (defBody sIsRes) (defScope sIsRes) .none kV0 doc0 pm0 an0 cd0 ct0), osl0⟩)
    (c0 : PySem.W.codeIn K cd0 "is_reserved" = true)
    (k0 : PySem.W.keepIn K (.ref f0) = true)
    (a1 : PySem.W.nsIn K mainGlobals "tokenize" = some (some (.ref f1)))
    (l1 : K.lookup f1 = some ⟨oc1, od1, .func (PySem.W.fnOf "tokenize" "tokenize" (defArgs sTokenize) (defBody sTokenize) (defScope sTokenize) .none kV1 doc1 pm1 an1 cd1 ct1), osl1⟩)
    (c1 : PySem.W.codeIn K cd1 "tokenize" = true)
    (k1 : PySem.W.keepIn K (.ref f1) = true)
    (a2 : PySem.W.nsIn K mainGlobals "comment_end" = some (some (.ref f2)))
    (l2 : K.lookup f2 = some ⟨oc2, od2, .func (PySem.W.fnOf "comment_end" "comment_end" (defArgs sComEnd) (defBody sComEnd) (defScope sComEnd) .none kV2 doc2 pm2 an2 cd2 ct2), osl2⟩)
    (c2 : PySem.W.codeIn K cd2 "comment_end" = true)
    (k2 : PySem.W.keepIn K (.ref f2) = true)
    (a3 : PySem.W.nsIn K mainGlobals "part_end" = some (some (.ref f3)))
    (l3 : K.lookup f3 = some ⟨oc3, od3, .func (PySem.W.fnOf "part_end" "part_end" (defArgs sPartEnd) (defBody sPartEnd) (defScope sPartEnd) .none kV3 doc3 pm3 an3 cd3 ct3), osl3⟩)
    (c3 : PySem.W.codeIn K cd3 "part_end" = true)
    (k3 : PySem.W.keepIn K (.ref f3) = true)
    (a4 : PySem.W.nsIn K mainGlobals "in_run" = some (some (.ref f4)))
    (l4 : K.lookup f4 = some ⟨oc4, od4, .func (PySem.W.fnOf "in_run" "in_run" (defArgs sInRun) (defBody sInRun) (defScope sInRun) .none kV4 doc4 pm4 an4 cd4 ct4), osl4⟩)
    (c4 : PySem.W.codeIn K cd4 "in_run" = true)
    (k4 : PySem.W.keepIn K (.ref f4) = true)
    (a5 : PySem.W.nsIn K mainGlobals "token_of" = some (some (.ref f5)))
    (l5 : K.lookup f5 = some ⟨oc5, od5, .func (PySem.W.fnOf "token_of" "token_of" (defArgs sTokenOf) (defBody sTokenOf) (defScope sTokenOf) .none kV5 doc5 pm5 an5 cd5 ct5), osl5⟩)
    (c5 : PySem.W.codeIn K cd5 "token_of" = true)
    (k5 : PySem.W.keepIn K (.ref f5) = true)
    (a6 : PySem.W.nsIn K mainGlobals "is_number" = some (some (.ref f6)))
    (l6 : K.lookup f6 = some ⟨oc6, od6, .func (PySem.W.fnOf "is_number" "is_number" (defArgs sIsNum) (defBody sIsNum) (defScope sIsNum) .none kV6 doc6 pm6 an6 cd6 ct6), osl6⟩)
    (c6 : PySem.W.codeIn K cd6 "is_number" = true)
    (k6 : PySem.W.keepIn K (.ref f6) = true)
    (a7 : PySem.W.nsIn K mainGlobals "number_value" = some (some (.ref f7)))
    (l7 : K.lookup f7 = some ⟨oc7, od7, .func (PySem.W.fnOf "number_value" "number_value" (defArgs sNumVal) (defBody sNumVal) (defScope sNumVal) .none kV7 doc7 pm7 an7 cd7 ct7), osl7⟩)
    (c7 : PySem.W.codeIn K cd7 "number_value" = true)
    (k7 : PySem.W.keepIn K (.ref f7) = true)
    (a8 : PySem.W.nsIn K mainGlobals "_law_state" = some (some (.ref f8)))
    (l8 : K.lookup f8 = some ⟨oc8, od8, .func (PySem.W.fnOf "_law_state" "_law_state" (defArgs sState) (defBody sState) (defScope sState) .none kV8 doc8 pm8 an8 cd8 ct8), osl8⟩)
    (c8 : PySem.W.codeIn K cd8 "_law_state" = true)
    (k8 : PySem.W.keepIn K (.ref f8) = true)
    (a9 : PySem.W.nsIn K mainGlobals "_law_draw" = some (some (.ref f9)))
    (l9 : K.lookup f9 = some ⟨oc9, od9, .func (PySem.W.fnOf "_law_draw" "_law_draw" (defArgs sDraw) (defBody sDraw) (defScope sDraw) .none kV9 doc9 pm9 an9 cd9 ct9), osl9⟩)
    (c9 : PySem.W.codeIn K cd9 "_law_draw" = true)
    (k9 : PySem.W.keepIn K (.ref f9) = true)
    (a10 : PySem.W.nsIn K mainGlobals "_law_pick" = some (some (.ref f10)))
    (l10 : K.lookup f10 = some ⟨oc10, od10, .func (PySem.W.fnOf "_law_pick" "_law_pick" (defArgs sPick) (defBody sPick) (defScope sPick) .none kV10 doc10 pm10 an10 cd10 ct10), osl10⟩)
    (c10 : PySem.W.codeIn K cd10 "_law_pick" = true)
    (k10 : PySem.W.keepIn K (.ref f10) = true)
    (a11 : PySem.W.nsIn K mainGlobals "parse_program" = some (some (.ref f11)))
    (l11 : K.lookup f11 = some ⟨oc11, od11, .func (PySem.W.fnOf "parse_program" "parse_program" (defArgs pProgram) (defBody pProgram) (defScope pProgram) .none kV11 doc11 pm11 an11 cd11 ct11), osl11⟩)
    (c11 : PySem.W.codeIn K cd11 "parse_program" = true)
    (k11 : PySem.W.keepIn K (.ref f11) = true)
    (a12 : PySem.W.nsIn K mainGlobals "parse_header" = some (some (.ref f12)))
    (l12 : K.lookup f12 = some ⟨oc12, od12, .func (PySem.W.fnOf "parse_header" "parse_header" (defArgs pHeader) (defBody pHeader) (defScope pHeader) .none kV12 doc12 pm12 an12 cd12 ct12), osl12⟩)
    (c12 : PySem.W.codeIn K cd12 "parse_header" = true)
    (k12 : PySem.W.keepIn K (.ref f12) = true)
    (a13 : PySem.W.nsIn K mainGlobals "parse_fields" = some (some (.ref f13)))
    (l13 : K.lookup f13 = some ⟨oc13, od13, .func (PySem.W.fnOf "parse_fields" "parse_fields" (defArgs pFields) (defBody pFields) (defScope pFields) .none kV13 doc13 pm13 an13 cd13 ct13), osl13⟩)
    (c13 : PySem.W.codeIn K cd13 "parse_fields" = true)
    (k13 : PySem.W.keepIn K (.ref f13) = true)
    (a14 : PySem.W.nsIn K mainGlobals "parse_width" = some (some (.ref f14)))
    (l14 : K.lookup f14 = some ⟨oc14, od14, .func (PySem.W.fnOf "parse_width" "parse_width" (defArgs pWidth) (defBody pWidth) (defScope pWidth) .none kV14 doc14 pm14 an14 cd14 ct14), osl14⟩)
    (c14 : PySem.W.codeIn K cd14 "parse_width" = true)
    (k14 : PySem.W.keepIn K (.ref f14) = true)
    (a15 : PySem.W.nsIn K mainGlobals "parse_states" = some (some (.ref f15)))
    (l15 : K.lookup f15 = some ⟨oc15, od15, .func (PySem.W.fnOf "parse_states" "parse_states" (defArgs pStates) (defBody pStates) (defScope pStates) .none kV15 doc15 pm15 an15 cd15 ct15), osl15⟩)
    (c15 : PySem.W.codeIn K cd15 "parse_states" = true)
    (k15 : PySem.W.keepIn K (.ref f15) = true)
    (a16 : PySem.W.nsIn K mainGlobals "parse_state" = some (some (.ref f16)))
    (l16 : K.lookup f16 = some ⟨oc16, od16, .func (PySem.W.fnOf "parse_state" "parse_state" (defArgs pState) (defBody pState) (defScope pState) .none kV16 doc16 pm16 an16 cd16 ct16), osl16⟩)
    (c16 : PySem.W.codeIn K cd16 "parse_state" = true)
    (k16 : PySem.W.keepIn K (.ref f16) = true)
    (a17 : PySem.W.nsIn K mainGlobals "parse_way" = some (some (.ref f17)))
    (l17 : K.lookup f17 = some ⟨oc17, od17, .func (PySem.W.fnOf "parse_way" "parse_way" (defArgs pWay) (defBody pWay) (defScope pWay) .none kV17 doc17 pm17 an17 cd17 ct17), osl17⟩)
    (c17 : PySem.W.codeIn K cd17 "parse_way" = true)
    (k17 : PySem.W.keepIn K (.ref f17) = true)
    (a18 : PySem.W.nsIn K mainGlobals "parse_row" = some (some (.ref f18)))
    (l18 : K.lookup f18 = some ⟨oc18, od18, .func (PySem.W.fnOf "parse_row" "parse_row" (defArgs pRow) (defBody pRow) (defScope pRow) .none kV18 doc18 pm18 an18 cd18 ct18), osl18⟩)
    (c18 : PySem.W.codeIn K cd18 "parse_row" = true)
    (k18 : PySem.W.keepIn K (.ref f18) = true)
    (a19 : PySem.W.nsIn K mainGlobals "parse_select_end" = some (some (.ref f19)))
    (l19 : K.lookup f19 = some ⟨oc19, od19, .func (PySem.W.fnOf "parse_select_end" "parse_select_end" (defArgs pSelEnd) (defBody pSelEnd) (defScope pSelEnd) .none kV19 doc19 pm19 an19 cd19 ct19), osl19⟩)
    (c19 : PySem.W.codeIn K cd19 "parse_select_end" = true)
    (k19 : PySem.W.keepIn K (.ref f19) = true)
    (a20 : PySem.W.nsIn K mainGlobals "parse_target" = some (some (.ref f20)))
    (l20 : K.lookup f20 = some ⟨oc20, od20, .func (PySem.W.fnOf "parse_target" "parse_target" (defArgs pTarget) (defBody pTarget) (defScope pTarget) .none kV20 doc20 pm20 an20 cd20 ct20), osl20⟩)
    (c20 : PySem.W.codeIn K cd20 "parse_target" = true)
    (k20 : PySem.W.keepIn K (.ref f20) = true)
    (a21 : PySem.W.nsIn K mainGlobals "parse_action" = some (some (.ref f21)))
    (l21 : K.lookup f21 = some ⟨oc21, od21, .func (PySem.W.fnOf "parse_action" "parse_action" (defArgs pAction) (defBody pAction) (defScope pAction) .none kV21 doc21 pm21 an21 cd21 ct21), osl21⟩)
    (c21 : PySem.W.codeIn K cd21 "parse_action" = true)
    (k21 : PySem.W.keepIn K (.ref f21) = true)
    (a22 : PySem.W.nsIn K mainGlobals "parse_params" = some (some (.ref f22)))
    (l22 : K.lookup f22 = some ⟨oc22, od22, .func (PySem.W.fnOf "parse_params" "parse_params" (defArgs pParams) (defBody pParams) (defScope pParams) .none kV22 doc22 pm22 an22 cd22 ct22), osl22⟩)
    (c22 : PySem.W.codeIn K cd22 "parse_params" = true)
    (k22 : PySem.W.keepIn K (.ref f22) = true)
    (a23 : PySem.W.nsIn K mainGlobals "parse_operation" = some (some (.ref f23)))
    (l23 : K.lookup f23 = some ⟨oc23, od23, .func (PySem.W.fnOf "parse_operation" "parse_operation" (defArgs pOper) (defBody pOper) (defScope pOper) .none kV23 doc23 pm23 an23 cd23 ct23), osl23⟩)
    (c23 : PySem.W.codeIn K cd23 "parse_operation" = true)
    (k23 : PySem.W.keepIn K (.ref f23) = true)
    (a24 : PySem.W.nsIn K mainGlobals "parse_expression" = some (some (.ref f24)))
    (l24 : K.lookup f24 = some ⟨oc24, od24, .func (PySem.W.fnOf "parse_expression" "parse_expression" (defArgs pExpr) (defBody pExpr) (defScope pExpr) .none kV24 doc24 pm24 an24 cd24 ct24), osl24⟩)
    (c24 : PySem.W.codeIn K cd24 "parse_expression" = true)
    (k24 : PySem.W.keepIn K (.ref f24) = true)
    (a25 : PySem.W.nsIn K mainGlobals "parse_operand" = some (some (.ref f25)))
    (l25 : K.lookup f25 = some ⟨oc25, od25, .func (PySem.W.fnOf "parse_operand" "parse_operand" (defArgs pOperand) (defBody pOperand) (defScope pOperand) .none kV25 doc25 pm25 an25 cd25 ct25), osl25⟩)
    (c25 : PySem.W.codeIn K cd25 "parse_operand" = true)
    (k25 : PySem.W.keepIn K (.ref f25) = true)
    (a26 : PySem.W.nsIn K mainGlobals "parse_field" = some (some (.ref f26)))
    (l26 : K.lookup f26 = some ⟨oc26, od26, .func (PySem.W.fnOf "parse_field" "parse_field" (defArgs pField) (defBody pField) (defScope pField) .none kV26 doc26 pm26 an26 cd26 ct26), osl26⟩)
    (c26 : PySem.W.codeIn K cd26 "parse_field" = true)
    (k26 : PySem.W.keepIn K (.ref f26) = true)
    (a27 : PySem.W.nsIn K mainGlobals "parse_owner" = some (some (.ref f27)))
    (l27 : K.lookup f27 = some ⟨oc27, od27, .func (PySem.W.fnOf "parse_owner" "parse_owner" (defArgs pOwner) (defBody pOwner) (defScope pOwner) .none kV27 doc27 pm27 an27 cd27 ct27), osl27⟩)
    (c27 : PySem.W.codeIn K cd27 "parse_owner" = true)
    (k27 : PySem.W.keepIn K (.ref f27) = true)
    (a28 : PySem.W.nsIn K mainGlobals "parse_table" = some (some (.ref f28)))
    (l28 : K.lookup f28 = some ⟨oc28, od28, .func (PySem.W.fnOf "parse_table" "parse_table" (defArgs pTable) (defBody pTable) (defScope pTable) .none kV28 doc28 pm28 an28 cd28 ct28), osl28⟩)
    (c28 : PySem.W.codeIn K cd28 "parse_table" = true)
    (k28 : PySem.W.keepIn K (.ref f28) = true)
    (a29 : PySem.W.nsIn K mainGlobals "parse_key" = some (some (.ref f29)))
    (l29 : K.lookup f29 = some ⟨oc29, od29, .func (PySem.W.fnOf "parse_key" "parse_key" (defArgs pKey) (defBody pKey) (defScope pKey) .none kV29 doc29 pm29 an29 cd29 ct29), osl29⟩)
    (c29 : PySem.W.codeIn K cd29 "parse_key" = true)
    (k29 : PySem.W.keepIn K (.ref f29) = true)
    (a30 : PySem.W.nsIn K mainGlobals "parse_default" = some (some (.ref f30)))
    (l30 : K.lookup f30 = some ⟨oc30, od30, .func (PySem.W.fnOf "parse_default" "parse_default" (defArgs pDefault) (defBody pDefault) (defScope pDefault) .none kV30 doc30 pm30 an30 cd30 ct30), osl30⟩)
    (c30 : PySem.W.codeIn K cd30 "parse_default" = true)
    (k30 : PySem.W.keepIn K (.ref f30) = true)
    (a31 : PySem.W.nsIn K mainGlobals "parse_args" = some (some (.ref f31)))
    (l31 : K.lookup f31 = some ⟨oc31, od31, .func (PySem.W.fnOf "parse_args" "parse_args" (defArgs pArgs) (defBody pArgs) (defScope pArgs) .none kV31 doc31 pm31 an31 cd31 ct31), osl31⟩)
    (c31 : PySem.W.codeIn K cd31 "parse_args" = true)
    (k31 : PySem.W.keepIn K (.ref f31) = true)
    (a32 : PySem.W.nsIn K mainGlobals "parse_block" = some (some (.ref f32)))
    (l32 : K.lookup f32 = some ⟨oc32, od32, .func (PySem.W.fnOf "parse_block" "parse_block" (defArgs pBlock) (defBody pBlock) (defScope pBlock) .none kV32 doc32 pm32 an32 cd32 ct32), osl32⟩)
    (c32 : PySem.W.codeIn K cd32 "parse_block" = true)
    (k32 : PySem.W.keepIn K (.ref f32) = true)
    (a33 : PySem.W.nsIn K mainGlobals "parse_statement" = some (some (.ref f33)))
    (l33 : K.lookup f33 = some ⟨oc33, od33, .func (PySem.W.fnOf "parse_statement" "parse_statement" (defArgs pStmt) (defBody pStmt) (defScope pStmt) .none kV33 doc33 pm33 an33 cd33 ct33), osl33⟩)
    (c33 : PySem.W.codeIn K cd33 "parse_statement" = true)
    (k33 : PySem.W.keepIn K (.ref f33) = true)
    (a34 : PySem.W.nsIn K mainGlobals "parse_condition" = some (some (.ref f34)))
    (l34 : K.lookup f34 = some ⟨oc34, od34, .func (PySem.W.fnOf "parse_condition" "parse_condition" (defArgs pCond) (defBody pCond) (defScope pCond) .none kV34 doc34 pm34 an34 cd34 ct34), osl34⟩)
    (c34 : PySem.W.codeIn K cd34 "parse_condition" = true)
    (k34 : PySem.W.keepIn K (.ref f34) = true)
    (a35 : PySem.W.nsIn K mainGlobals "parse_comparison" = some (some (.ref f35)))
    (l35 : K.lookup f35 = some ⟨oc35, od35, .func (PySem.W.fnOf "parse_comparison" "parse_comparison" (defArgs pCmp) (defBody pCmp) (defScope pCmp) .none kV35 doc35 pm35 an35 cd35 ct35), osl35⟩)
    (c35 : PySem.W.codeIn K cd35 "parse_comparison" = true)
    (k35 : PySem.W.keepIn K (.ref f35) = true)
    (a36 : PySem.W.nsIn K mainGlobals "parse_emits" = some (some (.ref f36)))
    (l36 : K.lookup f36 = some ⟨oc36, od36, .func (PySem.W.fnOf "parse_emits" "parse_emits" (defArgs pEmits) (defBody pEmits) (defScope pEmits) .none kV36 doc36 pm36 an36 cd36 ct36), osl36⟩)
    (c36 : PySem.W.codeIn K cd36 "parse_emits" = true)
    (k36 : PySem.W.keepIn K (.ref f36) = true)
    (a37 : PySem.W.nsIn K mainGlobals "_law_name" = some (some (.ref f37)))
    (l37 : K.lookup f37 = some ⟨oc37, od37, .func (PySem.W.fnOf "_law_name" "_law_name" (defArgs sName) (defBody sName) (defScope sName) .none kV37 doc37 pm37 an37 cd37 ct37), osl37⟩)
    (c37 : PySem.W.codeIn K cd37 "_law_name" = true)
    (k37 : PySem.W.keepIn K (.ref f37) = true)
    (a38 : PySem.W.nsIn K mainGlobals "_law_lines" = some (some (.ref f38)))
    (l38 : K.lookup f38 = some ⟨oc38, od38, .func (PySem.W.fnOf "_law_lines" "_law_lines" (defArgs sLines) (defBody sLines) (defScope sLines) .none kV38 doc38 pm38 an38 cd38 ct38), osl38⟩)
    (c38 : PySem.W.codeIn K cd38 "_law_lines" = true)
    (k38 : PySem.W.keepIn K (.ref f38) = true)
    (a39 : PySem.W.nsIn K mainGlobals "_law_outcome" = some (some (.ref f39)))
    (l39 : K.lookup f39 = some ⟨oc39, od39, .func (PySem.W.fnOf "_law_outcome" "_law_outcome" (defArgs sOutcome) (defBody sOutcome) (defScope sOutcome) .none kV39 doc39 pm39 an39 cd39 ct39), osl39⟩)
    (c39 : PySem.W.codeIn K cd39 "_law_outcome" = true)
    (k39 : PySem.W.keepIn K (.ref f39) = true)
    (a40 : PySem.W.nsIn K mainGlobals "_law_faulty" = some (some (.ref f40)))
    (l40 : K.lookup f40 = some ⟨oc40, od40, .func (PySem.W.fnOf "_law_faulty" "_law_faulty" (defArgs sFaulty) (defBody sFaulty) (defScope sFaulty) .none kV40 doc40 pm40 an40 cd40 ct40), osl40⟩)
    (c40 : PySem.W.codeIn K cd40 "_law_faulty" = true)
    (k40 : PySem.W.keepIn K (.ref f40) = true)
    (a41 : PySem.W.nsIn K mainGlobals "_law_nested" = some (some (.ref f41)))
    (l41 : K.lookup f41 = some ⟨oc41, od41, .func (PySem.W.fnOf "_law_nested" "_law_nested" (defArgs sNested) (defBody sNested) (defScope sNested) .none kV41 doc41 pm41 an41 cd41 ct41), osl41⟩)
    (c41 : PySem.W.codeIn K cd41 "_law_nested" = true)
    (k41 : PySem.W.keepIn K (.ref f41) = true)
    (a42 : PySem.W.nsIn K mainGlobals "is_decimal" = some (some (.ref f42)))
    (l42 : K.lookup f42 = some ⟨oc42, od42, .func (PySem.W.fnOf "is_decimal" "is_decimal" (defArgs sIsDec) (defBody sIsDec) (defScope sIsDec) .none kV42 doc42 pm42 an42 cd42 ct42), osl42⟩)
    (c42 : PySem.W.codeIn K cd42 "is_decimal" = true)
    (k42 : PySem.W.keepIn K (.ref f42) = true)
    (a43 : PySem.W.nsIn K mainGlobals "law" = some (some (.ref f43)))
    (l43 : K.lookup f43 = some ⟨oc43, od43, .func (PySem.W.fnOf "law" "law" (defArgs sLaw) (defBody sLaw) (defScope sLaw) .none kV43 doc43 pm43 an43 cd43 ct43), osl43⟩)
    (c43 : PySem.W.codeIn K cd43 "law" = true)
    (k43 : PySem.W.keepIn K (.ref f43) = true)
    (a44 : PySem.W.nsIn K mainGlobals "consists_of" = some (some (.ref f44)))
    (l44 : K.lookup f44 = some ⟨oc44, od44, .func (PySem.W.fnOf "consists_of" "consists_of" (defArgs sCons) (defBody sCons) (defScope sCons) .none kV44 doc44 pm44 an44 (.ref cT0) ct44), osl44⟩)
    (c44 : PySem.W.codeIn K (.ref cT0) "consists_of" = true)
    (k44 : PySem.W.keepIn K (.ref f44) = true)
    (aLET : PySem.W.nsIn K mainGlobals "LETTERS" = some (some uLET))
    (rLET : L2.RelV (.str lettersS) uLET)
    (aDIG : PySem.W.nsIn K mainGlobals "DIGITS" = some (some uDIG))
    (rDIG : L2.RelV (.str digitsS) uDIG)
    (aHEX : PySem.W.nsIn K mainGlobals "HEX_DIGITS" = some (some uHEX))
    (rHEX : L2.RelV (.str hexS) uHEX)
    (aLNM : PySem.W.nsIn K mainGlobals "LONGEST_NAME" = some (some uLNM))
    (rLNM : L2.RelV (.int 16) uLNM)
    (aMDG : PySem.W.nsIn K mainGlobals "MOST_DIGITS" = some (some uMDG))
    (rMDG : L2.RelV (.int 10) uMDG)
    (aMHX : PySem.W.nsIn K mainGlobals "MOST_HEX_DIGITS" = some (some uMHX))
    (rMHX : L2.RelV (.int 8) uMHX)
    (aGRT : PySem.W.nsIn K mainGlobals "GREATEST_NUMBER" = some (some uGRT))
    (rGRT : L2.RelV (.int 4294967295) uGRT)
    (aMBL : PySem.W.nsIn K mainGlobals "MOST_BLOCKS" = some (some uMBL))
    (rMBL : L2.RelV (.int 8) uMBL)
    (aMNO : PySem.W.nsIn K mainGlobals "MOST_NOTS" = some (some uMNO))
    (rMNO : L2.RelV (.int 8) uMNO)
    (aRES : PySem.W.nsIn K mainGlobals "RESERVED" = some (some (.ref pRES)))
    (lRES : K.lookup pRES = some ⟨.type "tuple", oRES, .seq iRES nRES, sRES⟩)
    (vRES : L2.Vals (words.map V.str) iRES.toList)
    (aLNG : PySem.W.nsIn K mainGlobals "LONG_SIGNS" = some (some (.ref pLNG)))
    (lLNG : K.lookup pLNG = some ⟨.type "tuple", oLNG, .seq iLNG nLNG, sLNG⟩)
    (vLNG : L2.Vals (longs.map V.str) iLNG.toList)
    (aSHT : PySem.W.nsIn K mainGlobals "SHORT_SIGNS" = some (some (.ref pSHT)))
    (lSHT : K.lookup pSHT = some ⟨.type "tuple", oSHT, .seq iSHT nSHT, sSHT⟩)
    (vSHT : L2.Vals (shorts.map V.str) iSHT.toList)
    (aEND : PySem.W.nsIn K mainGlobals "END_TARGETS" = some (some (.ref pEND)))
    (lEND : K.lookup pEND = some ⟨.type "tuple", oEND, .seq iEND nEND, sEND⟩)
    (vEND : L2.Vals (endTargets.map V.str) iEND.toList)
    (aOWN : PySem.W.nsIn K mainGlobals "OWNER_WORDS" = some (some (.ref pOWN)))
    (lOWN : K.lookup pOWN = some ⟨.type "tuple", oOWN, .seq iOWN nOWN, sOWN⟩)
    (vOWN : L2.Vals (ownerWords.map V.str) iOWN.toList)
    (aOPS : PySem.W.nsIn K mainGlobals "OPERATORS" = some (some (.ref pOPS)))
    (lOPS : K.lookup pOPS = some ⟨.type "tuple", oOPS, .seq iOPS nOPS, sOPS⟩)
    (vOPS : L2.Vals (operators.map V.str) iOPS.toList)
    (aKEY : PySem.W.nsIn K mainGlobals "KEY_KINDS" = some (some (.ref pKEY)))
    (lKEY : K.lookup pKEY = some ⟨.type "tuple", oKEY, .seq iKEY nKEY, sKEY⟩)
    (vKEY : L2.Vals (keyKinds.map V.str) iKEY.toList)
    (aCMP : PySem.W.nsIn K mainGlobals "COMPARISONS" = some (some (.ref pCMP)))
    (lCMP : K.lookup pCMP = some ⟨.type "tuple", oCMP, .seq iCMP nCMP, sCMP⟩)
    (vCMP : L2.Vals (comparisons.map V.str) iCMP.toList)
    (zInt : PySem.W.nsIn K mainGlobals "int" = some none)
    (zLen : PySem.W.nsIn K mainGlobals "len" = some none)
    (zAll : PySem.W.nsIn K mainGlobals "all" = some none)
    (zAbs : PySem.W.nsIn K mainGlobals "abs" = some none)
    (zIsi : PySem.W.nsIn K mainGlobals "isinstance" = some none)
    (zList : PySem.W.nsIn K mainGlobals "list" = some none)
    (zTuple : PySem.W.nsIn K mainGlobals "tuple" = some none)
    (zBool : PySem.W.nsIn K mainGlobals "bool" = some none)
    (zStr : PySem.W.nsIn K mainGlobals "str" = some none)
    (zRange : PySem.W.nsIn K mainGlobals "range" = some none)
    (zVE : PySem.W.nsIn K mainGlobals "ValueError" = some none)
    (zSup : PySem.W.nsIn K mainGlobals "super" = some none)
    (hrec : (recsOf q).find? (fun e => e.name == ("consists_of" : Str)) = some dr)
    (htab : PySem.W.tabIn K "consists_of" = some (cT0, Pt))
    (hno : K.lookup Pt = none)
    (gT : PySem.W.nsIn K mainGlobals "TextError" = some (some (.ref cT)))
    (xT : K.lookup cT = some (excClassObj nmT qnT cT NT bsT bmT true snT subT abT colT ddT m0T m1T m2T m3T m5T "ValueError.__new__"))
    (rT : PySem.HandSPX.refsVE bmT = true)
    (saT : PySem.W.findIn K (.ref cT) "__setattr__" = some (some (.builtin "object.__setattr__")))
    (kT : PySem.W.keepIn K (.ref cT) = true)
    (vT : PySem.W.subIn K (.ref cT) (.type "ValueError") = some true)
    (nT : PySem.W.findIn K (.ref cT) "line" = some none)
    (suT : PySem.W.ks_superIn K cT cT "__init__" = some (some (.builtin "ValueError.__init__")))
    (mrT : PySem.W.mroIn K cT (.ref cT) = some true)
    (iT : PySem.W.findIn K (.ref cT) "__init__" = some (some (.ref fIT)))
    (uT : PySem.W.typeIn K (.ref fIT) = some (.type "function"))
    (lT : K.lookup fIT = some ⟨ocT, odT, .func (PySem.W.ksFn "__init__" "TextError.__init__" (iA "line" ⟨a1T, a2T, b1T, b2T, b3T, b4T, b5T, b6T, b7T, b8T, b9T, d1T, d2T, d3T, d4T⟩) (iB "line" "line " ⟨a1T, a2T, b1T, b2T, b3T, b4T, b5T, b6T, b7T, b8T, b9T, d1T, d2T, d3T, d4T⟩) (iS "line") .none .none docT pmT anT (.ref cdaT) ctT ccT), oslT⟩)
    (oT : PySem.W.codeIn K (.ref cdaT) "TextError.__init__" = true)
    (pT : (b3T.endLine == b8T.line) = true)
    (dT : K.lookup cdaT = some ⟨cclT, cddT, .fields vsT, ccsT⟩)
    (fT : vsT[2]? = some (.str fileT tfT))
    (fiT : ((P.main.file : Str) == fileT) = true)
    (zT : K.lookup ccT = some ⟨clT, cldT, .cell (some (.ref cT)), cslT⟩)
    (eT : PySem.W.subIn K (.ref cT) (.type "BaseException") = some true)
    (tT : PySem.W.typeIn K (.ref cT) = some (.type "type"))
    (hgT : PySem.W.findIn K (.ref cT) "__getattribute__" = some (some (.builtin "BaseException.__getattribute__")))
    (hkT : PySem.W.findIn K (.ref cT) "__getattr__" = some none)
    (hdT : PySem.W.hasDictIn K cT = true)
    (haT : PySem.W.findIn K (.ref cT) "__class__" = some (some (.builtin "object.__class__")))
    (hmT : PySem.W.mroIn K cT (.type "object") = some true)
    (sfT : PySem.W.subIn K (.ref cT) (.ref cT) = some true)
    (veT : PySem.W.kitOne K (.ref cT) (.type "ValueError") = some true)
    (hn : PySem.W.specialIn K (.builtin "object.__class__") "__get__" = some (some (.builtin "getset_descriptor.__get__")))
    (ht : PySem.W.takesIn K (.builtin "object.__class__") = some true)
    (tp : PySem.W.nsIn K cStatics "thirdparty.any" = some none)
    (top : (P.main.scope.names.lookup ("super" : Str)).isSome = false)
    (aRd : PySem.W.nsIn K mainGlobals "Reader" = some (some (.ref cRd)))
    (aM0 : PySem.W.findIn K (.ref cRd) "__init__" = some (some (.ref fM0)))
    (iM0 : PySem.W.isFn K (.ref fM0) = true)
    (lM0 : K.lookup fM0 = some ⟨ocM0, odM0, .func (PySem.W.fnOf "__init__" "Reader.__init__" (defArgs rInit) (defBody rInit) (defScope rInit) .none kVM0 docM0 pmM0 anM0 cdM0 ctM0), oslM0⟩)
    (cM0 : PySem.W.codeIn K cdM0 "Reader.__init__" = true)
    (kM0 : PySem.W.keepIn K (.ref fM0) = true)
    (aM1 : PySem.W.findIn K (.ref cRd) "kind" = some (some (.ref fM1)))
    (iM1 : PySem.W.isFn K (.ref fM1) = true)
    (lM1 : K.lookup fM1 = some ⟨ocM1, odM1, .func (PySem.W.fnOf "kind" "Reader.kind" (defArgs rKind) (defBody rKind) (defScope rKind) .none kVM1 docM1 pmM1 anM1 cdM1 ctM1), oslM1⟩)
    (cM1 : PySem.W.codeIn K cdM1 "Reader.kind" = true)
    (kM1 : PySem.W.keepIn K (.ref fM1) = true)
    (aM2 : PySem.W.findIn K (.ref cRd) "value" = some (some (.ref fM2)))
    (iM2 : PySem.W.isFn K (.ref fM2) = true)
    (lM2 : K.lookup fM2 = some ⟨ocM2, odM2, .func (PySem.W.fnOf "value" "Reader.value" (defArgs rValue) (defBody rValue) (defScope rValue) .none kVM2 docM2 pmM2 anM2 cdM2 ctM2), oslM2⟩)
    (cM2 : PySem.W.codeIn K cdM2 "Reader.value" = true)
    (kM2 : PySem.W.keepIn K (.ref fM2) = true)
    (aM3 : PySem.W.findIn K (.ref cRd) "fail" = some (some (.ref fM3)))
    (iM3 : PySem.W.isFn K (.ref fM3) = true)
    (lM3 : K.lookup fM3 = some ⟨ocM3, odM3, .func (PySem.W.fnOf "fail" "Reader.fail" (defArgs rFail) (defBody rFail) (defScope rFail) .none kVM3 docM3 pmM3 anM3 cdM3 ctM3), oslM3⟩)
    (cM3 : PySem.W.codeIn K cdM3 "Reader.fail" = true)
    (kM3 : PySem.W.keepIn K (.ref fM3) = true)
    (aM4 : PySem.W.findIn K (.ref cRd) "skip" = some (some (.ref fM4)))
    (iM4 : PySem.W.isFn K (.ref fM4) = true)
    (lM4 : K.lookup fM4 = some ⟨ocM4, odM4, .func (PySem.W.fnOf "skip" "Reader.skip" (defArgs rSkip) (defBody rSkip) (defScope rSkip) .none kVM4 docM4 pmM4 anM4 cdM4 ctM4), oslM4⟩)
    (cM4 : PySem.W.codeIn K cdM4 "Reader.skip" = true)
    (kM4 : PySem.W.keepIn K (.ref fM4) = true)
    (aM5 : PySem.W.findIn K (.ref cRd) "take" = some (some (.ref fM5)))
    (iM5 : PySem.W.isFn K (.ref fM5) = true)
    (lM5 : K.lookup fM5 = some ⟨ocM5, odM5, .func (PySem.W.fnOf "take" "Reader.take" (defArgs rTake) (defBody rTake) (defScope rTake) .none kVM5 docM5 pmM5 anM5 cdM5 ctM5), oslM5⟩)
    (cM5 : PySem.W.codeIn K cdM5 "Reader.take" = true)
    (kM5 : PySem.W.keepIn K (.ref fM5) = true)
    (aM6 : PySem.W.findIn K (.ref cRd) "take_kind" = some (some (.ref fM6)))
    (iM6 : PySem.W.isFn K (.ref fM6) = true)
    (lM6 : K.lookup fM6 = some ⟨ocM6, odM6, .func (PySem.W.fnOf "take_kind" "Reader.take_kind" (defArgs rTakeK) (defBody rTakeK) (defScope rTakeK) .none kVM6 docM6 pmM6 anM6 cdM6 ctM6), oslM6⟩)
    (cM6 : PySem.W.codeIn K cdM6 "Reader.take_kind" = true)
    (kM6 : PySem.W.keepIn K (.ref fM6) = true)
    (aM7 : PySem.W.findIn K (.ref cRd) "take_name" = some (some (.ref fM7)))
    (iM7 : PySem.W.isFn K (.ref fM7) = true)
    (lM7 : K.lookup fM7 = some ⟨ocM7, odM7, .func (PySem.W.fnOf "take_name" "Reader.take_name" (defArgs rName) (defBody rName) (defScope rName) .none kVM7 docM7 pmM7 anM7 cdM7 ctM7), oslM7⟩)
    (cM7 : PySem.W.codeIn K cdM7 "Reader.take_name" = true)
    (kM7 : PySem.W.keepIn K (.ref fM7) = true)
    (aM8 : PySem.W.findIn K (.ref cRd) "take_number" = some (some (.ref fM8)))
    (iM8 : PySem.W.isFn K (.ref fM8) = true)
    (lM8 : K.lookup fM8 = some ⟨ocM8, odM8, .func (PySem.W.fnOf "take_number" "Reader.take_number" (defArgs rNumber) (defBody rNumber) (defScope rNumber) .none kVM8 docM8 pmM8 anM8 cdM8 ctM8), oslM8⟩)
    (cM8 : PySem.W.codeIn K cdM8 "Reader.take_number" = true)
    (kM8 : PySem.W.keepIn K (.ref fM8) = true)
    (aM9 : PySem.W.findIn K (.ref cRd) "check_end" = some (some (.ref fM9)))
    (iM9 : PySem.W.isFn K (.ref fM9) = true)
    (lM9 : K.lookup fM9 = some ⟨ocM9, odM9, .func (PySem.W.fnOf "check_end" "Reader.check_end" (defArgs rEnd) (defBody rEnd) (defScope rEnd) .none kVM9 docM9 pmM9 anM9 cdM9 ctM9), oslM9⟩)
    (cM9 : PySem.W.codeIn K cdM9 "Reader.check_end" = true)
    (kM9 : PySem.W.keepIn K (.ref fM9) = true)
    (aM10 : PySem.W.findIn K (.ref cRd) "take_one" = some (some (.ref fM10)))
    (iM10 : PySem.W.isFn K (.ref fM10) = true)
    (lM10 : K.lookup fM10 = some ⟨ocM10, odM10, .func (PySem.W.fnOf "take_one" "Reader.take_one" (defArgs rOne) (defBody rOne) (defScope rOne) .none kVM10 docM10 pmM10 anM10 cdM10 ctM10), oslM10⟩)
    (cM10 : PySem.W.codeIn K cdM10 "Reader.take_one" = true)
    (kM10 : PySem.W.keepIn K (.ref fM10) = true)
    (pgRd : PySem.W.plainGet K cRd Str.empty = true)
    (hdRd : PySem.W.hasDictIn K cRd = true)
    (poRd : PySem.W.plainOver K cRd = true)
    (saRd : PySem.W.findIn K (.ref cRd) "__setattr__" = some (some (.builtin "object.__setattr__")))
    (mkRd : PySem.W.makesIn K cRd = true)
    (kcRd : PySem.W.keepIn K (.ref cRd) = true)
    (nTok : PySem.W.findIn K (.ref cRd) "tokens" = some none)
    (nAt : PySem.W.findIn K (.ref cRd) "at" = some none)
    : ∃ (fd : FuncData) (c Pt : Addr) (dr : DefRec), ((recsOf q).find? (fun e => e.name == ("consists_of" : Str)) = some dr ∧ PySem.W.tabIn K "consists_of" = some (c, Pt) ∧ K.lookup Pt = none) ∧ (∀ (s : Shared) (u : Value), BindsTo s fd ⟨[u], []⟩ [("script", u)]) ∧
        ∀ base : Heap, K.In base → base.Ns mainGlobals mg → TabB base mg c Pt → FnOk P w K mg base CX0 28 fa fd ["script"] (spLaw K Pt) := by
  have e := hfa.symm.trans (PySem.W.mg_of X G a43)
  cases e
  have T : Tx K mg := ⟨PySem.W.mg_none_of X G zInt, PySem.W.mg_none_of X G zLen, PySem.W.mg_none_of X G zAll,
    ⟨_, PySem.W.mg_of X G aRES, ⟨_, _, _, lRES, rfl, rfl, by rw [← Array.length_toList, ← vRES.length]; decide +kernel, vRES⟩⟩, ⟨_, PySem.W.mg_of X G aLNG, ⟨_, _, _, lLNG, rfl, rfl, by rw [← Array.length_toList, ← vLNG.length]; decide +kernel, vLNG⟩⟩, ⟨_, PySem.W.mg_of X G aSHT, ⟨_, _, _, lSHT, rfl, rfl, by rw [← Array.length_toList, ← vSHT.length]; decide +kernel, vSHT⟩⟩,
    ⟨_, PySem.W.mg_of X G aLET, rLET⟩, ⟨_, PySem.W.mg_of X G aDIG, rDIG⟩, ⟨_, PySem.W.mg_of X G aHEX, rHEX⟩, ⟨_, PySem.W.mg_of X G aLNM, rLNM⟩, ⟨_, PySem.W.mg_of X G aMDG, rMDG⟩, ⟨_, PySem.W.mg_of X G aMHX, rMHX⟩, ⟨_, PySem.W.mg_of X G aGRT, rGRT⟩⟩
  have IT : InitTxt P K cT fIT "line" "line " "TextError.__init__" := { cls := { cls := ⟨nmT, qnT, NT, bsT, bmT, snT, subT, abT, colT, ddT, m0T, m1T, m2T, m3T, m5T, xT, rT⟩, sa := saT, kC := kT, exC := eT, veC := vT, tyC := tT }, noN := nT, su := suT, mrC := mrT, iC := iT, tC := uT, tp := tp, top := top, fn := ⟨_, _, _, _, _, _, _, _, _, ⟨a1T, a2T, b1T, b2T, b3T, b4T, b5T, b6T, b7T, b8T, b9T, d1T, d2T, d3T, d4T⟩, pT, lT, oT, ⟨_, _, _, _, _, _, dT, fT, fiT⟩, _, _, _, zT⟩ }
  have TT : ErT P K mg "TextError" cT "line" := ⟨⟨_, _, _, IT, by decide +kernel⟩, PySem.W.mg_of X G gT, PySem.W.mg_none_of X G zSup, .inl rfl⟩
  have A0 : AtD K mg "is_reserved" sIsRes ["name"] := atd_mk X G a0 l0 c0 k0 fun _ _ _ _ _ _ us hl => match us, hl with | [_], _ => rfl
  have A1 : AtD K mg "tokenize" sTokenize ["text"] := atd_mk X G a1 l1 c1 k1 fun _ _ _ _ _ _ us hl => match us, hl with | [_], _ => rfl
  have A2 : AtD K mg "comment_end" sComEnd ["text", "at"] := atd_mk X G a2 l2 c2 k2 fun _ _ _ _ _ _ us hl => match us, hl with | [_, _], _ => rfl
  have A3 : AtD K mg "part_end" sPartEnd ["text", "at"] := atd_mk X G a3 l3 c3 k3 fun _ _ _ _ _ _ us hl => match us, hl with | [_, _], _ => rfl
  have A4 : AtD K mg "in_run" sInRun ["char"] := atd_mk X G a4 l4 c4 k4 fun _ _ _ _ _ _ us hl => match us, hl with | [_], _ => rfl
  have A5 : AtD K mg "token_of" sTokenOf ["part", "line"] := atd_mk X G a5 l5 c5 k5 fun _ _ _ _ _ _ us hl => match us, hl with | [_, _], _ => rfl
  have A6 : AtD K mg "is_number" sIsNum ["part"] := atd_mk X G a6 l6 c6 k6 fun _ _ _ _ _ _ us hl => match us, hl with | [_], _ => rfl
  have A7 : AtD K mg "number_value" sNumVal ["part"] := atd_mk X G a7 l7 c7 k7 fun _ _ _ _ _ _ us hl => match us, hl with | [_], _ => rfl
  have A8 : AtD K mg "_law_state" sState ["script"] := atd_mk X G a8 l8 c8 k8 fun _ _ _ _ _ _ us hl => match us, hl with | [_], _ => rfl
  have A9 : AtD K mg "_law_draw" sDraw ["state", "many"] := atd_mk X G a9 l9 c9 k9 fun _ _ _ _ _ _ us hl => match us, hl with | [_, _], _ => rfl
  have A10 : AtD K mg "_law_pick" sPick ["state", "row"] := atd_mk X G a10 l10 c10 k10 fun _ _ _ _ _ _ us hl => match us, hl with | [_, _], _ => rfl
  have A11 : AtD K mg "parse_program" pProgram ["text"] := atd_mk X G a11 l11 c11 k11 fun _ _ _ _ _ _ us hl => match us, hl with | [_], _ => rfl
  have A12 : AtD K mg "parse_header" pHeader ["reader"] := atd_mk X G a12 l12 c12 k12 fun _ _ _ _ _ _ us hl => match us, hl with | [_], _ => rfl
  have A13 : AtD K mg "parse_fields" pFields ["reader"] := atd_mk X G a13 l13 c13 k13 fun _ _ _ _ _ _ us hl => match us, hl with | [_], _ => rfl
  have A14 : AtD K mg "parse_width" pWidth ["reader"] := atd_mk X G a14 l14 c14 k14 fun _ _ _ _ _ _ us hl => match us, hl with | [_], _ => rfl
  have A15 : AtD K mg "parse_states" pStates ["reader"] := atd_mk X G a15 l15 c15 k15 fun _ _ _ _ _ _ us hl => match us, hl with | [_], _ => rfl
  have A16 : AtD K mg "parse_state" pState ["reader"] := atd_mk X G a16 l16 c16 k16 fun _ _ _ _ _ _ us hl => match us, hl with | [_], _ => rfl
  have A17 : AtD K mg "parse_way" pWay ["reader"] := atd_mk X G a17 l17 c17 k17 fun _ _ _ _ _ _ us hl => match us, hl with | [_], _ => rfl
  have A18 : AtD K mg "parse_row" pRow ["reader"] := atd_mk X G a18 l18 c18 k18 fun _ _ _ _ _ _ us hl => match us, hl with | [_], _ => rfl
  have A19 : AtD K mg "parse_select_end" pSelEnd ["reader"] := atd_mk X G a19 l19 c19 k19 fun _ _ _ _ _ _ us hl => match us, hl with | [_], _ => rfl
  have A20 : AtD K mg "parse_target" pTarget ["reader"] := atd_mk X G a20 l20 c20 k20 fun _ _ _ _ _ _ us hl => match us, hl with | [_], _ => rfl
  have A21 : AtD K mg "parse_action" pAction ["reader"] := atd_mk X G a21 l21 c21 k21 fun _ _ _ _ _ _ us hl => match us, hl with | [_], _ => rfl
  have A22 : AtD K mg "parse_params" pParams ["reader"] := atd_mk X G a22 l22 c22 k22 fun _ _ _ _ _ _ us hl => match us, hl with | [_], _ => rfl
  have A23 : AtD K mg "parse_operation" pOper ["reader"] := atd_mk X G a23 l23 c23 k23 fun _ _ _ _ _ _ us hl => match us, hl with | [_], _ => rfl
  have A24 : AtD K mg "parse_expression" pExpr ["reader"] := atd_mk X G a24 l24 c24 k24 fun _ _ _ _ _ _ us hl => match us, hl with | [_], _ => rfl
  have A25 : AtD K mg "parse_operand" pOperand ["reader"] := atd_mk X G a25 l25 c25 k25 fun _ _ _ _ _ _ us hl => match us, hl with | [_], _ => rfl
  have A26 : AtD K mg "parse_field" pField ["reader"] := atd_mk X G a26 l26 c26 k26 fun _ _ _ _ _ _ us hl => match us, hl with | [_], _ => rfl
  have A27 : AtD K mg "parse_owner" pOwner ["reader"] := atd_mk X G a27 l27 c27 k27 fun _ _ _ _ _ _ us hl => match us, hl with | [_], _ => rfl
  have A28 : AtD K mg "parse_table" pTable ["reader"] := atd_mk X G a28 l28 c28 k28 fun _ _ _ _ _ _ us hl => match us, hl with | [_], _ => rfl
  have A29 : AtD K mg "parse_key" pKey ["reader"] := atd_mk X G a29 l29 c29 k29 fun _ _ _ _ _ _ us hl => match us, hl with | [_], _ => rfl
  have A30 : AtD K mg "parse_default" pDefault ["reader"] := atd_mk X G a30 l30 c30 k30 fun _ _ _ _ _ _ us hl => match us, hl with | [_], _ => rfl
  have A31 : AtD K mg "parse_args" pArgs ["reader"] := atd_mk X G a31 l31 c31 k31 fun _ _ _ _ _ _ us hl => match us, hl with | [_], _ => rfl
  have A32 : AtD K mg "parse_block" pBlock ["reader", "outer"] := atd_mk X G a32 l32 c32 k32 fun _ _ _ _ _ _ us hl => match us, hl with | [_, _], _ => rfl
  have A33 : AtD K mg "parse_statement" pStmt ["reader", "outer"] := atd_mk X G a33 l33 c33 k33 fun _ _ _ _ _ _ us hl => match us, hl with | [_, _], _ => rfl
  have A34 : AtD K mg "parse_condition" pCond ["reader"] := atd_mk X G a34 l34 c34 k34 fun _ _ _ _ _ _ us hl => match us, hl with | [_], _ => rfl
  have A35 : AtD K mg "parse_comparison" pCmp ["reader"] := atd_mk X G a35 l35 c35 k35 fun _ _ _ _ _ _ us hl => match us, hl with | [_], _ => rfl
  have A36 : AtD K mg "parse_emits" pEmits ["reader"] := atd_mk X G a36 l36 c36 k36 fun _ _ _ _ _ _ us hl => match us, hl with | [_], _ => rfl
  have A37 : AtD K mg "_law_name" sName ["state", "k"] := atd_mk X G a37 l37 c37 k37 fun _ _ _ _ _ _ us hl => match us, hl with | [_, _], _ => rfl
  have A38 : AtD K mg "_law_lines" sLines ["state"] := atd_mk X G a38 l38 c38 k38 fun _ _ _ _ _ _ us hl => match us, hl with | [_], _ => rfl
  have A39 : AtD K mg "_law_outcome" sOutcome ["lines"] := atd_mk X G a39 l39 c39 k39 fun _ _ _ _ _ _ us hl => match us, hl with | [_], _ => rfl
  have A40 : AtD K mg "_law_faulty" sFaulty ["state", "lines", "head"] := atd_mk X G a40 l40 c40 k40 fun _ _ _ _ _ _ us hl => match us, hl with | [_, _, _], _ => rfl
  have A41 : AtD K mg "_law_nested" sNested ["blocks", "nots"] := atd_mk X G a41 l41 c41 k41 fun _ _ _ _ _ _ us hl => match us, hl with | [_, _], _ => rfl
  have A42 : AtD K mg "is_decimal" sIsDec ["part"] := atd_mk X G a42 l42 c42 k42 fun _ _ _ _ _ _ us hl => match us, hl with | [_], _ => rfl
  refine ⟨PySem.W.fnOf "law" "law" (defArgs sLaw) (defBody sLaw) (defScope sLaw) .none kV43 doc43 pm43 an43 cd43 ct43, cT0, Pt, dr, ⟨hrec, htab, hno⟩, fun s u => .of_eq rfl, fun base _ _ TB => ?_⟩
  have Bt : Blt mg := ⟨PySem.W.mg_none_of X G zInt, PySem.W.mg_none_of X G zAbs, PySem.W.mg_none_of X G zLen⟩
  have DC : Df P w K mg base CX0 1 "consists_of" ["part", "chars"] (spCons Pt) := ⟨_, _, ok_cons l44 c44 T TB, PySem.W.mg_of X G a44, k44, (fun_mk (st := sCons) l44 c44 k44).binds fun _ _ _ _ _ _ us hl => match us, hl with | [_, _], _ => rfl⟩
  have D9 : Df P w K mg base CX0 1 "is_reserved" ["name"] spIsRes := A0.df fun f fd F => ok_isres F T
  have DR : Df P w K mg base CX0 1 "in_run" ["char"] spInRun := A4.df fun f fd F => ok_inrun F T
  have DCE : Df P w K mg base CX0 1 "comment_end" ["text", "at"] spComEnd := A2.df fun f fd F => ok_comend F T
  have DPE : Df P w K mg base CX0 2 "part_end" ["text", "at"] spPartEnd := A3.df fun f fd F => ok_partend F T DR
  have DDe : Df P w K mg base CX0 2 "is_decimal" ["part"] (spIsDec Pt) := A42.df fun f fd F => ok_isdec F T DC
  have DNu : Df P w K mg base CX0 3 "is_number" ["part"] (spIsNum Pt) := A6.df fun f fd F => ok_isnum F T DC DDe
  have DV : Df P w K mg base CX0 1 "number_value" ["part"] spNumVal := A7.df fun f fd F => ok_numval F T
  have DO : Df P w K mg base (L2.CX P w) 4 "token_of" ["part", "line"] (spTokOf Pt cT) := A5.df fun f fd F => ok_tokof F T D9 DNu DV TT
  have DT : Df P w K mg base (L2.CX P w) 5 "tokenize" ["text"] (spTokenize Pt cT) := A1.df fun f fd F => ok_tokenize F T DCE DPE DO
  have D1 : Df P w K mg base CX0 1 "_law_state" ["script"] (spState K) := A8.df fun f fd F => ok_state F Bt
  have D2 : Df P w K mg base CX0 1 "_law_draw" ["state", "many"] spDraw := A9.df fun f fd F => ok_draw F Bt
  have DP : Df P w K mg base CX0 2 "_law_pick" ["state", "row"] (spPick K) := A10.df fun f fd F => by
    obtain ⟨fD, fdD, GD, gD, kD, bD⟩ := D2.ex
    exact ok_pick F Bt GD gD kD bD
  have FM0 := fun_mk (st := rInit) lM0 cM0 kM0
  have BM0 := FM0.binds (ps := ["self", "tokens"]) fun _ _ _ _ _ _ us hl => match us, hl with | [_, _], _ => rfl
  have FM1 := fun_mk (st := rKind) lM1 cM1 kM1
  have BM1 := FM1.binds (ps := ["self"]) fun _ _ _ _ _ _ us hl => match us, hl with | [_], _ => rfl
  have FM2 := fun_mk (st := rValue) lM2 cM2 kM2
  have BM2 := FM2.binds (ps := ["self"]) fun _ _ _ _ _ _ us hl => match us, hl with | [_], _ => rfl
  have FM3 := fun_mk (st := rFail) lM3 cM3 kM3
  have BM3 := FM3.binds (ps := ["self"]) fun _ _ _ _ _ _ us hl => match us, hl with | [_], _ => rfl
  have FM4 := fun_mk (st := rSkip) lM4 cM4 kM4
  have BM4 := FM4.binds (ps := ["self", "word"]) fun _ _ _ _ _ _ us hl => match us, hl with | [_, _], _ => rfl
  have FM5 := fun_mk (st := rTake) lM5 cM5 kM5
  have BM5 := FM5.binds (ps := ["self", "word"]) fun _ _ _ _ _ _ us hl => match us, hl with | [_, _], _ => rfl
  have FM6 := fun_mk (st := rTakeK) lM6 cM6 kM6
  have BM6 := FM6.binds (ps := ["self", "kind"]) fun _ _ _ _ _ _ us hl => match us, hl with | [_, _], _ => rfl
  have FM7 := fun_mk (st := rName) lM7 cM7 kM7
  have BM7 := FM7.binds (ps := ["self"]) fun _ _ _ _ _ _ us hl => match us, hl with | [_], _ => rfl
  have FM8 := fun_mk (st := rNumber) lM8 cM8 kM8
  have BM8 := FM8.binds (ps := ["self"]) fun _ _ _ _ _ _ us hl => match us, hl with | [_], _ => rfl
  have FM9 := fun_mk (st := rEnd) lM9 cM9 kM9
  have BM9 := FM9.binds (ps := ["self"]) fun _ _ _ _ _ _ us hl => match us, hl with | [_], _ => rfl
  have FM10 := fun_mk (st := rOne) lM10 cM10 kM10
  have BM10 := FM10.binds (ps := ["self", "words"]) fun _ _ _ _ _ _ us hl => match us, hl with | [_, _], _ => rfl
  have RC : RdC K cRd := ⟨⟨pgRd, hdRd, poRd, saRd⟩, nTok, nAt⟩
  have Mknd : Mt P w K mg base CX0 1 cRd "kind" ["self"] (sprKind cRd) := ⟨_, _, ok_rKind (k := 0) FM1 RC, ⟨aM1, iM1, kM1⟩, BM1⟩
  have Mval : Mt P w K mg base CX0 1 cRd "value" ["self"] (sprValue cRd) := ⟨_, _, ok_rValue (k := 0) FM2 RC, ⟨aM2, iM2, kM2⟩, BM2⟩
  have Mfail : Mt P w K mg base (L2.CX P w) 1 cRd "fail" ["self"] (sprFail cRd cT) := ⟨_, _, ok_rFail (k := 0) FM3 RC TT, ⟨aM3, iM3, kM3⟩, BM3⟩
  have Mskip : Mt P w K mg base CX0 2 cRd "skip" ["self", "word"] (sprSkip cRd) := ⟨_, _, ok_rSkip (k := 0) FM4 RC Mval, ⟨aM4, iM4, kM4⟩, BM4⟩
  have Mtake : Mt P w K mg base (L2.CX P w) 3 cRd "take" ["self", "word"] (sprTake cRd cT) := ⟨_, _, ok_rTake (k := 0) FM5 RC Mskip Mfail, ⟨aM5, iM5, kM5⟩, BM5⟩
  have Mtkd : Mt P w K mg base (L2.CX P w) 2 cRd "take_kind" ["self", "kind"] (sprTakeK cRd cT) := ⟨_, _, ok_rTakeK (k := 0) FM6 RC Mknd Mval Mfail, ⟨aM6, iM6, kM6⟩, BM6⟩
  have Mname : Mt P w K mg base (L2.CX P w) 3 cRd "take_name" ["self"] (sprName cRd cT) := ⟨_, _, ok_rName (k := 0) FM7 RC Mtkd, ⟨aM7, iM7, kM7⟩, BM7⟩
  have Mnum : Mt P w K mg base (L2.CX P w) 3 cRd "take_number" ["self"] (sprNumber cRd cT) := ⟨_, _, ok_rNumber (k := 0) FM8 RC Mtkd, ⟨aM8, iM8, kM8⟩, BM8⟩
  have Mfin : Mt P w K mg base (L2.CX P w) 2 cRd "check_end" ["self"] (sprEnd cRd cT) := ⟨_, _, ok_rEnd (k := 0) FM9 RC Mknd Mfail, ⟨aM9, iM9, kM9⟩, BM9⟩
  have Mone : Mt P w K mg base (L2.CX P w) 2 cRd "take_one" ["self", "words"] (sprOne K cRd cT) := ⟨_, _, ok_rOne (k := 0) FM10 RC Mval Mfail, ⟨aM10, iM10, kM10⟩, BM10⟩
  have RMM : RM P w K mg base 0 cRd cT := ⟨RC, Mval, Mknd, Mfail, Mskip, Mtake, Mone, Mname, Mnum, Mfin⟩
  have PT0 : PTx K mg := ⟨⟨_, PySem.W.mg_of X G aEND, ⟨_, _, _, lEND, rfl, rfl, by rw [← Array.length_toList, ← vEND.length]; decide +kernel, vEND⟩⟩, ⟨_, PySem.W.mg_of X G aOWN, ⟨_, _, _, lOWN, rfl, rfl, by rw [← Array.length_toList, ← vOWN.length]; decide +kernel, vOWN⟩⟩, ⟨_, PySem.W.mg_of X G aOPS, ⟨_, _, _, lOPS, rfl, rfl, by rw [← Array.length_toList, ← vOPS.length]; decide +kernel, vOPS⟩⟩, ⟨_, PySem.W.mg_of X G aKEY, ⟨_, _, _, lKEY, rfl, rfl, by rw [← Array.length_toList, ← vKEY.length]; decide +kernel, vKEY⟩⟩, ⟨_, PySem.W.mg_of X G aCMP, ⟨_, _, _, lCMP, rfl, rfl, by rw [← Array.length_toList, ← vCMP.length]; decide +kernel, vCMP⟩⟩, ⟨_, PySem.W.mg_of X G aMBL, rMBL⟩, ⟨_, PySem.W.mg_of X G aMNO, rMNO⟩⟩
  have Qwidth : Df P w K mg base (L2.CX P w) 4 "parse_width" RP (spP K cRd cT mWidth) := A14.df fun f fd F => ok_pWidth F RMM
  have Qtarget : Df P w K mg base (L2.CX P w) 4 "parse_target" RP (spPV cRd cT mTargetV) := A20.df fun f fd F => ok_pTarget F RMM PT0
  have Qowner : Df P w K mg base (L2.CX P w) 4 "parse_owner" RP (spPV cRd cT mOwnerV) := A27.df fun f fd F => ok_pOwner F RMM PT0
  have Qargs : Df P w K mg base (L2.CX P w) 4 "parse_args" RP (spP K cRd cT (asL mArgs)) := A31.df fun f fd F => ok_pArgs F RMM
  have Qemits : Df P w K mg base (L2.CX P w) 4 "parse_emits" RP (spP K cRd cT (asL mEmits)) := A36.df fun f fd F => ok_pEmits F RMM
  have Qfields : Df P w K mg base (L2.CX P w) 5 "parse_fields" RP (spP K cRd cT (asL mFields)) := A13.df fun f fd F => ok_pFields F RMM Qwidth
  have Qheader : Df P w K mg base (L2.CX P w) 6 "parse_header" RP (spP K cRd cT mHeader) := A12.df fun f fd F => ok_pHeader F RMM Qfields
  have Qfield : Df P w K mg base (L2.CX P w) 5 "parse_field" RP (spP K cRd cT mField) := A26.df fun f fd F => ok_pField F RMM Qowner
  have Qrow : Df P w K mg base (L2.CX P w) 5 "parse_row" RP (spP K cRd cT mRow) := A18.df fun f fd F => ok_pRow F RMM Qtarget
  have QselEnd : Df P w K mg base (L2.CX P w) 5 "parse_select_end" RP (spPV cRd cT mSelEnd) := A19.df fun f fd F => ok_pSelEnd F RMM Qtarget
  have Qway : Df P w K mg base (L2.CX P w) 6 "parse_way" RP (spP K cRd cT mWay) := A17.df fun f fd F => ok_pWay F RMM Qtarget Qfield Qrow QselEnd
  have Qstate : Df P w K mg base (L2.CX P w) 7 "parse_state" RP (spP K cRd cT mState) := A16.df fun f fd F => ok_pState F RMM Qway
  have Qstates : Df P w K mg base (L2.CX P w) 8 "parse_states" RP (spP K cRd cT (asL mStates)) := A15.df fun f fd F => ok_pStates F RMM Qstate
  have Qparams : Df P w K mg base (L2.CX P w) 5 "parse_params" RP (spP K cRd cT (asL mParams)) := A22.df fun f fd F => ok_pParams F RMM Qwidth
  have Qoperand : Df P w K mg base (L2.CX P w) 5 "parse_operand" RP (spP K cRd cT mOperand) := A25.df fun f fd F => ok_pOperand F RMM PT0 Qowner
  have Qexpr : Df P w K mg base (L2.CX P w) 6 "parse_expression" RP (spP K cRd cT mExpr) := A24.df fun f fd F => ok_pExpr F RMM PT0 Qoperand
  have Qkey : Df P w K mg base (L2.CX P w) 6 "parse_key" RP (spP K cRd cT mKey) := A29.df fun f fd F => ok_pKey F RMM PT0 Qfield
  have Qdefault : Df P w K mg base (L2.CX P w) 5 "parse_default" RP (spP K cRd cT mDefault) := A30.df fun f fd F => ok_pDefault F RMM Qargs
  have Qcmp : Df P w K mg base (L2.CX P w) 6 "parse_comparison" RP (spP K cRd cT mCmp) := A35.df fun f fd F => ok_pCmp F RMM PT0 Qfield
  have Qoper : Df P w K mg base (L2.CX P w) 7 "parse_operation" RP (spP K cRd cT mOper) := A23.df fun f fd F => ok_pOper F RMM Qexpr Qfield
  have Qaction : Df P w K mg base (L2.CX P w) 8 "parse_action" RP (spP K cRd cT mAction) := A21.df fun f fd F => ok_pAction F RMM Qparams Qoper
  have Qtable : Df P w K mg base (L2.CX P w) 7 "parse_table" RP (spP K cRd cT mTable) := A28.df fun f fd F => ok_pTable F RMM Qkey Qdefault
  have Qcond : Df P w K mg base (L2.CX P w) 7 "parse_condition" RP (spP K cRd cT mCond) := A34.df fun f fd F => ok_pCond F RMM PT0 (PySem.W.mg_none_of X G zRange) Qcmp
  have Qs00 : Df P w K mg base (L2.CX P w) 8 "parse_statement" RO (fun _ _ _ _ => False) := A33.df fun f fd F => ok_none F
  have Qb0 : Df P w K mg base (L2.CX P w) 9 "parse_block" RO (spBlk K cRd cT 0) := A32.df fun f fd F => ok_pBlock0 (by decide) F RMM PT0 Qs00
  have Qs0 : Df P w K mg base (L2.CX P w) 10 "parse_statement" RO (spStm K cRd cT 0) := A33.df fun f fd F => ok_pStmt (by decide) F RMM Qcond Qb0
  have Qb1 : Df P w K mg base (L2.CX P w) 11 "parse_block" RO (spBlk K cRd cT 1) := A32.df fun f fd F => ok_pBlockS (by decide) F RMM PT0 Qs0
  have Qs1 : Df P w K mg base (L2.CX P w) 12 "parse_statement" RO (spStm K cRd cT 1) := A33.df fun f fd F => ok_pStmt (by decide) F RMM Qcond Qb1
  have Qb2 : Df P w K mg base (L2.CX P w) 13 "parse_block" RO (spBlk K cRd cT 2) := A32.df fun f fd F => ok_pBlockS (by decide) F RMM PT0 Qs1
  have Qs2 : Df P w K mg base (L2.CX P w) 14 "parse_statement" RO (spStm K cRd cT 2) := A33.df fun f fd F => ok_pStmt (by decide) F RMM Qcond Qb2
  have Qb3 : Df P w K mg base (L2.CX P w) 15 "parse_block" RO (spBlk K cRd cT 3) := A32.df fun f fd F => ok_pBlockS (by decide) F RMM PT0 Qs2
  have Qs3 : Df P w K mg base (L2.CX P w) 16 "parse_statement" RO (spStm K cRd cT 3) := A33.df fun f fd F => ok_pStmt (by decide) F RMM Qcond Qb3
  have Qb4 : Df P w K mg base (L2.CX P w) 17 "parse_block" RO (spBlk K cRd cT 4) := A32.df fun f fd F => ok_pBlockS (by decide) F RMM PT0 Qs3
  have Qs4 : Df P w K mg base (L2.CX P w) 18 "parse_statement" RO (spStm K cRd cT 4) := A33.df fun f fd F => ok_pStmt (by decide) F RMM Qcond Qb4
  have Qb5 : Df P w K mg base (L2.CX P w) 19 "parse_block" RO (spBlk K cRd cT 5) := A32.df fun f fd F => ok_pBlockS (by decide) F RMM PT0 Qs4
  have Qs5 : Df P w K mg base (L2.CX P w) 20 "parse_statement" RO (spStm K cRd cT 5) := A33.df fun f fd F => ok_pStmt (by decide) F RMM Qcond Qb5
  have Qb6 : Df P w K mg base (L2.CX P w) 21 "parse_block" RO (spBlk K cRd cT 6) := A32.df fun f fd F => ok_pBlockS (by decide) F RMM PT0 Qs5
  have Qs6 : Df P w K mg base (L2.CX P w) 22 "parse_statement" RO (spStm K cRd cT 6) := A33.df fun f fd F => ok_pStmt (by decide) F RMM Qcond Qb6
  have Qb7 : Df P w K mg base (L2.CX P w) 23 "parse_block" RO (spBlk K cRd cT 7) := A32.df fun f fd F => ok_pBlockS (by decide) F RMM PT0 Qs6
  have Qs7 : Df P w K mg base (L2.CX P w) 24 "parse_statement" RO (spStm K cRd cT 7) := A33.df fun f fd F => ok_pStmt (by decide) F RMM Qcond Qb7
  have Qb8 : Df P w K mg base (L2.CX P w) 25 "parse_block" RO (spBlk K cRd cT 8) := A32.df fun f fd F => ok_pBlockS (by decide) F RMM PT0 Qs7
  have QP : Df P w K mg base (L2.CX P w) 26 "parse_program" ["text"] (spProgram K Pt cT) := A11.df fun f fd F => ok_pProgram F RMM ⟨mkRd, aM0, iM0, kcRd⟩ (ok_rInit (k := 0) FM0 RC) BM0 (PySem.W.mg_of X G aRd) DT Qheader Qfields Qstates Qaction Qtable Qb8 Qemits
  have OE : OutE P K mg cT := { TE := TT, ex := ⟨hgT, hkT, eT, hdT, haT, hn, ht, hmT⟩, self := PySem.W.exm_ref eT hdT tT sfT, nT := nT, zIsi := PySem.W.mg_none_of X G zIsi, zTuple := PySem.W.mg_none_of X G zTuple, zLen := PySem.W.mg_none_of X G zLen }
  have E1 : Df P w K mg base CX0 3 "_law_name" ["state", "k"] spName := A37.df fun f fd F => ok_name F (PySem.W.mg_none_of X G zStr) DP
  have E2 : Df P w K mg base CX0 4 "_law_lines" ["state"] (spLines K) := A38.df fun f fd F => ok_lines F (PySem.W.mg_none_of X G zRange) (PySem.W.mg_none_of X G zLen) D2 E1
  have E3 : Df P w K mg base CX0 3 "_law_faulty" ["state", "lines", "head"] spFaulty := A40.df fun f fd F => ok_faulty F (PySem.W.mg_none_of X G zLen) D2 DP
  have E4 : Df P w K mg base CX0 1 "_law_nested" ["blocks", "nots"] spNested := A41.df fun f fd F => ok_nested F (PySem.W.mg_none_of X G zRange)
  have E5 : Df P w K mg base CX0 27 "_law_outcome" ["lines"] (spOutcome K Pt) := A39.df fun f fd F => ok_outcome F OE QP
  exact ok_law (fun_mk (st := sLaw) l43 c43 k43) D1 D2 E2 E3 E4 E5
theorem tri0 : TriplesOk (#[] : Array Value).toList := by
  first | trivial | exact .nil | decide
theorem walk {l : PySem.W.OpenLaw} {q : Program} {loose : List Str} {XP : (Str → Option Value) → Heap → Prop} {YP : World → Heap → Prop} {d : DefRec} {K : Params → PySem.W.Frag} (hn : l.most = some 63) (hdf : d.params.defaults = [])
    (hY : ∀ (w : World) (h : Heap), YP w h → (K w.params).In h)
    (F : ∀ (w : World) (mg : Str → Option Value) (fa : Addr) (h : Heap), (K w.params).In h → h.Ns mainGlobals mg → mg d.name = some (.ref fa) →
      ∃ (fd : FuncData) (c Pt : Addr) (dr : DefRec), ((recsOf q).find? (fun e => e.name == ("consists_of" : Str)) = some dr ∧ PySem.W.tabIn (K w.params) "consists_of" = some (c, Pt) ∧ (K w.params).lookup Pt = none) ∧ (∀ (s : Shared) (u : Value), BindsTo s fd ⟨[u], []⟩ [("script", u)]) ∧
        ∀ base : Heap, (K w.params).In base → base.Ns mainGlobals mg → TabB base mg c Pt → FnOk l.prog w (K w.params) mg base CX0 28 fa fd ["script"] (spLaw (K w.params) Pt)) :
    PySem.W.WalkO q loose XP YP l.row.toRowW d [] (fun f vs => PySem.call f vs) := by
  refine Att.attach_callB hn hdf fun w s0 s1 mg mb fa o pm cd doc a vs ns G Y ho hd hcd hmg hobj hints hlen hbits hg => ?_
  have KX := hY w _ Y
  obtain ⟨fd, c, Pt, dr, ⟨hrec, htab, hno⟩, hb, hF⟩ := F w mg fa _ KX G.T.g hmg
  obtain ⟨hCd, hTb⟩ := PySem.W.tab_of G.T KX hrec htab
  have one : ∀ {R : Addr × Addr → Prop}, R (c, Pt) → ∀ p ∈ [(c, Pt)], R p := fun h p hp => by
    obtain rfl := List.mem_singleton.mp hp
    exact h
  have mem : (c, Pt) ∈ [(c, Pt)] := List.mem_singleton.mpr rfl
  exact LamX.law_callTs (cs := [(c, Pt)]) (CX := CX0) (k := 28) (x := "script") (sp := spLaw (K w.params) Pt) KX G.T.g G.T.b G.T.builtins G.T.nolimit hg (one hTb) (one hno) (one hCd) G.T.bmain hobj hints (Nat.le_trans hlen (by decide)) ⟨rfl, by decide, by decide⟩
    (fun base h1 h2 h3 => hF base h1 h2 ⟨(h3 _ mem).code, (h3 _ mem).bm, (h3 _ mem).gP⟩) hb (fun H hH hS => ⟨a, ns, rfl, hS, hlen, ⟨#[], hH _ mem, tri0⟩, fun _ => rfl⟩) fun _ _ _ z => z
end Pk
open PySem PySem.W PyProof.Rows
set_option maxRecDepth 100000 in
set_option maxHeartbeats 0 in
theorem PySem.Challenge.cw_wholepackets_k04_errors_of_parsing_holds : PySem.Challenge.rw_wholepackets_k04_errors_of_parsing.Holds := by
  w_on; o_law; k_head; (case hw => w_witness2)
  k_fill
  refine Pk.walk (l := PySem.Challenge.rw_wholepackets_k04_errors_of_parsing) rfl rfl (fun w h Y => PySem.W.kIn_of Y) ?F
  case F =>
    intro w mg fa h KX G hmg
    refine' Pk.all_mk KX G hmg ?a0 ?l0 ?c0 ?k0 ?a1 ?l1 ?c1 ?k1 ?a2 ?l2 ?c2 ?k2 ?a3 ?l3 ?c3 ?k3 ?a4 ?l4 ?c4 ?k4 ?a5 ?l5 ?c5 ?k5 ?a6 ?l6 ?c6 ?k6 ?a7 ?l7 ?c7 ?k7 ?a8 ?l8 ?c8 ?k8 ?a9 ?l9 ?c9 ?k9 ?a10 ?l10 ?c10 ?k10 ?a11 ?l11 ?c11 ?k11 ?a12 ?l12 ?c12 ?k12 ?a13 ?l13 ?c13 ?k13 ?a14 ?l14 ?c14 ?k14 ?a15 ?l15 ?c15 ?k15 ?a16 ?l16 ?c16 ?k16 ?a17 ?l17 ?c17 ?k17 ?a18 ?l18 ?c18 ?k18 ?a19 ?l19 ?c19 ?k19 ?a20 ?l20 ?c20 ?k20 ?a21 ?l21 ?c21 ?k21 ?a22 ?l22 ?c22 ?k22 ?a23 ?l23 ?c23 ?k23 ?a24 ?l24 ?c24 ?k24 ?a25 ?l25 ?c25 ?k25 ?a26 ?l26 ?c26 ?k26 ?a27 ?l27 ?c27 ?k27 ?a28 ?l28 ?c28 ?k28 ?a29 ?l29 ?c29 ?k29 ?a30 ?l30 ?c30 ?k30 ?a31 ?l31 ?c31 ?k31 ?a32 ?l32 ?c32 ?k32 ?a33 ?l33 ?c33 ?k33 ?a34 ?l34 ?c34 ?k34 ?a35 ?l35 ?c35 ?k35 ?a36 ?l36 ?c36 ?k36 ?a37 ?l37 ?c37 ?k37 ?a38 ?l38 ?c38 ?k38 ?a39 ?l39 ?c39 ?k39 ?a40 ?l40 ?c40 ?k40 ?a41 ?l41 ?c41 ?k41 ?a42 ?l42 ?c42 ?k42 ?a43 ?l43 ?c43 ?k43 ?a44 ?l44 ?c44 ?k44 ?aLET ?rLET ?aDIG ?rDIG ?aHEX ?rHEX ?aLNM ?rLNM ?aMDG ?rMDG ?aMHX ?rMHX ?aGRT ?rGRT ?aMBL ?rMBL ?aMNO ?rMNO ?aRES ?lRES ?vRES ?aLNG ?lLNG ?vLNG ?aSHT ?lSHT ?vSHT ?aEND ?lEND ?vEND ?aOWN ?lOWN ?vOWN ?aOPS ?lOPS ?vOPS ?aKEY ?lKEY ?vKEY ?aCMP ?lCMP ?vCMP ?zInt ?zLen ?zAll ?zAbs ?zIsi ?zList ?zTuple ?zBool ?zStr ?zRange ?zVE ?zSup ?hrec ?htab ?hno ?gT ?xT ?rT ?saT ?kT ?vT ?nT ?suT ?mrT ?iT ?uT ?lT ?oT ?pT ?dT ?fT ?fiT ?zT ?eT ?tT ?hgT ?hkT ?hdT ?haT ?hmT ?sfT ?veT ?hn ?ht ?tp ?top ?aRd ?aM0 ?iM0 ?lM0 ?cM0 ?kM0 ?aM1 ?iM1 ?lM1 ?cM1 ?kM1 ?aM2 ?iM2 ?lM2 ?cM2 ?kM2 ?aM3 ?iM3 ?lM3 ?cM3 ?kM3 ?aM4 ?iM4 ?lM4 ?cM4 ?kM4 ?aM5 ?iM5 ?lM5 ?cM5 ?kM5 ?aM6 ?iM6 ?lM6 ?cM6 ?kM6 ?aM7 ?iM7 ?lM7 ?cM7 ?kM7 ?aM8 ?iM8 ?lM8 ?cM8 ?kM8 ?aM9 ?iM9 ?lM9 ?cM9 ?kM9 ?aM10 ?iM10 ?lM10 ?cM10 ?kM10 ?pgRd ?hdRd ?poRd ?saRd ?mkRd ?kcRd ?nTok ?nAt
    (case a0 => k_is)
    (case l0 => k_is)
    (case c0 => k_is)
    (case k0 => k_is)
    (case a1 => k_is)
    (case l1 => k_is)
    (case c1 => k_is)
    (case k1 => k_is)
    (case a2 => k_is)
    (case l2 => k_is)
    (case c2 => k_is)
    (case k2 => k_is)
    (case a3 => k_is)
    (case l3 => k_is)
    (case c3 => k_is)
    (case k3 => k_is)
    (case a4 => k_is)
    (case l4 => k_is)
    (case c4 => k_is)
    (case k4 => k_is)
    (case a5 => k_is)
    (case l5 => k_is)
    (case c5 => k_is)
    (case k5 => k_is)
    (case a6 => k_is)
    (case l6 => k_is)
    (case c6 => k_is)
    (case k6 => k_is)
    (case a7 => k_is)
    (case l7 => k_is)
    (case c7 => k_is)
    (case k7 => k_is)
    (case a8 => k_is)
    (case l8 => k_is)
    (case c8 => k_is)
    (case k8 => k_is)
    (case a9 => k_is)
    (case l9 => k_is)
    (case c9 => k_is)
    (case k9 => k_is)
    (case a10 => k_is)
    (case l10 => k_is)
    (case c10 => k_is)
    (case k10 => k_is)
    (case a11 => k_is)
    (case l11 => k_is)
    (case c11 => k_is)
    (case k11 => k_is)
    (case a12 => k_is)
    (case l12 => k_is)
    (case c12 => k_is)
    (case k12 => k_is)
    (case a13 => k_is)
    (case l13 => k_is)
    (case c13 => k_is)
    (case k13 => k_is)
    (case a14 => k_is)
    (case l14 => k_is)
    (case c14 => k_is)
    (case k14 => k_is)
    (case a15 => k_is)
    (case l15 => k_is)
    (case c15 => k_is)
    (case k15 => k_is)
    (case a16 => k_is)
    (case l16 => k_is)
    (case c16 => k_is)
    (case k16 => k_is)
    (case a17 => k_is)
    (case l17 => k_is)
    (case c17 => k_is)
    (case k17 => k_is)
    (case a18 => k_is)
    (case l18 => k_is)
    (case c18 => k_is)
    (case k18 => k_is)
    (case a19 => k_is)
    (case l19 => k_is)
    (case c19 => k_is)
    (case k19 => k_is)
    (case a20 => k_is)
    (case l20 => k_is)
    (case c20 => k_is)
    (case k20 => k_is)
    (case a21 => k_is)
    (case l21 => k_is)
    (case c21 => k_is)
    (case k21 => k_is)
    (case a22 => k_is)
    (case l22 => k_is)
    (case c22 => k_is)
    (case k22 => k_is)
    (case a23 => k_is)
    (case l23 => k_is)
    (case c23 => k_is)
    (case k23 => k_is)
    (case a24 => k_is)
    (case l24 => k_is)
    (case c24 => k_is)
    (case k24 => k_is)
    (case a25 => k_is)
    (case l25 => k_is)
    (case c25 => k_is)
    (case k25 => k_is)
    (case a26 => k_is)
    (case l26 => k_is)
    (case c26 => k_is)
    (case k26 => k_is)
    (case a27 => k_is)
    (case l27 => k_is)
    (case c27 => k_is)
    (case k27 => k_is)
    (case a28 => k_is)
    (case l28 => k_is)
    (case c28 => k_is)
    (case k28 => k_is)
    (case a29 => k_is)
    (case l29 => k_is)
    (case c29 => k_is)
    (case k29 => k_is)
    (case a30 => k_is)
    (case l30 => k_is)
    (case c30 => k_is)
    (case k30 => k_is)
    (case a31 => k_is)
    (case l31 => k_is)
    (case c31 => k_is)
    (case k31 => k_is)
    (case a32 => k_is)
    (case l32 => k_is)
    (case c32 => k_is)
    (case k32 => k_is)
    (case a33 => k_is)
    (case l33 => k_is)
    (case c33 => k_is)
    (case k33 => k_is)
    (case a34 => k_is)
    (case l34 => k_is)
    (case c34 => k_is)
    (case k34 => k_is)
    (case a35 => k_is)
    (case l35 => k_is)
    (case c35 => k_is)
    (case k35 => k_is)
    (case a36 => k_is)
    (case l36 => k_is)
    (case c36 => k_is)
    (case k36 => k_is)
    (case a37 => k_is)
    (case l37 => k_is)
    (case c37 => k_is)
    (case k37 => k_is)
    (case a38 => k_is)
    (case l38 => k_is)
    (case c38 => k_is)
    (case k38 => k_is)
    (case a39 => k_is)
    (case l39 => k_is)
    (case c39 => k_is)
    (case k39 => k_is)
    (case a40 => k_is)
    (case l40 => k_is)
    (case c40 => k_is)
    (case k40 => k_is)
    (case a41 => k_is)
    (case l41 => k_is)
    (case c41 => k_is)
    (case k41 => k_is)
    (case a42 => k_is)
    (case l42 => k_is)
    (case c42 => k_is)
    (case k42 => k_is)
    (case a43 => k_is)
    (case l43 => k_is)
    (case c43 => k_is)
    (case k43 => k_is)
    (case a44 => k_is)
    (case l44 => k_is)
    (case c44 => k_is)
    (case k44 => k_is)
    (case aLET => k_is)
    (case rLET => exact ⟨_, rfl⟩)
    (case aDIG => k_is)
    (case rDIG => exact ⟨_, rfl⟩)
    (case aHEX => k_is)
    (case rHEX => exact ⟨_, rfl⟩)
    (case aLNM => k_is)
    (case rLNM => exact ⟨_, rfl⟩)
    (case aMDG => k_is)
    (case rMDG => exact ⟨_, rfl⟩)
    (case aMHX => k_is)
    (case rMHX => exact ⟨_, rfl⟩)
    (case aGRT => k_is)
    (case rGRT => exact ⟨_, rfl⟩)
    (case aMBL => k_is)
    (case rMBL => exact ⟨_, rfl⟩)
    (case aMNO => k_is)
    (case rMNO => exact ⟨_, rfl⟩)
    (case aRES => k_is)
    (case lRES => k_is)
    (case vRES => repeat (first | exact .nil | refine .cons ⟨_, rfl⟩ ?_))
    (case aLNG => k_is)
    (case lLNG => k_is)
    (case vLNG => repeat (first | exact .nil | refine .cons ⟨_, rfl⟩ ?_))
    (case aSHT => k_is)
    (case lSHT => k_is)
    (case vSHT => repeat (first | exact .nil | refine .cons ⟨_, rfl⟩ ?_))
    (case aEND => k_is)
    (case lEND => k_is)
    (case vEND => repeat (first | exact .nil | refine .cons ⟨_, rfl⟩ ?_))
    (case aOWN => k_is)
    (case lOWN => k_is)
    (case vOWN => repeat (first | exact .nil | refine .cons ⟨_, rfl⟩ ?_))
    (case aOPS => k_is)
    (case lOPS => k_is)
    (case vOPS => repeat (first | exact .nil | refine .cons ⟨_, rfl⟩ ?_))
    (case aKEY => k_is)
    (case lKEY => k_is)
    (case vKEY => repeat (first | exact .nil | refine .cons ⟨_, rfl⟩ ?_))
    (case aCMP => k_is)
    (case lCMP => k_is)
    (case vCMP => repeat (first | exact .nil | refine .cons ⟨_, rfl⟩ ?_))
    (case zInt => k_is)
    (case zLen => k_is)
    (case zAll => k_is)
    (case zAbs => k_is)
    (case zIsi => k_is)
    (case zList => k_is)
    (case zTuple => k_is)
    (case zBool => k_is)
    (case zStr => k_is)
    (case zRange => k_is)
    (case zVE => k_is)
    (case zSup => k_is)
    (case hrec => rfl)
    (case htab => first | k_is | with_unfolding_all rfl)
    (case hno => first | rfl | kernel_rfl | with_unfolding_all rfl)
    (case gT => k_is)
    (case xT => k_is)
    (case rT => first | rfl | decide +kernel)
    (case saT => k_is)
    (case kT => k_is)
    (case vT => k_is)
    (case nT => k_is)
    (case suT => first | ks_is | kernel_rfl | with_unfolding_all rfl)
    (case mrT => k_is)
    (case iT => k_is)
    (case uT => k_is)
    (case lT => k_is)
    (case oT => k_is)
    (case pT => rfl)
    (case dT => k_is)
    (case fT => rfl)
    (case fiT => first | rfl | decide +kernel)
    (case zT => k_is)
    (case eT => k_is)
    (case tT => k_is)
    (case hgT => k_is)
    (case hkT => k_is)
    (case hdT => k_is)
    (case haT => k_is)
    (case hmT => k_is)
    (case sfT => first | k_is | rfl | kernel_rfl)
    (case veT => first | kit_is | k_is | kernel_rfl | with_unfolding_all rfl)
    (case hn => k_is)
    (case ht => k_is)
    (case tp => k_is)
    (case top => first | rfl | decide +kernel)
    (case aRd => k_is)
    (case aM0 => k_is)
    (case iM0 => k_is)
    (case lM0 => k_is)
    (case cM0 => k_is)
    (case kM0 => k_is)
    (case aM1 => k_is)
    (case iM1 => k_is)
    (case lM1 => k_is)
    (case cM1 => k_is)
    (case kM1 => k_is)
    (case aM2 => k_is)
    (case iM2 => k_is)
    (case lM2 => k_is)
    (case cM2 => k_is)
    (case kM2 => k_is)
    (case aM3 => k_is)
    (case iM3 => k_is)
    (case lM3 => k_is)
    (case cM3 => k_is)
    (case kM3 => k_is)
    (case aM4 => k_is)
    (case iM4 => k_is)
    (case lM4 => k_is)
    (case cM4 => k_is)
    (case kM4 => k_is)
    (case aM5 => k_is)
    (case iM5 => k_is)
    (case lM5 => k_is)
    (case cM5 => k_is)
    (case kM5 => k_is)
    (case aM6 => k_is)
    (case iM6 => k_is)
    (case lM6 => k_is)
    (case cM6 => k_is)
    (case kM6 => k_is)
    (case aM7 => k_is)
    (case iM7 => k_is)
    (case lM7 => k_is)
    (case cM7 => k_is)
    (case kM7 => k_is)
    (case aM8 => k_is)
    (case iM8 => k_is)
    (case lM8 => k_is)
    (case cM8 => k_is)
    (case kM8 => k_is)
    (case aM9 => k_is)
    (case iM9 => k_is)
    (case lM9 => k_is)
    (case cM9 => k_is)
    (case kM9 => k_is)
    (case aM10 => k_is)
    (case iM10 => k_is)
    (case lM10 => k_is)
    (case cM10 => k_is)
    (case kM10 => k_is)
    (case pgRd => k_is)
    (case hdRd => k_is)
    (case poRd => k_is)
    (case saRd => k_is)
    (case mkRd => k_is)
    (case kcRd => k_is)
    (case nTok => k_is)
    (case nAt => k_is)
