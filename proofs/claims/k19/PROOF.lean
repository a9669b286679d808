import PyProof.Rows.All
import Wide.All
import OpenK.AllK
import Wide.FinOn
import HandS.ForMost
import HandS.Wide
import HandS.Codes
import HandS.IsInst
import HandS.IntHex
import HandS.AnyAll
import HandS.Walk
import HandS.Flow
import HandS.StrMore
import HandS.EndTab
import HandS.Base
import HandS.Call
import HandS.Exc
import HandS.ExcInit
import KE.KExcSuper
import KE.KExcMake
import PyProof.FString
import PyProof.FString4
import HandS.ExcOwn
import HandS.ExcIs
import HandS.ExcField
import HandS.TryOnly
import KE.KExcIs
import HandS.WordsExc
import KE.RegKIsAll
import HandS.Ends
import PySem.Challenge.RW_wholepackets_k19_errors_by_hand
set_option Elab.async false
set_option linter.all false
set_option maxRecDepth 100000
set_option maxHeartbeats 4000000
namespace Pk
open PySem PySem.Spec PyProof.Rows L2

/-! ### the drawing state of the law: at s the list [cells, seed], at c the cells -/
def StAt (H : Hp) (s c : Addr) : Prop := ∃ (cells : List Int) (seed : Int), H s = some (.lst [.ref c, .int seed]) ∧ H c = some (.lst (cells.map V.int)) ∧
  (∀ z ∈ cells, 0 ≤ z) ∧ 0 ≤ seed ∧ seed < 2147483648
theorem StAt.ne {H : Hp} {s c : Addr} (h : StAt H s c) : s ≠ c := by
  obtain ⟨cells, seed, h1, h2, _⟩ := h
  refine ne_of h1 h2 fun z => ?_
  have z' := HO.lst.inj z
  cases cells with
  | nil => cases z'
  | cons a r =>
    have e : V.ref c = V.int a := (List.cons.inj z').1
    cases e
/-- what stood beside s and c stands -/
def Kp (s c : Addr) (H H' : Hp) : Prop := ∀ b o, b ≠ s → b ≠ c → H b = some o → H' b = some o
theorem Kp.refl (s c : Addr) (H : Hp) : Kp s c H H := fun _ _ _ _ e => e
theorem Kp.trans {s c : Addr} {H H1 H2 : Hp} (a : Kp s c H H1) (b : Kp s c H1 H2) : Kp s c H H2 := fun x o h1 h2 e => b x o h1 h2 (a x o h1 h2 e)
theorem Kp.same {s c : Addr} {H H1 : Hp} (a : Same H H1) : Kp s c H H1 := fun x o _ _ e => a x o e
theorem Kp.new {s c p : Addr} {H : Hp} {o : HO} (h : H p = none) : Kp s c H (upd H p o) := fun b u _ _ e => by
  rw [upd_ne (ne_of_none e h)]
  exact e
theorem same_new {p : Addr} {H : Hp} {o : HO} (h : H p = none) : Same H (upd H p o) := fun b u e => by
  rw [upd_ne (ne_of_none e h)]
  exact e
theorem StAt.same {H H' : Hp} {s c : Addr} (h : StAt H s c) (k : Same H H') : StAt H' s c := by
  obtain ⟨cells, seed, h1, h2, h3⟩ := h
  exact ⟨cells, seed, k _ _ h1, k _ _ h2, h3⟩
theorem StAt.upd {H : Hp} {s c p : Addr} {o : HO} (h : StAt H s c) (n1 : p ≠ s) (n2 : p ≠ c) : StAt (upd H p o) s c := by
  obtain ⟨cells, seed, h1, h2, h3⟩ := h
  exact ⟨cells, seed, by rw [upd_ne (Ne.symm n1)]; exact h1, by rw [upd_ne (Ne.symm n2)]; exact h2, h3⟩
theorem StAt.new {H : Hp} {s c p : Addr} {o : HO} (h : StAt H s c) (n : H p = none) : StAt (L2.upd H p o) s c := h.same (same_new n)

/-! ### promises of the drawing defs -/
def spState (K : PySem.W.Frag) : Sp := fun vs H Q _ => ∃ (a : Addr) (ns : List Int), vs = [.ref a] ∧ SqL K H a (ns.map V.int) ∧ ns.length ≤ 63 ∧
  ∀ (H' : Hp) (s c : Addr), Same H H' → H s = none → H c = none → StAt H' s c → Q (.ref s) H'
def spDraw : Sp := fun vs H Q _ => ∃ (s c : Addr) (many : Int), vs = [.ref s, .int many] ∧ StAt H s c ∧ 0 < many ∧ many ≤ 4294967296 ∧
  ∀ (H' : Hp) (r : Int), 0 ≤ r → r < many → StAt H' s c → Kp s c H H' → Q (.int r) H'
def spPick (K : PySem.W.Frag) : Sp := fun vs H Q _ => ∃ (s c p : Addr) (xs : List V), vs = [.ref s, .ref p] ∧ StAt H s c ∧ SqL K H p xs ∧ p ≠ s ∧ p ≠ c ∧ 0 < xs.length ∧ xs.length ≤ 1000 ∧
  ∀ (H' : Hp) (i : Nat) (x : V), xs[i]? = some x → StAt H' s c → Kp s c H H' → Q x H'
theorem Kp.seq {K : PySem.W.Frag} {s c p : Addr} {H H' : Hp} {xs : List V} (k : Kp s c H H') (h : SqL K H p xs) (n1 : p ≠ s) (n2 : p ≠ c) : SqL K H' p xs := by
  rcases h with (h | ⟨o, h⟩) | h
  · exact .inl (.inl (k _ _ n1 n2 h))
  · exact .inl (.inr ⟨o, k _ _ n1 n2 h⟩)
  · exact .inr h
theorem iteD {p A B : Prop} [Decidable p] (h1 : p → A) (h2 : ¬ p → B) : if decide p = true then A else B := by
  by_cases h : p
  · rw [if_pos (decide_eq_true h)]
    exact h1 h
  · rw [decide_eq_false h, if_neg Bool.false_ne_true]
    exact h2 h
theorem iteDT {p A B : Prop} [Decidable p] (h : p) (h1 : A) : if decide p = true then A else B := by
  rw [if_pos (decide_eq_true h)]
  exact h1
theorem iteDF {p A B : Prop} [Decidable p] (h : ¬ p) (h1 : B) : if decide p = true then A else B := by
  rw [decide_eq_false h, if_neg Bool.false_ne_true]
  exact h1
theorem dcInt {i j : Int} : decide (V.int i = V.int j) = decide (i = j) := by
  by_cases h : i = j
  · rw [h, decide_eq_true rfl, decide_eq_true rfl]
  · rw [decide_eq_false h, decide_eq_false fun z => h (V.int.inj z)]
/-- built-ins that the law's own text does not name anew -/
structure Blt (mg : Str → Option Value) : Prop where
  zInt : mg "int" = none
  zAbs : mg "abs" = none
  zLen : mg "len" = none
end Pk
set_option Elab.async false
set_option linter.all false
set_option maxRecDepth 100000
set_option maxHeartbeats 4000000
namespace Tk
open PySem L2 SX
/-! ### the signs and words of the document, as code points -/
def lettersS : Str := Str.ofString "abcdefghijklmnopqrstuvwxyzABCDEFGHIJKLMNOPQRSTUVWXYZ"
def digitsS : Str := Str.ofString "0123456789"
def hexS : Str := Str.ofString "0123456789abcdef"
abbrev letters : List Nat := lettersS.cps.toList
abbrev digits : List Nat := digitsS.cps.toList
abbrev hexes : List Nat := hexS.cps.toList
def words : List Str := ["accept", "action", "add", "apply", "control", "default", "drop", "else", "emit", "exact", "extract", "go", "header", "if", "key", "mask", "meta", "not", "packet", "parser", "prefix", "program", "reject", "remove", "select", "send", "size", "state", "table", "use", "valid"].map Str.ofString
def longs : List Str := [Str.ofString "==", Str.ofString "->"]
def shorts : List Str := ["{", "}", "(", ")", ":", ";", ",", ".", "=", "<", "+", "-", "&", "|", "^"].map Str.ofString
def inRun (c : Nat) : Bool := decide (c ∈ letters) || decide (c ∈ digits) || decide (c = 95)
def isHexed (p : List Nat) : Bool := decide (p.take 2 = [48, 120])
def allIn (p l : List Nat) : Bool := p.all fun c => decide (c ∈ l)
def isNum (p : List Nat) : Bool :=
  if isHexed p = true then decide (1 ≤ (p.drop 2).length) && decide ((p.drop 2).length ≤ 8) && allIn (p.drop 2) hexes
  else if p.take 1 = [48] then decide (p = [48])
  else if 10 < p.length then false else allIn p digits && decide (NumText.digitsVal p ≤ 4294967295)
def numVal (p : List Nat) : Nat := if isHexed p = true then Hx.hexNum (p.drop 2) else NumText.digitsVal p
def headIn (l p : List Nat) : Bool := match p with
  | [] => false
  | c :: _ => decide (c ∈ l)
/-- a run's or a sign's token: its kind and value -/
def tokOf (p : List Nat) : Option (Str × V) :=
  if headIn letters p = true ∧ p.length ≤ 16 then
    (if S p ∈ words then some (Str.ofString "word", .str (S p)) else some (Str.ofString "name", .str (S p)))
  else if isNum p = true then some (Str.ofString "number", .int (numVal p))
  else if S p ∈ longs ∨ S p ∈ shorts then some (Str.ofString "sign", .str (S p)) else none
/-- how long the run or the sign is that stands at the head -/
def partLen (t : List Nat) : Nat :=
  if headIn (letters ++ digits ++ [95]) t = true then (t.takeWhile inRun).length
  else if S (t.take 2) ∈ longs then 2 else 1
abbrev Tok := Str × V × Nat
def endTok (l : Nat) : Tok := (Str.ofString "end", .str (Str.ofString ""), l)
/-- a token ahead of the others -/
def ahead (kv : Option (Str × V)) (l : Nat) (rest : Except Nat (List Tok)) : Except Nat (List Tok) := match kv with
  | none => .error l
  | some (k, v) => match rest with
    | .error e => .error e
    | .ok ts => .ok ((k, v, l) :: ts)
/-- the tokens of a text that begins in line l; .error: the line of the first part that is none -/
def toks : Nat → Nat → List Nat → Except Nat (List Tok)
  | _, l, [] => .ok [endTok l]
  | 0, l, _ :: _ => .error l
  | f + 1, l, c :: r =>
    if c = 35 then toks f l (r.dropWhile (· ≠ 10))
    else if c = 32 then toks f l r
    else if c = 10 then toks f (l + 1) r
    else ahead (tokOf ((c :: r).take (partLen (c :: r)))) l (toks f l ((c :: r).drop (partLen (c :: r))))
theorem toks_cons (f l c : Nat) (r : List Nat) : toks (f + 1) l (c :: r) = if c = 35 then toks f l (r.dropWhile (· ≠ 10))
    else if c = 32 then toks f l r
    else if c = 10 then toks f (l + 1) r
    else ahead (tokOf ((c :: r).take (partLen (c :: r)))) l (toks f l ((c :: r).drop (partLen (c :: r)))) := by rw [toks]
theorem dropWhile_le {α : Type} (p : α → Bool) : ∀ l : List α, (l.dropWhile p).length ≤ l.length
  | [] => Nat.le_refl _
  | a :: l => by
    rw [List.dropWhile_cons]
    split
    · exact Nat.le_succ_of_le (dropWhile_le p l)
    · exact Nat.le_refl _
theorem inRun_iff (c : Nat) : inRun c = headIn (letters ++ digits ++ [95]) (c :: r) := by
  unfold inRun headIn
  rw [Bool.eq_iff_iff]
  simp [List.mem_append, or_assoc]
theorem partLen_pos (c : Nat) (r : List Nat) : 1 ≤ partLen (c :: r) := by
  unfold partLen
  split
  · rename_i h
    rw [← inRun_iff (r := r)] at h
    rw [List.takeWhile_cons, if_pos h]
    simp
  · split <;> omega
/-- more fuel than signs changes nothing -/
theorem toks_fuel : ∀ (n f : Nat) (l : Nat) (t : List Nat), t.length ≤ n → n ≤ f → toks f l t = toks n l t := by
  intro n
  induction n with
  | zero =>
    intro f l t h1 h2
    cases t with
    | nil => cases f <;> rfl
    | cons c r => simp at h1
  | succ n ih =>
    intro f l t h1 h2
    cases t with
    | nil => cases f <;> rfl
    | cons c r =>
      obtain ⟨g, rfl⟩ : ∃ g, f = g + 1 := ⟨f - 1, by omega⟩
      have hr : r.length ≤ n := by simpa using h1
      have hd : (r.dropWhile (· ≠ 10)).length ≤ n := Nat.le_trans (dropWhile_le _ _) hr
      have hp : ((c :: r).drop (partLen (c :: r))).length ≤ n := by
        have := partLen_pos c r
        rw [List.length_drop, List.length_cons]
        omega
      rw [toks_cons, toks_cons, ih g l _ hd (by omega), ih g l r hr (by omega), ih g (l + 1) r hr (by omega), ih g l _ hp (by omega)]
/-- the tokens of a text that begins in line l -/
def toksT (l : Nat) (t : List Nat) : Except Nat (List Tok) := toks t.length l t
theorem toksT_nil (l : Nat) : toksT l [] = .ok [endTok l] := rfl
theorem toksT_of {f l : Nat} {t : List Nat} (h : t.length ≤ f) : toks f l t = toksT l t := toks_fuel _ f l t (Nat.le_refl _) h
theorem toksT_hash (l : Nat) (r : List Nat) : toksT l (35 :: r) = toksT l (r.dropWhile (· ≠ 10)) := by
  rw [← toksT_of (f := r.length) (dropWhile_le _ _)]
  show toks (r.length + 1) l (35 :: r) = _
  rw [toks_cons, if_pos rfl]
theorem toksT_space (l : Nat) (r : List Nat) : toksT l (32 :: r) = toksT l r := by
  show toks (r.length + 1) l (32 :: r) = _
  rw [toks_cons, if_neg (by decide), if_pos rfl]
  rfl
theorem toksT_nl (l : Nat) (r : List Nat) : toksT l (10 :: r) = toksT (l + 1) r := by
  show toks (r.length + 1) l (10 :: r) = _
  rw [toks_cons, if_neg (by decide), if_neg (by decide), if_pos rfl]
  rfl
theorem toksT_part {l c : Nat} {r : List Nat} (h1 : c ≠ 35) (h2 : c ≠ 32) (h3 : c ≠ 10) :
    toksT l (c :: r) = ahead (tokOf ((c :: r).take (partLen (c :: r)))) l (toksT l ((c :: r).drop (partLen (c :: r)))) := by
  have hp : ((c :: r).drop (partLen (c :: r))).length ≤ r.length := by
    have := partLen_pos c r
    rw [List.length_drop, List.length_cons]
    omega
  show toks (r.length + 1) l (c :: r) = _
  rw [toks_cons, if_neg h1, if_neg h2, if_neg h3, toksT_of hp]
end Tk
set_option Elab.async false
set_option linter.all false
set_option maxRecDepth 100000
set_option maxHeartbeats 4000000
namespace Pk
open PySem PySem.Spec PyProof.Rows L2 SX
/-- a tuple of the written part -/
def TupK (K : PySem.W.Frag) (p : Addr) (xs : List V) : Prop := ∃ (o : Obj) (its : Array Value) (n : Nat), K.lookup p = some o ∧ o.cls = .type "tuple" ∧ o.data = .seq its n ∧ its.size ≤ sizeLine ∧ Vals xs its.toList
theorem TupK.at {K : PySem.W.Frag} {p : Addr} {xs : List V} (h : TupK K p xs) (H : Hp) : SqT K H p xs := .inr h
/-- a def, under its name, that keeps its promise -/
structure Df (P : Program) (w : World) (K : PySem.W.Frag) (mg : Str → Option Value) (base : Heap) (CX : CXT) (k : Nat) (x : Str) (ps : List Str) (sp : Sp) : Prop where
  ex : ∃ (f : Addr) (fd : FuncData), FnOk P w K mg base CX k f fd ps sp ∧ mg x = some (.ref f) ∧ PySem.W.keepIn K (.ref f) = true ∧ Binds K fd ps []
/-- a def of the text as it stands under its name -/
structure AtD (K : PySem.W.Frag) (mg : Str → Option Value) (x : Str) (st : Stmt) (ps : List Str) : Prop where
  ex : ∃ (f : Addr) (fd : FuncData), Fun K x x st f fd ∧ mg x = some (.ref f) ∧ Binds K fd ps []
theorem AtD.df {P : Program} {w : World} {K : PySem.W.Frag} {mg : Str → Option Value} {base : Heap} {CX : CXT} {k : Nat} {x : Str} {st : Stmt} {ps : List Str} {sp : Sp} (A : AtD K mg x st ps)
    (h : ∀ (f : Addr) (fd : FuncData), Fun K x x st f fd → FnOk P w K mg base CX k f fd ps sp) : Df P w K mg base CX k x ps sp := by
  obtain ⟨f, fd, F, g, b⟩ := A.ex
  exact ⟨f, fd, h f fd F, g, F.kp, b⟩
/-! ### values -/
theorem inV_strs {x : Str} : ∀ ws : List Str, inV (.str x) (ws.map V.str) = decide (x ∈ ws)
  | [] => by simp [inV]
  | w :: ws => by
    have ih := inV_strs (x := x) ws
    unfold inV at ih ⊢
    rw [List.map_cons, List.any_cons, ih]
    show ((w == x) || decide (x ∈ ws)) = _
    rw [Bool.eq_iff_iff, Bool.or_eq_true, beq_iff_eq, decide_eq_true_eq, decide_eq_true_eq, List.mem_cons]
    constructor
    · rintro (h | h)
      · exact .inl h.symm
      · exact .inr h
    · rintro (h | h)
      · exact .inl h.symm
      · exact .inr h
theorem inV_int {n : Int} : ∀ ws : List Str, inV (.int n) (ws.map V.str) = false
  | [] => by simp [inV]
  | w :: ws => by
    have ih := inV_int (n := n) ws
    unfold inV at ih ⊢
    rw [List.map_cons, List.any_cons, ih]
    rfl
theorem flat_strs (ws : List Str) : (ws.map V.str).all flatV = true := by
  rw [List.all_eq_true]
  intro x hx
  obtain ⟨y, _, rfl⟩ := List.mem_map.mp hx
  rfl
theorem dcStr {x y : Str} : decide (V.str x = V.str y) = decide (x = y) := by
  by_cases h : x = y
  · rw [h, decide_eq_true rfl, decide_eq_true rfl]
  · rw [decide_eq_false h, decide_eq_false fun z => h (V.str.inj z)]
theorem dcS {a b : List Nat} : decide (S a = S b) = decide (a = b) := by
  by_cases h : a = b
  · rw [h, decide_eq_true rfl, decide_eq_true rfl]
  · rw [decide_eq_false h, decide_eq_false fun z => h (S_inj z)]
/-- s[i:j], s[i:] -/
theorem cut2 (t : List Nat) (i j : Nat) : cutS (S t) (some (i : Int)) (some (j : Int)) = S ((t.drop i).take (j - i)) := by
  have hl : (S t).length = t.length := S_len t
  unfold cutS
  rw [HT.sIx_nat, HT.sIx_nat, hl]
  show S _ = S _
  congr 1
  show ((t.drop (min i t.length)).take (min j t.length - min i t.length)) = _
  by_cases hi : i ≤ t.length
  · rw [Nat.min_eq_left hi]
    by_cases hj : j ≤ t.length
    · rw [Nat.min_eq_left hj]
    · have e : min j t.length = t.length := by omega
      rw [e, List.take_of_length_le (by rw [List.length_drop]; exact Nat.le_refl _), List.take_of_length_le (by rw [List.length_drop]; omega)]
  · have e : min i t.length = t.length := by omega
    rw [e, List.drop_of_length_le (Nat.le_refl _), List.drop_of_length_le (show t.length ≤ i by omega), List.take_nil, List.take_nil]
theorem cut1f (t : List Nat) (i : Nat) : cutS (S t) (some (i : Int)) none = S (t.drop i) := by
  have hl : (S t).length = t.length := S_len t
  unfold cutS
  rw [HT.sIx_nat, HT.sIx_none, hl]
  show S _ = S _
  congr 1
  show ((t.drop (min i t.length)).take (t.length - min i t.length)) = _
  by_cases hi : i ≤ t.length
  · rw [Nat.min_eq_left hi, List.take_of_length_le (by rw [List.length_drop]; exact Nat.le_refl _)]
  · have e : min i t.length = t.length := by omega
    rw [e, List.drop_of_length_le (Nat.le_refl _), List.drop_of_length_le (show t.length ≤ i by omega), List.take_nil]
theorem starts2 (p q : List Nat) : Txt.startswith (S p) (S q) = decide (p.take q.length = q) := by
  unfold Txt.startswith
  rw [S_len, S_len, Nat.zero_add]
  have e : Builtin.Str.subAt (S p) (S q) 0 = decide (p.take q.length = q) := by
    unfold Builtin.Str.subAt
    rw [S_len, Nat.zero_add]
    show (p.toArray.extract 0 q.length == q.toArray) = _
    rw [Bool.eq_iff_iff, beq_iff_eq, decide_eq_true_eq]
    constructor
    · intro h
      have h2 := congrArg Array.toList h
      simpa using h2
    · intro h
      rw [List.extract_toArray]
      simp [h]
  rw [e]
  by_cases h : p.take q.length = q
  · have : q.length ≤ p.length := by
      have := congrArg List.length h
      rw [List.length_take] at this
      omega
    rw [decide_eq_true h, decide_eq_true this]
    rfl
  · rw [decide_eq_false h, Bool.and_false]
theorem takeWhile_self {α : Type} {p : α → Bool} : ∀ {l : List α}, (∀ x ∈ l, p x = true) → l.takeWhile p = l
  | [], _ => rfl
  | a :: l, h => by
    rw [List.takeWhile_cons, if_pos (h a List.mem_cons_self), takeWhile_self fun x hx => h x (List.mem_cons_of_mem _ hx)]
/-- where a sign is found from i on -/
theorem find_sign {t : List Nat} {i : Nat} (c : Nat) (hi : i ≤ t.length) :
    (Txt.find3 (S t) (S [c]) (i : Int) = -1 ∧ (t.drop i).takeWhile (· ≠ c) = t.drop i) ∨
    Txt.find3 (S t) (S [c]) (i : Int) = ((i + ((t.drop i).takeWhile (· ≠ c)).length : Nat) : Int) ∧ i + ((t.drop i).takeWhile (· ≠ c)).length < t.length := by
  have fi : fromIndex (S t).length (i : Int) = i := by
    unfold fromIndex
    rw [if_neg (by omega)]
    omega
  have gd : ∀ v, v < t.length → (S t).cps.getD v 0 = t[v]?.getD 0 := fun v hv => by
    simp [S, Array.getD, hv]
  rcases StrLaws.find3_spec (S t) c (i : Int) with ⟨h1, h2⟩ | ⟨k, h1, h2, h3, h4, h5⟩
  · refine .inl ⟨h1, ?_⟩
    refine takeWhile_self fun x hx => ?_
    obtain ⟨j, hj, rfl⟩ := List.getElem_of_mem hx
    rw [List.length_drop] at hj
    have := h2 (i + j) (by rw [fi]; omega) (by rw [S_len]; omega)
    rw [gd _ (by omega), List.getElem?_eq_getElem (by omega)] at this
    rw [List.getElem_drop]
    exact decide_eq_true this
  · rw [fi] at h2
    rw [S_len] at h3
    have key : ((t.drop i).takeWhile (· ≠ c)).length = k - i := by
      have hk : t.drop i = (t.drop i).take (k - i) ++ t.drop k := by
        have e := (List.take_append_drop (k - i) (t.drop i)).symm
        rw [List.drop_drop, show i + (k - i) = k by omega] at e
        exact e
      rw [hk, List.takeWhile_append_of_pos]
      · rw [List.drop_eq_getElem_cons h3, List.takeWhile_cons]
        have hc : t[k] = c := by
          have := h4
          rw [gd _ h3, List.getElem?_eq_getElem h3] at this
          exact this
        rw [if_neg (by simp [hc]), List.append_nil, List.length_take, List.length_drop]
        omega
      · intro x hx
        obtain ⟨j, hj, rfl⟩ := List.getElem_of_mem hx
        rw [List.length_take, List.length_drop] at hj
        have := h5 (i + j) (by rw [fi]; omega) (by omega)
        rw [gd _ (by omega), List.getElem?_eq_getElem (by omega)] at this
        rw [List.getElem_take, List.getElem_drop]
        exact decide_eq_true this
    refine .inr ⟨?_, ?_⟩
    · rw [h1, key, show i + (k - i) = k by omega]
    · rw [key]
      omega
end Pk
set_option Elab.async false
set_option linter.all false
set_option maxRecDepth 100000
set_option maxHeartbeats 4000000
namespace Pk
open PySem PySem.Spec PyProof.Rows L2 SX
theorem tooLong_small {n : Nat} (h : n ≤ 1000000) : Builtin.Str.tooLong n = false := by
  unfold Builtin.Str.tooLong
  rw [decide_eq_false_iff_not, sizeLine_eq]
  omega
/-- s * n, n from 1 on -/
theorem op_mulS {X : Cx} : OpR X (binaryOp .Mult) (fun x y H Q => ∃ (l : List Nat) (n : Nat), x = .str (S l) ∧ y = .int n ∧ 1 ≤ n ∧ n ≤ 1000 ∧ l.length ≤ 1000 ∧ Q (.str (S (List.replicate n l).flatten)) H) := by
  intro pins s σ H x y v u Q I rx ry h
  obtain ⟨l, n, rfl, rfl, h1, h2, h3, q⟩ := h
  obtain ⟨t, rfl⟩ := rx
  obtain ⟨t', rfl⟩ := ry
  have hl : (S l).length = l.length := S_len l
  have hle : (S l).length * n ≤ 1000000 := by
    rw [hl]
    exact Nat.le_trans (Nat.mul_le_mul h3 h2) (by decide)
  have fin : ∀ z tk k, z = S (List.replicate n l).flatten → EP X pins σ Q (.str z tk) { s with toks := k } := fun z tk k e => by
    subst e
    exact ⟨.str _, H, I.tok _, ⟨_, rfl⟩, q⟩
  refine P.mul_str ?_ (fun _ hx => ?_) (fun _ _ => ?_) ?_
  · rw [decide_eq_false (by omega), decide_eq_false (by omega)]
    rfl
  · rw [hl]
    have h0 : (0 : Int) < n := by omega
    have : (1000 : Int) ≤ (2 ^ 63 - 1) / (n : Int) := by
      refine (Int.le_ediv_iff_mul_le h0).mpr ?_
      omega
    omega
  · rw [Int.toNat_natCast]
    exact tooLong_small hle
  · rw [if_neg (by omega)]
    by_cases hc : ((n : Int) == 1 || (S l).length == 0) = true
    · rw [if_pos hc]
      have e : (List.replicate n l).flatten = l := by
        rw [Bool.or_eq_true, beq_iff_eq, beq_iff_eq, hl] at hc
        rcases hc with hc | hc
        · obtain rfl : n = 1 := by omega
          simp
        · obtain rfl : l = [] := List.length_eq_zero_iff.mp hc
          simp
      rw [e] at q
      exact ⟨.str _, H, I, ⟨_, rfl⟩, q⟩
    · rw [if_neg hc]
      have e : ∀ (k : Nat) (acc : Array Nat), ((List.replicate k (S l).cps).foldl (· ++ ·) acc).toList = acc.toList ++ (List.replicate k l).flatten := by
        intro k
        induction k with
        | zero => intro acc; simp
        | succ k ih =>
          intro acc
          rw [List.replicate_succ, List.foldl_cons, ih, Array.toList_append, List.replicate_succ, List.flatten_cons, List.append_assoc]
      have e2 : (⟨(List.replicate (n : Int).toNat (S l).cps).foldl (· ++ ·) #[]⟩ : Str) = S (List.replicate n l).flatten := by
        refine TL.ext_tl ?_
        rw [Int.toNat_natCast]
        show ((List.replicate n (S l).cps).foldl (· ++ ·) #[]).toList = _
        rw [e]
        rfl
      rw [e2]
      refine ⟨?_, fin _ _ _ rfl⟩
      have hf : (List.replicate n l).flatten.length = n * l.length := by simp
      have hm : n * l.length ≤ 1000000 := Nat.le_trans (Nat.mul_le_mul h2 h3) (by decide)
      show (S (List.replicate n l).flatten).length ≤ sizeLine
      rw [S_len, hf, sizeLine_eq]
      omega
/-! ### pieces of a text -/
end Pk
set_option Elab.async false
set_option linter.all false
set_option maxRecDepth 100000
set_option maxHeartbeats 4000000
namespace Pk
open PySem PySem.Spec PyProof.Rows L2
def topS (i : Nat) : Stmt := PySem.Challenge.pw_wholepackets_k19_errors_by_hand.main.body.getD i (.Pass ⟨0, 0, 0, 0⟩)
abbrev sState : Stmt := topS 8
abbrev sDraw : Stmt := topS 9
abbrev sPick : Stmt := topS 10
theorem scState : FnScope ["script", "seed", "cell"] ["script"] (defScope sState) := ⟨rfl, rfl, rfl, by decide +kernel, rfl, by decide +kernel, by decide +kernel⟩
theorem scDraw : FnScope ["state", "many", "cells", "value", "mixed"] ["state", "many"] (defScope sDraw) := ⟨rfl, rfl, rfl, by decide +kernel, rfl, by decide +kernel, by decide +kernel⟩
theorem scPick : FnScope ["state", "row"] ["state", "row"] (defScope sPick) := ⟨rfl, rfl, rfl, by decide +kernel, rfl, by decide +kernel, by decide +kernel⟩
section
variable {P : Program} {w : World} {K : PySem.W.Frag} {mg : Str → Option Value} {base : Heap}
theorem map_at {ns : List Int} {i : Nat} {y : V} (h : (ns.map V.int)[i]? = some y) : ∃ z, ns[i]? = some z ∧ y = V.int z := by
  rw [List.getElem?_map] at h
  cases e : ns[i]? with
  | none => rw [e] at h; cases h
  | some z => rw [e] at h; exact ⟨z, rfl, (Option.some.inj h).symm⟩
def absI (z : Int) : Int := if z < 0 then -z else z
theorem ok_state {f : Addr} {fd : FuncData} {k : Nat} (F : Fun K "_law_state" "_law_state" sState f fd) (T : Blt mg) : FnOk P w K mg base CX0 (k + 1) f fd ["script"] (spState K) := by
  refine F.ok scState (fun vs H Q E h => ?_) (fun cdv A outer s H vs Q E hr h => ?_)
  · obtain ⟨a, ns, rfl, _⟩ := h
    rfl
  · obtain ⟨a, ns, rfl, hS, hn, q⟩ := h
    refine ⟨_, pss_cons (ps_set (i := 1) scState.nd rfl (.inl rfl) pe_int)
      (pss_cons (ps_for PassesOwn.never rfl (pi_list (pv 0)) (pg_name (i := 2) scState.nd rfl (.inl rfl))
        (pss_one (ps_set (i := 1) scState.nd rfl (.inl rfl) (pe_op op_mod (pe_callTy call_int1 (by rfl) T.zInt (by decide +kernel) (pa_cons (pe_op op_add (pe_op op_mul (pv 1) pe_int) (pv 2)) pa_nil)) pe_int))))
      (pss_one (ps_ret (pe_lst (pa_cons (pe_lc (own := [("cell", 2)]) (g := gName 2) (tt := tYes) rfl scState.nd (pi_list (pv 0)) (blkOk_by (N := ["script", "seed", "cell"]) (sc := defScope sState) (by decide +kernel))
        (fun _ _ _ _ _ => pg_name (i := 2) scState.nd rfl (Or.inl rfl)) (fun _ _ _ _ _ => pts_nil) (fun _ _ _ _ _ => pe_callB call_abs (by rfl) T.zAbs (by decide +kernel) (pa_cons (pv 2) pa_nil)))
        (pa_cons (pe_op op_add (pv 1) pe_int) pa_nil)))))), ?_⟩
    refine ⟨_, rfl, a, rfl, ⟨_, hS⟩, for_list (K := K) (a := a) (xs := ns.map V.int) (fun i σ H' => ∃ (sd : Int) (v : Option V), σ = [some (.ref a), some (.int sd), v] ∧ H' = H ∧ 0 ≤ sd ∧ sd < 1000003)
      ⟨7, none, rfl, rfl, by decide, by decide⟩ (fun i σ H' _ ⟨_, _, _, e, _⟩ => by subst e; exact hS) ?_ ?_⟩
    · rintro i y σ H' hi ⟨sd, v, rfl, rfl, h0, h1⟩
      obtain ⟨z, _, rfl⟩ := map_at hi
      refine ⟨_, rfl, _, _, rfl, rfl, .inl ⟨by omega, by omega⟩, _, rfl, _, _, rfl, rfl, .inl ⟨_, rfl, _, _, rfl, rfl, (by show (0 : Int) < 1000003; decide), ?_⟩⟩
      exact ⟨_, _, rfl, rfl, Int.emod_nonneg _ (by decide), Int.emod_lt_of_pos _ (by decide)⟩
    · rintro σ H' ⟨sd, v, rfl, rfl, h0, h1⟩
      refine ⟨_, rfl, a, rfl, ⟨_, hS⟩, fun D hD => lc_list (K := K) (a := a) (xs := ns.map V.int) (fun i H2 => Same H' H2 ∧ H2 D = some (.lst ((ns.take i).map fun z => V.int (absI z))))
        ⟨same_new hD, upd_same⟩ (fun i H2 _ h => h.1.seq hS) ?_ ?_⟩
      · rintro i y H2 hi ⟨k1, k2⟩
        obtain ⟨z, hz, rfl⟩ := map_at hi
        refine ⟨rfl, ⟨_, rfl, _, rfl, _, k2, ?_, fun b o e => ?_, ?_⟩⟩
        · rw [List.length_map, List.length_take]
          exact Nat.lt_of_le_of_lt (Nat.min_le_right _ _) (small1000 (by omega))
        · rw [upd_ne (ne_of_none e hD)]
          exact k1 b o e
        · rw [upd_same, List.take_add_one, hz, List.map_append]
          rfl
      · rintro H2 ⟨k1, k2⟩
        refine ⟨_, rfl, _, _, rfl, rfl, (by show 2 ≤ sizeLine; decide), fun p hp => ?_⟩
        have e : (ns.map V.int).length = ns.length := List.length_map ..
        rw [e, List.take_length] at k2
        have npD : D ≠ p := ne_of_none k2 hp
        refine q _ p D (k1.trans (same_new hp)) (k1.free hp) hD ⟨ns.map absI, sd + 1, upd_same, ?_, ?_, by omega, by omega⟩
        · rw [upd_ne npD, k2, List.map_map]
          rfl
        · intro z hz
          obtain ⟨y, _, rfl⟩ := List.mem_map.mp hz
          unfold absI
          split <;> omega
theorem ok_draw {f : Addr} {fd : FuncData} {k : Nat} (F : Fun K "_law_draw" "_law_draw" sDraw f fd) (T : Blt mg) : FnOk P w K mg base CX0 (k + 1) f fd ["state", "many"] spDraw := by
  refine F.ok scDraw (fun vs H Q E h => ?_) (fun cdv A outer s H vs Q E hr h => ?_)
  · obtain ⟨s, c, many, rfl, _⟩ := h
    rfl
  · obtain ⟨s, c, many, rfl, hS, hm0, hm1, q⟩ := h
    refine ⟨_, pss_cons (ps_set (i := 2) scDraw.nd rfl (.inl rfl) (pe_ix ix_list (pv 0) pe_int (fun _ _ => rfl)))
      (pss_cons (ps_while PassesOwn.never (PW.pt (pw_and (pt_cmpR op_gt (pe_callB call_len_seq (by rfl) T.zLen PySem.boot_len (pa_cons (pv 2) pa_nil)) pe_int (nomark _)) (pw_and1 (pt_cmpR op_eq (pe_ix ix_list (pv 2) pe_int (fun _ _ => rfl)) pe_int (nomark _)))))
        (pss_one (ps_expr (pe_bm PySem.F.plainAttrs_list PySem.F.slot_list_pop PySem.F.type_list_pop mt_popAt (pv 2) (pa_cons pe_int pa_nil)))))
      (pss_cons (ps_if (pt_cmpR op_gt (pe_callB call_len_seq (by rfl) T.zLen PySem.boot_len (pa_cons (pv 2) pa_nil)) pe_int (nomark _))
        (pss_cons (ps_set (i := 3) scDraw.nd rfl (.inl rfl) (pe_ix ix_list (pv 2) pe_int (fun _ _ => rfl)))
        (pss_cons (ps_asg (pe_op op_fdivW (pv 3) (pv 1)) (pg_sub (pv 2) pe_int set_list))
        (pss_one (ps_ret (pe_op op_mod (pe_callTy call_int1 (by rfl) T.zInt (by decide +kernel) (pa_cons (pv 3) pa_nil)) (pv 1)))))) pss_nil)
      (pss_cons (ps_set (i := 4) scDraw.nd rfl (.inl rfl) (pe_op op_mod (pe_callTy call_int1 (by rfl) T.zInt (by decide +kernel) (pa_cons (pe_op op_add (pe_op op_mul (pe_ix ix_list (pv 0) pe_int (fun _ _ => rfl)) pe_int) pe_int) pa_nil)) pe_int))
      (pss_cons (ps_asg (pv 4) (pg_sub (pv 0) pe_int set_list))
      (pss_one (ps_ret (pe_op op_mod (pe_callTy call_int1 (by rfl) T.zInt (by decide +kernel) (pa_cons (pe_op op_fdivW (pv 4) pe_int) pa_nil)) (pv 1)))))))), ?_⟩
    have hSC := hS
    have hne := hS.ne
    obtain ⟨cells, seed, h1, h2, h3, h4, h5⟩ := hS
    refine ⟨.ref s, rfl, s, _, _, _, rfl, rfl, SqL.of h1, atI_nat (j := 0) rfl, ?_⟩
    -- the while: cells lose their zeros
    refine ⟨fun m σ H' => ∃ cs : List Int, m = cs.length ∧ σ = [some (.ref s), some (.int many), some (.ref c), none, none] ∧ H' s = some (.lst [.ref c, .int seed]) ∧ H' c = some (.lst (cs.map V.int)) ∧ (∀ z ∈ cs, 0 ≤ z) ∧ Kp s c H H',
      ⟨cells.length, cells, rfl, rfl, h1, h2, h3, Kp.refl _ _ _⟩, ?_⟩
    rintro m σ H' ⟨cs, rfl, rfl, g1, g2, g3, g4⟩
    refine ⟨.ref c, rfl, c, _, rfl, .inl (SqL.of g2), _, _, rfl, rfl, _, rfl, ?_⟩
    cases cs with
    | nil =>
      refine iteDF (by decide) (iteF ?_)
      -- no cell is left: mixed
      refine ⟨.ref c, rfl, c, _, rfl, .inl (SqL.of g2), _, _, rfl, rfl, _, rfl, iteDF (by decide) ?_⟩
      refine ⟨.ref s, rfl, s, _, _, _, rfl, rfl, SqL.of g1, atI_nat (j := 1) rfl, _, _, rfl, rfl, .inl ⟨by omega, by omega⟩, _, _, rfl, rfl, .inl ⟨_, rfl, _, _, rfl, rfl, (by show (0 : Int) < 2147483647; decide), ?_⟩⟩
      have b0 : 0 ≤ (seed * 48271 + 12345) % 2147483647 := Int.emod_nonneg _ (by decide)
      have b1 : (seed * 48271 + 12345) % 2147483647 < 2147483647 := Int.emod_lt_of_pos _ (by decide)
      refine ⟨_, rfl, .ref s, rfl, s, _, _, 1, rfl, rfl, g1, rfl, ?_⟩
      refine ⟨_, rfl, _, _, rfl, rfl, ⟨by decide, by decide⟩, .inl ⟨_, rfl, _, rfl, _, _, rfl, rfl, hm0, ?_⟩⟩
      refine q _ _ (Int.emod_nonneg _ (by omega)) (Int.emod_lt_of_pos _ hm0) ⟨[], _, upd_same, ?_, fun z hz => absurd hz (by simp), b0, by omega⟩ fun b o n1 n2 e => ?_
      · rw [upd_ne (Ne.symm hne)]
        exact g2
      · rw [upd_ne n1]
        exact g4 b o n1 n2 e
    | cons z r =>
      refine iteDT (by rw [List.length_map, List.length_cons]; omega) ?_
      refine ⟨.ref c, rfl, c, _, _, _, rfl, rfl, SqL.of g2, atI_nat (j := 0) rfl, rfl, _, rfl, ?_⟩
      rw [dcInt]
      refine iteD (fun hz => ?_) fun hz => ?_
      · -- a zero is dropped
        refine ⟨fun σ' H' => ∃ m', m' < (z :: r).length ∧ ∃ cs : List Int, m' = cs.length ∧ σ' = [some (.ref s), some (.int many), some (.ref c), none, none] ∧ H' s = some (.lst [.ref c, .int seed]) ∧ H' c = some (.lst (cs.map V.int)) ∧ (∀ z ∈ cs, 0 ≤ z) ∧ Kp s c H H',
          fun _ _ h => h, ?_⟩
        refine ⟨.ref c, rfl, .inl ⟨rfl, _, SqL.of g2⟩, c, _, _, 0, _, rfl, rfl, g2, by decide, by decide, ?_, rfl, r.length, by rw [List.length_cons]; omega, r, rfl, rfl, ?_, ?_, fun y hy => g3 y (List.mem_cons_of_mem _ hy), fun b o n1 n2 e => ?_⟩
        · exact PySem.StrLaws.seqIndex_nonneg (Int.le_refl 0) (by rw [List.length_map, List.length_cons]; omega)
        · rw [upd_ne hne]
          exact g1
        · rw [upd_same]
          rfl
        · rw [upd_ne n2]
          exact g4 b o n1 n2 e
      · -- the first cell is drawn from
        refine ⟨.ref c, rfl, c, _, rfl, .inl (SqL.of g2), _, _, rfl, rfl, _, rfl, iteDT (by rw [List.length_map, List.length_cons]; omega) ?_⟩
        have z0 := g3 z List.mem_cons_self
        refine ⟨.ref c, rfl, c, _, _, _, rfl, rfl, SqL.of g2, atI_nat (j := 0) rfl, ?_⟩
        refine ⟨_, rfl, _, rfl, _, _, rfl, rfl, wide_div (b := 33) hm0 (by omega) (by decide) (by decide), .ref c, rfl, c, _, _, 0, rfl, rfl, g2, ?_, ?_⟩
        · rw [List.length_map, List.length_cons]
          unfold ixN
          rw [if_pos (Int.le_refl 0), if_pos (by omega)]
          rfl
        refine ⟨_, rfl, .inl ⟨_, rfl, _, rfl, _, _, rfl, rfl, hm0, ?_⟩⟩
        refine q _ _ (Int.emod_nonneg _ (by omega)) (Int.emod_lt_of_pos _ hm0) ⟨z / many :: r, seed, ?_, ?_, ?_, h4, h5⟩ fun b o n1 n2 e => ?_
        · rw [upd_ne hne]
          exact g1
        · rw [upd_same]
          rfl
        · intro y hy
          rcases List.mem_cons.mp hy with rfl | hy
          · exact Int.ediv_nonneg z0 (by omega)
          · exact g3 y (List.mem_cons_of_mem _ hy)
        · rw [upd_ne n2]
          exact g4 b o n1 n2 e
theorem ok_pick {f fD : Addr} {fd fdD : FuncData} {k : Nat} (F : Fun K "_law_pick" "_law_pick" sPick f fd) (T : Blt mg) (G : FnOk P w K mg base CX0 (k + 1) fD fdD ["state", "many"] spDraw)
    (gD : mg "_law_draw" = some (.ref fD)) (kD : PySem.W.keepIn K (.ref fD) = true) (bD : Binds K fdD ["state", "many"] []) : FnOk P w K mg base CX0 (k + 2) f fd ["state", "row"] (spPick K) := by
  refine F.ok scPick (fun vs H Q E h => ?_) (fun cdv A outer s H vs Q E hr h => ?_)
  · obtain ⟨s, c, p, xs, rfl, _⟩ := h
    rfl
  · obtain ⟨s, c, p, xs, rfl, hS, hL, n1, n2, l0, l1, q⟩ := h
    refine ⟨_, pss_one (ps_ret (pe_ix ix_list (pv 1) (pe_call G hr (by rfl) gD kD bD .nil pass0 (pa_cons (pv 0) (pa_cons (pe_callB call_len_seq (by rfl) T.zLen PySem.boot_len (pa_cons (pv 1) pa_nil)) pa_nil))) (fun _ _ => rfl))), ?_⟩
    refine ⟨.ref p, rfl, .ref s, rfl, .ref p, rfl, p, xs, rfl, .inl hL, s, c, xs.length, rfl, hS, by omega, by omega, fun H' r r0 r1 hS' k' => ?_⟩
    obtain ⟨j, rfl⟩ : ∃ j : Nat, r = (j : Int) := ⟨r.toNat, by omega⟩
    have hj : j < xs.length := by omega
    have e : xs[j]? = some xs[j] := List.getElem?_eq_getElem hj
    exact ⟨p, xs, _, _, rfl, rfl, k'.seq hL n1 n2, atI_nat e, q H' j _ e hS' k'⟩
end
end Pk
set_option Elab.async false
set_option linter.all false
set_option maxRecDepth 100000
set_option maxHeartbeats 4000000
namespace PySem
namespace ErX
open PySem.W PySem.Calls PyProof.Rows PySem.HandSPX
/-! ### the text of an own error's __init__: super().__init__(f"pre{l}"), self.l = l -/
structure Ps where
  (a1 a2 b1 b2 b3 b4 b5 b6 b7 b8 b9 c1 c2 c3 c4 : Pos)
def iA (l : Str) (p : Ps) : Arguments := { posonlyargs := [], args := [{ arg := "self", annotation := none, pos := p.a1 }, { arg := l, annotation := none, pos := p.a2 }], vararg := none, kwonlyargs := [], kw_defaults := [], kwarg := none, defaults := [] }
def iC (l pre : Str) (p : Ps) : Expr := .Call (.Attribute (.Call (.Name "super" p.b1) [] [] p.b2) "__init__" p.b3) [.JoinedStr [.Constant (.str pre) 0 p.b4, .FormattedValue (.Name l p.b5) (-1) none p.b6] p.b7] [] p.b8
def iB (l pre : Str) (p : Ps) : List Stmt := [.Expr (iC l pre p) p.b9, .Assign [.Attribute (.Name "self" p.c1) l p.c2] (.Name l p.c3) p.c4]
def iS (l : Str) : Scope := { kind := .function, names := [(PySem.Str.ofString "self", .local), (l, .local), (PySem.Str.ofString "__class__", .free), (PySem.Str.ofString "super", .globalImplicit)], isGenerator := false, isCoroutine := false, more := [] }
/-- a text or an int, short -/
def VOk (v : Value) : Prop := (∃ y t, v = .str y t ∧ y.length ≤ 1000000) ∨ ∃ (i : Int) (t : PySem.Tok), v = .int i t ∧ i.natAbs.log2 < 1900
/-- what __init__ leaves of a fresh exception at x -/
structure InitEnd (h h' : Heap) (x C dx t1 : Addr) (l : Str) (v : Value) : Prop where
  keep : ∀ b o, b ≠ x → h.get? b = some o → h'.get? b = some o
  obj : h'.get? x = some { cls := .ref C, dict := some dx, data := .fields #[.ref t1, .none, .none, .none, .bool false, .none] }
  dbig : h.objs.size ≤ dx
  dne : dx ≠ x
  ns : h'.Ns1 dx (fun y => if y = l then some v else none)
structure ClsTxt (K : Frag) (C : Addr) : Prop where
  cls : ∃ nm q N bs bm sn sub ab col dd k0 k1 k2 k3 k5, K.lookup C = some (excClassObj nm q C N bs bm true sn sub ab col dd k0 k1 k2 k3 k5 "ValueError.__new__") ∧ refsVE bm = true
  sa : findIn K (.ref C) "__setattr__" = some (some (.builtin "object.__setattr__"))
  kC : keepIn K (.ref C) = true
  exC : subIn K (.ref C) (.type "BaseException") = some true
  veC : subIn K (.ref C) (.type "ValueError") = some true
  tyC : typeIn K (.ref C) = some (.type "type")
/-- the written part of such a def, at fI, of the class at C -/
structure InitTxt (prog : Program) (K : Frag) (C fI : Addr) (l pre qual : Str) : Prop where
  cls : ClsTxt K C
  noN : findIn K (.ref C) l = some none
  su : ks_superIn K C C "__init__" = some (some (.builtin "ValueError.__init__"))
  mrC : mroIn K C (.ref C) = some true
  iC : findIn K (.ref C) "__init__" = some (some (.ref fI))
  tC : typeIn K (.ref fI) = some (.type "function")
  tp : nsIn K cStatics "thirdparty.any" = some none
  top : (prog.main.scope.names.lookup ("super" : Str)).isSome = false
  fn : ∃ (oc : Value) (od : Option Addr) (doc pm : Value) (an : Option Addr) (cda cc : Addr) (ct : Value) (osl : Array (Option Value)) (p : Ps), (p.b3.endLine == p.b8.line) = true ∧
    K.lookup fI = some ⟨oc, od, .func (ksFn "__init__" qual (iA l p) (iB l pre p) (iS l) .none .none doc pm an (.ref cda) ct cc), osl⟩ ∧ codeIn K (.ref cda) qual = true ∧
    (∃ (ccl : Value) (cdd : Option Addr) (vs : Array Value) (ccs : Array (Option Value)) (file : Str) (tf : PySem.Tok), K.lookup cda = some ⟨ccl, cdd, .fields vs, ccs⟩ ∧ vs[2]? = some (.str file tf) ∧ ((prog.main.file : Str) == file) = true) ∧
    ∃ (cl : Value) (cld : Option Addr) (csl : Array (Option Value)), K.lookup cc = some ⟨cl, cld, .cell (some (.ref C)), csl⟩
theorem lt_size_of {n : Nat} (h : n ≤ 1000000 + 10) : n ≤ sizeLine := by rw [sizeLine_eq]; omega
section
variable {prog : Program} {w : World} {A : Around} {E : Value → Shared → Prop} {s : Shared} {h₀ : Heap} {Q : Value → Shared → Prop}
/-- super().__init__ bound to the exception at x, called -/
theorem call_mw {K : Frag} {C u x t0 : Addr} {rest : List Value} (T : ClsTxt K C) {h : Heap} {g : Array GenState} {d : Drawn} {t : Nat} {os : OsState} (X : K.In h) (hx : h.get? x = some (excO C t0)) (hu : h.get? u = some (kxs_mw "ValueError.__init__" x)) (hz : rest.length ≤ sizeLine)
    (hq : ∀ h' t1, (∀ b o, b ≠ x → h.get? b = some o → h'.get? b = some o) → h.objs.size ≤ h'.objs.size → h'.get? x = some (excO C t1) → Q .none ⟨h', g, d, t, os⟩) :
    wpAny (model prog w) A (call (.ref u) rest) Q E ⟨h, g, d, t, os⟩ := by
  obtain ⟨nm, q, N, bs, bm, sn, sub, ab, col, dd, k0, k1, k2, k3, k5, hC, hbm⟩ := T.cls
  refine wpAny_call (codeAny_of_tree ?_)
  show wpAny _ A.in1 (callAny (.ref u) ⟨rest, []⟩) _ _ _
  simp only [callAny]
  refine wpAny_bind (wpAny_load hu ?_)
  simp only [kxs_mw, show (Value.type "method-wrapper" == Value.type "method" || Value.type "method-wrapper" == Value.type "builtin_function_or_method" || Value.type "method-wrapper" == Value.type "method-wrapper") = true by decide, if_true]
  refine KFB.if_so (by decide) ?_
  refine wpAny_bind (check_bound_init F.excBase_ValueError.toExcCallFacts (X _ _ hC) hx rfl ?_)
  refine wpAny_bind (wpAny_pure (wpAny_pure ?_))
  refine ⟨plainId_quiet F.excBase_ValueError.init.plain _, codeAny_builtin F.excBase_ValueError.initEntry ?_⟩
  refine exc_init_tree (cls := .ref C) (t0 := t0) (dv := none) (c2 := .none) (c3 := .none) (b4 := .bool false) hx hz fun h' k e te => ?_
  exact hq h' _ k (Nat.le_of_lt (Heap.lt_size te)) e
/-- the text of the error -/
theorem ev_txt {env : Env} {l pre : Str} {p5 p6 p7 p4 : Pos} {v : Value} {m : Str → Option Value} {L : Addr} (hL : env.locals = L) (hn : s.heap.Ns L m) (hm : m l = some v) (hv : VOk v) (hpre : pre.length ≤ 10)
    (hk : env.scope.kind = .function) (hl : env.kindOf l = some .local) (hd : (l == ("__debug__" : Str)) = false) (h : ∀ y t t', Q (.str y t) { s with toks := t' }) :
    wpAny (model prog w) A (eval (.JoinedStr [.Constant (.str pre) 0 p4, .FormattedValue (.Name l p5) (-1) none p6] p7) env) Q E s := by
  subst hL
  refine wpAny_JoinedStr ?_
  show Joins _ _ _ [eval (.Constant (.str pre) 0 p4) env, eval (.FormattedValue (.Name l p5) (-1) none p6) env] _ _ _
  have le : (Str.empty : Str).length = 0 := rfl
  have hz0 : (Str.empty ++ pre).length ≤ sizeLine := by
    rw [Str.length_append, le, sizeLine_eq]
    omega
  refine Calls.Constant_str ⟨pre, _, rfl, hz0, ?_⟩
  refine wpAny_FormattedValue_plain (wpAny_Name (wpAny_loadName_local hk hl hn hm ?_) hd)
  have key : ∀ (y : Str) (t t' : Nat), y.length ≤ 1000000 → ∃ (y' : Str) (t2 : PySem.Tok), Value.str y t = .str y' t2 ∧ (Str.empty ++ pre ++ y').length ≤ sizeLine ∧ Joins (model prog w) A E [] (Str.empty ++ pre ++ y') (fun out s₁ => out.length ≤ sizeLine ∧ Q (.str out s₁.toks) { s₁ with toks := s₁.toks + 1 }) { s with toks := t' } := fun y t t' hy => by
    have hz : (Str.empty ++ pre ++ y).length ≤ sizeLine := by
      rw [Str.length_append, Str.length_append, le, sizeLine_eq]
      omega
    exact ⟨y, t, rfl, hz, hz, h _ _ _⟩
  rcases hv with ⟨y, t, rfl, hy⟩ | ⟨i, t, rfl, hi⟩
  · exact wpAny_formatField_str (key y t _ hy) (key y _ _ hy) (by rw [sizeLine_eq]; omega)
  · refine wpAny_formatField_int (by omega) (key (toString i) _ _ ?_)
    have e := int_text_length_le (k := 1920) (by decide) (a := i) (by omega)
    show (Str.ofString (toString i)).length ≤ _
    rw [ofString_length]
    omega
theorem env_kind {q : Str} {l : Str} {L a : Addr} {cd : Value} {cc : Addr} {x : Str} : (ksEnv q (iS l) L a cd cc).kindOf x = (iS l).names.lookup x := rfl
end
end ErX
end PySem
set_option Elab.async false
set_option linter.all false
set_option maxRecDepth 100000
set_option maxHeartbeats 4000000
namespace PySem
namespace ErX
open PySem.W PySem.Calls PyProof.Rows PySem.HandSPX
theorem no_cell {l : Str} : ∀ y ∈ (iS l).names, y.2 ≠ NameKind.cell := by
  intro y hy
  simp only [iS, List.mem_cons, List.not_mem_nil, or_false] at hy
  rcases hy with rfl | rfl | rfl | rfl <;> exact fun z => by cases z
theorem loc_all {l : Str} {a b : Value} (hl : l = "line" ∨ l = "rule" ∨ l = "reason") : ∀ y ∈ [((PySem.Str.ofString "self" : Str), a), (l, b)], (iS l).names.lookup y.1 = some NameKind.local := by
  intro y hy
  rcases List.mem_cons.mp hy with rfl | hy
  · rfl
  · obtain rfl := List.mem_singleton.mp hy
    rcases hl with rfl | rfl | rfl <;> rfl
theorem he_call {l pre : Str} {p : Ps} {env : Env} (h : (p.b3.endLine == p.b8.line) = true) : eval (iC l pre p) env = (do
      let ov ← attributeBase (.Call (.Name "super" p.b1) [] [] p.b2) "__init__" env (eval (.Call (.Name "super" p.b1) [] [] p.b2) env)
      standAt p.b3.atName
      let (f, first) ← holding [ov] (getMethod ov "__init__" (do return (← importBound (.Call (.Name "super" p.b1) [] [] p.b2) env).getD true))
      callWith p.b8 f first (backTo p.b8 (starEach [.JoinedStr [.Constant (.str pre) 0 p.b4, .FormattedValue (.Name l p.b5) (-1) none p.b6] p.b7] env)) []) := by
  unfold iC
  rw [arm_eval_Call]
  have e : ∀ ov, methodCall (.Call (.Name "super" p.b1) [] [] p.b2) "__init__" p.b3 p.b8 env ov 1 (backTo p.b8 (starEach [.JoinedStr [.Constant (.str pre) 0 p.b4, .FormattedValue (.Name l p.b5) (-1) none p.b6] p.b7] env)) [] = (do
      let (f, first) ← holding [ov] (getMethod ov "__init__" (do return (← importBound (.Call (.Name "super" p.b1) [] [] p.b2) env).getD true))
      callWith p.b8 f first (backTo p.b8 (starEach [.JoinedStr [.Constant (.str pre) 0 p.b4, .FormattedValue (.Name l p.b5) (-1) none p.b6] p.b7] env)) []) := fun ov => by
    unfold methodCall
    have hform : methodCallForm 1 (backTo p.b8 (starEach [.JoinedStr [.Constant (.str pre) 0 p.b4, .FormattedValue (.Name l p.b5) (-1) none p.b6] p.b7] env)) [] = true := rfl
    have hpos : methodCallPos true (.Call (.Name "super" p.b1) [] [] p.b2) env p.b3 p.b8 = pure p.b8 := by
      unfold methodCallPos
      rw [h]
      rfl
    rw [hform, hpos]
    rfl
  have e2 := funext e
  show (attributeBase _ _ _ _ >>= fun ov => standAt _ >>= fun _ => methodCall _ _ _ _ _ ov 1 _ []) = _
  simp only [e]
section
variable {prog : Program} {w : World} {A : Around} {R : Result → Shared → Prop} {K : Frag} {C fI : Addr} {l pre qual : Str}
theorem err_init {h₀ : Heap} {g : Array GenState} {d : Drawn} {t : Nat} {os : OsState} {mg mb : Str → Option Value} (T : InitTxt prog K C fI l pre qual) (hl : l = "line" ∨ l = "rule" ∨ l = "reason") (hpre : pre.length ≤ 10) {x t0 : Addr} {v : Value} (X : K.In h₀) (hlim : h₀.NoLimit) (hg : h₀.Ns mainGlobals mg) (hmg : mg "super" = none) (hb : h₀.Ns builtinsNs mb) (hmb : mb "super" = some (.type "super"))
    (hx : h₀.get? x = some (excO C t0)) (hnx : K.lookup x = none) (hroom : A.depth < recursionLimit) (hv : VOk v)
    (hq : ∀ h' tk dx t1, InitEnd h₀ h' x C dx t1 l v → R (.ok (.ret .none)) ⟨h', g, d, tk, os⟩) :
    codeAny (model prog w) A (.call (.ref fI) ⟨[.ref x, v], []⟩) R ⟨h₀, g, d, t, os⟩ := by
  obtain ⟨oc, od, doc, pm, an, cda, cc, ct, osl, p, hp, ho, hcd, ⟨ccl, cdd, vs, ccs, file, tf, hcode, hvs, hfile⟩, cl, cld, csl, hcell⟩ := T.fn
  obtain ⟨nm, q, N, bs, bm, sn, sub, ab, col, dd, k0, k1, k2, k3, k5, hC, hbm⟩ := T.cls.cls
  have hcl : clsIn K C = some { name := nm, bases := bs, mro := .ref C :: bm, ns := N, qualname := q, hasDict := true, slotNames := sn, subclasses := sub, abstract := ab, collection := col, hasDel := false } := by unfold clsIn; rw [hC] <;> rfl
  have hno := T.noN
  have hsu : alongIn K "__init__" (((Value.ref C :: bm).dropWhile (· != .ref C)).drop 1) = some (some (.builtin "ValueError.__init__")) := by
    have z := T.su
    unfold ks_superIn at z
    rw [hcl] at z
    exact z
  have xC : x ≠ C := fun z => by
    rw [z, X _ _ hC] at hx
    cases hx
  rcases hl with rfl | rfl | rfl
  all_goals
    refine ks_codeAny_call_defAt (fd := ksFn "__init__" qual (iA _ p) (iB _ pre p) (iS _) .none .none doc pm an (.ref cda) ct cc) (body := iB _ pre p) (binds := [("self", .ref x), (_, v)]) hroom (X _ _ ho) rfl hlim (codeRec_of X hcd) rfl (BindsTo.of_eq (by first | rfl | with_unfolding_all rfl)) no_cell (loc_all (by first | exact Or.inl rfl | exact Or.inr (Or.inl rfl) | exact Or.inr (Or.inr rfl))) (fun h₁ hns hk₁ => ?_) rfl rfl rfl
    have X₁ := X.keeps hk₁
    have hx₁ := hk₁ _ _ hx
    have s1 : h₀.objs.size < h₁.objs.size := hns.lt
    have hxL : x ≠ h₀.objs.size := Nat.ne_of_lt (Heap.lt_size hx)
    refine ks_wpAt_execs_cons (ks_wpAt_Expr_any (ks_wpAt_MethodCall ?_ (he_call hp)))
    refine ks_wpAt_super_base (ar := { arg := "self", annotation := none, pos := p.a1 }) rfl rfl rfl rfl (X₁ _ _ ho) rfl rfl rfl (X₁ _ _ hcode) rfl hvs hfile T.top ?_
    refine ks_loadName_global rfl rfl (loadGlobal_builtin (hg.keeps hk₁) hmg (hb.keeps hk₁) hmb ⟨rfl, ?_⟩)
    refine wpAny_loadName_free rfl rfl rfl ⟨_, X₁ _ _ hcell, rfl⟩ ?_
    refine wpAny_loadName_local rfl rfl hns (v := .ref x) (by first | rfl | with_unfolding_all rfl | kernel_rfl) ?_
    refine ks_wpAny_isType_cls (X₁ _ _ hC) rfl ⟨rfl, ?_⟩
    refine ks_wpAny_call_super (X₁ _ _ hC) rfl hx₁ rfl (fun c e => by cases e) (looks_mroIn X₁ T.mrC) (fun h₂ e₂ k₂ => ?_)
    have X₂ := X₁.keeps k₂
    have hx₂ := k₂ _ _ hx₁
    have I₂ : InstAt h₂ x (excO C t0) C none := ⟨hx₂, rfl, rfl, trivial⟩
    refine kxs_getMethod kxs_ValueError e₂ (looks_opaque X₂ T.tp) (l₀ := .ref C :: bm) ((looks_clsIn X₂ hcl).andThen .now) rfl X₂ hsu (I₂.type.andThen (looks_subIn X₂ T.cls.veC)) xC rfl ?_
    have hns₂ := hns.keeps k₂
    have k₃ : ∀ b o, h₂.get? b = some o → (h₂.push (kxs_mw "ValueError.__init__" x)).get? b = some o := fun b o e => Heap.get?_push_of_some _ e
    refine kxs_callWith (i := "ValueError.__init__") (x := x) rfl ?_
    refine evalArgs_plain (spliced_cons ?_)
    refine ev_txt (pre := pre) (p4 := p.b4) (p5 := p.b5) (p6 := p.b6) (p7 := p.b7) (m := fun y => List.lookup y (List.reverse [("self", .ref x), (_, v)])) rfl (hns₂.keeps k₃) (by first | rfl | with_unfolding_all rfl | kernel_rfl) hv hpre rfl rfl (by decide) fun y ty tk => ?_
    refine spliced_nil ⟨Heap.get?_push_at rfl rfl, ?_⟩
    refine call_mw T.cls (X₂.keeps k₃) (k₃ _ _ hx₂) (Heap.get?_push_at rfl rfl) (by rw [sizeLine_eq]; exact (by decide : 1 ≤ 16777216)) fun h₄ t4 k₄ z₄ hx₄ => ?_
    show wpAt _ _ _ _ _ _ _
    have kx : ∀ b o, b ≠ x → h₁.get? b = some o → h₄.get? b = some o := fun b o hb e => k₄ b o hb (k₃ _ _ (k₂ _ _ e))
    have hns₄ := hns.at (h' := h₄) fun o e => kx _ o hxL.symm e
    have X₄ : K.In h₄ := fun b o e => kx b o (fun z => by rw [z, hnx] at e; cases e) (X₁ b o e)
    refine ks_wpAt_execs_cons (ks_wpAt_Assign_Attr (wpAt_of_wpAny ?_))
    refine wpAny_Name (wpAny_loadName_local rfl rfl hns₄ (v := v) (by first | rfl | with_unfolding_all rfl | kernel_rfl) ?_) (by decide)
    refine wpAny_Name (wpAny_loadName_local rfl rfl hns₄ (v := .ref x) (by first | rfl | with_unfolding_all rfl | kernel_rfl) ?_) (by decide)
    refine set_plain X₄ (ox := excO C t4) (od := none) ⟨hx₄, rfl, rfl, trivial⟩ T.cls.sa ?_
    refine exc_osa X₄ hx₄ hcl (show refsVE (.ref C :: bm) = true from hbm) rfl hno (fun h₅ tk₅ dx k₅ dn dne hx₅ hn₅ => ?_)
    show wpAt _ _ _ (execs [] _) _ _ _
    refine wpAt_of_wpAny (wpAny_execs_nil ?_)
    have z4 : h₀.objs.size < h₄.objs.size := hns₄.lt
    exact hq h₅ tk₅ dx _ ⟨fun b o hb e => k₅ b o hb (kx b o hb (hk₁ b o e)), hx₅, Nat.le_of_lt (Nat.lt_of_lt_of_le z4 dn), dne, hn₅⟩
end
end ErX
end PySem
set_option Elab.async false
set_option linter.all false
set_option maxRecDepth 100000
set_option maxHeartbeats 4000000
namespace PySem
namespace ErX
open PySem.W PySem.Calls PyProof.Rows PySem.HandSPX
/-- a made error of the class at C -/
structure OwnMade (h h' : Heap) (e C d : Addr) (l : Str) (v : Value) : Prop where
  keep : ∀ b o, h.get? b = some o → h'.get? b = some o
  new : h.objs.size ≤ e
  obj : ∃ oe vs, h'.get? e = some oe ∧ oe.cls = .ref C ∧ oe.dict = some d ∧ oe.data = .fields vs ∧ vs[1]? = some .none
  dbig : h.objs.size ≤ d
  dne : d ≠ e
  ns : h'.Ns1 d (fun y => if y = l then some v else none)
section
variable {prog : Program} {w : World} {A : Around} {R : Result → Shared → Prop} {K : Frag} {C fI : Addr} {l pre qual : Str}
theorem err_made {h₀ : Heap} {g : Array GenState} {dr : Drawn} {t : Nat} {os : OsState} {mg mb : Str → Option Value} (T : InitTxt prog K C fI l pre qual) (hl : l = "line" ∨ l = "rule" ∨ l = "reason") (hpre : pre.length ≤ 10) {v : Value} (X : K.In h₀) (hlim : h₀.NoLimit) (hg : h₀.Ns mainGlobals mg) (hmg : mg "super" = none) (hb : h₀.Ns builtinsNs mb) (hmb : mb "super" = some (.type "super"))
    (hroom : A.depth + 1 < recursionLimit) (hv : VOk v)
    (hq : ∀ h' tk e d, OwnMade h₀ h' e C d l v → R (.ok (.ret (.ref e))) ⟨h', g, dr, tk, os⟩) :
    codeAny (model prog w) A (.call (.ref C) ⟨[v], []⟩) R ⟨h₀, g, dr, t, os⟩ := by
  obtain ⟨nm, q, N, bs, bm, sn, sub, ab, col, dd, k0, k1, k2, k3, k5, hC, hbm⟩ := T.cls.cls
  have k : ∀ b o, h₀.get? b = some o → ((h₀.push (kdv_tup [v])).push (excO C h₀.objs.size)).get? b = some o := fun b o e => Heap.get?_push_of_some _ (Heap.get?_push_of_some _ e)
  have hget : ((h₀.push (kdv_tup [v])).push (excO C h₀.objs.size)).get? (h₀.objs.size + 1) = some (excO C h₀.objs.size) := by heap_get
  have hnx : K.lookup (h₀.objs.size + 1) = none := by
    cases e : K.lookup (h₀.objs.size + 1) with
    | none => rfl
    | some o =>
      have z : h₀.get? (h₀.objs.size + 1) = some o := X _ _ e
      exact absurd (Nat.lt_of_succ_lt (Heap.lt_size z)) (Nat.lt_irrefl _)
  refine call_own F.excBase_ValueError (fun X => refsVE_contains X bm hbm) (X _ _ hC) (looks_findIn X T.iC) (fun self => bind_fn X self T.tC) (by rw [sizeLine_eq]; exact (by decide : 1 ≤ 16777216)) ?_
  refine err_init T hl hpre (X.keeps k) (hlim.keeps k) (hg.keeps k) hmg (hb.keeps k) hmb hget hnx ?_ hv fun h' tk' dx t1 ⟨k', hx, dn, dne, hns⟩ => ?_
  · show A.depth + 1 < recursionLimit
    exact hroom
  · have old : ∀ b o, h₀.get? b = some o → h'.get? b = some o := fun b o e => k' b o (Nat.ne_of_lt (Nat.lt_succ_of_lt (Heap.lt_size e))) (k b o e)
    have z : h₀.objs.size + 1 + 1 ≤ dx := by
      first
        | (simpa only [Heap.size_push] using dn)
        | exact dn
        | (have q := dn; rw [Heap.size_push, Heap.size_push] at q; exact q)
    exact ⟨rfl, hq h' tk' (h₀.objs.size + 1) dx ⟨old, Nat.le_succ _, ⟨_, _, hx, rfl, rfl, rfl, rfl⟩, Nat.le_trans (Nat.le_trans (Nat.le_succ _) (Nat.le_succ _)) z, dne, hns⟩⟩
end
end ErX
end PySem
namespace L2
open PySem PySem.Spec PyProof.Rows PySem.ErX
theorem relO_one {l : Str} {v : V} {v' : Value} (r : RelV v v') (f : Str) : RelO (List.lookup f [(l, v)]) (if f = l then some v' else none) := by
  by_cases hw : f = l
  · subst hw
    rw [if_pos rfl]
    have q : List.lookup f [(f, v)] = some v := by simp [List.lookup]
    rw [q]
    exact r
  · rw [if_neg hw]
    have qw : (f == l) = false := by simpa using hw
    have q2 : List.lookup f [(l, v)] = none := by simp [List.lookup, qw]
    rw [q2]
    trivial
/-- a short text or an int, as an error holds it -/
def EV (v : V) : Prop := (∃ y : Str, v = .str y ∧ y.length ≤ 1000000) ∨ ∃ i : Int, v = .int i ∧ i.natAbs.log2 < 1900
theorem EV.vok {v : V} {u : Value} (h : EV v) (r : RelV v u) : VOk u := by
  rcases h with ⟨y, rfl, hy⟩ | ⟨i, rfl, hi⟩
  · obtain ⟨t, rfl⟩ := r
    exact Or.inl ⟨y, t, rfl, hy⟩
  · obtain ⟨t, rfl⟩ := r
    exact Or.inr ⟨i, t, rfl, hi⟩
/-- what the written part says of an own error with one field -/
structure ErT (prog : Program) (K : PySem.W.Frag) (mg : Str → Option Value) (x : Str) (C : Addr) (l : Str) : Prop where
  ex : ∃ (fI : Addr) (pre qual : Str), InitTxt prog K C fI l pre qual ∧ pre.length ≤ 10
  gC : mg x = some (.ref C)
  gS : mg "super" = none
  hl : l = "line" ∨ l = "rule" ∨ l = "reason"
section
variable {X : Cx} {C : Addr} {l : Str}
/-- C(e) -/
def tMkE (C : Addr) (l : Str) (ta : TA) : St → Hp → XK → Prop := fun σ H Q => ta σ H fun vs H1 => ∃ v, vs = [v] ∧ EV v ∧ ∀ d, H1 d = none → Q (.ref C) (some d) (upd H1 d (.xd [(l, v)]))
theorem pmk_err {a : Expr} {ta : TA} {x : Str} {p pos : Pos} {k : Nat} (T : ErT X.prog X.K X.mg x C l) (hr : Room k X.A) (ha : PA X [a] ta) (hg : Gl X x) (hdb : (x == ("__debug__" : Str)) = false := by decide)
    (he : starEach (a :: []) X.env = (false, eval a X.env) :: starEach [] X.env := by rfl) (hpl : (backTo pos (starEach [] X.env)).any (·.1) = false := by rfl) :
    PMk X (.Call (.Name x p) [a] [] pos) (tMkE C l ta) := by
  intro pins s σ H Q I h
  obtain ⟨fI, pre, qual, TI, hpre⟩ := T.ex
  refine wpAny_Call_Name_kw (ld_glob I hg T.gC ?_ hdb)
  refine PySem.W.callWith_K (h₀ := X.base) I.ok.mod.kin TI.cls.kC (thn (ha.run pos pins s σ H _ I h) fun us s1 hh => ?_) he hpl
  obtain ⟨vs, H1, I1, r1, v, ev, hev, q1⟩ := hh
  subst ev
  refine ⟨I1.kIn, ?_⟩
  cases r1 with
  | cons rv rn =>
    rename_i v' us'
    cases rn
    show wpAny _ _ (call (.ref C) [v']) _ _ _
    have hlim := I1.nolimit
    obtain ⟨mb, hmb1, hmb2⟩ := I1.mod.blt
    have hG := I1.mod.glob.keeps I1.bk
    have hB := hmb1.keeps I1.bk
    obtain ⟨hp, g, dr, tk, os⟩ := s1
    refine wpAny_call (err_made TI T.hl hpre I1.kIn hlim hG T.gS hB ((hmb2 "super" (by decide)).trans PyProof.Rows.Boot.«super») (by have := hr.dp; omega) (hev.vok rv) fun h' tk' e d M => ?_)
    show MkP X pins σ Q (.ref e) ⟨h', g, dr, tk', os⟩
    obtain ⟨oe, fv, hoe, hc, hd, hdat, h1⟩ := M.obj
    have hns := M.ns
    obtain ⟨G', g1, g2⟩ := restrict h' fun b => decide (b ≠ e)
    have gk : ∀ b, b ≠ e → G'.get? b = h'.get? b := fun b hb => g1 b (decide_eq_true hb)
    have ge : G'.get? e = none := g2 e (by simp)
    have old : ∀ b o, hp.get? b = some o → G'.get? b = some o := fun b o q => (gk b (Nat.ne_of_lt (Nat.lt_of_lt_of_le (Heap.lt_size q) M.new))).trans (M.keep b o q)
    have ob : ObjOk X.prog X.w (upd H1 d (.xd [(l, v)])) G' d (.xd [(l, v)]) :=
      ⟨_, hns.at (fun o q => (gk d M.dne).trans q), fun f => relO_one rv f⟩
    have J : Inv X pins σ (upd H1 d (.xd [(l, v)])) ⟨G', g, dr, tk', os⟩ := I1.laid (t' := tk') old M.dbig ob
    refine ⟨e, oe, fv, ⟨G', g, dr, tk', os⟩, _, .ref C, some d, rfl, J, fun b o q => ?_, ge, hoe, ⟨hc, hd⟩, hdat, h1, ?_, rfl, I1.bare, raises_own TI.cls.exC TI.cls.tyC, q1 d (I1.hok.fresh M.dbig)⟩
    · by_cases hb : b = e
      · have q' : G'.get? b = some o := q
        rw [hb, ge] at q'; cases q'
      · exact (gk b hb).symm.trans q
    · rw [upd_ne (Ne.symm M.dne)]
      exact I1.hok.fresh M.new
/-- raise C(e) -/
def tRaiseE (C : Addr) (l : Str) (W : WX) (ta : TA) : TS := fun _ σ H => tMkE C l ta σ H fun cls d H' => W cls d σ H'
theorem ps_raiseE {a : Expr} {ta : TA} {W : WX} {x : Str} {p pos pos2 : Pos} {k : Nat} (hc : X.calm = true) (T : ErT X.prog X.K X.mg x C l) (hr : Room k X.A) (tk : Takes X W) (ha : PA X [a] ta) (hg : Gl X x := by rfl) (hdb : (x == ("__debug__" : Str)) = false := by decide)
    (he : starEach (a :: []) X.env = (false, eval a X.env) :: starEach [] X.env := by rfl) (hpl : (backTo pos (starEach [] X.env)).any (·.1) = false := by rfl) :
    PS X (.Raise (some (.Call (.Name x p) [a] [] pos)) none pos2) (tRaiseE C l W ta) := ps_raise hc tk (pmk_err T hr ha hg hdb he hpl)
end
end L2
set_option Elab.async false
set_option linter.all false
set_option maxRecDepth 100000
set_option maxHeartbeats 4000000
namespace L2
open PySem PySem.Spec PyProof.Rows PySem.ErX
/-- the dict of a caught error -/
def DictOf (H : Hp) (d : Option Addr) : Prop := d = none ∨ ∃ dd fs, d = some dd ∧ H dd = some (.xd fs)
theorem instE {X : Cx} {pins : List (Addr × Obj)} {σ : St} {H : Hp} {s : Shared} {a D : Addr} {oe : Obj} {d : Option Addr} (I : Inv X pins σ H s) (hget : s.heap.get? a = some oe) (hz : Zc (.ref D) d oe) (hf : ∃ vs, oe.data = .fields vs) (hd : DictOf H d) : ∃ od, PySem.W.InstAt s.heap a oe D od := by
  obtain ⟨vs, hv⟩ := hf
  obtain ⟨oc, odd, oda, osl⟩ := oe
  obtain ⟨h1, h2⟩ := hz
  dsimp only at h1 h2 hv
  subst h1 h2 hv
  rcases hd with rfl | ⟨dd, fs, rfl, hx⟩
  · exact ⟨none, hget, rfl, rfl, trivial⟩
  · have hx' : ObjOk X.prog X.w H s.heap dd (.xd fs) := I.hok dd _ hx
    obtain ⟨mA, ⟨o, es, ep, ho, hr⟩, hl⟩ := hx'
    exact ⟨some o, hget, rfl, rfl, ho⟩
/-- isinstance(e, c), e the exception that the suite holds; its class told by the reading -/
def rIsA (K : PySem.W.Frag) (cls : Value) (d : Option Addr) (a : Addr) : List V → Hp → VK → Prop := fun xs H Q => ∃ (D : Addr) (c : V) (cv : Value) (b : Bool), cls = .ref D ∧ ExcC K D ∧ DictOf H d ∧ xs = [.ref a, c] ∧ (∀ u, RelV c u → u = cv) ∧ PySem.W.kitOne K (.ref D) cv = some b ∧ Q (.bl b) H
theorem call_isA {X : Cx} {a : Addr} {cls : Value} {d : Option Addr} {oe : Obj} {pn : List (Addr × Obj)} (hz : Zc cls d oe) (hf : ∃ vs, oe.data = .fields vs) : CallR (X.suite a ((a, oe) :: pn)) (.builtin "isinstance") (rIsA X.K cls d a) := by
  intro pins s σ H xs us Q I r h
  obtain ⟨D, c, cv, b, rfl, C, hd, rfl, hcv, e, q⟩ := h
  cases r with
  | cons rx rr =>
    cases rr with
    | cons rt rr =>
      cases rr
      cases rx
      have ec := hcv _ rt
      subst ec
      obtain ⟨hget, _⟩ := I.pin (a, oe) (List.mem_append.mpr (.inl List.mem_cons_self))
      obtain ⟨od, J⟩ := instE I hget hz hf hd
      exact PySem.W.kia_one (PySem.W.kitx_exc (od := od) (by obtain ⟨cd, hc, _⟩ := PySem.W.any_some C.hd; rw [hc]; rfl) C.hg C.hk C.hs C.ha C.hn C.ht C.hm) I.kIn J e (fun z => nomatch z) fun tk => ⟨.bl b, H, I.kept (t' := tk) fun _ _ z => z, rfl, q⟩
/-- err.f, the class told by the reading -/
def tXfA (K : PySem.W.Frag) (a : Addr) (cls : Value) (d : Option Addr) (f : Str) (te : TE) : TE := fun σ H Q => te σ H fun x H1 => x = .ref a ∧ ∃ C : Addr, cls = .ref C ∧ XfC K C ∧ PySem.W.findIn K (.ref C) f = some none ∧ ∃ (dd : Addr) (fs : List (Str × V)) (v : V), d = some dd ∧ H1 dd = some (.xd fs) ∧ fs.lookup f = some v ∧ Q v H1
theorem pe_xfA {X : Cx} {a : Addr} {oe : Obj} {cls : Value} {d : Option Addr} {pn : List (Addr × Obj)} {e : Expr} {te : TE} {pos : Pos} {n : Str}
    (hz : Zc cls d oe) (hf : ∃ vs, oe.data = .fields vs) (he : PE (X.suite a ((a, oe) :: pn)) e te) (hb : attributeBase e n X.env (eval e X.env) = eval e X.env := by rfl) :
    PE (X.suite a ((a, oe) :: pn)) (.Attribute e n pos) (tXfA X.K a cls d n te) := by
  refine ⟨fun pins s σ H Q I h => ?_⟩
  refine attr_of hb (thn (he.run pins s σ H _ I h) fun u s1 hh => ?_)
  obtain ⟨x, H1, I1, rx, ex, C, ec, T, hno, dd, fs, v, ed, ea, l, q⟩ := hh
  subst ex
  obtain rfl : u = Value.ref a := rx
  subst ec
  subst ed
  obtain ⟨ha, _⟩ := I1.pin (a, oe) (List.mem_append_left _ List.mem_cons_self)
  obtain ⟨vs, hd⟩ := hf
  have hx : ObjOk X.prog X.w H1 s1.heap dd (.xd fs) := I1.hok dd _ ea
  obtain ⟨mA, hns, hr⟩ := hx
  obtain ⟨od, ho, hl⟩ := lookIn_ns hns
  obtain ⟨u, hu, ru⟩ := RelO.some_of (v := v) (o := mA n) (by rw [← l]; exact hr n)
  have J : PySem.W.InstAt s1.heap a oe C (some od) := ⟨ha, hz.1, by unfold PySem.W.notCls; rw [hd] <;> rfl, by rw [hz.2]; exact ho⟩
  exact HandSPX.exc_get I1.kIn J T.ga T.gg T.exC (PySem.W.findObj_own T.hdC hno rfl (by rw [hl, hu])) (handed_of ru) ⟨v, H1, I1.tok _, ru, q⟩
section
variable {X : Cx} {C : Addr} {bmB : List Value} {B newId initId : String}
/-- C() -/
theorem pmk_own0 {x : Str} {p pos : Pos} (F : ExcBaseFacts B newId initId bmB) (q : PySem.W.excIn X.K C bmB newId = true) (gC : X.mg x = some (.ref C)) (kC : PySem.W.keepIn X.K (.ref C) = true) (r : Raises X (.ref C)) (hg : Gl X x)
    (hdb : (x == ("__debug__" : Str)) = false := by decide) : PMk X (.Call (.Name x p) [] [] pos) (fun _ H Q => Q (.ref C) none H) := by
  intro pins s σ H Q I h
  refine wpAny_Call_Name_kw (ld_glob I hg gC ?_ hdb)
  refine PySem.W.callWith_K0 I.kIn kC ?_
  show wpAny _ _ (call (.ref C) []) _ _ _
  obtain ⟨bm, N, nm, qn, bs, hdct, sn, sub, ab, col, dd, k0, k1, k2, k3, k5, mN, hC, hN, hni, T⟩ := exc_obj I.kIn q
  refine wpAny_call_exc_subT F T hC hN hni (fun h' e hm => ?_) (by show 0 ≤ sizeLine; rw [sizeLine_eq]; omega)
  exact mk_of I hm r h (I.hok.gone hm.new)
end
end L2
set_option Elab.async false
set_option linter.all false
set_option maxRecDepth 100000
set_option maxHeartbeats 4000000
namespace Pk
open PySem PySem.Spec PyProof.Rows L2 PySem.ErX
abbrev sRaised : Stmt := topS 11
abbrev sLaw : Stmt := topS 12
theorem scRaised : FnScope ["which", "item", "e", "kinds"] ["which", "item"] (defScope sRaised) := ⟨rfl, rfl, rfl, by decide +kernel, rfl, by decide +kernel, by decide +kernel⟩
theorem scLaw : FnScope ["script", "state", "which", "item", "kinds", "told", "k"] ["script"] (defScope sLaw) := ⟨rfl, rfl, rfl, by decide +kernel, rfl, by decide +kernel, by decide +kernel⟩
/-- one of the error's classes: what the handler asks of it -/
structure CatE (K : PySem.W.Frag) (S D : Addr) : Prop where
  ex : ExcC K D
  sw : PySem.W.exmOne K (.ref D) (.ref S) = some true
  ve : PySem.W.kitOne K (.ref D) (.type "ValueError") = some true
theorem CatE.xf {K : PySem.W.Frag} {S D : Addr} (h : CatE K S D) : XfC K D := ⟨h.ex.hg, h.ex.hk, h.ex.hs, h.ex.hd⟩
structure Errs (P : Program) (K : PySem.W.Frag) (mg : Str → Option Value) (cT cC cR cH cB cS : Addr) : Prop where
  eT : ErT P K mg "TextError" cT "line"
  eC : ErT P K mg "CommandError" cC "line"
  eR : ErT P K mg "RuleError" cR "rule"
  eH : ErT P K mg "ChangeError" cH "reason"
  gB : mg "BuildError" = some (.ref cB)
  qB : PySem.W.excIn K cB [.type "ValueError", .type "Exception", .type "BaseException", .type "object"] "ValueError.__new__" = true
  kB : PySem.W.keepIn K (.ref cB) = true
  sB : PySem.W.subIn K (.ref cB) (.type "BaseException") = some true
  tB : PySem.W.typeIn K (.ref cB) = some (.type "type")
  gS : mg "SwitchError" = some (.ref cS)
  nT : PySem.W.findIn K (.ref cT) "line" = some none
  nC : PySem.W.findIn K (.ref cC) "line" = some none
  nR : PySem.W.findIn K (.ref cR) "rule" = some none
  nH : PySem.W.findIn K (.ref cH) "reason" = some none
  kT : CatE K cS cT
  kC : CatE K cS cC
  kR : CatE K cS cR
  kH : CatE K cS cH
  kB' : CatE K cS cB
  /-- who is an instance of whom -/
  mx : ∀ i j : Fin 5, PySem.W.kitOne K (.ref ([cT, cC, cR, cH, cB].get i)) (.ref ([cT, cC, cR, cH, cB].get j)) = some (decide (i = j))
  zIsi : mg "isinstance" = none
  zVE : mg "ValueError" = none
/-- the promise of _law_raised -/
def spRaised : Sp := fun vs H Q _ => ∃ (w : Int) (x : V), vs = [.int w, x] ∧ ((w = 0 ∧ EV x) ∨ (w = 1 ∧ EV x) ∨ (w = 2 ∧ EV x) ∨ (w = 3 ∧ EV x) ∨ (w = 4 ∧ x = .non)) ∧
  ∀ (H' : Hp) (p q : Addr), Same H H' → H' p = some (.tup [.ref q, x]) → H' q = some (.lst [.bl (decide (w = 0)), .bl (decide (w = 1)), .bl (decide (w = 2)), .bl (decide (w = 3)), .bl (decide (w = 4)), .bl true]) → Q (.ref p) H'
def tRaise0 (C : Addr) (W : WX) : TS := fun _ σ H => W (.ref C) none σ H
def rLt0 : R2 := rI0 fun i j => .bl (decide (i < j))
def tEq0 (i : Nat) (n : Int) : TT := tTest (tOp rEq (tVar i) (tC (.int n)))
def t_tryb (cT cC cR cH cB : Addr) (W : WX) : TS :=
  tSeq (tIfS (tEq0 0 0) (tRaiseE cT "line" W (tCons (tVar 1) tNil)) tNext) (tSeq (tIfS (tEq0 0 1) (tRaiseE cC "line" W (tCons (tVar 1) tNil)) tNext)
  (tSeq (tIfS (tEq0 0 2) (tRaiseE cR "rule" W (tCons (tVar 1) tNil)) tNext) (tSeq (tIfS (tEq0 0 3) (tRaiseE cH "reason" W (tCons (tVar 1) tNil)) tNext) (tRaise0 cB W))))
def tIsA (K : PySem.W.Frag) (cls : Value) (d : Option Addr) (a : Addr) (c : V) : TE := tCB (rIsA K cls d a) (tCons (tVar 2) (tCons (tC c) tNil))
def t_suiteR (K : PySem.W.Frag) (cT cC cR cH cB : Addr) : Addr → Value → Option Addr → TS := fun a cls d =>
  tSeq (tAsg (tLst (tCons (tIsA K cls d a (.ref cT)) (tCons (tIsA K cls d a (.ref cC)) (tCons (tIsA K cls d a (.ref cR)) tNil)))) (gName 3))
  (tSeq (tAsg (tOp rCat (tVar 3) (tLst (tCons (tIsA K cls d a (.ref cH)) (tCons (tIsA K cls d a (.ref cB)) (tCons (tIsA K cls d a (.ty "ValueError")) tNil))))) (gName 3))
  (tSeq (tIfS (tTest (tOp rLt0 (tVar 0) (tC (.int 2)))) (tRet (tTup (tCons (tVar 3) (tCons (tXfA K a cls d "line" (tVar 2)) tNil)))) tNext)
  (tSeq (tIfS (tEq0 0 2) (tRet (tTup (tCons (tVar 3) (tCons (tXfA K a cls d "rule" (tVar 2)) tNil)))) tNext)
  (tRet (tTup (tCons (tVar 3) (tCons (tIf (tEq0 0 3) (tXfA K a cls d "reason" (tVar 2)) (tC .non)) tNil)))))))
section
variable {P : Program} {w : World} {K : PySem.W.Frag} {mg : Str → Option Value} {base : Heap} {cT cC cR cH cB cS : Addr}
theorem dictOf_new {H : Hp} {d : Option Addr} {p : Addr} {o : HO} (h : DictOf H d) (hp : H p = none) : DictOf (upd H p o) d := by
  rcases h with h | ⟨dd, fs, h1, h2⟩
  · exact .inl h
  · exact .inr ⟨dd, fs, h1, by rw [upd_ne (ne_of_none h2 hp)]; exact h2⟩
theorem isA_rd {a D : Addr} {d : Option Addr} {c : V} {cv : Value} {b : Bool} {σ : L2.St} {H : Hp} {Q : VK} (C : CatE K cS D) (hd : DictOf H d) (hc : ∀ u, RelV c u → u = cv) (hk : PySem.W.kitOne K (.ref D) cv = some b) (h2 : σ[2]? = some (some (.ref a))) (q : Q (.bl b) H) :
    tIsA K (.ref D) d a c σ H Q := ⟨.ref a, h2, D, c, cv, b, rfl, C.ex, hd, rfl, hc, hk, q⟩
/-- a field of the error -/
def Fld (K : PySem.W.Frag) (H : Hp) (D : Addr) (d : Option Addr) (l : Str) (x : V) : Prop := PySem.W.findIn K (.ref D) l = some none ∧ ∃ (dd : Addr) (fs : List (Str × V)), d = some dd ∧ H dd = some (.xd fs) ∧ fs.lookup l = some x
theorem Fld.new {H : Hp} {D : Addr} {d : Option Addr} {l : Str} {x : V} {p : Addr} {o : HO} (h : Fld K H D d l x) (hp : H p = none) : Fld K (upd H p o) D d l x := by
  obtain ⟨h1, dd, fs, h2, h3, h4⟩ := h
  exact ⟨h1, dd, fs, h2, by rw [upd_ne (ne_of_none h3 hp)]; exact h3, h4⟩
theorem fld_rd {a D : Addr} {d : Option Addr} {l : Str} {x : V} {σ : L2.St} {H : Hp} {Q : VK} (C : CatE K cS D) (h : Fld K H D d l x) (h2 : σ[2]? = some (some (.ref a))) (q : Q x H) : tXfA K a (.ref D) d l (tVar 2) σ H Q := by
  obtain ⟨h1, dd, fs, e, h3, h4⟩ := h
  exact ⟨.ref a, h2, rfl, D, rfl, C.xf, h1, dd, fs, x, e, h3, h4, q⟩
theorem suite_rd (T : Errs P K mg cT cC cR cH cB cS) {a D : Addr} {d : Option Addr} {w : Int} {x : V} {v : Option V} {H : Hp} {Dn : Ends} (b : Fin 5) (C : CatE K cS D) (hD : D = [cT, cC, cR, cH, cB].get b) (hb : w = (b.val : Int)) (hd : DictOf H d)
    (fl : (w < 2 ∧ Fld K H D d "line" x) ∨ (w = 2 ∧ Fld K H D d "rule" x) ∨ (w = 3 ∧ Fld K H D d "reason" x) ∨ (w = 4 ∧ x = .non))
    (q : ∀ (H' : Hp) (p q : Addr), Same H H' → H' p = some (.tup [.ref q, x]) → H' q = some (.lst [.bl (decide (w = 0)), .bl (decide (w = 1)), .bl (decide (w = 2)), .bl (decide (w = 3)), .bl (decide (w = 4)), .bl true]) → Dn.rt (.ref p) H') :
    t_suiteR K cT cC cR cH cB a (.ref D) d Dn [some (.int w), some x, some (.ref a), v] H := by
  have kk : ∀ j : Fin 5, PySem.W.kitOne K (.ref D) (.ref ([cT, cC, cR, cH, cB].get j)) = some (decide (w = (j.val : Int))) := fun j => by
    rw [hD, T.mx b j, hb]
    congr 1
    exact decide_eq_decide.mpr ⟨fun e => by rw [e], fun e => Fin.ext (by omega)⟩
  have rr : ∀ {c : Addr} (u : Value), RelV (.ref c) u → u = .ref c := fun u r => r
  refine isA_rd C hd rr (kk 0) rfl (isA_rd C hd rr (kk 1) rfl (isA_rd C hd rr (kk 2) rfl ⟨(by show 3 ≤ sizeLine; decide), fun p1 n1 => ?_⟩))
  have hd1 := dictOf_new (o := .lst [.bl (decide (w = 0)), .bl (decide (w = 1)), .bl (decide (w = 2))]) hd n1
  refine ⟨.ref p1, rfl, isA_rd C hd1 rr (kk 3) rfl (isA_rd C hd1 rr (kk 4) rfl (isA_rd C hd1 (cv := .type "ValueError") (fun u r => r) C.ve rfl ⟨(by show 3 ≤ sizeLine; decide), fun p2 n2 => ?_⟩))⟩
  have np : p1 ≠ p2 := fun z => by
    rw [← z, upd_same] at n2
    cases n2
  refine ⟨p1, p2, _, _, rfl, rfl, by rw [upd_ne np]; exact upd_same, upd_same, (by show 3 + 3 ≤ sizeLine; decide), fun p3 n3 => ?_⟩
  have same3 := ((same_new (o := .lst [.bl (decide (w = 0)), .bl (decide (w = 1)), .bl (decide (w = 2))]) n1).trans (same_new (o := .lst [.bl (decide (w = 3)), .bl (decide (w = 4)), .bl true]) n2)).trans (same_new (o := .lst [.bl (decide (w = 0)), .bl (decide (w = 1)), .bl (decide (w = 2)), .bl (decide (w = 3)), .bl (decide (w = 4)), .bl true]) n3)
  have up3 : ∀ {l : Str}, Fld K H D d l x → Fld K _ D d l x := fun f => ((f.new (o := .lst [.bl (decide (w = 0)), .bl (decide (w = 1)), .bl (decide (w = 2))]) n1).new (o := .lst [.bl (decide (w = 3)), .bl (decide (w = 4)), .bl true]) n2).new (o := .lst [.bl (decide (w = 0)), .bl (decide (w = 1)), .bl (decide (w = 2)), .bl (decide (w = 3)), .bl (decide (w = 4)), .bl true]) n3
  have fin : ∀ p, upd (upd (upd H p1 (.lst [.bl (decide (w = 0)), .bl (decide (w = 1)), .bl (decide (w = 2))])) p2 (.lst [.bl (decide (w = 3)), .bl (decide (w = 4)), .bl true])) p3 (.lst [.bl (decide (w = 0)), .bl (decide (w = 1)), .bl (decide (w = 2)), .bl (decide (w = 3)), .bl (decide (w = 4)), .bl true]) p = none →
      Dn.rt (.ref p) (upd (upd (upd (upd H p1 (.lst [.bl (decide (w = 0)), .bl (decide (w = 1)), .bl (decide (w = 2))])) p2 (.lst [.bl (decide (w = 3)), .bl (decide (w = 4)), .bl true])) p3 (.lst [.bl (decide (w = 0)), .bl (decide (w = 1)), .bl (decide (w = 2)), .bl (decide (w = 3)), .bl (decide (w = 4)), .bl true])) p (.tup [.ref p3, x])) := fun p n => by
    refine q _ p p3 (same3.trans (same_new n)) upd_same ?_
    have : p3 ≠ p := fun z => by
      rw [← z, upd_same] at n
      cases n
    rw [upd_ne this]
    exact upd_same
  refine ⟨_, rfl, _, _, rfl, rfl, _, rfl, ?_⟩
  rcases fl with ⟨c, f⟩ | ⟨rfl, f⟩ | ⟨rfl, f⟩ | ⟨rfl, rfl⟩
  · refine iteDT c ?_
    exact ⟨.ref p3, rfl, fld_rd C (up3 f) rfl ⟨(by show 2 ≤ sizeLine; decide), fin⟩⟩
  · refine iteDF (by decide) ?_
    refine ⟨_, rfl, rfl, _, rfl, iteDT (by decide) ?_⟩
    exact ⟨.ref p3, rfl, fld_rd C (up3 f) rfl ⟨(by show 2 ≤ sizeLine; decide), fin⟩⟩
  · refine iteDF (by decide) ?_
    refine ⟨_, rfl, rfl, _, rfl, iteDF (by decide) ?_⟩
    refine ⟨.ref p3, rfl, _, rfl, rfl, _, rfl, iteDT (by decide) ?_⟩
    exact fld_rd C (up3 f) rfl ⟨(by show 2 ≤ sizeLine; decide), fin⟩
  · refine iteDF (by decide) ?_
    refine ⟨_, rfl, rfl, _, rfl, iteDF (by decide) ?_⟩
    refine ⟨.ref p3, rfl, _, rfl, rfl, _, rfl, iteDF (by decide) ?_⟩
    exact ⟨(by show 2 ≤ sizeLine; decide), fin⟩
theorem ok_raised {f : Addr} {fd : FuncData} {k : Nat} (F : Fun K "_law_raised" "_law_raised" sRaised f fd) (T : Errs P K mg cT cC cR cH cB cS) : FnOk P w K mg base CX0 (k + 2) f fd ["which", "item"] spRaised := by
  refine F.ok scRaised (fun vs H Q E h => ?_) (fun cdv A outer s H vs Q E hr h => ?_)
  · obtain ⟨w, x, rfl, _⟩ := h
    rfl
  · obtain ⟨w, x, rfl, hw, q⟩ := h
    have nd := scRaised.nd
    refine ⟨_, pss_one (ps_try_as (i := 2) (tb := t_tryb cT cC cR cH cB) (ts := t_suiteR K cT cC cR cH cB) (Wout := fun _ _ _ _ => False) rfl rfl nd rfl rfl ⟨rfl, by decide, Or.inl T.gS⟩ takes0
      (fun W pn xe tk _ => pss_cons (ps_if (pt_cmpR op_eq (pv 0) pe_int (nomark _)) (pss_one (ps_raiseE rfl T.eT hr tk (pa_cons (pv 1) pa_nil))) pss_nil)
        (pss_cons (ps_if (pt_cmpR op_eq (pv 0) pe_int (nomark _)) (pss_one (ps_raiseE rfl T.eC hr tk (pa_cons (pv 1) pa_nil))) pss_nil)
        (pss_cons (ps_if (pt_cmpR op_eq (pv 0) pe_int (nomark _)) (pss_one (ps_raiseE rfl T.eR hr tk (pa_cons (pv 1) pa_nil))) pss_nil)
        (pss_cons (ps_if (pt_cmpR op_eq (pv 0) pe_int (nomark _)) (pss_one (ps_raiseE rfl T.eH hr tk (pa_cons (pv 1) pa_nil))) pss_nil)
        (pss_one (ps_raise rfl tk (pmk_own0 PySem.F.excBase_ValueError T.qB T.gB T.kB (raises_own T.sB T.tB) rfl)))))))
      (fun a oe cls d pn hz hf => pss_cons (ps_set (i := 3) nd rfl (.inl rfl) (pe_lst (pa_cons (pe_callB (call_isA hz hf) (by rfl) T.zIsi PyProof.Rows.boot_isinstance (pa_cons (pv 2) (pa_cons (pe_glob rfl T.eT.gC rfl) pa_nil))) (pa_cons (pe_callB (call_isA hz hf) (by rfl) T.zIsi PyProof.Rows.boot_isinstance (pa_cons (pv 2) (pa_cons (pe_glob rfl T.eC.gC rfl) pa_nil)))
            (pa_cons (pe_callB (call_isA hz hf) (by rfl) T.zIsi PyProof.Rows.boot_isinstance (pa_cons (pv 2) (pa_cons (pe_glob rfl T.eR.gC rfl) pa_nil))) pa_nil)))))
        (pss_cons (ps_set (i := 3) nd rfl (.inl rfl) (pe_op op_cat (pv 3) (pe_lst (pa_cons (pe_callB (call_isA hz hf) (by rfl) T.zIsi PyProof.Rows.boot_isinstance (pa_cons (pv 2) (pa_cons (pe_glob rfl T.eH.gC rfl) pa_nil))) (pa_cons (pe_callB (call_isA hz hf) (by rfl) T.zIsi PyProof.Rows.boot_isinstance (pa_cons (pv 2) (pa_cons (pe_glob rfl T.gB rfl) pa_nil)))
            (pa_cons (pe_callB (call_isA hz hf) (by rfl) T.zIsi PyProof.Rows.boot_isinstance (pa_cons (pv 2) (pa_cons (pe_bltn (v := .ty "ValueError") rfl T.zVE PyProof.Rows.Boot.«ValueError» rfl) pa_nil))) pa_nil))))))
        (pss_cons (ps_if (pt_cmpR op_lt (pv 0) pe_int (nomark _)) (pss_one (ps_ret (pe_tup (pa_cons (pv 3) (pa_cons (pe_xfA hz hf (pv 2)) pa_nil))))) pss_nil)
        (pss_cons (ps_if (pt_cmpR op_eq (pv 0) pe_int (nomark _)) (pss_one (ps_ret (pe_tup (pa_cons (pv 3) (pa_cons (pe_xfA hz hf (pv 2)) pa_nil))))) pss_nil)
        (pss_one (ps_ret (pe_tup (pa_cons (pv 3) (pa_cons (pe_ifExp (pt_cmpR op_eq (pv 0) pe_int (nomark _)) (pe_xfA hz hf (pv 2)) pe_non) pa_nil)))))))))), ?_⟩
    have one : ∀ {C : Addr} {l : Str} {σ : L2.St} {H : Hp} {W : WX} {D : Ends}, σ[1]? = some (some x) → EV x → (∀ d, H d = none → W (.ref C) (some d) σ (upd H d (.xd [(l, x)]))) → tRaiseE C l W (tCons (tVar 1) tNil) D σ H := fun h1 ev h => ⟨_, h1, _, rfl, ev, h⟩
    have fl : ∀ {l : Str} {D d : Addr}, PySem.W.findIn K (.ref D) l = some none → Fld K (upd H d (.xd [(l, x)])) D (some d) l x := fun {l D d} h => ⟨h, d, _, rfl, upd_same, by simp [List.lookup]⟩
    have dd : ∀ {l : Str} {d : Addr}, DictOf (upd H d (.xd [(l, x)])) (some d) := fun {l d} => .inr ⟨d, _, rfl, upd_same⟩
    rcases hw with ⟨rfl, ev⟩ | ⟨rfl, ev⟩ | ⟨rfl, ev⟩ | ⟨rfl, ev⟩ | ⟨rfl, rfl⟩
    · refine ⟨_, rfl, rfl, _, rfl, iteDT (by decide) (one rfl ev fun d n => ⟨true, T.kT.sw, fun _ a na => ?_, fun z => Bool.noConfusion z⟩)⟩
      exact suite_rd T 0 T.kT rfl rfl dd (.inl ⟨by decide, fl T.nT⟩) fun H' p q' s => q H' p q' ((same_new n).trans s)
    · refine ⟨_, rfl, rfl, _, rfl, iteDF (by decide) ⟨_, rfl, rfl, _, rfl, iteDT (by decide) (one rfl ev fun d n => ⟨true, T.kC.sw, fun _ a na => ?_, fun z => Bool.noConfusion z⟩)⟩⟩
      exact suite_rd T 1 T.kC rfl rfl dd (.inl ⟨by decide, fl T.nC⟩) fun H' p q' s => q H' p q' ((same_new n).trans s)
    · refine ⟨_, rfl, rfl, _, rfl, iteDF (by decide) ⟨_, rfl, rfl, _, rfl, iteDF (by decide) ⟨_, rfl, rfl, _, rfl, iteDT (by decide) (one rfl ev fun d n => ⟨true, T.kR.sw, fun _ a na => ?_, fun z => Bool.noConfusion z⟩)⟩⟩⟩
      exact suite_rd T 2 T.kR rfl rfl dd (.inr (.inl ⟨rfl, fl T.nR⟩)) fun H' p q' s => q H' p q' ((same_new n).trans s)
    · refine ⟨_, rfl, rfl, _, rfl, iteDF (by decide) ⟨_, rfl, rfl, _, rfl, iteDF (by decide) ⟨_, rfl, rfl, _, rfl, iteDF (by decide) ⟨_, rfl, rfl, _, rfl, iteDT (by decide) (one rfl ev fun d n => ⟨true, T.kH.sw, fun _ a na => ?_, fun z => Bool.noConfusion z⟩)⟩⟩⟩⟩
      exact suite_rd T 3 T.kH rfl rfl dd (.inr (.inr (.inl ⟨rfl, fl T.nH⟩))) fun H' p q' s => q H' p q' ((same_new n).trans s)
    · refine ⟨_, rfl, rfl, _, rfl, iteDF (by decide) ⟨_, rfl, rfl, _, rfl, iteDF (by decide) ⟨_, rfl, rfl, _, rfl, iteDF (by decide) ⟨_, rfl, rfl, _, rfl, iteDF (by decide) ⟨true, T.kB'.sw, fun _ a na => ?_, fun z => Bool.noConfusion z⟩⟩⟩⟩⟩
      exact suite_rd T 4 T.kB' rfl rfl (.inl rfl) (.inr (.inr (.inr ⟨rfl, rfl⟩))) fun H' p q' s => q H' p q' s
end
end Pk
set_option Elab.async false
set_option linter.all false
set_option maxRecDepth 100000
set_option maxHeartbeats 4000000
namespace Pk
open PySem PySem.Spec PyProof.Rows L2 SX PySem.ErX
def spLaw (K : PySem.W.Frag) : Sp := fun vs H Q _ => ∃ (a : Addr) (ns : List Int), vs = [.ref a] ∧ SqL K H a (ns.map V.int) ∧ ns.length ≤ 63 ∧ ∀ H', Q (.bl true) H'
/-- what the law holds as item for `which` -/
def ItemOk (w : Int) (x : V) : Prop := ((w = 0 ∧ EV x) ∨ (w = 1 ∧ EV x) ∨ (w = 2 ∧ EV x) ∨ (w = 3 ∧ EV x) ∨ (w = 4 ∧ x = .non))
theorem ev_sc {x : V} (h : EV x) : scal x x = true := by
  rcases h with ⟨y, rfl, _⟩ | ⟨i, rfl, _⟩ <;> rfl
theorem ItemOk.sc {w : Int} {x : V} (h : ItemOk w x) : scal x x = true := by
  rcases h with ⟨_, h⟩ | ⟨_, h⟩ | ⟨_, h⟩ | ⟨_, h⟩ | ⟨_, rfl⟩
  · exact ev_sc h
  · exact ev_sc h
  · exact ev_sc h
  · exact ev_sc h
  · rfl
theorem x_code : Str.ofString "x" = S [120] := by decide +kernel
theorem ev_small {r : Int} (h0 : 0 ≤ r) (h1 : r < 1000) : EV (.int r) := .inr ⟨r, rfl, by
  have h : r.natAbs < 2 ^ 10 := by omega
  by_cases h0 : r.natAbs = 0
  · rw [h0]
    decide
  · have := (Nat.log2_lt h0).mpr h
    omega⟩
section
variable {P : Program} {w : World} {K : PySem.W.Frag} {mg : Str → Option Value} {base : Heap} {cT cC cR cH cB cS : Addr}
/-- the words of the law -/
theorem pick_ev {j : Nat} {x : V} (h : ([V.str "size", .str "name", .str "table", .str "entry", .str "", .str "full", .str (S (List.replicate 30 [120]).flatten)] : List V)[j]? = some x) : EV x := by
  have hm := List.mem_of_getElem? h
  have key : ∀ y ∈ ([V.str "size", .str "name", .str "table", .str "entry", .str "", .str "full", .str (S (List.replicate 30 [120]).flatten)] : List V), ∃ z : Str, y = .str z ∧ z.length ≤ 1000000 := by
    intro y hy
    simp only [List.mem_cons, List.not_mem_nil, or_false] at hy
    rcases hy with rfl | rfl | rfl | rfl | rfl | rfl | rfl <;> exact ⟨_, rfl, by decide +kernel⟩
  obtain ⟨z, e, hz⟩ := key x hm
  exact .inl ⟨z, e, hz⟩
theorem ok_law {f : Addr} {fd : FuncData} {k : Nat} (F : Fun K "law" "law" sLaw f fd) (zRange : mg "range" = none) (D1 : Df P w K mg base CX0 (k + 1) "_law_state" ["script"] (spState K)) (D2 : Df P w K mg base CX0 (k + 1) "_law_draw" ["state", "many"] spDraw)
    (D3 : Df P w K mg base CX0 (k + 2) "_law_pick" ["state", "row"] (spPick K)) (D4 : Df P w K mg base CX0 (k + 2) "_law_raised" ["which", "item"] spRaised) : FnOk P w K mg base CX0 (k + 3) f fd ["script"] (spLaw K) := by
  obtain ⟨f1, fd1, G1, g1, k1, b1⟩ := D1.ex
  obtain ⟨f2, fd2, G2, g2, k2, b2⟩ := D2.ex
  obtain ⟨f3, fd3, G3, g3, k3, b3⟩ := D3.ex
  obtain ⟨f4, fd4, G4, g4, k4, b4⟩ := D4.ex
  refine F.ok scLaw (fun vs H Q E h => ?_) (fun cdv A outer s0 H vs Q E hr h => ?_)
  · obtain ⟨a, ns, rfl, _⟩ := h
    rfl
  · obtain ⟨a, ns, rfl, hS, hn, q⟩ := h
    have nd := scLaw.nd
    have hr1 : Room (k + 1) _ := hr.mono (Nat.le_succ _)
    refine ⟨_, pss_cons (ps_set (i := 1) nd rfl (.inl rfl) (pe_call G1 hr1 (by rfl) g1 k1 b1 .nil pass0 (pa_cons (pv 0) pa_nil)))
      (pss_cons (ps_for PassesOwn.never rfl (pi_range1 (by rfl) zRange (pa_cons pe_int pa_nil)) (pg_name (i := 2) nd rfl (.inr rfl))
        (pss_cons (ps_set (i := 3) nd rfl (.inl rfl) (pe_op op_add pe_int (pe_call G2 hr1 (by rfl) g2 k2 b2 .nil pass0 (pa_cons (pv 1) (pa_cons pe_int pa_nil)))))
        (C8.pss_cut (ps_if (pt_cmpR op_gt (pv 2) pe_int (nomark _)) (pss_one (ps_set (i := 3) nd rfl (.inl rfl) (pe_call G3 hr (by rfl) g3 k3 b3 .nil pass0 (pa_cons (pv 1) (pa_cons (pe_lst (pa_cons pe_str (pa_cons pe_str (pa_cons pe_str (pa_cons pe_str (pa_cons pe_str (pa_cons pe_str (pa_cons (pe_op op_mulS pe_str pe_int) pa_nil)))))))) pa_nil))))) pss_nil)
        (C8.pss_cut (ps_if (pt_cmpR op_eq (pv 2) pe_int (nomark _)) (pss_one (ps_set (i := 3) nd rfl (.inl rfl) pe_non)) pss_nil)
        (pss_cons (ps_asg (pe_call G4 hr (by rfl) g4 k4 b4 .nil pass0 (pa_cons (pv 2) (pa_cons (pv 3) pa_nil))) (pg_tup rfl (pgs_cons (pg_name (i := 4) nd rfl (.inl rfl)) (pgs_cons (pg_name (i := 5) nd rfl (.inl rfl)) pgs_nil))))
        (pss_one (ps_if (PW.pt (pw_or (pt_cmpR (op_neD hr.units) (pv 4) (pe_op op_cat (pe_lc (own := [("k", 6)]) (g := gName 6) (tt := tYes) rfl nd (pi_range1 (by rfl) zRange (pa_cons pe_int pa_nil)) (blkOk_by (N := ["script", "state", "which", "item", "kinds", "told", "k"]) (sc := defScope sLaw) (by decide +kernel))
              (fun _ _ _ _ _ => pg_name (i := 6) nd rfl (Or.inl rfl)) (fun _ _ _ _ _ => pts_nil) (fun _ _ _ _ _ => pe_cmpR op_eq (pv 6) (pv 2) (nomark _))) (pe_lst (pa_cons pe_bl pa_nil))) (nomark _))
            (pw_or1 (pt_cmpR op_ne (pv 5) (pv 3) (nomark _))))) (pss_one (ps_ret pe_bl)) pss_nil)))))))
      (pss_one (ps_ret pe_bl))), ?_⟩
    refine ⟨_, rfl, a, ns, rfl, hS, hn, fun H1 s c k1' _ _ st1 => ?_⟩
    refine ⟨5, rfl, by decide, by decide, for_range (fun i σ H' => ∃ v2 v3 v4 v5 v6 : Option V, σ = [some (.ref a), some (.ref s), v2, v3, v4, v5, v6] ∧ StAt H' s c)
      ⟨none, none, none, none, none, rfl, st1⟩ ?_ fun σ H' _ => q H'⟩
    rintro i σ H2 hi ⟨v2, v3, v4, v5, v6, rfl, st2⟩
    have hi5 : i < 5 := hi
    refine ⟨.ref s, rfl, s, c, 900, rfl, st2, by decide, by decide, fun H3 r r0 r1 st3 kp3 => ⟨1, r, rfl, rfl, ?_⟩⟩
    refine ⟨fun σ' H' => ∃ x, σ' = [some (.ref a), some (.ref s), some (.int (0 + (i : Int))), some x, v4, v5, v6] ∧ StAt H' s c ∧ EV x, ?_, ?_⟩
    · refine ⟨_, rfl, _, _, rfl, rfl, _, rfl, iteD (fun h => ?_) fun h => ?_⟩
      · refine ⟨.ref s, rfl, [120], 30, ?_, rfl, by decide, by decide, by decide, (by show 7 ≤ sizeLine; decide), fun p np => ?_⟩
        · show V.str (Str.ofString "x") = _
          rw [x_code]
        have hp : upd H3 p (.lst [V.str "size", .str "name", .str "table", .str "entry", .str "", .str "full", .str (S (List.replicate 30 [120]).flatten)]) p = some _ := upd_same
        obtain ⟨cells, seed, q1, q2, _⟩ := id st3
        refine ⟨s, c, p, [V.str "size", .str "name", .str "table", .str "entry", .str "", .str "full", .str (S (List.replicate 30 [120]).flatten)], rfl, st3.new np, SqL.of upd_same, ne_of_none q1 np |>.symm, ne_of_none q2 np |>.symm, by decide, by decide, fun H4 j x hx st4 kp4 => ?_⟩
        exact ⟨x, rfl, st4, pick_ev hx⟩
      · exact ⟨_, rfl, st3, ev_small (by omega) (by omega)⟩
    rintro σ4 H4 ⟨x, rfl, st4, ev⟩
    refine ⟨fun σ' H' => ∃ x, σ' = [some (.ref a), some (.ref s), some (.int (0 + (i : Int))), some x, v4, v5, v6] ∧ StAt H' s c ∧ ItemOk (0 + (i : Int)) x, ?_, ?_⟩
    · refine ⟨_, rfl, rfl, _, rfl, ?_⟩
      rw [dcInt]
      refine iteD (fun h => ?_) fun h => ?_
      · exact ⟨_, rfl, st4, .inr (.inr (.inr (.inr ⟨h, rfl⟩)))⟩
      · refine ⟨_, rfl, st4, ?_⟩
        have : (0 + (i : Int)) = 0 ∨ (0 + (i : Int)) = 1 ∨ (0 + (i : Int)) = 2 ∨ (0 + (i : Int)) = 3 := by omega
        rcases this with e | e | e | e
        · exact .inl ⟨e, ev⟩
        · exact .inr (.inl ⟨e, ev⟩)
        · exact .inr (.inr (.inl ⟨e, ev⟩))
        · exact .inr (.inr (.inr (.inl ⟨e, ev⟩)))
    rintro σ5 H5 ⟨x, rfl, st5, io⟩
    refine ⟨_, rfl, _, rfl, _, x, rfl, io, fun H6 p z s6 hp hz => ⟨p, _, rfl, SqT.of hp, rfl, _, _, rfl, _, _, rfl, rfl, ?_⟩⟩
    have st6 := st5.same s6
    refine ⟨.ref z, rfl, 5, rfl, by decide, by decide, fun D hD => lc_range (fun j H' => Same H6 H' ∧ H' D = some (.lst ((List.range j).map fun (t : Nat) => V.bl (decide (V.int (0 + (t : Int)) = V.int (0 + (i : Int)))))))
      ⟨same_new hD, upd_same⟩ ?_ ?_⟩
    · rintro j H7 hj ⟨s7, hD7⟩
      refine ⟨rfl, _, rfl, _, rfl, rfl, _, hD7, ?_, fun b o e => ?_, ?_⟩
      · rw [List.length_map, List.length_range]
        exact Nat.lt_trans hj (by decide)
      · rw [upd_ne (ne_of_none e hD)]
        exact s7 b o e
      · rw [upd_same, List.range_succ, List.map_append]
        rfl
    · rintro H7 ⟨s7, hD7⟩
      refine ⟨(by show 1 ≤ sizeLine; decide), fun p8 n8 => ?_⟩
      have dp : D ≠ p8 := fun e => by
        rw [← e, hD7] at n8
        cases n8
      refine ⟨D, p8, _, _, rfl, rfl, by rw [upd_ne dp]; exact hD7, upd_same, (by show 5 + 1 ≤ sizeLine; decide), fun p9 n9 => ?_⟩
      have s9 : Same H6 _ := (s7.trans (same_new (o := .lst [.bl true]) n8)).trans (same_new (o := .lst (((List.range (5 : Int).toNat).map fun (t : Nat) => V.bl (decide (V.int (0 + (t : Int)) = V.int (0 + (i : Int))))) ++ [.bl true])) n9)
      refine ⟨.list [.bool (decide (0 + (i : Int) = 0)), .bool (decide (0 + (i : Int) = 1)), .bool (decide (0 + (i : Int) = 2)), .bool (decide (0 + (i : Int) = 3)), .bool (decide (0 + (i : Int) = 4)), .bool true],
        .list [.bool (decide (V.int (0 + 0) = V.int (0 + (i : Int)))), .bool (decide (V.int (0 + 1) = V.int (0 + (i : Int)))), .bool (decide (V.int (0 + 2) = V.int (0 + (i : Int)))), .bool (decide (V.int (0 + 3) = V.int (0 + (i : Int)))), .bool (decide (V.int (0 + 4) = V.int (0 + (i : Int)))), .bool true],
        .lst (SqL.of (s9 _ _ hz)) (.cons (.bl _) (.cons (.bl _) (.cons (.bl _) (.cons (.bl _) (.cons (.bl _) (.cons (.bl _) .nil)))))), .lst (SqL.of upd_same) (.cons (.bl _) (.cons (.bl _) (.cons (.bl _) (.cons (.bl _) (.cons (.bl _) (.cons (.bl _) .nil)))))), rfl, rfl, _, rfl, ?_⟩
      rw [dcInt, dcInt, dcInt, dcInt, dcInt]
      have e0 : PyData.eqv (.list [.bool (decide (0 + (i : Int) = 0)), .bool (decide (0 + (i : Int) = 1)), .bool (decide (0 + (i : Int) = 2)), .bool (decide (0 + (i : Int) = 3)), .bool (decide (0 + (i : Int) = 4)), .bool true])
        (.list [.bool (decide (0 + 0 = 0 + (i : Int))), .bool (decide (0 + 1 = 0 + (i : Int))), .bool (decide (0 + 2 = 0 + (i : Int))), .bool (decide (0 + 3 = 0 + (i : Int))), .bool (decide (0 + 4 = 0 + (i : Int))), .bool true]) = true := by
        match i, hi5 with
        | 0, _ => rfl
        | 1, _ => rfl
        | 2, _ => rfl
        | 3, _ => rfl
        | 4, _ => rfl
      rw [e0]
      refine iteF ⟨_, rfl, _, rfl, io.sc, _, rfl, ?_⟩
      rw [decide_eq_true rfl]
      exact iteF ⟨_, _, _, _, _, rfl, st6.same s9⟩
end
end Pk
set_option Elab.async false
set_option linter.all false
set_option maxRecDepth 100000
set_option maxHeartbeats 8000000
namespace Pk
open PySem PySem.Spec PyProof.Rows L2 SX PySem.ErX
theorem atd_mk {K : PySem.W.Frag} {h : Heap} {mg : Str → Option Value} {x : Str} {st : Stmt} {ps : List Str} {f : Addr} {oc : Value} {od an : Option Addr} {osl : Array (Option Value)} {kV doc pm cdv ct : Value} (X : K.In h) (G : h.Ns mainGlobals mg)
    (a : PySem.W.nsIn K mainGlobals x = some (some (.ref f))) (l : K.lookup f = some ⟨oc, od, .func (PySem.W.fnOf x x (defArgs st) (defBody st) (defScope st) .none kV doc pm an cdv ct), osl⟩)
    (c : PySem.W.codeIn K cdv x = true) (k : PySem.W.keepIn K (.ref f) = true)
    (hb : ∀ (kV doc pm : Value) (an : Option Addr) (cdv ct : Value) (us : List Value), us.length = ps.length → bindArgs (PySem.W.fnOf x x (defArgs st) (defBody st) (defScope st) .none kV doc pm an cdv ct) ⟨us, []⟩ = pure (ps.zip us)) : AtD K mg x st ps :=
  ⟨f, _, fun_mk l c k, PySem.W.mg_of X G a, (fun_mk l c k).binds hb⟩
theorem all_mk {P : Program} {w : World} {K : PySem.W.Frag} {h : Heap} {mg : Str → Option Value} {fa : Addr}
    {f0 : Addr} {oc0 : Value} {od0 an0 : Option Addr} {osl0 : Array (Option Value)} {kV0 doc0 pm0 ct0 cd0 : Value}
    {f1 : Addr} {oc1 : Value} {od1 an1 : Option Addr} {osl1 : Array (Option Value)} {kV1 doc1 pm1 ct1 cd1 : Value}
    {f2 : Addr} {oc2 : Value} {od2 an2 : Option Addr} {osl2 : Array (Option Value)} {kV2 doc2 pm2 ct2 cd2 : Value}
    {f3 : Addr} {oc3 : Value} {od3 an3 : Option Addr} {osl3 : Array (Option Value)} {kV3 doc3 pm3 ct3 cd3 : Value}
    {f4 : Addr} {oc4 : Value} {od4 an4 : Option Addr} {osl4 : Array (Option Value)} {kV4 doc4 pm4 ct4 cd4 : Value}
    {cS cB : Addr}
    {cT fIT cdaT ccT : Addr} {nmT qnT : Str} {NT : Addr} {bsT bmT : List Value} {snT : List Str} {subT : List Value} {abT : Bool} {colT : Option Bool} {ddT : Option Addr} {m0T m1T m2T m3T m5T : Option Value}
    {ocT docT pmT ctT cclT clT : Value} {odT anT cddT cldT : Option Addr} {oslT ccsT cslT : Array (Option Value)} {vsT : Array Value} {fileT : Str} {tfT : PySem.Tok} {a1T a2T b1T b2T b3T b4T b5T b6T b7T b8T b9T d1T d2T d3T d4T : Pos}
    {cC fIC cdaC ccC : Addr} {nmC qnC : Str} {NC : Addr} {bsC bmC : List Value} {snC : List Str} {subC : List Value} {abC : Bool} {colC : Option Bool} {ddC : Option Addr} {m0C m1C m2C m3C m5C : Option Value}
    {ocC docC pmC ctC cclC clC : Value} {odC anC cddC cldC : Option Addr} {oslC ccsC cslC : Array (Option Value)} {vsC : Array Value} {fileC : Str} {tfC : PySem.Tok} {a1C a2C b1C b2C b3C b4C b5C b6C b7C b8C b9C d1C d2C d3C d4C : Pos}
    {cR fIR cdaR ccR : Addr} {nmR qnR : Str} {NR : Addr} {bsR bmR : List Value} {snR : List Str} {subR : List Value} {abR : Bool} {colR : Option Bool} {ddR : Option Addr} {m0R m1R m2R m3R m5R : Option Value}
    {ocR docR pmR ctR cclR clR : Value} {odR anR cddR cldR : Option Addr} {oslR ccsR cslR : Array (Option Value)} {vsR : Array Value} {fileR : Str} {tfR : PySem.Tok} {a1R a2R b1R b2R b3R b4R b5R b6R b7R b8R b9R d1R d2R d3R d4R : Pos}
    {cH fIH cdaH ccH : Addr} {nmH qnH : Str} {NH : Addr} {bsH bmH : List Value} {snH : List Str} {subH : List Value} {abH : Bool} {colH : Option Bool} {ddH : Option Addr} {m0H m1H m2H m3H m5H : Option Value}
    {ocH docH pmH ctH cclH clH : Value} {odH anH cddH cldH : Option Addr} {oslH ccsH cslH : Array (Option Value)} {vsH : Array Value} {fileH : Str} {tfH : PySem.Tok} {a1H a2H b1H b2H b3H b4H b5H b6H b7H b8H b9H d1H d2H d3H d4H : Pos}
    (X : K.In h) (G : h.Ns mainGlobals mg) (hfa : mg "law" = some (.ref fa))
    (a0 : PySem.W.nsIn K mainGlobals "_law_state" = some (some (.ref f0)))
    (l0 : K.lookup f0 = some ⟨oc0, od0, .func (PySem.W.fnOf "_law_state" "_law_state" (defArgs sState) (defBody sState) (defScope sState) .none kV0 doc0 pm0 an0 cd0 ct0), osl0⟩)
    (c0 : PySem.W.codeIn K cd0 "_law_state" = true)
    (k0 : PySem.W.keepIn K (.ref f0) = true)
    (a1 : PySem.W.nsIn K mainGlobals "_law_draw" = some (some (.ref f1)))
    (l1 : K.lookup f1 = some ⟨oc1, od1, .func (PySem.W.fnOf "_law_draw" "_law_draw" (defArgs sDraw) (defBody sDraw) (defScope sDraw) .none kV1 doc1 pm1 an1 cd1 ct1), osl1⟩)
    (c1 : PySem.W.codeIn K cd1 "_law_draw" = true)
    (k1 : PySem.W.keepIn K (.ref f1) = true)
    (a2 : PySem.W.nsIn K mainGlobals "_law_pick" = some (some (.ref f2)))
    (l2 : K.lookup f2 = some ⟨oc2, od2, .func (PySem.W.fnOf "_law_pick" "_law_pick" (defArgs sPick) (defBody sPick) (defScope sPick) .none kV2 doc2 pm2 an2 cd2 ct2), osl2⟩)
    (c2 : PySem.W.codeIn K cd2 "_law_pick" = true)
    (k2 : PySem.W.keepIn K (.ref f2) = true)
    (a3 : PySem.W.nsIn K mainGlobals "_law_raised" = some (some (.ref f3)))
    (l3 : K.lookup f3 = some ⟨oc3, od3, .func (PySem.W.fnOf "_law_raised" "_law_raised" (defArgs sRaised) (defBody sRaised) (defScope sRaised) .none kV3 doc3 pm3 an3 cd3 ct3), osl3⟩)
    (c3 : PySem.W.codeIn K cd3 "_law_raised" = true)
    (k3 : PySem.W.keepIn K (.ref f3) = true)
    (a4 : PySem.W.nsIn K mainGlobals "law" = some (some (.ref f4)))
    (l4 : K.lookup f4 = some ⟨oc4, od4, .func (PySem.W.fnOf "law" "law" (defArgs sLaw) (defBody sLaw) (defScope sLaw) .none kV4 doc4 pm4 an4 cd4 ct4), osl4⟩)
    (c4 : PySem.W.codeIn K cd4 "law" = true)
    (k4 : PySem.W.keepIn K (.ref f4) = true)
    (gS : PySem.W.nsIn K mainGlobals "SwitchError" = some (some (.ref cS)))
    (eS : PySem.W.subIn K (.ref cS) (.type "BaseException") = some true)
    (hdS : PySem.W.hasDictIn K cS = true)
    (tS : PySem.W.typeIn K (.ref cS) = some (.type "type"))
    (gB : PySem.W.nsIn K mainGlobals "BuildError" = some (some (.ref cB)))
    (qB : PySem.W.excIn K cB [.type "ValueError", .type "Exception", .type "BaseException", .type "object"] "ValueError.__new__" = true)
    (kB : PySem.W.keepIn K (.ref cB) = true)
    (gT : PySem.W.nsIn K mainGlobals "TextError" = some (some (.ref cT)))
    (xT : K.lookup cT = some (excClassObj nmT qnT cT NT bsT bmT true snT subT abT colT ddT m0T m1T m2T m3T m5T "ValueError.__new__"))
    (rT : PySem.HandSPX.refsVE bmT = true)
    (saT : PySem.W.findIn K (.ref cT) "__setattr__" = some (some (.builtin "object.__setattr__")))
    (kT : PySem.W.keepIn K (.ref cT) = true)
    (vT : PySem.W.subIn K (.ref cT) (.type "ValueError") = some true)
    (nT : PySem.W.findIn K (.ref cT) "line" = some none)
    (suT : PySem.W.ks_superIn K cT cT "__init__" = some (some (.builtin "ValueError.__init__")))
    (mrT : PySem.W.mroIn K cT (.ref cT) = some true)
    (iT : PySem.W.findIn K (.ref cT) "__init__" = some (some (.ref fIT)))
    (uT : PySem.W.typeIn K (.ref fIT) = some (.type "function"))
    (lT : K.lookup fIT = some ⟨ocT, odT, .func (PySem.W.ksFn "__init__" "TextError.__init__" (iA "line" ⟨a1T, a2T, b1T, b2T, b3T, b4T, b5T, b6T, b7T, b8T, b9T, d1T, d2T, d3T, d4T⟩) (iB "line" "line " ⟨a1T, a2T, b1T, b2T, b3T, b4T, b5T, b6T, b7T, b8T, b9T, d1T, d2T, d3T, d4T⟩) (iS "line") .none .none docT pmT anT (.ref cdaT) ctT ccT), oslT⟩)
    (oT : PySem.W.codeIn K (.ref cdaT) "TextError.__init__" = true)
    (pT : (b3T.endLine == b8T.line) = true)
    (dT : K.lookup cdaT = some ⟨cclT, cddT, .fields vsT, ccsT⟩)
    (fT : vsT[2]? = some (.str fileT tfT))
    (fiT : ((P.main.file : Str) == fileT) = true)
    (zT : K.lookup ccT = some ⟨clT, cldT, .cell (some (.ref cT)), cslT⟩)
    (gC : PySem.W.nsIn K mainGlobals "CommandError" = some (some (.ref cC)))
    (xC : K.lookup cC = some (excClassObj nmC qnC cC NC bsC bmC true snC subC abC colC ddC m0C m1C m2C m3C m5C "ValueError.__new__"))
    (rC : PySem.HandSPX.refsVE bmC = true)
    (saC : PySem.W.findIn K (.ref cC) "__setattr__" = some (some (.builtin "object.__setattr__")))
    (kC : PySem.W.keepIn K (.ref cC) = true)
    (vC : PySem.W.subIn K (.ref cC) (.type "ValueError") = some true)
    (nC : PySem.W.findIn K (.ref cC) "line" = some none)
    (suC : PySem.W.ks_superIn K cC cC "__init__" = some (some (.builtin "ValueError.__init__")))
    (mrC : PySem.W.mroIn K cC (.ref cC) = some true)
    (iC : PySem.W.findIn K (.ref cC) "__init__" = some (some (.ref fIC)))
    (uC : PySem.W.typeIn K (.ref fIC) = some (.type "function"))
    (lC : K.lookup fIC = some ⟨ocC, odC, .func (PySem.W.ksFn "__init__" "CommandError.__init__" (iA "line" ⟨a1C, a2C, b1C, b2C, b3C, b4C, b5C, b6C, b7C, b8C, b9C, d1C, d2C, d3C, d4C⟩) (iB "line" "line " ⟨a1C, a2C, b1C, b2C, b3C, b4C, b5C, b6C, b7C, b8C, b9C, d1C, d2C, d3C, d4C⟩) (iS "line") .none .none docC pmC anC (.ref cdaC) ctC ccC), oslC⟩)
    (oC : PySem.W.codeIn K (.ref cdaC) "CommandError.__init__" = true)
    (pC : (b3C.endLine == b8C.line) = true)
    (dC : K.lookup cdaC = some ⟨cclC, cddC, .fields vsC, ccsC⟩)
    (fC : vsC[2]? = some (.str fileC tfC))
    (fiC : ((P.main.file : Str) == fileC) = true)
    (zC : K.lookup ccC = some ⟨clC, cldC, .cell (some (.ref cC)), cslC⟩)
    (gR : PySem.W.nsIn K mainGlobals "RuleError" = some (some (.ref cR)))
    (xR : K.lookup cR = some (excClassObj nmR qnR cR NR bsR bmR true snR subR abR colR ddR m0R m1R m2R m3R m5R "ValueError.__new__"))
    (rR : PySem.HandSPX.refsVE bmR = true)
    (saR : PySem.W.findIn K (.ref cR) "__setattr__" = some (some (.builtin "object.__setattr__")))
    (kR : PySem.W.keepIn K (.ref cR) = true)
    (vR : PySem.W.subIn K (.ref cR) (.type "ValueError") = some true)
    (nR : PySem.W.findIn K (.ref cR) "rule" = some none)
    (suR : PySem.W.ks_superIn K cR cR "__init__" = some (some (.builtin "ValueError.__init__")))
    (mrR : PySem.W.mroIn K cR (.ref cR) = some true)
    (iR : PySem.W.findIn K (.ref cR) "__init__" = some (some (.ref fIR)))
    (uR : PySem.W.typeIn K (.ref fIR) = some (.type "function"))
    (lR : K.lookup fIR = some ⟨ocR, odR, .func (PySem.W.ksFn "__init__" "RuleError.__init__" (iA "rule" ⟨a1R, a2R, b1R, b2R, b3R, b4R, b5R, b6R, b7R, b8R, b9R, d1R, d2R, d3R, d4R⟩) (iB "rule" "rule " ⟨a1R, a2R, b1R, b2R, b3R, b4R, b5R, b6R, b7R, b8R, b9R, d1R, d2R, d3R, d4R⟩) (iS "rule") .none .none docR pmR anR (.ref cdaR) ctR ccR), oslR⟩)
    (oR : PySem.W.codeIn K (.ref cdaR) "RuleError.__init__" = true)
    (pR : (b3R.endLine == b8R.line) = true)
    (dR : K.lookup cdaR = some ⟨cclR, cddR, .fields vsR, ccsR⟩)
    (fR : vsR[2]? = some (.str fileR tfR))
    (fiR : ((P.main.file : Str) == fileR) = true)
    (zR : K.lookup ccR = some ⟨clR, cldR, .cell (some (.ref cR)), cslR⟩)
    (gH : PySem.W.nsIn K mainGlobals "ChangeError" = some (some (.ref cH)))
    (xH : K.lookup cH = some (excClassObj nmH qnH cH NH bsH bmH true snH subH abH colH ddH m0H m1H m2H m3H m5H "ValueError.__new__"))
    (rH : PySem.HandSPX.refsVE bmH = true)
    (saH : PySem.W.findIn K (.ref cH) "__setattr__" = some (some (.builtin "object.__setattr__")))
    (kH : PySem.W.keepIn K (.ref cH) = true)
    (vH : PySem.W.subIn K (.ref cH) (.type "ValueError") = some true)
    (nH : PySem.W.findIn K (.ref cH) "reason" = some none)
    (suH : PySem.W.ks_superIn K cH cH "__init__" = some (some (.builtin "ValueError.__init__")))
    (mrH : PySem.W.mroIn K cH (.ref cH) = some true)
    (iH : PySem.W.findIn K (.ref cH) "__init__" = some (some (.ref fIH)))
    (uH : PySem.W.typeIn K (.ref fIH) = some (.type "function"))
    (lH : K.lookup fIH = some ⟨ocH, odH, .func (PySem.W.ksFn "__init__" "ChangeError.__init__" (iA "reason" ⟨a1H, a2H, b1H, b2H, b3H, b4H, b5H, b6H, b7H, b8H, b9H, d1H, d2H, d3H, d4H⟩) (iB "reason" "reason " ⟨a1H, a2H, b1H, b2H, b3H, b4H, b5H, b6H, b7H, b8H, b9H, d1H, d2H, d3H, d4H⟩) (iS "reason") .none .none docH pmH anH (.ref cdaH) ctH ccH), oslH⟩)
    (oH : PySem.W.codeIn K (.ref cdaH) "ChangeError.__init__" = true)
    (pH : (b3H.endLine == b8H.line) = true)
    (dH : K.lookup cdaH = some ⟨cclH, cddH, .fields vsH, ccsH⟩)
    (fH : vsH[2]? = some (.str fileH tfH))
    (fiH : ((P.main.file : Str) == fileH) = true)
    (zH : K.lookup ccH = some ⟨clH, cldH, .cell (some (.ref cH)), cslH⟩)
    (eT : PySem.W.subIn K (.ref cT) (.type "BaseException") = some true)
    (tT : PySem.W.typeIn K (.ref cT) = some (.type "type"))
    (hgT : PySem.W.findIn K (.ref cT) "__getattribute__" = some (some (.builtin "BaseException.__getattribute__")))
    (hkT : PySem.W.findIn K (.ref cT) "__getattr__" = some none)
    (hdT : PySem.W.hasDictIn K cT = true)
    (haT : PySem.W.findIn K (.ref cT) "__class__" = some (some (.builtin "object.__class__")))
    (hmT : PySem.W.mroIn K cT (.type "object") = some true)
    (swT : PySem.W.subIn K (.ref cT) (.ref cS) = some true)
    (veT : PySem.W.kitOne K (.ref cT) (.type "ValueError") = some true)
    (eC : PySem.W.subIn K (.ref cC) (.type "BaseException") = some true)
    (tC : PySem.W.typeIn K (.ref cC) = some (.type "type"))
    (hgC : PySem.W.findIn K (.ref cC) "__getattribute__" = some (some (.builtin "BaseException.__getattribute__")))
    (hkC : PySem.W.findIn K (.ref cC) "__getattr__" = some none)
    (hdC : PySem.W.hasDictIn K cC = true)
    (haC : PySem.W.findIn K (.ref cC) "__class__" = some (some (.builtin "object.__class__")))
    (hmC : PySem.W.mroIn K cC (.type "object") = some true)
    (swC : PySem.W.subIn K (.ref cC) (.ref cS) = some true)
    (veC : PySem.W.kitOne K (.ref cC) (.type "ValueError") = some true)
    (eR : PySem.W.subIn K (.ref cR) (.type "BaseException") = some true)
    (tR : PySem.W.typeIn K (.ref cR) = some (.type "type"))
    (hgR : PySem.W.findIn K (.ref cR) "__getattribute__" = some (some (.builtin "BaseException.__getattribute__")))
    (hkR : PySem.W.findIn K (.ref cR) "__getattr__" = some none)
    (hdR : PySem.W.hasDictIn K cR = true)
    (haR : PySem.W.findIn K (.ref cR) "__class__" = some (some (.builtin "object.__class__")))
    (hmR : PySem.W.mroIn K cR (.type "object") = some true)
    (swR : PySem.W.subIn K (.ref cR) (.ref cS) = some true)
    (veR : PySem.W.kitOne K (.ref cR) (.type "ValueError") = some true)
    (eH : PySem.W.subIn K (.ref cH) (.type "BaseException") = some true)
    (tH : PySem.W.typeIn K (.ref cH) = some (.type "type"))
    (hgH : PySem.W.findIn K (.ref cH) "__getattribute__" = some (some (.builtin "BaseException.__getattribute__")))
    (hkH : PySem.W.findIn K (.ref cH) "__getattr__" = some none)
    (hdH : PySem.W.hasDictIn K cH = true)
    (haH : PySem.W.findIn K (.ref cH) "__class__" = some (some (.builtin "object.__class__")))
    (hmH : PySem.W.mroIn K cH (.type "object") = some true)
    (swH : PySem.W.subIn K (.ref cH) (.ref cS) = some true)
    (veH : PySem.W.kitOne K (.ref cH) (.type "ValueError") = some true)
    (eB : PySem.W.subIn K (.ref cB) (.type "BaseException") = some true)
    (tB : PySem.W.typeIn K (.ref cB) = some (.type "type"))
    (hgB : PySem.W.findIn K (.ref cB) "__getattribute__" = some (some (.builtin "BaseException.__getattribute__")))
    (hkB : PySem.W.findIn K (.ref cB) "__getattr__" = some none)
    (hdB : PySem.W.hasDictIn K cB = true)
    (haB : PySem.W.findIn K (.ref cB) "__class__" = some (some (.builtin "object.__class__")))
    (hmB : PySem.W.mroIn K cB (.type "object") = some true)
    (swB : PySem.W.subIn K (.ref cB) (.ref cS) = some true)
    (veB : PySem.W.kitOne K (.ref cB) (.type "ValueError") = some true)
    (hn : PySem.W.specialIn K (.builtin "object.__class__") "__get__" = some (some (.builtin "getset_descriptor.__get__")))
    (ht : PySem.W.takesIn K (.builtin "object.__class__") = some true)
    (tp : PySem.W.nsIn K cStatics "thirdparty.any" = some none)
    (top : (P.main.scope.names.lookup ("super" : Str)).isSome = false)
    (x00 : PySem.W.kitOne K (.ref cT) (.ref cT) = some true)
    (x01 : PySem.W.kitOne K (.ref cT) (.ref cC) = some false)
    (x02 : PySem.W.kitOne K (.ref cT) (.ref cR) = some false)
    (x03 : PySem.W.kitOne K (.ref cT) (.ref cH) = some false)
    (x04 : PySem.W.kitOne K (.ref cT) (.ref cB) = some false)
    (x10 : PySem.W.kitOne K (.ref cC) (.ref cT) = some false)
    (x11 : PySem.W.kitOne K (.ref cC) (.ref cC) = some true)
    (x12 : PySem.W.kitOne K (.ref cC) (.ref cR) = some false)
    (x13 : PySem.W.kitOne K (.ref cC) (.ref cH) = some false)
    (x14 : PySem.W.kitOne K (.ref cC) (.ref cB) = some false)
    (x20 : PySem.W.kitOne K (.ref cR) (.ref cT) = some false)
    (x21 : PySem.W.kitOne K (.ref cR) (.ref cC) = some false)
    (x22 : PySem.W.kitOne K (.ref cR) (.ref cR) = some true)
    (x23 : PySem.W.kitOne K (.ref cR) (.ref cH) = some false)
    (x24 : PySem.W.kitOne K (.ref cR) (.ref cB) = some false)
    (x30 : PySem.W.kitOne K (.ref cH) (.ref cT) = some false)
    (x31 : PySem.W.kitOne K (.ref cH) (.ref cC) = some false)
    (x32 : PySem.W.kitOne K (.ref cH) (.ref cR) = some false)
    (x33 : PySem.W.kitOne K (.ref cH) (.ref cH) = some true)
    (x34 : PySem.W.kitOne K (.ref cH) (.ref cB) = some false)
    (x40 : PySem.W.kitOne K (.ref cB) (.ref cT) = some false)
    (x41 : PySem.W.kitOne K (.ref cB) (.ref cC) = some false)
    (x42 : PySem.W.kitOne K (.ref cB) (.ref cR) = some false)
    (x43 : PySem.W.kitOne K (.ref cB) (.ref cH) = some false)
    (x44 : PySem.W.kitOne K (.ref cB) (.ref cB) = some true)
    (zInt : PySem.W.nsIn K mainGlobals "int" = some none)
    (zAbs : PySem.W.nsIn K mainGlobals "abs" = some none)
    (zLen : PySem.W.nsIn K mainGlobals "len" = some none)
    (zRange : PySem.W.nsIn K mainGlobals "range" = some none)
    (zIsi : PySem.W.nsIn K mainGlobals "isinstance" = some none)
    (zVE : PySem.W.nsIn K mainGlobals "ValueError" = some none)
    (zSup : PySem.W.nsIn K mainGlobals "super" = some none)
    : ∃ fd : FuncData, (∀ (s : Shared) (u : Value), BindsTo s fd ⟨[u], []⟩ [("script", u)]) ∧ ∀ base : Heap, K.In base → base.Ns mainGlobals mg → FnOk P w K mg base CX0 3 fa fd ["script"] (spLaw K) := by
  have e := hfa.symm.trans (PySem.W.mg_of X G a4)
  cases e
  have IT : InitTxt P K cT fIT "line" "line " "TextError.__init__" := { cls := { cls := ⟨nmT, qnT, NT, bsT, bmT, snT, subT, abT, colT, ddT, m0T, m1T, m2T, m3T, m5T, xT, rT⟩, sa := saT, kC := kT, exC := eT, veC := vT, tyC := tT }, noN := nT, su := suT, mrC := mrT, iC := iT, tC := uT, tp := tp, top := top, fn := ⟨_, _, _, _, _, _, _, _, _, ⟨a1T, a2T, b1T, b2T, b3T, b4T, b5T, b6T, b7T, b8T, b9T, d1T, d2T, d3T, d4T⟩, pT, lT, oT, ⟨_, _, _, _, _, _, dT, fT, fiT⟩, _, _, _, zT⟩ }
  have TT : ErT P K mg "TextError" cT "line" := ⟨⟨_, _, _, IT, by decide +kernel⟩, PySem.W.mg_of X G gT, PySem.W.mg_none_of X G zSup, by first | exact .inl rfl | exact .inr (.inl rfl) | exact .inr (.inr rfl)⟩
  have IC : InitTxt P K cC fIC "line" "line " "CommandError.__init__" := { cls := { cls := ⟨nmC, qnC, NC, bsC, bmC, snC, subC, abC, colC, ddC, m0C, m1C, m2C, m3C, m5C, xC, rC⟩, sa := saC, kC := kC, exC := eC, veC := vC, tyC := tC }, noN := nC, su := suC, mrC := mrC, iC := iC, tC := uC, tp := tp, top := top, fn := ⟨_, _, _, _, _, _, _, _, _, ⟨a1C, a2C, b1C, b2C, b3C, b4C, b5C, b6C, b7C, b8C, b9C, d1C, d2C, d3C, d4C⟩, pC, lC, oC, ⟨_, _, _, _, _, _, dC, fC, fiC⟩, _, _, _, zC⟩ }
  have TC : ErT P K mg "CommandError" cC "line" := ⟨⟨_, _, _, IC, by decide +kernel⟩, PySem.W.mg_of X G gC, PySem.W.mg_none_of X G zSup, by first | exact .inl rfl | exact .inr (.inl rfl) | exact .inr (.inr rfl)⟩
  have IR : InitTxt P K cR fIR "rule" "rule " "RuleError.__init__" := { cls := { cls := ⟨nmR, qnR, NR, bsR, bmR, snR, subR, abR, colR, ddR, m0R, m1R, m2R, m3R, m5R, xR, rR⟩, sa := saR, kC := kR, exC := eR, veC := vR, tyC := tR }, noN := nR, su := suR, mrC := mrR, iC := iR, tC := uR, tp := tp, top := top, fn := ⟨_, _, _, _, _, _, _, _, _, ⟨a1R, a2R, b1R, b2R, b3R, b4R, b5R, b6R, b7R, b8R, b9R, d1R, d2R, d3R, d4R⟩, pR, lR, oR, ⟨_, _, _, _, _, _, dR, fR, fiR⟩, _, _, _, zR⟩ }
  have TR : ErT P K mg "RuleError" cR "rule" := ⟨⟨_, _, _, IR, by decide +kernel⟩, PySem.W.mg_of X G gR, PySem.W.mg_none_of X G zSup, by first | exact .inl rfl | exact .inr (.inl rfl) | exact .inr (.inr rfl)⟩
  have IH : InitTxt P K cH fIH "reason" "reason " "ChangeError.__init__" := { cls := { cls := ⟨nmH, qnH, NH, bsH, bmH, snH, subH, abH, colH, ddH, m0H, m1H, m2H, m3H, m5H, xH, rH⟩, sa := saH, kC := kH, exC := eH, veC := vH, tyC := tH }, noN := nH, su := suH, mrC := mrH, iC := iH, tC := uH, tp := tp, top := top, fn := ⟨_, _, _, _, _, _, _, _, _, ⟨a1H, a2H, b1H, b2H, b3H, b4H, b5H, b6H, b7H, b8H, b9H, d1H, d2H, d3H, d4H⟩, pH, lH, oH, ⟨_, _, _, _, _, _, dH, fH, fiH⟩, _, _, _, zH⟩ }
  have TH : ErT P K mg "ChangeError" cH "reason" := ⟨⟨_, _, _, IH, by decide +kernel⟩, PySem.W.mg_of X G gH, PySem.W.mg_none_of X G zSup, by first | exact .inl rfl | exact .inr (.inl rfl) | exact .inr (.inr rfl)⟩
  have KT : CatE K cS cT := ⟨⟨hgT, hkT, eT, hdT, haT, hn, ht, hmT⟩, PySem.W.exm_ref eS hdS tS swT, veT⟩
  have KC : CatE K cS cC := ⟨⟨hgC, hkC, eC, hdC, haC, hn, ht, hmC⟩, PySem.W.exm_ref eS hdS tS swC, veC⟩
  have KR : CatE K cS cR := ⟨⟨hgR, hkR, eR, hdR, haR, hn, ht, hmR⟩, PySem.W.exm_ref eS hdS tS swR, veR⟩
  have KH : CatE K cS cH := ⟨⟨hgH, hkH, eH, hdH, haH, hn, ht, hmH⟩, PySem.W.exm_ref eS hdS tS swH, veH⟩
  have KB : CatE K cS cB := ⟨⟨hgB, hkB, eB, hdB, haB, hn, ht, hmB⟩, PySem.W.exm_ref eS hdS tS swB, veB⟩
  have R : Errs P K mg cT cC cR cH cB cS := { eT := TT, eC := TC, eR := TR, eH := TH, gB := PySem.W.mg_of X G gB, qB := qB, kB := kB, sB := eB, tB := tB, gS := PySem.W.mg_of X G gS, nT := nT, nC := nC, nR := nR, nH := nH, kT := KT, kC := KC, kR := KR, kH := KH, kB' := KB, zIsi := PySem.W.mg_none_of X G zIsi, zVE := PySem.W.mg_none_of X G zVE, mx := fun i j => match i with
    | ⟨0, _⟩ => (match j with | ⟨0, _⟩ => x00 | ⟨1, _⟩ => x01 | ⟨2, _⟩ => x02 | ⟨3, _⟩ => x03 | ⟨4, _⟩ => x04)
    | ⟨1, _⟩ => (match j with | ⟨0, _⟩ => x10 | ⟨1, _⟩ => x11 | ⟨2, _⟩ => x12 | ⟨3, _⟩ => x13 | ⟨4, _⟩ => x14)
    | ⟨2, _⟩ => (match j with | ⟨0, _⟩ => x20 | ⟨1, _⟩ => x21 | ⟨2, _⟩ => x22 | ⟨3, _⟩ => x23 | ⟨4, _⟩ => x24)
    | ⟨3, _⟩ => (match j with | ⟨0, _⟩ => x30 | ⟨1, _⟩ => x31 | ⟨2, _⟩ => x32 | ⟨3, _⟩ => x33 | ⟨4, _⟩ => x34)
    | ⟨4, _⟩ => (match j with | ⟨0, _⟩ => x40 | ⟨1, _⟩ => x41 | ⟨2, _⟩ => x42 | ⟨3, _⟩ => x43 | ⟨4, _⟩ => x44)
  }
  have B : Blt mg := ⟨PySem.W.mg_none_of X G zInt, PySem.W.mg_none_of X G zAbs, PySem.W.mg_none_of X G zLen⟩
  have A0 : AtD K mg "_law_state" sState ["script"] := atd_mk X G a0 l0 c0 k0 fun _ _ _ _ _ _ us hl => match us, hl with | [_], _ => rfl
  have A1 : AtD K mg "_law_draw" sDraw ["state", "many"] := atd_mk X G a1 l1 c1 k1 fun _ _ _ _ _ _ us hl => match us, hl with | [_, _], _ => rfl
  have A2 : AtD K mg "_law_pick" sPick ["state", "row"] := atd_mk X G a2 l2 c2 k2 fun _ _ _ _ _ _ us hl => match us, hl with | [_, _], _ => rfl
  have A3 : AtD K mg "_law_raised" sRaised ["which", "item"] := atd_mk X G a3 l3 c3 k3 fun _ _ _ _ _ _ us hl => match us, hl with | [_, _], _ => rfl
  refine ⟨PySem.W.fnOf "law" "law" (defArgs sLaw) (defBody sLaw) (defScope sLaw) .none kV4 doc4 pm4 an4 cd4 ct4, fun s u => .of_eq rfl, fun base _ _ => ?_⟩
  have D1 : Df P w K mg base CX0 1 "_law_state" ["script"] (spState K) := A0.df fun f fd F => ok_state F B
  have D2 : Df P w K mg base CX0 1 "_law_draw" ["state", "many"] spDraw := A1.df fun f fd F => ok_draw F B
  have D3 : Df P w K mg base CX0 2 "_law_pick" ["state", "row"] (spPick K) := A2.df fun f fd F => by
    obtain ⟨fD, fdD, GD, gD, kD, bD⟩ := D2.ex
    exact ok_pick F B GD gD kD bD
  have D4 : Df P w K mg base CX0 2 "_law_raised" ["which", "item"] spRaised := A3.df fun f fd F => ok_raised F R
  exact ok_law (fun_mk l4 c4 k4) (PySem.W.mg_none_of X G zRange) D1 D2 D3 D4
end Pk
open PySem PySem.W PyProof.Rows
set_option maxRecDepth 100000 in
set_option maxHeartbeats 16000000 in
theorem PySem.Challenge.cw_wholepackets_k19_errors_by_hand_holds : PySem.Challenge.rw_wholepackets_k19_errors_by_hand.Holds := by
  w_on; o_law; k_head; (case hw => w_witness2)
  k_fill
  refine L2.walk_ofK (l := PySem.Challenge.rw_wholepackets_k19_errors_by_hand) (n := 63) (k := 3) (CX := L2.CX0) (x := "script") (sp := Pk.spLaw) rfl (by decide +kernel) rfl ⟨rfl, by decide, by decide⟩ (fun w h Y => PySem.W.kIn_of Y) ?F (fun K H a ns hn _ hS => ⟨a, ns, rfl, hS, hn, fun _ => rfl⟩) (fun _ _ _ _ z => z)
  case F =>
    intro w mg fa h KX G hmg
    refine' Pk.all_mk KX G hmg ?a0 ?l0 ?c0 ?k0 ?a1 ?l1 ?c1 ?k1 ?a2 ?l2 ?c2 ?k2 ?a3 ?l3 ?c3 ?k3 ?a4 ?l4 ?c4 ?k4 ?gS ?eS ?hdS ?tS ?gB ?qB ?kB ?gT ?xT ?rT ?saT ?kT ?vT ?nT ?suT ?mrT ?iT ?uT ?lT ?oT ?pT ?dT ?fT ?fiT ?zT ?gC ?xC ?rC ?saC ?kC ?vC ?nC ?suC ?mrC ?iC ?uC ?lC ?oC ?pC ?dC ?fC ?fiC ?zC ?gR ?xR ?rR ?saR ?kR ?vR ?nR ?suR ?mrR ?iR ?uR ?lR ?oR ?pR ?dR ?fR ?fiR ?zR ?gH ?xH ?rH ?saH ?kH ?vH ?nH ?suH ?mrH ?iH ?uH ?lH ?oH ?pH ?dH ?fH ?fiH ?zH ?eT ?tT ?hgT ?hkT ?hdT ?haT ?hmT ?swT ?veT ?eC ?tC ?hgC ?hkC ?hdC ?haC ?hmC ?swC ?veC ?eR ?tR ?hgR ?hkR ?hdR ?haR ?hmR ?swR ?veR ?eH ?tH ?hgH ?hkH ?hdH ?haH ?hmH ?swH ?veH ?eB ?tB ?hgB ?hkB ?hdB ?haB ?hmB ?swB ?veB ?hn ?ht ?tp ?top ?x00 ?x01 ?x02 ?x03 ?x04 ?x10 ?x11 ?x12 ?x13 ?x14 ?x20 ?x21 ?x22 ?x23 ?x24 ?x30 ?x31 ?x32 ?x33 ?x34 ?x40 ?x41 ?x42 ?x43 ?x44 ?zInt ?zAbs ?zLen ?zRange ?zIsi ?zVE ?zSup
    (case a0 => k_is)
    (case l0 => k_is)
    (case c0 => k_is)
    (case k0 => k_is)
    (case a1 => k_is)
    (case l1 => k_is)
    (case c1 => k_is)
    (case k1 => k_is)
    (case a2 => k_is)
    (case l2 => k_is)
    (case c2 => k_is)
    (case k2 => k_is)
    (case a3 => k_is)
    (case l3 => k_is)
    (case c3 => k_is)
    (case k3 => k_is)
    (case a4 => k_is)
    (case l4 => k_is)
    (case c4 => k_is)
    (case k4 => k_is)
    (case gS => k_is)
    (case eS => k_is)
    (case hdS => k_is)
    (case tS => k_is)
    (case gB => k_is)
    (case qB => first | k_is | kernel_rfl)
    (case kB => k_is)
    (case gT => k_is)
    (case xT => k_is)
    (case rT => first | rfl | decide +kernel)
    (case saT => k_is)
    (case kT => k_is)
    (case vT => k_is)
    (case nT => k_is)
    (case suT => first | ks_is | kernel_rfl | with_unfolding_all rfl)
    (case mrT => k_is)
    (case iT => k_is)
    (case uT => k_is)
    (case lT => k_is)
    (case oT => k_is)
    (case pT => rfl)
    (case dT => k_is)
    (case fT => rfl)
    (case fiT => first | rfl | decide +kernel)
    (case zT => k_is)
    (case gC => k_is)
    (case xC => k_is)
    (case rC => first | rfl | decide +kernel)
    (case saC => k_is)
    (case kC => k_is)
    (case vC => k_is)
    (case nC => k_is)
    (case suC => first | ks_is | kernel_rfl | with_unfolding_all rfl)
    (case mrC => k_is)
    (case iC => k_is)
    (case uC => k_is)
    (case lC => k_is)
    (case oC => k_is)
    (case pC => rfl)
    (case dC => k_is)
    (case fC => rfl)
    (case fiC => first | rfl | decide +kernel)
    (case zC => k_is)
    (case gR => k_is)
    (case xR => k_is)
    (case rR => first | rfl | decide +kernel)
    (case saR => k_is)
    (case kR => k_is)
    (case vR => k_is)
    (case nR => k_is)
    (case suR => first | ks_is | kernel_rfl | with_unfolding_all rfl)
    (case mrR => k_is)
    (case iR => k_is)
    (case uR => k_is)
    (case lR => k_is)
    (case oR => k_is)
    (case pR => rfl)
    (case dR => k_is)
    (case fR => rfl)
    (case fiR => first | rfl | decide +kernel)
    (case zR => k_is)
    (case gH => k_is)
    (case xH => k_is)
    (case rH => first | rfl | decide +kernel)
    (case saH => k_is)
    (case kH => k_is)
    (case vH => k_is)
    (case nH => k_is)
    (case suH => first | ks_is | kernel_rfl | with_unfolding_all rfl)
    (case mrH => k_is)
    (case iH => k_is)
    (case uH => k_is)
    (case lH => k_is)
    (case oH => k_is)
    (case pH => rfl)
    (case dH => k_is)
    (case fH => rfl)
    (case fiH => first | rfl | decide +kernel)
    (case zH => k_is)
    (case eT => k_is)
    (case tT => k_is)
    (case hgT => k_is)
    (case hkT => k_is)
    (case hdT => k_is)
    (case haT => k_is)
    (case hmT => k_is)
    (case swT => first | k_is | rfl | kernel_rfl)
    (case veT => first | kit_is | k_is | kernel_rfl | with_unfolding_all rfl)
    (case eC => k_is)
    (case tC => k_is)
    (case hgC => k_is)
    (case hkC => k_is)
    (case hdC => k_is)
    (case haC => k_is)
    (case hmC => k_is)
    (case swC => first | k_is | rfl | kernel_rfl)
    (case veC => first | kit_is | k_is | kernel_rfl | with_unfolding_all rfl)
    (case eR => k_is)
    (case tR => k_is)
    (case hgR => k_is)
    (case hkR => k_is)
    (case hdR => k_is)
    (case haR => k_is)
    (case hmR => k_is)
    (case swR => first | k_is | rfl | kernel_rfl)
    (case veR => first | kit_is | k_is | kernel_rfl | with_unfolding_all rfl)
    (case eH => k_is)
    (case tH => k_is)
    (case hgH => k_is)
    (case hkH => k_is)
    (case hdH => k_is)
    (case haH => k_is)
    (case hmH => k_is)
    (case swH => first | k_is | rfl | kernel_rfl)
    (case veH => first | kit_is | k_is | kernel_rfl | with_unfolding_all rfl)
    (case eB => k_is)
    (case tB => k_is)
    (case hgB => k_is)
    (case hkB => k_is)
    (case hdB => k_is)
    (case haB => k_is)
    (case hmB => k_is)
    (case swB => first | k_is | rfl | kernel_rfl)
    (case veB => first | kit_is | k_is | kernel_rfl | with_unfolding_all rfl)
    (case hn => k_is)
    (case ht => k_is)
    (case tp => k_is)
    (case top => first | rfl | decide +kernel)
    (case x00 => first | kit_is | k_is | kernel_rfl | with_unfolding_all rfl)
    (case x01 => first | kit_is | k_is | kernel_rfl | with_unfolding_all rfl)
    (case x02 => first | kit_is | k_is | kernel_rfl | with_unfolding_all rfl)
    (case x03 => first | kit_is | k_is | kernel_rfl | with_unfolding_all rfl)
    (case x04 => first | kit_is | k_is | kernel_rfl | with_unfolding_all rfl)
    (case x10 => first | kit_is | k_is | kernel_rfl | with_unfolding_all rfl)
    (case x11 => first | kit_is | k_is | kernel_rfl | with_unfolding_all rfl)
    (case x12 => first | kit_is | k_is | kernel_rfl | with_unfolding_all rfl)
    (case x13 => first | kit_is | k_is | kernel_rfl | with_unfolding_all rfl)
    (case x14 => first | kit_is | k_is | kernel_rfl | with_unfolding_all rfl)
    (case x20 => first | kit_is | k_is | kernel_rfl | with_unfolding_all rfl)
    (case x21 => first | kit_is | k_is | kernel_rfl | with_unfolding_all rfl)
    (case x22 => first | kit_is | k_is | kernel_rfl | with_unfolding_all rfl)
    (case x23 => first | kit_is | k_is | kernel_rfl | with_unfolding_all rfl)
    (case x24 => first | kit_is | k_is | kernel_rfl | with_unfolding_all rfl)
    (case x30 => first | kit_is | k_is | kernel_rfl | with_unfolding_all rfl)
    (case x31 => first | kit_is | k_is | kernel_rfl | with_unfolding_all rfl)
    (case x32 => first | kit_is | k_is | kernel_rfl | with_unfolding_all rfl)
    (case x33 => first | kit_is | k_is | kernel_rfl | with_unfolding_all rfl)
    (case x34 => first | kit_is | k_is | kernel_rfl | with_unfolding_all rfl)
    (case x40 => first | kit_is | k_is | kernel_rfl | with_unfolding_all rfl)
    (case x41 => first | kit_is | k_is | kernel_rfl | with_unfolding_all rfl)
    (case x42 => first | kit_is | k_is | kernel_rfl | with_unfolding_all rfl)
    (case x43 => first | kit_is | k_is | kernel_rfl | with_unfolding_all rfl)
    (case x44 => first | kit_is | k_is | kernel_rfl | with_unfolding_all rfl)
    (case zInt => k_is)
    (case zAbs => k_is)
    (case zLen => k_is)
    (case zRange => k_is)
    (case zIsi => k_is)
    (case zVE => k_is)
    (case zSup => k_is)
