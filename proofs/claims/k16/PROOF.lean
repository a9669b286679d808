import PyProof.Rows.All
import Wide.All
import OpenK.AllK
import Wide.FinOn
import HandS.ForMost
import HandS.Wide
import HandS.Codes
import HandS.IsInst
import HandS.IntHex
import HandS.AnyAll
import HandS.Walk
import HandS.Flow
import HandS.StrMore
import HandS.EndTab
import HandS.Zip
import HandS.Deep
import HandS.Star
import HandS.Sort
import HandS.DictSub
import HandS.Base
import HandS.Call
import HandS.Exc
import HandS.ExcInit
import KE.KExcSuper
import KE.KExcMake
import PyProof.FString
import PyProof.FString4
import HandS.ExcOwn
import HandS.ExcIs
import HandS.ExcField
import HandS.TryOnly
import KE.KExcIs
import HandS.WordsExc
import KE.KEqSeq
import KE.DataEq
import KE.RegKIsAll
import HandS.Ends
import PySem.Challenge.RW_wholepackets_k16_stages_and_bounds
set_option Elab.async false
set_option linter.all false
set_option maxRecDepth 100000
set_option maxHeartbeats 4000000
namespace Pk
open PySem PySem.Spec PyProof.Rows L2

/-! ### the drawing state of the law: at s the list [cells, seed], at c the cells -/
def StAt (H : Hp) (s c : Addr) : Prop := ∃ (cells : List Int) (seed : Int), H s = some (.lst [.ref c, .int seed]) ∧ H c = some (.lst (cells.map V.int)) ∧
  (∀ z ∈ cells, 0 ≤ z) ∧ 0 ≤ seed ∧ seed < 2147483648
theorem StAt.ne {H : Hp} {s c : Addr} (h : StAt H s c) : s ≠ c := by
  obtain ⟨cells, seed, h1, h2, _⟩ := h
  refine ne_of h1 h2 fun z => ?_
  have z' := HO.lst.inj z
  cases cells with
  | nil => cases z'
  | cons a r =>
    have e : V.ref c = V.int a := (List.cons.inj z').1
    cases e
/-- what stood beside s and c stands -/
def Kp (s c : Addr) (H H' : Hp) : Prop := ∀ b o, b ≠ s → b ≠ c → H b = some o → H' b = some o
theorem Kp.refl (s c : Addr) (H : Hp) : Kp s c H H := fun _ _ _ _ e => e
theorem Kp.trans {s c : Addr} {H H1 H2 : Hp} (a : Kp s c H H1) (b : Kp s c H1 H2) : Kp s c H H2 := fun x o h1 h2 e => b x o h1 h2 (a x o h1 h2 e)
theorem Kp.same {s c : Addr} {H H1 : Hp} (a : Same H H1) : Kp s c H H1 := fun x o _ _ e => a x o e
theorem Kp.new {s c p : Addr} {H : Hp} {o : HO} (h : H p = none) : Kp s c H (upd H p o) := fun b u _ _ e => by
  rw [upd_ne (ne_of_none e h)]
  exact e
theorem same_new {p : Addr} {H : Hp} {o : HO} (h : H p = none) : Same H (upd H p o) := fun b u e => by
  rw [upd_ne (ne_of_none e h)]
  exact e
theorem StAt.same {H H' : Hp} {s c : Addr} (h : StAt H s c) (k : Same H H') : StAt H' s c := by
  obtain ⟨cells, seed, h1, h2, h3⟩ := h
  exact ⟨cells, seed, k _ _ h1, k _ _ h2, h3⟩
theorem StAt.upd {H : Hp} {s c p : Addr} {o : HO} (h : StAt H s c) (n1 : p ≠ s) (n2 : p ≠ c) : StAt (upd H p o) s c := by
  obtain ⟨cells, seed, h1, h2, h3⟩ := h
  exact ⟨cells, seed, by rw [upd_ne (Ne.symm n1)]; exact h1, by rw [upd_ne (Ne.symm n2)]; exact h2, h3⟩
theorem StAt.new {H : Hp} {s c p : Addr} {o : HO} (h : StAt H s c) (n : H p = none) : StAt (L2.upd H p o) s c := h.same (same_new n)

/-! ### promises of the drawing defs -/
def spState (K : PySem.W.Frag) : Sp := fun vs H Q _ => ∃ (a : Addr) (ns : List Int), vs = [.ref a] ∧ SqL K H a (ns.map V.int) ∧ ns.length ≤ 63 ∧
  ∀ (H' : Hp) (s c : Addr), Same H H' → H s = none → H c = none → StAt H' s c → Q (.ref s) H'
def spDraw : Sp := fun vs H Q _ => ∃ (s c : Addr) (many : Int), vs = [.ref s, .int many] ∧ StAt H s c ∧ 0 < many ∧ many ≤ 1099511627776 ∧
  ∀ (H' : Hp) (r : Int), 0 ≤ r → r < many → StAt H' s c → Kp s c H H' → Q (.int r) H'
def spPick (K : PySem.W.Frag) : Sp := fun vs H Q _ => ∃ (s c p : Addr) (xs : List V), vs = [.ref s, .ref p] ∧ StAt H s c ∧ SqL K H p xs ∧ p ≠ s ∧ p ≠ c ∧ 0 < xs.length ∧ xs.length ≤ 1000 ∧
  ∀ (H' : Hp) (i : Nat) (x : V), xs[i]? = some x → StAt H' s c → Kp s c H H' → Q x H'
theorem Kp.seq {K : PySem.W.Frag} {s c p : Addr} {H H' : Hp} {xs : List V} (k : Kp s c H H') (h : SqL K H p xs) (n1 : p ≠ s) (n2 : p ≠ c) : SqL K H' p xs := by
  rcases h with (h | ⟨o, h⟩) | h
  · exact .inl (.inl (k _ _ n1 n2 h))
  · exact .inl (.inr ⟨o, k _ _ n1 n2 h⟩)
  · exact .inr h
theorem iteD {p A B : Prop} [Decidable p] (h1 : p → A) (h2 : ¬ p → B) : if decide p = true then A else B := by
  by_cases h : p
  · rw [if_pos (decide_eq_true h)]
    exact h1 h
  · rw [decide_eq_false h, if_neg Bool.false_ne_true]
    exact h2 h
theorem iteDT {p A B : Prop} [Decidable p] (h : p) (h1 : A) : if decide p = true then A else B := by
  rw [if_pos (decide_eq_true h)]
  exact h1
theorem iteDF {p A B : Prop} [Decidable p] (h : ¬ p) (h1 : B) : if decide p = true then A else B := by
  rw [decide_eq_false h, if_neg Bool.false_ne_true]
  exact h1
theorem dcInt {i j : Int} : decide (V.int i = V.int j) = decide (i = j) := by
  by_cases h : i = j
  · rw [h, decide_eq_true rfl, decide_eq_true rfl]
  · rw [decide_eq_false h, decide_eq_false fun z => h (V.int.inj z)]
/-- built-ins that the law's own text does not name anew -/
structure Blt (mg : Str → Option Value) : Prop where
  zInt : mg "int" = none
  zAbs : mg "abs" = none
  zLen : mg "len" = none
end Pk
set_option Elab.async false
set_option linter.all false
set_option maxRecDepth 100000
set_option maxHeartbeats 4000000
namespace Tk
open PySem L2 SX
/-! ### the signs and words of the document, as code points -/
def lettersS : Str := Str.ofString "abcdefghijklmnopqrstuvwxyzABCDEFGHIJKLMNOPQRSTUVWXYZ"
def digitsS : Str := Str.ofString "0123456789"
def hexS : Str := Str.ofString "0123456789abcdef"
abbrev letters : List Nat := lettersS.cps.toList
abbrev digits : List Nat := digitsS.cps.toList
abbrev hexes : List Nat := hexS.cps.toList
def words : List Str := ["accept", "action", "add", "apply", "control", "default", "drop", "else", "emit", "exact", "extract", "go", "header", "if", "key", "mask", "meta", "not", "packet", "parser", "prefix", "program", "reject", "remove", "select", "send", "size", "state", "table", "use", "valid"].map Str.ofString
def longs : List Str := [Str.ofString "==", Str.ofString "->"]
def shorts : List Str := ["{", "}", "(", ")", ":", ";", ",", ".", "=", "<", "+", "-", "&", "|", "^"].map Str.ofString
def inRun (c : Nat) : Bool := decide (c ∈ letters) || decide (c ∈ digits) || decide (c = 95)
def isHexed (p : List Nat) : Bool := decide (p.take 2 = [48, 120])
def allIn (p l : List Nat) : Bool := p.all fun c => decide (c ∈ l)
def isNum (p : List Nat) : Bool :=
  if isHexed p = true then decide (1 ≤ (p.drop 2).length) && decide ((p.drop 2).length ≤ 8) && allIn (p.drop 2) hexes
  else if p.take 1 = [48] then decide (p = [48])
  else if 10 < p.length then false else allIn p digits && decide (NumText.digitsVal p ≤ 4294967295)
def numVal (p : List Nat) : Nat := if isHexed p = true then Hx.hexNum (p.drop 2) else NumText.digitsVal p
def headIn (l p : List Nat) : Bool := match p with
  | [] => false
  | c :: _ => decide (c ∈ l)
/-- a run's or a sign's token: its kind and value -/
def tokOf (p : List Nat) : Option (Str × V) :=
  if headIn letters p = true ∧ p.length ≤ 16 then
    (if S p ∈ words then some (Str.ofString "word", .str (S p)) else some (Str.ofString "name", .str (S p)))
  else if isNum p = true then some (Str.ofString "number", .int (numVal p))
  else if S p ∈ longs ∨ S p ∈ shorts then some (Str.ofString "sign", .str (S p)) else none
/-- how long the run or the sign is that stands at the head -/
def partLen (t : List Nat) : Nat :=
  if headIn (letters ++ digits ++ [95]) t = true then (t.takeWhile inRun).length
  else if S (t.take 2) ∈ longs then 2 else 1
abbrev Tok := Str × V × Nat
def endTok (l : Nat) : Tok := (Str.ofString "end", .str (Str.ofString ""), l)
/-- a token ahead of the others -/
def ahead (kv : Option (Str × V)) (l : Nat) (rest : Except Nat (List Tok)) : Except Nat (List Tok) := match kv with
  | none => .error l
  | some (k, v) => match rest with
    | .error e => .error e
    | .ok ts => .ok ((k, v, l) :: ts)
/-- the tokens of a text that begins in line l; .error: the line of the first part that is none -/
def toks : Nat → Nat → List Nat → Except Nat (List Tok)
  | _, l, [] => .ok [endTok l]
  | 0, l, _ :: _ => .error l
  | f + 1, l, c :: r =>
    if c = 35 then toks f l (r.dropWhile (· ≠ 10))
    else if c = 32 then toks f l r
    else if c = 10 then toks f (l + 1) r
    else ahead (tokOf ((c :: r).take (partLen (c :: r)))) l (toks f l ((c :: r).drop (partLen (c :: r))))
theorem toks_cons (f l c : Nat) (r : List Nat) : toks (f + 1) l (c :: r) = if c = 35 then toks f l (r.dropWhile (· ≠ 10))
    else if c = 32 then toks f l r
    else if c = 10 then toks f (l + 1) r
    else ahead (tokOf ((c :: r).take (partLen (c :: r)))) l (toks f l ((c :: r).drop (partLen (c :: r)))) := by rw [toks]
theorem dropWhile_le {α : Type} (p : α → Bool) : ∀ l : List α, (l.dropWhile p).length ≤ l.length
  | [] => Nat.le_refl _
  | a :: l => by
    rw [List.dropWhile_cons]
    split
    · exact Nat.le_succ_of_le (dropWhile_le p l)
    · exact Nat.le_refl _
theorem inRun_iff (c : Nat) : inRun c = headIn (letters ++ digits ++ [95]) (c :: r) := by
  unfold inRun headIn
  rw [Bool.eq_iff_iff]
  simp [List.mem_append, or_assoc]
theorem partLen_pos (c : Nat) (r : List Nat) : 1 ≤ partLen (c :: r) := by
  unfold partLen
  split
  · rename_i h
    rw [← inRun_iff (r := r)] at h
    rw [List.takeWhile_cons, if_pos h]
    simp
  · split <;> omega
/-- more fuel than signs changes nothing -/
theorem toks_fuel : ∀ (n f : Nat) (l : Nat) (t : List Nat), t.length ≤ n → n ≤ f → toks f l t = toks n l t := by
  intro n
  induction n with
  | zero =>
    intro f l t h1 h2
    cases t with
    | nil => cases f <;> rfl
    | cons c r => simp at h1
  | succ n ih =>
    intro f l t h1 h2
    cases t with
    | nil => cases f <;> rfl
    | cons c r =>
      obtain ⟨g, rfl⟩ : ∃ g, f = g + 1 := ⟨f - 1, by omega⟩
      have hr : r.length ≤ n := by simpa using h1
      have hd : (r.dropWhile (· ≠ 10)).length ≤ n := Nat.le_trans (dropWhile_le _ _) hr
      have hp : ((c :: r).drop (partLen (c :: r))).length ≤ n := by
        have := partLen_pos c r
        rw [List.length_drop, List.length_cons]
        omega
      rw [toks_cons, toks_cons, ih g l _ hd (by omega), ih g l r hr (by omega), ih g (l + 1) r hr (by omega), ih g l _ hp (by omega)]
/-- the tokens of a text that begins in line l -/
def toksT (l : Nat) (t : List Nat) : Except Nat (List Tok) := toks t.length l t
theorem toksT_nil (l : Nat) : toksT l [] = .ok [endTok l] := rfl
theorem toksT_of {f l : Nat} {t : List Nat} (h : t.length ≤ f) : toks f l t = toksT l t := toks_fuel _ f l t (Nat.le_refl _) h
theorem toksT_hash (l : Nat) (r : List Nat) : toksT l (35 :: r) = toksT l (r.dropWhile (· ≠ 10)) := by
  rw [← toksT_of (f := r.length) (dropWhile_le _ _)]
  show toks (r.length + 1) l (35 :: r) = _
  rw [toks_cons, if_pos rfl]
theorem toksT_space (l : Nat) (r : List Nat) : toksT l (32 :: r) = toksT l r := by
  show toks (r.length + 1) l (32 :: r) = _
  rw [toks_cons, if_neg (by decide), if_pos rfl]
  rfl
theorem toksT_nl (l : Nat) (r : List Nat) : toksT l (10 :: r) = toksT (l + 1) r := by
  show toks (r.length + 1) l (10 :: r) = _
  rw [toks_cons, if_neg (by decide), if_neg (by decide), if_pos rfl]
  rfl
theorem toksT_part {l c : Nat} {r : List Nat} (h1 : c ≠ 35) (h2 : c ≠ 32) (h3 : c ≠ 10) :
    toksT l (c :: r) = ahead (tokOf ((c :: r).take (partLen (c :: r)))) l (toksT l ((c :: r).drop (partLen (c :: r)))) := by
  have hp : ((c :: r).drop (partLen (c :: r))).length ≤ r.length := by
    have := partLen_pos c r
    rw [List.length_drop, List.length_cons]
    omega
  show toks (r.length + 1) l (c :: r) = _
  rw [toks_cons, if_neg h1, if_neg h2, if_neg h3, toksT_of hp]
end Tk
set_option Elab.async false
set_option linter.all false
set_option maxRecDepth 100000
set_option maxHeartbeats 4000000
namespace Pk
open PySem PySem.Spec PyProof.Rows L2 SX
/-- a tuple of the written part -/
def TupK (K : PySem.W.Frag) (p : Addr) (xs : List V) : Prop := ∃ (o : Obj) (its : Array Value) (n : Nat), K.lookup p = some o ∧ o.cls = .type "tuple" ∧ o.data = .seq its n ∧ its.size ≤ sizeLine ∧ Vals xs its.toList
theorem TupK.at {K : PySem.W.Frag} {p : Addr} {xs : List V} (h : TupK K p xs) (H : Hp) : SqT K H p xs := .inr h
/-- a def, under its name, that keeps its promise -/
structure Df (P : Program) (w : World) (K : PySem.W.Frag) (mg : Str → Option Value) (base : Heap) (CX : CXT) (k : Nat) (x : Str) (ps : List Str) (sp : Sp) : Prop where
  ex : ∃ (f : Addr) (fd : FuncData), FnOk P w K mg base CX k f fd ps sp ∧ mg x = some (.ref f) ∧ PySem.W.keepIn K (.ref f) = true ∧ Binds K fd ps []
/-- a def of the text as it stands under its name -/
structure AtD (K : PySem.W.Frag) (mg : Str → Option Value) (x : Str) (st : Stmt) (ps : List Str) : Prop where
  ex : ∃ (f : Addr) (fd : FuncData), Fun K x x st f fd ∧ mg x = some (.ref f) ∧ Binds K fd ps []
theorem AtD.df {P : Program} {w : World} {K : PySem.W.Frag} {mg : Str → Option Value} {base : Heap} {CX : CXT} {k : Nat} {x : Str} {st : Stmt} {ps : List Str} {sp : Sp} (A : AtD K mg x st ps)
    (h : ∀ (f : Addr) (fd : FuncData), Fun K x x st f fd → FnOk P w K mg base CX k f fd ps sp) : Df P w K mg base CX k x ps sp := by
  obtain ⟨f, fd, F, g, b⟩ := A.ex
  exact ⟨f, fd, h f fd F, g, F.kp, b⟩
/-! ### values -/
theorem inV_strs {x : Str} : ∀ ws : List Str, inV (.str x) (ws.map V.str) = decide (x ∈ ws)
  | [] => by simp [inV]
  | w :: ws => by
    have ih := inV_strs (x := x) ws
    unfold inV at ih ⊢
    rw [List.map_cons, List.any_cons, ih]
    show ((w == x) || decide (x ∈ ws)) = _
    rw [Bool.eq_iff_iff, Bool.or_eq_true, beq_iff_eq, decide_eq_true_eq, decide_eq_true_eq, List.mem_cons]
    constructor
    · rintro (h | h)
      · exact .inl h.symm
      · exact .inr h
    · rintro (h | h)
      · exact .inl h.symm
      · exact .inr h
theorem inV_int {n : Int} : ∀ ws : List Str, inV (.int n) (ws.map V.str) = false
  | [] => by simp [inV]
  | w :: ws => by
    have ih := inV_int (n := n) ws
    unfold inV at ih ⊢
    rw [List.map_cons, List.any_cons, ih]
    rfl
theorem flat_strs (ws : List Str) : (ws.map V.str).all flatV = true := by
  rw [List.all_eq_true]
  intro x hx
  obtain ⟨y, _, rfl⟩ := List.mem_map.mp hx
  rfl
theorem dcStr {x y : Str} : decide (V.str x = V.str y) = decide (x = y) := by
  by_cases h : x = y
  · rw [h, decide_eq_true rfl, decide_eq_true rfl]
  · rw [decide_eq_false h, decide_eq_false fun z => h (V.str.inj z)]
theorem dcS {a b : List Nat} : decide (S a = S b) = decide (a = b) := by
  by_cases h : a = b
  · rw [h, decide_eq_true rfl, decide_eq_true rfl]
  · rw [decide_eq_false h, decide_eq_false fun z => h (S_inj z)]
/-- s[i:j], s[i:] -/
theorem cut2 (t : List Nat) (i j : Nat) : cutS (S t) (some (i : Int)) (some (j : Int)) = S ((t.drop i).take (j - i)) := by
  have hl : (S t).length = t.length := S_len t
  unfold cutS
  rw [HT.sIx_nat, HT.sIx_nat, hl]
  show S _ = S _
  congr 1
  show ((t.drop (min i t.length)).take (min j t.length - min i t.length)) = _
  by_cases hi : i ≤ t.length
  · rw [Nat.min_eq_left hi]
    by_cases hj : j ≤ t.length
    · rw [Nat.min_eq_left hj]
    · have e : min j t.length = t.length := by omega
      rw [e, List.take_of_length_le (by rw [List.length_drop]; exact Nat.le_refl _), List.take_of_length_le (by rw [List.length_drop]; omega)]
  · have e : min i t.length = t.length := by omega
    rw [e, List.drop_of_length_le (Nat.le_refl _), List.drop_of_length_le (show t.length ≤ i by omega), List.take_nil, List.take_nil]
theorem cut1f (t : List Nat) (i : Nat) : cutS (S t) (some (i : Int)) none = S (t.drop i) := by
  have hl : (S t).length = t.length := S_len t
  unfold cutS
  rw [HT.sIx_nat, HT.sIx_none, hl]
  show S _ = S _
  congr 1
  show ((t.drop (min i t.length)).take (t.length - min i t.length)) = _
  by_cases hi : i ≤ t.length
  · rw [Nat.min_eq_left hi, List.take_of_length_le (by rw [List.length_drop]; exact Nat.le_refl _)]
  · have e : min i t.length = t.length := by omega
    rw [e, List.drop_of_length_le (Nat.le_refl _), List.drop_of_length_le (show t.length ≤ i by omega), List.take_nil]
theorem starts2 (p q : List Nat) : Txt.startswith (S p) (S q) = decide (p.take q.length = q) := by
  unfold Txt.startswith
  rw [S_len, S_len, Nat.zero_add]
  have e : Builtin.Str.subAt (S p) (S q) 0 = decide (p.take q.length = q) := by
    unfold Builtin.Str.subAt
    rw [S_len, Nat.zero_add]
    show (p.toArray.extract 0 q.length == q.toArray) = _
    rw [Bool.eq_iff_iff, beq_iff_eq, decide_eq_true_eq]
    constructor
    · intro h
      have h2 := congrArg Array.toList h
      simpa using h2
    · intro h
      rw [List.extract_toArray]
      simp [h]
  rw [e]
  by_cases h : p.take q.length = q
  · have : q.length ≤ p.length := by
      have := congrArg List.length h
      rw [List.length_take] at this
      omega
    rw [decide_eq_true h, decide_eq_true this]
    rfl
  · rw [decide_eq_false h, Bool.and_false]
theorem takeWhile_self {α : Type} {p : α → Bool} : ∀ {l : List α}, (∀ x ∈ l, p x = true) → l.takeWhile p = l
  | [], _ => rfl
  | a :: l, h => by
    rw [List.takeWhile_cons, if_pos (h a List.mem_cons_self), takeWhile_self fun x hx => h x (List.mem_cons_of_mem _ hx)]
/-- where a sign is found from i on -/
theorem find_sign {t : List Nat} {i : Nat} (c : Nat) (hi : i ≤ t.length) :
    (Txt.find3 (S t) (S [c]) (i : Int) = -1 ∧ (t.drop i).takeWhile (· ≠ c) = t.drop i) ∨
    Txt.find3 (S t) (S [c]) (i : Int) = ((i + ((t.drop i).takeWhile (· ≠ c)).length : Nat) : Int) ∧ i + ((t.drop i).takeWhile (· ≠ c)).length < t.length := by
  have fi : fromIndex (S t).length (i : Int) = i := by
    unfold fromIndex
    rw [if_neg (by omega)]
    omega
  have gd : ∀ v, v < t.length → (S t).cps.getD v 0 = t[v]?.getD 0 := fun v hv => by
    simp [S, Array.getD, hv]
  rcases StrLaws.find3_spec (S t) c (i : Int) with ⟨h1, h2⟩ | ⟨k, h1, h2, h3, h4, h5⟩
  · refine .inl ⟨h1, ?_⟩
    refine takeWhile_self fun x hx => ?_
    obtain ⟨j, hj, rfl⟩ := List.getElem_of_mem hx
    rw [List.length_drop] at hj
    have := h2 (i + j) (by rw [fi]; omega) (by rw [S_len]; omega)
    rw [gd _ (by omega), List.getElem?_eq_getElem (by omega)] at this
    rw [List.getElem_drop]
    exact decide_eq_true this
  · rw [fi] at h2
    rw [S_len] at h3
    have key : ((t.drop i).takeWhile (· ≠ c)).length = k - i := by
      have hk : t.drop i = (t.drop i).take (k - i) ++ t.drop k := by
        have e := (List.take_append_drop (k - i) (t.drop i)).symm
        rw [List.drop_drop, show i + (k - i) = k by omega] at e
        exact e
      rw [hk, List.takeWhile_append_of_pos]
      · rw [List.drop_eq_getElem_cons h3, List.takeWhile_cons]
        have hc : t[k] = c := by
          have := h4
          rw [gd _ h3, List.getElem?_eq_getElem h3] at this
          exact this
        rw [if_neg (by simp [hc]), List.append_nil, List.length_take, List.length_drop]
        omega
      · intro x hx
        obtain ⟨j, hj, rfl⟩ := List.getElem_of_mem hx
        rw [List.length_take, List.length_drop] at hj
        have := h5 (i + j) (by rw [fi]; omega) (by omega)
        rw [gd _ (by omega), List.getElem?_eq_getElem (by omega)] at this
        rw [List.getElem_take, List.getElem_drop]
        exact decide_eq_true this
    refine .inr ⟨?_, ?_⟩
    · rw [h1, key, show i + (k - i) = k by omega]
    · rw [key]
      omega
end Pk
set_option Elab.async false
set_option linter.all false
set_option maxRecDepth 100000
set_option maxHeartbeats 4000000
namespace Pk
open PySem PySem.Spec PyProof.Rows L2
def topS (i : Nat) : Stmt := PySem.Challenge.pw_wholepackets_k16_stages_and_bounds.main.body.getD i (.Pass ⟨0, 0, 0, 0⟩)
abbrev sState : Stmt := topS 73
abbrev sDraw : Stmt := topS 74
abbrev sPick : Stmt := topS 75
theorem scState : FnScope ["script", "seed", "cell"] ["script"] (defScope sState) := ⟨rfl, rfl, rfl, by decide +kernel, rfl, by decide +kernel, by decide +kernel⟩
theorem scDraw : FnScope ["state", "many", "cells", "value", "mixed"] ["state", "many"] (defScope sDraw) := ⟨rfl, rfl, rfl, by decide +kernel, rfl, by decide +kernel, by decide +kernel⟩
theorem scPick : FnScope ["state", "row"] ["state", "row"] (defScope sPick) := ⟨rfl, rfl, rfl, by decide +kernel, rfl, by decide +kernel, by decide +kernel⟩
section
variable {P : Program} {w : World} {K : PySem.W.Frag} {mg : Str → Option Value} {base : Heap}
theorem map_at {ns : List Int} {i : Nat} {y : V} (h : (ns.map V.int)[i]? = some y) : ∃ z, ns[i]? = some z ∧ y = V.int z := by
  rw [List.getElem?_map] at h
  cases e : ns[i]? with
  | none => rw [e] at h; cases h
  | some z => rw [e] at h; exact ⟨z, rfl, (Option.some.inj h).symm⟩
def absI (z : Int) : Int := if z < 0 then -z else z
theorem ok_state {f : Addr} {fd : FuncData} {k : Nat} (F : Fun K "_law_state" "_law_state" sState f fd) (T : Blt mg) : FnOk P w K mg base CX0 (k + 1) f fd ["script"] (spState K) := by
  refine F.ok scState (fun vs H Q E h => ?_) (fun cdv A outer s H vs Q E hr h => ?_)
  · obtain ⟨a, ns, rfl, _⟩ := h
    rfl
  · obtain ⟨a, ns, rfl, hS, hn, q⟩ := h
    refine ⟨_, pss_cons (ps_set (i := 1) scState.nd rfl (.inl rfl) pe_int)
      (pss_cons (ps_for PassesOwn.never rfl (pi_list (pv 0)) (pg_name (i := 2) scState.nd rfl (.inl rfl))
        (pss_one (ps_set (i := 1) scState.nd rfl (.inl rfl) (pe_op op_mod (pe_callTy call_int1 (by rfl) T.zInt (by decide +kernel) (pa_cons (pe_op op_add (pe_op op_mul (pv 1) pe_int) (pv 2)) pa_nil)) pe_int))))
      (pss_one (ps_ret (pe_lst (pa_cons (pe_lc (own := [("cell", 2)]) (g := gName 2) (tt := tYes) rfl scState.nd (pi_list (pv 0)) (blkOk_by (N := ["script", "seed", "cell"]) (sc := defScope sState) (by decide +kernel))
        (fun _ _ _ _ _ => pg_name (i := 2) scState.nd rfl (Or.inl rfl)) (fun _ _ _ _ _ => pts_nil) (fun _ _ _ _ _ => pe_callB call_abs (by rfl) T.zAbs (by decide +kernel) (pa_cons (pv 2) pa_nil)))
        (pa_cons (pe_op op_add (pv 1) pe_int) pa_nil)))))), ?_⟩
    refine ⟨_, rfl, a, rfl, ⟨_, hS⟩, for_list (K := K) (a := a) (xs := ns.map V.int) (fun i σ H' => ∃ (sd : Int) (v : Option V), σ = [some (.ref a), some (.int sd), v] ∧ H' = H ∧ 0 ≤ sd ∧ sd < 1000003)
      ⟨7, none, rfl, rfl, by decide, by decide⟩ (fun i σ H' _ ⟨_, _, _, e, _⟩ => by subst e; exact hS) ?_ ?_⟩
    · rintro i y σ H' hi ⟨sd, v, rfl, rfl, h0, h1⟩
      obtain ⟨z, _, rfl⟩ := map_at hi
      refine ⟨_, rfl, _, _, rfl, rfl, .inl ⟨by omega, by omega⟩, _, rfl, _, _, rfl, rfl, .inl ⟨_, rfl, _, _, rfl, rfl, (by show (0 : Int) < 1000003; decide), ?_⟩⟩
      exact ⟨_, _, rfl, rfl, Int.emod_nonneg _ (by decide), Int.emod_lt_of_pos _ (by decide)⟩
    · rintro σ H' ⟨sd, v, rfl, rfl, h0, h1⟩
      refine ⟨_, rfl, a, rfl, ⟨_, hS⟩, fun D hD => lc_list (K := K) (a := a) (xs := ns.map V.int) (fun i H2 => Same H' H2 ∧ H2 D = some (.lst ((ns.take i).map fun z => V.int (absI z))))
        ⟨same_new hD, upd_same⟩ (fun i H2 _ h => h.1.seq hS) ?_ ?_⟩
      · rintro i y H2 hi ⟨k1, k2⟩
        obtain ⟨z, hz, rfl⟩ := map_at hi
        refine ⟨rfl, ⟨_, rfl, _, rfl, _, k2, ?_, fun b o e => ?_, ?_⟩⟩
        · rw [List.length_map, List.length_take]
          exact Nat.lt_of_le_of_lt (Nat.min_le_right _ _) (small1000 (by omega))
        · rw [upd_ne (ne_of_none e hD)]
          exact k1 b o e
        · rw [upd_same, List.take_add_one, hz, List.map_append]
          rfl
      · rintro H2 ⟨k1, k2⟩
        refine ⟨_, rfl, _, _, rfl, rfl, (by show 2 ≤ sizeLine; decide), fun p hp => ?_⟩
        have e : (ns.map V.int).length = ns.length := List.length_map ..
        rw [e, List.take_length] at k2
        have npD : D ≠ p := ne_of_none k2 hp
        refine q _ p D (k1.trans (same_new hp)) (k1.free hp) hD ⟨ns.map absI, sd + 1, upd_same, ?_, ?_, by omega, by omega⟩
        · rw [upd_ne npD, k2, List.map_map]
          rfl
        · intro z hz
          obtain ⟨y, _, rfl⟩ := List.mem_map.mp hz
          unfold absI
          split <;> omega
theorem ok_draw {f : Addr} {fd : FuncData} {k : Nat} (F : Fun K "_law_draw" "_law_draw" sDraw f fd) (T : Blt mg) : FnOk P w K mg base CX0 (k + 1) f fd ["state", "many"] spDraw := by
  refine F.ok scDraw (fun vs H Q E h => ?_) (fun cdv A outer s H vs Q E hr h => ?_)
  · obtain ⟨s, c, many, rfl, _⟩ := h
    rfl
  · obtain ⟨s, c, many, rfl, hS, hm0, hm1, q⟩ := h
    refine ⟨_, pss_cons (ps_set (i := 2) scDraw.nd rfl (.inl rfl) (pe_ix ix_list (pv 0) pe_int (fun _ _ => rfl)))
      (pss_cons (ps_while PassesOwn.never (PW.pt (pw_and (pt_cmpR op_gt (pe_callB call_len_seq (by rfl) T.zLen PySem.boot_len (pa_cons (pv 2) pa_nil)) pe_int (nomark _)) (pw_and1 (pt_cmpR op_eq (pe_ix ix_list (pv 2) pe_int (fun _ _ => rfl)) pe_int (nomark _)))))
        (pss_one (ps_expr (pe_bm PySem.F.plainAttrs_list PySem.F.slot_list_pop PySem.F.type_list_pop mt_popAt (pv 2) (pa_cons pe_int pa_nil)))))
      (pss_cons (ps_if (pt_cmpR op_gt (pe_callB call_len_seq (by rfl) T.zLen PySem.boot_len (pa_cons (pv 2) pa_nil)) pe_int (nomark _))
        (pss_cons (ps_set (i := 3) scDraw.nd rfl (.inl rfl) (pe_ix ix_list (pv 2) pe_int (fun _ _ => rfl)))
        (pss_cons (ps_asg (pe_op op_fdivW (pv 3) (pv 1)) (pg_sub (pv 2) pe_int set_list))
        (pss_one (ps_ret (pe_op op_mod (pe_callTy call_int1 (by rfl) T.zInt (by decide +kernel) (pa_cons (pv 3) pa_nil)) (pv 1)))))) pss_nil)
      (pss_cons (ps_set (i := 4) scDraw.nd rfl (.inl rfl) (pe_op op_mod (pe_callTy call_int1 (by rfl) T.zInt (by decide +kernel) (pa_cons (pe_op op_add (pe_op op_mul (pe_ix ix_list (pv 0) pe_int (fun _ _ => rfl)) pe_int) pe_int) pa_nil)) pe_int))
      (pss_cons (ps_asg (pv 4) (pg_sub (pv 0) pe_int set_list))
      (pss_one (ps_ret (pe_op op_mod (pe_callTy call_int1 (by rfl) T.zInt (by decide +kernel) (pa_cons (pe_op op_fdivW (pv 4) pe_int) pa_nil)) (pv 1)))))))), ?_⟩
    have hSC := hS
    have hne := hS.ne
    obtain ⟨cells, seed, h1, h2, h3, h4, h5⟩ := hS
    refine ⟨.ref s, rfl, s, _, _, _, rfl, rfl, SqL.of h1, atI_nat (j := 0) rfl, ?_⟩
    -- the while: cells lose their zeros
    refine ⟨fun m σ H' => ∃ cs : List Int, m = cs.length ∧ σ = [some (.ref s), some (.int many), some (.ref c), none, none] ∧ H' s = some (.lst [.ref c, .int seed]) ∧ H' c = some (.lst (cs.map V.int)) ∧ (∀ z ∈ cs, 0 ≤ z) ∧ Kp s c H H',
      ⟨cells.length, cells, rfl, rfl, h1, h2, h3, Kp.refl _ _ _⟩, ?_⟩
    rintro m σ H' ⟨cs, rfl, rfl, g1, g2, g3, g4⟩
    refine ⟨.ref c, rfl, c, _, rfl, .inl (SqL.of g2), _, _, rfl, rfl, _, rfl, ?_⟩
    cases cs with
    | nil =>
      refine iteDF (by decide) (iteF ?_)
      -- no cell is left: mixed
      refine ⟨.ref c, rfl, c, _, rfl, .inl (SqL.of g2), _, _, rfl, rfl, _, rfl, iteDF (by decide) ?_⟩
      refine ⟨.ref s, rfl, s, _, _, _, rfl, rfl, SqL.of g1, atI_nat (j := 1) rfl, _, _, rfl, rfl, .inl ⟨by omega, by omega⟩, _, _, rfl, rfl, .inl ⟨_, rfl, _, _, rfl, rfl, (by show (0 : Int) < 2147483647; decide), ?_⟩⟩
      have b0 : 0 ≤ (seed * 48271 + 12345) % 2147483647 := Int.emod_nonneg _ (by decide)
      have b1 : (seed * 48271 + 12345) % 2147483647 < 2147483647 := Int.emod_lt_of_pos _ (by decide)
      refine ⟨_, rfl, .ref s, rfl, s, _, _, 1, rfl, rfl, g1, rfl, ?_⟩
      refine ⟨_, rfl, _, _, rfl, rfl, ⟨by decide, by decide⟩, .inl ⟨_, rfl, _, rfl, _, _, rfl, rfl, hm0, ?_⟩⟩
      refine q _ _ (Int.emod_nonneg _ (by omega)) (Int.emod_lt_of_pos _ hm0) ⟨[], _, upd_same, ?_, fun z hz => absurd hz (by simp), b0, by omega⟩ fun b o n1 n2 e => ?_
      · rw [upd_ne (Ne.symm hne)]
        exact g2
      · rw [upd_ne n1]
        exact g4 b o n1 n2 e
    | cons z r =>
      refine iteDT (by rw [List.length_map, List.length_cons]; omega) ?_
      refine ⟨.ref c, rfl, c, _, _, _, rfl, rfl, SqL.of g2, atI_nat (j := 0) rfl, rfl, _, rfl, ?_⟩
      rw [dcInt]
      refine iteD (fun hz => ?_) fun hz => ?_
      · -- a zero is dropped
        refine ⟨fun σ' H' => ∃ m', m' < (z :: r).length ∧ ∃ cs : List Int, m' = cs.length ∧ σ' = [some (.ref s), some (.int many), some (.ref c), none, none] ∧ H' s = some (.lst [.ref c, .int seed]) ∧ H' c = some (.lst (cs.map V.int)) ∧ (∀ z ∈ cs, 0 ≤ z) ∧ Kp s c H H',
          fun _ _ h => h, ?_⟩
        refine ⟨.ref c, rfl, .inl ⟨rfl, _, SqL.of g2⟩, c, _, _, 0, _, rfl, rfl, g2, by decide, by decide, ?_, rfl, r.length, by rw [List.length_cons]; omega, r, rfl, rfl, ?_, ?_, fun y hy => g3 y (List.mem_cons_of_mem _ hy), fun b o n1 n2 e => ?_⟩
        · exact PySem.StrLaws.seqIndex_nonneg (Int.le_refl 0) (by rw [List.length_map, List.length_cons]; omega)
        · rw [upd_ne hne]
          exact g1
        · rw [upd_same]
          rfl
        · rw [upd_ne n2]
          exact g4 b o n1 n2 e
      · -- the first cell is drawn from
        refine ⟨.ref c, rfl, c, _, rfl, .inl (SqL.of g2), _, _, rfl, rfl, _, rfl, iteDT (by rw [List.length_map, List.length_cons]; omega) ?_⟩
        have z0 := g3 z List.mem_cons_self
        refine ⟨.ref c, rfl, c, _, _, _, rfl, rfl, SqL.of g2, atI_nat (j := 0) rfl, ?_⟩
        refine ⟨_, rfl, _, rfl, _, _, rfl, rfl, wide_div (b := 41) hm0 (by omega) (by decide) (by decide), .ref c, rfl, c, _, _, 0, rfl, rfl, g2, ?_, ?_⟩
        · rw [List.length_map, List.length_cons]
          unfold ixN
          rw [if_pos (Int.le_refl 0), if_pos (by omega)]
          rfl
        refine ⟨_, rfl, .inl ⟨_, rfl, _, rfl, _, _, rfl, rfl, hm0, ?_⟩⟩
        refine q _ _ (Int.emod_nonneg _ (by omega)) (Int.emod_lt_of_pos _ hm0) ⟨z / many :: r, seed, ?_, ?_, ?_, h4, h5⟩ fun b o n1 n2 e => ?_
        · rw [upd_ne hne]
          exact g1
        · rw [upd_same]
          rfl
        · intro y hy
          rcases List.mem_cons.mp hy with rfl | hy
          · exact Int.ediv_nonneg z0 (by omega)
          · exact g3 y (List.mem_cons_of_mem _ hy)
        · rw [upd_ne n2]
          exact g4 b o n1 n2 e
theorem ok_pick {f fD : Addr} {fd fdD : FuncData} {k : Nat} (F : Fun K "_law_pick" "_law_pick" sPick f fd) (T : Blt mg) (G : FnOk P w K mg base CX0 (k + 1) fD fdD ["state", "many"] spDraw)
    (gD : mg "_law_draw" = some (.ref fD)) (kD : PySem.W.keepIn K (.ref fD) = true) (bD : Binds K fdD ["state", "many"] []) : FnOk P w K mg base CX0 (k + 2) f fd ["state", "row"] (spPick K) := by
  refine F.ok scPick (fun vs H Q E h => ?_) (fun cdv A outer s H vs Q E hr h => ?_)
  · obtain ⟨s, c, p, xs, rfl, _⟩ := h
    rfl
  · obtain ⟨s, c, p, xs, rfl, hS, hL, n1, n2, l0, l1, q⟩ := h
    refine ⟨_, pss_one (ps_ret (pe_ix ix_list (pv 1) (pe_call G hr (by rfl) gD kD bD .nil pass0 (pa_cons (pv 0) (pa_cons (pe_callB call_len_seq (by rfl) T.zLen PySem.boot_len (pa_cons (pv 1) pa_nil)) pa_nil))) (fun _ _ => rfl))), ?_⟩
    refine ⟨.ref p, rfl, .ref s, rfl, .ref p, rfl, p, xs, rfl, .inl hL, s, c, xs.length, rfl, hS, by omega, by omega, fun H' r r0 r1 hS' k' => ?_⟩
    obtain ⟨j, rfl⟩ : ∃ j : Nat, r = (j : Int) := ⟨r.toNat, by omega⟩
    have hj : j < xs.length := by omega
    have e : xs[j]? = some xs[j] := List.getElem?_eq_getElem hj
    exact ⟨p, xs, _, _, rfl, rfl, k'.seq hL n1 n2, atI_nat e, q H' j _ e hS' k'⟩
end
end Pk
set_option Elab.async false
set_option linter.all false
set_option maxRecDepth 100000
set_option maxHeartbeats 4000000
/-! data in a part G of the heap that stands; no row -/
namespace Pk
open PySem PySem.Spec PyProof.Rows L2
theorem rd_sub {G H : Hp} {a : Addr} {o : HO} (k : Same G H) (h : L2.Rd G a o) : L2.Rd H a o := by
  rcases h with h | ⟨u, h⟩
  · exact .inl (k _ _ h)
  · exact .inr ⟨u, k _ _ h⟩
theorem sqL_sub {K : PySem.W.Frag} {G H : Hp} {a : Addr} {xs : List V} (k : Same G H) (h : SqL K G a xs) : SqL K H a xs := by
  rcases h with h | h
  · exact .inl (rd_sub k h)
  · exact .inr h
theorem sqT_sub {K : PySem.W.Frag} {G H : Hp} {a : Addr} {xs : List V} (k : Same G H) (h : SqT K G a xs) : SqT K H a xs := by
  rcases h with h | h
  · exact .inl (rd_sub k h)
  · exact .inr h
mutual
theorem dp_sub {K : PySem.W.Frag} {G H : Hp} (k : Same G H) : ∀ {d : PyData} {v : V}, Dp K G v d → Dp K H v d
  | _, _, .non => .non
  | _, _, .bl b => .bl b
  | _, _, .int i => .int i
  | _, _, .str x => .str x
  | _, _, .lst h r => .lst (sqL_sub k h) (dpAll_sub k r)
  | _, _, .tup h r => .tup (sqT_sub k h) (dpAll_sub k r)
theorem dpAll_sub {K : PySem.W.Frag} {G H : Hp} (k : Same G H) : ∀ {ds : List PyData} {vs : List V}, DpAll K G vs ds → DpAll K H vs ds
  | _, _, .nil => .nil
  | _, _, .cons h r => .cons (dp_sub k h) (dpAll_sub k r)
end
theorem dpAll_len {K : PySem.W.Frag} {G : Hp} : ∀ {vs : List V} {ds : List PyData}, DpAll K G vs ds → vs.length = ds.length
  | _, _, .nil => rfl
  | _, _, .cons _ r => congrArg (· + 1) (dpAll_len r)
theorem dpAll_at {K : PySem.W.Frag} {G : Hp} : ∀ {vs : List V} {ds : List PyData} {i : Nat} {d : PyData}, DpAll K G vs ds → ds[i]? = some d → ∃ v, vs[i]? = some v ∧ Dp K G v d
  | _, _, _, _, .nil, e => by cases e
  | _, _, 0, _, .cons h _, e => by
    cases e
    exact ⟨_, rfl, h⟩
  | _, _, i + 1, _, .cons _ r, e => dpAll_at (i := i) r e
theorem dpAll_val {K : PySem.W.Frag} {G : Hp} : ∀ {vs : List V} {ds : List PyData} {i : Nat} {v : V}, DpAll K G vs ds → vs[i]? = some v → ∃ d, ds[i]? = some d ∧ Dp K G v d
  | _, _, _, _, .nil, e => by cases e
  | _, _, 0, _, .cons h _, e => by
    cases e
    exact ⟨_, rfl, h⟩
  | _, _, i + 1, _, .cons _ r, e => dpAll_val (i := i) r e
theorem dpAll_app {K : PySem.W.Frag} {G : Hp} : ∀ {vs ws : List V} {ds es : List PyData}, DpAll K G vs ds → DpAll K G ws es → DpAll K G (vs ++ ws) (ds ++ es)
  | _, _, _, _, .nil, h => h
  | _, _, _, _, .cons a r, h => .cons a (dpAll_app r h)
theorem dp_int {K : PySem.W.Frag} {G : Hp} {v : V} {i : Int} (h : Dp K G v (.int i)) : v = .int i := by
  cases h
  rfl
theorem dp_str {K : PySem.W.Frag} {G : Hp} {v : V} {x : Str} (h : Dp K G v (.str x)) : v = .str x := by
  cases h
  rfl
theorem dp_non {K : PySem.W.Frag} {G : Hp} {v : V} (h : Dp K G v .none) : v = .non := by
  cases h
  rfl
theorem dp_tup {K : PySem.W.Frag} {G : Hp} {v : V} {ds : List PyData} (h : Dp K G v (.tuple ds)) : ∃ p xs, v = .ref p ∧ SqT K G p xs ∧ DpAll K G xs ds := by
  cases h with
  | tup a b => exact ⟨_, _, rfl, a, b⟩
theorem dp_lst {K : PySem.W.Frag} {G : Hp} {v : V} {ds : List PyData} (h : Dp K G v (.list ds)) : ∃ p xs, v = .ref p ∧ SqL K G p xs ∧ DpAll K G xs ds := by
  cases h with
  | lst a b => exact ⟨_, _, rfl, a, b⟩
theorem dpAll_strs {K : PySem.W.Frag} {G : Hp} : ∀ {vs : List V} {ns : List Str}, DpAll K G vs (ns.map .str) → vs = ns.map V.str
  | _, [], .nil => rfl
  | _, n :: ns, .cons a r => by rw [dp_str a, dpAll_strs r]; rfl
theorem dpAll_of_ints {K : PySem.W.Frag} {G : Hp} : ∀ (ns : List Int), DpAll K G (ns.map V.int) (ns.map .int)
  | [] => .nil
  | n :: ns => .cons (.int n) (dpAll_of_ints ns)
theorem dpAll_nil {K : PySem.W.Frag} {G : Hp} {vs : List V} (h : DpAll K G vs []) : vs = [] := by
  cases h
  rfl
theorem dpAll_cons {K : PySem.W.Frag} {G : Hp} {vs : List V} {d : PyData} {ds : List PyData} (h : DpAll K G vs (d :: ds)) : ∃ v r, vs = v :: r ∧ Dp K G v d ∧ DpAll K G r ds := by
  cases h with
  | cons a b => exact ⟨_, _, rfl, a, b⟩
/-- G with one more object that stands in H -/
theorem same_upd {G H : Hp} {p : Addr} {o : HO} (k : Same G H) (e : H p = some o) : Same (upd G p o) H := fun b u h => by
  by_cases hb : b = p
  · rw [hb, upd_same] at h
    rw [hb, e, ← h]
  · rw [upd_ne hb] at h
    exact k _ _ h
theorem same_new2 {G : Hp} {p : Addr} {o : HO} (h : G p = none) : Same G (upd G p o) := fun b u e => by
  rw [upd_ne (ne_of_none e h)]
  exact e
/-- what stands in a part that the list at p is not in stands when p changes -/
theorem same_set {G H : Hp} {p : Addr} {o : HO} (k : Same G H) (h : G p = none) : Same G (upd H p o) := fun b u e => by
  rw [upd_ne (ne_of_none e h)]
  exact k _ _ e
/-- the new part -/
structure Gr (G G' H : Hp) : Prop where
  sub : Same G G'
  new : ∀ b, G' b ≠ none → G b ≠ none ∨ H b = none
theorem Gr.refl (G H : Hp) : Gr G G H := ⟨Same.refl _, fun _ h => .inl h⟩
theorem Gr.free {G G' H : Hp} {p : Addr} (g : Gr G G' H) (h1 : G p = none) (h2 : H p ≠ none) : G' p = none := by
  cases e : G' p with
  | none => rfl
  | some o =>
    rcases g.new p (by rw [e]; exact fun z => nomatch z) with h | h
    · exact absurd h1 h
    · exact absurd h h2
theorem Gr.trans {G G1 G2 H H1 : Hp} (a : Gr G G1 H) (b : Gr G1 G2 H1) (k : ∀ b, H1 b = none → H b = none) : Gr G G2 H := ⟨a.sub.trans b.sub, fun p h => by
  rcases b.new p h with h | h
  · exact a.new p h
  · exact .inr (k _ h)⟩
theorem Gr.put {G G1 H : Hp} {p : Addr} {o : HO} (a : Gr G G1 H) (h : H p = none) (h1 : G1 p = none) : Gr G (upd G1 p o) H := ⟨a.sub.trans (same_new2 h1), fun b e => by
  by_cases hb : b = p
  · rw [hb]
    exact .inr h
  · rw [upd_ne hb] at e
    exact a.new b e⟩
theorem same_none {H H' : Hp} (k : Same H H') : ∀ b, H' b = none → H b = none := fun b e => k.free e
/-- program[i] -/
def spAcc (K : PySem.W.Frag) (i : Nat) : Sp := fun vs H Q _ => ∃ (v : V) (G : Hp) (ds : List PyData) (d : PyData), vs = [v] ∧ Same G H ∧ Dp K G v (.tuple ds) ∧ ds[i]? = some d ∧ ∀ x, Dp K G x d → Q x H
/-- the name of a part -/
def nm2 (e : List PyData) : Str := match e[1]? with
  | some (PyData.str n) => n
  | _ => Str.empty
theorem nm2_of {e : List PyData} {n : Str} (h : e[1]? = some (.str n)) : nm2 e = n := by
  unfold nm2
  rw [h]
/-- [part[1] for part in parts] -/
def spNames (K : PySem.W.Frag) : Sp := fun vs H Q _ => ∃ (v : V) (G : Hp) (es : List (List PyData)) (ns : List Str), vs = [v] ∧ Same G H ∧ Dp K G v (.list (es.map .tuple)) ∧ es.length ≤ 1000 ∧ (∀ e ∈ es, ∃ n, e[1]? = some (.str n)) ∧ ns = es.map nm2 ∧
  ∀ H' p, Same H H' → H p = none → H' p = some (.lst (ns.map V.str)) → Q (.ref p) H'
/-- the first part with a name, which there is -/
def spPart (K : PySem.W.Frag) : Sp := fun vs H Q _ => ∃ (v : V) (G : Hp) (es : List (List PyData)) (n : Str) (i : Nat) (e : List PyData), vs = [v, .str n] ∧ Same G H ∧ Dp K G v (.list (es.map .tuple)) ∧ (∀ e ∈ es, ∃ n, e[1]? = some (.str n)) ∧
  es[i]? = some e ∧ e[1]? = some (.str n) ∧ (∀ j e', j < i → es[j]? = some e' → e'[1]? ≠ some (.str n)) ∧ ∀ x, Dp K G x (.tuple e) → Q x H
end Pk
set_option Elab.async false
set_option linter.all false
set_option maxRecDepth 100000
set_option maxHeartbeats 4000000
namespace Pk
open PySem PySem.Spec PyProof.Rows L2
abbrev sHeaders : Stmt := topS 11
abbrev sMeta : Stmt := topS 12
abbrev sStates : Stmt := topS 13
abbrev sActions : Stmt := topS 14
abbrev sTables : Stmt := topS 15
abbrev sControlOf : Stmt := topS 16
abbrev sEmits : Stmt := topS 17
abbrev sNames : Stmt := topS 18
abbrev sPart : Stmt := topS 19
section
variable {P : Program} {w : World} {K : PySem.W.Frag} {mg : Str → Option Value} {base : Heap}
theorem acc_rd {v : V} {G H : Hp} {ds : List PyData} {d : PyData} {i : Nat} {Q : VK} (s : Same G H) (h : Dp K G v (.tuple ds)) (e : ds[i]? = some d) (q : ∀ x, Dp K G x d → Q x H) :
    ∃ p xs, v = .ref p ∧ SqT K H p xs ∧ ∃ x, xs[i]? = some x ∧ Dp K G x d ∧ Q x H := by
  obtain ⟨p, xs, rfl, h1, h2⟩ := dp_tup h
  obtain ⟨x, e1, e2⟩ := dpAll_at h2 e
  exact ⟨p, xs, rfl, sqT_sub s h1, x, e1, e2, q x e2⟩
theorem sc_headers : FnScope ["program"] ["program"] (defScope sHeaders) := ⟨rfl, rfl, rfl, by decide +kernel, rfl, by decide +kernel, by decide +kernel⟩
theorem ok_headers {f : Addr} {fd : FuncData} {k : Nat} (F : Fun K "headers_of" "headers_of" sHeaders f fd) : FnOk P w K mg base CX0 (k + 1) f fd ["program"] (spAcc K 2) := by
  refine F.ok sc_headers (fun vs H Q E h => ?_) (fun cdv A outer s H vs Q E hr h => ?_)
  · obtain ⟨v, G, ds, d, rfl, _⟩ := h
    rfl
  · obtain ⟨v, G, ds, d, rfl, sG, hD, e, q⟩ := h
    obtain ⟨p, xs, rfl, h1, x, e1, e2, q'⟩ := acc_rd sG hD e q
    exact ⟨_, pss_one (ps_ret (pe_ix ix_tup (pv 0) pe_int (fun _ _ => rfl))), ⟨_, rfl, p, _, _, _, rfl, rfl, h1, atI_nat (j := 2) e1, q'⟩⟩
theorem sc_meta : FnScope ["program"] ["program"] (defScope sMeta) := ⟨rfl, rfl, rfl, by decide +kernel, rfl, by decide +kernel, by decide +kernel⟩
theorem ok_meta {f : Addr} {fd : FuncData} {k : Nat} (F : Fun K "meta_of" "meta_of" sMeta f fd) : FnOk P w K mg base CX0 (k + 1) f fd ["program"] (spAcc K 3) := by
  refine F.ok sc_meta (fun vs H Q E h => ?_) (fun cdv A outer s H vs Q E hr h => ?_)
  · obtain ⟨v, G, ds, d, rfl, _⟩ := h
    rfl
  · obtain ⟨v, G, ds, d, rfl, sG, hD, e, q⟩ := h
    obtain ⟨p, xs, rfl, h1, x, e1, e2, q'⟩ := acc_rd sG hD e q
    exact ⟨_, pss_one (ps_ret (pe_ix ix_tup (pv 0) pe_int (fun _ _ => rfl))), ⟨_, rfl, p, _, _, _, rfl, rfl, h1, atI_nat (j := 3) e1, q'⟩⟩
theorem sc_states : FnScope ["program"] ["program"] (defScope sStates) := ⟨rfl, rfl, rfl, by decide +kernel, rfl, by decide +kernel, by decide +kernel⟩
theorem ok_states {f : Addr} {fd : FuncData} {k : Nat} (F : Fun K "states_of" "states_of" sStates f fd) : FnOk P w K mg base CX0 (k + 1) f fd ["program"] (spAcc K 4) := by
  refine F.ok sc_states (fun vs H Q E h => ?_) (fun cdv A outer s H vs Q E hr h => ?_)
  · obtain ⟨v, G, ds, d, rfl, _⟩ := h
    rfl
  · obtain ⟨v, G, ds, d, rfl, sG, hD, e, q⟩ := h
    obtain ⟨p, xs, rfl, h1, x, e1, e2, q'⟩ := acc_rd sG hD e q
    exact ⟨_, pss_one (ps_ret (pe_ix ix_tup (pv 0) pe_int (fun _ _ => rfl))), ⟨_, rfl, p, _, _, _, rfl, rfl, h1, atI_nat (j := 4) e1, q'⟩⟩
theorem sc_actions : FnScope ["program"] ["program"] (defScope sActions) := ⟨rfl, rfl, rfl, by decide +kernel, rfl, by decide +kernel, by decide +kernel⟩
theorem ok_actions {f : Addr} {fd : FuncData} {k : Nat} (F : Fun K "actions_of" "actions_of" sActions f fd) : FnOk P w K mg base CX0 (k + 1) f fd ["program"] (spAcc K 5) := by
  refine F.ok sc_actions (fun vs H Q E h => ?_) (fun cdv A outer s H vs Q E hr h => ?_)
  · obtain ⟨v, G, ds, d, rfl, _⟩ := h
    rfl
  · obtain ⟨v, G, ds, d, rfl, sG, hD, e, q⟩ := h
    obtain ⟨p, xs, rfl, h1, x, e1, e2, q'⟩ := acc_rd sG hD e q
    exact ⟨_, pss_one (ps_ret (pe_ix ix_tup (pv 0) pe_int (fun _ _ => rfl))), ⟨_, rfl, p, _, _, _, rfl, rfl, h1, atI_nat (j := 5) e1, q'⟩⟩
theorem sc_tables : FnScope ["program"] ["program"] (defScope sTables) := ⟨rfl, rfl, rfl, by decide +kernel, rfl, by decide +kernel, by decide +kernel⟩
theorem ok_tables {f : Addr} {fd : FuncData} {k : Nat} (F : Fun K "tables_of" "tables_of" sTables f fd) : FnOk P w K mg base CX0 (k + 1) f fd ["program"] (spAcc K 6) := by
  refine F.ok sc_tables (fun vs H Q E h => ?_) (fun cdv A outer s H vs Q E hr h => ?_)
  · obtain ⟨v, G, ds, d, rfl, _⟩ := h
    rfl
  · obtain ⟨v, G, ds, d, rfl, sG, hD, e, q⟩ := h
    obtain ⟨p, xs, rfl, h1, x, e1, e2, q'⟩ := acc_rd sG hD e q
    exact ⟨_, pss_one (ps_ret (pe_ix ix_tup (pv 0) pe_int (fun _ _ => rfl))), ⟨_, rfl, p, _, _, _, rfl, rfl, h1, atI_nat (j := 6) e1, q'⟩⟩
theorem sc_controlOf : FnScope ["program"] ["program"] (defScope sControlOf) := ⟨rfl, rfl, rfl, by decide +kernel, rfl, by decide +kernel, by decide +kernel⟩
theorem ok_controlOf {f : Addr} {fd : FuncData} {k : Nat} (F : Fun K "control_of" "control_of" sControlOf f fd) : FnOk P w K mg base CX0 (k + 1) f fd ["program"] (spAcc K 7) := by
  refine F.ok sc_controlOf (fun vs H Q E h => ?_) (fun cdv A outer s H vs Q E hr h => ?_)
  · obtain ⟨v, G, ds, d, rfl, _⟩ := h
    rfl
  · obtain ⟨v, G, ds, d, rfl, sG, hD, e, q⟩ := h
    obtain ⟨p, xs, rfl, h1, x, e1, e2, q'⟩ := acc_rd sG hD e q
    exact ⟨_, pss_one (ps_ret (pe_ix ix_tup (pv 0) pe_int (fun _ _ => rfl))), ⟨_, rfl, p, _, _, _, rfl, rfl, h1, atI_nat (j := 7) e1, q'⟩⟩
theorem sc_emits : FnScope ["program"] ["program"] (defScope sEmits) := ⟨rfl, rfl, rfl, by decide +kernel, rfl, by decide +kernel, by decide +kernel⟩
theorem ok_emits {f : Addr} {fd : FuncData} {k : Nat} (F : Fun K "emits_of" "emits_of" sEmits f fd) : FnOk P w K mg base CX0 (k + 1) f fd ["program"] (spAcc K 8) := by
  refine F.ok sc_emits (fun vs H Q E h => ?_) (fun cdv A outer s H vs Q E hr h => ?_)
  · obtain ⟨v, G, ds, d, rfl, _⟩ := h
    rfl
  · obtain ⟨v, G, ds, d, rfl, sG, hD, e, q⟩ := h
    obtain ⟨p, xs, rfl, h1, x, e1, e2, q'⟩ := acc_rd sG hD e q
    exact ⟨_, pss_one (ps_ret (pe_ix ix_tup (pv 0) pe_int (fun _ _ => rfl))), ⟨_, rfl, p, _, _, _, rfl, rfl, h1, atI_nat (j := 8) e1, q'⟩⟩
theorem scNames : FnScope ["parts", "part"] ["parts"] (defScope sNames) := ⟨rfl, rfl, rfl, by decide +kernel, rfl, by decide +kernel, by decide +kernel⟩
theorem scPart : FnScope ["parts", "name", "part"] ["parts", "name"] (defScope sPart) := ⟨rfl, rfl, rfl, by decide +kernel, rfl, by decide +kernel, by decide +kernel⟩
theorem ok_names {f : Addr} {fd : FuncData} {k : Nat} (F : Fun K "names_of" "names_of" sNames f fd) : FnOk P w K mg base CX0 (k + 1) f fd ["parts"] (spNames K) := by
  refine F.ok scNames (fun vs H Q E h => ?_) (fun cdv A outer s H vs Q E hr h => ?_)
  · obtain ⟨v, G, es, ns, rfl, _⟩ := h
    rfl
  · obtain ⟨v, G, es, ns, rfl, sG, hD, hlen, hes, rfl, q⟩ := h
    have nd := scNames.nd
    refine ⟨_, pss_one (ps_ret (pe_lc (own := [("part", 1)]) (g := gName 1) (tt := tYes) rfl nd (pi_list (pv 0)) (blkOk_by (N := ["parts", "part"]) (sc := defScope sNames) (by decide +kernel))
      (fun _ _ _ _ _ => pg_name (i := 1) nd rfl (Or.inl rfl)) (fun _ _ _ _ _ => pts_nil) (fun _ _ _ _ _ => pe_ix (r := rIxT K) ix_tup (pv 1) pe_int (fun _ _ => rfl)))), ?_⟩
    obtain ⟨p, xs, rfl, h1, h2⟩ := dp_lst hD
    have hl := dpAll_len h2
    rw [List.length_map] at hl
    refine ⟨_, rfl, p, rfl, ⟨_, sqL_sub sG h1⟩, fun D hD => lc_list (K := K) (a := p) (xs := xs) (fun i H2 => Same H H2 ∧ H2 D = some (.lst (((es.take i).map nm2).map V.str))) ⟨same_new hD, upd_same⟩ (fun i H2 _ h => h.1.seq (sqL_sub sG h1)) ?_ ?_⟩
    · rintro i y H2 hi ⟨sm, e1⟩
      obtain ⟨d, ed, hd⟩ := dpAll_val h2 hi
      rw [List.getElem?_map] at ed
      cases ee : es[i]? with
      | none => rw [ee] at ed; cases ed
      | some e =>
      rw [ee] at ed
      cases ed
      obtain ⟨n, en⟩ := hes e (List.mem_of_getElem? ee)
      obtain ⟨pt, xs2, rfl, g1, g2⟩ := dp_tup hd
      obtain ⟨x, ex, hx⟩ := dpAll_at g2 en
      obtain rfl := dp_str hx
      refine ⟨rfl, _, rfl, pt, _, _, _, rfl, rfl, sqT_sub (sG.trans sm) g1, atI_nat (j := 1) ex, _, e1, ?_, fun b o e => ?_, ?_⟩
      · rw [List.length_map, List.length_map, List.length_take]
        exact small1000 (by omega)
      · rw [upd_ne (ne_of_none e hD)]
        exact sm b o e
      · rw [upd_same, List.take_add_one, ee, List.map_append, List.map_append]
        show _ = some (HO.lst (_ ++ [V.str (nm2 e)]))
        rw [nm2_of en]
    · rintro H2 ⟨sm, e1⟩
      rw [hl, List.take_length] at e1
      exact q H2 D sm hD e1
theorem ok_part {f : Addr} {fd : FuncData} {k : Nat} (F : Fun K "part_named" "part_named" sPart f fd) : FnOk P w K mg base CX0 (k + 1) f fd ["parts", "name"] (spPart K) := by
  refine F.ok scPart (fun vs H Q E h => ?_) (fun cdv A outer s H vs Q E hr h => ?_)
  · obtain ⟨v, G, es, n, i, e, rfl, _⟩ := h
    rfl
  · obtain ⟨v, G, es, n, i0, e0, rfl, sG, hD, hes, he, hn, hf, q⟩ := h
    have nd := scPart.nd
    refine ⟨_, pss_cons (ps_for PassesOwn.never rfl (pi_list (pv 0)) (pg_name (i := 2) nd rfl (.inl rfl)) (pss_one (ps_if (pt_cmpR op_eq (pe_ix ix_tup (pv 2) pe_int (fun _ _ => rfl)) (pv 1) (nomark _)) (pss_one (ps_ret (pv 2))) pss_nil))) (pss_one (ps_ret pe_non)), ?_⟩
    obtain ⟨p, xs, rfl, h1, h2⟩ := dp_lst hD
    have hl := dpAll_len h2
    rw [List.length_map] at hl
    have hi0 : i0 < es.length := by
      rcases Nat.lt_or_ge i0 es.length with h | h
      · exact h
      · rw [List.getElem?_eq_none h] at he
        cases he
    refine ⟨_, rfl, p, rfl, ⟨_, sqL_sub sG h1⟩, for_list (K := K) (a := p) (xs := xs) (fun i σ H2 => i ≤ i0 ∧ H2 = H ∧ ∃ o, σ = [some (.ref p), some (.str n), o]) ⟨Nat.zero_le _, rfl, none, rfl⟩ (fun i σ H2 _ h => by rw [h.2.1]; exact sqL_sub sG h1) ?_ ?_⟩
    · rintro i y σ H2 hi ⟨hle, rfl, o, rfl⟩
      obtain ⟨d, ed, hd⟩ := dpAll_val h2 hi
      rw [List.getElem?_map] at ed
      cases ee : es[i]? with
      | none => rw [ee] at ed; cases ed
      | some e =>
      rw [ee] at ed
      cases ed
      obtain ⟨m, em⟩ := hes e (List.mem_of_getElem? ee)
      obtain ⟨pt, xs2, rfl, g1, g2⟩ := dp_tup hd
      obtain ⟨x, ex, hx⟩ := dpAll_at g2 em
      obtain rfl := dp_str hx
      refine ⟨_, rfl, pt, _, _, _, rfl, rfl, sqT_sub sG g1, atI_nat (j := 1) ex, _, rfl, rfl, _, rfl, ?_⟩
      rw [dcStr]
      refine iteD (fun hm => ?_) fun hm => ?_
      · subst hm
        have : i = i0 := by
          rcases Nat.lt_or_ge i i0 with h | h
          · exact absurd em (hf i e h ee)
          · omega
        subst this
        rw [he] at ee
        cases ee
        exact ⟨_, rfl, q _ hd⟩
      · refine ⟨?_, rfl, _, rfl⟩
        rcases Nat.lt_or_ge i i0 with h | h
        · omega
        · have : i = i0 := by omega
          subst this
          rw [he] at ee
          cases ee
          rw [hn] at em
          cases em
          exact absurd rfl hm
    · rintro σ H2 ⟨hle, rfl, o, rfl⟩
      rw [hl] at hle
      omega
end
end Pk
set_option Elab.async false
set_option linter.all false
set_option maxRecDepth 100000
set_option maxHeartbeats 4000000
/-! the control of k16, its nodes and their stages; no row -/
namespace Pk
open PySem PySem.Spec PyProof.Rows L2
/-- a list of statements -/
inductive Ct where
  | nil : Ct
  | ap (t : Nat) (r : Ct) : Ct
  | cf (n : Nat) (a b r : Ct) : Ct
def tnm : Nat → Str
  | 0 => "t0"
  | 1 => "t1"
  | _ => "t2"
def dAp (t : Nat) : List PyData := [.str "apply", .str (tnm t)]
def dTest (n : Nat) : List PyData := [.str "<", .tuple [.str "packet", .str "port"], .int n]
def dCf (n : Nat) (a b : List PyData) : List PyData := [.str "if", .tuple (dTest n), .list a, .list b]
def dataC : Ct → List PyData
  | .nil => []
  | .ap t r => .tuple (dAp t) :: dataC r
  | .cf n a b r => .tuple (dCf n (dataC a) (dataC b)) :: dataC r
def sz : Ct → Nat
  | .nil => 0
  | .ap _ r => sz r + 1
  | .cf _ a b r => sz a + sz b + sz r + 1
def dpt : Ct → Nat
  | .nil => 0
  | .ap _ r => dpt r
  | .cf _ a b r => max (max (dpt a) (dpt b) + 1) (dpt r)
def okC : Ct → Prop
  | .nil => True
  | .ap t r => t < 3 ∧ okC r
  | .cf n a b r => okC a ∧ okC b ∧ okC r
def catC : Ct → Ct → Ct
  | .nil, d => d
  | .ap t r, d => .ap t (catC r d)
  | .cf n a b r, d => .cf n a b (catC r d)
theorem data_cat : ∀ c d, dataC (catC c d) = dataC c ++ dataC d
  | .nil, _ => rfl
  | .ap t r, d => congrArg (_ :: ·) (data_cat r d)
  | .cf n a b r, d => congrArg (_ :: ·) (data_cat r d)
theorem sz_cat : ∀ c d, sz (catC c d) = sz c + sz d
  | .nil, d => (Nat.zero_add _).symm
  | .ap t r, d => by
    show sz (catC r d) + 1 = sz r + 1 + sz d
    rw [sz_cat r d]
    omega
  | .cf n a b r, d => by
    show sz a + sz b + sz (catC r d) + 1 = sz a + sz b + sz r + 1 + sz d
    rw [sz_cat r d]
    omega
theorem dpt_cat : ∀ c d, dpt (catC c d) = max (dpt c) (dpt d)
  | .nil, d => (Nat.zero_max _).symm
  | .ap t r, d => dpt_cat r d
  | .cf n a b r, d => by
    show max (max (dpt a) (dpt b) + 1) (dpt (catC r d)) = max (max (max (dpt a) (dpt b) + 1) (dpt r)) (dpt d)
    rw [dpt_cat r d]
    omega
theorem ok_cat : ∀ c d, okC c → okC d → okC (catC c d)
  | .nil, _, _, h => h
  | .ap t r, d, h, k => ⟨h.1, ok_cat r d h.2 k⟩
  | .cf n a b r, d, h, k => ⟨h.1, h.2.1, ok_cat r d h.2.2 k⟩
theorem data_len : ∀ c, (dataC c).length ≤ sz c
  | .nil => Nat.le_refl _
  | .ap t r => Nat.succ_le_succ (data_len r)
  | .cf n a b r => by
    have := data_len r
    show (dataC r).length + 1 ≤ sz a + sz b + sz r + 1
    omega
/-- nodes: of a table, of a test -/
inductive Nd where
  | tb (t : Nat) (next : Int) : Nd
  | ts (n : Nat) (yes no : Int) : Nd
def dN : Nd → List PyData
  | .tb t x => [.str "table", .int t, .list [], .int x]
  | .ts n y z => [.str "test", .str "<", .int 0, .int n, .int y, .int z]
def goals : Nd → List Int
  | .tb _ x => [x].filter (· ≠ -1)
  | .ts _ y z => [y, z].filter (· ≠ -1)
def firstOf (c : Ct) (f : Nat) (a : Int) : Int := match c with
  | .nil => a
  | _ => f
/-- the node that follows a statement of size z at f, before r -/
def foll (r : Ct) (f z : Nat) (a : Int) : Int := match r with
  | .nil => a
  | _ => ((f + z : Nat) : Int)
def comp : Ct → Nat → Int → List Nd
  | .nil, _, _ => []
  | .ap t r, f, a => .tb t (foll r f 1 a) :: comp r (f + 1) a
  | .cf n x y r, f, a => .ts n (firstOf x (f + 1) (foll r f (sz x + sz y + 1) a)) (firstOf y (f + 1 + sz x) (foll r f (sz x + sz y + 1) a)) ::
      (comp x (f + 1) (foll r f (sz x + sz y + 1) a) ++ (comp y (f + 1 + sz x) (foll r f (sz x + sz y + 1) a) ++ comp r (f + (sz x + sz y + 1)) a))
theorem comp_len : ∀ c f a, (comp c f a).length = sz c
  | .nil, _, _ => rfl
  | .ap t r, f, a => congrArg (· + 1) (comp_len r _ _)
  | .cf n x y r, f, a => by
    show (comp x _ _ ++ (comp y _ _ ++ comp r _ _)).length + 1 = sz x + sz y + sz r + 1
    rw [List.length_append, List.length_append, comp_len x, comp_len y, comp_len r]
    omega
/-- one statement -/
inductive One : Ct → Prop where
  | ap (t : Nat) : One (.ap t .nil)
  | cf (n : Nat) (a b : Ct) : One (.cf n a b .nil)
/-- the first statement of a list, and the others -/
theorem comp_split {s r : Ct} (h : One s) (f : Nat) (a : Int) : comp (catC s r) f a = comp s f (foll r f (sz s) a) ++ comp r (f + sz s) a := by
  cases h with
  | ap t => rfl
  | cf n x y =>
    show _ :: (_ ++ (_ ++ _)) = _ :: (_ ++ (_ ++ [])) ++ _
    rw [List.append_nil, List.cons_append, List.append_assoc]
    rfl
/-- goals lead on -/
def fwd (f n : Nat) (a : Int) (l : List Nd) : Prop := ∀ i nd, l[i]? = some nd → ∀ g ∈ goals nd, g = a ∨ ((f + i : Nat) : Int) < g ∧ g < (n : Int)
theorem goals_ne {nd : Nd} {g : Int} (h : g ∈ goals nd) : g ≠ -1 := by
  cases nd with
  | tb t x => simpa using (List.mem_filter.mp h).2
  | ts n y z => simpa using (List.mem_filter.mp h).2
theorem foll_cases (r : Ct) (f z : Nat) (a : Int) : foll r f z a = a ∨ (foll r f z a = ((f + z : Nat) : Int) ∧ 0 < sz r) := by
  cases r with
  | nil => exact .inl rfl
  | ap t r => exact .inr ⟨rfl, Nat.succ_pos _⟩
  | cf n x y r => exact .inr ⟨rfl, Nat.succ_pos _⟩
theorem first_cases (c : Ct) (f : Nat) (a : Int) : firstOf c f a = a ∨ (firstOf c f a = (f : Int) ∧ 0 < sz c) := by
  cases c with
  | nil => exact .inl rfl
  | ap t r => exact .inr ⟨rfl, Nat.succ_pos _⟩
  | cf n x y r => exact .inr ⟨rfl, Nat.succ_pos _⟩
/-- each goal of the i-th node is what follows the list, or a later node of it -/
theorem comp_fwd : ∀ (c : Ct) (f : Nat) (a : Int) (i : Nat) (nd : Nd), (comp c f a)[i]? = some nd → ∀ g ∈ goals nd, g = a ∨ (((f + i : Nat) : Int) < g ∧ g < ((f + sz c : Nat) : Int))
  | .nil, _, _, _, _, h, _, _ => by cases h
  | .ap t r, f, a, 0, nd, h, g, hg => by
    cases h
    obtain ⟨hm, _⟩ := List.mem_filter.mp hg
    obtain rfl := List.mem_singleton.mp hm
    rcases foll_cases r f 1 a with e | ⟨e, e2⟩
    · exact .inl e
    · refine .inr ?_
      rw [e]
      show ((f + 0 : Nat) : Int) < _ ∧ _ < ((f + (sz r + 1) : Nat) : Int)
      omega
  | .ap t r, f, a, i + 1, nd, h, g, hg => by
    rcases comp_fwd r (f + 1) a i nd h g hg with e | e
    · exact .inl e
    · refine .inr ?_
      show ((f + (i + 1) : Nat) : Int) < _ ∧ _ < ((f + (sz r + 1) : Nat) : Int)
      omega
  | .cf n x y r, f, a, 0, nd, h, g, hg => by
    cases h
    obtain ⟨hm, _⟩ := List.mem_filter.mp hg
    show _ ∨ (((f + 0 : Nat) : Int) < _ ∧ _ < ((f + (sz x + sz y + sz r + 1) : Nat) : Int))
    have hf := foll_cases r f (sz x + sz y + 1) a
    have key : ∀ (c : Ct) (k : Nat), f < k → k + sz c ≤ f + (sz x + sz y + sz r + 1) → g = firstOf c k (foll r f (sz x + sz y + 1) a) → g = a ∨ (((f + 0 : Nat) : Int) < g ∧ g < ((f + (sz x + sz y + sz r + 1) : Nat) : Int)) := by
      intro c k h1 h2 e
      rcases first_cases c k (foll r f (sz x + sz y + 1) a) with e1 | ⟨e1, e2⟩
      · rcases hf with e3 | ⟨e3, e4⟩
        · exact .inl (by rw [e, e1, e3])
        · refine .inr ?_
          rw [e, e1, e3]
          omega
      · refine .inr ?_
        rw [e, e1]
        omega
    rcases List.mem_cons.mp hm with e | hm
    · exact key x (f + 1) (by omega) (by omega) e
    · exact key y (f + 1 + sz x) (by omega) (by omega) (List.mem_singleton.mp hm)
  | .cf n x y r, f, a, i + 1, nd, h, g, hg => by
    show _ ∨ (((f + (i + 1) : Nat) : Int) < _ ∧ _ < ((f + (sz x + sz y + sz r + 1) : Nat) : Int))
    have hf := foll_cases r f (sz x + sz y + 1) a
    have h' : (comp x (f + 1) (foll r f (sz x + sz y + 1) a) ++ (comp y (f + 1 + sz x) (foll r f (sz x + sz y + 1) a) ++ comp r (f + (sz x + sz y + 1)) a))[i]? = some nd := h
    have lx := comp_len x (f + 1) (foll r f (sz x + sz y + 1) a)
    have ly := comp_len y (f + 1 + sz x) (foll r f (sz x + sz y + 1) a)
    by_cases c1 : i < sz x
    · rw [List.getElem?_append_left (by omega)] at h'
      rcases comp_fwd x _ _ i nd h' g hg with e | e
      · rcases hf with e3 | ⟨e3, e4⟩
        · exact .inl (e.trans e3)
        · refine .inr ?_
          rw [e, e3]
          omega
      · exact .inr (by omega)
    · rw [List.getElem?_append_right (by omega), lx] at h'
      by_cases c2 : i - sz x < sz y
      · rw [List.getElem?_append_left (by omega)] at h'
        rcases comp_fwd y _ _ (i - sz x) nd h' g hg with e | e
        · rcases hf with e3 | ⟨e3, e4⟩
          · exact .inl (e.trans e3)
          · refine .inr ?_
            rw [e, e3]
            omega
        · exact .inr (by omega)
      · rw [List.getElem?_append_right (by omega), ly] at h'
        rcases comp_fwd r _ _ (i - sz x - sz y) nd h' g hg with e | e
        · exact .inl e
        · exact .inr (by omega)
end Pk
set_option Elab.async false
set_option linter.all false
set_option maxRecDepth 100000
set_option maxHeartbeats 4000000
/-! stages; no row -/
namespace Pk
open PySem PySem.Spec PyProof.Rows L2
def nth (l : List Int) (i : Nat) : Int := l[i]?.getD 0
def up (i : Nat) (l : List Int) (g : Int) : List Int := l.set g.toNat (max (nth l g.toNat) (nth l i + 1))
def rowUp (l : List Int) (i : Nat) (nd : Nd) : List Int := (goals nd).foldl (up i) l
def pass : Nat → List Nd → List Int → List Int
  | _, [], l => l
  | i, nd :: r, l => pass (i + 1) r (rowUp l i nd)
def passes (nds : List Nd) : Nat → List Int → List Int
  | 0, l => l
  | k + 1, l => passes nds k (pass 0 nds l)
def Fw (n f : Nat) (nds : List Nd) : Prop := ∀ i nd, nds[i]? = some nd → ∀ g ∈ goals nd, ((f + i : Nat) : Int) < g ∧ g < (n : Int)
theorem up_len (i : Nat) (l : List Int) (g : Int) : (up i l g).length = l.length := List.length_set ..
theorem nth_set {l : List Int} {i j : Nat} {x : Int} (h : i < l.length) : nth (l.set i x) j = if j = i then x else nth l j := by
  unfold nth
  rw [List.getElem?_set]
  by_cases e : j = i
  · subst e
    rw [if_pos rfl, if_pos rfl, if_pos h]
    rfl
  · rw [if_neg (fun z => e z.symm), if_neg e]
theorem fold_len (i : Nat) : ∀ (gs : List Int) (l : List Int), (gs.foldl (up i) l).length = l.length
  | [], _ => rfl
  | g :: gs, l => by rw [List.foldl_cons, fold_len i gs, up_len]
theorem fold_mono (i : Nat) : ∀ (gs : List Int) (l : List Int) (j : Nat), (∀ g ∈ gs, 0 ≤ g ∧ g.toNat < l.length) → nth l j ≤ nth (gs.foldl (up i) l) j
  | [], _, _, _ => Int.le_refl _
  | g :: gs, l, j, h => by
    rw [List.foldl_cons]
    have h1 := (h g List.mem_cons_self).2
    refine Int.le_trans ?_ (fold_mono i gs (up i l g) j fun x hx => by rw [up_len]; exact h x (List.mem_cons_of_mem _ hx))
    unfold up
    rw [nth_set h1]
    split
    · rename_i e
      rw [e]
      omega
    · exact Int.le_refl _
theorem fold_same (i : Nat) : ∀ (gs : List Int) (l : List Int) (j : Nat), (∀ g ∈ gs, 0 ≤ g ∧ g.toNat < l.length ∧ j < g.toNat) → nth (gs.foldl (up i) l) j = nth l j
  | [], _, _, _ => rfl
  | g :: gs, l, j, h => by
    rw [List.foldl_cons]
    have h1 := h g List.mem_cons_self
    rw [fold_same i gs (up i l g) j fun x hx => by rw [up_len]; exact h x (List.mem_cons_of_mem _ hx)]
    unfold up
    rw [nth_set h1.2.1, if_neg (by omega)]
theorem fold_sat (i : Nat) : ∀ (gs : List Int) (l : List Int), (∀ g ∈ gs, 0 ≤ g ∧ g.toNat < l.length ∧ i < g.toNat) → ∀ g ∈ gs, nth l i + 1 ≤ nth (gs.foldl (up i) l) g.toNat
  | [], _, _, _, h => nomatch h
  | g :: gs, l, h, x, hx => by
    rw [List.foldl_cons]
    have h1 := h g List.mem_cons_self
    have hr : ∀ y ∈ gs, 0 ≤ y ∧ y.toNat < (up i l g).length ∧ i < y.toNat := fun y hy => by rw [up_len]; exact h y (List.mem_cons_of_mem _ hy)
    have e : nth (up i l g) i = nth l i := by
      unfold up
      rw [nth_set h1.2.1, if_neg (by omega)]
    rcases List.mem_cons.mp hx with rfl | hx
    · refine Int.le_trans ?_ (fold_mono i gs (up i l x) x.toNat fun y hy => ⟨(hr y hy).1, (hr y hy).2.1⟩)
      unfold up
      rw [nth_set h1.2.1, if_pos rfl]
      omega
    · have := fold_sat i gs (up i l g) hr x hx
      rw [e] at this
      exact this
theorem Fw.gs {n f : Nat} {nd : Nd} {r : List Nd} (h : Fw n f (nd :: r)) {l : List Int} (hl : l.length = n) : ∀ g ∈ goals nd, 0 ≤ g ∧ g.toNat < l.length ∧ f < g.toNat := fun g hg => by
  have := h 0 nd rfl g hg
  omega
theorem Fw.tl {n f : Nat} {nd : Nd} {r : List Nd} (h : Fw n f (nd :: r)) : Fw n (f + 1) r := fun i x hx g hg => by
  have := h (i + 1) x hx g hg
  omega
theorem row_len (l : List Int) (i : Nat) (nd : Nd) : (rowUp l i nd).length = l.length := fold_len i _ _
theorem pass_len : ∀ (nds : List Nd) (f : Nat) (l : List Int), (pass f nds l).length = l.length
  | [], _, _ => rfl
  | nd :: r, f, l => by
    show (pass (f + 1) r (rowUp l f nd)).length = _
    rw [pass_len r, row_len]
theorem pass_mono {n : Nat} : ∀ (nds : List Nd) (f : Nat) (l : List Int), Fw n f nds → l.length = n → ∀ j, nth l j ≤ nth (pass f nds l) j
  | [], _, _, _, _, _ => Int.le_refl _
  | nd :: r, f, l, h, hl, j => by
    have hg := h.gs hl
    exact Int.le_trans (fold_mono f _ l j fun g hm => ⟨(hg g hm).1, (hg g hm).2.1⟩) (pass_mono r (f + 1) (rowUp l f nd) h.tl (by rw [row_len]; exact hl) j)
theorem pass_low {n : Nat} : ∀ (nds : List Nd) (f : Nat) (l : List Int), Fw n f nds → l.length = n → ∀ j, j ≤ f → nth (pass f nds l) j = nth l j
  | [], _, _, _, _, _, _ => rfl
  | nd :: r, f, l, h, hl, j, hj => by
    have hg := h.gs hl
    show nth (pass (f + 1) r (rowUp l f nd)) j = _
    rw [pass_low r (f + 1) _ h.tl (by rw [row_len]; exact hl) j (by omega)]
    exact fold_same f _ l j fun g hm => ⟨(hg g hm).1, (hg g hm).2.1, by have := (hg g hm).2.2; omega⟩
def Sat (f : Nat) (nds : List Nd) (l : List Int) : Prop := ∀ i nd, nds[i]? = some nd → ∀ g ∈ goals nd, nth l (f + i) + 1 ≤ nth l g.toNat
theorem pass_sat {n : Nat} : ∀ (nds : List Nd) (f : Nat) (l : List Int), Fw n f nds → l.length = n → Sat f nds (pass f nds l)
  | [], _, _, _, _ => fun i nd h => by cases h
  | nd :: r, f, l, h, hl => fun i x hx g hg => by
    have hl' : (rowUp l f nd).length = n := by rw [row_len]; exact hl
    cases i with
    | zero =>
      cases hx
      have hgs := h.gs hl
      show nth (pass (f + 1) r (rowUp l f nd)) f + 1 ≤ nth (pass (f + 1) r (rowUp l f nd)) g.toNat
      rw [pass_low r (f + 1) _ h.tl hl' f (by omega)]
      refine Int.le_trans ?_ (pass_mono r (f + 1) _ h.tl hl' g.toNat)
      have e : nth (rowUp l f nd) f = nth l f := fold_same f _ l f hgs
      rw [e]
      exact fold_sat f _ l hgs g hg
    | succ i =>
      have := pass_sat r (f + 1) (rowUp l f nd) h.tl hl' i x hx g hg
      rw [show f + 1 + i = f + (i + 1) by omega] at this
      exact this
theorem set_self {l : List Int} {i : Nat} (h : i < l.length) : l.set i (nth l i) = l := by
  refine List.ext_getElem? fun j => ?_
  rw [List.getElem?_set]
  split
  · rename_i e
    subst e
    unfold nth
    rw [List.getElem?_eq_getElem h]
    simp [h]
  · rfl
theorem fold_id (i : Nat) {l : List Int} : ∀ gs : List Int, (∀ g ∈ gs, g.toNat < l.length ∧ nth l i + 1 ≤ nth l g.toNat) → gs.foldl (up i) l = l
  | [], _ => rfl
  | g :: gs, h => by
    have h1 := h g List.mem_cons_self
    have e : up i l g = l := by
      unfold up
      rw [show max (nth l g.toNat) (nth l i + 1) = nth l g.toNat by omega, set_self h1.1]
    rw [List.foldl_cons, e]
    exact fold_id i gs fun x hx => h x (List.mem_cons_of_mem _ hx)
theorem pass_id {n : Nat} : ∀ (nds : List Nd) (f : Nat) (l : List Int), Fw n f nds → l.length = n → Sat f nds l → pass f nds l = l
  | [], _, _, _, _, _ => rfl
  | nd :: r, f, l, h, hl, hs => by
    have hg := h.gs hl
    have e : rowUp l f nd = l := fold_id f _ fun g hm => ⟨(hg g hm).2.1, hs 0 nd rfl g hm⟩
    show pass (f + 1) r (rowUp l f nd) = l
    rw [e]
    refine pass_id r (f + 1) l h.tl hl fun i x hx g hm => ?_
    have := hs (i + 1) x hx g hm
    rw [show f + (i + 1) = f + 1 + i by omega] at this
    exact this
/-- more passes change nothing -/
theorem passes_id {n : Nat} {nds : List Nd} (h : Fw n 0 nds) : ∀ (k : Nat) (l : List Int), l.length = n → passes nds (k + 1) l = pass 0 nds l
  | 0, l, _ => rfl
  | k + 1, l, hl => by
    have hl' : (pass 0 nds l).length = n := by rw [pass_len]; exact hl
    show passes nds (k + 1) (pass 0 nds l) = _
    rw [passes_id h k _ hl']
    exact pass_id nds 0 _ h hl' (pass_sat nds 0 l h hl)
theorem comp_Fw (c : Ct) : Fw (sz c) 0 (comp c 0 (-1)) := fun i nd h g hg => by
  rcases comp_fwd c 0 (-1) i nd h g hg with e | e
  · exact absurd e (goals_ne hg)
  · omega
def zeros (n : Nat) : List Int := List.replicate n 0
theorem nth_zeros (n j : Nat) : nth (zeros n) j = 0 := by
  unfold nth zeros
  rw [List.getElem?_replicate]
  split <;> rfl
theorem pass_nonneg (c : Ct) (j : Nat) : 0 ≤ nth (pass 0 (comp c 0 (-1)) (zeros (sz c))) j := by
  have := pass_mono (comp c 0 (-1)) 0 (zeros (sz c)) (comp_Fw c) (List.length_replicate ..) j
  rw [nth_zeros] at this
  exact this
end Pk
set_option Elab.async false
set_option linter.all false
set_option maxRecDepth 100000
set_option maxHeartbeats 4000000
namespace Pk
open PySem PySem.Spec PyProof.Rows L2
abbrev sAll : Stmt := topS 23
abbrev sPlain : Stmt := topS 24
abbrev sCells : Stmt := topS 28
abbrev sIndex : Stmt := topS 29
abbrev sCell : Stmt := topS 30
abbrev sWidths : Stmt := topS 32
abbrev sFirst : Stmt := topS 42
abbrev sTableN : Stmt := topS 43
abbrev sTestN : Stmt := topS 44
abbrev sStages : Stmt := topS 45
abbrev sFollow : Stmt := topS 46
def portD : PyData := .tuple [.str "packet", .str "port"]
def tblD (t : Nat) : List PyData := [.str "table", .str (tnm t), .list [], .list [.str "a"], .tuple [.str "a", .list []], .int 1]
def tblsD : List (List PyData) := [tblD 0, tblD 1, tblD 2]
def stD : List PyData := [.str "state", .str "start", .none, .tuple [.str "go", .str "accept"]]
def acD : List PyData := [.str "action", .str "a", .list [], .list []]
def progL (c : Ct) : List PyData := [.str "program", .str "p", .list [], .list [], .list ([stD].map .tuple), .list ([acD].map .tuple), .list (tblsD.map .tuple), .list (dataC c), .list []]
/-- what the module's names hold -/
structure Gk (K : PySem.W.Frag) (mg : Str → Option Value) : Prop where
  PORT : ∃ p, mg "PORT" = some (.ref p) ∧ TupK K p [.str "packet", .str "port"]
  PW : ∃ u, mg "PORT_WIDTH" = some u ∧ RelV (.int 3) u
  OW : ∃ u, mg "OUT_WIDTH" = some u ∧ RelV (.int 4) u
  END : ∃ u, mg "END" = some u ∧ RelV (.int (-1)) u
  STG : ∃ u, mg "STAGES" = some u ∧ RelV (.int 12) u
  FST : ∃ u, mg "FIRST_STATE" = some u ∧ RelV (.str "start") u
  ACC : ∃ u, mg "ACCEPT_GOAL" = some u ∧ RelV (.int (-1)) u
  REJ : ∃ u, mg "REJECT_GOAL" = some u ∧ RelV (.int (-2)) u
  OCT : ∃ u, mg "OCTET_WIDTH" = some u ∧ RelV (.int 8) u
  zLen : mg "len" = none
  zEnum : mg "enumerate" = none
  zMax : mg "max" = none
  zRange : mg "range" = none
  zSum : mg "sum" = none
  zSorted : mg "sorted" = none
  zAny : mg "any" = none
  zList : mg "list" = none
  zZip : mg "zip" = none
section
variable {P : Program} {w : World} {K : PySem.W.Frag} {mg : Str → Option Value} {base : Heap}
abbrev NAll : List Str := ["statements", "found", "statement"]
theorem scAll : FnScope NAll ["statements"] (defScope sAll) := ⟨rfl, rfl, rfl, by decide +kernel, rfl, by decide +kernel, by decide +kernel⟩
/-- all_statements of a list of statements that is less than d deep -/
def spAll (K : PySem.W.Frag) : Nat → Sp
  | 0 => fun _ _ _ _ => False
  | d + 1 => fun vs H Q _ => ∃ (v : V) (G : Hp) (c : Ct), vs = [v] ∧ Same G H ∧ Dp K G v (.list (dataC c)) ∧ dpt c ≤ d ∧ sz c ≤ 1000 ∧ ∀ H' p xs, Same H H' → H p = none → H' p = some (.lst xs) → xs.length = sz c → Q (.ref p) H'
theorem ok_all0 {f : Addr} {fd : FuncData} {k : Nat} (F : Fun K "all_statements" "all_statements" sAll f fd) : FnOk P w K mg base CX0 (k + 1) f fd ["statements"] (spAll K 0) :=
  F.ok scAll (fun _ _ _ _ h => h.elim) (fun _ _ _ _ _ _ _ _ _ h => h.elim)
theorem dp_if {G : Hp} {v : V} {n : Nat} {a b : List PyData} (h : Dp K G v (.tuple (dCf n a b))) : ∃ p vt va vb, v = .ref p ∧ SqT K G p [.str "if", vt, va, vb] ∧ Dp K G vt (.tuple (dTest n)) ∧ Dp K G va (.list a) ∧ Dp K G vb (.list b) := by
  obtain ⟨p, xs, rfl, h1, h2⟩ := dp_tup h
  obtain ⟨v0, r, rfl, e0, h2⟩ := dpAll_cons h2
  obtain ⟨v1, r, rfl, e1, h2⟩ := dpAll_cons h2
  obtain ⟨v2, r, rfl, e2, h2⟩ := dpAll_cons h2
  obtain ⟨v3, r, rfl, e3, h2⟩ := dpAll_cons h2
  obtain rfl := dpAll_nil h2
  obtain rfl := dp_str e0
  exact ⟨p, _, _, _, rfl, h1, e1, e2, e3⟩
theorem dp_ap {G : Hp} {v : V} {t : Nat} (h : Dp K G v (.tuple (dAp t))) : ∃ p, v = .ref p ∧ SqT K G p [.str "apply", .str (tnm t)] := by
  obtain ⟨p, xs, rfl, h1, h2⟩ := dp_tup h
  obtain ⟨v0, r, rfl, e0, h2⟩ := dpAll_cons h2
  obtain ⟨v1, r, rfl, e1, h2⟩ := dpAll_cons h2
  obtain rfl := dpAll_nil h2
  obtain rfl := dp_str e0
  obtain rfl := dp_str e1
  exact ⟨p, rfl, h1⟩
theorem drop_data {c ci : Ct} {i : Nat} {d : PyData} (h : dataC ci = (dataC c).drop i) (e : (dataC c)[i]? = some d) : (∃ t r, ci = .ap t r ∧ d = .tuple (dAp t) ∧ dataC r = (dataC c).drop (i + 1)) ∨
    ∃ n a b r, ci = .cf n a b r ∧ d = .tuple (dCf n (dataC a) (dataC b)) ∧ dataC r = (dataC c).drop (i + 1) := by
  have hl : i < (dataC c).length := by
    rcases Nat.lt_or_ge i (dataC c).length with h | h
    · exact h
    · rw [List.getElem?_eq_none h] at e
      cases e
  rw [List.drop_eq_getElem_cons hl] at h
  rw [List.getElem?_eq_getElem hl] at e
  cases e
  cases ci with
  | nil => cases h
  | ap t r => exact .inl ⟨t, r, rfl, ((List.cons.inj h).1).symm, (List.cons.inj h).2⟩
  | cf n a b r => exact .inr ⟨n, a, b, r, rfl, ((List.cons.inj h).1).symm, (List.cons.inj h).2⟩
theorem ok_allS {f : Addr} {fd : FuncData} {d : Nat} (F : Fun K "all_statements" "all_statements" sAll f fd) (D : Df P w K mg base CX0 (d + 1) "all_statements" ["statements"] (spAll K d)) : FnOk P w K mg base CX0 (d + 2) f fd ["statements"] (spAll K (d + 1)) := by
  obtain ⟨fA, fdA, GA, gA, kA, bA⟩ := D.ex
  refine F.ok scAll (fun vs H Q E h => ?_) (fun cdv A outer s H vs Q E hr h => ?_)
  · obtain ⟨v, G, c, rfl, _⟩ := h
    rfl
  · obtain ⟨v, G, c, rfl, sG, hD, hd, hz, q⟩ := h
    have nd := scAll.nd
    refine ⟨_, pss_cons (ps_set (i := 1) nd rfl (.inl rfl) (pe_lst pa_nil))
      (pss_cons (ps_for PassesOwn.never rfl (pi_list (pv 0)) (pg_name (i := 2) nd rfl (.inl rfl))
        (pss_cons (ps_expr (pe_bm PySem.F.plainAttrs_list PySem.F.slot_list_append PySem.F.type_list_append mt_append (pv 1) (pa_cons (pv 2) pa_nil)))
        (pss_one (ps_if (pt_cmpR op_eq (pe_ix ix_tup (pv 2) pe_int (fun _ _ => rfl)) pe_str (nomark _))
          (pss_cons (ps_expr (pe_bm PySem.F.plainAttrs_list PySem.F.slot_list_extend PySem.F.type_list_extend mt_extend (pv 1) (pa_cons (pe_call GA hr (by rfl) gA kA bA .nil pass0 (pa_cons (pe_ix ix_tup (pv 2) pe_int (fun _ _ => rfl)) pa_nil)) pa_nil)))
          (pss_one (ps_expr (pe_bm PySem.F.plainAttrs_list PySem.F.slot_list_extend PySem.F.type_list_extend mt_extend (pv 1) (pa_cons (pe_call GA hr (by rfl) gA kA bA .nil pass0 (pa_cons (pe_ix ix_tup (pv 2) pe_int (fun _ _ => rfl)) pa_nil)) pa_nil))))) pss_nil))))
      (pss_one (ps_ret (pv 1)))), ?_⟩
    obtain ⟨pc, xs, rfl, h1, h2⟩ := dp_lst hD
    have hl := dpAll_len h2
    have hdl := data_len c
    refine ⟨by show 0 ≤ sizeLine; exact Nat.zero_le _, fun p hp => ?_⟩
    have hG : G p = none := sG.free hp
    refine ⟨_, rfl, pc, rfl, ⟨_, (same_new hp).seq (sqL_sub sG h1)⟩, for_list (K := K) (a := pc) (xs := xs) (fun i σ H2 => Same H H2 ∧ ∃ o ci fs, σ = [some (.ref pc), some (.ref p), o] ∧ H2 p = some (.lst fs) ∧ dataC ci = (dataC c).drop i ∧ dpt ci ≤ d ∧ fs.length + sz ci = sz c)
      ⟨same_new hp, none, c, [], rfl, upd_same, rfl, hd, Nat.zero_add _⟩ (fun i σ H2 _ h => h.1.seq (sqL_sub sG h1)) ?_ ?_⟩
    · rintro i y σ H2 hi ⟨sm, o, ci, fs, rfl, hp2, hci, hdi, hs⟩
      obtain ⟨dd, ed, hdd⟩ := dpAll_val h2 hi
      have put : ∀ {H3 : Hp} {zs : List V}, Same H H3 → Same H (upd H3 p (.lst zs)) := fun k => same_set k hp
      refine ⟨.ref p, rfl, .inl ⟨rfl, _, SqL.of hp2⟩, _, rfl, p, _, _, rfl, rfl, hp2, small1000 (by omega), ?_⟩
      have s3 := put (zs := fs ++ [y]) sm
      rcases drop_data hci ed with ⟨t, r, rfl, rfl, hr'⟩ | ⟨n, a, b, r, rfl, rfl, hr'⟩
      · obtain ⟨pt, rfl, g1⟩ := dp_ap hdd
        refine ⟨_, rfl, pt, _, _, _, rfl, rfl, sqT_sub (sG.trans s3) g1, atI_nat (j := 0) rfl, rfl, _, rfl, ?_⟩
        rw [dcStr]
        refine iteDF (by decide +kernel) ?_
        refine ⟨s3, _, r, _, rfl, upd_same, hr', hdi, ?_⟩
        show (fs ++ [V.ref pt]).length + sz r = sz c
        rw [List.length_append]
        show fs.length + 1 + _ = _
        have : fs.length + (sz r + 1) = sz c := hs
        omega
      · obtain ⟨pt, vt, va, vb, rfl, g1, g2, g3, g4⟩ := dp_if hdd
        have hd2 : max (max (dpt a) (dpt b) + 1) (dpt r) ≤ d := hdi
        obtain ⟨d', rfl⟩ : ∃ d', d = d' + 1 := ⟨d - 1, by omega⟩
        have hs' : fs.length + (sz a + sz b + sz r + 1) = sz c := hs
        refine ⟨_, rfl, pt, _, _, _, rfl, rfl, sqT_sub (sG.trans s3) g1, atI_nat (j := 0) rfl, rfl, _, rfl, ?_⟩
        rw [dcStr]
        refine iteDT rfl ?_
        have e3 : (upd H2 p (.lst (fs ++ [.ref pt]))) p = some (.lst (fs ++ [.ref pt])) := upd_same
        refine ⟨.ref p, rfl, .inl ⟨rfl, _, SqL.of e3⟩, _, rfl, pt, _, _, _, rfl, rfl, sqT_sub (sG.trans s3) g1, atI_nat (j := 2) rfl, va, G, a, rfl, sG.trans s3, g3, by omega, by omega, fun H4 p4 x4 s4 n4 e4 l4 => ?_⟩
        have e5 := s4 _ _ e3
        refine ⟨p, p4, _, _, rfl, rfl, e5, e4, ?_, ?_⟩
        · rw [List.length_append, sizeLine_eq]
          show fs.length + 1 + _ ≤ _
          omega
        have s5 := put (zs := fs ++ [.ref pt] ++ x4) (s3.trans s4)
        have e6 : (upd H4 p (.lst (fs ++ [.ref pt] ++ x4))) p = some (.lst (fs ++ [.ref pt] ++ x4)) := upd_same
        refine ⟨.ref p, rfl, .inl ⟨rfl, _, SqL.of e6⟩, _, rfl, pt, _, _, _, rfl, rfl, sqT_sub (sG.trans s5) g1, atI_nat (j := 3) rfl, vb, G, b, rfl, sG.trans s5, g4, by omega, by omega, fun H7 p7 x7 s7 n7 e7 l7 => ?_⟩
        refine ⟨p, p7, _, _, rfl, rfl, s7 _ _ e6, e7, ?_, ?_⟩
        · rw [List.length_append, List.length_append, sizeLine_eq]
          show fs.length + 1 + _ + _ ≤ _
          omega
        refine ⟨put (s5.trans s7), _, r, _, rfl, upd_same, hr', by omega, ?_⟩
        rw [List.length_append, List.length_append, List.length_append]
        show fs.length + 1 + _ + _ + _ = _
        omega
    · rintro σ H2 ⟨sm, o, ci, fs, rfl, hp2, hci, hdi, hs⟩
      rw [hl, List.drop_length] at hci
      cases ci with
      | nil => exact ⟨_, rfl, q H2 p fs sm hp hp2 hs⟩
      | ap t r => cases hci
      | cf n a b r => cases hci
abbrev NPl : List Str := ["test", "turned"]
theorem scPlain : FnScope NPl ["test"] (defScope sPlain) := ⟨rfl, rfl, rfl, by decide +kernel, rfl, by decide +kernel, by decide +kernel⟩
def spPlain (K : PySem.W.Frag) : Sp := fun vs H Q _ => ∃ (v : V) (G : Hp) (n : Nat), vs = [v] ∧ Same G H ∧ Dp K G v (.tuple (dTest n)) ∧ ∀ H' p, Same H H' → H p = none → H' p = some (.tup [v, .bl false]) → Q (.ref p) H'
theorem dp_test {G : Hp} {v : V} {n : Nat} (h : Dp K G v (.tuple (dTest n))) : ∃ p vf, v = .ref p ∧ SqT K G p [.str "<", vf, .int (n : Nat)] ∧ Dp K G vf portD := by
  obtain ⟨p, xs, rfl, h1, h2⟩ := dp_tup h
  obtain ⟨v0, r, rfl, e0, h2⟩ := dpAll_cons h2
  obtain ⟨v1, r, rfl, e1, h2⟩ := dpAll_cons h2
  obtain ⟨v2, r, rfl, e2, h2⟩ := dpAll_cons h2
  obtain rfl := dpAll_nil h2
  obtain rfl := dp_str e0
  obtain rfl := dp_int e2
  exact ⟨p, v1, rfl, h1, e1⟩
theorem ok_plain {f : Addr} {fd : FuncData} {k : Nat} (F : Fun K "plain_test" "plain_test" sPlain f fd) : FnOk P w K mg base CX0 (k + 1) f fd ["test"] (spPlain K) := by
  refine F.ok scPlain (fun vs H Q E h => ?_) (fun cdv A outer s H vs Q E hr h => ?_)
  · obtain ⟨v, G, n, rfl, _⟩ := h
    rfl
  · obtain ⟨v, G, n, rfl, sG, hD, q⟩ := h
    have nd := scPlain.nd
    refine ⟨_, pss_cons (ps_set (i := 1) nd rfl (.inl rfl) pe_bl)
      (pss_cons (ps_while PassesOwn.never (pt_cmpR op_eq (pe_ix ix_tup (pv 0) pe_int (fun _ _ => rfl)) pe_str (nomark _)) pss_never)
      (pss_one (ps_ret (pe_tup (pa_cons (pv 0) (pa_cons (pv 1) pa_nil)))))), ?_⟩
    obtain ⟨p, vf, rfl, h1, h2⟩ := dp_test hD
    refine ⟨fun m σ H' => m = 0 ∧ σ = [some (.ref p), some (.bl false)] ∧ H' = H, ⟨0, rfl, rfl, rfl⟩, ?_⟩
    rintro m σ H' ⟨rfl, rfl, rfl⟩
    refine ⟨_, rfl, p, _, _, _, rfl, rfl, sqT_sub sG h1, atI_nat (j := 0) rfl, rfl, _, rfl, ?_⟩
    rw [dcStr]
    refine iteDF (by decide +kernel) ?_
    exact ⟨_, rfl, _, rfl, by show 2 ≤ sizeLine; decide, fun t ht => q _ t (same_new ht) ht upd_same⟩
end
end Pk
set_option Elab.async false
set_option linter.all false
set_option maxRecDepth 100000
set_option maxHeartbeats 4000000
namespace Pk
open PySem PySem.Spec PyProof.Rows L2
theorem room65 {k : Nat} {A : Around} (r : Room k A) : A.units + 65 < cLine := by
  have := r.un
  omega
section
variable {P : Program} {w : World} {K : PySem.W.Frag} {mg : Str → Option Value} {base : Heap}
abbrev NCe : List Str := ["program", "cells", "_", "header", "fields", "name", "width"]
theorem scCells : FnScope NCe ["program"] (defScope sCells) := ⟨rfl, rfl, rfl, by decide +kernel, rfl, by decide +kernel, by decide +kernel⟩
theorem scIndex : FnScope ["program", "place", "other", "_"] ["program", "place"] (defScope sIndex) := ⟨rfl, rfl, rfl, by decide +kernel, rfl, by decide +kernel, by decide +kernel⟩
theorem scCell : FnScope ["program", "field"] ["program", "field"] (defScope sCell) := ⟨rfl, rfl, rfl, by decide +kernel, rfl, by decide +kernel, by decide +kernel⟩
theorem scWidths : FnScope ["program", "width", "_"] ["program"] (defScope sWidths) := ⟨rfl, rfl, rfl, by decide +kernel, rfl, by decide +kernel, by decide +kernel⟩
theorem scFirst : FnScope ["statements", "first", "after"] ["statements", "first", "after"] (defScope sFirst) := ⟨rfl, rfl, rfl, by decide +kernel, rfl, by decide +kernel, by decide +kernel⟩
theorem scFollow : FnScope ["node", "goals", "goal"] ["node"] (defScope sFollow) := ⟨rfl, rfl, rfl, by decide +kernel, rfl, by decide +kernel, by decide +kernel⟩
theorem scTestN : FnScope ["program", "test", "yes", "no", "inner", "turned", "sign", "field", "number"] ["program", "test", "yes", "no"] (defScope sTestN) := ⟨rfl, rfl, rfl, by decide +kernel, rfl, by decide +kernel, by decide +kernel⟩
theorem scTableN : FnScope ["program", "name", "after", "tables", "_", "keys", "compiled", "field", "kind"] ["program", "name", "after"] (defScope sTableN) := ⟨rfl, rfl, rfl, by decide +kernel, rfl, by decide +kernel, by decide +kernel⟩
def spCells (K : PySem.W.Frag) : Sp := fun vs H Q _ => ∃ (v : V) (G : Hp) (c : Ct), vs = [v] ∧ Same G H ∧ Dp K G v (.tuple (progL c)) ∧
  ∀ H' p t1 t2 po, Same H H' → H p = none → H' p = some (.lst [.ref t1, .ref t2]) → H' t1 = some (.tup [.ref po, .int 3]) → H' t2 = some (.tup [.non, .int 4]) → TupK K po [.str "packet", .str "port"] → Q (.ref p) H'
theorem ok_cells {f : Addr} {fd : FuncData} {k : Nat} (F : Fun K "cells_of" "cells_of" sCells f fd) (T : Gk K mg) (D1 : Df P w K mg base CX0 (k + 1) "headers_of" ["program"] (spAcc K 2)) (D2 : Df P w K mg base CX0 (k + 1) "meta_of" ["program"] (spAcc K 3)) : FnOk P w K mg base CX0 (k + 2) f fd ["program"] (spCells K) := by
  obtain ⟨f1, fd1, G1, g1, k1, b1⟩ := D1.ex
  obtain ⟨f2, fd2, G2, g2, k2, b2⟩ := D2.ex
  obtain ⟨po, gp, tp⟩ := T.PORT
  obtain ⟨uw, gw, rw_⟩ := T.PW
  obtain ⟨uo, go, ro⟩ := T.OW
  refine F.ok scCells (fun vs H Q E h => ?_) (fun cdv A outer s H vs Q E hr h => ?_)
  · obtain ⟨v, G, c, rfl, _⟩ := h
    rfl
  · obtain ⟨v, G, c, rfl, sG, hD, q⟩ := h
    have nd := scCells.nd
    refine ⟨_, pss_cons (ps_set (i := 1) nd rfl (.inl rfl) (pe_lst (pa_cons (pe_tup (pa_cons (pe_glob (v := .ref po) rfl gp rfl) (pa_cons (pe_glob rfl gw rw_) pa_nil))) (pa_cons (pe_tup (pa_cons pe_non (pa_cons (pe_glob rfl go ro) pa_nil))) pa_nil))))
      (pss_cons (ps_for PassesOwn.never rfl (pi_list (pe_call G1 hr (by rfl) g1 k1 b1 .nil pass0 (pa_cons (pv 0) pa_nil))) (pg_tup rfl (pgs_cons (pg_name (i := 2) nd rfl (.inl rfl)) (pgs_cons (pg_name (i := 3) nd rfl (.inl rfl)) (pgs_cons (pg_name (i := 4) nd rfl (.inl rfl)) pgs_nil)))) pss_never)
      (pss_cons (ps_for PassesOwn.never rfl (pi_list (pe_call G2 hr (by rfl) g2 k2 b2 .nil pass0 (pa_cons (pv 0) pa_nil))) (pg_tup rfl (pgs_cons (pg_name (i := 5) nd rfl (.inl rfl)) (pgs_cons (pg_name (i := 6) nd rfl (.inl rfl)) pgs_nil))) pss_never)
      (pss_one (ps_ret (pv 1))))), ?_⟩
    refine ⟨by show 2 ≤ sizeLine; decide, fun t1 ht1 => ⟨by show 2 ≤ sizeLine; decide, fun t2 ht2 => ⟨by show 2 ≤ sizeLine; decide, fun p hp => ?_⟩⟩⟩
    have s1 := same_new (o := .tup [V.ref po, .int 3]) ht1
    have s2 := same_new (o := .tup [V.non, .int 4]) ht2
    have s3 := same_new (o := .lst [V.ref t1, .ref t2]) hp
    have e1 := s3 _ _ (s2 _ _ (upd_same (H := H) (a := t1) (o := .tup [V.ref po, .int 3])))
    have e2 := s3 _ _ (upd_same (H := upd H t1 (.tup [V.ref po, .int 3])) (a := t2) (o := .tup [V.non, .int 4]))
    have e3 : (upd (upd (upd H t1 (.tup [V.ref po, .int 3])) t2 (.tup [V.non, .int 4])) p (.lst [V.ref t1, .ref t2])) p = _ := upd_same
    have sm := (s1.trans s2).trans s3
    have hpn : H p = none := (s1.trans s2).free hp
    generalize upd (upd (upd H t1 (.tup [V.ref po, .int 3])) t2 (.tup [V.non, .int 4])) p (.lst [V.ref t1, .ref t2]) = H3 at e1 e2 e3 sm ⊢
    refine ⟨_, rfl, v, G, _, .list [], rfl, sG.trans sm, hD, rfl, fun x hx => ?_⟩
    obtain ⟨ph, xs, rfl, h1, h2⟩ := dp_lst hx
    obtain rfl := dpAll_nil h2
    refine ⟨ph, rfl, ⟨_, sqL_sub (sG.trans sm) h1⟩, for_list (K := K) (a := ph) (xs := []) (fun i σ H2 => H2 = H3 ∧ σ = [some v, some (.ref p), none, none, none, none, none]) ⟨rfl, rfl⟩ (fun i σ H2 _ h => by rw [h.1]; exact sqL_sub (sG.trans sm) h1) (fun i y σ H2 hi _ => by cases hi) ?_⟩
    rintro σ H2 ⟨rfl, rfl⟩
    refine ⟨_, rfl, v, G, _, .list [], rfl, sG.trans sm, hD, rfl, fun x hx => ?_⟩
    obtain ⟨ph, xs, rfl, h1, h2⟩ := dp_lst hx
    obtain rfl := dpAll_nil h2
    refine ⟨ph, rfl, ⟨_, sqL_sub (sG.trans sm) h1⟩, for_list (K := K) (a := ph) (xs := []) (fun i σ H3 => H3 = H2 ∧ σ = [some v, some (.ref p), none, none, none, none, none]) ⟨rfl, rfl⟩ (fun i σ H3 _ h => by rw [h.1]; exact sqL_sub (sG.trans sm) h1) (fun i y σ H2 hi _ => by cases hi) ?_⟩
    rintro σ H3 ⟨rfl, rfl⟩
    exact ⟨_, rfl, q H3 p t1 t2 po sm hpn e3 e1 e2 tp⟩
def spIndex (K : PySem.W.Frag) : Sp := fun vs H Q _ => ∃ (v u : V) (G : Hp) (c : Ct), vs = [v, u] ∧ Same G H ∧ Dp K G v (.tuple (progL c)) ∧ Dp K G u portD ∧ ∀ H', Same H H' → Q (.int 0) H'
theorem dp_port {H : Hp} {po : Addr} (tp : TupK K po [.str "packet", .str "port"]) : Dp K H (.ref po) portD := .tup (tp.at H) (.cons (.str _) (.cons (.str _) .nil))
theorem ok_index {f : Addr} {fd : FuncData} {k : Nat} (F : Fun K "index_of" "index_of" sIndex f fd) (D1 : Df P w K mg base CX0 (k + 2) "cells_of" ["program"] (spCells K)) : FnOk P w K mg base CX0 (k + 3) f fd ["program", "place"] (spIndex K) := by
  obtain ⟨f1, fd1, G1, g1, k1, b1⟩ := D1.ex
  refine F.ok scIndex (fun vs H Q E h => ?_) (fun cdv A outer s H vs Q E hr h => ?_)
  · obtain ⟨v, u, G, c, rfl, _⟩ := h
    rfl
  · obtain ⟨v, u, G, c, rfl, sG, hD, hu, q⟩ := h
    have nd := scIndex.nd
    refine ⟨_, pss_one (ps_ret (pe_bm PySem.F.plainAttrs_list PySem.F.slot_list_index PySem.F.type_list_index (mt_indexD (room65 hr))
      (pe_lc (own := [("other", 2), ("_", 3)]) (g := gTup K 2 (gCons (gName 2) (gCons (gName 3) gNil))) (tt := tYes) rfl nd (pi_list (pe_call G1 hr (by rfl) g1 k1 b1 .nil pass0 (pa_cons (pv 0) pa_nil))) (blkOk_by (N := ["program", "place", "other", "_"]) (sc := defScope sIndex) (by decide +kernel))
        (fun _ _ _ _ _ => pg_tup rfl (pgs_cons (pg_name (i := 2) nd rfl (Or.inl rfl)) (pgs_cons (pg_name (i := 3) nd rfl (Or.inl rfl)) pgs_nil))) (fun _ _ _ _ _ => pts_nil) (fun _ _ _ _ _ => pv 2))
      (pa_cons (pv 1) pa_nil))), ?_⟩
    refine ⟨_, rfl, v, G, c, rfl, sG, hD, fun H1 p t1 t2 po s1 np e1 e2 e3 tp => ⟨p, rfl, ⟨_, SqL.of e1⟩, fun D hD1 => ?_⟩⟩
    refine lc_list (K := K) (a := p) (xs := [.ref t1, .ref t2]) (fun i H2 => Same H1 H2 ∧ H2 D = some (.lst (([V.ref po, .non] : List V).take i))) ⟨same_new hD1, upd_same⟩ (fun i H2 _ h => h.1.seq (SqL.of e1)) ?_ ?_
    · rintro i y H2 hi ⟨sm, e4⟩
      have fin : ∀ {x : V}, ([V.ref po, .non] : List V)[i]? = some x → (∃ acc, H2 D = some (.lst acc) ∧ acc.length < sizeLine ∧ Same H1 (upd H2 D (.lst (acc ++ [x]))) ∧ (upd H2 D (.lst (acc ++ [x]))) D = some (.lst (([V.ref po, .non] : List V).take (i + 1)))) := by
        intro x hx
        refine ⟨_, e4, ?_, same_set sm hD1, ?_⟩
        · rw [List.length_take]
          exact small1000 (by show min i 2 ≤ _; omega)
        · rw [upd_same, List.take_add_one, hx]
          rfl
      match i, hi with
      | 0, hi =>
        cases hi
        exact ⟨t1, _, rfl, SqT.of (sm _ _ e2), rfl, _, _, rfl, _, _, rfl, rfl, rfl, _, rfl, fin rfl⟩
      | 1, hi =>
        cases hi
        exact ⟨t2, _, rfl, SqT.of (sm _ _ e3), rfl, _, _, rfl, _, _, rfl, rfl, rfl, _, rfl, fin rfl⟩
      | i + 2, hi => cases hi
    · rintro H2 ⟨sm, e4⟩
      refine ⟨.inl ⟨rfl, _, SqL.of e4⟩, _, rfl, D, u, portD, [portD, .none], 0, portD, rfl, rfl, .lst (SqL.of e4) (.cons (dp_port tp) (.cons .non .nil)), dp_sub (sG.trans (s1.trans sm)) hu, by decide +kernel, by decide +kernel, rfl, by decide +kernel, fun m z' hm => absurd hm (Nat.not_lt_zero _), q _ (s1.trans sm)⟩
theorem ok_cell {f : Addr} {fd : FuncData} {k : Nat} (F : Fun K "cell_of" "cell_of" sCell f fd) (D1 : Df P w K mg base CX0 (k + 3) "index_of" ["program", "place"] (spIndex K)) : FnOk P w K mg base CX0 (k + 4) f fd ["program", "field"] (spIndex K) := by
  obtain ⟨f1, fd1, G1, g1, k1, b1⟩ := D1.ex
  refine F.ok scCell (fun vs H Q E h => ?_) (fun cdv A outer s H vs Q E hr h => ?_)
  · obtain ⟨v, u, G, c, rfl, _⟩ := h
    rfl
  · obtain ⟨v, u, G, c, rfl, sG, hD, hu, q⟩ := h
    exact ⟨_, pss_one (ps_ret (pe_call G1 hr (by rfl) g1 k1 b1 .nil pass0 (pa_cons (pv 0) (pa_cons (pv 1) pa_nil)))), ⟨_, rfl, _, rfl, v, u, G, c, rfl, sG, hD, hu, q⟩⟩
def spWidths (K : PySem.W.Frag) : Sp := fun vs H Q _ => ∃ (v : V) (G : Hp) (c : Ct), vs = [v] ∧ Same G H ∧ Dp K G v (.tuple (progL c)) ∧ ∀ H' p, Same H H' → H p = none → H' p = some (.lst [.int 3, .int 4]) → Q (.ref p) H'
theorem ok_widths {f : Addr} {fd : FuncData} {k : Nat} (F : Fun K "widths" "widths" sWidths f fd) (D1 : Df P w K mg base CX0 (k + 2) "cells_of" ["program"] (spCells K)) : FnOk P w K mg base CX0 (k + 3) f fd ["program"] (spWidths K) := by
  obtain ⟨f1, fd1, G1, g1, k1, b1⟩ := D1.ex
  refine F.ok scWidths (fun vs H Q E h => ?_) (fun cdv A outer s H vs Q E hr h => ?_)
  · obtain ⟨v, G, c, rfl, _⟩ := h
    rfl
  · obtain ⟨v, G, c, rfl, sG, hD, q⟩ := h
    have nd := scWidths.nd
    refine ⟨_, pss_one (ps_ret (pe_lc (own := [("width", 1), ("_", 2)]) (g := gTup K 2 (gCons (gName 2) (gCons (gName 1) gNil))) (tt := tYes) rfl nd (pi_list (pe_call G1 hr (by rfl) g1 k1 b1 .nil pass0 (pa_cons (pv 0) pa_nil))) (blkOk_by (N := ["program", "width", "_"]) (sc := defScope sWidths) (by decide +kernel))
        (fun _ _ _ _ _ => pg_tup rfl (pgs_cons (pg_name (i := 2) nd rfl (Or.inl rfl)) (pgs_cons (pg_name (i := 1) nd rfl (Or.inl rfl)) pgs_nil))) (fun _ _ _ _ _ => pts_nil) (fun _ _ _ _ _ => pv 1))), ?_⟩
    refine ⟨_, rfl, v, G, c, rfl, sG, hD, fun H1 p t1 t2 po s1 np e1 e2 e3 tp => ⟨p, rfl, ⟨_, SqL.of e1⟩, fun D hD1 => ?_⟩⟩
    refine lc_list (K := K) (a := p) (xs := [.ref t1, .ref t2]) (fun i H2 => Same H1 H2 ∧ H2 D = some (.lst (([V.int 3, .int 4] : List V).take i))) ⟨same_new hD1, upd_same⟩ (fun i H2 _ h => h.1.seq (SqL.of e1)) ?_ ?_
    · rintro i y H2 hi ⟨sm, e4⟩
      have fin : ∀ {x : V}, ([V.int 3, .int 4] : List V)[i]? = some x → (∃ acc, H2 D = some (.lst acc) ∧ acc.length < sizeLine ∧ Same H1 (upd H2 D (.lst (acc ++ [x]))) ∧ (upd H2 D (.lst (acc ++ [x]))) D = some (.lst (([V.int 3, .int 4] : List V).take (i + 1)))) := by
        intro x hx
        refine ⟨_, e4, ?_, same_set sm hD1, ?_⟩
        · rw [List.length_take]
          exact small1000 (by show min i 2 ≤ _; omega)
        · rw [upd_same, List.take_add_one, hx]
          rfl
      match i, hi with
      | 0, hi =>
        cases hi
        exact ⟨t1, _, rfl, SqT.of (sm _ _ e2), rfl, _, _, rfl, _, _, rfl, rfl, rfl, _, rfl, fin rfl⟩
      | 1, hi =>
        cases hi
        exact ⟨t2, _, rfl, SqT.of (sm _ _ e3), rfl, _, _, rfl, _, _, rfl, rfl, rfl, _, rfl, fin rfl⟩
      | i + 2, hi => cases hi
    · rintro H2 ⟨sm, e4⟩
      exact q _ D (s1.trans sm) (s1.free hD1) e4
end
end Pk
set_option Elab.async false
set_option linter.all false
set_option maxRecDepth 100000
set_option maxHeartbeats 4000000
namespace Pk
open PySem PySem.Spec PyProof.Rows L2
theorem ints_at {l : List Int} {i : Nat} (h : i < l.length) : (l.map V.int)[i]? = some (.int (nth l i)) := by
  rw [List.getElem?_map]
  unfold nth
  rw [List.getElem?_eq_getElem h]
  rfl
theorem ix_at {l : List V} {g : Int} (h0 : 0 ≤ g) (h : g.toNat < l.length) : ixN l.length g = some g.toNat := by
  unfold ixN
  rw [if_pos h0, if_pos (by omega)]
theorem max_is {a b : Int} : (if b > a then b else a) = max a b := by
  by_cases h : b > a
  · rw [if_pos h]
    omega
  · rw [if_neg h]
    omega
section
variable {P : Program} {w : World} {K : PySem.W.Frag} {mg : Str → Option Value} {base : Heap}
def spFirst (K : PySem.W.Frag) : Sp := fun vs H Q _ => ∃ (v : V) (G : Hp) (c : Ct) (f : Nat) (a : Int), vs = [v, .int f, .int a] ∧ Same G H ∧ Dp K G v (.list (dataC c)) ∧ Q (.int (firstOf c f a)) H
theorem ok_first {f : Addr} {fd : FuncData} {k : Nat} (F : Fun K "first_of" "first_of" sFirst f fd) : FnOk P w K mg base CX0 (k + 1) f fd ["statements", "first", "after"] (spFirst K) := by
  refine F.ok scFirst (fun vs H Q E h => ?_) (fun cdv A outer s H vs Q E hr h => ?_)
  · obtain ⟨v, G, c, f, a, rfl, _⟩ := h
    rfl
  · obtain ⟨v, G, c, f, a, rfl, sG, hD, q⟩ := h
    refine ⟨_, pss_cons (ps_if (pt_truth (pv 0) (by intro _; rfl)) (pss_one (ps_ret (pv 1))) pss_nil) (pss_one (ps_ret (pv 2))), ?_⟩
    obtain ⟨p, xs, rfl, h1, h2⟩ := dp_lst hD
    refine ⟨_, rfl, !xs.isEmpty, .inl ⟨xs, sqL_sub sG h1, rfl⟩, ?_⟩
    cases c with
    | nil =>
      obtain rfl := dpAll_nil h2
      exact iteF ⟨_, rfl, q⟩
    | ap t r =>
      obtain ⟨_, _, rfl, _⟩ := dpAll_cons h2
      exact iteT ⟨_, rfl, q⟩
    | cf n x y r =>
      obtain ⟨_, _, rfl, _⟩ := dpAll_cons h2
      exact iteT ⟨_, rfl, q⟩
def spFollow (K : PySem.W.Frag) : Sp := fun vs H Q _ => ∃ (v : V) (G : Hp) (nd : Nd), vs = [v] ∧ Same G H ∧ Dp K G v (.tuple (dN nd)) ∧ ∀ H' p, Same H H' → H p = none → H' p = some (.lst ((goals nd).map V.int)) → Q (.ref p) H'
theorem ok_follow {f : Addr} {fd : FuncData} {k : Nat} (F : Fun K "followers_of" "followers_of" sFollow f fd) (T : Gk K mg) : FnOk P w K mg base CX0 (k + 1) f fd ["node"] (spFollow K) := by
  obtain ⟨uE, gE, rE⟩ := T.END
  refine F.ok scFollow (fun vs H Q E h => ?_) (fun cdv A outer s H vs Q E hr h => ?_)
  · obtain ⟨v, G, nd, rfl, _⟩ := h
    rfl
  · obtain ⟨v, G, node, rfl, sG, hD, q⟩ := h
    have nd := scFollow.nd
    refine ⟨_, pss_cons (ps_if (pt_cmpR op_eq (pe_ix ix_tup (pv 0) pe_int (fun _ _ => rfl)) pe_str (nomark _)) (pss_one (ps_set (i := 1) nd rfl (.inl rfl) (pe_lst (pa_cons (pe_ix ix_tup (pv 0) pe_int (fun _ _ => rfl)) pa_nil))))
        (pss_one (ps_set (i := 1) nd rfl (.inl rfl) (pe_lst (pa_cons (pe_ix ix_tup (pv 0) pe_int (fun _ _ => rfl)) (pa_cons (pe_ix ix_tup (pv 0) pe_int (fun _ _ => rfl)) pa_nil))))))
      (pss_one (ps_ret (pe_lc (own := [("goal", 2)]) (g := gName 2) rfl nd (pi_list (pv 1)) (blkOk_by (N := ["node", "goals", "goal"]) (sc := defScope sFollow) (by decide +kernel)) (fun _ _ _ _ _ => pg_name (i := 2) nd rfl (Or.inl rfl))
        (fun _ _ _ _ _ => pts_one (pt_cmpR op_ne (pv 2) (pe_glob rfl gE rE) (nomark _))) (fun _ _ _ _ _ => pv 2)))), ?_⟩
    obtain ⟨pn, xs, rfl, h1, h2⟩ := dp_tup hD
    have h1' := sqT_sub sG h1
    have fin : ∀ (gs : List Int) (H1 : Hp) (pg : Addr), Same H H1 → H1 pg = some (.lst (gs.map V.int)) → gs.length ≤ 2 → gs.filter (· ≠ -1) = goals node →
        tRet (tLc (iList K (tVar 1)) (gName 2) (tTest (tOp rNe (tVar 2) (tC (.int (-1))))) (tVar 2) [2]) { nx := fun _ H' => Q .non H', rt := Q } [some (.ref pn), some (.ref pg), none] H1 := by
      intro gs H1 pg s1 e1 hl hg
      refine ⟨_, rfl, pg, rfl, ⟨_, SqL.of e1⟩, fun D hD1 => lc_list (K := K) (a := pg) (xs := gs.map V.int) (fun i H2 => Same H1 H2 ∧ H2 D = some (.lst (((gs.take i).filter (· ≠ -1)).map V.int))) ⟨same_new hD1, upd_same⟩ (fun i H2 _ h => h.1.seq (SqL.of e1)) ?_ ?_⟩
      · rintro i y H2 hi ⟨sm, e2⟩
        obtain ⟨z, hz, rfl⟩ := map_at hi
        refine ⟨rfl, _, rfl, rfl, _, rfl, ?_⟩
        have et : gs.take (i + 1) = gs.take i ++ [z] := by
          rw [List.take_add_one, hz]
          rfl
        by_cases hne : z = -1
        · subst hne
          rw [decide_eq_true rfl]
          refine iteF ⟨sm, ?_⟩
          rw [e2, et, List.filter_append]
          simp
        · rw [decide_eq_false (fun h => hne (V.int.inj h))]
          refine iteT ⟨_, rfl, _, e2, ?_, same_set sm hD1, ?_⟩
          · have := List.length_filter_le (· ≠ -1) (gs.take i)
            rw [List.length_take] at this
            rw [List.length_map]
            exact small1000 (by omega)
          · rw [upd_same, et, List.filter_append, List.map_append]
            simp [hne]
      · rintro H2 ⟨sm, e2⟩
        rw [List.length_map, List.take_length, hg] at e2
        exact q H2 D (s1.trans sm) (s1.free hD1) e2
    cases node with
    | tb t x =>
      obtain ⟨v0, r, rfl, e0, h2⟩ := dpAll_cons h2
      obtain ⟨v1, r, rfl, e1, h2⟩ := dpAll_cons h2
      obtain ⟨v2, r, rfl, e2, h2⟩ := dpAll_cons h2
      obtain ⟨v3, r, rfl, e3, h2⟩ := dpAll_cons h2
      obtain rfl := dpAll_nil h2
      obtain rfl := dp_str e0
      obtain rfl := dp_int e3
      refine ⟨_, rfl, pn, _, _, _, rfl, rfl, h1', atI_nat (j := 0) rfl, rfl, _, rfl, ?_⟩
      rw [dcStr]
      refine iteDT rfl ⟨_, rfl, pn, _, _, _, rfl, rfl, h1', atI_nat (j := 3) rfl, (by show 1 ≤ sizeLine; decide), fun pg hpg => ?_⟩
      exact fin [x] _ pg (same_new hpg) upd_same (by show 1 ≤ 2; decide) rfl
    | ts n y z =>
      obtain ⟨v0, r, rfl, e0, h2⟩ := dpAll_cons h2
      obtain ⟨v1, r, rfl, e1, h2⟩ := dpAll_cons h2
      obtain ⟨v2, r, rfl, e2, h2⟩ := dpAll_cons h2
      obtain ⟨v3, r, rfl, e3, h2⟩ := dpAll_cons h2
      obtain ⟨v4, r, rfl, e4, h2⟩ := dpAll_cons h2
      obtain ⟨v5, r, rfl, e5, h2⟩ := dpAll_cons h2
      obtain rfl := dpAll_nil h2
      obtain rfl := dp_str e0
      obtain rfl := dp_int e4
      obtain rfl := dp_int e5
      refine ⟨_, rfl, pn, _, _, _, rfl, rfl, h1', atI_nat (j := 0) rfl, rfl, _, rfl, ?_⟩
      rw [dcStr]
      refine iteDF (by decide +kernel) ⟨_, rfl, pn, _, _, _, rfl, rfl, h1', atI_nat (j := 4) rfl, _, rfl, pn, _, _, _, rfl, rfl, h1', atI_nat (j := 5) rfl, (by show 2 ≤ sizeLine; decide), fun pg hpg => ?_⟩
      exact fin [y, z] _ pg (same_new hpg) upd_same (by show 2 ≤ 2; decide) rfl
theorem scStages : FnScope ["nodes", "found", "at", "node", "follower"] ["nodes"] (defScope sStages) := ⟨rfl, rfl, rfl, by decide +kernel, rfl, by decide +kernel, by decide +kernel⟩
def spStages (K : PySem.W.Frag) : Sp := fun vs H Q _ => ∃ (v : V) (G : Hp) (nds : List Nd), vs = [v] ∧ Same G H ∧ Dp K G v (.list (nds.map fun nd => .tuple (dN nd))) ∧ Fw nds.length 0 nds ∧ nds.length ≤ 1000 ∧
  ∀ H' p, Same H H' → H p = none → H' p = some (.lst ((pass 0 nds (zeros nds.length)).map V.int)) → Q (.ref p) H'
theorem ok_stages {f : Addr} {fd : FuncData} {k : Nat} (F : Fun K "stages" "stages" sStages f fd) (T : Gk K mg) (D : Df P w K mg base CX0 (k + 1) "followers_of" ["node"] (spFollow K)) : FnOk P w K mg base CX0 (k + 2) f fd ["nodes"] (spStages K) := by
  obtain ⟨fA, fdA, GA, gA, kA, bA⟩ := D.ex
  refine F.ok scStages (fun vs H Q E h => ?_) (fun cdv A outer s H vs Q E hr h => ?_)
  · obtain ⟨v, G, nds, rfl, _⟩ := h
    rfl
  · obtain ⟨v, G, nds, rfl, sG, hD, hF, hn, q⟩ := h
    have nd := scStages.nd
    refine ⟨_, pss_cons (ps_set (i := 1) nd rfl (.inl rfl) (pe_op op_rep (pe_lst (pa_cons pe_int pa_nil)) (pe_callB call_len_seq (by rfl) T.zLen PySem.boot_len (pa_cons (pv 0) pa_nil))))
      (pss_cons (ps_for PassesOwn.never rfl (pi_enum (by rfl) T.zEnum (pa_cons (pv 0) pa_nil)) (pg_tup rfl (pgs_cons (pg_name (i := 2) nd rfl (.inl rfl)) (pgs_cons (pg_name (i := 3) nd rfl (.inl rfl)) pgs_nil)))
        (pss_one (ps_for PassesOwn.never rfl (pi_list (pe_call GA hr (by rfl) gA kA bA .nil pass0 (pa_cons (pv 3) pa_nil))) (pg_name (i := 4) nd rfl (.inl rfl))
          (pss_one (ps_asg (pe_callB (call_max2 rfl) (by rfl) T.zMax (by decide +kernel) (pa_cons (pe_ix ix_list (pv 1) (pv 4) (fun _ _ => rfl)) (pa_cons (pe_op op_add (pe_ix ix_list (pv 1) (pv 2) (fun _ _ => rfl)) pe_int) pa_nil))) (pg_sub (pv 1) (pv 4) set_list))))))
      (pss_one (ps_ret (pv 1)))), ?_⟩
    obtain ⟨pn, xs, rfl, h1, h2⟩ := dp_lst hD
    have hl := dpAll_len h2
    rw [List.length_map] at hl
    refine ⟨by show 1 ≤ sizeLine; decide, fun p0 hp0 => ?_⟩
    have s0 := same_new (o := .lst [V.int 0]) hp0
    have e0 : (upd H p0 (.lst [V.int 0])) p0 = some (.lst [V.int 0]) := upd_same
    generalize upd H p0 (.lst [V.int 0]) = H0 at s0 e0 ⊢
    refine ⟨.ref pn, rfl, pn, _, rfl, .inl (sqL_sub (sG.trans s0) h1), p0, _, _, rfl, rfl, e0, by omega, by omega, ?_, fun pf hpf => ?_⟩
    · rw [hl, Int.toNat_natCast, sizeLine_eq]
      show 1 * _ ≤ _
      omega
    rw [hl, Int.toNat_natCast]
    have ez : (List.replicate nds.length [V.int 0]).flatten = (zeros nds.length).map V.int := by
      unfold zeros
      rw [List.map_replicate]
      generalize nds.length = m
      induction m with
      | zero => rfl
      | succ m ih => rw [List.replicate_succ, List.flatten_cons, ih, List.replicate_succ]; rfl
    rw [ez]
    have sf := same_new (o := .lst ((zeros nds.length).map V.int)) hpf
    have hpfH : H pf = none := s0.free hpf
    refine ⟨_, rfl, pn, xs, rfl, sqL_sub ((sG.trans s0).trans sf) h1, for_it (walk_enum (K := K) (a := pn) (xs := xs)) (fun i σ H2 => Same H H2 ∧ ∃ cur o1 o2 o3, σ = [some (.ref pn), some (.ref pf), o1, o2, o3] ∧ H2 pf = some (.lst (cur.map V.int)) ∧ cur.length = nds.length ∧ pass i (nds.drop i) cur = pass 0 nds (zeros nds.length))
      ⟨s0.trans sf, zeros nds.length, none, none, none, rfl, upd_same, List.length_replicate .., rfl⟩ (fun i σ H2 _ h => sqL_sub (sG.trans h.1) h1) ?_ ?_⟩
    · rintro i y σ H2 H3 hi ⟨sm, cur, o1, o2, o3, rfl, hp2, hcl, hpa⟩ ⟨T1, x1, y1, rfl, hT, rfl, hx, hy⟩
      cases hx
      have hin : i < nds.length := by omega
      obtain ⟨d, ed, hd⟩ := dpAll_val h2 hy
      rw [List.getElem?_map, List.getElem?_eq_getElem hin] at ed
      cases ed
      have s3 := sm.trans (same_new (o := .tup [V.int (i : Nat), y1]) hT)
      have e3 : (upd H2 T1 (.tup [V.int (i : Nat), y1])) pf = some (.lst (cur.map V.int)) := by
        rw [upd_ne (ne_of_none hp2 hT)]
        exact hp2
      refine ⟨T1, _, rfl, SqT.of upd_same, rfl, _, _, rfl, _, _, rfl, rfl, ?_⟩
      generalize upd H2 T1 (.tup [V.int (i : Nat), y1]) = H3 at s3 e3 ⊢
      refine ⟨_, rfl, y1, G, nds[i], rfl, sG.trans s3, hd, fun H4 pg s4 n4 e4 => ?_⟩
      rw [List.drop_eq_getElem_cons hin] at hpa
      have hpa' : pass (i + 1) (nds.drop (i + 1)) (rowUp cur i nds[i]) = pass 0 nds (zeros nds.length) := hpa
      have hgs : ∀ g ∈ goals nds[i], 0 ≤ g ∧ g.toNat < nds.length := fun g hg => by
        have := hF i nds[i] (List.getElem?_eq_getElem hin) g hg
        omega
      refine ⟨pg, rfl, ⟨_, SqL.of e4⟩, for_list (K := K) (a := pg) (xs := (goals nds[i]).map V.int) (fun j σ H5 => Same H H5 ∧ H5 pg = some (.lst ((goals nds[i]).map V.int)) ∧ ∃ c2 o, σ = [some (.ref pn), some (.ref pf), some (.int (i : Nat)), some y1, o] ∧ H5 pf = some (.lst (c2.map V.int)) ∧ c2.length = nds.length ∧ ((goals nds[i]).drop j).foldl (up i) c2 = rowUp cur i nds[i])
        ⟨s3.trans s4, e4, cur, o3, rfl, s4 _ _ e3, hcl, rfl⟩ (fun j σ H5 _ h => SqL.of h.2.1) ?_ ?_⟩
      · rintro j y2 σ H5 hj ⟨s5, e5, c2, o, rfl, hp5, hcl5, hfo⟩
        obtain ⟨g, hg, rfl⟩ := map_at hj
        have hjl : j < (goals nds[i]).length := by
          rcases Nat.lt_or_ge j (goals nds[i]).length with h | h
          · exact h
          · rw [List.getElem?_eq_none h] at hg
            cases hg
        have hg' : (goals nds[i])[j] = g := by
          rw [List.getElem?_eq_getElem hjl] at hg
          exact Option.some.inj hg
        obtain ⟨g0, g1⟩ := hgs g (List.mem_of_getElem? hg)
        have nfg : pf ≠ pg := ne_of_none e3 n4
        refine ⟨.ref pf, rfl, _, rfl, pf, _, _, _, rfl, rfl, SqL.of hp5, at_of (j := g.toNat) (by omega) (ints_at (by omega)), .ref pf, rfl, _, rfl, pf, _, _, _, rfl, rfl, SqL.of hp5, atI_nat (j := i) (ints_at (by omega)), _, _, rfl, rfl, _, _, rfl, .ref pf, rfl, _, rfl, pf, _, _, _, rfl, rfl, hp5, ix_at g0 (by rw [List.length_map]; omega), ?_⟩
        refine ⟨same_set s5 hpfH, ?_, up i c2 g, _, rfl, ?_, by rw [up_len]; exact hcl5, ?_⟩
        · rw [upd_ne (Ne.symm nfg)]
          exact e5
        · rw [upd_same, max_is]
          show some (HO.lst ((c2.map V.int).set g.toNat (V.int _))) = some (HO.lst ((up i c2 g).map V.int))
          unfold up
          rw [List.map_set]
        · rw [List.drop_eq_getElem_cons hjl, hg', List.foldl_cons] at hfo
          exact hfo
      · rintro σ H5 ⟨s5, e5, c2, o, rfl, hp5, hcl5, hfo⟩
        rw [List.length_map, List.drop_length] at hfo
        have hfo' : c2 = rowUp cur i nds[i] := hfo
        subst hfo'
        exact ⟨s5, _, _, _, _, rfl, hp5, hcl5, hpa'⟩
    · rintro σ H2 ⟨sm, cur, o1, o2, o3, rfl, hp2, hcl, hpa⟩
      rw [hl, List.drop_length] at hpa
      have hpa' : cur = pass 0 nds (zeros nds.length) := hpa
      subst hpa'
      exact ⟨_, rfl, q H2 pf sm hpfH hp2⟩
end
end Pk
set_option Elab.async false
set_option linter.all false
set_option maxRecDepth 100000
set_option maxHeartbeats 4000000
namespace Pk
open PySem PySem.Spec PyProof.Rows L2
abbrev sCompC : Stmt := topS 39
abbrev sCompS : Stmt := topS 40
abbrev sComp1 : Stmt := topS 41
def teNev : TE := fun _ _ _ => False
def tgNev : TG := fun _ _ _ _ => False
theorem pe_nev {X : Cx} {e : Expr} : PE X e teNev := ⟨fun _ _ _ _ _ _ h => h.elim⟩
theorem pg_nev {X : Cx} {e : Expr} : PG X e tgNev := ⟨fun _ _ _ _ _ _ _ _ _ h => h.elim⟩
section
variable {P : Program} {w : World} {K : PySem.W.Frag} {mg : Str → Option Value} {base : Heap}
/-- a new tuple joins what stands -/
theorem tup_new {G H : Hp} {p : Addr} {vs : List V} {ds : List PyData} (sG : Same G H) (hp : H p = none) (hd : DpAll K G vs ds) :
    Same (upd G p (.tup vs)) (upd H p (.tup vs)) ∧ Gr G (upd G p (.tup vs)) H ∧ Dp K (upd G p (.tup vs)) (.ref p) (.tuple ds) := by
  have hG := sG.free hp
  refine ⟨fun b o e => ?_, (Gr.refl G H).put hp hG, .tup (SqT.of upd_same) (dpAll_sub (same_new2 hG) hd)⟩
  by_cases hb : b = p
  · rw [hb, upd_same] at e ⊢
    exact e
  · rw [upd_ne hb] at e ⊢
    exact sG _ _ e
theorem lst_new {G H : Hp} {p : Addr} {vs : List V} {ds : List PyData} (sG : Same G H) (hp : H p = none) (hd : DpAll K G vs ds) :
    Same (upd G p (.lst vs)) (upd H p (.lst vs)) ∧ Gr G (upd G p (.lst vs)) H ∧ Dp K (upd G p (.lst vs)) (.ref p) (.list ds) := by
  have hG := sG.free hp
  refine ⟨fun b o e => ?_, (Gr.refl G H).put hp hG, .lst (SqL.of upd_same) (dpAll_sub (same_new2 hG) hd)⟩
  by_cases hb : b = p
  · rw [hb, upd_same] at e ⊢
    exact e
  · rw [upd_ne hb] at e ⊢
    exact sG _ _ e
def spTestN (K : PySem.W.Frag) : Sp := fun vs H Q _ => ∃ (v u : V) (G : Hp) (c : Ct) (n : Nat) (y z : Int), vs = [v, u, .int y, .int z] ∧ Same G H ∧ Dp K G v (.tuple (progL c)) ∧ Dp K G u (.tuple (dTest n)) ∧
  ∀ H' G' x, Same H H' → Same G' H' → Gr G G' H → Dp K G' x (.tuple (dN (.ts n y z))) → Q x H'
theorem ok_testN {f : Addr} {fd : FuncData} {k : Nat} (F : Fun K "test_node" "test_node" sTestN f fd) (D1 : Df P w K mg base CX0 (k + 1) "plain_test" ["test"] (spPlain K)) (D2 : Df P w K mg base CX0 (k + 4) "cell_of" ["program", "field"] (spIndex K)) : FnOk P w K mg base CX0 (k + 5) f fd ["program", "test", "yes", "no"] (spTestN K) := by
  obtain ⟨f1, fd1, G1, g1, k1, b1⟩ := D1.ex
  obtain ⟨f2, fd2, G2, g2, k2, b2⟩ := D2.ex
  refine F.ok scTestN (fun vs H Q E h => ?_) (fun cdv A outer s H vs Q E hr h => ?_)
  · obtain ⟨v, u, G, c, n, y, z, rfl, _⟩ := h
    rfl
  · obtain ⟨v, u, G, c, n, y, z, rfl, sG, hD, hu, q⟩ := h
    have nd := scTestN.nd
    have hr1 : Room (k + 1) _ := hr.mono (by omega)
    refine ⟨_, pss_cons (ps_asg (pe_call G1 hr1 (by rfl) g1 k1 b1 .nil pass0 (pa_cons (pv 1) pa_nil)) (pg_tup rfl (pgs_cons (pg_name (i := 4) nd rfl (.inl rfl)) (pgs_cons (pg_name (i := 5) nd rfl (.inl rfl)) pgs_nil))))
      (pss_cons (ps_if (pt_val (pv 5) (by intro _; rfl)) pss_never pss_nil)
      (pss_cons (ps_if (pt_cmpR op_eq (pe_ix ix_tup (pv 4) pe_int (fun _ _ => rfl)) pe_str (nomark _)) pss_never pss_nil)
      (pss_cons (ps_asg (pv 4) (pg_tup rfl (pgs_cons (pg_name (i := 6) nd rfl (.inl rfl)) (pgs_cons (pg_name (i := 7) nd rfl (.inl rfl)) (pgs_cons (pg_name (i := 8) nd rfl (.inl rfl)) pgs_nil)))))
      (pss_one (ps_ret (pe_tup (pa_cons pe_str (pa_cons (pv 6) (pa_cons (pe_call G2 hr (by rfl) g2 k2 b2 .nil pass0 (pa_cons (pv 0) (pa_cons (pv 7) pa_nil))) (pa_cons (pv 8) (pa_cons (pv 2) (pa_cons (pv 3) pa_nil)))))))))))), ?_⟩
    obtain ⟨pt, vf, rfl, h1, h2⟩ := dp_test hu
    refine ⟨_, rfl, _, G, n, rfl, sG, hu, fun H1 p s1 n1 e1 => ⟨p, _, rfl, SqT.of e1, rfl, _, _, rfl, _, _, rfl, rfl, ?_⟩⟩
    refine ⟨_, rfl, _, rfl, iteF ?_⟩
    have h1' := sqT_sub (sG.trans s1) h1
    refine ⟨_, rfl, pt, _, _, _, rfl, rfl, h1', atI_nat (j := 0) rfl, rfl, _, rfl, ?_⟩
    rw [dcStr]
    refine iteDF (by decide +kernel) ?_
    refine ⟨_, rfl, pt, _, rfl, h1', rfl, _, _, rfl, _, _, rfl, _, _, rfl, rfl, ?_⟩
    refine ⟨_, rfl, _, rfl, _, rfl, v, vf, G, c, rfl, sG.trans s1, hD, h2, fun H2 s2 => ⟨_, rfl, _, rfl, _, rfl, (by show 6 ≤ sizeLine; decide), fun p6 hp6 => ?_⟩⟩
    obtain ⟨x1, x2, x3⟩ := tup_new (K := K) ((sG.trans s1).trans s2) hp6 (vs := [.str "test", .str "<", .int 0, .int (n : Nat), .int y, .int z]) (.cons (.str _) (.cons (.str _) (.cons (.int _) (.cons (.int _) (.cons (.int _) (.cons (.int _) .nil))))))
    refine q _ _ _ ((s1.trans s2).trans (same_new hp6)) x1 ⟨x2.sub, fun b hb => ?_⟩ x3
    rcases x2.new b hb with h | h
    · exact .inl h
    · exact .inr ((s1.trans s2).free h)
def spTableN (K : PySem.W.Frag) : Sp := fun vs H Q _ => ∃ (v : V) (G : Hp) (c : Ct) (t : Nat) (a : Int), vs = [v, .str (tnm t), .int a] ∧ t < 3 ∧ Same G H ∧ Dp K G v (.tuple (progL c)) ∧ ∀ H' G' x, Same H H' → Same G' H' → Gr G G' H → Dp K G' x (.tuple (dN (.tb t a))) → Q x H'
theorem tbl_at {t : Nat} (h : t < 3) : tblsD[t]? = some (tblD t) ∧ (∀ j e', j < t → tblsD[j]? = some e' → e'[1]? ≠ some (PyData.str (tnm t))) := by
  match t, h with
  | 0, _ => exact ⟨rfl, fun j e' hj => absurd hj (Nat.not_lt_zero _)⟩
  | 1, _ =>
    refine ⟨rfl, fun j e' hj he z => ?_⟩
    obtain rfl : j = 0 := by omega
    cases he
    exact absurd (PyData.str.inj (Option.some.inj z)) (by decide +kernel)
  | 2, _ =>
    refine ⟨rfl, fun j e' hj he z => ?_⟩
    rcases (by omega : j = 0 ∨ j = 1) with rfl | rfl
    · cases he
      exact absurd (PyData.str.inj (Option.some.inj z)) (by decide +kernel)
    · cases he
      exact absurd (PyData.str.inj (Option.some.inj z)) (by decide +kernel)
theorem tbls_nm : ∀ e ∈ tblsD, ∃ n, e[1]? = some (PyData.str n) := by
  intro e he
  rcases List.mem_cons.mp he with rfl | he
  · exact ⟨_, rfl⟩
  rcases List.mem_cons.mp he with rfl | he
  · exact ⟨_, rfl⟩
  rcases List.mem_cons.mp he with rfl | he
  · exact ⟨_, rfl⟩
  cases he
theorem nms_at {t : Nat} (h : t < 3) : ([V.str (tnm 0), .str (tnm 1), .str (tnm 2)] : List V)[t]? = some (.str (tnm t)) ∧ eqV (.str (tnm t)) (.str (tnm t)) = true ∧ ∀ (m : Nat) (z' : V), m < t → ([V.str (tnm 0), .str (tnm 1), .str (tnm 2)] : List V)[m]? = some z' → eqV z' (.str (tnm t)) = false := by
  match t, h with
  | 0, _ => exact ⟨rfl, by decide +kernel, fun j e' hj => absurd hj (Nat.not_lt_zero _)⟩
  | 1, _ =>
    refine ⟨rfl, by decide +kernel, fun j e' hj he => ?_⟩
    obtain rfl : j = 0 := by omega
    cases he
    decide +kernel
  | 2, _ =>
    refine ⟨rfl, by decide +kernel, fun j e' hj he => ?_⟩
    rcases (by omega : j = 0 ∨ j = 1) with rfl | rfl
    · cases he
      decide +kernel
    · cases he
      decide +kernel
theorem ok_tableN {f : Addr} {fd : FuncData} {k : Nat} (F : Fun K "table_node" "table_node" sTableN f fd) (D1 : Df P w K mg base CX0 (k + 1) "tables_of" ["program"] (spAcc K 6)) (D2 : Df P w K mg base CX0 (k + 1) "part_named" ["parts", "name"] (spPart K)) (D3 : Df P w K mg base CX0 (k + 1) "names_of" ["parts"] (spNames K)) :
    FnOk P w K mg base CX0 (k + 2) f fd ["program", "name", "after"] (spTableN K) := by
  obtain ⟨f1, fd1, G1, g1, k1, b1⟩ := D1.ex
  obtain ⟨f2, fd2, G2, g2, k2, b2⟩ := D2.ex
  obtain ⟨f3, fd3, G3, g3, k3, b3⟩ := D3.ex
  refine F.ok scTableN (fun vs H Q E h => ?_) (fun cdv A outer s H vs Q E hr h => ?_)
  · obtain ⟨v, G, c, t, a, rfl, _⟩ := h
    rfl
  · obtain ⟨v, G, c, t, a, rfl, ht, sG, hD, q⟩ := h
    have nd := scTableN.nd
    refine ⟨_, pss_cons (ps_set (i := 3) nd rfl (.inl rfl) (pe_call G1 hr (by rfl) g1 k1 b1 .nil pass0 (pa_cons (pv 0) pa_nil)))
      (pss_cons (ps_asg (pe_call G2 hr (by rfl) g2 k2 b2 .nil pass0 (pa_cons (pv 3) (pa_cons (pv 1) pa_nil))) (pg_tup rfl (pgs_cons (pg_name (i := 4) nd rfl (.inl rfl)) (pgs_cons (pg_name (i := 4) nd rfl (.inl rfl)) (pgs_cons (pg_name (i := 5) nd rfl (.inl rfl)) (pgs_cons (pg_name (i := 4) nd rfl (.inl rfl)) (pgs_cons (pg_name (i := 4) nd rfl (.inl rfl)) (pgs_cons (pg_name (i := 4) nd rfl (.inl rfl)) pgs_nil))))))))
      (pss_cons (ps_setLc (i := 6) (own := [("field", 7), ("kind", 8)]) (tt := tYes) rfl nd rfl rfl (sw_true rfl rfl rfl (by decide +kernel)) (pi_list (pv 5)) (blkOk_by (N := ["program", "name", "after", "tables", "_", "keys", "compiled", "field", "kind"]) (sc := defScope sTableN) (by decide +kernel)) (fun _ _ _ _ _ => pg_nev) (fun _ _ _ _ _ => pts_nil) (fun _ _ _ _ _ => pe_nev))
      (pss_one (ps_ret (pe_tup (pa_cons pe_str (pa_cons (pe_bm PySem.F.plainAttrs_list PySem.F.slot_list_index PySem.F.type_list_index mt_index (pe_call G3 hr (by rfl) g3 k3 b3 .nil pass0 (pa_cons (pv 3) pa_nil)) (pa_cons (pv 1) pa_nil)) (pa_cons (pv 6) (pa_cons (pv 2) pa_nil))))))))), ?_⟩
    refine ⟨_, rfl, v, G, _, _, rfl, sG, hD, rfl, fun x hx => ?_⟩
    obtain ⟨ht1, ht2⟩ := tbl_at ht
    refine ⟨_, rfl, _, rfl, x, G, tblsD, tnm t, t, tblD t, rfl, sG, hx, tbls_nm, ht1, rfl, ht2, fun y hy => ?_⟩
    obtain ⟨py, ys, rfl, y1, y2⟩ := dp_tup hy
    obtain ⟨v0, r, rfl, e0, y2⟩ := dpAll_cons y2
    obtain ⟨v1, r, rfl, e1, y2⟩ := dpAll_cons y2
    obtain ⟨v2, r, rfl, e2, y2⟩ := dpAll_cons y2
    obtain ⟨v3, r, rfl, e3, y2⟩ := dpAll_cons y2
    obtain ⟨v4, r, rfl, e4, y2⟩ := dpAll_cons y2
    obtain ⟨v5, r, rfl, e5, y2⟩ := dpAll_cons y2
    obtain rfl := dpAll_nil y2
    refine ⟨py, _, rfl, sqT_sub sG y1, rfl, _, _, rfl, _, _, rfl, _, _, rfl, _, _, rfl, _, _, rfl, _, _, rfl, rfl, ?_⟩
    obtain ⟨pk, zs, rfl, z1, z2⟩ := dp_lst e2
    obtain rfl := dpAll_nil z2
    refine ⟨_, rfl, pk, rfl, ⟨_, sqL_sub sG z1⟩, fun D hD1 => lc_list (K := K) (a := pk) (xs := []) (fun i H2 => Same H H2 ∧ H2 D = some (.lst [])) ⟨same_new hD1, upd_same⟩ (fun i H2 _ h => h.1.seq (sqL_sub sG z1)) (fun i y H2 hi _ => by cases hi) ?_⟩
    rintro H2 ⟨s2, e2'⟩
    refine ⟨_, rfl, x, G, tblsD, _, rfl, sG.trans s2, hx, by decide, tbls_nm, rfl, fun H3 pn s3 n3 e3' => ?_⟩
    obtain ⟨m1, m2, m3⟩ := nms_at ht
    refine ⟨.inl ⟨rfl, _, SqL.of e3'⟩, _, rfl, pn, _, .str (tnm t), t, .str (tnm t), rfl, rfl, SqL.of e3', rfl, rfl, m1, m2, m3, ?_⟩
    refine ⟨_, rfl, _, rfl, (by show 4 ≤ sizeLine; decide), fun p4 hp4 => ?_⟩
    have hDG : G D = none := (sG.free hD1)
    have sD : Same (upd G D (.lst [])) H3 := same_upd ((sG.trans s2).trans s3) (s3 _ _ e2')
    obtain ⟨x1, x2, x3⟩ := tup_new (K := K) sD hp4 (vs := [.str "table", .int (t : Nat), .ref D, .int a]) (.cons (.str _) (.cons (.int _) (.cons (.lst (SqL.of upd_same) .nil) (.cons (.int _) .nil))))
    refine q _ _ _ ((s2.trans s3).trans (same_new hp4)) x1 ⟨(same_new2 hDG).trans x2.sub, fun b hb => ?_⟩ x3
    rcases x2.new b hb with h | h
    · by_cases hbD : b = D
      · rw [hbD]
        exact .inr hD1
      · rw [upd_ne hbD] at h
        exact .inl h
    · exact .inr ((s2.trans s3).free h)
end
end Pk
set_option Elab.async false
set_option linter.all false
set_option maxRecDepth 100000
set_option maxHeartbeats 4000000
namespace Pk
open PySem PySem.Spec PyProof.Rows L2
abbrev NC1 : List Str := ["program", "statement", "index", "after", "_", "test", "then", "other", "then_first", "other_first", "yes", "no"]
abbrev NCS : List Str := ["program", "statements", "first", "after", "nodes", "at", "statement", "index", "follower"]
theorem scComp1 : FnScope NC1 ["program", "statement", "index", "after"] (defScope sComp1) := ⟨rfl, rfl, rfl, by decide +kernel, rfl, by decide +kernel, by decide +kernel⟩
theorem scCompS : FnScope NCS ["program", "statements", "first", "after"] (defScope sCompS) := ⟨rfl, rfl, rfl, by decide +kernel, rfl, by decide +kernel, by decide +kernel⟩
theorem scCompC : FnScope ["program"] ["program"] (defScope sCompC) := ⟨rfl, rfl, rfl, by decide +kernel, rfl, by decide +kernel, by decide +kernel⟩
def ndsD (l : List Nd) : List PyData := l.map fun nd => .tuple (dN nd)
/-- the nodes come back, in a new list -/
def NdsOut (K : PySem.W.Frag) (G H : Hp) (l : List Nd) (Q : VK) : Prop := ∀ H' G' p xs, Same H H' → Same G' H' → Gr G G' H → H p = none → G' p = none → H' p = some (.lst xs) → DpAll K G' xs (ndsD l) → Q (.ref p) H'
def spStms (K : PySem.W.Frag) : Nat → Sp
  | 0 => fun _ _ _ _ => False
  | d + 1 => fun vs H Q _ => ∃ (v u : V) (G : Hp) (c0 c : Ct) (f : Nat) (a : Int), vs = [v, u, .int (f : Nat), .int a] ∧ Same G H ∧ Dp K G v (.tuple (progL c0)) ∧ Dp K G u (.list (dataC c)) ∧ okC c ∧ dpt c ≤ d ∧ sz c ≤ 1000 ∧ NdsOut K G H (comp c f a) Q
def spSt (K : PySem.W.Frag) (d : Nat) : Sp := fun vs H Q _ => ∃ (v u : V) (G : Hp) (c0 s : Ct) (e : PyData) (f : Nat) (a : Int), vs = [v, u, .int (f : Nat), .int a] ∧ Same G H ∧ Dp K G v (.tuple (progL c0)) ∧ One s ∧ dataC s = [e] ∧ Dp K G u e ∧ okC s ∧ dpt s ≤ d ∧ sz s ≤ 1000 ∧ NdsOut K G H (comp s f a) Q
section
variable {P : Program} {w : World} {K : PySem.W.Frag} {mg : Str → Option Value} {base : Heap}
theorem ok_stms0 {f : Addr} {fd : FuncData} {k : Nat} (F : Fun K "compile_statements" "compile_statements" sCompS f fd) : FnOk P w K mg base CX0 (k + 1) f fd ["program", "statements", "first", "after"] (spStms K 0) :=
  F.ok scCompS (fun _ _ _ _ h => h.elim) (fun _ _ _ _ _ _ _ _ _ h => h.elim)
theorem dpAll_gr {G G' : Hp} {vs : List V} {ds : List PyData} (h : DpAll K G vs ds) (s : Same G G') : DpAll K G' vs ds := dpAll_sub s h
theorem ok_st {f : Addr} {fd : FuncData} {k d : Nat} (hk : 8 ≤ k) (hd7 : d ≤ 5) (F : Fun K "compile_statement" "compile_statement" sComp1 f fd) (T : Gk K mg)
    (D1 : Df P w K mg base CX0 2 "table_node" ["program", "name", "after"] (spTableN K)) (D2 : Df P w K mg base CX0 7 "all_statements" ["statements"] (spAll K 6)) (D3 : Df P w K mg base CX0 1 "first_of" ["statements", "first", "after"] (spFirst K))
    (D4 : Df P w K mg base CX0 5 "test_node" ["program", "test", "yes", "no"] (spTestN K)) (D5 : Df P w K mg base CX0 k "compile_statements" ["program", "statements", "first", "after"] (spStms K d)) :
    FnOk P w K mg base CX0 (k + 1) f fd ["program", "statement", "index", "after"] (spSt K d) := by
  obtain ⟨f1, fd1, G1, g1, k1, b1⟩ := D1.ex
  obtain ⟨f2, fd2, G2, g2, k2, b2⟩ := D2.ex
  obtain ⟨f3, fd3, G3, g3, k3, b3⟩ := D3.ex
  obtain ⟨f4, fd4, G4, g4, k4, b4⟩ := D4.ex
  obtain ⟨f5, fd5, G5, g5, k5, b5⟩ := D5.ex
  refine F.ok scComp1 (fun vs H Q E h => ?_) (fun cdv A outer s H vs Q E hr h => ?_)
  · obtain ⟨v, u, G, c0, s, e, f, a, rfl, _⟩ := h
    rfl
  · obtain ⟨v, u, G, c0, st, e, f, a, rfl, sG, hD, one, he, hu, hok, hdp, hz, q⟩ := h
    have nd := scComp1.nd
    have hr1 : Room 1 _ := hr.mono (by omega)
    have hr2 : Room 2 _ := hr.mono (by omega)
    have hr5 : Room 5 _ := hr.mono (by omega)
    have hr7 : Room 7 _ := hr.mono (by omega)
    refine ⟨_, pss_cons (ps_if (pt_cmpR op_eq (pe_ix ix_tup (pv 1) pe_int (fun _ _ => rfl)) pe_str (nomark _)) (pss_one (ps_ret (pe_lst (pa_cons (pe_call G1 hr2 (by rfl) g1 k1 b1 .nil pass0 (pa_cons (pv 0) (pa_cons (pe_ix ix_tup (pv 1) pe_int (fun _ _ => rfl)) (pa_cons (pv 3) pa_nil)))) pa_nil)))) pss_nil)
      (pss_cons (ps_asg (pv 1) (pg_tup rfl (pgs_cons (pg_name (i := 4) nd rfl (.inl rfl)) (pgs_cons (pg_name (i := 5) nd rfl (.inl rfl)) (pgs_cons (pg_name (i := 6) nd rfl (.inl rfl)) (pgs_cons (pg_name (i := 7) nd rfl (.inl rfl)) pgs_nil))))))
      (pss_cons (ps_set (i := 8) nd rfl (.inl rfl) (pe_op op_add (pv 2) pe_int))
      (pss_cons (ps_set (i := 9) nd rfl (.inl rfl) (pe_op op_add (pv 8) (pe_callB call_len_seq (by rfl) T.zLen PySem.boot_len (pa_cons (pe_call G2 hr7 (by rfl) g2 k2 b2 .nil pass0 (pa_cons (pv 6) pa_nil)) pa_nil))))
      (pss_cons (ps_set (i := 10) nd rfl (.inl rfl) (pe_call G3 hr1 (by rfl) g3 k3 b3 .nil pass0 (pa_cons (pv 6) (pa_cons (pv 8) (pa_cons (pv 3) pa_nil)))))
      (pss_cons (ps_set (i := 11) nd rfl (.inl rfl) (pe_call G3 hr1 (by rfl) g3 k3 b3 .nil pass0 (pa_cons (pv 7) (pa_cons (pv 9) (pa_cons (pv 3) pa_nil)))))
      (pss_one (ps_ret (pe_lst (pa_cons (pe_call G4 hr5 (by rfl) g4 k4 b4 .nil pass0 (pa_cons (pv 0) (pa_cons (pv 5) (pa_cons (pv 10) (pa_cons (pv 11) pa_nil)))))
        (StX.pa_star (pe_call G5 hr (by rfl) g5 k5 b5 .nil pass0 (pa_cons (pv 0) (pa_cons (pv 6) (pa_cons (pv 8) (pa_cons (pv 3) pa_nil)))))
        (StX.pa_star (pe_call G5 hr (by rfl) g5 k5 b5 .nil pass0 (pa_cons (pv 0) (pa_cons (pv 7) (pa_cons (pv 9) (pa_cons (pv 3) pa_nil))))) pa_nil))))))))))), ?_⟩
    cases one with
    | ap t =>
      have e' := (List.cons.inj he).1
      subst e'
      obtain ⟨pt, rfl, h1⟩ := dp_ap hu
      refine ⟨_, rfl, pt, _, _, _, rfl, rfl, sqT_sub sG h1, atI_nat (j := 0) rfl, rfl, _, rfl, ?_⟩
      rw [dcStr]
      refine iteDT rfl ⟨_, rfl, _, rfl, pt, _, _, _, rfl, rfl, sqT_sub sG h1, atI_nat (j := 1) rfl, _, rfl, v, G, c0, t, a, rfl, hok.1, sG, hD, fun H2 G2 x s2 sG2 gr2 dx => ⟨(by show 1 ≤ sizeLine; decide), fun p hp => ?_⟩⟩
      have hG2 : G2 p = none := sG2.free hp
      refine q _ G2 p [x] (s2.trans (same_new hp)) (same_set sG2 hG2) gr2 (s2.free hp) hG2 upd_same (.cons dx .nil)
    | cf n x y =>
      have e' := (List.cons.inj he).1
      subst e'
      obtain ⟨pt, vt, va, vb, rfl, h1, h2, h3, h4⟩ := dp_if hu
      have hdp' : max (max (dpt x) (dpt y) + 1) 0 ≤ d := hdp
      have hz' : sz x + sz y + 0 + 1 ≤ 1000 := hz
      obtain ⟨d', rfl⟩ : ∃ d', d = d' + 1 := ⟨d - 1, by omega⟩
      have h1' := sqT_sub sG h1
      refine ⟨_, rfl, pt, _, _, _, rfl, rfl, h1', atI_nat (j := 0) rfl, rfl, _, rfl, ?_⟩
      rw [dcStr]
      refine iteDF (by decide +kernel) ?_
      refine ⟨_, rfl, pt, _, rfl, h1', rfl, _, _, rfl, _, _, rfl, _, _, rfl, _, _, rfl, rfl, ?_⟩
      refine ⟨_, rfl, _, _, rfl, rfl, _, rfl, _, rfl, va, G, x, rfl, sG, h3, (by show dpt x ≤ 5; omega), by omega, fun H2 p2 x2 s2 n2 e2 l2 => ?_⟩
      refine ⟨p2, _, rfl, .inl (SqL.of e2), _, _, rfl, rfl, ?_⟩
      rw [l2]
      refine ⟨_, rfl, _, rfl, _, rfl, va, G, x, f + 1, a, rfl, sG.trans s2, h3, ?_⟩
      refine ⟨_, rfl, _, rfl, _, rfl, vb, G, y, f + 1 + sz x, a, rfl, sG.trans s2, h4, ?_⟩
      refine ⟨_, rfl, _, rfl, _, rfl, _, rfl, v, vt, G, c0, n, _, _, rfl, sG.trans s2, hD, h2, fun H3 G3 n3 s3 sG3 gr3 d3 => ?_⟩
      refine ⟨_, rfl, _, rfl, _, rfl, _, rfl, v, va, G3, c0, x, f + 1, a, rfl, sG3, dp_sub gr3.sub hD, dp_sub gr3.sub h3, hok.1, by omega, by omega, fun H5 G5' p5 x5 s5 sG5 gr5 n5 g5n e5 d5 => ?_⟩
      refine ⟨p5, x5, rfl, .inr (SqL.of e5), _, rfl, _, rfl, _, rfl, _, rfl, v, vb, G5', c0, y, f + 1 + sz x, a, rfl, sG5, dp_sub (gr3.sub.trans gr5.sub) hD, dp_sub (gr3.sub.trans gr5.sub) h4, hok.2.1, by omega, by omega, fun H7 G7 p7 x7 s7 sG7 gr7 n7 g7n e7 d7 => ?_⟩
      refine ⟨p7, x7, rfl, .inr (SqL.of e7), ?_⟩
      have l5 := dpAll_len d5
      have l7 := dpAll_len d7
      unfold ndsD at l5 l7
      rw [List.length_map, comp_len] at l5 l7
      refine ⟨?_, fun p hp => ?_⟩
      · show (n3 :: (x5 ++ (x7 ++ []))).length ≤ sizeLine
        rw [List.length_cons, List.length_append, List.length_append, sizeLine_eq]
        show x5.length + (x7.length + 0) + 1 ≤ _
        omega
      have hp7 : G7 p = none := sG7.free hp
      have sAll := ((s2.trans s3).trans s5).trans s7
      refine q _ G7 p _ (sAll.trans (same_new hp)) (same_set sG7 hp7) ⟨(gr3.sub.trans gr5.sub).trans gr7.sub, fun b hb => ?_⟩ (sAll.free hp) hp7 upd_same ?_
      · rcases gr7.new b hb with h | h
        · rcases gr5.new b h with h | h
          · rcases gr3.new b h with h | h
            · exact .inl h
            · exact .inr (s2.free h)
          · exact .inr ((s2.trans s3).free h)
        · exact .inr (((s2.trans s3).trans s5).free h)
      · have e9 : comp (.cf n x y .nil) f a = .ts n (firstOf x (f + 1) a) (firstOf y (f + 1 + sz x) a) :: (comp x (f + 1) a ++ (comp y (f + 1 + sz x) a ++ [])) := rfl
        rw [e9]
        unfold ndsD
        rw [List.map_cons, List.map_append, List.map_append]
        exact .cons (dp_sub (gr5.sub.trans gr7.sub) d3) (dpAll_app (dpAll_sub gr7.sub d5) (dpAll_app d7 .nil))
end
end Pk
set_option Elab.async false
set_option linter.all false
set_option maxRecDepth 100000
set_option maxHeartbeats 4000000
namespace Pk
open PySem PySem.Spec PyProof.Rows L2
section
variable {P : Program} {w : World} {K : PySem.W.Frag} {mg : Str → Option Value} {base : Heap}
theorem one_of {c ci : Ct} {i : Nat} {d : PyData} (h : dataC ci = (dataC c).drop i) (e : (dataC c)[i]? = some d) : ∃ s r, ci = catC s r ∧ One s ∧ dataC s = [d] ∧ dataC r = (dataC c).drop (i + 1) := by
  rcases drop_data h e with ⟨t, r, rfl, rfl, hr⟩ | ⟨n, a, b, r, rfl, rfl, hr⟩
  · exact ⟨.ap t .nil, r, rfl, .ap t, rfl, hr⟩
  · exact ⟨.cf n a b .nil, r, rfl, .cf n a b, rfl, hr⟩
theorem foll_nil {r : Ct} (h : dataC r = []) (f z : Nat) (a : Int) : foll r f z a = a := by
  cases r with
  | nil => rfl
  | ap t r => cases h
  | cf n x y r => cases h
theorem foll_more {r : Ct} (h : dataC r ≠ []) (f z : Nat) (a : Int) : foll r f z a = ((f + z : Nat) : Int) := by
  cases r with
  | nil => exact absurd rfl h
  | ap t r => rfl
  | cf n x y r => rfl
theorem ok_split : ∀ {s r : Ct}, One s → okC (catC s r) → okC s ∧ okC r
  | _, _, .ap t, h => ⟨⟨h.1, trivial⟩, h.2⟩
  | _, _, .cf n a b, h => ⟨⟨h.1, h.2.1, trivial⟩, h.2.2⟩
theorem sz_one {s : Ct} (h : One s) : 1 ≤ sz s := by
  cases h with
  | ap t => exact Nat.le_refl _
  | cf n a b => exact Nat.succ_le_succ (Nat.zero_le _)
theorem ndsD_app (a b : List Nd) : ndsD (a ++ b) = ndsD a ++ ndsD b := List.map_append
theorem ok_stmsS {f : Addr} {fd : FuncData} {k d : Nat} (hk : 8 ≤ k) (hd7 : d ≤ 5) (F : Fun K "compile_statements" "compile_statements" sCompS f fd) (T : Gk K mg)
    (D2 : Df P w K mg base CX0 7 "all_statements" ["statements"] (spAll K 6)) (D5 : Df P w K mg base CX0 k "compile_statement" ["program", "statement", "index", "after"] (spSt K d)) :
    FnOk P w K mg base CX0 (k + 1) f fd ["program", "statements", "first", "after"] (spStms K (d + 1)) := by
  obtain ⟨f2, fd2, G2, g2, k2, b2⟩ := D2.ex
  obtain ⟨f5, fd5, G5, g5, k5, b5⟩ := D5.ex
  refine F.ok scCompS (fun vs H Q E h => ?_) (fun cdv A outer s H vs Q E hr h => ?_)
  · obtain ⟨v, u, G, c0, c, f, a, rfl, _⟩ := h
    rfl
  · obtain ⟨v, u, G, c0, c, f, a, rfl, sG, hD, hu, hok, hdp, hz, q⟩ := h
    have nd := scCompS.nd
    have hr7 : Room 7 _ := hr.mono (by omega)
    refine ⟨_, pss_cons (ps_set (i := 4) nd rfl (.inl rfl) (pe_lst pa_nil))
      (pss_cons (ps_for PassesOwn.never rfl (pi_enum (by rfl) T.zEnum (pa_cons (pv 1) pa_nil)) (pg_tup rfl (pgs_cons (pg_name (i := 5) nd rfl (.inl rfl)) (pgs_cons (pg_name (i := 6) nd rfl (.inl rfl)) pgs_nil)))
        (pss_cons (ps_set (i := 7) nd rfl (.inl rfl) (pe_op op_add (pv 2) (pe_callB call_len_seq (by rfl) T.zLen PySem.boot_len (pa_cons (pv 4) pa_nil))))
        (pss_cons (ps_set (i := 8) nd rfl (.inl rfl) (pv 3))
        (C8.pss_cut (ps_if (pt_cmpR op_lt (pe_op op_add (pv 5) pe_int) (pe_callB call_len_seq (by rfl) T.zLen PySem.boot_len (pa_cons (pv 1) pa_nil)) (nomark _)) (pss_one (ps_set (i := 8) nd rfl (.inl rfl) (pe_op op_add (pv 7) (pe_callB call_len_seq (by rfl) T.zLen PySem.boot_len (pa_cons (pe_call G2 hr7 (by rfl) g2 k2 b2 .nil pass0 (pa_cons (pe_lst (pa_cons (pv 6) pa_nil)) pa_nil)) pa_nil))))) pss_nil)
        (pss_one (ps_expr (pe_bm PySem.F.plainAttrs_list PySem.F.slot_list_extend PySem.F.type_list_extend mt_extend (pv 4) (pa_cons (pe_call G5 hr (by rfl) g5 k5 b5 .nil pass0 (pa_cons (pv 0) (pa_cons (pv 6) (pa_cons (pv 7) (pa_cons (pv 8) pa_nil))))) pa_nil))))))))
      (pss_one (ps_ret (pv 4)))), ?_⟩
    obtain ⟨pc, xs, rfl, h1, h2⟩ := dp_lst hu
    have hl := dpAll_len h2
    have hdl := data_len c
    refine ⟨by show 0 ≤ sizeLine; exact Nat.zero_le _, fun pn hpn => ?_⟩
    have hGn : G pn = none := sG.free hpn
    have s0 := same_new (o := .lst []) hpn
    refine ⟨_, rfl, pc, xs, rfl, sqL_sub (sG.trans s0) h1, for_it (walk_enum (K := K) (a := pc) (xs := xs)) (fun i σ H2 => Same H H2 ∧ ∃ G2 ci done ns o1 o2 o3 o4, σ = [some v, some (.ref pc), some (.int (f : Nat)), some (.int a), some (.ref pn), o1, o2, o3, o4] ∧ Same G2 H2 ∧ Gr G G2 H ∧ G2 pn = none ∧ H2 pn = some (.lst ns) ∧ DpAll K G2 ns (ndsD done) ∧
        dataC ci = (dataC c).drop i ∧ okC ci ∧ dpt ci ≤ d ∧ comp c f a = done ++ comp ci (f + done.length) a ∧ done.length + sz ci = sz c)
      ⟨s0, G, c, [], [], none, none, none, none, rfl, sG.trans s0, Gr.refl _ _, hGn, upd_same, .nil, rfl, hok, hdp, rfl, Nat.zero_add _⟩ (fun i σ H2 _ h => sqL_sub (sG.trans h.1) h1) ?_ ?_⟩
    · rintro i y σ H2 H3 hi ⟨sm, Gc, ci, done, ns, o1, o2, o3, o4, rfl, sGc, gr, hGcn, hns, hdn, hci, hoki, hdi, hcmp, hsz⟩ ⟨T1, x1, y1, rfl, hT, rfl, hx, hy⟩
      cases hx
      obtain ⟨dd, ed, hdd⟩ := dpAll_val h2 hy
      obtain ⟨st, r, rfl, one, hst, hr'⟩ := one_of hci ed
      obtain ⟨okS, okR⟩ := ok_split one hoki
      have hsz2 := sz_cat st r
      have hdp2 := dpt_cat st r
      have hs1 := sz_one one
      have s3 := sm.trans (same_new (o := .tup [V.int (i : Nat), y1]) hT)
      have sG3 := sGc.trans (same_new (o := .tup [V.int (i : Nat), y1]) hT)
      have e3 : (upd H2 T1 (.tup [V.int (i : Nat), y1])) pn = some (.lst ns) := by
        rw [upd_ne (ne_of_none hns hT)]
        exact hns
      refine ⟨T1, _, rfl, SqT.of upd_same, rfl, _, _, rfl, _, _, rfl, rfl, ?_⟩
      generalize upd H2 T1 (.tup [V.int (i : Nat), y1]) = H3 at s3 sG3 e3 ⊢
      have hnl := dpAll_len hdn
      unfold ndsD at hnl
      rw [List.length_map] at hnl
      refine ⟨_, rfl, .ref pn, rfl, pn, _, rfl, .inl (SqL.of e3), _, _, rfl, rfl, ?_⟩
      rw [hnl]
      refine ⟨_, rfl, ?_⟩
      refine ⟨fun σ' H' => ∃ Hs, Same H3 H' ∧ H' pn = some (.lst ns) ∧ Hs = H' ∧ σ' = [some v, some (.ref pc), some (.int (f : Nat)), some (.int a), some (.ref pn), some (.int (i : Nat)), some y1, some (.int ((f + done.length : Nat) : Int)), some (.int (foll r (f + done.length) (sz st) a))], ?_, ?_⟩
      · refine ⟨_, rfl, _, _, rfl, rfl, .ref pc, rfl, pc, _, rfl, .inl (sqL_sub (sG.trans s3) h1), _, _, rfl, rfl, _, rfl, ?_⟩
        have hlen : (dataC r).length = (dataC c).length - (i + 1) := by rw [hr', List.length_drop]
        refine iteD (fun hlt => ?_) fun hlt => ?_
        · refine ⟨_, rfl, _, rfl, (by show 1 ≤ sizeLine; decide), fun pl hpl => ?_⟩
          obtain ⟨z1, z2, z3⟩ := lst_new (K := K) (sG.trans s3) hpl (vs := [y1]) (ds := dataC st) (by rw [hst]; exact .cons hdd .nil)
          refine ⟨_, _, st, rfl, z1, z3, (by show dpt st ≤ 5; omega), by omega, fun H5 p5 x5 s5 n5 e5 l5 => ?_⟩
          refine ⟨p5, _, rfl, .inl (SqL.of e5), _, _, rfl, rfl, _, (same_new hpl).trans s5, s5 _ _ ((same_new hpl) _ _ e3), rfl, ?_⟩
          rw [foll_more (fun z => by rw [z] at hlen; simp at hlen; omega), l5]
          rfl
        · refine ⟨_, Same.refl _, e3, rfl, ?_⟩
          rw [foll_nil (List.length_eq_zero_iff.mp (by omega))]
          rfl
      rintro σ' H5 ⟨Hs, s5, e5, _, rfl⟩
      have s05 := s3.trans s5
      refine ⟨.ref pn, rfl, .inl ⟨rfl, _, SqL.of e5⟩, _, rfl, _, rfl, _, rfl, _, rfl, v, y1, Gc, c0, st, dd, f + done.length, _, rfl, sG3.trans s5, dp_sub gr.sub hD, one, hst, dp_sub gr.sub hdd, okS, by omega, by omega, fun H7 G7 p7 x7 s7 sG7 gr7 n7 g7n e7 d7 => ?_⟩
      have l7 := dpAll_len d7
      unfold ndsD at l7
      rw [List.length_map, comp_len] at l7
      have hG7n : G7 pn = none := gr7.free hGcn (by rw [e5]; exact fun z => nomatch z)
      refine ⟨pn, p7, _, _, rfl, rfl, s7 _ _ e5, e7, ?_, ?_⟩
      · rw [sizeLine_eq]
        omega
      refine ⟨same_set (s05.trans s7) hpn, G7, r, done ++ comp st (f + done.length) (foll r (f + done.length) (sz st) a), _, _, _, _, _, rfl, same_set sG7 hG7n, ⟨gr.sub.trans gr7.sub, fun b hb => ?_⟩, hG7n, upd_same, ?_, hr', okR, by omega, ?_, ?_⟩
      · rcases gr7.new b hb with h | h
        · exact gr.new b h
        · exact .inr (s05.free h)
      · rw [ndsD_app]
        exact dpAll_app (dpAll_sub gr7.sub hdn) d7
      · rw [hcmp, comp_split one, List.append_assoc, List.length_append, comp_len, ← Nat.add_assoc]
      · rw [List.length_append, comp_len]
        omega
    · rintro σ H2 ⟨sm, Gc, ci, done, ns, o1, o2, o3, o4, rfl, sGc, gr, hGcn, hns, hdn, hci, hoki, hdi, hcmp, hsz⟩
      rw [hl, List.drop_length] at hci
      have hnil : ci = .nil := by
        cases ci with
        | nil => rfl
        | ap t r => cases hci
        | cf n a b r => cases hci
      subst hnil
      have e9 : comp c f a = done := by
        rw [hcmp]
        exact List.append_nil _
      rw [e9] at q
      exact ⟨_, rfl, q H2 Gc pn ns sm sGc gr hpn hGcn hns hdn⟩
def spCompC (K : PySem.W.Frag) : Sp := fun vs H Q _ => ∃ (v : V) (G : Hp) (c : Ct), vs = [v] ∧ Same G H ∧ Dp K G v (.tuple (progL c)) ∧ okC c ∧ dpt c ≤ 5 ∧ sz c ≤ 1000 ∧ NdsOut K G H (comp c 0 (-1)) Q
theorem ok_compC {f : Addr} {fd : FuncData} {k : Nat} (hk : 8 ≤ k) (F : Fun K "compile_control" "compile_control" sCompC f fd) (T : Gk K mg) (D1 : Df P w K mg base CX0 1 "control_of" ["program"] (spAcc K 7)) (D2 : Df P w K mg base CX0 k "compile_statements" ["program", "statements", "first", "after"] (spStms K 6)) :
    FnOk P w K mg base CX0 (k + 1) f fd ["program"] (spCompC K) := by
  obtain ⟨f1, fd1, G1, g1, k1, b1⟩ := D1.ex
  obtain ⟨f2, fd2, G2, g2, k2, b2⟩ := D2.ex
  obtain ⟨uE, gE, rE⟩ := T.END
  refine F.ok scCompC (fun vs H Q E h => ?_) (fun cdv A outer s H vs Q E hr h => ?_)
  · obtain ⟨v, G, c, rfl, _⟩ := h
    rfl
  · obtain ⟨v, G, c, rfl, sG, hD, hok, hdp, hz, q⟩ := h
    have hr1 : Room 1 _ := hr.mono (by omega)
    refine ⟨_, pss_one (ps_ret (pe_call G2 hr (by rfl) g2 k2 b2 .nil pass0 (pa_cons (pv 0) (pa_cons (pe_call G1 hr1 (by rfl) g1 k1 b1 .nil pass0 (pa_cons (pv 0) pa_nil)) (pa_cons pe_int (pa_cons (pe_glob rfl gE rE) pa_nil)))))), ?_⟩
    exact ⟨_, rfl, _, rfl, v, G, _, _, rfl, sG, hD, rfl, fun x hx => ⟨v, x, G, c, c, 0, -1, rfl, sG, hD, hx, hok, hdp, hz, q⟩⟩
end
end Pk
set_option Elab.async false
set_option linter.all false
set_option maxRecDepth 100000
set_option maxHeartbeats 4000000
namespace Pk
open PySem PySem.Spec PyProof.Rows L2
abbrev sCompA : Stmt := topS 49
abbrev sPref : Stmt := topS 56
abbrev sCompP : Stmt := topS 61
abbrev sCompSt : Stmt := topS 62
abbrev sGoal : Stmt := topS 64
abbrev sParU : Stmt := topS 68
abbrev sEmiU : Stmt := topS 69
abbrev sMem : Stmt := topS 70
abbrev NCA : List Str := ["program", "action", "_", "params", "operations", "names", "name", "operation"]
abbrev NPr : List Str := ["program", "table", "entries", "_", "keys", "ranks", "index", "items", "priority"]
abbrev NCP : List Str := ["program", "states", "steps", "state"]
abbrev NCSt : List Str := ["program", "state", "_", "header", "way", "valid", "parts", "widths", "width", "octets", "field", "rows", "other", "compiled", "row"]
abbrev NEm : List Str := ["program", "rows", "header", "sizes", "width", "_", "cells"]
abbrev NMe : List Str := ["configuration", "node", "program", "entries", "_", "index", "keys", "name", "action", "args", "rows", "at"]
theorem scCompA : FnScope NCA ["program", "action"] (defScope sCompA) := ⟨rfl, rfl, rfl, by decide +kernel, rfl, by decide +kernel, by decide +kernel⟩
theorem scPref : FnScope NPr ["program", "table", "entries"] (defScope sPref) := ⟨rfl, rfl, rfl, by decide +kernel, rfl, by decide +kernel, by decide +kernel⟩
theorem scCompP : FnScope NCP ["program"] (defScope sCompP) := ⟨rfl, rfl, rfl, by decide +kernel, rfl, by decide +kernel, by decide +kernel⟩
theorem scCompSt : FnScope NCSt ["program", "state"] (defScope sCompSt) := ⟨rfl, rfl, rfl, by decide +kernel, rfl, by decide +kernel, by decide +kernel⟩
theorem scGoal : FnScope ["program", "target"] ["program", "target"] (defScope sGoal) := ⟨rfl, rfl, rfl, by decide +kernel, rfl, by decide +kernel, by decide +kernel⟩
theorem scParU : FnScope ["program"] ["program"] (defScope sParU) := ⟨rfl, rfl, rfl, by decide +kernel, rfl, by decide +kernel, by decide +kernel⟩
theorem scEmiU : FnScope NEm ["program"] (defScope sEmiU) := ⟨rfl, rfl, rfl, by decide +kernel, rfl, by decide +kernel, by decide +kernel⟩
theorem scMem : FnScope NMe ["configuration", "node"] (defScope sMem) := ⟨rfl, rfl, rfl, by decide +kernel, rfl, by decide +kernel, by decide +kernel⟩
section
variable {P : Program} {w : World} {K : PySem.W.Frag} {mg : Str → Option Value} {base : Heap}
/-- anything comes back -/
def Any (H : Hp) (Q : VK) : Prop := ∀ H' x, Same H H' → Q x H'
def spCompA (K : PySem.W.Frag) : Sp := fun vs H Q _ => ∃ (v : V) (G : Hp) (c : Ct), vs = [v, .str "a"] ∧ Same G H ∧ Dp K G v (.tuple (progL c)) ∧ Any H Q
theorem ac_nm : ∀ e ∈ [acD], ∃ n, e[1]? = some (PyData.str n) := fun e he => by
  obtain rfl := List.mem_singleton.mp he
  exact ⟨_, rfl⟩
theorem ok_compA {f : Addr} {fd : FuncData} {k : Nat} (F : Fun K "compile_action" "compile_action" sCompA f fd) (D1 : Df P w K mg base CX0 (k + 1) "actions_of" ["program"] (spAcc K 5)) (D2 : Df P w K mg base CX0 (k + 1) "part_named" ["parts", "name"] (spPart K)) :
    FnOk P w K mg base CX0 (k + 2) f fd ["program", "action"] (spCompA K) := by
  obtain ⟨f1, fd1, G1, g1, k1, b1⟩ := D1.ex
  obtain ⟨f2, fd2, G2, g2, k2, b2⟩ := D2.ex
  refine F.ok scCompA (fun vs H Q E h => ?_) (fun cdv A outer s H vs Q E hr h => ?_)
  · obtain ⟨v, G, c, rfl, _⟩ := h
    rfl
  · obtain ⟨v, G, c, rfl, sG, hD, q⟩ := h
    have nd := scCompA.nd
    refine ⟨_, pss_cons (ps_asg (pe_call G2 hr (by rfl) g2 k2 b2 .nil pass0 (pa_cons (pe_call G1 hr (by rfl) g1 k1 b1 .nil pass0 (pa_cons (pv 0) pa_nil)) (pa_cons (pv 1) pa_nil))) (pg_tup rfl (pgs_cons (pg_name (i := 2) nd rfl (.inl rfl)) (pgs_cons (pg_name (i := 2) nd rfl (.inl rfl)) (pgs_cons (pg_name (i := 3) nd rfl (.inl rfl)) (pgs_cons (pg_name (i := 4) nd rfl (.inl rfl)) pgs_nil))))))
      (pss_cons (ps_set (i := 5) nd rfl (.inr rfl) (pe_lc (own := [("name", 6), ("_", 2)]) (tt := tYes) rfl nd (pi_list (pv 3)) (blkOk_by (N := NCA) (sc := defScope sCompA) (by decide +kernel)) (fun _ _ _ _ _ => pg_nev) (fun _ _ _ _ _ => pts_nil) (fun _ _ _ _ _ => pe_nev)))
      (pss_one (ps_ret (pe_lc (own := [("operation", 7)]) (tt := tYes) rfl nd (pi_list (pv 4)) (blkOk_by (N := NCA) (sc := defScope sCompA) (by decide +kernel)) (fun _ _ _ _ _ => pg_nev) (fun _ _ _ _ _ => pts_nil) (fun _ _ _ _ _ => pe_nev))))), ?_⟩
    refine ⟨_, rfl, v, G, _, _, rfl, sG, hD, rfl, fun x hx => ⟨_, rfl, x, G, [acD], _, 0, acD, rfl, sG, hx, ac_nm, rfl, rfl, fun j e' hj => absurd hj (Nat.not_lt_zero _), fun y hy => ?_⟩⟩
    obtain ⟨py, ys, rfl, y1, y2⟩ := dp_tup hy
    obtain ⟨v0, r, rfl, e0, y2⟩ := dpAll_cons y2
    obtain ⟨v1, r, rfl, e1, y2⟩ := dpAll_cons y2
    obtain ⟨v2, r, rfl, e2, y2⟩ := dpAll_cons y2
    obtain ⟨v3, r, rfl, e3, y2⟩ := dpAll_cons y2
    obtain rfl := dpAll_nil y2
    obtain ⟨p2, z2, rfl, z3, z4⟩ := dp_lst e2
    obtain rfl := dpAll_nil z4
    obtain ⟨p3, u2, rfl, u3, u4⟩ := dp_lst e3
    obtain rfl := dpAll_nil u4
    refine ⟨py, _, rfl, sqT_sub sG y1, rfl, _, _, rfl, _, _, rfl, _, _, rfl, _, _, rfl, rfl, ?_⟩
    refine ⟨_, rfl, p2, rfl, ⟨_, sqL_sub sG z3⟩, fun D hD1 => lc_list (K := K) (a := p2) (xs := []) (fun i H2 => Same H H2 ∧ H2 D = some (.lst [])) ⟨same_new hD1, upd_same⟩ (fun i H2 _ h => h.1.seq (sqL_sub sG z3)) (fun i y H2 hi _ => by cases hi) ?_⟩
    rintro H2 ⟨s2, e2'⟩
    refine ⟨_, rfl, p3, rfl, ⟨_, sqL_sub (sG.trans s2) u3⟩, fun D hD2 => lc_list (K := K) (a := p3) (xs := []) (fun i H3 => Same H2 H3) (same_new hD2) (fun i H3 _ h => h.seq (sqL_sub (sG.trans s2) u3)) (fun i y H2 hi _ => by cases hi) ?_⟩
    intro H3 s3
    exact q _ _ (s2.trans s3)
def spPref (K : PySem.W.Frag) : Sp := fun vs H Q _ => ∃ (v : V) (G : Hp) (c : Ct) (t : Nat) (pe : Addr), vs = [v, .str (tnm t), .ref pe] ∧ t < 3 ∧ Same G H ∧ Dp K G v (.tuple (progL c)) ∧ SqL K H pe [] ∧ ∀ H' p, Same H H' → H p = none → H' p = some (.lst []) → Q (.ref p) H'
theorem ok_pref {f : Addr} {fd : FuncData} {k : Nat} (F : Fun K "preferred" "preferred" sPref f fd) (T : Gk K mg) (D1 : Df P w K mg base CX0 (k + 1) "tables_of" ["program"] (spAcc K 6)) (D2 : Df P w K mg base CX0 (k + 1) "part_named" ["parts", "name"] (spPart K)) :
    FnOk P w K mg base CX0 (k + 2) f fd ["program", "table", "entries"] (spPref K) := by
  obtain ⟨f1, fd1, G1, g1, k1, b1⟩ := D1.ex
  obtain ⟨f2, fd2, G2, g2, k2, b2⟩ := D2.ex
  refine F.ok scPref (fun vs H Q E h => ?_) (fun cdv A outer s H vs Q E hr h => ?_)
  · obtain ⟨v, G, c, t, pe, rfl, _⟩ := h
    rfl
  · obtain ⟨v, G, c, t, pe, rfl, ht, sG, hD, hE, q⟩ := h
    have nd := scPref.nd
    refine ⟨_, pss_cons (ps_asg (pe_call G2 hr (by rfl) g2 k2 b2 .nil pass0 (pa_cons (pe_call G1 hr (by rfl) g1 k1 b1 .nil pass0 (pa_cons (pv 0) pa_nil)) (pa_cons (pv 1) pa_nil))) (pg_tup rfl (pgs_cons (pg_name (i := 3) nd rfl (.inl rfl)) (pgs_cons (pg_name (i := 3) nd rfl (.inl rfl)) (pgs_cons (pg_name (i := 4) nd rfl (.inl rfl)) (pgs_cons (pg_name (i := 3) nd rfl (.inl rfl)) (pgs_cons (pg_name (i := 3) nd rfl (.inl rfl)) (pgs_cons (pg_name (i := 3) nd rfl (.inl rfl)) pgs_nil))))))))
      (pss_cons (ps_set (i := 5) nd rfl (.inl rfl) (pe_lst pa_nil))
      (pss_cons (ps_for PassesOwn.never rfl (pi_enum (by rfl) T.zEnum (pa_cons (pv 2) pa_nil)) pg_nev pss_never)
      (pss_one (ps_ret (pe_lc (own := [("index", 6), ("_", 3)]) (tt := tYes) rfl nd (pi_list (pe_callB cr_sorted (by rfl) T.zSorted (by decide +kernel) (pa_cons (pv 5) pa_nil))) (blkOk_by (N := NPr) (sc := defScope sPref) (by decide +kernel)) (fun _ _ _ _ _ => pg_nev) (fun _ _ _ _ _ => pts_nil) (fun _ _ _ _ _ => pe_nev)))))), ?_⟩
    obtain ⟨ht1, ht2⟩ := tbl_at ht
    refine ⟨_, rfl, v, G, _, _, rfl, sG, hD, rfl, fun x hx => ⟨_, rfl, x, G, tblsD, tnm t, t, tblD t, rfl, sG, hx, tbls_nm, ht1, rfl, ht2, fun y hy => ?_⟩⟩
    obtain ⟨py, ys, rfl, y1, y2⟩ := dp_tup hy
    obtain ⟨v0, r, rfl, e0, y2⟩ := dpAll_cons y2
    obtain ⟨v1, r, rfl, e1, y2⟩ := dpAll_cons y2
    obtain ⟨v2, r, rfl, e2, y2⟩ := dpAll_cons y2
    obtain ⟨v3, r, rfl, e3, y2⟩ := dpAll_cons y2
    obtain ⟨v4, r, rfl, e4, y2⟩ := dpAll_cons y2
    obtain ⟨v5, r, rfl, e5, y2⟩ := dpAll_cons y2
    obtain rfl := dpAll_nil y2
    refine ⟨py, _, rfl, sqT_sub sG y1, rfl, _, _, rfl, _, _, rfl, _, _, rfl, _, _, rfl, _, _, rfl, _, _, rfl, rfl, ?_⟩
    refine ⟨by show 0 ≤ sizeLine; exact Nat.zero_le _, fun pr hpr => ?_⟩
    have s1 := same_new (o := .lst []) hpr
    have e1' : (upd H pr (.lst [])) pr = some (.lst []) := upd_same
    generalize upd H pr (.lst []) = H1 at s1 e1' ⊢
    refine ⟨_, rfl, pe, [], rfl, s1.seq hE, for_it (walk_enum (K := K) (a := pe) (xs := [])) (fun i σ H2 => H2 = H1 ∧ σ[5]? = some (some (.ref pr)) ∧ σ.length = 9) ⟨rfl, rfl, rfl⟩ (fun i σ H2 _ h => by rw [h.1]; exact s1.seq hE) (fun i y σ H2 H3 hi => absurd hi (Nat.not_lt_zero _)) ?_⟩
    rintro σ H2 ⟨rfl, h5, h9⟩
    refine ⟨_, h5, pr, [], rfl, SqL.of e1', by decide, fun ns' p hperm _ hp => ?_⟩
    obtain rfl : ns' = [] := List.perm_nil.mp hperm
    have s2 := same_new (o := .lst ([].map V.int)) hp
    have e2' : (upd H2 p (.lst ([].map V.int))) p = some (.lst []) := upd_same
    generalize upd H2 p (.lst ([].map V.int)) = H3 at s2 e2' ⊢
    refine ⟨p, rfl, ⟨_, SqL.of e2'⟩, fun D hD1 => lc_list (K := K) (a := p) (xs := []) (fun i H4 => Same H3 H4 ∧ H4 D = some (.lst [])) ⟨same_new hD1, upd_same⟩ (fun i H4 _ h => h.1.seq (SqL.of e2')) (fun i y H2 hi _ => by cases hi) ?_⟩
    rintro H4 ⟨s4, e4'⟩
    exact q _ D ((s1.trans s2).trans s4) ((s1.trans s2).free hD1) e4'
def spGoal : Sp := fun vs H Q _ => ∃ (v : V), vs = [v, .str "accept"] ∧ Any H Q
theorem ok_goal {f : Addr} {fd : FuncData} {k : Nat} (F : Fun K "goal_of" "goal_of" sGoal f fd) (T : Gk K mg) : FnOk P w K mg base CX0 (k + 1) f fd ["program", "target"] spGoal := by
  obtain ⟨uA, gA, rA⟩ := T.ACC
  refine F.ok scGoal (fun vs H Q E h => ?_) (fun cdv A outer s H vs Q E hr h => ?_)
  · obtain ⟨v, rfl, _⟩ := h
    rfl
  · obtain ⟨v, rfl, q⟩ := h
    refine ⟨_, pss_cons (ps_if (pt_cmpR op_eq (pv 1) pe_str (nomark _)) (pss_one (ps_ret (pe_glob rfl gA rA))) pss_nil) pss_never, ?_⟩
    refine ⟨_, rfl, rfl, _, rfl, ?_⟩
    rw [dcStr]
    exact iteDT rfl (q _ _ (Same.refl _))
def spCompSt (K : PySem.W.Frag) : Sp := fun vs H Q _ => ∃ (v u : V) (G : Hp), vs = [v, u] ∧ Same G H ∧ Dp K G u (.tuple stD) ∧ Any H Q
theorem ok_compSt {f : Addr} {fd : FuncData} {k : Nat} (F : Fun K "compile_state" "compile_state" sCompSt f fd) (T : Gk K mg) (D1 : Df P w K mg base CX0 (k + 1) "goal_of" ["program", "target"] spGoal) : FnOk P w K mg base CX0 (k + 2) f fd ["program", "state"] (spCompSt K) := by
  obtain ⟨f1, fd1, G1, g1, k1, b1⟩ := D1.ex
  obtain ⟨uO, gO, rO⟩ := T.OCT
  refine F.ok scCompSt (fun vs H Q E h => ?_) (fun cdv A outer s H vs Q E hr h => ?_)
  · obtain ⟨v, u, G, rfl, _⟩ := h
    rfl
  · obtain ⟨v, u, G, rfl, sG, hu, q⟩ := h
    have nd := scCompSt.nd
    refine ⟨_, pss_cons (ps_asg (pv 1) (pg_tup rfl (pgs_cons (pg_name (i := 2) nd rfl (.inl rfl)) (pgs_cons (pg_name (i := 2) nd rfl (.inl rfl)) (pgs_cons (pg_name (i := 3) nd rfl (.inl rfl)) (pgs_cons (pg_name (i := 4) nd rfl (.inl rfl)) pgs_nil))))))
      (pss_cons (ps_set (i := 5) nd rfl (.inl rfl) pe_non)
      (pss_cons (ps_set (i := 6) nd rfl (.inl rfl) (pe_lst pa_nil))
      (pss_cons (ps_if (pt_cmpR op_notN (pv 3) pe_non (nomark _)) pss_never pss_nil)
      (pss_cons (ps_set (i := 9) nd rfl (.inl rfl) (pe_op op_fdivN (pe_callB (cr_sum rfl) (by rfl) T.zSum (by decide +kernel) (pa_cons (pe_lc (own := [("width", 8), ("_", 2)]) (tt := tYes) rfl nd (pi_list (pv 6)) (blkOk_by (N := NCSt) (sc := defScope sCompSt) (by decide +kernel)) (fun _ _ _ _ _ => pg_nev) (fun _ _ _ _ _ => pts_nil) (fun _ _ _ _ _ => pe_nev)) pa_nil)) (pe_glob rfl gO rO)))
      (pss_cons (ps_if (pt_cmpR op_eq (pe_ix ix_tup (pv 4) pe_int (fun _ _ => rfl)) pe_str (nomark _)) (pss_one (ps_ret (pe_tup (pa_cons (pv 5) (pa_cons (pv 6) (pa_cons (pv 9) (pa_cons pe_non (pa_cons (pe_lst pa_nil) (pa_cons (pe_call G1 hr (by rfl) g1 k1 b1 .nil pass0 (pa_cons (pv 0) (pa_cons (pe_ix ix_tup (pv 4) pe_int (fun _ _ => rfl)) pa_nil))) pa_nil))))))))) pss_nil)
      pss_never))))), ?_⟩
    obtain ⟨py, ys, rfl, y1, y2⟩ := dp_tup hu
    obtain ⟨v0, r, rfl, e0, y2⟩ := dpAll_cons y2
    obtain ⟨v1, r, rfl, e1, y2⟩ := dpAll_cons y2
    obtain ⟨v2, r, rfl, e2, y2⟩ := dpAll_cons y2
    obtain ⟨v3, r, rfl, e3, y2⟩ := dpAll_cons y2
    obtain rfl := dpAll_nil y2
    obtain rfl := dp_non e2
    obtain ⟨pw, ws, rfl, w1, w2⟩ := dp_tup e3
    obtain ⟨w0, r, rfl, x0, w2⟩ := dpAll_cons w2
    obtain ⟨w1', r, rfl, x1, w2⟩ := dpAll_cons w2
    obtain rfl := dpAll_nil w2
    obtain rfl := dp_str x0
    obtain rfl := dp_str x1
    refine ⟨_, rfl, py, _, rfl, sqT_sub sG y1, rfl, _, _, rfl, _, _, rfl, _, _, rfl, _, _, rfl, rfl, ?_⟩
    refine ⟨by show 0 ≤ sizeLine; exact Nat.zero_le _, fun pr hpr => ?_⟩
    have s1 := same_new (o := .lst []) hpr
    have e1' : (upd H pr (.lst [])) pr = some (.lst []) := upd_same
    generalize upd H pr (.lst []) = H1 at s1 e1' ⊢
    refine ⟨_, rfl, rfl, _, rfl, iteNS rfl ?_⟩
    refine ⟨_, rfl, pr, rfl, ⟨_, SqL.of e1'⟩, fun D hD1 => lc_list (K := K) (a := pr) (xs := []) (fun i H4 => Same H1 H4 ∧ H4 D = some (.lst [])) ⟨same_new hD1, upd_same⟩ (fun i H4 _ h => h.1.seq (SqL.of e1')) (fun i y H2 hi _ => by cases hi) ?_⟩
    rintro H2 ⟨s2, e2'⟩
    have sA := s1.trans s2
    refine ⟨D, [], rfl, SqL.of e2', _, _, rfl, rfl, ⟨by decide, by decide⟩, ?_⟩
    refine ⟨_, rfl, pw, _, _, _, rfl, rfl, sqT_sub (sG.trans sA) w1, atI_nat (j := 0) rfl, rfl, _, rfl, ?_⟩
    rw [dcStr]
    refine iteDT rfl ⟨_, rfl, _, rfl, _, rfl, (by show 0 ≤ sizeLine; exact Nat.zero_le _), fun p6 hp6 => ?_⟩
    have s6 := same_new (o := .lst []) hp6
    refine ⟨_, rfl, _, rfl, pw, _, _, _, rfl, rfl, sqT_sub (sG.trans (sA.trans s6)) w1, atI_nat (j := 1) rfl, _, rfl, fun H7 x7 s7 => ⟨(by show 6 ≤ sizeLine; decide), fun p8 hp8 => ?_⟩⟩
    exact q _ _ (((sA.trans s6).trans s7).trans (same_new hp8))
end
end Pk
set_option Elab.async false
set_option linter.all false
set_option maxRecDepth 100000
set_option maxHeartbeats 4000000
namespace Pk
open PySem PySem.Spec PyProof.Rows L2
section
variable {P : Program} {w : World} {K : PySem.W.Frag} {mg : Str → Option Value} {base : Heap}
def spProgA (K : PySem.W.Frag) : Sp := fun vs H Q _ => ∃ (v : V) (G : Hp) (c : Ct), vs = [v] ∧ Same G H ∧ Dp K G v (.tuple (progL c)) ∧ Any H Q
theorem st_nm : ∀ e ∈ [stD], ∃ n, e[1]? = some (PyData.str n) := fun e he => by
  obtain rfl := List.mem_singleton.mp he
  exact ⟨_, rfl⟩
theorem ok_compP {f : Addr} {fd : FuncData} {k : Nat} (F : Fun K "compile_parser" "compile_parser" sCompP f fd) (T : Gk K mg) (D1 : Df P w K mg base CX0 (k + 1) "states_of" ["program"] (spAcc K 4)) (D2 : Df P w K mg base CX0 (k + 2) "compile_state" ["program", "state"] (spCompSt K)) (D3 : Df P w K mg base CX0 (k + 1) "names_of" ["parts"] (spNames K)) :
    FnOk P w K mg base CX0 (k + 3) f fd ["program"] (spProgA K) := by
  obtain ⟨f1, fd1, G1, g1, k1, b1⟩ := D1.ex
  obtain ⟨f2, fd2, G2, g2, k2, b2⟩ := D2.ex
  obtain ⟨f3, fd3, G3, g3, k3, b3⟩ := D3.ex
  obtain ⟨uF, gF, rF⟩ := T.FST
  refine F.ok scCompP (fun vs H Q E h => ?_) (fun cdv A outer s H vs Q E hr h => ?_)
  · obtain ⟨v, G, c, rfl, _⟩ := h
    rfl
  · obtain ⟨v, G, c, rfl, sG, hD, q⟩ := h
    have nd := scCompP.nd
    have hr1 : Room (k + 1) _ := hr.mono (by omega)
    refine ⟨_, pss_cons (ps_set (i := 1) nd rfl (.inl rfl) (pe_call G1 hr1 (by rfl) g1 k1 b1 .nil pass0 (pa_cons (pv 0) pa_nil)))
      (pss_cons (ps_setLc (i := 2) (own := [("state", 3)]) (g := gName 3) (tt := tYes) rfl nd rfl rfl (sw_true rfl rfl rfl (by decide +kernel)) (pi_list (pv 1)) (blkOk_by (N := NCP) (sc := defScope sCompP) (by decide +kernel)) (fun _ _ _ _ _ => pg_name (i := 3) nd rfl (Or.inl rfl)) (fun _ _ _ _ _ => pts_nil)
        (fun _ _ _ _ _ => pe_call G2 hr (by rfl) g2 k2 b2 .nil pass0 (pa_cons (pv 0) (pa_cons (pv 3) pa_nil))))
      (pss_one (ps_ret (pe_tup (pa_cons (pv 2) (pa_cons (pe_bm PySem.F.plainAttrs_list PySem.F.slot_list_index PySem.F.type_list_index mt_index (pe_call G3 hr1 (by rfl) g3 k3 b3 .nil pass0 (pa_cons (pv 1) pa_nil)) (pa_cons (pe_glob rfl gF rF) pa_nil)) pa_nil)))))), ?_⟩
    refine ⟨_, rfl, v, G, _, _, rfl, sG, hD, rfl, fun x hx => ?_⟩
    obtain ⟨ps, ss, rfl, h1, h2⟩ := dp_lst hx
    obtain ⟨v0, r, rfl, e0, h2⟩ := dpAll_cons h2
    obtain rfl := dpAll_nil h2
    refine ⟨_, rfl, ps, rfl, ⟨_, sqL_sub sG h1⟩, fun D hD1 => lc_list (K := K) (a := ps) (xs := [v0]) (fun i H2 => Same H H2 ∧ ∃ acc, H2 D = some (.lst acc) ∧ acc.length = i) ⟨same_new hD1, [], upd_same, rfl⟩ (fun i H2 _ h => h.1.seq (sqL_sub sG h1)) ?_ ?_⟩
    · rintro i y H2 hi ⟨sm, acc, e2, e3⟩
      match i, hi with
      | 0, hi =>
        cases hi
        refine ⟨rfl, _, rfl, _, rfl, v, v0, G, rfl, sG.trans sm, e0, fun H3 x3 s3 => ⟨acc, s3 _ _ e2, small1000 (by omega), same_set (sm.trans s3) hD1, _, upd_same, ?_⟩⟩
        rw [List.length_append, e3]
        rfl
      | i + 1, hi => cases hi
    · rintro H2 ⟨sm, acc, e2, e3⟩
      refine ⟨_, rfl, _, rfl, .ref ps, G, [stD], [stD].map nm2, rfl, sG.trans sm, hx, (show 1 ≤ 1000 by decide), st_nm, rfl, fun H3 pn s3 n3 e3' => ?_⟩
      have en : [stD].map nm2 = [Str.ofString "start"] := congrArg (fun x => [x]) (nm2_of (e := stD) rfl)
      rw [en] at e3'
      generalize Str.ofString "start" = nm at e3' ⊢
      refine ⟨.inl ⟨rfl, _, SqL.of e3'⟩, pn, [.str nm], .str nm, 0, .str nm, rfl, rfl, SqL.of e3', rfl, rfl, rfl, (show (nm == nm) = true from beq_self_eq_true nm), fun m z hm => absurd hm (Nat.not_lt_zero _), ?_⟩
      exact ⟨(by show 2 ≤ sizeLine; decide), fun p hp => q _ _ ((sm.trans s3).trans (same_new hp))⟩
theorem ok_parU {f : Addr} {fd : FuncData} {k : Nat} (F : Fun K "parser_unit" "parser_unit" sParU f fd) (T : Gk K mg) (D1 : Df P w K mg base CX0 (k + 3) "compile_parser" ["program"] (spProgA K)) (D2 : Df P w K mg base CX0 (k + 3) "widths" ["program"] (spWidths K)) : FnOk P w K mg base CX0 (k + 4) f fd ["program"] (spProgA K) := by
  obtain ⟨f1, fd1, G1, g1, k1, b1⟩ := D1.ex
  obtain ⟨f2, fd2, G2, g2, k2, b2⟩ := D2.ex
  refine F.ok scParU (fun vs H Q E h => ?_) (fun cdv A outer s H vs Q E hr h => ?_)
  · obtain ⟨v, G, c, rfl, _⟩ := h
    rfl
  · obtain ⟨v, G, c, rfl, sG, hD, q⟩ := h
    refine ⟨_, pss_one (ps_ret (pe_tup (pa_cons pe_str (pa_cons (pe_call G1 hr (by rfl) g1 k1 b1 .nil pass0 (pa_cons (pv 0) pa_nil)) (pa_cons (pe_callB call_len_seq (by rfl) T.zLen PySem.boot_len (pa_cons (pe_call G2 hr (by rfl) g2 k2 b2 .nil pass0 (pa_cons (pv 0) pa_nil)) pa_nil)) pa_nil))))), ?_⟩
    refine ⟨_, rfl, v, G, c, rfl, sG, hD, fun H2 x s2 => ⟨_, rfl, v, G, c, rfl, sG.trans s2, hD, fun H3 p s3 n3 e3 => ⟨p, _, rfl, .inl (SqL.of e3), (by show 3 ≤ sizeLine; decide), fun p4 hp4 => q _ _ ((s2.trans s3).trans (same_new hp4))⟩⟩⟩
theorem ok_emiU {f : Addr} {fd : FuncData} {k : Nat} (F : Fun K "emitter_unit" "emitter_unit" sEmiU f fd) (D1 : Df P w K mg base CX0 (k + 1) "emits_of" ["program"] (spAcc K 8)) : FnOk P w K mg base CX0 (k + 2) f fd ["program"] (spProgA K) := by
  obtain ⟨f1, fd1, G1, g1, k1, b1⟩ := D1.ex
  refine F.ok scEmiU (fun vs H Q E h => ?_) (fun cdv A outer s H vs Q E hr h => ?_)
  · obtain ⟨v, G, c, rfl, _⟩ := h
    rfl
  · obtain ⟨v, G, c, rfl, sG, hD, q⟩ := h
    have nd := scEmiU.nd
    refine ⟨_, pss_cons (ps_set (i := 1) nd rfl (.inl rfl) (pe_lst pa_nil))
      (pss_cons (ps_for PassesOwn.never rfl (pi_list (pe_call G1 hr (by rfl) g1 k1 b1 .nil pass0 (pa_cons (pv 0) pa_nil))) pg_nev pss_never)
      (pss_one (ps_ret (pe_tup (pa_cons pe_str (pa_cons (pv 1) pa_nil)))))), ?_⟩
    refine ⟨by show 0 ≤ sizeLine; exact Nat.zero_le _, fun pr hpr => ?_⟩
    have s1 := same_new (o := .lst []) hpr
    generalize upd H pr (.lst []) = H1 at s1 ⊢
    refine ⟨_, rfl, v, G, _, _, rfl, sG.trans s1, hD, rfl, fun x hx => ?_⟩
    obtain ⟨pe, xs, rfl, h1, h2⟩ := dp_lst hx
    obtain rfl := dpAll_nil h2
    refine ⟨pe, rfl, ⟨_, sqL_sub (sG.trans s1) h1⟩, for_list (K := K) (a := pe) (xs := []) (fun i σ H2 => H2 = H1 ∧ σ[1]? = some (some (.ref pr))) ⟨rfl, rfl⟩ (fun i σ H2 _ h => by rw [h.1]; exact sqL_sub (sG.trans s1) h1) (fun i y σ H2 hi _ => by cases hi) ?_⟩
    rintro σ H2 ⟨rfl, h5⟩
    exact ⟨_, h5, (by show 2 ≤ sizeLine; decide), fun p hp => q _ _ (s1.trans (same_new hp))⟩
end
end Pk
set_option Elab.async false
set_option linter.all false
set_option maxRecDepth 100000
set_option maxHeartbeats 4000000
namespace Pk
open PySem PySem.Spec PyProof.Rows L2
section
variable {P : Program} {w : World} {K : PySem.W.Frag} {mg : Str → Option Value} {base : Heap}
/-- the entries: nothing for each table -/
def EntAt (H : Hp) (pd : Addr) : Prop := ∃ l0 l1 l2 : Addr, H pd = some (.dK [(.inr (tnm 0), .ref l0), (.inr (tnm 1), .ref l1), (.inr (tnm 2), .ref l2)]) ∧ H l0 = some (.lst []) ∧ H l1 = some (.lst []) ∧ H l2 = some (.lst [])
theorem EntAt.same {H H' : Hp} {pd : Addr} (h : EntAt H pd) (k : Same H H') : EntAt H' pd := by
  obtain ⟨l0, l1, l2, a, b, c, d⟩ := h
  exact ⟨l0, l1, l2, k _ _ a, k _ _ b, k _ _ c, k _ _ d⟩
theorem tnm_ne : ∀ a < 3, ∀ b < 3, a ≠ b → tnm a ≠ tnm b := by decide +kernel
theorem find_hit {k : Key} {v : V} {r : List (Key × V)} : valV ((k, v) :: r) k = some v := by
  unfold valV
  rw [List.find?_cons_of_pos (by exact decide_eq_true rfl)]
  rfl
theorem find_miss {k k' : Key} {v : V} {r : List (Key × V)} (h : k ≠ k') : valV ((k, v) :: r) k' = valV r k' := by
  unfold valV
  rw [List.find?_cons_of_neg (by exact fun z => h (of_decide_eq_true z))]
theorem key_ne {a b : Nat} (ha : a < 3) (hb : b < 3) (h : a ≠ b) : (Sum.inr (tnm a) : Key) ≠ .inr (tnm b) := fun z => tnm_ne a ha b hb h (Sum.inr.inj z)
theorem EntAt.get {H : Hp} {pd : Addr} {t : Nat} (h : EntAt H pd) (ht : t < 3) : ∃ l, DGet H pd (.str (tnm t)) (some (.ref l)) ∧ H l = some (.lst []) := by
  obtain ⟨l0, l1, l2, a, b, c, d⟩ := h
  rcases (by omega : t = 0 ∨ t = 1 ∨ t = 2) with rfl | rfl | rfl
  · exact ⟨l0, .inl ⟨_, .inr (tnm 0), .inl a, rfl, find_hit.symm⟩, b⟩
  · exact ⟨l1, .inl ⟨_, .inr (tnm 1), .inl a, rfl, by rw [find_miss (key_ne (by decide) (by decide) (by decide)), find_hit]⟩, c⟩
  · exact ⟨l2, .inl ⟨_, .inr (tnm 2), .inl a, rfl, by rw [find_miss (key_ne (by decide) (by decide) (by decide)), find_miss (key_ne (by decide) (by decide) (by decide)), find_hit]⟩, d⟩
def okN : Nd → Prop
  | .tb t _ => t < 3
  | _ => True
def spMem (K : PySem.W.Frag) : Sp := fun vs H Q _ => ∃ (v u : V) (G : Hp) (c : Ct) (nd : Nd) (pc pd : Addr), vs = [.ref pc, u] ∧ Same G H ∧ Dp K G v (.tuple (progL c)) ∧ SqT K H pc [v, .ref pd] ∧ EntAt H pd ∧ Dp K G u (.tuple (dN nd)) ∧ okN nd ∧ Any H Q
theorem ok_mem {f : Addr} {fd : FuncData} {k : Nat} (F : Fun K "memory_of" "memory_of" sMem f fd) (T : Gk K mg) (D1 : Df P w K mg base CX0 (k + 2) "tables_of" ["program"] (spAcc K 6)) (D2 : Df P w K mg base CX0 (k + 2) "preferred" ["program", "table", "entries"] (spPref K)) (D3 : Df P w K mg base CX0 (k + 2) "compile_action" ["program", "action"] (spCompA K)) :
    FnOk P w K mg base CX0 (k + 3) f fd ["configuration", "node"] (spMem K) := by
  obtain ⟨f1, fd1, G1, g1, k1, b1⟩ := D1.ex
  obtain ⟨f2, fd2, G2, g2, k2, b2⟩ := D2.ex
  obtain ⟨f3, fd3, G3, g3, k3, b3⟩ := D3.ex
  refine F.ok scMem (fun vs H Q E h => ?_) (fun cdv A outer s H vs Q E hr h => ?_)
  · obtain ⟨v, u, G, c, nd, pc, pd, rfl, _⟩ := h
    rfl
  · obtain ⟨v, u, G, c, node, pc, pd, rfl, sG, hD, hc, hE, hu, hok, q⟩ := h
    have nd := scMem.nd
    have hu1 := hu_of hr
    refine ⟨_, pss_cons (ps_if (pt_cmpR op_eq (pe_ix ix_tup (pv 1) pe_int (fun _ _ => rfl)) pe_str (nomark _)) (pss_one (ps_ret pe_non)) pss_nil)
      (pss_cons (ps_asg (pv 0) (pg_tup rfl (pgs_cons (pg_name (i := 2) nd rfl (.inl rfl)) (pgs_cons (pg_name (i := 3) nd rfl (.inl rfl)) pgs_nil))))
      (pss_cons (ps_asg (pv 1) (pg_tup rfl (pgs_cons (pg_name (i := 4) nd rfl (.inl rfl)) (pgs_cons (pg_name (i := 5) nd rfl (.inl rfl)) (pgs_cons (pg_name (i := 6) nd rfl (.inl rfl)) (pgs_cons (pg_name (i := 4) nd rfl (.inl rfl)) pgs_nil))))))
      (C8.pss_cut (ps_asg (pe_ix ix_list (pe_call G1 hr (by rfl) g1 k1 b1 .nil pass0 (pa_cons (pv 2) pa_nil)) (pv 5) (fun _ _ => rfl)) (pg_tup rfl (pgs_cons (pg_name (i := 4) nd rfl (.inl rfl)) (pgs_cons (pg_name (i := 7) nd rfl (.inl rfl)) (pgs_cons (pg_name (i := 4) nd rfl (.inl rfl)) (pgs_cons (pg_name (i := 4) nd rfl (.inl rfl)) (pgs_cons (pg_tup rfl (pgs_cons (pg_name (i := 8) nd rfl (.inl rfl)) (pgs_cons (pg_name (i := 9) nd rfl (.inl rfl)) pgs_nil))) (pgs_cons (pg_name (i := 4) nd rfl (.inl rfl)) pgs_nil))))))))
      (pss_cons (ps_set (i := 10) nd rfl (.inl rfl) (pe_lst pa_nil))
      (pss_cons (ps_for PassesOwn.never rfl (pi_list (pe_call G2 hr (by rfl) g2 k2 b2 .nil pass0 (pa_cons (pv 2) (pa_cons (pv 7) (pa_cons (pe_dget hu1 (pv 3) (pv 7) (fun _ _ => rfl)) pa_nil))))) pg_nev pss_never)
      (pss_one (ps_ret (pe_tup (pa_cons (pv 10) (pa_cons (pe_tup (pa_cons (pe_call G3 hr (by rfl) g3 k3 b3 .nil pass0 (pa_cons (pv 2) (pa_cons (pv 8) pa_nil))) (pa_cons (pe_callTy call_list_of (by rfl) T.zList (by decide +kernel) (pa_cons (pv 9) pa_nil)) pa_nil))) pa_nil)))))))))), ?_⟩
    obtain ⟨pn, xs, rfl, h1, h2⟩ := dp_tup hu
    have h1' := sqT_sub sG h1
    cases node with
    | ts n y z =>
      obtain ⟨v0, r, rfl, e0, h2⟩ := dpAll_cons h2
      obtain rfl := dp_str e0
      refine ⟨_, rfl, pn, _, _, _, rfl, rfl, h1', atI_nat (j := 0) rfl, rfl, _, rfl, ?_⟩
      rw [dcStr]
      exact iteDT rfl (q _ _ (Same.refl _))
    | tb t x =>
      obtain ⟨v0, r, rfl, e0, h2⟩ := dpAll_cons h2
      obtain ⟨v1, r, rfl, e1, h2⟩ := dpAll_cons h2
      obtain ⟨v2, r, rfl, e2, h2⟩ := dpAll_cons h2
      obtain ⟨v3, r, rfl, e3, h2⟩ := dpAll_cons h2
      obtain rfl := dpAll_nil h2
      obtain rfl := dp_str e0
      obtain rfl := dp_int e1
      have ht : t < 3 := hok
      refine ⟨_, rfl, pn, _, _, _, rfl, rfl, h1', atI_nat (j := 0) rfl, rfl, _, rfl, ?_⟩
      rw [dcStr]
      refine iteDF (by decide +kernel) ?_
      refine ⟨_, rfl, pc, _, rfl, hc, rfl, _, _, rfl, _, _, rfl, rfl, ?_⟩
      refine ⟨_, rfl, pn, _, rfl, h1', rfl, _, _, rfl, _, _, rfl, _, _, rfl, _, _, rfl, rfl, ?_⟩
      refine ⟨fun σ' H' => H' = H ∧ ∃ o4 o6 pz, σ' = [some (.ref pc), some (.ref pn), some v, some (.ref pd), o4, some (.int (t : Nat)), o6, some (.str (tnm t)), some (.str "a"), some (.ref pz), none, none] ∧ SqL K H pz [], ?_, ?_⟩
      · refine ⟨_, rfl, v, G, _, _, rfl, sG, hD, rfl, fun x hx => ?_⟩
        obtain ⟨pt, ts, rfl, t1, t2⟩ := dp_lst hx
        have htb : (tblsD.map PyData.tuple)[t]? = some (.tuple (tblD t)) := by rw [List.getElem?_map, (tbl_at ht).1]; rfl
        obtain ⟨w0, ew, hw⟩ := dpAll_at t2 htb
        obtain ⟨pw, ws, rfl, w1, w2⟩ := dp_tup hw
        obtain ⟨y0, r, rfl, a0, w2⟩ := dpAll_cons w2
        obtain ⟨y1, r, rfl, a1, w2⟩ := dpAll_cons w2
        obtain ⟨y2, r, rfl, a2, w2⟩ := dpAll_cons w2
        obtain ⟨y3, r, rfl, a3, w2⟩ := dpAll_cons w2
        obtain ⟨y4, r, rfl, a4, w2⟩ := dpAll_cons w2
        obtain ⟨y5, r, rfl, a5, w2⟩ := dpAll_cons w2
        obtain rfl := dpAll_nil w2
        obtain rfl := dp_str a1
        obtain ⟨pq, qs, rfl, q1, q2⟩ := dp_tup a4
        obtain ⟨z0, r, rfl, c0', q2⟩ := dpAll_cons q2
        obtain ⟨z1, r, rfl, c1, q2⟩ := dpAll_cons q2
        obtain rfl := dpAll_nil q2
        obtain rfl := dp_str c0'
        obtain ⟨pz, zs, rfl, zz1, zz2⟩ := dp_lst c1
        obtain rfl := dpAll_nil zz2
        refine ⟨_, rfl, pt, _, _, _, rfl, rfl, sqL_sub sG t1, atI_nat (j := t) ew, pw, _, rfl, sqT_sub sG w1, rfl, _, _, rfl, _, _, rfl, _, _, rfl, _, _, rfl, _, _, rfl, pq, _, rfl, sqT_sub sG q1, rfl, _, _, rfl, _, _, rfl, rfl, _, _, rfl, rfl, rfl, _, _, pz, rfl, sqL_sub sG zz1⟩
      rintro σ' H ⟨rfl, o4, o6, pz, rfl, zz1⟩
      refine ⟨by show 0 ≤ sizeLine; exact Nat.zero_le _, fun pr hpr => ?_⟩
      have s1 := same_new (o := .lst []) hpr
      generalize upd H pr (.lst []) = H1 at s1 ⊢
      have hE1 := hE.same s1
      obtain ⟨l, dg, el⟩ := hE1.get ht
      refine ⟨_, rfl, _, rfl, _, rfl, _, rfl, pd, _, rfl, dg, v, G, c, t, l, rfl, ht, sG.trans s1, hD, SqL.of el, fun H2 p2 s2 n2 e2' => ?_⟩
      refine ⟨p2, rfl, ⟨_, SqL.of e2'⟩, for_list (K := K) (a := p2) (xs := []) (fun i σ H3 => H3 = H2 ∧ σ = [some (.ref pc), some (.ref pn), some v, some (.ref pd), o4, some (.int (t : Nat)), o6, some (.str (tnm t)), some (.str "a"), some (.ref pz), some (.ref pr), none]) ⟨rfl, rfl⟩ (fun i σ H2 _ h => by rw [h.1]; exact SqL.of e2') (fun i y σ H2 hi _ => by cases hi) ?_⟩
      rintro σ H3 ⟨rfl, rfl⟩
      refine ⟨_, rfl, _, rfl, _, rfl, v, G, c, rfl, (sG.trans s1).trans s2, hD, fun H4 x4 s4 => ⟨_, rfl, pz, _, rfl, .inl (sqL_sub ((s1.trans s2).trans s4) zz1), fun l4 hl4 => ⟨(by show 2 ≤ sizeLine; decide), fun p5 hp5 => ⟨(by show 2 ≤ sizeLine; decide), fun p6 hp6 => ?_⟩⟩⟩⟩
      exact q _ _ (((((s1.trans s2).trans s4).trans (same_new hl4)).trans (same_new hp5)).trans (same_new hp6))
end
end Pk
set_option Elab.async false
set_option linter.all false
set_option maxRecDepth 100000
set_option maxHeartbeats 4000000
namespace PySem
namespace ErX
open PySem.W PySem.Calls PyProof.Rows PySem.HandSPX
/-! ### the text of an own error's __init__: super().__init__(f"pre{l}"), self.l = l -/
structure Ps where
  (a1 a2 b1 b2 b3 b4 b5 b6 b7 b8 b9 c1 c2 c3 c4 : Pos)
def iA (l : Str) (p : Ps) : Arguments := { posonlyargs := [], args := [{ arg := "self", annotation := none, pos := p.a1 }, { arg := l, annotation := none, pos := p.a2 }], vararg := none, kwonlyargs := [], kw_defaults := [], kwarg := none, defaults := [] }
def iC (l pre : Str) (p : Ps) : Expr := .Call (.Attribute (.Call (.Name "super" p.b1) [] [] p.b2) "__init__" p.b3) [.JoinedStr [.Constant (.str pre) 0 p.b4, .FormattedValue (.Name l p.b5) (-1) none p.b6] p.b7] [] p.b8
def iB (l pre : Str) (p : Ps) : List Stmt := [.Expr (iC l pre p) p.b9, .Assign [.Attribute (.Name "self" p.c1) l p.c2] (.Name l p.c3) p.c4]
def iS (l : Str) : Scope := { kind := .function, names := [(PySem.Str.ofString "self", .local), (l, .local), (PySem.Str.ofString "__class__", .free), (PySem.Str.ofString "super", .globalImplicit)], isGenerator := false, isCoroutine := false, more := [] }
/-- a text or an int, short -/
def VOk (v : Value) : Prop := (∃ y t, v = .str y t ∧ y.length ≤ 1000000) ∨ ∃ (i : Int) (t : PySem.Tok), v = .int i t ∧ i.natAbs.log2 < 1900
/-- what __init__ leaves of a fresh exception at x -/
structure InitEnd (h h' : Heap) (x C dx t1 : Addr) (l : Str) (v : Value) : Prop where
  keep : ∀ b o, b ≠ x → h.get? b = some o → h'.get? b = some o
  obj : h'.get? x = some { cls := .ref C, dict := some dx, data := .fields #[.ref t1, .none, .none, .none, .bool false, .none] }
  dbig : h.objs.size ≤ dx
  dne : dx ≠ x
  ns : h'.Ns1 dx (fun y => if y = l then some v else none)
structure ClsTxt (K : Frag) (C : Addr) : Prop where
  cls : ∃ nm q N bs bm sn sub ab col dd k0 k1 k2 k3 k5, K.lookup C = some (excClassObj nm q C N bs bm true sn sub ab col dd k0 k1 k2 k3 k5 "ValueError.__new__") ∧ refsVE bm = true
  sa : findIn K (.ref C) "__setattr__" = some (some (.builtin "object.__setattr__"))
  kC : keepIn K (.ref C) = true
  exC : subIn K (.ref C) (.type "BaseException") = some true
  veC : subIn K (.ref C) (.type "ValueError") = some true
  tyC : typeIn K (.ref C) = some (.type "type")
/-- the written part of such a def, at fI, of the class at C -/
structure InitTxt (prog : Program) (K : Frag) (C fI : Addr) (l pre qual : Str) : Prop where
  cls : ClsTxt K C
  noN : findIn K (.ref C) l = some none
  su : ks_superIn K C C "__init__" = some (some (.builtin "ValueError.__init__"))
  mrC : mroIn K C (.ref C) = some true
  iC : findIn K (.ref C) "__init__" = some (some (.ref fI))
  tC : typeIn K (.ref fI) = some (.type "function")
  tp : nsIn K cStatics "thirdparty.any" = some none
  top : (prog.main.scope.names.lookup ("super" : Str)).isSome = false
  fn : ∃ (oc : Value) (od : Option Addr) (doc pm : Value) (an : Option Addr) (cda cc : Addr) (ct : Value) (osl : Array (Option Value)) (p : Ps), (p.b3.endLine == p.b8.line) = true ∧
    K.lookup fI = some ⟨oc, od, .func (ksFn "__init__" qual (iA l p) (iB l pre p) (iS l) .none .none doc pm an (.ref cda) ct cc), osl⟩ ∧ codeIn K (.ref cda) qual = true ∧
    (∃ (ccl : Value) (cdd : Option Addr) (vs : Array Value) (ccs : Array (Option Value)) (file : Str) (tf : PySem.Tok), K.lookup cda = some ⟨ccl, cdd, .fields vs, ccs⟩ ∧ vs[2]? = some (.str file tf) ∧ ((prog.main.file : Str) == file) = true) ∧
    ∃ (cl : Value) (cld : Option Addr) (csl : Array (Option Value)), K.lookup cc = some ⟨cl, cld, .cell (some (.ref C)), csl⟩
theorem lt_size_of {n : Nat} (h : n ≤ 1000000 + 10) : n ≤ sizeLine := by rw [sizeLine_eq]; omega
section
variable {prog : Program} {w : World} {A : Around} {E : Value → Shared → Prop} {s : Shared} {h₀ : Heap} {Q : Value → Shared → Prop}
/-- super().__init__ bound to the exception at x, called -/
theorem call_mw {K : Frag} {C u x t0 : Addr} {rest : List Value} (T : ClsTxt K C) {h : Heap} {g : Array GenState} {d : Drawn} {t : Nat} {os : OsState} (X : K.In h) (hx : h.get? x = some (excO C t0)) (hu : h.get? u = some (kxs_mw "ValueError.__init__" x)) (hz : rest.length ≤ sizeLine)
    (hq : ∀ h' t1, (∀ b o, b ≠ x → h.get? b = some o → h'.get? b = some o) → h.objs.size ≤ h'.objs.size → h'.get? x = some (excO C t1) → Q .none ⟨h', g, d, t, os⟩) :
    wpAny (model prog w) A (call (.ref u) rest) Q E ⟨h, g, d, t, os⟩ := by
  obtain ⟨nm, q, N, bs, bm, sn, sub, ab, col, dd, k0, k1, k2, k3, k5, hC, hbm⟩ := T.cls
  refine wpAny_call (codeAny_of_tree ?_)
  show wpAny _ A.in1 (callAny (.ref u) ⟨rest, []⟩) _ _ _
  simp only [callAny]
  refine wpAny_bind (wpAny_load hu ?_)
  simp only [kxs_mw, show (Value.type "method-wrapper" == Value.type "method" || Value.type "method-wrapper" == Value.type "builtin_function_or_method" || Value.type "method-wrapper" == Value.type "method-wrapper") = true by decide, if_true]
  refine KFB.if_so (by decide) ?_
  refine wpAny_bind (check_bound_init F.excBase_ValueError.toExcCallFacts (X _ _ hC) hx rfl ?_)
  refine wpAny_bind (wpAny_pure (wpAny_pure ?_))
  refine ⟨plainId_quiet F.excBase_ValueError.init.plain _, codeAny_builtin F.excBase_ValueError.initEntry ?_⟩
  refine exc_init_tree (cls := .ref C) (t0 := t0) (dv := none) (c2 := .none) (c3 := .none) (b4 := .bool false) hx hz fun h' k e te => ?_
  exact hq h' _ k (Nat.le_of_lt (Heap.lt_size te)) e
/-- the text of the error -/
theorem ev_txt {env : Env} {l pre : Str} {p5 p6 p7 p4 : Pos} {v : Value} {m : Str → Option Value} {L : Addr} (hL : env.locals = L) (hn : s.heap.Ns L m) (hm : m l = some v) (hv : VOk v) (hpre : pre.length ≤ 10)
    (hk : env.scope.kind = .function) (hl : env.kindOf l = some .local) (hd : (l == ("__debug__" : Str)) = false) (h : ∀ y t t', Q (.str y t) { s with toks := t' }) :
    wpAny (model prog w) A (eval (.JoinedStr [.Constant (.str pre) 0 p4, .FormattedValue (.Name l p5) (-1) none p6] p7) env) Q E s := by
  subst hL
  refine wpAny_JoinedStr ?_
  show Joins _ _ _ [eval (.Constant (.str pre) 0 p4) env, eval (.FormattedValue (.Name l p5) (-1) none p6) env] _ _ _
  have le : (Str.empty : Str).length = 0 := rfl
  have hz0 : (Str.empty ++ pre).length ≤ sizeLine := by
    rw [Str.length_append, le, sizeLine_eq]
    omega
  refine Calls.Constant_str ⟨pre, _, rfl, hz0, ?_⟩
  refine wpAny_FormattedValue_plain (wpAny_Name (wpAny_loadName_local hk hl hn hm ?_) hd)
  have key : ∀ (y : Str) (t t' : Nat), y.length ≤ 1000000 → ∃ (y' : Str) (t2 : PySem.Tok), Value.str y t = .str y' t2 ∧ (Str.empty ++ pre ++ y').length ≤ sizeLine ∧ Joins (model prog w) A E [] (Str.empty ++ pre ++ y') (fun out s₁ => out.length ≤ sizeLine ∧ Q (.str out s₁.toks) { s₁ with toks := s₁.toks + 1 }) { s with toks := t' } := fun y t t' hy => by
    have hz : (Str.empty ++ pre ++ y).length ≤ sizeLine := by
      rw [Str.length_append, Str.length_append, le, sizeLine_eq]
      omega
    exact ⟨y, t, rfl, hz, hz, h _ _ _⟩
  rcases hv with ⟨y, t, rfl, hy⟩ | ⟨i, t, rfl, hi⟩
  · exact wpAny_formatField_str (key y t _ hy) (key y _ _ hy) (by rw [sizeLine_eq]; omega)
  · refine wpAny_formatField_int (by omega) (key (toString i) _ _ ?_)
    have e := int_text_length_le (k := 1920) (by decide) (a := i) (by omega)
    show (Str.ofString (toString i)).length ≤ _
    rw [ofString_length]
    omega
theorem env_kind {q : Str} {l : Str} {L a : Addr} {cd : Value} {cc : Addr} {x : Str} : (ksEnv q (iS l) L a cd cc).kindOf x = (iS l).names.lookup x := rfl
end
end ErX
end PySem
set_option Elab.async false
set_option linter.all false
set_option maxRecDepth 100000
set_option maxHeartbeats 4000000
namespace PySem
namespace ErX
open PySem.W PySem.Calls PyProof.Rows PySem.HandSPX
theorem no_cell {l : Str} : ∀ y ∈ (iS l).names, y.2 ≠ NameKind.cell := by
  intro y hy
  simp only [iS, List.mem_cons, List.not_mem_nil, or_false] at hy
  rcases hy with rfl | rfl | rfl | rfl <;> exact fun z => by cases z
theorem loc_all {l : Str} {a b : Value} (hl : l = "line" ∨ l = "rule" ∨ l = "reason") : ∀ y ∈ [((PySem.Str.ofString "self" : Str), a), (l, b)], (iS l).names.lookup y.1 = some NameKind.local := by
  intro y hy
  rcases List.mem_cons.mp hy with rfl | hy
  · rfl
  · obtain rfl := List.mem_singleton.mp hy
    rcases hl with rfl | rfl | rfl <;> rfl
theorem he_call {l pre : Str} {p : Ps} {env : Env} (h : (p.b3.endLine == p.b8.line) = true) : eval (iC l pre p) env = (do
      let ov ← attributeBase (.Call (.Name "super" p.b1) [] [] p.b2) "__init__" env (eval (.Call (.Name "super" p.b1) [] [] p.b2) env)
      standAt p.b3.atName
      let (f, first) ← holding [ov] (getMethod ov "__init__" (do return (← importBound (.Call (.Name "super" p.b1) [] [] p.b2) env).getD true))
      callWith p.b8 f first (backTo p.b8 (starEach [.JoinedStr [.Constant (.str pre) 0 p.b4, .FormattedValue (.Name l p.b5) (-1) none p.b6] p.b7] env)) []) := by
  unfold iC
  rw [arm_eval_Call]
  have e : ∀ ov, methodCall (.Call (.Name "super" p.b1) [] [] p.b2) "__init__" p.b3 p.b8 env ov 1 (backTo p.b8 (starEach [.JoinedStr [.Constant (.str pre) 0 p.b4, .FormattedValue (.Name l p.b5) (-1) none p.b6] p.b7] env)) [] = (do
      let (f, first) ← holding [ov] (getMethod ov "__init__" (do return (← importBound (.Call (.Name "super" p.b1) [] [] p.b2) env).getD true))
      callWith p.b8 f first (backTo p.b8 (starEach [.JoinedStr [.Constant (.str pre) 0 p.b4, .FormattedValue (.Name l p.b5) (-1) none p.b6] p.b7] env)) []) := fun ov => by
    unfold methodCall
    have hform : methodCallForm 1 (backTo p.b8 (starEach [.JoinedStr [.Constant (.str pre) 0 p.b4, .FormattedValue (.Name l p.b5) (-1) none p.b6] p.b7] env)) [] = true := rfl
    have hpos : methodCallPos true (.Call (.Name "super" p.b1) [] [] p.b2) env p.b3 p.b8 = pure p.b8 := by
      unfold methodCallPos
      rw [h]
      rfl
    rw [hform, hpos]
    rfl
  have e2 := funext e
  show (attributeBase _ _ _ _ >>= fun ov => standAt _ >>= fun _ => methodCall _ _ _ _ _ ov 1 _ []) = _
  simp only [e]
section
variable {prog : Program} {w : World} {A : Around} {R : Result → Shared → Prop} {K : Frag} {C fI : Addr} {l pre qual : Str}
theorem err_init {h₀ : Heap} {g : Array GenState} {d : Drawn} {t : Nat} {os : OsState} {mg mb : Str → Option Value} (T : InitTxt prog K C fI l pre qual) (hl : l = "line" ∨ l = "rule" ∨ l = "reason") (hpre : pre.length ≤ 10) {x t0 : Addr} {v : Value} (X : K.In h₀) (hlim : h₀.NoLimit) (hg : h₀.Ns mainGlobals mg) (hmg : mg "super" = none) (hb : h₀.Ns builtinsNs mb) (hmb : mb "super" = some (.type "super"))
    (hx : h₀.get? x = some (excO C t0)) (hnx : K.lookup x = none) (hroom : A.depth < recursionLimit) (hv : VOk v)
    (hq : ∀ h' tk dx t1, InitEnd h₀ h' x C dx t1 l v → R (.ok (.ret .none)) ⟨h', g, d, tk, os⟩) :
    codeAny (model prog w) A (.call (.ref fI) ⟨[.ref x, v], []⟩) R ⟨h₀, g, d, t, os⟩ := by
  obtain ⟨oc, od, doc, pm, an, cda, cc, ct, osl, p, hp, ho, hcd, ⟨ccl, cdd, vs, ccs, file, tf, hcode, hvs, hfile⟩, cl, cld, csl, hcell⟩ := T.fn
  obtain ⟨nm, q, N, bs, bm, sn, sub, ab, col, dd, k0, k1, k2, k3, k5, hC, hbm⟩ := T.cls.cls
  have hcl : clsIn K C = some { name := nm, bases := bs, mro := .ref C :: bm, ns := N, qualname := q, hasDict := true, slotNames := sn, subclasses := sub, abstract := ab, collection := col, hasDel := false } := by unfold clsIn; rw [hC] <;> rfl
  have hno := T.noN
  have hsu : alongIn K "__init__" (((Value.ref C :: bm).dropWhile (· != .ref C)).drop 1) = some (some (.builtin "ValueError.__init__")) := by
    have z := T.su
    unfold ks_superIn at z
    rw [hcl] at z
    exact z
  have xC : x ≠ C := fun z => by
    rw [z, X _ _ hC] at hx
    cases hx
  rcases hl with rfl | rfl | rfl
  all_goals
    refine ks_codeAny_call_defAt (fd := ksFn "__init__" qual (iA _ p) (iB _ pre p) (iS _) .none .none doc pm an (.ref cda) ct cc) (body := iB _ pre p) (binds := [("self", .ref x), (_, v)]) hroom (X _ _ ho) rfl hlim (codeRec_of X hcd) rfl (BindsTo.of_eq (by first | rfl | with_unfolding_all rfl)) no_cell (loc_all (by first | exact Or.inl rfl | exact Or.inr (Or.inl rfl) | exact Or.inr (Or.inr rfl))) (fun h₁ hns hk₁ => ?_) rfl rfl rfl
    have X₁ := X.keeps hk₁
    have hx₁ := hk₁ _ _ hx
    have s1 : h₀.objs.size < h₁.objs.size := hns.lt
    have hxL : x ≠ h₀.objs.size := Nat.ne_of_lt (Heap.lt_size hx)
    refine ks_wpAt_execs_cons (ks_wpAt_Expr_any (ks_wpAt_MethodCall ?_ (he_call hp)))
    refine ks_wpAt_super_base (ar := { arg := "self", annotation := none, pos := p.a1 }) rfl rfl rfl rfl (X₁ _ _ ho) rfl rfl rfl (X₁ _ _ hcode) rfl hvs hfile T.top ?_
    refine ks_loadName_global rfl rfl (loadGlobal_builtin (hg.keeps hk₁) hmg (hb.keeps hk₁) hmb ⟨rfl, ?_⟩)
    refine wpAny_loadName_free rfl rfl rfl ⟨_, X₁ _ _ hcell, rfl⟩ ?_
    refine wpAny_loadName_local rfl rfl hns (v := .ref x) (by first | rfl | with_unfolding_all rfl | kernel_rfl) ?_
    refine ks_wpAny_isType_cls (X₁ _ _ hC) rfl ⟨rfl, ?_⟩
    refine ks_wpAny_call_super (X₁ _ _ hC) rfl hx₁ rfl (fun c e => by cases e) (looks_mroIn X₁ T.mrC) (fun h₂ e₂ k₂ => ?_)
    have X₂ := X₁.keeps k₂
    have hx₂ := k₂ _ _ hx₁
    have I₂ : InstAt h₂ x (excO C t0) C none := ⟨hx₂, rfl, rfl, trivial⟩
    refine kxs_getMethod kxs_ValueError e₂ (looks_opaque X₂ T.tp) (l₀ := .ref C :: bm) ((looks_clsIn X₂ hcl).andThen .now) rfl X₂ hsu (I₂.type.andThen (looks_subIn X₂ T.cls.veC)) xC rfl ?_
    have hns₂ := hns.keeps k₂
    have k₃ : ∀ b o, h₂.get? b = some o → (h₂.push (kxs_mw "ValueError.__init__" x)).get? b = some o := fun b o e => Heap.get?_push_of_some _ e
    refine kxs_callWith (i := "ValueError.__init__") (x := x) rfl ?_
    refine evalArgs_plain (spliced_cons ?_)
    refine ev_txt (pre := pre) (p4 := p.b4) (p5 := p.b5) (p6 := p.b6) (p7 := p.b7) (m := fun y => List.lookup y (List.reverse [("self", .ref x), (_, v)])) rfl (hns₂.keeps k₃) (by first | rfl | with_unfolding_all rfl | kernel_rfl) hv hpre rfl rfl (by decide) fun y ty tk => ?_
    refine spliced_nil ⟨Heap.get?_push_at rfl rfl, ?_⟩
    refine call_mw T.cls (X₂.keeps k₃) (k₃ _ _ hx₂) (Heap.get?_push_at rfl rfl) (by rw [sizeLine_eq]; exact (by decide : 1 ≤ 16777216)) fun h₄ t4 k₄ z₄ hx₄ => ?_
    show wpAt _ _ _ _ _ _ _
    have kx : ∀ b o, b ≠ x → h₁.get? b = some o → h₄.get? b = some o := fun b o hb e => k₄ b o hb (k₃ _ _ (k₂ _ _ e))
    have hns₄ := hns.at (h' := h₄) fun o e => kx _ o hxL.symm e
    have X₄ : K.In h₄ := fun b o e => kx b o (fun z => by rw [z, hnx] at e; cases e) (X₁ b o e)
    refine ks_wpAt_execs_cons (ks_wpAt_Assign_Attr (wpAt_of_wpAny ?_))
    refine wpAny_Name (wpAny_loadName_local rfl rfl hns₄ (v := v) (by first | rfl | with_unfolding_all rfl | kernel_rfl) ?_) (by decide)
    refine wpAny_Name (wpAny_loadName_local rfl rfl hns₄ (v := .ref x) (by first | rfl | with_unfolding_all rfl | kernel_rfl) ?_) (by decide)
    refine set_plain X₄ (ox := excO C t4) (od := none) ⟨hx₄, rfl, rfl, trivial⟩ T.cls.sa ?_
    refine exc_osa X₄ hx₄ hcl (show refsVE (.ref C :: bm) = true from hbm) rfl hno (fun h₅ tk₅ dx k₅ dn dne hx₅ hn₅ => ?_)
    show wpAt _ _ _ (execs [] _) _ _ _
    refine wpAt_of_wpAny (wpAny_execs_nil ?_)
    have z4 : h₀.objs.size < h₄.objs.size := hns₄.lt
    exact hq h₅ tk₅ dx _ ⟨fun b o hb e => k₅ b o hb (kx b o hb (hk₁ b o e)), hx₅, Nat.le_of_lt (Nat.lt_of_lt_of_le z4 dn), dne, hn₅⟩
end
end ErX
end PySem
set_option Elab.async false
set_option linter.all false
set_option maxRecDepth 100000
set_option maxHeartbeats 4000000
namespace PySem
namespace ErX
open PySem.W PySem.Calls PyProof.Rows PySem.HandSPX
/-- a made error of the class at C -/
structure OwnMade (h h' : Heap) (e C d : Addr) (l : Str) (v : Value) : Prop where
  keep : ∀ b o, h.get? b = some o → h'.get? b = some o
  new : h.objs.size ≤ e
  obj : ∃ oe vs, h'.get? e = some oe ∧ oe.cls = .ref C ∧ oe.dict = some d ∧ oe.data = .fields vs ∧ vs[1]? = some .none
  dbig : h.objs.size ≤ d
  dne : d ≠ e
  ns : h'.Ns1 d (fun y => if y = l then some v else none)
section
variable {prog : Program} {w : World} {A : Around} {R : Result → Shared → Prop} {K : Frag} {C fI : Addr} {l pre qual : Str}
theorem err_made {h₀ : Heap} {g : Array GenState} {dr : Drawn} {t : Nat} {os : OsState} {mg mb : Str → Option Value} (T : InitTxt prog K C fI l pre qual) (hl : l = "line" ∨ l = "rule" ∨ l = "reason") (hpre : pre.length ≤ 10) {v : Value} (X : K.In h₀) (hlim : h₀.NoLimit) (hg : h₀.Ns mainGlobals mg) (hmg : mg "super" = none) (hb : h₀.Ns builtinsNs mb) (hmb : mb "super" = some (.type "super"))
    (hroom : A.depth + 1 < recursionLimit) (hv : VOk v)
    (hq : ∀ h' tk e d, OwnMade h₀ h' e C d l v → R (.ok (.ret (.ref e))) ⟨h', g, dr, tk, os⟩) :
    codeAny (model prog w) A (.call (.ref C) ⟨[v], []⟩) R ⟨h₀, g, dr, t, os⟩ := by
  obtain ⟨nm, q, N, bs, bm, sn, sub, ab, col, dd, k0, k1, k2, k3, k5, hC, hbm⟩ := T.cls.cls
  have k : ∀ b o, h₀.get? b = some o → ((h₀.push (kdv_tup [v])).push (excO C h₀.objs.size)).get? b = some o := fun b o e => Heap.get?_push_of_some _ (Heap.get?_push_of_some _ e)
  have hget : ((h₀.push (kdv_tup [v])).push (excO C h₀.objs.size)).get? (h₀.objs.size + 1) = some (excO C h₀.objs.size) := by heap_get
  have hnx : K.lookup (h₀.objs.size + 1) = none := by
    cases e : K.lookup (h₀.objs.size + 1) with
    | none => rfl
    | some o =>
      have z : h₀.get? (h₀.objs.size + 1) = some o := X _ _ e
      exact absurd (Nat.lt_of_succ_lt (Heap.lt_size z)) (Nat.lt_irrefl _)
  refine call_own F.excBase_ValueError (fun X => refsVE_contains X bm hbm) (X _ _ hC) (looks_findIn X T.iC) (fun self => bind_fn X self T.tC) (by rw [sizeLine_eq]; exact (by decide : 1 ≤ 16777216)) ?_
  refine err_init T hl hpre (X.keeps k) (hlim.keeps k) (hg.keeps k) hmg (hb.keeps k) hmb hget hnx ?_ hv fun h' tk' dx t1 ⟨k', hx, dn, dne, hns⟩ => ?_
  · show A.depth + 1 < recursionLimit
    exact hroom
  · have old : ∀ b o, h₀.get? b = some o → h'.get? b = some o := fun b o e => k' b o (Nat.ne_of_lt (Nat.lt_succ_of_lt (Heap.lt_size e))) (k b o e)
    have z : h₀.objs.size + 1 + 1 ≤ dx := by
      first
        | (simpa only [Heap.size_push] using dn)
        | exact dn
        | (have q := dn; rw [Heap.size_push, Heap.size_push] at q; exact q)
    exact ⟨rfl, hq h' tk' (h₀.objs.size + 1) dx ⟨old, Nat.le_succ _, ⟨_, _, hx, rfl, rfl, rfl, rfl⟩, Nat.le_trans (Nat.le_trans (Nat.le_succ _) (Nat.le_succ _)) z, dne, hns⟩⟩
end
end ErX
end PySem
namespace L2
open PySem PySem.Spec PyProof.Rows PySem.ErX
theorem relO_one {l : Str} {v : V} {v' : Value} (r : RelV v v') (f : Str) : RelO (List.lookup f [(l, v)]) (if f = l then some v' else none) := by
  by_cases hw : f = l
  · subst hw
    rw [if_pos rfl]
    have q : List.lookup f [(f, v)] = some v := by simp [List.lookup]
    rw [q]
    exact r
  · rw [if_neg hw]
    have qw : (f == l) = false := by simpa using hw
    have q2 : List.lookup f [(l, v)] = none := by simp [List.lookup, qw]
    rw [q2]
    trivial
/-- a short text or an int, as an error holds it -/
def EV (v : V) : Prop := (∃ y : Str, v = .str y ∧ y.length ≤ 1000000) ∨ ∃ i : Int, v = .int i ∧ i.natAbs.log2 < 1900
theorem EV.vok {v : V} {u : Value} (h : EV v) (r : RelV v u) : VOk u := by
  rcases h with ⟨y, rfl, hy⟩ | ⟨i, rfl, hi⟩
  · obtain ⟨t, rfl⟩ := r
    exact Or.inl ⟨y, t, rfl, hy⟩
  · obtain ⟨t, rfl⟩ := r
    exact Or.inr ⟨i, t, rfl, hi⟩
/-- what the written part says of an own error with one field -/
structure ErT (prog : Program) (K : PySem.W.Frag) (mg : Str → Option Value) (x : Str) (C : Addr) (l : Str) : Prop where
  ex : ∃ (fI : Addr) (pre qual : Str), InitTxt prog K C fI l pre qual ∧ pre.length ≤ 10
  gC : mg x = some (.ref C)
  gS : mg "super" = none
  hl : l = "line" ∨ l = "rule" ∨ l = "reason"
section
variable {X : Cx} {C : Addr} {l : Str}
/-- C(e) -/
def tMkE (C : Addr) (l : Str) (ta : TA) : St → Hp → XK → Prop := fun σ H Q => ta σ H fun vs H1 => ∃ v, vs = [v] ∧ EV v ∧ ∀ d, H1 d = none → Q (.ref C) (some d) (upd H1 d (.xd [(l, v)]))
theorem pmk_err {a : Expr} {ta : TA} {x : Str} {p pos : Pos} {k : Nat} (T : ErT X.prog X.K X.mg x C l) (hr : Room k X.A) (ha : PA X [a] ta) (hg : Gl X x) (hdb : (x == ("__debug__" : Str)) = false := by decide)
    (he : starEach (a :: []) X.env = (false, eval a X.env) :: starEach [] X.env := by rfl) (hpl : (backTo pos (starEach [] X.env)).any (·.1) = false := by rfl) :
    PMk X (.Call (.Name x p) [a] [] pos) (tMkE C l ta) := by
  intro pins s σ H Q I h
  obtain ⟨fI, pre, qual, TI, hpre⟩ := T.ex
  refine wpAny_Call_Name_kw (ld_glob I hg T.gC ?_ hdb)
  refine PySem.W.callWith_K (h₀ := X.base) I.ok.mod.kin TI.cls.kC (thn (ha.run pos pins s σ H _ I h) fun us s1 hh => ?_) he hpl
  obtain ⟨vs, H1, I1, r1, v, ev, hev, q1⟩ := hh
  subst ev
  refine ⟨I1.kIn, ?_⟩
  cases r1 with
  | cons rv rn =>
    rename_i v' us'
    cases rn
    show wpAny _ _ (call (.ref C) [v']) _ _ _
    have hlim := I1.nolimit
    obtain ⟨mb, hmb1, hmb2⟩ := I1.mod.blt
    have hG := I1.mod.glob.keeps I1.bk
    have hB := hmb1.keeps I1.bk
    obtain ⟨hp, g, dr, tk, os⟩ := s1
    refine wpAny_call (err_made TI T.hl hpre I1.kIn hlim hG T.gS hB ((hmb2 "super" (by decide)).trans PyProof.Rows.Boot.«super») (by have := hr.dp; omega) (hev.vok rv) fun h' tk' e d M => ?_)
    show MkP X pins σ Q (.ref e) ⟨h', g, dr, tk', os⟩
    obtain ⟨oe, fv, hoe, hc, hd, hdat, h1⟩ := M.obj
    have hns := M.ns
    obtain ⟨G', g1, g2⟩ := restrict h' fun b => decide (b ≠ e)
    have gk : ∀ b, b ≠ e → G'.get? b = h'.get? b := fun b hb => g1 b (decide_eq_true hb)
    have ge : G'.get? e = none := g2 e (by simp)
    have old : ∀ b o, hp.get? b = some o → G'.get? b = some o := fun b o q => (gk b (Nat.ne_of_lt (Nat.lt_of_lt_of_le (Heap.lt_size q) M.new))).trans (M.keep b o q)
    have ob : ObjOk X.prog X.w (upd H1 d (.xd [(l, v)])) G' d (.xd [(l, v)]) :=
      ⟨_, hns.at (fun o q => (gk d M.dne).trans q), fun f => relO_one rv f⟩
    have J : Inv X pins σ (upd H1 d (.xd [(l, v)])) ⟨G', g, dr, tk', os⟩ := I1.laid (t' := tk') old M.dbig ob
    refine ⟨e, oe, fv, ⟨G', g, dr, tk', os⟩, _, .ref C, some d, rfl, J, fun b o q => ?_, ge, hoe, ⟨hc, hd⟩, hdat, h1, ?_, rfl, I1.bare, raises_own TI.cls.exC TI.cls.tyC, q1 d (I1.hok.fresh M.dbig)⟩
    · by_cases hb : b = e
      · have q' : G'.get? b = some o := q
        rw [hb, ge] at q'; cases q'
      · exact (gk b hb).symm.trans q
    · rw [upd_ne (Ne.symm M.dne)]
      exact I1.hok.fresh M.new
/-- raise C(e) -/
def tRaiseE (C : Addr) (l : Str) (W : WX) (ta : TA) : TS := fun _ σ H => tMkE C l ta σ H fun cls d H' => W cls d σ H'
theorem ps_raiseE {a : Expr} {ta : TA} {W : WX} {x : Str} {p pos pos2 : Pos} {k : Nat} (hc : X.calm = true) (T : ErT X.prog X.K X.mg x C l) (hr : Room k X.A) (tk : Takes X W) (ha : PA X [a] ta) (hg : Gl X x := by rfl) (hdb : (x == ("__debug__" : Str)) = false := by decide)
    (he : starEach (a :: []) X.env = (false, eval a X.env) :: starEach [] X.env := by rfl) (hpl : (backTo pos (starEach [] X.env)).any (·.1) = false := by rfl) :
    PS X (.Raise (some (.Call (.Name x p) [a] [] pos)) none pos2) (tRaiseE C l W ta) := ps_raise hc tk (pmk_err T hr ha hg hdb he hpl)
end
end L2
set_option Elab.async false
set_option linter.all false
set_option maxRecDepth 100000
set_option maxHeartbeats 4000000
namespace L2
open PySem PySem.Spec PyProof.Rows PySem.ErX
/-- the dict of a caught error -/
def DictOf (H : Hp) (d : Option Addr) : Prop := d = none ∨ ∃ dd fs, d = some dd ∧ H dd = some (.xd fs)
theorem instE {X : Cx} {pins : List (Addr × Obj)} {σ : St} {H : Hp} {s : Shared} {a D : Addr} {oe : Obj} {d : Option Addr} (I : Inv X pins σ H s) (hget : s.heap.get? a = some oe) (hz : Zc (.ref D) d oe) (hf : ∃ vs, oe.data = .fields vs) (hd : DictOf H d) : ∃ od, PySem.W.InstAt s.heap a oe D od := by
  obtain ⟨vs, hv⟩ := hf
  obtain ⟨oc, odd, oda, osl⟩ := oe
  obtain ⟨h1, h2⟩ := hz
  dsimp only at h1 h2 hv
  subst h1 h2 hv
  rcases hd with rfl | ⟨dd, fs, rfl, hx⟩
  · exact ⟨none, hget, rfl, rfl, trivial⟩
  · have hx' : ObjOk X.prog X.w H s.heap dd (.xd fs) := I.hok dd _ hx
    obtain ⟨mA, ⟨o, es, ep, ho, hr⟩, hl⟩ := hx'
    exact ⟨some o, hget, rfl, rfl, ho⟩
/-- isinstance(e, c), e the exception that the suite holds; its class told by the reading -/
def rIsA (K : PySem.W.Frag) (cls : Value) (d : Option Addr) (a : Addr) : List V → Hp → VK → Prop := fun xs H Q => ∃ (D : Addr) (c : V) (cv : Value) (b : Bool), cls = .ref D ∧ ExcC K D ∧ DictOf H d ∧ xs = [.ref a, c] ∧ (∀ u, RelV c u → u = cv) ∧ PySem.W.kitOne K (.ref D) cv = some b ∧ Q (.bl b) H
theorem call_isA {X : Cx} {a : Addr} {cls : Value} {d : Option Addr} {oe : Obj} {pn : List (Addr × Obj)} (hz : Zc cls d oe) (hf : ∃ vs, oe.data = .fields vs) : CallR (X.suite a ((a, oe) :: pn)) (.builtin "isinstance") (rIsA X.K cls d a) := by
  intro pins s σ H xs us Q I r h
  obtain ⟨D, c, cv, b, rfl, C, hd, rfl, hcv, e, q⟩ := h
  cases r with
  | cons rx rr =>
    cases rr with
    | cons rt rr =>
      cases rr
      cases rx
      have ec := hcv _ rt
      subst ec
      obtain ⟨hget, _⟩ := I.pin (a, oe) (List.mem_append.mpr (.inl List.mem_cons_self))
      obtain ⟨od, J⟩ := instE I hget hz hf hd
      exact PySem.W.kia_one (PySem.W.kitx_exc (od := od) (by obtain ⟨cd, hc, _⟩ := PySem.W.any_some C.hd; rw [hc]; rfl) C.hg C.hk C.hs C.ha C.hn C.ht C.hm) I.kIn J e (fun z => nomatch z) fun tk => ⟨.bl b, H, I.kept (t' := tk) fun _ _ z => z, rfl, q⟩
/-- err.f, the class told by the reading -/
def tXfA (K : PySem.W.Frag) (a : Addr) (cls : Value) (d : Option Addr) (f : Str) (te : TE) : TE := fun σ H Q => te σ H fun x H1 => x = .ref a ∧ ∃ C : Addr, cls = .ref C ∧ XfC K C ∧ PySem.W.findIn K (.ref C) f = some none ∧ ∃ (dd : Addr) (fs : List (Str × V)) (v : V), d = some dd ∧ H1 dd = some (.xd fs) ∧ fs.lookup f = some v ∧ Q v H1
theorem pe_xfA {X : Cx} {a : Addr} {oe : Obj} {cls : Value} {d : Option Addr} {pn : List (Addr × Obj)} {e : Expr} {te : TE} {pos : Pos} {n : Str}
    (hz : Zc cls d oe) (hf : ∃ vs, oe.data = .fields vs) (he : PE (X.suite a ((a, oe) :: pn)) e te) (hb : attributeBase e n X.env (eval e X.env) = eval e X.env := by rfl) :
    PE (X.suite a ((a, oe) :: pn)) (.Attribute e n pos) (tXfA X.K a cls d n te) := by
  refine ⟨fun pins s σ H Q I h => ?_⟩
  refine attr_of hb (thn (he.run pins s σ H _ I h) fun u s1 hh => ?_)
  obtain ⟨x, H1, I1, rx, ex, C, ec, T, hno, dd, fs, v, ed, ea, l, q⟩ := hh
  subst ex
  obtain rfl : u = Value.ref a := rx
  subst ec
  subst ed
  obtain ⟨ha, _⟩ := I1.pin (a, oe) (List.mem_append_left _ List.mem_cons_self)
  obtain ⟨vs, hd⟩ := hf
  have hx : ObjOk X.prog X.w H1 s1.heap dd (.xd fs) := I1.hok dd _ ea
  obtain ⟨mA, hns, hr⟩ := hx
  obtain ⟨od, ho, hl⟩ := lookIn_ns hns
  obtain ⟨u, hu, ru⟩ := RelO.some_of (v := v) (o := mA n) (by rw [← l]; exact hr n)
  have J : PySem.W.InstAt s1.heap a oe C (some od) := ⟨ha, hz.1, by unfold PySem.W.notCls; rw [hd] <;> rfl, by rw [hz.2]; exact ho⟩
  exact HandSPX.exc_get I1.kIn J T.ga T.gg T.exC (PySem.W.findObj_own T.hdC hno rfl (by rw [hl, hu])) (handed_of ru) ⟨v, H1, I1.tok _, ru, q⟩
section
variable {X : Cx} {C : Addr} {bmB : List Value} {B newId initId : String}
/-- C() -/
theorem pmk_own0 {x : Str} {p pos : Pos} (F : ExcBaseFacts B newId initId bmB) (q : PySem.W.excIn X.K C bmB newId = true) (gC : X.mg x = some (.ref C)) (kC : PySem.W.keepIn X.K (.ref C) = true) (r : Raises X (.ref C)) (hg : Gl X x)
    (hdb : (x == ("__debug__" : Str)) = false := by decide) : PMk X (.Call (.Name x p) [] [] pos) (fun _ H Q => Q (.ref C) none H) := by
  intro pins s σ H Q I h
  refine wpAny_Call_Name_kw (ld_glob I hg gC ?_ hdb)
  refine PySem.W.callWith_K0 I.kIn kC ?_
  show wpAny _ _ (call (.ref C) []) _ _ _
  obtain ⟨bm, N, nm, qn, bs, hdct, sn, sub, ab, col, dd, k0, k1, k2, k3, k5, mN, hC, hN, hni, T⟩ := exc_obj I.kIn q
  refine wpAny_call_exc_subT F T hC hN hni (fun h' e hm => ?_) (by show 0 ≤ sizeLine; rw [sizeLine_eq]; omega)
  exact mk_of I hm r h (I.hok.gone hm.new)
end
end L2
set_option Elab.async false
set_option linter.all false
set_option maxRecDepth 100000
set_option maxHeartbeats 4000000
namespace Pk
open PySem PySem.Spec PyProof.Rows L2 PySem.ErX
abbrev sBuild : Stmt := topS 67
abbrev NBu : List Str := ["configuration", "program", "_", "nodes", "levels", "level", "rows", "index", "node", "found"]
theorem scBuild : FnScope NBu ["configuration"] (defScope sBuild) := ⟨rfl, rfl, rfl, by decide +kernel, rfl, by decide +kernel, by decide +kernel⟩
/-- the error of build -/
structure BuE (K : PySem.W.Frag) (mg : Str → Option Value) (cB : Addr) : Prop where
  gB : mg "BuildError" = some (.ref cB)
  kB : PySem.W.keepIn K (.ref cB) = true
  qB : PySem.W.excIn K cB [.type "ValueError", .type "Exception", .type "BaseException", .type "object"] "ValueError.__new__" = true
  sB : PySem.W.subIn K (.ref cB) (.type "BaseException") = some true
  tB : PySem.W.typeIn K (.ref cB) = some (.type "type")
def levels (c : Ct) : List Int := pass 0 (comp c 0 (-1)) (zeros (sz c))
/-- some level is too high -/
def tooHigh (c : Ct) : Bool := (levels c).any fun l => decide (l ≥ 12)
def spBuild (K : PySem.W.Frag) (cB : Addr) : Sp := fun vs H Q E => ∃ (v : V) (G : Hp) (c : Ct) (pc pd : Addr), vs = [.ref pc] ∧ Same G H ∧ Dp K G v (.tuple (progL c)) ∧ SqT K H pc [v, .ref pd] ∧ EntAt H pd ∧ okC c ∧ dpt c ≤ 5 ∧ sz c ≤ 1000 ∧
  (tooHigh c = false → Any H Q) ∧ (tooHigh c = true → ∀ H', Same H H' → E (.ref cB) none H')
theorem comp_ok : ∀ (c : Ct) (f : Nat) (a : Int), okC c → ∀ nd ∈ comp c f a, okN nd
  | .nil, _, _, _, _, h => nomatch h
  | .ap t r, f, a, hok, nd, h => by
    rcases List.mem_cons.mp h with rfl | h
    · exact hok.1
    · exact comp_ok r _ _ hok.2 nd h
  | .cf n x y r, f, a, hok, nd, h => by
    rcases List.mem_cons.mp h with rfl | h
    · trivial
    · rcases List.mem_append.mp h with h | h
      · exact comp_ok x _ _ hok.1 nd h
      · rcases List.mem_append.mp h with h | h
        · exact comp_ok y _ _ hok.2.1 nd h
        · exact comp_ok r _ _ hok.2.2 nd h
section
variable {P : Program} {w : World} {K : PySem.W.Frag} {mg : Str → Option Value} {base : Heap} {cB : Addr}
theorem ok_build {f : Addr} {fd : FuncData} {k : Nat} (hk : 8 ≤ k) (F : Fun K "build" "build" sBuild f fd) (T : Gk K mg) (B : BuE K mg cB)
    (D1 : Df P w K mg base CX0 k "compile_control" ["program"] (spCompC K)) (D2 : Df P w K mg base CX0 2 "stages" ["nodes"] (spStages K)) (D3 : Df P w K mg base CX0 3 "memory_of" ["configuration", "node"] (spMem K))
    (D4 : Df P w K mg base CX0 4 "parser_unit" ["program"] (spProgA K)) (D5 : Df P w K mg base CX0 2 "emitter_unit" ["program"] (spProgA K)) : FnOk P w K mg base (L2.CX P w) (k + 1) f fd ["configuration"] (spBuild K cB) := by
  obtain ⟨f1, fd1, G1, g1, k1, b1⟩ := D1.ex
  obtain ⟨f2, fd2, G2, g2, k2, b2⟩ := D2.ex
  obtain ⟨f3, fd3, G3, g3, k3, b3⟩ := D3.ex
  obtain ⟨f4, fd4, G4, g4, k4, b4⟩ := D4.ex
  obtain ⟨f5, fd5, G5, g5, k5, b5⟩ := D5.ex
  obtain ⟨uS, gS, rS⟩ := T.STG
  refine F.okX scBuild (fun vs H Q E h => ?_) (fun cdv A outer s H vs Q E hr h => ?_)
  · obtain ⟨v, G, c, pc, pd, rfl, _⟩ := h
    rfl
  · obtain ⟨v, G, c, pc, pd, rfl, sG, hD, hc, hE, hok, hdp, hz, q, qe⟩ := h
    have nd := scBuild.nd
    have hu1 := hu_of hr
    have hr2 : Room 2 _ := hr.mono (by omega)
    have hr3 : Room 3 _ := hr.mono (by omega)
    have hr4 : Room 4 _ := hr.mono (by omega)
    refine ⟨_, pss_cons (ps_asg (pv 0) (pg_tup rfl (pgs_cons (pg_name (i := 1) nd rfl (.inl rfl)) (pgs_cons (pg_name (i := 2) nd rfl (.inl rfl)) pgs_nil))))
      (pss_cons (ps_set (i := 3) nd rfl (.inl rfl) (pe_call G1 hr (by rfl) g1 k1 b1 .nil pass0 (pa_cons (pv 1) pa_nil)))
      (pss_cons (ps_set (i := 4) nd rfl (.inl rfl) (pe_call G2 hr2 (by rfl) g2 k2 b2 .nil pass0 (pa_cons (pv 3) pa_nil)))
      (pss_cons (ps_if (pt_val (pe_callB (cr_any rfl) (by rfl) T.zAny (by decide +kernel) (pa_cons (pe_lc (own := [("level", 5)]) (g := gName 5) (tt := tYes) rfl nd (pi_list (pv 4)) (blkOk_by (N := NBu) (sc := defScope sBuild) (by decide +kernel)) (fun _ _ _ _ _ => pg_name (i := 5) nd rfl (Or.inl rfl)) (fun _ _ _ _ _ => pts_nil)
          (fun _ _ _ _ _ => pe_cmpR op_ge (pv 5) (pe_glob rfl gS rS) (nomark _))) pa_nil)) (by intro _; rfl)) (pss_one (ps_raise rfl (takes_of rfl rfl rfl rfl) (pmk_own0 PySem.F.excBase_ValueError B.qB B.gB B.kB (raises_own B.sB B.tB) rfl))) pss_nil)
      (pss_cons (ps_setLc (i := 6) (own := [("_", 2)]) (g := gName 2) (tt := tYes) rfl nd rfl rfl (sw_true rfl rfl rfl (by decide +kernel)) (pi_range1 (by rfl) T.zRange (pa_cons (pe_glob rfl gS rS) pa_nil)) (blkOk_by (N := NBu) (sc := defScope sBuild) (by decide +kernel)) (fun _ _ _ _ _ => pg_name (i := 2) nd rfl (Or.inl rfl)) (fun _ _ _ _ _ => pts_nil)
          (fun _ _ _ _ _ => pe_dnewK))
      (pss_cons (ps_for (passes_of rfl) rfl (pi_enum (by rfl) T.zEnum (pa_cons (pv 3) pa_nil)) (pg_tup rfl (pgs_cons (pg_name (i := 7) nd rfl (.inl rfl)) (pgs_cons (pg_name (i := 8) nd rfl (.inl rfl)) pgs_nil)))
          (pss_one (ps_dput hu1 (pe_ix ix_list (pv 6) (pe_ix ix_list (pv 4) (pv 7) (fun _ _ => rfl)) (fun _ _ => rfl)) (pv 7) (pe_tup (pa_cons (pv 8) (pa_cons (pe_call G3 hr3 (by rfl) g3 k3 b3 .nil pass0 (pa_cons (pv 0) (pa_cons (pv 8) pa_nil))) pa_nil))) rfl)))
      (pss_one (ps_ret (pe_lst (pa_cons (pe_call G4 hr4 (by rfl) g4 k4 b4 .nil pass0 (pa_cons (pv 1) pa_nil)) (StX.pa_star (pe_lc (own := [("found", 9)]) (g := gName 9) (tt := tYes) rfl nd (pi_list (pv 6)) (blkOk_by (N := NBu) (sc := defScope sBuild) (by decide +kernel)) (fun _ _ _ _ _ => pg_name (i := 9) nd rfl (Or.inl rfl)) (fun _ _ _ _ _ => pts_nil)
          (fun _ _ _ _ _ => pe_tup (pa_cons pe_str (pa_cons (pv 9) pa_nil)))) (pa_cons (pe_call G5 hr2 (by rfl) g5 k5 b5 .nil pass0 (pa_cons (pv 1) pa_nil)) pa_nil))))))))))), ?_⟩
    refine ⟨_, rfl, pc, _, rfl, hc, rfl, _, _, rfl, _, _, rfl, rfl, ?_⟩
    refine ⟨_, rfl, v, G, c, rfl, sG, hD, hok, hdp, hz, fun H1 Gn pn ns s1 sGn gr1 n1 gn1 e1 d1 => ?_⟩
    have hlen : (comp c 0 (-1)).length = sz c := comp_len _ _ _
    have hfw : Fw (comp c 0 (-1)).length 0 (comp c 0 (-1)) := by
      rw [hlen]
      exact comp_Fw c
    refine ⟨_, rfl, .ref pn, upd Gn pn (.lst ns), comp c 0 (-1), rfl, same_upd sGn e1, .lst (SqL.of upd_same) (dpAll_sub (same_new2 gn1) d1), hfw, by omega, fun H2 pl s2 n2 e2 => ?_⟩
    rw [hlen] at e2
    have e2' : H2 pl = some (.lst ((levels c).map V.int)) := e2
    have hLl : (levels c).length = sz c := by
      unfold levels zeros
      rw [pass_len, List.length_replicate]
    have s12 := s1.trans s2
    refine ⟨_, rfl, pl, rfl, ⟨_, SqL.of e2'⟩, fun D hD1 => lc_list (K := K) (a := pl) (xs := (levels c).map V.int) (fun i H3 => Same H2 H3 ∧ H3 D = some (.lst ((((levels c).take i).map fun l => decide (l ≥ 12)).map V.bl))) ⟨same_new hD1, upd_same⟩ (fun i H3 _ h => h.1.seq (SqL.of e2')) ?_ ?_⟩
    · rintro i y H3 hi ⟨sm, e3⟩
      obtain ⟨z, hz', rfl⟩ := map_at hi
      refine ⟨rfl, _, rfl, _, _, rfl, rfl, _, e3, ?_, same_set sm hD1, ?_⟩
      · rw [List.length_map, List.length_map, List.length_take]
        exact small1000 (by omega)
      · rw [upd_same, List.take_add_one, hz', List.map_append, List.map_append]
        rfl
    rintro H3 ⟨s3, e3⟩
    rw [List.length_map, List.take_length] at e3
    refine ⟨D, _, rfl, SqL.of e3, _, rfl, ?_⟩
    have hany : (((levels c).map fun l => decide (l ≥ 12)).any id) = tooHigh c := by
      unfold tooHigh
      rw [List.any_map]
      rfl
    rw [hany]
    cases hth : tooHigh c with
    | true => exact iteT (qe hth _ (s12.trans s3))
    | false =>
    refine iteF ?_
    have hlow : ∀ i, i < sz c → 0 ≤ nth (levels c) i ∧ nth (levels c) i < 12 := fun i hi => by
      refine ⟨pass_nonneg c i, ?_⟩
      have h1 : nth (levels c) i ∈ levels c := by
        unfold nth
        rw [List.getElem?_eq_getElem (by omega)]
        exact List.getElem_mem _
      have := List.any_eq_false.mp hth _ h1
      simpa using this
    have s13 := s12.trans s3
    have q' := q hth
    refine ⟨12, rfl, by decide, by decide, fun Dr hDr => lc_range (lo := 0) (n := (12 : Int).toNat) (fun i H4 => Same H3 H4 ∧ ∃ ds : List Addr, ds.length = i ∧ H4 Dr = some (.lst (ds.map V.ref)) ∧ ∀ d ∈ ds, H3 d = none ∧ H4 d = some (.dK [])) ⟨same_new hDr, [], rfl, upd_same, fun d hd => nomatch hd⟩ ?_ ?_⟩
    · rintro i H4 hi ⟨sm, ds, hdl, e4, hds⟩
      have hi' : i < 12 := hi
      refine ⟨rfl, fun d hd => ⟨_, (same_new (o := .dK []) hd) _ _ e4, ?_, same_set (sm.trans (same_new (o := .dK []) hd)) hDr, ds ++ [d], ?_, ?_, fun x hx => ?_⟩⟩
      · rw [List.length_map, hdl]
        exact small1000 (by omega)
      · rw [List.length_append, hdl]
        rfl
      · rw [upd_same, List.map_append]
        rfl
      · have ne : ∀ {x : Addr}, (upd H4 d (.dK [])) x = some (.dK []) → x ≠ Dr := fun e z => by
          rw [z, (same_new (o := .dK []) hd) _ _ e4] at e
          cases e
        rcases List.mem_append.mp hx with hx | hx
        · obtain ⟨a1, a2⟩ := hds x hx
          have a3 := (same_new (o := .dK []) hd) _ _ a2
          exact ⟨a1, by rw [upd_ne (ne a3)]; exact a3⟩
        · obtain rfl := List.mem_singleton.mp hx
          have a3 : (upd H4 x (.dK [])) x = some (.dK []) := upd_same
          exact ⟨sm.free hd, by rw [upd_ne (ne a3)]; exact a3⟩
    rintro H4 ⟨s4, ds, hdl, e4, hds⟩
    have hdl' : ds.length = 12 := hdl
    have d1' := dpAll_sub (K := K) (sGn.trans (s2.trans s3)) d1
    have e1' := (s2.trans s3) _ _ e1
    have e2'' := s3 _ _ e2'
    have hnl := dpAll_len d1
    unfold ndsD at hnl
    rw [List.length_map, hlen] at hnl
    refine ⟨_, rfl, pn, ns, rfl, s4.seq (SqL.of e1'), for_it (walk_enum (K := K) (a := pn) (xs := ns)) (fun i σ H5 => Same H3 H5 ∧ H5 Dr = some (.lst (ds.map V.ref)) ∧ (∀ d ∈ ds, ∃ kvs, H5 d = some (.dK kvs) ∧ kvs.length ≤ i) ∧ ∃ o7 o8, σ = [some (.ref pc), some v, some (.ref pd), some (.ref pn), some (.ref pl), none, some (.ref Dr), o7, o8, none])
      ⟨s4, e4, fun d hd => ⟨[], (hds d hd).2, Nat.zero_le _⟩, none, none, rfl⟩ (fun i σ H5 _ h => h.1.seq (SqL.of e1')) ?_ ?_⟩
    · rintro i y σ H5 H6 hi ⟨s5, e5, hds5, o7, o8, rfl⟩ ⟨T1, x1, y1, rfl, hT, rfl, hx, hy⟩
      cases hx
      obtain ⟨dd, edd, hdd⟩ := dpAll_val d1' hy
      unfold ndsD at edd
      rw [List.getElem?_map] at edd
      cases en : (comp c 0 (-1))[i]? with
      | none => rw [en] at edd; cases edd
      | some nd0 =>
      rw [en] at edd
      cases edd
      have hokn := comp_ok c 0 (-1) hok nd0 (List.mem_of_getElem? en)
      have hi' : i < sz c := by omega
      obtain ⟨lo, hi12⟩ := hlow i hi'
      have s6 := s5.trans (same_new (o := .tup [V.int (i : Nat), y1]) hT)
      have nTr : Dr ≠ T1 := ne_of_none e5 hT
      have e6 : (upd H5 T1 (.tup [V.int (i : Nat), y1])) Dr = some (.lst (ds.map V.ref)) := by
        rw [upd_ne nTr]
        exact e5
      have hds6 : ∀ d ∈ ds, ∃ kvs, (upd H5 T1 (.tup [V.int (i : Nat), y1])) d = some (.dK kvs) ∧ kvs.length ≤ i := fun d hd => by
        obtain ⟨kvs, a, b⟩ := hds5 d hd
        exact ⟨kvs, by rw [upd_ne (ne_of_none a hT)]; exact a, b⟩
      refine ⟨T1, _, rfl, SqT.of upd_same, rfl, _, _, rfl, _, _, rfl, rfl, ?_⟩
      generalize upd H5 T1 (.tup [V.int (i : Nat), y1]) = H6 at s6 e6 hds6 ⊢
      have hc6 := sqT_sub (s13.trans s6) hc
      have hE6 := hE.same (s13.trans s6)
      refine ⟨_, rfl, _, rfl, _, rfl, v, y1, H6, c, nd0, pc, pd, rfl, Same.refl _, dp_sub (sG.trans (s13.trans s6)) hD, hc6, hE6, dp_sub s6 hdd, hokn, fun H7 x7 s7 => ⟨(by show 2 ≤ sizeLine; decide), fun pt hpt => ?_⟩⟩
      have s8 := s7.trans (same_new (o := .tup [y1, x7]) hpt)
      have e8 := s8 _ _ e6
      have s68 := s6.trans s8
      obtain ⟨dr, hdr⟩ : ∃ dr, ds[(nth (levels c) i).toNat]? = some dr := ⟨_, List.getElem?_eq_getElem (by omega)⟩
      have hmem := List.mem_of_getElem? hdr
      obtain ⟨kvs, ek, hk⟩ := hds6 dr hmem
      have ek8 := s8 _ _ ek
      refine ⟨.ref Dr, rfl, .ref pl, rfl, _, rfl, pl, _, _, _, rfl, rfl, SqL.of (s68 _ _ e2''), atI_nat (j := i) (ints_at (by omega)), Dr, _, _, _, rfl, rfl, SqL.of e8, at_of (j := (nth (levels c) i).toNat) (v := .ref dr) (by omega) (by rw [List.getElem?_map, hdr]; rfl), _, rfl, dr, _, rfl, DPut.k (k := .inl ((i : Nat) : Int)) ek8 (small1000 (by omega)), ?_⟩
      have hn3 : H3 dr = none := (hds dr hmem).1
      have nDr : Dr ≠ dr := fun z => by
        rw [← z, e8] at ek8
        cases ek8
      refine ⟨same_set s68 hn3, ?_, fun d hd => ?_, _, _, rfl⟩
      · rw [upd_ne nDr]
        exact e8
      · by_cases hdd' : d = dr
        · rw [hdd', upd_same]
          exact ⟨_, rfl, Nat.le_trans (DSub.putK_len _ _ _) (by omega)⟩
        · obtain ⟨kvs', a, b⟩ := hds6 d hd
          exact ⟨kvs', by rw [upd_ne hdd']; exact s8 _ _ a, by omega⟩
    rintro σ H5 ⟨s5, e5, hds5, o7, o8, rfl⟩
    refine ⟨_, rfl, v, G, c, rfl, sG.trans (s13.trans s5), hD, fun H6 x6 s6 => ?_⟩
    have e6 := s6 _ _ e5
    refine ⟨_, rfl, Dr, rfl, ⟨_, SqL.of e6⟩, fun D2 hD2 => lc_list (K := K) (a := Dr) (xs := ds.map V.ref) (fun i H7 => Same H6 H7 ∧ ∃ acc, H7 D2 = some (.lst acc) ∧ acc.length = i) ⟨same_new hD2, [], upd_same, rfl⟩ (fun i H7 _ h => h.1.seq (SqL.of e6)) ?_ ?_⟩
    · rintro i y H7 hi ⟨sm, acc, ea, el⟩
      have hi12 : i < 12 := by
        rw [List.getElem?_map] at hi
        cases ed : ds[i]? with
        | none => rw [ed] at hi; cases hi
        | some d =>
          rcases Nat.lt_or_ge i ds.length with h | h
          · omega
          · rw [List.getElem?_eq_none h] at ed
            cases ed
      refine ⟨rfl, _, rfl, (by show 2 ≤ sizeLine; decide), fun pt hpt => ⟨acc, (same_new hpt) _ _ ea, small1000 (by omega), same_set (sm.trans (same_new hpt)) hD2, _, upd_same, ?_⟩⟩
      rw [List.length_append, el]
      rfl
    rintro H7 ⟨s7, acc, ea, el⟩
    have el' : acc.length = 12 := by rw [el, List.length_map, hdl']
    refine ⟨D2, acc, rfl, .inr (SqL.of ea), _, rfl, v, G, c, rfl, sG.trans (((s13.trans s5).trans s6).trans s7), hD, fun H8 x8 s8 => ⟨?_, fun p9 hp9 => ?_⟩⟩
    · rw [List.length_cons, List.length_append, el', sizeLine_eq]
      show 12 + 1 + 1 ≤ 16777216
      decide
    exact q' _ _ ((((s13.trans s5).trans s6).trans s7).trans (s8.trans (same_new hp9)))
end
end Pk
set_option Elab.async false
set_option linter.all false
set_option maxRecDepth 100000
set_option maxHeartbeats 4000000
namespace Pk
open PySem PySem.Spec PyProof.Rows L2
abbrev sCtl : Stmt := topS 76
abbrev NCt : List Str := ["state", "left", "nested", "names", "control", "k", "then", "other"]
theorem scCtl : FnScope NCt ["state", "left", "nested", "names"] (defScope sCtl) := ⟨rfl, rfl, rfl, by decide +kernel, rfl, by decide +kernel, by decide +kernel⟩
def nmL : List V := [.str (tnm 0), .str (tnm 1), .str (tnm 2)]
theorem nmL_pop {j : Nat} (h0 : 0 < j) (h : j ≤ 3) : ∃ t, t < 3 ∧ (nmL.take j)[(nmL.take j).length - 1]? = some (.str (tnm t)) ∧ (nmL.take j).dropLast = nmL.take (j - 1) := by
  rcases (by omega : j = 1 ∨ j = 2 ∨ j = 3) with rfl | rfl | rfl
  · exact ⟨0, by decide, rfl, rfl⟩
  · exact ⟨1, by decide, rfl, rfl⟩
  · exact ⟨2, by decide, rfl, rfl⟩
theorem nmL_len {j : Nat} (h : j ≤ 3) : (nmL.take j).length = j := by
  rw [List.length_take]
  show min j 3 = j
  omega
/-- the drawing state, what is left, the names that are left -/
structure Cxt (H : Hp) (s c pl pn : Addr) (L j : Nat) : Prop where
  st : StAt H s c
  hl : H pl = some (.lst [.int (L : Nat)])
  hn : H pn = some (.lst (nmL.take j))
  hj : j ≤ 3
  n1 : pl ≠ s
  n2 : pl ≠ c
  n3 : pn ≠ s
  n4 : pn ≠ c
  n5 : pl ≠ pn
def Kq (s c pl pn : Addr) (H H' : Hp) : Prop := ∀ b o, b ≠ s → b ≠ c → b ≠ pl → b ≠ pn → H b = some o → H' b = some o
theorem Kq.trans {s c pl pn : Addr} {H H1 H2 : Hp} (a : Kq s c pl pn H H1) (b : Kq s c pl pn H1 H2) : Kq s c pl pn H H2 := fun x o h1 h2 h3 h4 e => b x o h1 h2 h3 h4 (a x o h1 h2 h3 h4 e)
theorem Kq.same {s c pl pn : Addr} {H H1 : Hp} (a : Same H H1) : Kq s c pl pn H H1 := fun x o _ _ _ _ e => a x o e
theorem Kq.kp {s c pl pn : Addr} {H H1 : Hp} (a : Kp s c H H1) : Kq s c pl pn H H1 := fun x o h1 h2 _ _ e => a x o h1 h2 e
section
variable {H H' : Hp} {s c pl pn : Addr} {L j : Nat}
theorem Cxt.draw (h : Cxt H s c pl pn L j) (st : StAt H' s c) (k : Kp s c H H') : Cxt H' s c pl pn L j := ⟨st, k _ _ h.n1 h.n2 h.hl, k _ _ h.n3 h.n4 h.hn, h.hj, h.n1, h.n2, h.n3, h.n4, h.n5⟩
theorem Cxt.same (h : Cxt H s c pl pn L j) (k : Same H H') : Cxt H' s c pl pn L j := ⟨h.st.same k, k _ _ h.hl, k _ _ h.hn, h.hj, h.n1, h.n2, h.n3, h.n4, h.n5⟩
theorem Cxt.setL (h : Cxt H s c pl pn L j) (L' : Nat) : Cxt (upd H pl (.lst [.int (L' : Nat)])) s c pl pn L' j := ⟨h.st.upd h.n1 h.n2, upd_same, by rw [upd_ne (Ne.symm h.n5)]; exact h.hn, h.hj, h.n1, h.n2, h.n3, h.n4, h.n5⟩
theorem Cxt.setN (h : Cxt H s c pl pn L j) {j' : Nat} (hj : j' ≤ 3) : Cxt (upd H pn (.lst (nmL.take j'))) s c pl pn L j' := ⟨h.st.upd h.n3 h.n4, by rw [upd_ne h.n5]; exact h.hl, upd_same, hj, h.n1, h.n2, h.n3, h.n4, h.n5⟩
theorem Cxt.setX (h : Cxt H s c pl pn L j) {L' : Nat} {xs : List V} (e : xs = [.int (L' : Nat)]) : Cxt (upd H pl (.lst xs)) s c pl pn L' j := by
  subst e
  exact h.setL L'
/-- the list under work changes -/
theorem Kq.off {H1 : Hp} {p : Addr} {o : HO} (k : Kq s c pl pn H H1) (n : H p = none) : Kq s c pl pn H (upd H1 p o) := fun b u h1 h2 h3 h4 e => by
  rw [upd_ne (ne_of_none e n)]
  exact k b u h1 h2 h3 h4 e
theorem Cxt.other (h : Cxt H s c pl pn L j) {p : Addr} {o : HO} (a : p ≠ s) (b : p ≠ c) (d : p ≠ pl) (e : p ≠ pn) : Cxt (upd H p o) s c pl pn L j := ⟨h.st.upd a b, by rw [upd_ne (Ne.symm d)]; exact h.hl, by rw [upd_ne (Ne.symm e)]; exact h.hn, h.hj, h.n1, h.n2, h.n3, h.n4, h.n5⟩
theorem Cxt.sn (h : Cxt H s c pl pn L j) : H s ≠ none ∧ H c ≠ none ∧ H pl ≠ none ∧ H pn ≠ none := by
  obtain ⟨cells, seed, h1, h2, _⟩ := h.st
  exact ⟨(fun z => by rw [h1] at z; cases z), (fun z => by rw [h2] at z; cases z), (fun z => by rw [h.hl] at z; cases z), (fun z => by rw [h.hn] at z; cases z)⟩
/-- what is not of the drawing -/
def Off (s c pl pn : Addr) (G : Hp) : Prop := G s = none ∧ G c = none ∧ G pl = none ∧ G pn = none
theorem Off.gr {G G' : Hp} (o : Off s c pl pn G) (h : Cxt H s c pl pn L j) (g : Gr G G' H) : Off s c pl pn G' :=
  ⟨g.free o.1 h.sn.1, g.free o.2.1 h.sn.2.1, g.free o.2.2.1 h.sn.2.2.1, g.free o.2.2.2 h.sn.2.2.2⟩
theorem Off.kq {G : Hp} (o : Off s c pl pn G) (k : Kq s c pl pn H H') (g : Same G H) : Same G H' := fun b u e => by
  have ne : ∀ {x : Addr}, G x = none → b ≠ x := fun hx z => by
    rw [z, hx] at e
    cases e
  exact k b u (ne o.1) (ne o.2.1) (ne o.2.2.1) (ne o.2.2.2) (g b u e)
theorem Kq.none_ {L' j' : Nat} (k : Kq s c pl pn H H') (h : Cxt H' s c pl pn L' j') : ∀ b, H' b = none → H b = none := fun b e => by
  cases q : H b with
  | none => rfl
  | some o =>
    have ne : ∀ {x : Addr}, H' x ≠ none → b ≠ x := fun hx z => by
      rw [z] at e
      exact hx e
    have := k b o (ne h.sn.1) (ne h.sn.2.1) (ne h.sn.2.2.1) (ne h.sn.2.2.2) q
    rw [this] at e
    cases e
end
/-- some test: both ways go on from C -/
theorem by_if {t : TT} {a b : TS} {D : Ends} {σ : L2.St} {H : Hp} (C : Bool → Hp → Prop) (h : ∀ R' : Bool → Hp → Prop, (∀ b Hx, C b Hx → R' b Hx) → t σ H R') (k1 : ∀ Hx, C true Hx → a D σ Hx) (k2 : ∀ Hx, C false Hx → b D σ Hx) : tIfS t a b D σ H := by
  refine h _ fun c Hx hc => ?_
  cases c with
  | true => exact iteT (k1 _ hc)
  | false => exact iteF (k2 _ hc)
section
variable {P : Program} {w : World} {K : PySem.W.Frag} {mg : Str → Option Value} {base : Heap}
def spCtl (K : PySem.W.Frag) : Nat → Sp
  | 0 => fun _ _ _ _ => False
  | m + 1 => fun vs H Q _ => ∃ (s c pl pn : Addr) (L j : Nat) (G : Hp), vs = [.ref s, .ref pl, .int (m : Nat), .ref pn] ∧ Cxt H s c pl pn L j ∧ Same G H ∧ Off s c pl pn G ∧ L ≤ 1000 ∧
    ∀ H' G' p ct L' j', Cxt H' s c pl pn L' j' → Kq s c pl pn H H' → Same G' H' → Gr G G' H → Dp K G' p (.list (dataC ct)) → okC ct → dpt ct ≤ m + 1 → sz ct + L' = L → (0 < L → ct ≠ .nil) → Q p H'
theorem ok_ctl0 {f : Addr} {fd : FuncData} {k : Nat} (F : Fun K "_law_control" "_law_control" sCtl f fd) : FnOk P w K mg base CX0 (k + 1) f fd ["state", "left", "nested", "names"] (spCtl K 0) :=
  F.ok scCtl (fun _ _ _ _ h => h.elim) (fun _ _ _ _ _ _ _ _ _ h => h.elim)
theorem ok_ctlS {f : Addr} {fd : FuncData} {m : Nat} (F : Fun K "_law_control" "_law_control" sCtl f fd) (T : Gk K mg) (D1 : Df P w K mg base CX0 1 "_law_draw" ["state", "many"] spDraw) (D2 : Df P w K mg base CX0 (m + 1) "_law_control" ["state", "left", "nested", "names"] (spCtl K m)) :
    FnOk P w K mg base CX0 (m + 2) f fd ["state", "left", "nested", "names"] (spCtl K (m + 1)) := by
  obtain ⟨f1, fd1, G1, g1, k1, b1⟩ := D1.ex
  obtain ⟨f2, fd2, G2, g2, k2, b2⟩ := D2.ex
  refine F.ok scCtl (fun vs H Q E h => ?_) (fun cdv A outer s0 H vs Q E hr h => ?_)
  · obtain ⟨s, c, pl, pn, L, j, G, rfl, _⟩ := h
    rfl
  · obtain ⟨s, c, pl, pn, L0, j0, G, rfl, hC, sG, off, hL, q⟩ := h
    have nd := scCtl.nd
    have hr1 : Room 1 _ := hr.mono (by omega)
    refine ⟨_, pss_cons (ps_set (i := 4) nd rfl (.inl rfl) (pe_lst pa_nil))
      (pss_cons (ps_for PassesOwn.never rfl (pi_range1 (by rfl) T.zRange (pa_cons (pe_op op_add pe_int (pe_call G1 hr1 (by rfl) g1 k1 b1 .nil pass0 (pa_cons (pv 0) (pa_cons pe_int pa_nil)))) pa_nil)) (pg_name (i := 5) nd rfl (.inl rfl)) (pss_one (ps_if (pt_cmpR op_gt (pe_ix ix_list (pv 1) pe_int (fun _ _ => rfl)) pe_int (nomark _)) (pss_cons (ps_asg (pe_op op_sub (pe_ix ix_list (pv 1) pe_int (fun _ _ => rfl)) pe_int) (pg_sub (pv 1) pe_int set_list))
      (pss_one (ps_if (PW.pt (pw_and (pt_cmpR op_gt (pe_callB call_len_seq (by rfl) T.zLen PySem.boot_len (pa_cons (pv 3) pa_nil)) pe_int (nomark _)) (pw_and1 (pt_cmpR op_eq (pe_call G1 hr1 (by rfl) g1 k1 b1 .nil pass0 (pa_cons (pv 0) (pa_cons pe_int pa_nil))) pe_int (nomark _))))) (pss_one (ps_expr (pe_bm PySem.F.plainAttrs_list PySem.F.slot_list_append PySem.F.type_list_append mt_append (pv 4) (pa_cons (pe_tup (pa_cons pe_str (pa_cons (pe_bm0 PySem.F.plainAttrs_list PySem.F.slot_list_pop PySem.F.type_list_pop mt_pop (pv 3)) pa_nil))) pa_nil)))) (pss_cons (ps_set (i := 6) nd rfl (.inl rfl) (pe_lst pa_nil))
      (pss_cons (ps_set (i := 7) nd rfl (.inl rfl) (pe_lst pa_nil))
      (C8.pss_cut (ps_if (PW.pt (pw_and (pt_cmpR op_gt (pv 2) pe_int (nomark _)) (pw_and1 (pt_cmpR op_eq (pe_call G1 hr1 (by rfl) g1 k1 b1 .nil pass0 (pa_cons (pv 0) (pa_cons pe_int pa_nil))) pe_int (nomark _))))) (pss_one (ps_set (i := 6) nd rfl (.inl rfl) (pe_call G2 hr (by rfl) g2 k2 b2 .nil pass0 (pa_cons (pv 0) (pa_cons (pv 1) (pa_cons (pe_op op_sub (pv 2) pe_int) (pa_cons (pv 3) pa_nil))))))) pss_nil)
      (C8.pss_cut (ps_if (PW.pt (pw_and (pt_cmpR op_gt (pv 2) pe_int (nomark _)) (pw_and1 (pt_cmpR op_eq (pe_call G1 hr1 (by rfl) g1 k1 b1 .nil pass0 (pa_cons (pv 0) (pa_cons pe_int pa_nil))) pe_int (nomark _))))) (pss_one (ps_set (i := 7) nd rfl (.inl rfl) (pe_call G2 hr (by rfl) g2 k2 b2 .nil pass0 (pa_cons (pv 0) (pa_cons (pv 1) (pa_cons (pe_op op_sub (pv 2) pe_int) (pa_cons (pv 3) pa_nil))))))) pss_nil)
      (pss_one (ps_expr (pe_bm PySem.F.plainAttrs_list PySem.F.slot_list_append PySem.F.type_list_append mt_append (pv 4) (pa_cons (pe_tup (pa_cons pe_str (pa_cons (pe_tup (pa_cons pe_str (pa_cons (pe_tup (pa_cons pe_str (pa_cons pe_str pa_nil))) (pa_cons (pe_op op_add pe_int (pe_call G1 hr1 (by rfl) g1 k1 b1 .nil pass0 (pa_cons (pv 0) (pa_cons pe_int pa_nil)))) pa_nil)))) (pa_cons (pv 6) (pa_cons (pv 7) pa_nil))))) pa_nil))))))))))) pss_nil)))
      (pss_one (ps_ret (pv 4)))), ?_⟩
    refine ⟨by show 0 ≤ sizeLine; exact Nat.zero_le _, fun pc hpc => ?_⟩
    have nS : pc ≠ s ∧ pc ≠ c ∧ pc ≠ pl ∧ pc ≠ pn := by
      have h := hC.sn
      exact ⟨fun z => h.1 (by rw [← z]; exact hpc), fun z => h.2.1 (by rw [← z]; exact hpc), fun z => h.2.2.1 (by rw [← z]; exact hpc), fun z => h.2.2.2 (by rw [← z]; exact hpc)⟩
    have s1 := same_new (o := .lst []) hpc
    have e1 : (upd H pc (.lst [])) pc = some (.lst []) := upd_same
    have hC1 := hC.same s1
    generalize upd H pc (.lst []) = H1 at s1 e1 hC1 ⊢
    refine ⟨_, rfl, s, c, 12, rfl, hC1.st, by decide, by decide, fun H2 r r0 r1 st2 kp2 => ⟨_, _, rfl, rfl, 1 + r, rfl, by omega, by omega, ?_⟩⟩
    have hC2 := hC1.draw st2 kp2
    have kq2 : Kq s c pl pn H H2 := (Kq.same s1).trans (Kq.kp kp2)
    have e2 := kp2 _ _ nS.1 nS.2.1 e1
    have hGpc : G pc = none := sG.free hpc
    refine for_range (lo := 0) (n := (1 + r).toNat) (fun i σ H' => ∃ Gc ct xs L j o5 o6 o7, σ = [some (.ref s), some (.ref pl), some (.int (m : Nat)), some (.ref pn), some (.ref pc), o5, o6, o7] ∧ Cxt H' s c pl pn L j ∧ Kq s c pl pn H H' ∧ H' pc = some (.lst xs) ∧ Same Gc H' ∧ Gr G Gc H ∧ Gc pc = none ∧ DpAll K Gc xs (dataC ct) ∧ okC ct ∧ dpt ct ≤ m + 1 ∧ sz ct + L = L0 ∧ (0 < i → 0 < L0 → ct ≠ .nil))
      ⟨G, .nil, [], L0, j0, none, none, none, rfl, hC2, kq2, e2, off.kq kq2 sG, Gr.refl _ _, hGpc, .nil, trivial, Nat.zero_le _, Nat.zero_add _, fun h => absurd h (Nat.lt_irrefl _)⟩ ?_ ?_
    · rintro i σ H3 hi ⟨Gc, ct, xs, L, j, o5, o6, o7, rfl, hC3, kq3, e3, sGc, gr, hGcp, hxs, hok, hdp, hsz, hne⟩
      refine ⟨.ref pl, rfl, pl, _, _, _, rfl, rfl, SqL.of hC3.hl, atI_nat (j := 0) rfl, _, _, rfl, rfl, _, rfl, ?_⟩
      refine iteD (fun hLp => ?_) fun hLp => ?_
      · obtain ⟨L', rfl⟩ : ∃ L', L = L' + 1 := ⟨L - 1, by omega⟩
        have off3 := off.gr hC gr
        refine ⟨.ref pl, rfl, pl, _, _, _, rfl, rfl, SqL.of hC3.hl, atI_nat (j := 0) rfl, _, _, rfl, rfl, .ref pl, rfl, pl, _, _, 0, rfl, rfl, hC3.hl, rfl, ?_⟩
        have hC4 := hC3.setX (xs := List.set [V.int ((L' + 1 : Nat) : Int)] 0 (V.int (((L' + 1 : Nat) : Int) - 1))) (L' := L') (by
          show [V.int (((L' + 1 : Nat) : Int) - 1)] = _
          rw [show (((L' + 1 : Nat) : Int) - 1) = ((L' : Nat) : Int) by omega])
        have kq34 : Kq s c pl pn H3 (upd H3 pl (.lst (List.set [V.int ((L' + 1 : Nat) : Int)] 0 (V.int (((L' + 1 : Nat) : Int) - 1))))) := fun b o _ _ h3 _ e => by
          rw [upd_ne h3]
          exact e
        generalize upd H3 pl (.lst (List.set [V.int ((L' + 1 : Nat) : Int)] 0 (V.int (((L' + 1 : Nat) : Int) - 1)))) = H4 at hC4 kq34 ⊢
        have kq4 := kq3.trans kq34
        have e4 := kq34 _ _ nS.1 nS.2.1 nS.2.2.1 nS.2.2.2 e3
        have sG4 := off3.kq kq34 sGc
        dsimp only
        refine by_if (fun b Hx => Cxt Hx s c pl pn L' j ∧ Kq s c pl pn H4 Hx ∧ (b = true → 0 < j)) (fun R' hR' => ?_) (fun H5 hb => ?_) (fun H5 hb => ?_)
        · refine ⟨.ref pn, rfl, pn, _, rfl, .inl (SqL.of hC4.hn), _, _, rfl, rfl, _, rfl, iteD (fun hj => ?_) fun hj => ?_⟩
          · rw [nmL_len hC4.hj] at hj
            exact ⟨_, rfl, s, c, 3, rfl, hC4.st, by decide, by decide, fun H5 r r0 r1 st5 kp5 => ⟨rfl, _, rfl, hR' _ _ ⟨hC4.draw st5 kp5, Kq.kp kp5, fun _ => by omega⟩⟩⟩
          · exact hR' false _ ⟨hC4, Kq.same (Same.refl _), fun z => nomatch z⟩
        · obtain ⟨hC5, kq45, hjb⟩ := hb
          have kq5 := kq4.trans kq45
          have e5 := kq45 _ _ nS.1 nS.2.1 nS.2.2.1 nS.2.2.2 e4
          have sG5 := off3.kq kq45 sG4
          have hxl := dpAll_len hxs
          have hdl := data_len ct
          obtain ⟨t, ht, hlast, hdrop⟩ := nmL_pop (hjb rfl) hC5.hj
          refine ⟨.ref pc, rfl, .inl ⟨rfl, _, SqL.of e5⟩, .ref pn, rfl, .inl ⟨rfl, _, SqL.of hC5.hn⟩, pn, _, _, rfl, rfl, hC5.hn, hlast, (by show 2 ≤ sizeLine; decide), fun pt hpt => ?_⟩
          rw [hdrop] at hpt ⊢
          have hC6 := hC5.setN (j' := j - 1) (by have := hC5.hj; omega)
          have kq56 : Kq s c pl pn H5 (upd H5 pn (.lst (nmL.take (j - 1)))) := fun b o _ _ _ h4 e => by
            rw [upd_ne h4]
            exact e
          have e6 := kq56 _ _ nS.1 nS.2.1 nS.2.2.1 nS.2.2.2 e5
          have sG6 := off3.kq kq56 sG5
          have kq6 := kq5.trans kq56
          generalize upd H5 pn (.lst (nmL.take (j - 1))) = H6 at hpt hC6 kq56 e6 sG6 kq6 ⊢
          obtain ⟨z1, z2, z3⟩ := tup_new (K := K) sG6 hpt (vs := [.str "apply", .str (tnm t)]) (ds := dAp t) (.cons (.str _) (.cons (.str _) .nil))
          have s7 := same_new (o := .tup [V.str "apply", .str (tnm t)]) hpt
          have e7 := s7 _ _ e6
          have gr7 := gr.trans z2 (kq6.none_ hC6)
          have g7c := z2.free hGcp (by rw [e6]; exact fun z => nomatch z)
          refine ⟨pc, _, _, rfl, rfl, e7, small1000 (by omega), _, catC ct (.ap t .nil), _, L', j - 1, _, _, _, rfl, (hC6.same s7).other nS.1 nS.2.1 nS.2.2.1 nS.2.2.2, (kq6.trans (Kq.same s7)).off hpc, upd_same, same_set z1 g7c, gr7, g7c, ?_, ok_cat _ _ hok ⟨ht, trivial⟩, ?_, ?_, fun _ _ => ?_⟩
          · rw [data_cat]
            exact dpAll_app (dpAll_sub z2.sub hxs) (.cons z3 .nil)
          · rw [dpt_cat]
            show max (dpt ct) 0 ≤ m + 1
            omega
          · rw [sz_cat]
            show sz ct + (0 + 1) + L' = L0
            omega
          · intro z
            have := congrArg sz z
            rw [sz_cat] at this
            have h0 : sz ct + (0 + 1) = 0 := this
            omega
        · obtain ⟨hC5, kq45, hjb⟩ := hb
          have kq5 := kq4.trans kq45
          have e5 := kq45 _ _ nS.1 nS.2.1 nS.2.2.1 nS.2.2.2 e4
          have sG5 := off3.kq kq45 sG4
          have hxl := dpAll_len hxs
          have hdl := data_len ct
          refine ⟨by show 0 ≤ sizeLine; exact Nat.zero_le _, fun p6 hp6 => ⟨by show 0 ≤ sizeLine; exact Nat.zero_le _, fun p7 hp7 => ?_⟩⟩
          obtain ⟨a1, a2, a3⟩ := lst_new (K := K) sG5 hp6 (vs := []) (ds := []) .nil
          obtain ⟨b1', b2', b3'⟩ := lst_new (K := K) a1 hp7 (vs := []) (ds := []) .nil
          have s7 := (same_new (o := .lst []) hp6).trans (same_new (o := .lst []) hp7)
          have hC7 := hC5.same s7
          have kq7 := kq5.trans (Kq.same s7)
          have e7 := s7 _ _ e5
          have gr6 := gr.trans a2 (kq5.none_ hC5)
          have gr7 := gr6.trans b2' ((kq5.trans (Kq.same (same_new hp6))).none_ (hC5.same (same_new hp6)))
          have g6c := a2.free hGcp (by rw [e5]; exact fun z => nomatch z)
          have g7c := b2'.free g6c (by rw [(same_new (o := .lst []) hp6) _ _ e5]; exact fun z => nomatch z)
          have sub7 := a2.sub.trans b2'.sub
          have d6 : Dp K (upd (upd Gc p6 (.lst [])) p7 (.lst [])) (.ref p6) (.list (dataC .nil)) := dp_sub b2'.sub a3
          have d7 : Dp K (upd (upd Gc p6 (.lst [])) p7 (.lst [])) (.ref p7) (.list (dataC .nil)) := b3'
          generalize upd (upd H5 p6 (.lst [])) p7 (.lst []) = H7 at b1' s7 hC7 kq7 e7 ⊢
          generalize upd (upd Gc p6 (.lst [])) p7 (.lst []) = G7 at b1' gr7 g7c sub7 d6 d7
          refine ⟨fun σ' H' => ∃ Gd x6 u6 Ld jd, σ' = [some (.ref s), some (.ref pl), some (.int (m : Nat)), some (.ref pn), some (.ref pc), some (.int (0 + (i : Int))), some u6, some (.ref p7)] ∧ Cxt H' s c pl pn Ld jd ∧ Kq s c pl pn H H' ∧ H' pc = some (.lst xs) ∧ Same Gd H' ∧ Gr G Gd H ∧ Gd pc = none ∧ Same G7 Gd ∧ Dp K Gd u6 (.list (dataC x6)) ∧ okC x6 ∧ dpt x6 ≤ m ∧ sz x6 + Ld = L', ?_, ?_⟩
          · refine by_if (fun b Hx => Cxt Hx s c pl pn L' j ∧ Kq s c pl pn H7 Hx ∧ (b = true → 0 < m)) (fun R' hR' => ?_) (fun H8 hb => ?_) (fun H8 hb => ?_)
            · refine ⟨_, rfl, _, _, rfl, rfl, _, rfl, iteD (fun hm0 => ?_) fun hm0 => ?_⟩
              · exact ⟨_, rfl, s, c, 3, rfl, hC7.st, by decide, by decide, fun H8 r r0 r1 st8 kp8 => ⟨rfl, _, rfl, hR' _ _ ⟨hC7.draw st8 kp8, Kq.kp kp8, fun _ => by omega⟩⟩⟩
              · exact hR' false _ ⟨hC7, Kq.same (Same.refl _), fun z => nomatch z⟩
            · obtain ⟨hC8, kq78, hmb⟩ := hb
              have off7 := off.gr hC gr7
              have sG8 := off7.kq kq78 b1'
              have e8 := kq78 _ _ nS.1 nS.2.1 nS.2.2.1 nS.2.2.2 e7
              have hm1 := hmb rfl
              obtain ⟨m', rfl⟩ : ∃ m', m = m' + 1 := ⟨m - 1, by omega⟩
              refine ⟨_, rfl, _, rfl, _, rfl, _, _, rfl, rfl, _, rfl, s, c, pl, pn, L', j, G7, ?_, hC8, sG8, off7, by omega, fun H9 G9 u9 ct9 L9 j9 hC9 kq89 sG9 gr9 d9 ok9 dp9 sz9 _ => ?_⟩
              · exact congrArg (fun z : Int => [V.ref s, V.ref pl, V.int z, V.ref pn]) (show (((m' + 1 : Nat) : Int) - 1) = ((m' : Nat) : Int) by omega)
              · exact ⟨G9, ct9, u9, L9, j9, rfl, hC9, (kq7.trans kq78).trans kq89, kq89 _ _ nS.1 nS.2.1 nS.2.2.1 nS.2.2.2 e8, sG9, gr7.trans gr9 ((kq7.trans kq78).none_ hC8), gr9.free g7c (by rw [e8]; exact fun z => nomatch z), gr9.sub, d9, ok9, dp9, sz9⟩
            · obtain ⟨hC8, kq78, hmb⟩ := hb
              have off7 := off.gr hC gr7
              have sG8 := off7.kq kq78 b1'
              have e8 := kq78 _ _ nS.1 nS.2.1 nS.2.2.1 nS.2.2.2 e7
              exact ⟨G7, .nil, .ref p6, L', j, rfl, hC8, kq7.trans kq78, e8, sG8, gr7, g7c, Same.refl _, d6, trivial, Nat.zero_le _, Nat.zero_add _⟩
          rintro σ' H10 ⟨Gd, x6, u6, Ld, jd, rfl, hC10, kq10, e10, sG10, gr10, g10c, sub10, dx6, okx6, dpx6, szx6⟩
          have off10 := off.gr hC gr10
          refine ⟨fun σ' H' => ∃ Ge x7 u7 Le je, σ' = [some (.ref s), some (.ref pl), some (.int (m : Nat)), some (.ref pn), some (.ref pc), some (.int (0 + (i : Int))), some u6, some u7] ∧ Cxt H' s c pl pn Le je ∧ Kq s c pl pn H H' ∧ H' pc = some (.lst xs) ∧ Same Ge H' ∧ Gr G Ge H ∧ Ge pc = none ∧ Same Gd Ge ∧ Dp K Ge u7 (.list (dataC x7)) ∧ okC x7 ∧ dpt x7 ≤ m ∧ sz x7 + Le = Ld, ?_, ?_⟩
          · refine by_if (fun b Hx => Cxt Hx s c pl pn Ld jd ∧ Kq s c pl pn H10 Hx ∧ (b = true → 0 < m)) (fun R' hR' => ?_) (fun H8 hb => ?_) (fun H8 hb => ?_)
            · refine ⟨_, rfl, _, _, rfl, rfl, _, rfl, iteD (fun hm0 => ?_) fun hm0 => ?_⟩
              · exact ⟨_, rfl, s, c, 4, rfl, hC10.st, by decide, by decide, fun H8 r r0 r1 st8 kp8 => ⟨rfl, _, rfl, hR' _ _ ⟨hC10.draw st8 kp8, Kq.kp kp8, fun _ => by omega⟩⟩⟩
              · exact hR' false _ ⟨hC10, Kq.same (Same.refl _), fun z => nomatch z⟩
            · obtain ⟨hC8, kq78, hmb⟩ := hb
              have sG8 := off10.kq kq78 sG10
              have e8 := kq78 _ _ nS.1 nS.2.1 nS.2.2.1 nS.2.2.2 e10
              have hm1 := hmb rfl
              obtain ⟨m', rfl⟩ : ∃ m', m = m' + 1 := ⟨m - 1, by omega⟩
              refine ⟨_, rfl, _, rfl, _, rfl, _, _, rfl, rfl, _, rfl, s, c, pl, pn, Ld, jd, Gd, ?_, hC8, sG8, off10, by omega, fun H9 G9 u9 ct9 L9 j9 hC9 kq89 sG9 gr9 d9 ok9 dp9 sz9 _ => ?_⟩
              · exact congrArg (fun z : Int => [V.ref s, V.ref pl, V.int z, V.ref pn]) (show (((m' + 1 : Nat) : Int) - 1) = ((m' : Nat) : Int) by omega)
              · exact ⟨G9, ct9, u9, L9, j9, rfl, hC9, (kq10.trans kq78).trans kq89, kq89 _ _ nS.1 nS.2.1 nS.2.2.1 nS.2.2.2 e8, sG9, gr10.trans gr9 ((kq10.trans kq78).none_ hC8), gr9.free g10c (by rw [e8]; exact fun z => nomatch z), gr9.sub, d9, ok9, dp9, sz9⟩
            · obtain ⟨hC8, kq78, hmb⟩ := hb
              have sG8 := off10.kq kq78 sG10
              have e8 := kq78 _ _ nS.1 nS.2.1 nS.2.2.1 nS.2.2.2 e10
              exact ⟨Gd, .nil, .ref p7, Ld, jd, rfl, hC8, kq10.trans kq78, e8, sG8, gr10, g10c, Same.refl _, dp_sub sub10 d7, trivial, Nat.zero_le _, Nat.zero_add _⟩
          rintro σ' H11 ⟨Ge, x7, u7, Le, je, rfl, hC11, kq11, e11, sG11, gr11, g11c, sub11, dx7, okx7, dpx7, szx7⟩
          have off11 := off.gr hC gr11
          refine ⟨.ref pc, rfl, .inl ⟨rfl, _, SqL.of e11⟩, (by show 2 ≤ sizeLine; decide), fun t1 ht1 => ?_⟩
          obtain ⟨y1, y2, y3⟩ := tup_new (K := K) sG11 ht1 (vs := [.str "packet", .str "port"]) (ds := [.str "packet", .str "port"]) (.cons (.str _) (.cons (.str _) .nil))
          have st1 := same_new (o := .tup [V.str "packet", .str "port"]) ht1
          have hC12 := hC11.same st1
          have kq12 := kq11.trans (Kq.same st1)
          have e12 := st1 _ _ e11
          have gr12 := gr11.trans y2 (kq11.none_ hC11)
          have g12c := y2.free g11c (by rw [e11]; exact fun z => nomatch z)
          generalize upd H11 t1 (.tup [V.str "packet", .str "port"]) = H12 at y1 st1 hC12 kq12 e12 ⊢
          refine ⟨_, rfl, s, c, 7, rfl, hC12.st, by decide, by decide, fun H13 r r0 r1 st13 kp13 => ⟨_, _, rfl, rfl, (by show 3 ≤ sizeLine; decide), fun t2 ht2 => ?_⟩⟩
          obtain ⟨n, hn⟩ : ∃ n : Nat, 1 + r = (n : Int) := ⟨(1 + r).toNat, by omega⟩
          have off12 := off.gr hC gr12
          have hC13 := hC12.draw st13 kp13
          have kq1213 : Kq s c pl pn H12 H13 := Kq.kp kp13
          have kq13 := kq12.trans kq1213
          have e13 := kq1213 _ _ nS.1 nS.2.1 nS.2.2.1 nS.2.2.2 e12
          have sG13 := off12.kq kq1213 y1
          obtain ⟨w1, w2, w3⟩ := tup_new (K := K) sG13 ht2 (vs := [.str "<", .ref t1, .int (1 + r)]) (ds := dTest n) (.cons (.str _) (.cons y3 (.cons (by rw [hn]; exact .int _) .nil)))
          have st2 := same_new (o := .tup [V.str "<", .ref t1, .int (1 + r)]) ht2
          have hC14 := hC13.same st2
          have kq14 := kq13.trans (Kq.same st2)
          have e14 := st2 _ _ e13
          have gr14 := gr12.trans w2 (kq13.none_ hC13)
          have g14c := w2.free g12c (by rw [e13]; exact fun z => nomatch z)
          refine ⟨_, rfl, _, rfl, (by show 4 ≤ sizeLine; decide), fun t3 ht3 => ?_⟩
          have sub14 := y2.sub.trans w2.sub
          obtain ⟨v1, v2, v3⟩ := tup_new (K := K) w1 ht3 (vs := [.str "if", .ref t2, u6, u7]) (ds := dCf n (dataC x6) (dataC x7)) (.cons (.str _) (.cons w3 (.cons (dp_sub (sub11.trans sub14) dx6) (.cons (dp_sub sub14 dx7) .nil))))
          have st3 := same_new (o := .tup [V.str "if", .ref t2, u6, u7]) ht3
          have e15 := st3 _ _ e14
          have gr15 := gr14.trans v2 (kq14.none_ hC14)
          have g15c := v2.free g14c (by rw [e14]; exact fun z => nomatch z)
          have kq15 := kq14.trans (Kq.same st3)
          have subA := ((((sub7.trans sub10).trans sub11).trans sub14)).trans v2.sub
          refine ⟨pc, _, _, rfl, rfl, e15, small1000 (by omega), _, catC ct (.cf n x6 x7 .nil), _, Le, je, _, _, _, rfl, (hC14.same st3).other nS.1 nS.2.1 nS.2.2.1 nS.2.2.2, kq15.off hpc, upd_same, same_set v1 g15c, gr15, g15c, ?_, ok_cat _ _ hok ⟨okx6, okx7, trivial⟩, ?_, ?_, fun _ _ => ?_⟩
          · rw [data_cat]
            exact dpAll_app (dpAll_sub subA hxs) (.cons v3 .nil)
          · rw [dpt_cat]
            show max (dpt ct) (max (max (dpt x6) (dpt x7) + 1) 0) ≤ m + 1
            omega
          · rw [sz_cat]
            show sz ct + (sz x6 + sz x7 + 0 + 1) + Le = L0
            omega
          · intro z
            have := congrArg sz z
            rw [sz_cat] at this
            have h0 : sz ct + (sz x6 + sz x7 + 0 + 1) = 0 := this
            omega
      · refine ⟨Gc, ct, xs, L, j, _, _, _, rfl, hC3, kq3, e3, sGc, gr, hGcp, hxs, hok, hdp, hsz, fun _ h0 => ?_⟩
        rintro rfl
        have : 0 + L = L0 := hsz
        omega
    · rintro σ H3 ⟨Gc, ct, xs, L, j, o5, o6, o7, rfl, hC3, kq3, e3, sGc, gr, hGcp, hxs, hok, hdp, hsz, hne⟩
      refine ⟨_, rfl, q H3 (upd Gc pc (.lst xs)) (.ref pc) ct L j hC3 kq3 (same_upd sGc e3) (gr.put hpc hGcp) (.lst (SqL.of upd_same) (dpAll_sub (same_new2 hGcp) hxs)) hok hdp hsz (hne (by omega))⟩
end
end Pk
set_option Elab.async false
set_option linter.all false
set_option maxRecDepth 100000
set_option maxHeartbeats 4000000
namespace Pk
open PySem PySem.Spec PyProof.Rows L2 PySem.ErX
abbrev sGoals : Stmt := topS 77
abbrev sLong : Stmt := topS 78
abbrev sRefused : Stmt := topS 79
abbrev NLo : List Str := ["nodes", "found", "node", "k", "at", "goal"]
theorem scGoals : FnScope ["node", "goals", "goal"] ["node"] (defScope sGoals) := ⟨rfl, rfl, rfl, by decide +kernel, rfl, by decide +kernel, by decide +kernel⟩
theorem scLong : FnScope NLo ["nodes"] (defScope sLong) := ⟨rfl, rfl, rfl, by decide +kernel, rfl, by decide +kernel, by decide +kernel⟩
theorem scRefused : FnScope ["program", "e"] ["program"] (defScope sRefused) := ⟨rfl, rfl, rfl, by decide +kernel, rfl, by decide +kernel, by decide +kernel⟩
section
variable {P : Program} {w : World} {K : PySem.W.Frag} {mg : Str → Option Value} {base : Heap} {cB cS : Addr}
def spGoals (K : PySem.W.Frag) : Sp := fun vs H Q _ => ∃ (v : V) (G : Hp) (nd : Nd), vs = [v] ∧ Same G H ∧ Dp K G v (.tuple (dN nd)) ∧ (∀ g ∈ goals nd, 0 ≤ g) ∧ ∀ H' p, Same H H' → H p = none → H' p = some (.lst ((goals nd).map V.int)) → Q (.ref p) H'
theorem ok_goals {f : Addr} {fd : FuncData} {k : Nat} (F : Fun K "_law_goals" "_law_goals" sGoals f fd) : FnOk P w K mg base CX0 (k + 1) f fd ["node"] (spGoals K) := by
  refine F.ok scGoals (fun vs H Q E h => ?_) (fun cdv A outer s H vs Q E hr h => ?_)
  · obtain ⟨v, G, nd, rfl, _⟩ := h
    rfl
  · obtain ⟨v, G, node, rfl, sG, hD, hpos, q⟩ := h
    have nd := scGoals.nd
    refine ⟨_, pss_cons (ps_set (i := 1) nd rfl (.inl rfl) (pe_ifExp (pt_cmpR op_eq (pe_ix ix_tup (pv 0) pe_int (fun _ _ => rfl)) pe_str (nomark _)) (pe_lst (pa_cons (pe_ix ix_tup (pv 0) pe_int (fun _ _ => rfl)) pa_nil))
        (pe_lst (pa_cons (pe_ix ix_tup (pv 0) pe_int (fun _ _ => rfl)) (pa_cons (pe_ix ix_tup (pv 0) pe_int (fun _ _ => rfl)) pa_nil)))))
      (pss_one (ps_ret (pe_lc (own := [("goal", 2)]) (g := gName 2) rfl nd (pi_list (pv 1)) (blkOk_by (N := ["node", "goals", "goal"]) (sc := defScope sGoals) (by decide +kernel)) (fun _ _ _ _ _ => pg_name (i := 2) nd rfl (Or.inl rfl))
        (fun _ _ _ _ _ => pts_one (pt_cmpR op_ge (pv 2) pe_int (nomark _))) (fun _ _ _ _ _ => pv 2)))), ?_⟩
    obtain ⟨pn, xs, rfl, h1, h2⟩ := dp_tup hD
    have h1' := sqT_sub sG h1
    have fin : ∀ (gs : List Int) (H1 : Hp) (pg : Addr), Same H H1 → H1 pg = some (.lst (gs.map V.int)) → gs.length ≤ 2 → gs.filter (· ≥ 0) = goals node →
        tRet (tLc (iList K (tVar 1)) (gName 2) (tTest (tOp (rI0 fun i j => .bl (decide (i ≥ j))) (tVar 2) (tC (.int 0)))) (tVar 2) [2]) { nx := fun _ H' => Q .non H', rt := Q } [some (.ref pn), some (.ref pg), none] H1 := by
      intro gs H1 pg s1 e1 hl hg
      refine ⟨_, rfl, pg, rfl, ⟨_, SqL.of e1⟩, fun D hD1 => lc_list (K := K) (a := pg) (xs := gs.map V.int) (fun i H2 => Same H1 H2 ∧ H2 D = some (.lst (((gs.take i).filter (· ≥ 0)).map V.int))) ⟨same_new hD1, upd_same⟩ (fun i H2 _ h => h.1.seq (SqL.of e1)) ?_ ?_⟩
      · rintro i y H2 hi ⟨sm, e2⟩
        obtain ⟨z, hz, rfl⟩ := map_at hi
        have et : gs.take (i + 1) = gs.take i ++ [z] := by
          rw [List.take_add_one, hz]
          rfl
        refine ⟨rfl, _, rfl, _, _, rfl, rfl, _, rfl, iteD (fun h0 => ?_) fun h0 => ?_⟩
        · refine ⟨_, rfl, _, e2, ?_, same_set sm hD1, ?_⟩
          · have := List.length_filter_le (· ≥ 0) (gs.take i)
            rw [List.length_take] at this
            rw [List.length_map]
            exact small1000 (by omega)
          · rw [upd_same, et, List.filter_append, List.map_append]
            simp [h0]
        · refine ⟨sm, ?_⟩
          rw [e2, et, List.filter_append]
          simp [h0]
      · rintro H2 ⟨sm, e2⟩
        rw [List.length_map, List.take_length, hg] at e2
        exact q H2 D (s1.trans sm) (s1.free hD1) e2
    have flt : ∀ (gs : List Int), (∀ g ∈ gs.filter (· ≠ -1), 0 ≤ g) → gs.filter (· ≥ 0) = gs.filter (· ≠ -1) := by
      intro gs
      induction gs with
      | nil => intro _; rfl
      | cons g gs ih =>
        intro h
        have ih' := ih fun x hx => h x (by
          rw [List.filter_cons]
          split
          · exact List.mem_cons_of_mem _ hx
          · exact hx)
        rw [List.filter_cons, List.filter_cons, ih']
        by_cases hg : g = -1
        · subst hg
          rfl
        · have : 0 ≤ g := h g (by
            rw [List.filter_cons, if_pos (by simpa using hg)]
            exact List.mem_cons_self)
          rw [if_pos (by simpa using this), if_pos (by simpa using hg)]
    cases node with
    | tb t x =>
      obtain ⟨v0, r, rfl, e0, h2⟩ := dpAll_cons h2
      obtain ⟨v1, r, rfl, e1, h2⟩ := dpAll_cons h2
      obtain ⟨v2, r, rfl, e2, h2⟩ := dpAll_cons h2
      obtain ⟨v3, r, rfl, e3, h2⟩ := dpAll_cons h2
      obtain rfl := dpAll_nil h2
      obtain rfl := dp_str e0
      obtain rfl := dp_int e3
      refine ⟨_, rfl, pn, _, _, _, rfl, rfl, h1', atI_nat (j := 0) rfl, rfl, _, rfl, ?_⟩
      rw [dcStr]
      refine iteDT rfl ⟨_, rfl, pn, _, _, _, rfl, rfl, h1', atI_nat (j := 3) rfl, (by show 1 ≤ sizeLine; decide), fun pg hpg => ?_⟩
      exact fin [x] _ pg (same_new hpg) upd_same (by show 1 ≤ 2; decide) (flt _ hpos)
    | ts n y z =>
      obtain ⟨v0, r, rfl, e0, h2⟩ := dpAll_cons h2
      obtain ⟨v1, r, rfl, e1, h2⟩ := dpAll_cons h2
      obtain ⟨v2, r, rfl, e2, h2⟩ := dpAll_cons h2
      obtain ⟨v3, r, rfl, e3, h2⟩ := dpAll_cons h2
      obtain ⟨v4, r, rfl, e4, h2⟩ := dpAll_cons h2
      obtain ⟨v5, r, rfl, e5, h2⟩ := dpAll_cons h2
      obtain rfl := dpAll_nil h2
      obtain rfl := dp_str e0
      obtain rfl := dp_int e4
      obtain rfl := dp_int e5
      refine ⟨_, rfl, pn, _, _, _, rfl, rfl, h1', atI_nat (j := 0) rfl, rfl, _, rfl, ?_⟩
      rw [dcStr]
      refine iteDF (by decide +kernel) ⟨_, rfl, pn, _, _, _, rfl, rfl, h1', atI_nat (j := 4) rfl, _, rfl, pn, _, _, _, rfl, rfl, h1', atI_nat (j := 5) rfl, (by show 2 ≤ sizeLine; decide), fun pg hpg => ?_⟩
      exact fin [y, z] _ pg (same_new hpg) upd_same (by show 2 ≤ 2; decide) (flt _ hpos)
def spLong (K : PySem.W.Frag) : Sp := fun vs H Q _ => ∃ (v : V) (G : Hp) (nds : List Nd), vs = [v] ∧ Same G H ∧ Dp K G v (.list (nds.map fun nd => .tuple (dN nd))) ∧ Fw nds.length 0 nds ∧ nds.length ≤ 1000 ∧
  ∀ H' p, Same H H' → H p = none → H' p = some (.lst ((passes nds nds.length (zeros nds.length)).map V.int)) → Q (.ref p) H'
theorem passes_s (nds : List Nd) : ∀ (k : Nat) (l : List Int), passes nds (k + 1) l = pass 0 nds (passes nds k l)
  | 0, _ => rfl
  | k + 1, l => passes_s nds k (pass 0 nds l)
theorem ok_long {f : Addr} {fd : FuncData} {k : Nat} (F : Fun K "_law_longest" "_law_longest" sLong f fd) (T : Gk K mg) (D : Df P w K mg base CX0 (k + 1) "_law_goals" ["node"] (spGoals K)) : FnOk P w K mg base CX0 (k + 2) f fd ["nodes"] (spLong K) := by
  obtain ⟨fA, fdA, GA, gA, kA, bA⟩ := D.ex
  refine F.ok scLong (fun vs H Q E h => ?_) (fun cdv A outer s H vs Q E hr h => ?_)
  · obtain ⟨v, G, nds, rfl, _⟩ := h
    rfl
  · obtain ⟨v, G, nds, rfl, sG, hD, hF, hn, q⟩ := h
    have nd := scLong.nd
    refine ⟨_, pss_cons (ps_setLc (i := 1) (own := [("node", 2)]) (g := gName 2) (tt := tYes) rfl nd rfl rfl (sw_true rfl rfl rfl (by decide +kernel)) (pi_list (pv 0)) (blkOk_by (N := NLo) (sc := defScope sLong) (by decide +kernel)) (fun _ _ _ _ _ => pg_name (i := 2) nd rfl (Or.inl rfl)) (fun _ _ _ _ _ => pts_nil) (fun _ _ _ _ _ => pe_int))
      (pss_cons (ps_for PassesOwn.never rfl (pi_range1 (by rfl) T.zRange (pa_cons (pe_callB call_len_seq (by rfl) T.zLen PySem.boot_len (pa_cons (pv 0) pa_nil)) pa_nil)) (pg_name (i := 3) nd rfl (.inl rfl))
        (pss_one (ps_for PassesOwn.never rfl (pi_range1 (by rfl) T.zRange (pa_cons (pe_callB call_len_seq (by rfl) T.zLen PySem.boot_len (pa_cons (pv 0) pa_nil)) pa_nil)) (pg_name (i := 4) nd rfl (.inl rfl))
          (pss_one (ps_for PassesOwn.never rfl (pi_list (pe_call GA hr (by rfl) gA kA bA .nil pass0 (pa_cons (pe_ix ix_list (pv 0) (pv 4) (fun _ _ => rfl)) pa_nil))) (pg_name (i := 5) nd rfl (.inl rfl))
            (pss_one (ps_if (pt_cmpR op_lt (pe_ix ix_list (pv 1) (pv 5) (fun _ _ => rfl)) (pe_op op_add (pe_ix ix_list (pv 1) (pv 4) (fun _ _ => rfl)) pe_int) (nomark _))
              (pss_one (ps_asg (pe_op op_add (pe_ix ix_list (pv 1) (pv 4) (fun _ _ => rfl)) pe_int) (pg_sub (pv 1) (pv 5) set_list))) pss_nil)))))))
      (pss_one (ps_ret (pv 1)))), ?_⟩
    obtain ⟨pn, xs, rfl, h1, h2⟩ := dp_lst hD
    have hl := dpAll_len h2
    rw [List.length_map] at hl
    refine ⟨_, rfl, pn, rfl, ⟨_, sqL_sub sG h1⟩, fun pf hpf => lc_list (K := K) (a := pn) (xs := xs) (fun i H2 => Same H H2 ∧ H2 pf = some (.lst ((zeros i).map V.int))) ⟨same_new hpf, upd_same⟩ (fun i H2 _ h => h.1.seq (sqL_sub sG h1)) ?_ ?_⟩
    · rintro i y H2 hi ⟨sm, e2⟩
      have hil : i < xs.length := by
        rcases Nat.lt_or_ge i xs.length with h | h
        · exact h
        · rw [List.getElem?_eq_none h] at hi
          cases hi
      refine ⟨rfl, ⟨_, e2, ?_, same_set sm hpf, ?_⟩⟩
      · unfold zeros
        rw [List.length_map, List.length_replicate]
        exact small1000 (by omega)
      · rw [upd_same]
        unfold zeros
        rw [List.map_replicate, List.map_replicate]
        exact congrArg (fun x => some (HO.lst x)) List.replicate_succ'.symm
    rintro H1 ⟨s1, e1⟩
    rw [hl] at e1
    refine ⟨.ref pn, rfl, pn, _, rfl, .inl (sqL_sub (sG.trans s1) h1), _, rfl, by omega, by omega, ?_⟩
    rw [hl]
    refine for_range (lo := 0) (n := ((nds.length : Nat) : Int).toNat) (fun i σ H2 => Same H H2 ∧ ∃ o3 o4 o5, σ = [some (.ref pn), some (.ref pf), none, o3, o4, o5] ∧ H2 pf = some (.lst ((passes nds i (zeros nds.length)).map V.int)) ∧ (passes nds i (zeros nds.length)).length = nds.length)
      ⟨s1, none, none, none, rfl, e1, List.length_replicate ..⟩ ?_ ?_
    · rintro i σ H2 hi ⟨s2, o3, o4, o5, rfl, e2, hl2⟩
      refine ⟨.ref pn, rfl, pn, _, rfl, .inl (sqL_sub (sG.trans s2) h1), _, rfl, by omega, by omega, ?_⟩
      rw [hl]
      generalize hcur : passes nds i (zeros nds.length) = l0 at e2 hl2
      refine for_range (lo := 0) (n := ((nds.length : Nat) : Int).toNat) (fun j σ H3 => Same H H3 ∧ ∃ o4 o5 cur, σ = [some (.ref pn), some (.ref pf), none, some (.int (0 + (i : Int))), o4, o5] ∧ H3 pf = some (.lst (cur.map V.int)) ∧ cur.length = nds.length ∧ pass j (nds.drop j) cur = pass 0 nds l0)
        ⟨s2, _, _, l0, rfl, e2, hl2, rfl⟩ ?_ ?_
      · rintro j σ H3 hj ⟨s3, o4, o5, cur, rfl, e3, hl3, hpa⟩
        have hj' : j < nds.length := by simpa using hj
        obtain ⟨y1, hy, hd⟩ := dpAll_at h2 (i := j) (d := .tuple (dN nds[j])) (by rw [List.getElem?_map, List.getElem?_eq_getElem hj']; rfl)
        have hpos : ∀ g ∈ goals nds[j], 0 ≤ g ∧ g.toNat < nds.length := fun g hg => by
          have := hF j nds[j] (List.getElem?_eq_getElem hj') g hg
          omega
        rw [List.drop_eq_getElem_cons hj'] at hpa
        have hpa' : pass (j + 1) (nds.drop (j + 1)) (rowUp cur j nds[j]) = pass 0 nds l0 := hpa
        refine ⟨.ref pn, rfl, _, rfl, pn, _, _, _, rfl, rfl, sqL_sub (sG.trans s3) h1, at_of (j := j) (by omega) hy, y1, G, nds[j], rfl, sG.trans s3, hd, fun g hg => (hpos g hg).1, fun H4 pg s4 n4 e4 => ?_⟩
        have nfg : pf ≠ pg := ne_of_none e3 n4
        refine ⟨pg, rfl, ⟨_, SqL.of e4⟩, for_list (K := K) (a := pg) (xs := (goals nds[j]).map V.int) (fun b σ H5 => Same H H5 ∧ H5 pg = some (.lst ((goals nds[j]).map V.int)) ∧ ∃ c2 o, σ = [some (.ref pn), some (.ref pf), none, some (.int (0 + (i : Int))), some (.int (0 + (j : Int))), o] ∧ H5 pf = some (.lst (c2.map V.int)) ∧ c2.length = nds.length ∧ ((goals nds[j]).drop b).foldl (up j) c2 = rowUp cur j nds[j])
          ⟨s3.trans s4, e4, cur, _, rfl, s4 _ _ e3, hl3, rfl⟩ (fun b σ H5 _ h => SqL.of h.2.1) ?_ ?_⟩
        · rintro b y2 σ H5 hb ⟨s5, e5, c2, o, rfl, hp5, hcl5, hfo⟩
          obtain ⟨g, hg, rfl⟩ := map_at hb
          have hbl : b < (goals nds[j]).length := by
            rcases Nat.lt_or_ge b (goals nds[j]).length with h | h
            · exact h
            · rw [List.getElem?_eq_none h] at hg
              cases hg
          have hg' : (goals nds[j])[b] = g := by
            rw [List.getElem?_eq_getElem hbl] at hg
            exact Option.some.inj hg
          obtain ⟨g0, g1⟩ := hpos g (List.mem_of_getElem? hg)
          rw [List.drop_eq_getElem_cons hbl, hg', List.foldl_cons] at hfo
          have iA := ints_at (l := c2) (i := g.toNat) (by omega)
          have iB := ints_at (l := c2) (i := j) (by omega)
          refine ⟨.ref pf, rfl, _, rfl, pf, _, _, _, rfl, rfl, SqL.of hp5, at_of (j := g.toNat) (by omega) iA, .ref pf, rfl, _, rfl, pf, _, _, _, rfl, rfl, SqL.of hp5, at_of (j := j) (by omega) iB, _, _, rfl, rfl, _, _, rfl, rfl, _, rfl, iteD (fun hlt => ?_) fun hlt => ?_⟩
          · refine ⟨.ref pf, rfl, _, rfl, pf, _, _, _, rfl, rfl, SqL.of hp5, at_of (j := j) (by omega) iB, _, _, rfl, rfl, .ref pf, rfl, _, rfl, pf, _, _, _, rfl, rfl, hp5, ix_at g0 (by rw [List.length_map]; omega), ?_⟩
            have eu : up j c2 g = c2.set g.toNat (nth c2 j + 1) := by
              unfold up
              rw [show max (nth c2 g.toNat) (nth c2 j + 1) = nth c2 j + 1 by omega]
            refine ⟨same_set s5 hpf, ?_, up j c2 g, _, rfl, ?_, by rw [up_len]; exact hcl5, hfo⟩
            · rw [upd_ne (Ne.symm nfg)]
              exact e5
            · rw [upd_same, eu, List.map_set]
          · have eu : up j c2 g = c2 := by
              unfold up
              rw [show max (nth c2 g.toNat) (nth c2 j + 1) = nth c2 g.toNat by omega, set_self (by omega)]
            rw [eu] at hfo
            exact ⟨s5, e5, c2, _, rfl, hp5, hcl5, hfo⟩
        · rintro σ H5 ⟨s5, e5, c2, o, rfl, hp5, hcl5, hfo⟩
          rw [List.length_map, List.drop_length] at hfo
          have hfo' : c2 = rowUp cur j nds[j] := hfo
          subst hfo'
          exact ⟨s5, _, _, _, rfl, hp5, hcl5, hpa'⟩
      · rintro σ H3 ⟨s3, o4, o5, cur, rfl, e3, hl3, hpa⟩
        rw [Int.toNat_natCast, List.drop_length] at hpa
        have hpa' : cur = pass 0 nds l0 := hpa
        have e9 : passes nds (i + 1) (zeros nds.length) = cur := by rw [passes_s, hcur, hpa']
        refine ⟨s3, _, _, _, rfl, ?_, ?_⟩
        · rw [e9]
          exact e3
        · rw [e9]
          exact hl3
    · rintro σ H2 ⟨s2, o3, o4, o5, rfl, e2, hl2⟩
      rw [Int.toNat_natCast] at e2
      exact ⟨_, rfl, q H2 pf s2 hpf e2⟩
/-- what the handler asks of BuildError -/
structure BuC (K : PySem.W.Frag) (mg : Str → Option Value) (cB cS : Addr) : Prop where
  B : BuE K mg cB
  ex : ExcC K cB
  self : PySem.W.exmOne K (.ref cB) (.ref cB) = some true
  gS : mg "SwitchError" = some (.ref cS)
  kS : PySem.W.kitOne K (.ref cB) (.ref cS) = some true
  zIsi : mg "isinstance" = none
def spRefused (K : PySem.W.Frag) : Sp := fun vs H Q _ => ∃ (v : V) (G : Hp) (c : Ct), vs = [v] ∧ Same G H ∧ Dp K G v (.tuple (progL c)) ∧ okC c ∧ dpt c ≤ 5 ∧ sz c ≤ 1000 ∧ ∀ H', Same H H' → Q (.bl (tooHigh c)) H'
def t_sufR (K : PySem.W.Frag) (cS : Addr) : Addr → Value → Option Addr → TS := fun a cls d => tRet (tCB (rIsA K cls d a) (tCons (tVar 1) (tCons (tC (.ref cS)) tNil)))
theorem ok_refused {f : Addr} {fd : FuncData} {k : Nat} (F : Fun K "_law_refused" "_law_refused" sRefused f fd) (T : BuC K mg cB cS) (D : Df P w K mg base (L2.CX P w) (k + 1) "build" ["configuration"] (spBuild K cB)) : FnOk P w K mg base CX0 (k + 2) f fd ["program"] (spRefused K) := by
  obtain ⟨fT, fdT, GT, gT, kT, bT⟩ := D.ex
  refine F.ok scRefused (fun vs H Q E h => ?_) (fun cdv A outer s H vs Q E hr h => ?_)
  · obtain ⟨v, G, c, rfl, _⟩ := h
    rfl
  · obtain ⟨v, G, c, rfl, sG, hD, hok, hdp, hz, q⟩ := h
    have nd := scRefused.nd
    refine ⟨_, pss_cons (ps_try_as (i := 1) (tb := fun W => tDrop (tCallS (spBuild K cB) (WE W) (tCons (tTup (tCons (tVar 0) (tCons (tDisp [(tC (.str "t0"), tLst tNil), (tC (.str "t1"), tLst tNil), (tC (.str "t2"), tLst tNil)]) tNil))) tNil))) (ts := t_sufR K cS) (Wout := fun _ _ _ _ => False) rfl rfl nd rfl rfl ⟨rfl, by decide, Or.inl T.B.gB⟩ takes0
        (fun W pn xe tk _ => pss_one (ps_expr (by exact (pe_callS GT hr rfl gT kT bT (fun σ => passAt tk σ) (by exact (pa_cons (pe_tup (pa_cons (pv 0) (pa_cons (pe_disp (pps_cons pe_str (pe_lst pa_nil) (pps_cons pe_str (pe_lst pa_nil) (pps_cons pe_str (pe_lst pa_nil) pps_nil))) (by rfl) (by rfl) (fun z => by cases z) (by decide)) pa_nil))) pa_nil))))))
        (fun a oe cls d pn hz hf => pss_one (ps_ret (pe_callB (call_isA hz hf) (by rfl) T.zIsi PyProof.Rows.boot_isinstance (pa_cons (pv 1) (pa_cons (pe_glob rfl T.gS rfl) pa_nil))))))
      (pss_one (ps_ret pe_bl)), ?_⟩
    refine ⟨_, rfl, fun pd hpd => ⟨by show 0 ≤ sizeLine; exact Nat.zero_le _, fun l0 h0 => ⟨by show 0 ≤ sizeLine; exact Nat.zero_le _, fun l1 h1 => ⟨by show 0 ≤ sizeLine; exact Nat.zero_le _, fun l2 h2 => ?_⟩⟩⟩⟩
    have sd := same_new (o := .dK []) hpd
    have s0 := same_new (o := .lst []) h0
    have s1 := same_new (o := .lst []) h1
    have s2 := same_new (o := .lst []) h2
    have e0 := s2 _ _ (s1 _ _ (upd_same (H := upd H pd (.dK [])) (a := l0) (o := .lst [])))
    have e1 := s2 _ _ (upd_same (H := upd (upd H pd (.dK [])) l0 (.lst [])) (a := l1) (o := .lst []))
    have e2 : (upd (upd (upd (upd H pd (.dK [])) l0 (.lst [])) l1 (.lst [])) l2 (.lst [])) l2 = some (.lst []) := upd_same
    have ed := s2 _ _ (s1 _ _ (s0 _ _ (upd_same (H := H) (a := pd) (o := .dK []))))
    have sA := ((sd.trans s0).trans s1).trans s2
    generalize upd (upd (upd (upd H pd (.dK [])) l0 (.lst [])) l1 (.lst [])) l2 (.lst []) = H4 at e0 e1 e2 ed sA ⊢
    refine ⟨ed, [(.inr (tnm 0), .ref l0), (.inr (tnm 1), .ref l1), (.inr (tnm 2), .ref l2)], rfl, by show 3 ≤ 15; decide, ?_⟩
    have em : mergeK [] ([(.inr (tnm 0), .ref l0), (.inr (tnm 1), .ref l1), (.inr (tnm 2), .ref l2)] : List (Key × V)) = [(.inr (tnm 0), .ref l0), (.inr (tnm 1), .ref l1), (.inr (tnm 2), .ref l2)] := by
      have put : ∀ {kvs : List (Key × V)} {k : Key} {v : V}, (∀ x ∈ kvs, x.1 ≠ k) → putK kvs k v = kvs ++ [(k, v)] := by
        intro kvs k v h
        unfold putK
        rw [if_neg]
        intro z
        obtain ⟨x, hx, e⟩ := List.any_eq_true.mp z
        exact h x hx (of_decide_eq_true e)
      show putK (putK (putK ([] : List (Key × V)) (.inr (tnm 0)) (.ref l0)) (.inr (tnm 1)) (.ref l1)) (.inr (tnm 2)) (.ref l2) = _
      rw [put (kvs := []) (fun x hx => absurd hx List.not_mem_nil), List.nil_append, put (kvs := [(.inr (tnm 0), .ref l0)]) (fun x hx => by obtain rfl := List.mem_singleton.mp hx; exact key_ne (by decide) (by decide) (by decide)), put (kvs := ([((.inr (tnm 0) : Key), V.ref l0)] ++ [((.inr (tnm 1) : Key), V.ref l1)] : List (Key × V))) (fun x hx => by
        rcases List.mem_append.mp hx with hx | hx
        · obtain rfl := List.mem_singleton.mp hx
          exact key_ne (by decide) (by decide) (by decide)
        · obtain rfl := List.mem_singleton.mp hx
          exact key_ne (by decide) (by decide) (by decide))]
      rfl
    rw [em]
    have hpd0 : H pd = none := hpd
    have s5 : Same H (upd H4 pd (.dK [(.inr (tnm 0), .ref l0), (.inr (tnm 1), .ref l1), (.inr (tnm 2), .ref l2)])) := same_set sA hpd0
    have nd0 : ∀ {l : Addr}, H4 l = some (.lst []) → l ≠ pd := fun e z => by
      rw [z, ed] at e
      cases e
    have hE : EntAt (upd H4 pd (.dK [(.inr (tnm 0), .ref l0), (.inr (tnm 1), .ref l1), (.inr (tnm 2), .ref l2)])) pd := ⟨l0, l1, l2, upd_same, by rw [upd_ne (nd0 e0)]; exact e0, by rw [upd_ne (nd0 e1)]; exact e1, by rw [upd_ne (nd0 e2)]; exact e2⟩
    generalize upd H4 pd (.dK [(.inr (tnm 0), .ref l0), (.inr (tnm 1), .ref l1), (.inr (tnm 2), .ref l2)]) = H5 at s5 hE ⊢
    refine ⟨by show 2 ≤ sizeLine; decide, fun pc hpc => ?_⟩
    have s6 := same_new (o := .tup [v, .ref pd]) hpc
    refine ⟨v, G, c, pc, pd, rfl, (sG.trans s5).trans s6, hD, SqT.of upd_same, hE.same s6, hok, hdp, hz, fun hf H' x s' => ?_, fun ht H' s' => ?_⟩
    · rw [hf] at q
      exact q _ ((s5.trans s6).trans s')
    · rw [ht] at q
      refine ⟨true, T.self, fun _ a na => ?_, fun z => Bool.noConfusion z⟩
      exact ⟨.ref a, rfl, cB, .ref cS, .ref cS, true, rfl, T.ex, .inl rfl, rfl, fun u r => r, T.kS, q _ ((s5.trans s6).trans s')⟩
end
end Pk
set_option Elab.async false
set_option linter.all false
set_option maxRecDepth 100000
set_option maxHeartbeats 4000000
namespace Pk
open PySem PySem.Spec PyProof.Rows L2 PySem.ErX
abbrev sLaw : Stmt := topS 80
abbrev NLw : List Str := ["script", "state", "names", "control", "tables", "name", "program", "nodes", "told", "due"]
theorem scLaw : FnScope NLw ["script"] (defScope sLaw) := ⟨rfl, rfl, rfl, by decide +kernel, rfl, by decide +kernel, by decide +kernel⟩
def spLaw (K : PySem.W.Frag) : Sp := fun vs H Q _ => ∃ (a : Addr) (ns : List Int), vs = [.ref a] ∧ SqL K H a (ns.map V.int) ∧ ns.length ≤ 63 ∧ ∀ H', Q (.bl true) H'
theorem StAt.neS {H : Hp} {s c p : Addr} (h : StAt H s c) (hp : H p = none) : p ≠ s ∧ p ≠ c := by
  obtain ⟨cells, seed, h1, h2, _⟩ := h
  exact ⟨Ne.symm (ne_of_none h1 hp), Ne.symm (ne_of_none h2 hp)⟩
theorem plain_ints : ∀ ns : List Int, PyData.plainAll (ns.map PyData.int) = true
  | [] => rfl
  | n :: ns => by
    rw [List.map_cons, PyData.plainAll, plain_ints ns]
    rfl
theorem eqv_ints (ns : List Int) : PyData.eqv (.list (ns.map PyData.int)) (.list (ns.map PyData.int)) = true := PySem.SeqAt.eqv_refl_plain _ (by
  show PyData.plainAll _ = true
  exact plain_ints ns)
section
variable {P : Program} {w : World} {K : PySem.W.Frag} {mg : Str → Option Value} {base : Heap} {cB cS : Addr}
/-- a new object of data joins the part that stands -/
theorem nt {G H : Hp} {p : Addr} {vs : List V} {ds : List PyData} (sG : Same G H) (hp : H p = none) (hd : DpAll K G vs ds) : Same (upd G p (.tup vs)) (upd H p (.tup vs)) ∧ Same G (upd G p (.tup vs)) ∧ Dp K (upd G p (.tup vs)) (.ref p) (.tuple ds) :=
  ⟨(tup_new sG hp hd).1, same_new2 (sG.free hp), (tup_new sG hp hd).2.2⟩
theorem nl {G H : Hp} {p : Addr} {vs : List V} {ds : List PyData} (sG : Same G H) (hp : H p = none) (hd : DpAll K G vs ds) : Same (upd G p (.lst vs)) (upd H p (.lst vs)) ∧ Same G (upd G p (.lst vs)) ∧ Dp K (upd G p (.lst vs)) (.ref p) (.list ds) :=
  ⟨(lst_new sG hp hd).1, same_new2 (sG.free hp), (lst_new sG hp hd).2.2⟩
theorem ok_law {f : Addr} {fd : FuncData} (F : Fun K "law" "law" sLaw f fd) (T : Gk K mg) (Z : BuC K mg cB cS) (D1 : Df P w K mg base CX0 1 "_law_state" ["script"] (spState K)) (D2 : Df P w K mg base CX0 1 "_law_draw" ["state", "many"] spDraw)
    (D3 : Df P w K mg base CX0 6 "_law_control" ["state", "left", "nested", "names"] (spCtl K 5)) (D4 : Df P w K mg base CX0 21 "compile_control" ["program"] (spCompC K)) (D5 : Df P w K mg base CX0 2 "stages" ["nodes"] (spStages K)) (D6 : Df P w K mg base CX0 2 "_law_longest" ["nodes"] (spLong K))
    (D7 : Df P w K mg base CX0 23 "_law_refused" ["program"] (spRefused K)) : FnOk P w K mg base CX0 24 f fd ["script"] (spLaw K) := by
  obtain ⟨f1, fd1, G1, g1, k1, b1⟩ := D1.ex
  obtain ⟨f2, fd2, G2, g2, k2, b2⟩ := D2.ex
  obtain ⟨f3, fd3, G3, g3, k3, b3⟩ := D3.ex
  obtain ⟨f4, fd4, G4, g4, k4, b4⟩ := D4.ex
  obtain ⟨f5, fd5, G5, g5, k5, b5⟩ := D5.ex
  obtain ⟨f6, fd6, G6, g6, k6, b6⟩ := D6.ex
  obtain ⟨f7, fd7, G7, g7, k7, b7⟩ := D7.ex
  refine F.ok scLaw (fun vs H Q E h => ?_) (fun cdv A outer s0 H vs Q E hr h => ?_)
  · obtain ⟨a, ns, rfl, _⟩ := h
    rfl
  · obtain ⟨a, ns, rfl, hS, hn, q⟩ := h
    have nd := scLaw.nd
    have hr1 : Room 1 _ := hr.mono (by omega)
    have hr2 : Room 2 _ := hr.mono (by omega)
    have hr6 : Room 6 _ := hr.mono (by omega)
    have hr21 : Room 21 _ := hr.mono (by omega)
    refine ⟨_, pss_cons (ps_set (i := 1) nd rfl (.inl rfl) (pe_call G1 hr1 (by rfl) g1 k1 b1 .nil pass0 (pa_cons (pv 0) pa_nil)))
      (pss_cons (ps_set (i := 2) nd rfl (.inl rfl) (pe_lst (pa_cons pe_str (pa_cons pe_str (pa_cons pe_str pa_nil)))))
      (pss_cons (ps_set (i := 3) nd rfl (.inl rfl) (pe_call G3 hr6 (by rfl) g3 k3 b3 .nil pass0 (pa_cons (pv 1) (pa_cons (pe_lst (pa_cons (pe_op op_add pe_int (pe_call G2 hr1 (by rfl) g2 k2 b2 .nil pass0 (pa_cons (pv 1) (pa_cons pe_int pa_nil)))) pa_nil)) (pa_cons pe_int (pa_cons (pe_callTy call_list_of (by rfl) T.zList (by decide +kernel) (pa_cons (pv 2) pa_nil)) pa_nil))))))
      (pss_cons (ps_setLc (i := 4) (own := [("name", 5)]) (g := gName 5) (tt := tYes) rfl nd rfl rfl (sw_true rfl rfl rfl (by decide +kernel)) (pi_list (pv 2)) (blkOk_by (N := NLw) (sc := defScope sLaw) (by decide +kernel)) (fun _ _ _ _ _ => pg_name (i := 5) nd rfl (Or.inl rfl)) (fun _ _ _ _ _ => pts_nil) (fun _ _ _ _ _ => (pe_tup (pa_cons pe_str (pa_cons (pv 5) (pa_cons (pe_lst pa_nil) (pa_cons (pe_lst (pa_cons pe_str pa_nil)) (pa_cons (pe_tup (pa_cons pe_str (pa_cons (pe_lst pa_nil) pa_nil))) (pa_cons pe_int pa_nil)))))))))
      (pss_cons (ps_set (i := 6) nd rfl (.inl rfl) (pe_tup (pa_cons pe_str (pa_cons pe_str (pa_cons (pe_lst pa_nil) (pa_cons (pe_lst pa_nil) (pa_cons (pe_lst (pa_cons (pe_tup (pa_cons pe_str (pa_cons pe_str (pa_cons pe_non (pa_cons (pe_tup (pa_cons pe_str (pa_cons pe_str pa_nil))) pa_nil))))) pa_nil)) (pa_cons (pe_lst (pa_cons (pe_tup (pa_cons pe_str (pa_cons pe_str (pa_cons (pe_lst pa_nil) (pa_cons (pe_lst pa_nil) pa_nil))))) pa_nil)) (pa_cons (pv 4) (pa_cons (pv 3) (pa_cons (pe_lst pa_nil) pa_nil)))))))))))
      (pss_cons (ps_set (i := 7) nd rfl (.inl rfl) (pe_call G4 hr21 (by rfl) g4 k4 b4 .nil pass0 (pa_cons (pv 6) pa_nil)))
      (pss_cons (ps_set (i := 8) nd rfl (.inl rfl) (pe_call G5 hr2 (by rfl) g5 k5 b5 .nil pass0 (pa_cons (pv 7) pa_nil)))
      (pss_cons (ps_set (i := 9) nd rfl (.inl rfl) (pe_call G6 hr2 (by rfl) g6 k6 b6 .nil pass0 (pa_cons (pv 7) pa_nil)))
      (pss_cons (ps_if (PW.pt (pw_or (pt_not (pt_val (pe_callB call_isi (by rfl) Z.zIsi PyProof.Rows.boot_isinstance (pa_cons (pv 8) (pa_cons (pe_bltn (v := .ty "list") (u := .type "list") rfl T.zList (by decide +kernel) rfl) pa_nil))) (by intro _; rfl))) (pw_or1 (pt_cmpR (op_neD hr.units) (pv 8) (pv 9) (nomark _))))) (pss_one (ps_ret pe_bl)) pss_nil)
      (pss_one (ps_ret (pe_cmpR op_eq (pe_call G7 hr (by rfl) g7 k7 b7 .nil pass0 (pa_cons (pv 6) pa_nil)) (pe_cmpR op_gt (pe_callB (cr_max rfl) (by rfl) T.zMax (by decide +kernel) (pa_cons (pv 9) pa_nil)) pe_int (nomark _)) (nomark _)))))))))))), ?_⟩
    refine ⟨_, rfl, a, ns, rfl, hS, hn, fun H1 s c s1 _ _ st1 => ?_⟩
    refine ⟨by show 3 ≤ sizeLine; decide, fun pn0 hpn0 => ?_⟩
    have st2 := st1.new (o := .lst [V.str "t0", .str "t1", .str "t2"]) hpn0
    have en0 : (upd H1 pn0 (.lst [V.str "t0", .str "t1", .str "t2"])) pn0 = some (.lst nmL) := upd_same
    have nS0 := st1.neS hpn0
    generalize upd H1 pn0 (.lst [V.str "t0", .str "t1", .str "t2"]) = H2 at st2 en0 ⊢
    refine ⟨_, rfl, _, rfl, s, c, 24, rfl, st2, by decide, by decide, fun H3 r r0 r1 st3 kp3 => ⟨_, _, rfl, rfl, (by show 1 ≤ sizeLine; decide), fun pl hpl => ?_⟩⟩
    have en3 := kp3 _ _ nS0.1 nS0.2 en0
    obtain ⟨L, hL⟩ : ∃ L : Nat, 1 + r = (L : Int) := ⟨(1 + r).toNat, by omega⟩
    have nSl := st3.neS hpl
    have st4 := st3.new (o := .lst [V.int (1 + r)]) hpl
    have el4 : (upd H3 pl (.lst [V.int (1 + r)])) pl = some (.lst [.int (L : Nat)]) := by rw [upd_same, hL]
    have en4 : (upd H3 pl (.lst [V.int (1 + r)])) pn0 = some (.lst nmL) := by
      rw [upd_ne (ne_of_none en3 hpl)]
      exact en3
    generalize upd H3 pl (.lst [V.int (1 + r)]) = H4 at st4 el4 en4 ⊢
    refine ⟨_, rfl, pn0, _, rfl, .inl (SqL.of en4), fun pn hpn => ?_⟩
    have nSn := st4.neS hpn
    have s5 := same_new (o := .lst nmL) hpn
    have hC5 : Cxt (upd H4 pn (.lst nmL)) s c pl pn L 3 := ⟨st4.new hpn, s5 _ _ el4, upd_same, Nat.le_refl _, nSl.1, nSl.2, nSn.1, nSn.2, ne_of_none el4 hpn⟩
    have en5 := s5 _ _ en4
    have npn0 : pn0 ≠ pl ∧ pn0 ≠ pn := by
      refine ⟨fun z => ?_, ne_of_none en4 hpn⟩
      rw [z, el4] at en4
      cases en4
    generalize upd H4 pn (.lst nmL) = H5 at s5 hC5 en5 ⊢
    refine ⟨s, c, pl, pn, L, 3, fun _ => none, rfl, hC5, (fun b o e => by cases e), ⟨rfl, rfl, rfl, rfl⟩, by omega, fun H6 G6 p6 ct L' j' hC6 kq6 sG6 gr6 d6 hok hdp hsz hne => ?_⟩
    have en6 := kq6 _ _ nS0.1 nS0.2 npn0.1 npn0.2 en5
    -- the tables
    refine ⟨_, rfl, pn0, rfl, ⟨_, SqL.of en6⟩, fun D hD => lc_list (K := K) (a := pn0) (xs := nmL) (fun i H7 => ∃ Gt xs, Same H6 H7 ∧ Same Gt H7 ∧ Same G6 Gt ∧ Gt D = none ∧ H7 D = some (.lst xs) ∧ DpAll K Gt xs ((tblsD.take i).map .tuple)) ⟨G6, [], same_new hD, sG6.trans (same_new hD), Same.refl _, sG6.free hD, upd_same, .nil⟩ (fun i H7 _ h => by
      obtain ⟨Gt, xs, h1, _⟩ := h
      exact h1.seq (SqL.of en6)) ?_ ?_⟩
    · rintro i y H7 hi ⟨Gt, xs, s7, sGt, sub, gD, e7, dx⟩
      obtain ⟨t, ht3, rfl, rfl⟩ : ∃ t, t < 3 ∧ y = .str (tnm t) ∧ i = t := by
        match i, hi with
        | 0, hi => cases hi; exact ⟨0, by decide, rfl, rfl⟩
        | 1, hi => cases hi; exact ⟨1, by decide, rfl, rfl⟩
        | 2, hi => cases hi; exact ⟨2, by decide, rfl, rfl⟩
        | n + 3, hi => cases hi
      refine ⟨rfl, _, rfl, by show 0 ≤ sizeLine; exact Nat.zero_le _, fun p1 h1 => ?_⟩
      obtain ⟨a1, a2, a3⟩ := nl (K := K) sGt h1 (vs := []) (ds := []) .nil
      refine ⟨by show 1 ≤ sizeLine; decide, fun p2 h2 => ?_⟩
      obtain ⟨b1', b2', b3'⟩ := nl (K := K) a1 h2 (vs := [.str "a"]) (ds := [.str "a"]) (.cons (.str _) .nil)
      refine ⟨by show 0 ≤ sizeLine; exact Nat.zero_le _, fun p3 h3 => ?_⟩
      obtain ⟨c1, c2, c3⟩ := nl (K := K) b1' h3 (vs := []) (ds := []) .nil
      refine ⟨by show 2 ≤ sizeLine; decide, fun p4 h4 => ?_⟩
      obtain ⟨d1, d2, d3⟩ := nt (K := K) c1 h4 (vs := [.str "a", .ref p3]) (ds := [.str "a", .list []]) (.cons (.str _) (.cons c3 .nil))
      refine ⟨by show 6 ≤ sizeLine; decide, fun p5 h5 => ?_⟩
      obtain ⟨e1, e2, e3⟩ := nt (K := K) d1 h5 (vs := [.str "table", .str (tnm i), .ref p1, .ref p2, .ref p4, .int 1]) (ds := tblD i) (.cons (.str _) (.cons (.str _) (.cons (dp_sub ((b2'.trans c2).trans d2) a3) (.cons (dp_sub (c2.trans d2) b3') (.cons d3 (.cons (.int _) .nil))))))
      have sH := (((same_new (o := .lst []) h1).trans (same_new (o := .lst [V.str "a"]) h2)).trans (same_new (o := .lst []) h3)).trans ((same_new (o := .tup [V.str "a", .ref p3]) h4).trans (same_new (o := .tup [V.str "table", .str (tnm i), .ref p1, .ref p2, .ref p4, .int 1]) h5))
      have sGG := (((a2.trans b2').trans c2).trans d2).trans e2
      have e7' := sH _ _ e7
      have nD : ∀ {p : Addr} {Hx : Hp}, Same H7 Hx → Hx p = none → D ≠ p := fun s n => ne_of_none (s _ _ e7) n
      have q1 : Same H7 (upd H7 p1 (.lst [])) := same_new h1
      have q2 := q1.trans (same_new (o := .lst [V.str "a"]) h2)
      have q3 := q2.trans (same_new (o := .lst []) h3)
      have q4 := q3.trans (same_new (o := .tup [V.str "a", .ref p3]) h4)
      have gD' : (upd (upd (upd (upd (upd Gt p1 (.lst [])) p2 (.lst [.str "a"])) p3 (.lst [])) p4 (.tup [.str "a", .ref p3])) p5 (.tup [.str "table", .str (tnm i), .ref p1, .ref p2, .ref p4, .int 1])) D = none := by
        rw [upd_ne (nD q4 h5), upd_ne (nD q3 h4), upd_ne (nD q2 h3), upd_ne (nD q1 h2), upd_ne (nD (Same.refl _) h1)]
        exact gD
      have hxl := dpAll_len dx
      rw [List.length_map, List.length_take] at hxl
      refine ⟨xs, e7', small1000 (by omega), _, _, same_set (s7.trans sH) hD, same_set e1 gD', sub.trans sGG, gD', upd_same, ?_⟩
      have ht := (tbl_at ht3).1
      rw [List.take_add_one, ht, List.map_append]
      exact dpAll_app (dpAll_sub sGG dx) (.cons e3 .nil)
    rintro H7 ⟨Gt, xs, s7, sGt, sub, gD, e7, dx⟩
    have dx' : DpAll K Gt xs (tblsD.map .tuple) := dx
    -- the program
    have sTD := same_upd sGt e7
    have dT : Dp K (upd Gt D (.lst xs)) (.ref D) (.list (tblsD.map .tuple)) := .lst (SqL.of upd_same) (dpAll_sub (same_new2 gD) dx')
    have dC := dp_sub (sub.trans (same_new2 (o := .lst xs) gD)) d6
    generalize upd Gt D (.lst xs) = G7 at sTD dT dC
    refine ⟨by show 0 ≤ sizeLine; exact Nat.zero_le _, fun p1 h1 => ?_⟩
    obtain ⟨a1, a2, a3⟩ := nl (K := K) sTD h1 (vs := []) (ds := []) .nil
    refine ⟨by show 0 ≤ sizeLine; exact Nat.zero_le _, fun p2 h2 => ?_⟩
    obtain ⟨b1', b2', b3'⟩ := nl (K := K) a1 h2 (vs := []) (ds := []) .nil
    refine ⟨by show 2 ≤ sizeLine; decide, fun p3 h3 => ?_⟩
    obtain ⟨c1, c2, c3⟩ := nt (K := K) b1' h3 (vs := [.str "go", .str "accept"]) (ds := [.str "go", .str "accept"]) (.cons (.str _) (.cons (.str _) .nil))
    refine ⟨by show 4 ≤ sizeLine; decide, fun p4 h4 => ?_⟩
    obtain ⟨d1, d2, d3⟩ := nt (K := K) c1 h4 (vs := [.str "state", .str "start", .non, .ref p3]) (ds := stD) (.cons (.str _) (.cons (.str _) (.cons .non (.cons c3 .nil))))
    refine ⟨by show 1 ≤ sizeLine; decide, fun p5 h5 => ?_⟩
    obtain ⟨e1, e2, e3⟩ := nl (K := K) d1 h5 (vs := [.ref p4]) (ds := [stD].map .tuple) (.cons d3 .nil)
    refine ⟨by show 0 ≤ sizeLine; exact Nat.zero_le _, fun q1 j1 => ?_⟩
    obtain ⟨f1', f2', f3'⟩ := nl (K := K) e1 j1 (vs := []) (ds := []) .nil
    refine ⟨by show 0 ≤ sizeLine; exact Nat.zero_le _, fun q2 j2 => ?_⟩
    obtain ⟨i1, i2, i3⟩ := nl (K := K) f1' j2 (vs := []) (ds := []) .nil
    refine ⟨by show 4 ≤ sizeLine; decide, fun q3 j3 => ?_⟩
    obtain ⟨l1, l2, l3⟩ := nt (K := K) i1 j3 (vs := [.str "action", .str "a", .ref q1, .ref q2]) (ds := acD) (.cons (.str _) (.cons (.str _) (.cons (dp_sub i2 f3') (.cons i3 .nil))))
    refine ⟨by show 1 ≤ sizeLine; decide, fun q4 j4 => ?_⟩
    obtain ⟨m1, m2, m3⟩ := nl (K := K) l1 j4 (vs := [.ref q3]) (ds := [acD].map .tuple) (.cons l3 .nil)
    refine ⟨_, rfl, _, rfl, by show 0 ≤ sizeLine; exact Nat.zero_le _, fun q5 j5 => ?_⟩
    obtain ⟨n1, n2, n3⟩ := nl (K := K) m1 j5 (vs := []) (ds := []) .nil
    refine ⟨by show 9 ≤ sizeLine; decide, fun q6 j6 => ?_⟩
    have x5 := n2
    have x4 := m2.trans x5
    have x3 := (f2'.trans (i2.trans l2)).trans x4
    have x2 := (c2.trans (d2.trans e2)).trans x3
    have x1 := b2'.trans x2
    have x0 := a2.trans x1
    obtain ⟨o1, o2, o3⟩ := nt (K := K) n1 j6 (vs := [.str "program", .str "p", .ref p1, .ref p2, .ref p5, .ref q4, .ref D, p6, .ref q5]) (ds := progL ct) (.cons (.str _) (.cons (.str _) (.cons (dp_sub x1 a3) (.cons (dp_sub x2 b3') (.cons (dp_sub x3 e3) (.cons (dp_sub x5 m3) (.cons (dp_sub x0 dT) (.cons (dp_sub x0 dC) (.cons n3 .nil)))))))))
    generalize upd _ q6 (.tup [V.str "program", .str "p", .ref p1, .ref p2, .ref p5, .ref q4, .ref D, p6, .ref q5]) = G8 at o1 o3
    generalize upd _ q6 (.tup [V.str "program", .str "p", .ref p1, .ref p2, .ref p5, .ref q4, .ref D, p6, .ref q5]) = H8 at o1 ⊢
    clear a1 a2 a3 b1' b2' b3' c1 c2 c3 d1 d2 d3 e1 e2 e3 f1' f2' f3' i1 i2 i3 l1 l2 l3 m1 m2 m3 n1 n2 n3 o2 x0 x1 x2 x3 x4 x5
    have hLsz : sz ct ≤ 1000 := by omega
    have hsz1 : 1 ≤ sz ct := by
      have := hne (by omega)
      cases ct with
      | nil => exact absurd rfl this
      | ap t r => exact Nat.succ_le_succ (Nat.zero_le _)
      | cf n x y r => exact Nat.succ_le_succ (Nat.zero_le _)
    refine ⟨_, rfl, .ref q6, G8, ct, rfl, o1, o3, hok, hdp, hLsz, fun H9 G9 pN xN s9 sG9 gr9 n9 g9 e9 d9 => ?_⟩
    have hlen : (comp ct 0 (-1)).length = sz ct := comp_len _ _ _
    have hfw : Fw (comp ct 0 (-1)).length 0 (comp ct 0 (-1)) := by
      rw [hlen]
      exact comp_Fw ct
    have sN := same_upd sG9 e9
    have dN9 : Dp K (upd G9 pN (.lst xN)) (.ref pN) (.list ((comp ct 0 (-1)).map fun nd => .tuple (dN nd))) := .lst (SqL.of upd_same) (dpAll_sub (same_new2 g9) d9)
    generalize upd G9 pN (.lst xN) = G10 at sN dN9
    refine ⟨_, rfl, .ref pN, G10, comp ct 0 (-1), rfl, sN, dN9, hfw, by omega, fun H10 pT s10 n10 e10 => ?_⟩
    refine ⟨_, rfl, .ref pN, G10, comp ct 0 (-1), rfl, sN.trans s10, dN9, hfw, by omega, fun H11 pU s11 n11 e11 => ?_⟩
    have e10' := s11 _ _ e10
    rw [hlen] at e10' e11
    have ep : passes (comp ct 0 (-1)) (sz ct) (zeros (sz ct)) = levels ct := by
      obtain ⟨n, hn⟩ : ∃ n, sz ct = n + 1 := ⟨sz ct - 1, by omega⟩
      have := passes_id (comp_Fw ct) n (zeros (sz ct)) (List.length_replicate ..)
      rw [← hn] at this
      exact this
    rw [ep] at e11
    have e10'' : H11 pT = some (.lst ((levels ct).map V.int)) := e10'
    refine ⟨_, rfl, _, _, _, _, true, rfl, .ty _, .base (.lst e10''), kit_ty (by decide +kernel), _, rfl, ?_⟩
    refine iteF ⟨_, rfl, _, rfl, .list ((levels ct).map .int), .list ((levels ct).map .int), .lst (SqL.of e10'') (dpAll_of_ints _), .lst (SqL.of e11) (dpAll_of_ints _), PySem.W.ke_shaped_ints _, PySem.W.ke_shaped_ints _, _, rfl, ?_⟩
    rw [eqv_ints]
    refine iteF ?_
    refine ⟨_, rfl, .ref q6, G8, ct, rfl, o1.trans (s9.trans (s10.trans s11)), o3, hok, hdp, hLsz, fun H12 s12 => ?_⟩
    have hLl : (levels ct).length = sz ct := by
      unfold levels zeros
      rw [pass_len, List.length_replicate]
    refine ⟨_, rfl, pU, levels ct, rfl, SqL.of (s12 _ _ e11), by omega, fun m hm hle => ⟨_, _, rfl, rfl, rfl, ?_⟩⟩
    have key : tooHigh ct = decide (m > 11) := by
      unfold tooHigh
      rw [Bool.eq_iff_iff, List.any_eq_true, decide_eq_true_eq]
      constructor
      · rintro ⟨x, hx, h⟩
        have := hle x hx
        have h' : x ≥ 12 := of_decide_eq_true h
        omega
      · intro h
        exact ⟨m, hm, decide_eq_true (by omega)⟩
    rw [key]
    rw [decide_eq_true rfl]
    exact q _
end
end Pk
set_option Elab.async false
set_option linter.all false
set_option maxRecDepth 100000
set_option maxHeartbeats 8000000
namespace Pk
open PySem PySem.Spec PyProof.Rows L2 PySem.ErX
theorem at_of_name {K : PySem.W.Frag} {h : Heap} {mg : Str → Option Value} {x : Str} {st : Stmt} {ps : List Str} {f : Addr} {oc : Value} {od an : Option Addr} {osl : Array (Option Value)} {kV doc pm cdv ct : Value} (X : K.In h) (G : h.Ns mainGlobals mg)
    (a : PySem.W.nsIn K mainGlobals x = some (some (.ref f))) (l : K.lookup f = some ⟨oc, od, .func (PySem.W.fnOf x x (defArgs st) (defBody st) (defScope st) .none kV doc pm an cdv ct), osl⟩)
    (c : PySem.W.codeIn K cdv x = true) (k : PySem.W.keepIn K (.ref f) = true)
    (hb : ∀ (kV doc pm : Value) (an : Option Addr) (cdv ct : Value) (us : List Value), us.length = ps.length → bindArgs (PySem.W.fnOf x x (defArgs st) (defBody st) (defScope st) .none kV doc pm an cdv ct) ⟨us, []⟩ = pure (ps.zip us)) : AtD K mg x st ps :=
  ⟨f, _, fun_mk l c k, PySem.W.mg_of X G a, (fun_mk l c k).binds hb⟩
theorem Df.up {P : Program} {w : World} {K : PySem.W.Frag} {mg : Str → Option Value} {base : Heap} {CX : CXT} {j k : Nat} {x : Str} {ps : List Str} {sp : Sp} (D : Df P w K mg base CX j x ps sp) (h : j ≤ k) : Df P w K mg base CX k x ps sp := by
  obtain ⟨f, fd, g, a, b, c⟩ := D.ex
  exact ⟨f, fd, g.mono h, a, b, c⟩
theorem all_mk {P : Program} {w : World} {K : PySem.W.Frag} {h : Heap} {mg : Str → Option Value} {fa : Addr}
    {cB cS : Addr}
    {f0 : Addr} {oc0 : Value} {od0 an0 : Option Addr} {osl0 : Array (Option Value)} {kV0 doc0 pm0 cd0 ct0 : Value}
    {f1 : Addr} {oc1 : Value} {od1 an1 : Option Addr} {osl1 : Array (Option Value)} {kV1 doc1 pm1 cd1 ct1 : Value}
    {f2 : Addr} {oc2 : Value} {od2 an2 : Option Addr} {osl2 : Array (Option Value)} {kV2 doc2 pm2 cd2 ct2 : Value}
    {f3 : Addr} {oc3 : Value} {od3 an3 : Option Addr} {osl3 : Array (Option Value)} {kV3 doc3 pm3 cd3 ct3 : Value}
    {f4 : Addr} {oc4 : Value} {od4 an4 : Option Addr} {osl4 : Array (Option Value)} {kV4 doc4 pm4 cd4 ct4 : Value}
    {f5 : Addr} {oc5 : Value} {od5 an5 : Option Addr} {osl5 : Array (Option Value)} {kV5 doc5 pm5 cd5 ct5 : Value}
    {f6 : Addr} {oc6 : Value} {od6 an6 : Option Addr} {osl6 : Array (Option Value)} {kV6 doc6 pm6 cd6 ct6 : Value}
    {f7 : Addr} {oc7 : Value} {od7 an7 : Option Addr} {osl7 : Array (Option Value)} {kV7 doc7 pm7 cd7 ct7 : Value}
    {f8 : Addr} {oc8 : Value} {od8 an8 : Option Addr} {osl8 : Array (Option Value)} {kV8 doc8 pm8 cd8 ct8 : Value}
    {f9 : Addr} {oc9 : Value} {od9 an9 : Option Addr} {osl9 : Array (Option Value)} {kV9 doc9 pm9 cd9 ct9 : Value}
    {f10 : Addr} {oc10 : Value} {od10 an10 : Option Addr} {osl10 : Array (Option Value)} {kV10 doc10 pm10 cd10 ct10 : Value}
    {f11 : Addr} {oc11 : Value} {od11 an11 : Option Addr} {osl11 : Array (Option Value)} {kV11 doc11 pm11 cd11 ct11 : Value}
    {f12 : Addr} {oc12 : Value} {od12 an12 : Option Addr} {osl12 : Array (Option Value)} {kV12 doc12 pm12 cd12 ct12 : Value}
    {f13 : Addr} {oc13 : Value} {od13 an13 : Option Addr} {osl13 : Array (Option Value)} {kV13 doc13 pm13 cd13 ct13 : Value}
    {f14 : Addr} {oc14 : Value} {od14 an14 : Option Addr} {osl14 : Array (Option Value)} {kV14 doc14 pm14 cd14 ct14 : Value}
    {f15 : Addr} {oc15 : Value} {od15 an15 : Option Addr} {osl15 : Array (Option Value)} {kV15 doc15 pm15 cd15 ct15 : Value}
    {f16 : Addr} {oc16 : Value} {od16 an16 : Option Addr} {osl16 : Array (Option Value)} {kV16 doc16 pm16 cd16 ct16 : Value}
    {f17 : Addr} {oc17 : Value} {od17 an17 : Option Addr} {osl17 : Array (Option Value)} {kV17 doc17 pm17 cd17 ct17 : Value}
    {f18 : Addr} {oc18 : Value} {od18 an18 : Option Addr} {osl18 : Array (Option Value)} {kV18 doc18 pm18 cd18 ct18 : Value}
    {f19 : Addr} {oc19 : Value} {od19 an19 : Option Addr} {osl19 : Array (Option Value)} {kV19 doc19 pm19 cd19 ct19 : Value}
    {f20 : Addr} {oc20 : Value} {od20 an20 : Option Addr} {osl20 : Array (Option Value)} {kV20 doc20 pm20 cd20 ct20 : Value}
    {f21 : Addr} {oc21 : Value} {od21 an21 : Option Addr} {osl21 : Array (Option Value)} {kV21 doc21 pm21 cd21 ct21 : Value}
    {f22 : Addr} {oc22 : Value} {od22 an22 : Option Addr} {osl22 : Array (Option Value)} {kV22 doc22 pm22 cd22 ct22 : Value}
    {f23 : Addr} {oc23 : Value} {od23 an23 : Option Addr} {osl23 : Array (Option Value)} {kV23 doc23 pm23 cd23 ct23 : Value}
    {f24 : Addr} {oc24 : Value} {od24 an24 : Option Addr} {osl24 : Array (Option Value)} {kV24 doc24 pm24 cd24 ct24 : Value}
    {f25 : Addr} {oc25 : Value} {od25 an25 : Option Addr} {osl25 : Array (Option Value)} {kV25 doc25 pm25 cd25 ct25 : Value}
    {f26 : Addr} {oc26 : Value} {od26 an26 : Option Addr} {osl26 : Array (Option Value)} {kV26 doc26 pm26 cd26 ct26 : Value}
    {f27 : Addr} {oc27 : Value} {od27 an27 : Option Addr} {osl27 : Array (Option Value)} {kV27 doc27 pm27 cd27 ct27 : Value}
    {f28 : Addr} {oc28 : Value} {od28 an28 : Option Addr} {osl28 : Array (Option Value)} {kV28 doc28 pm28 cd28 ct28 : Value}
    {f29 : Addr} {oc29 : Value} {od29 an29 : Option Addr} {osl29 : Array (Option Value)} {kV29 doc29 pm29 cd29 ct29 : Value}
    {f30 : Addr} {oc30 : Value} {od30 an30 : Option Addr} {osl30 : Array (Option Value)} {kV30 doc30 pm30 cd30 ct30 : Value}
    {f31 : Addr} {oc31 : Value} {od31 an31 : Option Addr} {osl31 : Array (Option Value)} {kV31 doc31 pm31 cd31 ct31 : Value}
    {f32 : Addr} {oc32 : Value} {od32 an32 : Option Addr} {osl32 : Array (Option Value)} {kV32 doc32 pm32 cd32 ct32 : Value}
    {f33 : Addr} {oc33 : Value} {od33 an33 : Option Addr} {osl33 : Array (Option Value)} {kV33 doc33 pm33 cd33 ct33 : Value}
    {f34 : Addr} {oc34 : Value} {od34 an34 : Option Addr} {osl34 : Array (Option Value)} {kV34 doc34 pm34 cd34 ct34 : Value}
    {f35 : Addr} {oc35 : Value} {od35 an35 : Option Addr} {osl35 : Array (Option Value)} {kV35 doc35 pm35 cd35 ct35 : Value}
    {f36 : Addr} {oc36 : Value} {od36 an36 : Option Addr} {osl36 : Array (Option Value)} {kV36 doc36 pm36 cd36 ct36 : Value}
    {f37 : Addr} {oc37 : Value} {od37 an37 : Option Addr} {osl37 : Array (Option Value)} {kV37 doc37 pm37 cd37 ct37 : Value}
    {f38 : Addr} {oc38 : Value} {od38 an38 : Option Addr} {osl38 : Array (Option Value)} {kV38 doc38 pm38 cd38 ct38 : Value}
    {uFST : Value}
    {uPW : Value}
    {uOW : Value}
    {uEND : Value}
    {uSTG : Value}
    {uACC : Value}
    {uREJ : Value}
    {uOCT : Value}
    {pPORT : Addr} {oPORT : Option Addr} {iPORT : Array Value} {nPORT : Nat} {sPORT : Array (Option Value)}
    (X : K.In h) (G : h.Ns mainGlobals mg) (hfa : mg "law" = some (.ref fa))
    (gB : PySem.W.nsIn K mainGlobals "BuildError" = some (some (.ref cB)))
    (gS : PySem.W.nsIn K mainGlobals "SwitchError" = some (some (.ref cS)))
    (a0 : PySem.W.nsIn K mainGlobals "headers_of" = some (some (.ref f0)))
    (l0 : K.lookup f0 = some ⟨oc0, od0, .func (PySem.W.fnOf "headers_of" "headers_of" (defArgs sHeaders) (defBody sHeaders) (defScope sHeaders) .none kV0 doc0 pm0 an0 cd0 ct0), osl0⟩)
    (c0 : PySem.W.codeIn K cd0 "headers_of" = true)
    (k0 : PySem.W.keepIn K (.ref f0) = true)
    (a1 : PySem.W.nsIn K mainGlobals "meta_of" = some (some (.ref f1)))
    (l1 : K.lookup f1 = some ⟨oc1, od1, .func (PySem.W.fnOf "meta_of" "meta_of" (defArgs sMeta) (defBody sMeta) (defScope sMeta) .none kV1 doc1 pm1 an1 cd1 ct1), osl1⟩)
    (c1 : PySem.W.codeIn K cd1 "meta_of" = true)
    (k1 : PySem.W.keepIn K (.ref f1) = true)
    (a2 : PySem.W.nsIn K mainGlobals "states_of" = some (some (.ref f2)))
    (l2 : K.lookup f2 = some ⟨oc2, od2, .func (PySem.W.fnOf "states_of" "states_of" (defArgs sStates) (defBody sStates) (defScope sStates) .none kV2 doc2 pm2 an2 cd2 ct2), osl2⟩)
    (c2 : PySem.W.codeIn K cd2 "states_of" = true)
    (k2 : PySem.W.keepIn K (.ref f2) = true)
    (a3 : PySem.W.nsIn K mainGlobals "actions_of" = some (some (.ref f3)))
    (l3 : K.lookup f3 = some ⟨oc3, od3, .func (PySem.W.fnOf "actions_of" "actions_of" (defArgs sActions) (defBody sActions) (defScope sActions) .none kV3 doc3 pm3 an3 cd3 ct3), osl3⟩)
    (c3 : PySem.W.codeIn K cd3 "actions_of" = true)
    (k3 : PySem.W.keepIn K (.ref f3) = true)
    (a4 : PySem.W.nsIn K mainGlobals "tables_of" = some (some (.ref f4)))
    (l4 : K.lookup f4 = some ⟨oc4, od4, .func (PySem.W.fnOf "tables_of" "tables_of" (defArgs sTables) (defBody sTables) (defScope sTables) .none kV4 doc4 pm4 an4 cd4 ct4), osl4⟩)
    (c4 : PySem.W.codeIn K cd4 "tables_of" = true)
    (k4 : PySem.W.keepIn K (.ref f4) = true)
    (a5 : PySem.W.nsIn K mainGlobals "control_of" = some (some (.ref f5)))
    (l5 : K.lookup f5 = some ⟨oc5, od5, .func (PySem.W.fnOf "control_of" "control_of" (defArgs sControlOf) (defBody sControlOf) (defScope sControlOf) .none kV5 doc5 pm5 an5 cd5 ct5), osl5⟩)
    (c5 : PySem.W.codeIn K cd5 "control_of" = true)
    (k5 : PySem.W.keepIn K (.ref f5) = true)
    (a6 : PySem.W.nsIn K mainGlobals "emits_of" = some (some (.ref f6)))
    (l6 : K.lookup f6 = some ⟨oc6, od6, .func (PySem.W.fnOf "emits_of" "emits_of" (defArgs sEmits) (defBody sEmits) (defScope sEmits) .none kV6 doc6 pm6 an6 cd6 ct6), osl6⟩)
    (c6 : PySem.W.codeIn K cd6 "emits_of" = true)
    (k6 : PySem.W.keepIn K (.ref f6) = true)
    (a7 : PySem.W.nsIn K mainGlobals "names_of" = some (some (.ref f7)))
    (l7 : K.lookup f7 = some ⟨oc7, od7, .func (PySem.W.fnOf "names_of" "names_of" (defArgs sNames) (defBody sNames) (defScope sNames) .none kV7 doc7 pm7 an7 cd7 ct7), osl7⟩)
    (c7 : PySem.W.codeIn K cd7 "names_of" = true)
    (k7 : PySem.W.keepIn K (.ref f7) = true)
    (a8 : PySem.W.nsIn K mainGlobals "part_named" = some (some (.ref f8)))
    (l8 : K.lookup f8 = some ⟨oc8, od8, .func (PySem.W.fnOf "part_named" "part_named" (defArgs sPart) (defBody sPart) (defScope sPart) .none kV8 doc8 pm8 an8 cd8 ct8), osl8⟩)
    (c8 : PySem.W.codeIn K cd8 "part_named" = true)
    (k8 : PySem.W.keepIn K (.ref f8) = true)
    (a9 : PySem.W.nsIn K mainGlobals "all_statements" = some (some (.ref f9)))
    (l9 : K.lookup f9 = some ⟨oc9, od9, .func (PySem.W.fnOf "all_statements" "all_statements" (defArgs sAll) (defBody sAll) (defScope sAll) .none kV9 doc9 pm9 an9 cd9 ct9), osl9⟩)
    (c9 : PySem.W.codeIn K cd9 "all_statements" = true)
    (k9 : PySem.W.keepIn K (.ref f9) = true)
    (a10 : PySem.W.nsIn K mainGlobals "plain_test" = some (some (.ref f10)))
    (l10 : K.lookup f10 = some ⟨oc10, od10, .func (PySem.W.fnOf "plain_test" "plain_test" (defArgs sPlain) (defBody sPlain) (defScope sPlain) .none kV10 doc10 pm10 an10 cd10 ct10), osl10⟩)
    (c10 : PySem.W.codeIn K cd10 "plain_test" = true)
    (k10 : PySem.W.keepIn K (.ref f10) = true)
    (a11 : PySem.W.nsIn K mainGlobals "cells_of" = some (some (.ref f11)))
    (l11 : K.lookup f11 = some ⟨oc11, od11, .func (PySem.W.fnOf "cells_of" "cells_of" (defArgs sCells) (defBody sCells) (defScope sCells) .none kV11 doc11 pm11 an11 cd11 ct11), osl11⟩)
    (c11 : PySem.W.codeIn K cd11 "cells_of" = true)
    (k11 : PySem.W.keepIn K (.ref f11) = true)
    (a12 : PySem.W.nsIn K mainGlobals "index_of" = some (some (.ref f12)))
    (l12 : K.lookup f12 = some ⟨oc12, od12, .func (PySem.W.fnOf "index_of" "index_of" (defArgs sIndex) (defBody sIndex) (defScope sIndex) .none kV12 doc12 pm12 an12 cd12 ct12), osl12⟩)
    (c12 : PySem.W.codeIn K cd12 "index_of" = true)
    (k12 : PySem.W.keepIn K (.ref f12) = true)
    (a13 : PySem.W.nsIn K mainGlobals "cell_of" = some (some (.ref f13)))
    (l13 : K.lookup f13 = some ⟨oc13, od13, .func (PySem.W.fnOf "cell_of" "cell_of" (defArgs sCell) (defBody sCell) (defScope sCell) .none kV13 doc13 pm13 an13 cd13 ct13), osl13⟩)
    (c13 : PySem.W.codeIn K cd13 "cell_of" = true)
    (k13 : PySem.W.keepIn K (.ref f13) = true)
    (a14 : PySem.W.nsIn K mainGlobals "widths" = some (some (.ref f14)))
    (l14 : K.lookup f14 = some ⟨oc14, od14, .func (PySem.W.fnOf "widths" "widths" (defArgs sWidths) (defBody sWidths) (defScope sWidths) .none kV14 doc14 pm14 an14 cd14 ct14), osl14⟩)
    (c14 : PySem.W.codeIn K cd14 "widths" = true)
    (k14 : PySem.W.keepIn K (.ref f14) = true)
    (a15 : PySem.W.nsIn K mainGlobals "compile_control" = some (some (.ref f15)))
    (l15 : K.lookup f15 = some ⟨oc15, od15, .func (PySem.W.fnOf "compile_control" "compile_control" (defArgs sCompC) (defBody sCompC) (defScope sCompC) .none kV15 doc15 pm15 an15 cd15 ct15), osl15⟩)
    (c15 : PySem.W.codeIn K cd15 "compile_control" = true)
    (k15 : PySem.W.keepIn K (.ref f15) = true)
    (a16 : PySem.W.nsIn K mainGlobals "compile_statements" = some (some (.ref f16)))
    (l16 : K.lookup f16 = some ⟨oc16, od16, .func (PySem.W.fnOf "compile_statements" "compile_statements" (defArgs sCompS) (defBody sCompS) (defScope sCompS) .none kV16 doc16 pm16 an16 cd16 ct16), osl16⟩)
    (c16 : PySem.W.codeIn K cd16 "compile_statements" = true)
    (k16 : PySem.W.keepIn K (.ref f16) = true)
    (a17 : PySem.W.nsIn K mainGlobals "compile_statement" = some (some (.ref f17)))
    (l17 : K.lookup f17 = some ⟨oc17, od17, .func (PySem.W.fnOf "compile_statement" "compile_statement" (defArgs sComp1) (defBody sComp1) (defScope sComp1) .none kV17 doc17 pm17 an17 cd17 ct17), osl17⟩)
    (c17 : PySem.W.codeIn K cd17 "compile_statement" = true)
    (k17 : PySem.W.keepIn K (.ref f17) = true)
    (a18 : PySem.W.nsIn K mainGlobals "first_of" = some (some (.ref f18)))
    (l18 : K.lookup f18 = some ⟨oc18, od18, .func (PySem.W.fnOf "first_of" "first_of" (defArgs sFirst) (defBody sFirst) (defScope sFirst) .none kV18 doc18 pm18 an18 cd18 ct18), osl18⟩)
    (c18 : PySem.W.codeIn K cd18 "first_of" = true)
    (k18 : PySem.W.keepIn K (.ref f18) = true)
    (a19 : PySem.W.nsIn K mainGlobals "table_node" = some (some (.ref f19)))
    (l19 : K.lookup f19 = some ⟨oc19, od19, .func (PySem.W.fnOf "table_node" "table_node" (defArgs sTableN) (defBody sTableN) (defScope sTableN) .none kV19 doc19 pm19 an19 cd19 ct19), osl19⟩)
    (c19 : PySem.W.codeIn K cd19 "table_node" = true)
    (k19 : PySem.W.keepIn K (.ref f19) = true)
    (a20 : PySem.W.nsIn K mainGlobals "test_node" = some (some (.ref f20)))
    (l20 : K.lookup f20 = some ⟨oc20, od20, .func (PySem.W.fnOf "test_node" "test_node" (defArgs sTestN) (defBody sTestN) (defScope sTestN) .none kV20 doc20 pm20 an20 cd20 ct20), osl20⟩)
    (c20 : PySem.W.codeIn K cd20 "test_node" = true)
    (k20 : PySem.W.keepIn K (.ref f20) = true)
    (a21 : PySem.W.nsIn K mainGlobals "stages" = some (some (.ref f21)))
    (l21 : K.lookup f21 = some ⟨oc21, od21, .func (PySem.W.fnOf "stages" "stages" (defArgs sStages) (defBody sStages) (defScope sStages) .none kV21 doc21 pm21 an21 cd21 ct21), osl21⟩)
    (c21 : PySem.W.codeIn K cd21 "stages" = true)
    (k21 : PySem.W.keepIn K (.ref f21) = true)
    (a22 : PySem.W.nsIn K mainGlobals "followers_of" = some (some (.ref f22)))
    (l22 : K.lookup f22 = some ⟨oc22, od22, .func (PySem.W.fnOf "followers_of" "followers_of" (defArgs sFollow) (defBody sFollow) (defScope sFollow) .none kV22 doc22 pm22 an22 cd22 ct22), osl22⟩)
    (c22 : PySem.W.codeIn K cd22 "followers_of" = true)
    (k22 : PySem.W.keepIn K (.ref f22) = true)
    (a23 : PySem.W.nsIn K mainGlobals "compile_action" = some (some (.ref f23)))
    (l23 : K.lookup f23 = some ⟨oc23, od23, .func (PySem.W.fnOf "compile_action" "compile_action" (defArgs sCompA) (defBody sCompA) (defScope sCompA) .none kV23 doc23 pm23 an23 cd23 ct23), osl23⟩)
    (c23 : PySem.W.codeIn K cd23 "compile_action" = true)
    (k23 : PySem.W.keepIn K (.ref f23) = true)
    (a24 : PySem.W.nsIn K mainGlobals "preferred" = some (some (.ref f24)))
    (l24 : K.lookup f24 = some ⟨oc24, od24, .func (PySem.W.fnOf "preferred" "preferred" (defArgs sPref) (defBody sPref) (defScope sPref) .none kV24 doc24 pm24 an24 cd24 ct24), osl24⟩)
    (c24 : PySem.W.codeIn K cd24 "preferred" = true)
    (k24 : PySem.W.keepIn K (.ref f24) = true)
    (a25 : PySem.W.nsIn K mainGlobals "compile_parser" = some (some (.ref f25)))
    (l25 : K.lookup f25 = some ⟨oc25, od25, .func (PySem.W.fnOf "compile_parser" "compile_parser" (defArgs sCompP) (defBody sCompP) (defScope sCompP) .none kV25 doc25 pm25 an25 cd25 ct25), osl25⟩)
    (c25 : PySem.W.codeIn K cd25 "compile_parser" = true)
    (k25 : PySem.W.keepIn K (.ref f25) = true)
    (a26 : PySem.W.nsIn K mainGlobals "compile_state" = some (some (.ref f26)))
    (l26 : K.lookup f26 = some ⟨oc26, od26, .func (PySem.W.fnOf "compile_state" "compile_state" (defArgs sCompSt) (defBody sCompSt) (defScope sCompSt) .none kV26 doc26 pm26 an26 cd26 ct26), osl26⟩)
    (c26 : PySem.W.codeIn K cd26 "compile_state" = true)
    (k26 : PySem.W.keepIn K (.ref f26) = true)
    (a27 : PySem.W.nsIn K mainGlobals "goal_of" = some (some (.ref f27)))
    (l27 : K.lookup f27 = some ⟨oc27, od27, .func (PySem.W.fnOf "goal_of" "goal_of" (defArgs sGoal) (defBody sGoal) (defScope sGoal) .none kV27 doc27 pm27 an27 cd27 ct27), osl27⟩)
    (c27 : PySem.W.codeIn K cd27 "goal_of" = true)
    (k27 : PySem.W.keepIn K (.ref f27) = true)
    (a28 : PySem.W.nsIn K mainGlobals "parser_unit" = some (some (.ref f28)))
    (l28 : K.lookup f28 = some ⟨oc28, od28, .func (PySem.W.fnOf "parser_unit" "parser_unit" (defArgs sParU) (defBody sParU) (defScope sParU) .none kV28 doc28 pm28 an28 cd28 ct28), osl28⟩)
    (c28 : PySem.W.codeIn K cd28 "parser_unit" = true)
    (k28 : PySem.W.keepIn K (.ref f28) = true)
    (a29 : PySem.W.nsIn K mainGlobals "emitter_unit" = some (some (.ref f29)))
    (l29 : K.lookup f29 = some ⟨oc29, od29, .func (PySem.W.fnOf "emitter_unit" "emitter_unit" (defArgs sEmiU) (defBody sEmiU) (defScope sEmiU) .none kV29 doc29 pm29 an29 cd29 ct29), osl29⟩)
    (c29 : PySem.W.codeIn K cd29 "emitter_unit" = true)
    (k29 : PySem.W.keepIn K (.ref f29) = true)
    (a30 : PySem.W.nsIn K mainGlobals "memory_of" = some (some (.ref f30)))
    (l30 : K.lookup f30 = some ⟨oc30, od30, .func (PySem.W.fnOf "memory_of" "memory_of" (defArgs sMem) (defBody sMem) (defScope sMem) .none kV30 doc30 pm30 an30 cd30 ct30), osl30⟩)
    (c30 : PySem.W.codeIn K cd30 "memory_of" = true)
    (k30 : PySem.W.keepIn K (.ref f30) = true)
    (a31 : PySem.W.nsIn K mainGlobals "build" = some (some (.ref f31)))
    (l31 : K.lookup f31 = some ⟨oc31, od31, .func (PySem.W.fnOf "build" "build" (defArgs sBuild) (defBody sBuild) (defScope sBuild) .none kV31 doc31 pm31 an31 cd31 ct31), osl31⟩)
    (c31 : PySem.W.codeIn K cd31 "build" = true)
    (k31 : PySem.W.keepIn K (.ref f31) = true)
    (a32 : PySem.W.nsIn K mainGlobals "_law_state" = some (some (.ref f32)))
    (l32 : K.lookup f32 = some ⟨oc32, od32, .func (PySem.W.fnOf "_law_state" "_law_state" (defArgs sState) (defBody sState) (defScope sState) .none kV32 doc32 pm32 an32 cd32 ct32), osl32⟩)
    (c32 : PySem.W.codeIn K cd32 "_law_state" = true)
    (k32 : PySem.W.keepIn K (.ref f32) = true)
    (a33 : PySem.W.nsIn K mainGlobals "_law_draw" = some (some (.ref f33)))
    (l33 : K.lookup f33 = some ⟨oc33, od33, .func (PySem.W.fnOf "_law_draw" "_law_draw" (defArgs sDraw) (defBody sDraw) (defScope sDraw) .none kV33 doc33 pm33 an33 cd33 ct33), osl33⟩)
    (c33 : PySem.W.codeIn K cd33 "_law_draw" = true)
    (k33 : PySem.W.keepIn K (.ref f33) = true)
    (a34 : PySem.W.nsIn K mainGlobals "_law_control" = some (some (.ref f34)))
    (l34 : K.lookup f34 = some ⟨oc34, od34, .func (PySem.W.fnOf "_law_control" "_law_control" (defArgs sCtl) (defBody sCtl) (defScope sCtl) .none kV34 doc34 pm34 an34 cd34 ct34), osl34⟩)
    (c34 : PySem.W.codeIn K cd34 "_law_control" = true)
    (k34 : PySem.W.keepIn K (.ref f34) = true)
    (a35 : PySem.W.nsIn K mainGlobals "_law_goals" = some (some (.ref f35)))
    (l35 : K.lookup f35 = some ⟨oc35, od35, .func (PySem.W.fnOf "_law_goals" "_law_goals" (defArgs sGoals) (defBody sGoals) (defScope sGoals) .none kV35 doc35 pm35 an35 cd35 ct35), osl35⟩)
    (c35 : PySem.W.codeIn K cd35 "_law_goals" = true)
    (k35 : PySem.W.keepIn K (.ref f35) = true)
    (a36 : PySem.W.nsIn K mainGlobals "_law_longest" = some (some (.ref f36)))
    (l36 : K.lookup f36 = some ⟨oc36, od36, .func (PySem.W.fnOf "_law_longest" "_law_longest" (defArgs sLong) (defBody sLong) (defScope sLong) .none kV36 doc36 pm36 an36 cd36 ct36), osl36⟩)
    (c36 : PySem.W.codeIn K cd36 "_law_longest" = true)
    (k36 : PySem.W.keepIn K (.ref f36) = true)
    (a37 : PySem.W.nsIn K mainGlobals "_law_refused" = some (some (.ref f37)))
    (l37 : K.lookup f37 = some ⟨oc37, od37, .func (PySem.W.fnOf "_law_refused" "_law_refused" (defArgs sRefused) (defBody sRefused) (defScope sRefused) .none kV37 doc37 pm37 an37 cd37 ct37), osl37⟩)
    (c37 : PySem.W.codeIn K cd37 "_law_refused" = true)
    (k37 : PySem.W.keepIn K (.ref f37) = true)
    (a38 : PySem.W.nsIn K mainGlobals "law" = some (some (.ref f38)))
    (l38 : K.lookup f38 = some ⟨oc38, od38, .func (PySem.W.fnOf "law" "law" (defArgs sLaw) (defBody sLaw) (defScope sLaw) .none kV38 doc38 pm38 an38 cd38 ct38), osl38⟩)
    (c38 : PySem.W.codeIn K cd38 "law" = true)
    (k38 : PySem.W.keepIn K (.ref f38) = true)
    (aFST : PySem.W.nsIn K mainGlobals "FIRST_STATE" = some (some uFST))
    (rFST : L2.RelV (.str "start") uFST)
    (aPW : PySem.W.nsIn K mainGlobals "PORT_WIDTH" = some (some uPW))
    (rPW : L2.RelV (.int 3) uPW)
    (aOW : PySem.W.nsIn K mainGlobals "OUT_WIDTH" = some (some uOW))
    (rOW : L2.RelV (.int 4) uOW)
    (aEND : PySem.W.nsIn K mainGlobals "END" = some (some uEND))
    (rEND : L2.RelV (.int (-1)) uEND)
    (aSTG : PySem.W.nsIn K mainGlobals "STAGES" = some (some uSTG))
    (rSTG : L2.RelV (.int 12) uSTG)
    (aACC : PySem.W.nsIn K mainGlobals "ACCEPT_GOAL" = some (some uACC))
    (rACC : L2.RelV (.int (-1)) uACC)
    (aREJ : PySem.W.nsIn K mainGlobals "REJECT_GOAL" = some (some uREJ))
    (rREJ : L2.RelV (.int (-2)) uREJ)
    (aOCT : PySem.W.nsIn K mainGlobals "OCTET_WIDTH" = some (some uOCT))
    (rOCT : L2.RelV (.int 8) uOCT)
    (aPORT : PySem.W.nsIn K mainGlobals "PORT" = some (some (.ref pPORT)))
    (lPORT : K.lookup pPORT = some ⟨.type "tuple", oPORT, .seq iPORT nPORT, sPORT⟩)
    (vPORT : L2.Vals ([V.str "packet", .str "port"]) iPORT.toList)
    (zInt : PySem.W.nsIn K mainGlobals "int" = some none)
    (zLen : PySem.W.nsIn K mainGlobals "len" = some none)
    (zAbs : PySem.W.nsIn K mainGlobals "abs" = some none)
    (zEnum : PySem.W.nsIn K mainGlobals "enumerate" = some none)
    (zMax : PySem.W.nsIn K mainGlobals "max" = some none)
    (zRange : PySem.W.nsIn K mainGlobals "range" = some none)
    (zSum : PySem.W.nsIn K mainGlobals "sum" = some none)
    (zSorted : PySem.W.nsIn K mainGlobals "sorted" = some none)
    (zAny : PySem.W.nsIn K mainGlobals "any" = some none)
    (zList : PySem.W.nsIn K mainGlobals "list" = some none)
    (zZip : PySem.W.nsIn K mainGlobals "zip" = some none)
    (zIsi : PySem.W.nsIn K mainGlobals "isinstance" = some none)
    (kB : PySem.W.keepIn K (.ref cB) = true)
    (qB : PySem.W.excIn K cB [.type "ValueError", .type "Exception", .type "BaseException", .type "object"] "ValueError.__new__" = true)
    (eB : PySem.W.subIn K (.ref cB) (.type "BaseException") = some true)
    (tB : PySem.W.typeIn K (.ref cB) = some (.type "type"))
    (hgB : PySem.W.findIn K (.ref cB) "__getattribute__" = some (some (.builtin "BaseException.__getattribute__")))
    (hkB : PySem.W.findIn K (.ref cB) "__getattr__" = some none)
    (hdB : PySem.W.hasDictIn K cB = true)
    (haB : PySem.W.findIn K (.ref cB) "__class__" = some (some (.builtin "object.__class__")))
    (hmB : PySem.W.mroIn K cB (.type "object") = some true)
    (sfB : PySem.W.subIn K (.ref cB) (.ref cB) = some true)
    (hn : PySem.W.specialIn K (.builtin "object.__class__") "__get__" = some (some (.builtin "getset_descriptor.__get__")))
    (ht : PySem.W.takesIn K (.builtin "object.__class__") = some true)
    (yS : PySem.W.kitOne K (.ref cB) (.ref cS) = some true)
    : ∃ fd : FuncData, (∀ (s : Shared) (u : Value), BindsTo s fd ⟨[u], []⟩ [("script", u)]) ∧ ∀ base : Heap, K.In base → base.Ns mainGlobals mg → FnOk P w K mg base CX0 24 fa fd ["script"] (spLaw K) := by
  have e := hfa.symm.trans (PySem.W.mg_of X G a38)
  cases e
  have A0 : AtD K mg "headers_of" sHeaders ["program"] := at_of_name X G a0 l0 c0 k0 fun _ _ _ _ _ _ us hl => match us, hl with | [_], _ => rfl
  have A1 : AtD K mg "meta_of" sMeta ["program"] := at_of_name X G a1 l1 c1 k1 fun _ _ _ _ _ _ us hl => match us, hl with | [_], _ => rfl
  have A2 : AtD K mg "states_of" sStates ["program"] := at_of_name X G a2 l2 c2 k2 fun _ _ _ _ _ _ us hl => match us, hl with | [_], _ => rfl
  have A3 : AtD K mg "actions_of" sActions ["program"] := at_of_name X G a3 l3 c3 k3 fun _ _ _ _ _ _ us hl => match us, hl with | [_], _ => rfl
  have A4 : AtD K mg "tables_of" sTables ["program"] := at_of_name X G a4 l4 c4 k4 fun _ _ _ _ _ _ us hl => match us, hl with | [_], _ => rfl
  have A5 : AtD K mg "control_of" sControlOf ["program"] := at_of_name X G a5 l5 c5 k5 fun _ _ _ _ _ _ us hl => match us, hl with | [_], _ => rfl
  have A6 : AtD K mg "emits_of" sEmits ["program"] := at_of_name X G a6 l6 c6 k6 fun _ _ _ _ _ _ us hl => match us, hl with | [_], _ => rfl
  have A7 : AtD K mg "names_of" sNames ["parts"] := at_of_name X G a7 l7 c7 k7 fun _ _ _ _ _ _ us hl => match us, hl with | [_], _ => rfl
  have A8 : AtD K mg "part_named" sPart ["parts", "name"] := at_of_name X G a8 l8 c8 k8 fun _ _ _ _ _ _ us hl => match us, hl with | [_, _], _ => rfl
  have A9 : AtD K mg "all_statements" sAll ["statements"] := at_of_name X G a9 l9 c9 k9 fun _ _ _ _ _ _ us hl => match us, hl with | [_], _ => rfl
  have A10 : AtD K mg "plain_test" sPlain ["test"] := at_of_name X G a10 l10 c10 k10 fun _ _ _ _ _ _ us hl => match us, hl with | [_], _ => rfl
  have A11 : AtD K mg "cells_of" sCells ["program"] := at_of_name X G a11 l11 c11 k11 fun _ _ _ _ _ _ us hl => match us, hl with | [_], _ => rfl
  have A12 : AtD K mg "index_of" sIndex ["program", "place"] := at_of_name X G a12 l12 c12 k12 fun _ _ _ _ _ _ us hl => match us, hl with | [_, _], _ => rfl
  have A13 : AtD K mg "cell_of" sCell ["program", "field"] := at_of_name X G a13 l13 c13 k13 fun _ _ _ _ _ _ us hl => match us, hl with | [_, _], _ => rfl
  have A14 : AtD K mg "widths" sWidths ["program"] := at_of_name X G a14 l14 c14 k14 fun _ _ _ _ _ _ us hl => match us, hl with | [_], _ => rfl
  have A15 : AtD K mg "compile_control" sCompC ["program"] := at_of_name X G a15 l15 c15 k15 fun _ _ _ _ _ _ us hl => match us, hl with | [_], _ => rfl
  have A16 : AtD K mg "compile_statements" sCompS ["program", "statements", "first", "after"] := at_of_name X G a16 l16 c16 k16 fun _ _ _ _ _ _ us hl => match us, hl with | [_, _, _, _], _ => rfl
  have A17 : AtD K mg "compile_statement" sComp1 ["program", "statement", "index", "after"] := at_of_name X G a17 l17 c17 k17 fun _ _ _ _ _ _ us hl => match us, hl with | [_, _, _, _], _ => rfl
  have A18 : AtD K mg "first_of" sFirst ["statements", "first", "after"] := at_of_name X G a18 l18 c18 k18 fun _ _ _ _ _ _ us hl => match us, hl with | [_, _, _], _ => rfl
  have A19 : AtD K mg "table_node" sTableN ["program", "name", "after"] := at_of_name X G a19 l19 c19 k19 fun _ _ _ _ _ _ us hl => match us, hl with | [_, _, _], _ => rfl
  have A20 : AtD K mg "test_node" sTestN ["program", "test", "yes", "no"] := at_of_name X G a20 l20 c20 k20 fun _ _ _ _ _ _ us hl => match us, hl with | [_, _, _, _], _ => rfl
  have A21 : AtD K mg "stages" sStages ["nodes"] := at_of_name X G a21 l21 c21 k21 fun _ _ _ _ _ _ us hl => match us, hl with | [_], _ => rfl
  have A22 : AtD K mg "followers_of" sFollow ["node"] := at_of_name X G a22 l22 c22 k22 fun _ _ _ _ _ _ us hl => match us, hl with | [_], _ => rfl
  have A23 : AtD K mg "compile_action" sCompA ["program", "action"] := at_of_name X G a23 l23 c23 k23 fun _ _ _ _ _ _ us hl => match us, hl with | [_, _], _ => rfl
  have A24 : AtD K mg "preferred" sPref ["program", "table", "entries"] := at_of_name X G a24 l24 c24 k24 fun _ _ _ _ _ _ us hl => match us, hl with | [_, _, _], _ => rfl
  have A25 : AtD K mg "compile_parser" sCompP ["program"] := at_of_name X G a25 l25 c25 k25 fun _ _ _ _ _ _ us hl => match us, hl with | [_], _ => rfl
  have A26 : AtD K mg "compile_state" sCompSt ["program", "state"] := at_of_name X G a26 l26 c26 k26 fun _ _ _ _ _ _ us hl => match us, hl with | [_, _], _ => rfl
  have A27 : AtD K mg "goal_of" sGoal ["program", "target"] := at_of_name X G a27 l27 c27 k27 fun _ _ _ _ _ _ us hl => match us, hl with | [_, _], _ => rfl
  have A28 : AtD K mg "parser_unit" sParU ["program"] := at_of_name X G a28 l28 c28 k28 fun _ _ _ _ _ _ us hl => match us, hl with | [_], _ => rfl
  have A29 : AtD K mg "emitter_unit" sEmiU ["program"] := at_of_name X G a29 l29 c29 k29 fun _ _ _ _ _ _ us hl => match us, hl with | [_], _ => rfl
  have A30 : AtD K mg "memory_of" sMem ["configuration", "node"] := at_of_name X G a30 l30 c30 k30 fun _ _ _ _ _ _ us hl => match us, hl with | [_, _], _ => rfl
  have A31 : AtD K mg "build" sBuild ["configuration"] := at_of_name X G a31 l31 c31 k31 fun _ _ _ _ _ _ us hl => match us, hl with | [_], _ => rfl
  have A32 : AtD K mg "_law_state" sState ["script"] := at_of_name X G a32 l32 c32 k32 fun _ _ _ _ _ _ us hl => match us, hl with | [_], _ => rfl
  have A33 : AtD K mg "_law_draw" sDraw ["state", "many"] := at_of_name X G a33 l33 c33 k33 fun _ _ _ _ _ _ us hl => match us, hl with | [_, _], _ => rfl
  have A34 : AtD K mg "_law_control" sCtl ["state", "left", "nested", "names"] := at_of_name X G a34 l34 c34 k34 fun _ _ _ _ _ _ us hl => match us, hl with | [_, _, _, _], _ => rfl
  have A35 : AtD K mg "_law_goals" sGoals ["node"] := at_of_name X G a35 l35 c35 k35 fun _ _ _ _ _ _ us hl => match us, hl with | [_], _ => rfl
  have A36 : AtD K mg "_law_longest" sLong ["nodes"] := at_of_name X G a36 l36 c36 k36 fun _ _ _ _ _ _ us hl => match us, hl with | [_], _ => rfl
  have A37 : AtD K mg "_law_refused" sRefused ["program"] := at_of_name X G a37 l37 c37 k37 fun _ _ _ _ _ _ us hl => match us, hl with | [_], _ => rfl
  refine ⟨PySem.W.fnOf "law" "law" (defArgs sLaw) (defBody sLaw) (defScope sLaw) .none kV38 doc38 pm38 an38 cd38 ct38, fun s u => .of_eq rfl, fun base _ _ => ?_⟩
  have T : Gk K mg := ⟨⟨_, PySem.W.mg_of X G aPORT, ⟨_, _, _, lPORT, rfl, rfl, by rw [← Array.length_toList, ← vPORT.length]; decide +kernel, vPORT⟩⟩, ⟨_, PySem.W.mg_of X G aPW, rPW⟩, ⟨_, PySem.W.mg_of X G aOW, rOW⟩, ⟨_, PySem.W.mg_of X G aEND, rEND⟩, ⟨_, PySem.W.mg_of X G aSTG, rSTG⟩, ⟨_, PySem.W.mg_of X G aFST, rFST⟩, ⟨_, PySem.W.mg_of X G aACC, rACC⟩, ⟨_, PySem.W.mg_of X G aREJ, rREJ⟩, ⟨_, PySem.W.mg_of X G aOCT, rOCT⟩, PySem.W.mg_none_of X G zLen, PySem.W.mg_none_of X G zEnum, PySem.W.mg_none_of X G zMax, PySem.W.mg_none_of X G zRange, PySem.W.mg_none_of X G zSum, PySem.W.mg_none_of X G zSorted, PySem.W.mg_none_of X G zAny, PySem.W.mg_none_of X G zList, PySem.W.mg_none_of X G zZip⟩
  have Bt : Blt mg := ⟨PySem.W.mg_none_of X G zInt, PySem.W.mg_none_of X G zAbs, PySem.W.mg_none_of X G zLen⟩
  have BE : BuE K mg cB := ⟨PySem.W.mg_of X G gB, kB, qB, eB, tB⟩
  have Z : BuC K mg cB cS := { B := BE, ex := ⟨hgB, hkB, eB, hdB, haB, hn, ht, hmB⟩, self := PySem.W.exm_ref eB hdB tB sfB, gS := PySem.W.mg_of X G gS, kS := yS, zIsi := PySem.W.mg_none_of X G zIsi }
  have Dh : Df P w K mg base CX0 1 "headers_of" ["program"] (spAcc K 2) := A0.df fun f fd F => ok_headers (k := 0) F
  have Dm : Df P w K mg base CX0 1 "meta_of" ["program"] (spAcc K 3) := A1.df fun f fd F => ok_meta (k := 0) F
  have Ds : Df P w K mg base CX0 1 "states_of" ["program"] (spAcc K 4) := A2.df fun f fd F => ok_states (k := 0) F
  have Da : Df P w K mg base CX0 1 "actions_of" ["program"] (spAcc K 5) := A3.df fun f fd F => ok_actions (k := 0) F
  have Dt : Df P w K mg base CX0 1 "tables_of" ["program"] (spAcc K 6) := A4.df fun f fd F => ok_tables (k := 0) F
  have Dc : Df P w K mg base CX0 1 "control_of" ["program"] (spAcc K 7) := A5.df fun f fd F => ok_controlOf (k := 0) F
  have De : Df P w K mg base CX0 1 "emits_of" ["program"] (spAcc K 8) := A6.df fun f fd F => ok_emits (k := 0) F
  have Dn : Df P w K mg base CX0 1 "names_of" ["parts"] (spNames K) := A7.df fun f fd F => ok_names (k := 0) F
  have Dp : Df P w K mg base CX0 1 "part_named" ["parts", "name"] (spPart K) := A8.df fun f fd F => ok_part (k := 0) F
  have Al0 : Df P w K mg base CX0 1 "all_statements" ["statements"] (spAll K 0) := A9.df fun f fd F => ok_all0 (k := 0) F
  have Al1 : Df P w K mg base CX0 2 "all_statements" ["statements"] (spAll K 1) := A9.df fun f fd F => ok_allS (d := 0) F Al0
  have Al2 : Df P w K mg base CX0 3 "all_statements" ["statements"] (spAll K 2) := A9.df fun f fd F => ok_allS (d := 1) F Al1
  have Al3 : Df P w K mg base CX0 4 "all_statements" ["statements"] (spAll K 3) := A9.df fun f fd F => ok_allS (d := 2) F Al2
  have Al4 : Df P w K mg base CX0 5 "all_statements" ["statements"] (spAll K 4) := A9.df fun f fd F => ok_allS (d := 3) F Al3
  have Al5 : Df P w K mg base CX0 6 "all_statements" ["statements"] (spAll K 5) := A9.df fun f fd F => ok_allS (d := 4) F Al4
  have Al6 : Df P w K mg base CX0 7 "all_statements" ["statements"] (spAll K 6) := A9.df fun f fd F => ok_allS (d := 5) F Al5
  have Dpl : Df P w K mg base CX0 1 "plain_test" ["test"] (spPlain K) := A10.df fun f fd F => ok_plain (k := 0) F
  have Dce : Df P w K mg base CX0 2 "cells_of" ["program"] (spCells K) := A11.df fun f fd F => ok_cells (k := 0) F T Dh Dm
  have Dix : Df P w K mg base CX0 3 "index_of" ["program", "place"] (spIndex K) := A12.df fun f fd F => ok_index (k := 0) F Dce
  have Dcl : Df P w K mg base CX0 4 "cell_of" ["program", "field"] (spIndex K) := A13.df fun f fd F => ok_cell (k := 0) F Dix
  have Dwi : Df P w K mg base CX0 3 "widths" ["program"] (spWidths K) := A14.df fun f fd F => ok_widths (k := 0) F Dce
  have Dfi : Df P w K mg base CX0 1 "first_of" ["statements", "first", "after"] (spFirst K) := A18.df fun f fd F => ok_first (k := 0) F
  have Dfo : Df P w K mg base CX0 1 "followers_of" ["node"] (spFollow K) := A22.df fun f fd F => ok_follow (k := 0) F T
  have Dst : Df P w K mg base CX0 2 "stages" ["nodes"] (spStages K) := A21.df fun f fd F => ok_stages (k := 0) F T Dfo
  have Dte : Df P w K mg base CX0 5 "test_node" ["program", "test", "yes", "no"] (spTestN K) := A20.df fun f fd F => ok_testN (k := 0) F Dpl Dcl
  have Dta : Df P w K mg base CX0 2 "table_node" ["program", "name", "after"] (spTableN K) := A19.df fun f fd F => ok_tableN (k := 0) F Dt Dp Dn
  have St0 : Df P w K mg base CX0 8 "compile_statements" ["program", "statements", "first", "after"] (spStms K 0) := A16.df fun f fd F => ok_stms0 (k := 7) F
  have So0 : Df P w K mg base CX0 9 "compile_statement" ["program", "statement", "index", "after"] (spSt K 0) := A17.df fun f fd F => ok_st (k := 8) (d := 0) (by decide) (by decide) F T Dta Al6 Dfi Dte St0
  have St1 : Df P w K mg base CX0 10 "compile_statements" ["program", "statements", "first", "after"] (spStms K 1) := A16.df fun f fd F => ok_stmsS (k := 9) (d := 0) (by decide) (by decide) F T Al6 So0
  have So1 : Df P w K mg base CX0 11 "compile_statement" ["program", "statement", "index", "after"] (spSt K 1) := A17.df fun f fd F => ok_st (k := 10) (d := 1) (by decide) (by decide) F T Dta Al6 Dfi Dte St1
  have St2 : Df P w K mg base CX0 12 "compile_statements" ["program", "statements", "first", "after"] (spStms K 2) := A16.df fun f fd F => ok_stmsS (k := 11) (d := 1) (by decide) (by decide) F T Al6 So1
  have So2 : Df P w K mg base CX0 13 "compile_statement" ["program", "statement", "index", "after"] (spSt K 2) := A17.df fun f fd F => ok_st (k := 12) (d := 2) (by decide) (by decide) F T Dta Al6 Dfi Dte St2
  have St3 : Df P w K mg base CX0 14 "compile_statements" ["program", "statements", "first", "after"] (spStms K 3) := A16.df fun f fd F => ok_stmsS (k := 13) (d := 2) (by decide) (by decide) F T Al6 So2
  have So3 : Df P w K mg base CX0 15 "compile_statement" ["program", "statement", "index", "after"] (spSt K 3) := A17.df fun f fd F => ok_st (k := 14) (d := 3) (by decide) (by decide) F T Dta Al6 Dfi Dte St3
  have St4 : Df P w K mg base CX0 16 "compile_statements" ["program", "statements", "first", "after"] (spStms K 4) := A16.df fun f fd F => ok_stmsS (k := 15) (d := 3) (by decide) (by decide) F T Al6 So3
  have So4 : Df P w K mg base CX0 17 "compile_statement" ["program", "statement", "index", "after"] (spSt K 4) := A17.df fun f fd F => ok_st (k := 16) (d := 4) (by decide) (by decide) F T Dta Al6 Dfi Dte St4
  have St5 : Df P w K mg base CX0 18 "compile_statements" ["program", "statements", "first", "after"] (spStms K 5) := A16.df fun f fd F => ok_stmsS (k := 17) (d := 4) (by decide) (by decide) F T Al6 So4
  have So5 : Df P w K mg base CX0 19 "compile_statement" ["program", "statement", "index", "after"] (spSt K 5) := A17.df fun f fd F => ok_st (k := 18) (d := 5) (by decide) (by decide) F T Dta Al6 Dfi Dte St5
  have St6 : Df P w K mg base CX0 20 "compile_statements" ["program", "statements", "first", "after"] (spStms K 6) := A16.df fun f fd F => ok_stmsS (k := 19) (d := 5) (by decide) (by decide) F T Al6 So5
  have Dcc : Df P w K mg base CX0 21 "compile_control" ["program"] (spCompC K) := A15.df fun f fd F => ok_compC (k := 20) (by decide) F T Dc St6
  have Dca : Df P w K mg base CX0 2 "compile_action" ["program", "action"] (spCompA K) := A23.df fun f fd F => ok_compA (k := 0) F Da Dp
  have Dpr : Df P w K mg base CX0 2 "preferred" ["program", "table", "entries"] (spPref K) := A24.df fun f fd F => ok_pref (k := 0) F T Dt Dp
  have Dgo : Df P w K mg base CX0 1 "goal_of" ["program", "target"] (spGoal) := A27.df fun f fd F => ok_goal (k := 0) F T
  have Dcs : Df P w K mg base CX0 2 "compile_state" ["program", "state"] (spCompSt K) := A26.df fun f fd F => ok_compSt (k := 0) F T Dgo
  have Dcp : Df P w K mg base CX0 3 "compile_parser" ["program"] (spProgA K) := A25.df fun f fd F => ok_compP (k := 0) F T Ds Dcs Dn
  have Dpu : Df P w K mg base CX0 4 "parser_unit" ["program"] (spProgA K) := A28.df fun f fd F => ok_parU (k := 0) F T Dcp Dwi
  have Deu : Df P w K mg base CX0 2 "emitter_unit" ["program"] (spProgA K) := A29.df fun f fd F => ok_emiU (k := 0) F De
  have Dme : Df P w K mg base CX0 3 "memory_of" ["configuration", "node"] (spMem K) := A30.df fun f fd F => ok_mem (k := 0) F T (Dt.up (by decide)) Dpr Dca
  have Dbu : Df P w K mg base (L2.CX P w) 22 "build" ["configuration"] (spBuild K cB) := A31.df fun f fd F => ok_build (k := 21) (by decide) F T BE Dcc Dst Dme Dpu Deu
  have D1 : Df P w K mg base CX0 1 "_law_state" ["script"] (spState K) := A32.df fun f fd F => ok_state (k := 0) F Bt
  have D2 : Df P w K mg base CX0 1 "_law_draw" ["state", "many"] (spDraw) := A33.df fun f fd F => ok_draw (k := 0) F Bt
  have C0 : Df P w K mg base CX0 1 "_law_control" ["state", "left", "nested", "names"] (spCtl K 0) := A34.df fun f fd F => ok_ctl0 (k := 0) F
  have C1 : Df P w K mg base CX0 2 "_law_control" ["state", "left", "nested", "names"] (spCtl K 1) := A34.df fun f fd F => ok_ctlS (m := 0) F T D2 C0
  have C2 : Df P w K mg base CX0 3 "_law_control" ["state", "left", "nested", "names"] (spCtl K 2) := A34.df fun f fd F => ok_ctlS (m := 1) F T D2 C1
  have C3 : Df P w K mg base CX0 4 "_law_control" ["state", "left", "nested", "names"] (spCtl K 3) := A34.df fun f fd F => ok_ctlS (m := 2) F T D2 C2
  have C4 : Df P w K mg base CX0 5 "_law_control" ["state", "left", "nested", "names"] (spCtl K 4) := A34.df fun f fd F => ok_ctlS (m := 3) F T D2 C3
  have C5 : Df P w K mg base CX0 6 "_law_control" ["state", "left", "nested", "names"] (spCtl K 5) := A34.df fun f fd F => ok_ctlS (m := 4) F T D2 C4
  have Dgl : Df P w K mg base CX0 1 "_law_goals" ["node"] (spGoals K) := A35.df fun f fd F => ok_goals (k := 0) F
  have Dlo : Df P w K mg base CX0 2 "_law_longest" ["nodes"] (spLong K) := A36.df fun f fd F => ok_long (k := 0) F T Dgl
  have Dre : Df P w K mg base CX0 23 "_law_refused" ["program"] (spRefused K) := A37.df fun f fd F => ok_refused (k := 21) F Z Dbu
  exact ok_law (fun_mk (st := sLaw) l38 c38 k38) T Z D1 D2 C5 Dcc Dst Dlo Dre
theorem walk {l : PySem.W.OpenLaw} {q : Program} {loose : List Str} {XP : (Str → Option Value) → Heap → Prop} {YP : World → Heap → Prop} {d : DefRec} {K : Params → PySem.W.Frag} (hn : l.most = some 63) (hdf : d.params.defaults = [])
    (hY : ∀ (w : World) (h : Heap), YP w h → (K w.params).In h)
    (F : ∀ (w : World) (mg : Str → Option Value) (fa : Addr) (h : Heap), (K w.params).In h → h.Ns mainGlobals mg → mg d.name = some (.ref fa) →
      ∃ fd : FuncData, (∀ (s : Shared) (u : Value), BindsTo s fd ⟨[u], []⟩ [("script", u)]) ∧ ∀ base : Heap, (K w.params).In base → base.Ns mainGlobals mg → FnOk l.prog w (K w.params) mg base CX0 24 fa fd ["script"] (spLaw (K w.params))) :
    PySem.W.WalkO q loose XP YP l.row.toRowW d [] (fun f vs => PySem.call f vs) :=
  L2.walk_of (n := 63) (k := 24) (x := "script") (CX := fun _ => CX0) (sp := fun w => spLaw (K w.params)) hn (by decide) hdf ⟨rfl, by decide, by decide⟩ hY F (fun _ _ a ns hl _ hS => ⟨a, ns, rfl, hS, hl, fun _ => rfl⟩) fun _ _ _ _ _ z => z
end Pk
open PySem PySem.W PyProof.Rows
set_option maxRecDepth 100000 in
set_option maxHeartbeats 0 in
theorem PySem.Challenge.cw_wholepackets_k16_stages_and_bounds_holds : PySem.Challenge.rw_wholepackets_k16_stages_and_bounds.Holds := by
  w_on; o_law; k_head; (case hw => w_witness2)
  k_fill
  refine Pk.walk (l := PySem.Challenge.rw_wholepackets_k16_stages_and_bounds) rfl rfl (fun w h Y => PySem.W.kIn_of Y) ?F
  case F =>
    intro w mg fa h KX G hmg
    refine' Pk.all_mk KX G hmg ?gB ?gS ?a0 ?l0 ?c0 ?k0 ?a1 ?l1 ?c1 ?k1 ?a2 ?l2 ?c2 ?k2 ?a3 ?l3 ?c3 ?k3 ?a4 ?l4 ?c4 ?k4 ?a5 ?l5 ?c5 ?k5 ?a6 ?l6 ?c6 ?k6 ?a7 ?l7 ?c7 ?k7 ?a8 ?l8 ?c8 ?k8 ?a9 ?l9 ?c9 ?k9 ?a10 ?l10 ?c10 ?k10 ?a11 ?l11 ?c11 ?k11 ?a12 ?l12 ?c12 ?k12 ?a13 ?l13 ?c13 ?k13 ?a14 ?l14 ?c14 ?k14 ?a15 ?l15 ?c15 ?k15 ?a16 ?l16 ?c16 ?k16 ?a17 ?l17 ?c17 ?k17 ?a18 ?l18 ?c18 ?k18 ?a19 ?l19 ?c19 ?k19 ?a20 ?l20 ?c20 ?k20 ?a21 ?l21 ?c21 ?k21 ?a22 ?l22 ?c22 ?k22 ?a23 ?l23 ?c23 ?k23 ?a24 ?l24 ?c24 ?k24 ?a25 ?l25 ?c25 ?k25 ?a26 ?l26 ?c26 ?k26 ?a27 ?l27 ?c27 ?k27 ?a28 ?l28 ?c28 ?k28 ?a29 ?l29 ?c29 ?k29 ?a30 ?l30 ?c30 ?k30 ?a31 ?l31 ?c31 ?k31 ?a32 ?l32 ?c32 ?k32 ?a33 ?l33 ?c33 ?k33 ?a34 ?l34 ?c34 ?k34 ?a35 ?l35 ?c35 ?k35 ?a36 ?l36 ?c36 ?k36 ?a37 ?l37 ?c37 ?k37 ?a38 ?l38 ?c38 ?k38 ?aFST ?rFST ?aPW ?rPW ?aOW ?rOW ?aEND ?rEND ?aSTG ?rSTG ?aACC ?rACC ?aREJ ?rREJ ?aOCT ?rOCT ?aPORT ?lPORT ?vPORT ?zInt ?zLen ?zAbs ?zEnum ?zMax ?zRange ?zSum ?zSorted ?zAny ?zList ?zZip ?zIsi ?kB ?qB ?eB ?tB ?hgB ?hkB ?hdB ?haB ?hmB ?sfB ?hn ?ht ?yS
    (case gB => k_is)
    (case gS => k_is)
    (case a0 => k_is)
    (case l0 => k_is)
    (case c0 => k_is)
    (case k0 => k_is)
    (case a1 => k_is)
    (case l1 => k_is)
    (case c1 => k_is)
    (case k1 => k_is)
    (case a2 => k_is)
    (case l2 => k_is)
    (case c2 => k_is)
    (case k2 => k_is)
    (case a3 => k_is)
    (case l3 => k_is)
    (case c3 => k_is)
    (case k3 => k_is)
    (case a4 => k_is)
    (case l4 => k_is)
    (case c4 => k_is)
    (case k4 => k_is)
    (case a5 => k_is)
    (case l5 => k_is)
    (case c5 => k_is)
    (case k5 => k_is)
    (case a6 => k_is)
    (case l6 => k_is)
    (case c6 => k_is)
    (case k6 => k_is)
    (case a7 => k_is)
    (case l7 => k_is)
    (case c7 => k_is)
    (case k7 => k_is)
    (case a8 => k_is)
    (case l8 => k_is)
    (case c8 => k_is)
    (case k8 => k_is)
    (case a9 => k_is)
    (case l9 => k_is)
    (case c9 => k_is)
    (case k9 => k_is)
    (case a10 => k_is)
    (case l10 => k_is)
    (case c10 => k_is)
    (case k10 => k_is)
    (case a11 => k_is)
    (case l11 => k_is)
    (case c11 => k_is)
    (case k11 => k_is)
    (case a12 => k_is)
    (case l12 => k_is)
    (case c12 => k_is)
    (case k12 => k_is)
    (case a13 => k_is)
    (case l13 => k_is)
    (case c13 => k_is)
    (case k13 => k_is)
    (case a14 => k_is)
    (case l14 => k_is)
    (case c14 => k_is)
    (case k14 => k_is)
    (case a15 => k_is)
    (case l15 => k_is)
    (case c15 => k_is)
    (case k15 => k_is)
    (case a16 => k_is)
    (case l16 => k_is)
    (case c16 => k_is)
    (case k16 => k_is)
    (case a17 => k_is)
    (case l17 => k_is)
    (case c17 => k_is)
    (case k17 => k_is)
    (case a18 => k_is)
    (case l18 => k_is)
    (case c18 => k_is)
    (case k18 => k_is)
    (case a19 => k_is)
    (case l19 => k_is)
    (case c19 => k_is)
    (case k19 => k_is)
    (case a20 => k_is)
    (case l20 => k_is)
    (case c20 => k_is)
    (case k20 => k_is)
    (case a21 => k_is)
    (case l21 => k_is)
    (case c21 => k_is)
    (case k21 => k_is)
    (case a22 => k_is)
    (case l22 => k_is)
    (case c22 => k_is)
    (case k22 => k_is)
    (case a23 => k_is)
    (case l23 => k_is)
    (case c23 => k_is)
    (case k23 => k_is)
    (case a24 => k_is)
    (case l24 => k_is)
    (case c24 => k_is)
    (case k24 => k_is)
    (case a25 => k_is)
    (case l25 => k_is)
    (case c25 => k_is)
    (case k25 => k_is)
    (case a26 => k_is)
    (case l26 => k_is)
    (case c26 => k_is)
    (case k26 => k_is)
    (case a27 => k_is)
    (case l27 => k_is)
    (case c27 => k_is)
    (case k27 => k_is)
    (case a28 => k_is)
    (case l28 => k_is)
    (case c28 => k_is)
    (case k28 => k_is)
    (case a29 => k_is)
    (case l29 => k_is)
    (case c29 => k_is)
    (case k29 => k_is)
    (case a30 => k_is)
    (case l30 => k_is)
    (case c30 => k_is)
    (case k30 => k_is)
    (case a31 => k_is)
    (case l31 => k_is)
    (case c31 => k_is)
    (case k31 => k_is)
    (case a32 => k_is)
    (case l32 => k_is)
    (case c32 => k_is)
    (case k32 => k_is)
    (case a33 => k_is)
    (case l33 => k_is)
    (case c33 => k_is)
    (case k33 => k_is)
    (case a34 => k_is)
    (case l34 => k_is)
    (case c34 => k_is)
    (case k34 => k_is)
    (case a35 => k_is)
    (case l35 => k_is)
    (case c35 => k_is)
    (case k35 => k_is)
    (case a36 => k_is)
    (case l36 => k_is)
    (case c36 => k_is)
    (case k36 => k_is)
    (case a37 => k_is)
    (case l37 => k_is)
    (case c37 => k_is)
    (case k37 => k_is)
    (case a38 => k_is)
    (case l38 => k_is)
    (case c38 => k_is)
    (case k38 => k_is)
    (case aFST => k_is)
    (case rFST => exact ⟨_, rfl⟩)
    (case aPW => k_is)
    (case rPW => exact ⟨_, rfl⟩)
    (case aOW => k_is)
    (case rOW => exact ⟨_, rfl⟩)
    (case aEND => k_is)
    (case rEND => exact ⟨_, rfl⟩)
    (case aSTG => k_is)
    (case rSTG => exact ⟨_, rfl⟩)
    (case aACC => k_is)
    (case rACC => exact ⟨_, rfl⟩)
    (case aREJ => k_is)
    (case rREJ => exact ⟨_, rfl⟩)
    (case aOCT => k_is)
    (case rOCT => exact ⟨_, rfl⟩)
    (case aPORT => k_is)
    (case lPORT => k_is)
    (case vPORT => repeat (first | exact .nil | refine .cons ⟨_, rfl⟩ ?_))
    (case zInt => k_is)
    (case zLen => k_is)
    (case zAbs => k_is)
    (case zEnum => k_is)
    (case zMax => k_is)
    (case zRange => k_is)
    (case zSum => k_is)
    (case zSorted => k_is)
    (case zAny => k_is)
    (case zList => k_is)
    (case zZip => k_is)
    (case zIsi => k_is)
    (case kB => k_is)
    (case qB => k_exc)
    (case eB => k_is)
    (case tB => k_is)
    (case hgB => k_is)
    (case hkB => k_is)
    (case hdB => k_is)
    (case haB => k_is)
    (case hmB => k_is)
    (case sfB => first | k_is | rfl | kernel_rfl)
    (case hn => k_is)
    (case ht => k_is)
    (case yS => first | kit_is | k_is | kernel_rfl | with_unfolding_all rfl)
