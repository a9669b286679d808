import PyProof.Rows.All
import Wide.All
import OpenK.AllK
import Wide.FinOn
import HandS.ForMost
import HandS.Wide
import HandS.Codes
import HandS.IsInst
import HandS.IntHex
import HandS.AnyAll
import HandS.Walk
import HandS.Flow
import HandS.StrMore
import HandS.EndTab
import PyProof.ReprReads
import HandS.Dict
import HandS.WideBits
import KE.KDictDisplayH
import KE.DataFind
import HandS.SetFor
import HandS.Small
import HandS.Ends
import HandS.Deep
import PyProof.ReprRoads
import PyProof.ReprBulk
import HandS.Star
import KE.RegKIsAll
import PySem.Challenge.RW_wholepackets_k17_compiled_actions
set_option Elab.async false
set_option linter.all false
set_option maxRecDepth 100000
set_option maxHeartbeats 4000000
namespace Pk
open PySem PySem.Spec PyProof.Rows L2

/-! ### the drawing state of the law: at s the list [cells, seed], at c the cells -/
def StAt (H : Hp) (s c : Addr) : Prop := ∃ (cells : List Int) (seed : Int), H s = some (.lst [.ref c, .int seed]) ∧ H c = some (.lst (cells.map V.int)) ∧
  (∀ z ∈ cells, 0 ≤ z) ∧ 0 ≤ seed ∧ seed < 2147483648
theorem StAt.ne {H : Hp} {s c : Addr} (h : StAt H s c) : s ≠ c := by
  obtain ⟨cells, seed, h1, h2, _⟩ := h
  refine ne_of h1 h2 fun z => ?_
  have z' := HO.lst.inj z
  cases cells with
  | nil => cases z'
  | cons a r =>
    have e : V.ref c = V.int a := (List.cons.inj z').1
    cases e
/-- what stood beside s and c stands -/
def Kp (s c : Addr) (H H' : Hp) : Prop := ∀ b o, b ≠ s → b ≠ c → H b = some o → H' b = some o
theorem Kp.refl (s c : Addr) (H : Hp) : Kp s c H H := fun _ _ _ _ e => e
theorem Kp.trans {s c : Addr} {H H1 H2 : Hp} (a : Kp s c H H1) (b : Kp s c H1 H2) : Kp s c H H2 := fun x o h1 h2 e => b x o h1 h2 (a x o h1 h2 e)
theorem Kp.same {s c : Addr} {H H1 : Hp} (a : Same H H1) : Kp s c H H1 := fun x o _ _ e => a x o e
theorem Kp.new {s c p : Addr} {H : Hp} {o : HO} (h : H p = none) : Kp s c H (upd H p o) := fun b u _ _ e => by
  rw [upd_ne (ne_of_none e h)]
  exact e
theorem same_new {p : Addr} {H : Hp} {o : HO} (h : H p = none) : Same H (upd H p o) := fun b u e => by
  rw [upd_ne (ne_of_none e h)]
  exact e
theorem StAt.same {H H' : Hp} {s c : Addr} (h : StAt H s c) (k : Same H H') : StAt H' s c := by
  obtain ⟨cells, seed, h1, h2, h3⟩ := h
  exact ⟨cells, seed, k _ _ h1, k _ _ h2, h3⟩
theorem StAt.upd {H : Hp} {s c p : Addr} {o : HO} (h : StAt H s c) (n1 : p ≠ s) (n2 : p ≠ c) : StAt (upd H p o) s c := by
  obtain ⟨cells, seed, h1, h2, h3⟩ := h
  exact ⟨cells, seed, by rw [upd_ne (Ne.symm n1)]; exact h1, by rw [upd_ne (Ne.symm n2)]; exact h2, h3⟩
theorem StAt.new {H : Hp} {s c p : Addr} {o : HO} (h : StAt H s c) (n : H p = none) : StAt (L2.upd H p o) s c := h.same (same_new n)

/-! ### promises of the drawing defs -/
def spState (K : PySem.W.Frag) : Sp := fun vs H Q _ => ∃ (a : Addr) (ns : List Int), vs = [.ref a] ∧ SqL K H a (ns.map V.int) ∧ ns.length ≤ 63 ∧
  ∀ (H' : Hp) (s c : Addr), Same H H' → H s = none → H c = none → StAt H' s c → Q (.ref s) H'
def spDraw : Sp := fun vs H Q _ => ∃ (s c : Addr) (many : Int), vs = [.ref s, .int many] ∧ StAt H s c ∧ 0 < many ∧ many ≤ 1099511627776 ∧
  ∀ (H' : Hp) (r : Int), 0 ≤ r → r < many → StAt H' s c → Kp s c H H' → Q (.int r) H'
def spPick (K : PySem.W.Frag) : Sp := fun vs H Q _ => ∃ (s c p : Addr) (xs : List V), vs = [.ref s, .ref p] ∧ StAt H s c ∧ SqL K H p xs ∧ p ≠ s ∧ p ≠ c ∧ 0 < xs.length ∧ xs.length ≤ 1000 ∧
  ∀ (H' : Hp) (i : Nat) (x : V), xs[i]? = some x → StAt H' s c → Kp s c H H' → Q x H'
theorem Kp.seq {K : PySem.W.Frag} {s c p : Addr} {H H' : Hp} {xs : List V} (k : Kp s c H H') (h : SqL K H p xs) (n1 : p ≠ s) (n2 : p ≠ c) : SqL K H' p xs := by
  rcases h with (h | ⟨o, h⟩) | h
  · exact .inl (.inl (k _ _ n1 n2 h))
  · exact .inl (.inr ⟨o, k _ _ n1 n2 h⟩)
  · exact .inr h
theorem iteD {p A B : Prop} [Decidable p] (h1 : p → A) (h2 : ¬ p → B) : if decide p = true then A else B := by
  by_cases h : p
  · rw [if_pos (decide_eq_true h)]
    exact h1 h
  · rw [decide_eq_false h, if_neg Bool.false_ne_true]
    exact h2 h
theorem iteDT {p A B : Prop} [Decidable p] (h : p) (h1 : A) : if decide p = true then A else B := by
  rw [if_pos (decide_eq_true h)]
  exact h1
theorem iteDF {p A B : Prop} [Decidable p] (h : ¬ p) (h1 : B) : if decide p = true then A else B := by
  rw [decide_eq_false h, if_neg Bool.false_ne_true]
  exact h1
theorem dcInt {i j : Int} : decide (V.int i = V.int j) = decide (i = j) := by
  by_cases h : i = j
  · rw [h, decide_eq_true rfl, decide_eq_true rfl]
  · rw [decide_eq_false h, decide_eq_false fun z => h (V.int.inj z)]
/-- built-ins that the law's own text does not name anew -/
structure Blt (mg : Str → Option Value) : Prop where
  zInt : mg "int" = none
  zAbs : mg "abs" = none
  zLen : mg "len" = none
end Pk
set_option Elab.async false
set_option linter.all false
set_option maxRecDepth 100000
set_option maxHeartbeats 4000000
namespace Tk
open PySem L2 SX
/-! ### the signs and words of the document, as code points -/
def lettersS : Str := Str.ofString "abcdefghijklmnopqrstuvwxyzABCDEFGHIJKLMNOPQRSTUVWXYZ"
def digitsS : Str := Str.ofString "0123456789"
def hexS : Str := Str.ofString "0123456789abcdef"
abbrev letters : List Nat := lettersS.cps.toList
abbrev digits : List Nat := digitsS.cps.toList
abbrev hexes : List Nat := hexS.cps.toList
def words : List Str := ["accept", "action", "add", "apply", "control", "default", "drop", "else", "emit", "exact", "extract", "go", "header", "if", "key", "mask", "meta", "not", "packet", "parser", "prefix", "program", "reject", "remove", "select", "send", "size", "state", "table", "use", "valid"].map Str.ofString
def longs : List Str := [Str.ofString "==", Str.ofString "->"]
def shorts : List Str := ["{", "}", "(", ")", ":", ";", ",", ".", "=", "<", "+", "-", "&", "|", "^"].map Str.ofString
def inRun (c : Nat) : Bool := decide (c ∈ letters) || decide (c ∈ digits) || decide (c = 95)
def isHexed (p : List Nat) : Bool := decide (p.take 2 = [48, 120])
def allIn (p l : List Nat) : Bool := p.all fun c => decide (c ∈ l)
def isNum (p : List Nat) : Bool :=
  if isHexed p = true then decide (1 ≤ (p.drop 2).length) && decide ((p.drop 2).length ≤ 8) && allIn (p.drop 2) hexes
  else if p.take 1 = [48] then decide (p = [48])
  else if 10 < p.length then false else allIn p digits && decide (NumText.digitsVal p ≤ 4294967295)
def numVal (p : List Nat) : Nat := if isHexed p = true then Hx.hexNum (p.drop 2) else NumText.digitsVal p
def headIn (l p : List Nat) : Bool := match p with
  | [] => false
  | c :: _ => decide (c ∈ l)
/-- a run's or a sign's token: its kind and value -/
def tokOf (p : List Nat) : Option (Str × V) :=
  if headIn letters p = true ∧ p.length ≤ 16 then
    (if S p ∈ words then some (Str.ofString "word", .str (S p)) else some (Str.ofString "name", .str (S p)))
  else if isNum p = true then some (Str.ofString "number", .int (numVal p))
  else if S p ∈ longs ∨ S p ∈ shorts then some (Str.ofString "sign", .str (S p)) else none
/-- how long the run or the sign is that stands at the head -/
def partLen (t : List Nat) : Nat :=
  if headIn (letters ++ digits ++ [95]) t = true then (t.takeWhile inRun).length
  else if S (t.take 2) ∈ longs then 2 else 1
abbrev Tok := Str × V × Nat
def endTok (l : Nat) : Tok := (Str.ofString "end", .str (Str.ofString ""), l)
/-- a token ahead of the others -/
def ahead (kv : Option (Str × V)) (l : Nat) (rest : Except Nat (List Tok)) : Except Nat (List Tok) := match kv with
  | none => .error l
  | some (k, v) => match rest with
    | .error e => .error e
    | .ok ts => .ok ((k, v, l) :: ts)
/-- the tokens of a text that begins in line l; .error: the line of the first part that is none -/
def toks : Nat → Nat → List Nat → Except Nat (List Tok)
  | _, l, [] => .ok [endTok l]
  | 0, l, _ :: _ => .error l
  | f + 1, l, c :: r =>
    if c = 35 then toks f l (r.dropWhile (· ≠ 10))
    else if c = 32 then toks f l r
    else if c = 10 then toks f (l + 1) r
    else ahead (tokOf ((c :: r).take (partLen (c :: r)))) l (toks f l ((c :: r).drop (partLen (c :: r))))
theorem toks_cons (f l c : Nat) (r : List Nat) : toks (f + 1) l (c :: r) = if c = 35 then toks f l (r.dropWhile (· ≠ 10))
    else if c = 32 then toks f l r
    else if c = 10 then toks f (l + 1) r
    else ahead (tokOf ((c :: r).take (partLen (c :: r)))) l (toks f l ((c :: r).drop (partLen (c :: r)))) := by rw [toks]
theorem dropWhile_le {α : Type} (p : α → Bool) : ∀ l : List α, (l.dropWhile p).length ≤ l.length
  | [] => Nat.le_refl _
  | a :: l => by
    rw [List.dropWhile_cons]
    split
    · exact Nat.le_succ_of_le (dropWhile_le p l)
    · exact Nat.le_refl _
theorem inRun_iff (c : Nat) : inRun c = headIn (letters ++ digits ++ [95]) (c :: r) := by
  unfold inRun headIn
  rw [Bool.eq_iff_iff]
  simp [List.mem_append, or_assoc]
theorem partLen_pos (c : Nat) (r : List Nat) : 1 ≤ partLen (c :: r) := by
  unfold partLen
  split
  · rename_i h
    rw [← inRun_iff (r := r)] at h
    rw [List.takeWhile_cons, if_pos h]
    simp
  · split <;> omega
/-- more fuel than signs changes nothing -/
theorem toks_fuel : ∀ (n f : Nat) (l : Nat) (t : List Nat), t.length ≤ n → n ≤ f → toks f l t = toks n l t := by
  intro n
  induction n with
  | zero =>
    intro f l t h1 h2
    cases t with
    | nil => cases f <;> rfl
    | cons c r => simp at h1
  | succ n ih =>
    intro f l t h1 h2
    cases t with
    | nil => cases f <;> rfl
    | cons c r =>
      obtain ⟨g, rfl⟩ : ∃ g, f = g + 1 := ⟨f - 1, by omega⟩
      have hr : r.length ≤ n := by simpa using h1
      have hd : (r.dropWhile (· ≠ 10)).length ≤ n := Nat.le_trans (dropWhile_le _ _) hr
      have hp : ((c :: r).drop (partLen (c :: r))).length ≤ n := by
        have := partLen_pos c r
        rw [List.length_drop, List.length_cons]
        omega
      rw [toks_cons, toks_cons, ih g l _ hd (by omega), ih g l r hr (by omega), ih g (l + 1) r hr (by omega), ih g l _ hp (by omega)]
/-- the tokens of a text that begins in line l -/
def toksT (l : Nat) (t : List Nat) : Except Nat (List Tok) := toks t.length l t
theorem toksT_nil (l : Nat) : toksT l [] = .ok [endTok l] := rfl
theorem toksT_of {f l : Nat} {t : List Nat} (h : t.length ≤ f) : toks f l t = toksT l t := toks_fuel _ f l t (Nat.le_refl _) h
theorem toksT_hash (l : Nat) (r : List Nat) : toksT l (35 :: r) = toksT l (r.dropWhile (· ≠ 10)) := by
  rw [← toksT_of (f := r.length) (dropWhile_le _ _)]
  show toks (r.length + 1) l (35 :: r) = _
  rw [toks_cons, if_pos rfl]
theorem toksT_space (l : Nat) (r : List Nat) : toksT l (32 :: r) = toksT l r := by
  show toks (r.length + 1) l (32 :: r) = _
  rw [toks_cons, if_neg (by decide), if_pos rfl]
  rfl
theorem toksT_nl (l : Nat) (r : List Nat) : toksT l (10 :: r) = toksT (l + 1) r := by
  show toks (r.length + 1) l (10 :: r) = _
  rw [toks_cons, if_neg (by decide), if_neg (by decide), if_pos rfl]
  rfl
theorem toksT_part {l c : Nat} {r : List Nat} (h1 : c ≠ 35) (h2 : c ≠ 32) (h3 : c ≠ 10) :
    toksT l (c :: r) = ahead (tokOf ((c :: r).take (partLen (c :: r)))) l (toksT l ((c :: r).drop (partLen (c :: r)))) := by
  have hp : ((c :: r).drop (partLen (c :: r))).length ≤ r.length := by
    have := partLen_pos c r
    rw [List.length_drop, List.length_cons]
    omega
  show toks (r.length + 1) l (c :: r) = _
  rw [toks_cons, if_neg h1, if_neg h2, if_neg h3, toksT_of hp]
end Tk
set_option Elab.async false
set_option linter.all false
set_option maxRecDepth 100000
set_option maxHeartbeats 4000000
namespace Pk
open PySem PySem.Spec PyProof.Rows L2 SX
/-- a tuple of the written part -/
def TupK (K : PySem.W.Frag) (p : Addr) (xs : List V) : Prop := ∃ (o : Obj) (its : Array Value) (n : Nat), K.lookup p = some o ∧ o.cls = .type "tuple" ∧ o.data = .seq its n ∧ its.size ≤ sizeLine ∧ Vals xs its.toList
theorem TupK.at {K : PySem.W.Frag} {p : Addr} {xs : List V} (h : TupK K p xs) (H : Hp) : SqT K H p xs := .inr h
/-- a def, under its name, that keeps its promise -/
structure Df (P : Program) (w : World) (K : PySem.W.Frag) (mg : Str → Option Value) (base : Heap) (CX : CXT) (k : Nat) (x : Str) (ps : List Str) (sp : Sp) : Prop where
  ex : ∃ (f : Addr) (fd : FuncData), FnOk P w K mg base CX k f fd ps sp ∧ mg x = some (.ref f) ∧ PySem.W.keepIn K (.ref f) = true ∧ Binds K fd ps []
/-- a def of the text as it stands under its name -/
structure AtD (K : PySem.W.Frag) (mg : Str → Option Value) (x : Str) (st : Stmt) (ps : List Str) : Prop where
  ex : ∃ (f : Addr) (fd : FuncData), Fun K x x st f fd ∧ mg x = some (.ref f) ∧ Binds K fd ps []
theorem AtD.df {P : Program} {w : World} {K : PySem.W.Frag} {mg : Str → Option Value} {base : Heap} {CX : CXT} {k : Nat} {x : Str} {st : Stmt} {ps : List Str} {sp : Sp} (A : AtD K mg x st ps)
    (h : ∀ (f : Addr) (fd : FuncData), Fun K x x st f fd → FnOk P w K mg base CX k f fd ps sp) : Df P w K mg base CX k x ps sp := by
  obtain ⟨f, fd, F, g, b⟩ := A.ex
  exact ⟨f, fd, h f fd F, g, F.kp, b⟩
/-! ### values -/
theorem inV_strs {x : Str} : ∀ ws : List Str, inV (.str x) (ws.map V.str) = decide (x ∈ ws)
  | [] => by simp [inV]
  | w :: ws => by
    have ih := inV_strs (x := x) ws
    unfold inV at ih ⊢
    rw [List.map_cons, List.any_cons, ih]
    show ((w == x) || decide (x ∈ ws)) = _
    rw [Bool.eq_iff_iff, Bool.or_eq_true, beq_iff_eq, decide_eq_true_eq, decide_eq_true_eq, List.mem_cons]
    constructor
    · rintro (h | h)
      · exact .inl h.symm
      · exact .inr h
    · rintro (h | h)
      · exact .inl h.symm
      · exact .inr h
theorem inV_int {n : Int} : ∀ ws : List Str, inV (.int n) (ws.map V.str) = false
  | [] => by simp [inV]
  | w :: ws => by
    have ih := inV_int (n := n) ws
    unfold inV at ih ⊢
    rw [List.map_cons, List.any_cons, ih]
    rfl
theorem flat_strs (ws : List Str) : (ws.map V.str).all flatV = true := by
  rw [List.all_eq_true]
  intro x hx
  obtain ⟨y, _, rfl⟩ := List.mem_map.mp hx
  rfl
theorem dcStr {x y : Str} : decide (V.str x = V.str y) = decide (x = y) := by
  by_cases h : x = y
  · rw [h, decide_eq_true rfl, decide_eq_true rfl]
  · rw [decide_eq_false h, decide_eq_false fun z => h (V.str.inj z)]
theorem dcS {a b : List Nat} : decide (S a = S b) = decide (a = b) := by
  by_cases h : a = b
  · rw [h, decide_eq_true rfl, decide_eq_true rfl]
  · rw [decide_eq_false h, decide_eq_false fun z => h (S_inj z)]
/-- s[i:j], s[i:] -/
theorem cut2 (t : List Nat) (i j : Nat) : cutS (S t) (some (i : Int)) (some (j : Int)) = S ((t.drop i).take (j - i)) := by
  have hl : (S t).length = t.length := S_len t
  unfold cutS
  rw [HT.sIx_nat, HT.sIx_nat, hl]
  show S _ = S _
  congr 1
  show ((t.drop (min i t.length)).take (min j t.length - min i t.length)) = _
  by_cases hi : i ≤ t.length
  · rw [Nat.min_eq_left hi]
    by_cases hj : j ≤ t.length
    · rw [Nat.min_eq_left hj]
    · have e : min j t.length = t.length := by omega
      rw [e, List.take_of_length_le (by rw [List.length_drop]; exact Nat.le_refl _), List.take_of_length_le (by rw [List.length_drop]; omega)]
  · have e : min i t.length = t.length := by omega
    rw [e, List.drop_of_length_le (Nat.le_refl _), List.drop_of_length_le (show t.length ≤ i by omega), List.take_nil, List.take_nil]
theorem cut1f (t : List Nat) (i : Nat) : cutS (S t) (some (i : Int)) none = S (t.drop i) := by
  have hl : (S t).length = t.length := S_len t
  unfold cutS
  rw [HT.sIx_nat, HT.sIx_none, hl]
  show S _ = S _
  congr 1
  show ((t.drop (min i t.length)).take (t.length - min i t.length)) = _
  by_cases hi : i ≤ t.length
  · rw [Nat.min_eq_left hi, List.take_of_length_le (by rw [List.length_drop]; exact Nat.le_refl _)]
  · have e : min i t.length = t.length := by omega
    rw [e, List.drop_of_length_le (Nat.le_refl _), List.drop_of_length_le (show t.length ≤ i by omega), List.take_nil]
theorem starts2 (p q : List Nat) : Txt.startswith (S p) (S q) = decide (p.take q.length = q) := by
  unfold Txt.startswith
  rw [S_len, S_len, Nat.zero_add]
  have e : Builtin.Str.subAt (S p) (S q) 0 = decide (p.take q.length = q) := by
    unfold Builtin.Str.subAt
    rw [S_len, Nat.zero_add]
    show (p.toArray.extract 0 q.length == q.toArray) = _
    rw [Bool.eq_iff_iff, beq_iff_eq, decide_eq_true_eq]
    constructor
    · intro h
      have h2 := congrArg Array.toList h
      simpa using h2
    · intro h
      rw [List.extract_toArray]
      simp [h]
  rw [e]
  by_cases h : p.take q.length = q
  · have : q.length ≤ p.length := by
      have := congrArg List.length h
      rw [List.length_take] at this
      omega
    rw [decide_eq_true h, decide_eq_true this]
    rfl
  · rw [decide_eq_false h, Bool.and_false]
theorem takeWhile_self {α : Type} {p : α → Bool} : ∀ {l : List α}, (∀ x ∈ l, p x = true) → l.takeWhile p = l
  | [], _ => rfl
  | a :: l, h => by
    rw [List.takeWhile_cons, if_pos (h a List.mem_cons_self), takeWhile_self fun x hx => h x (List.mem_cons_of_mem _ hx)]
/-- where a sign is found from i on -/
theorem find_sign {t : List Nat} {i : Nat} (c : Nat) (hi : i ≤ t.length) :
    (Txt.find3 (S t) (S [c]) (i : Int) = -1 ∧ (t.drop i).takeWhile (· ≠ c) = t.drop i) ∨
    Txt.find3 (S t) (S [c]) (i : Int) = ((i + ((t.drop i).takeWhile (· ≠ c)).length : Nat) : Int) ∧ i + ((t.drop i).takeWhile (· ≠ c)).length < t.length := by
  have fi : fromIndex (S t).length (i : Int) = i := by
    unfold fromIndex
    rw [if_neg (by omega)]
    omega
  have gd : ∀ v, v < t.length → (S t).cps.getD v 0 = t[v]?.getD 0 := fun v hv => by
    simp [S, Array.getD, hv]
  rcases StrLaws.find3_spec (S t) c (i : Int) with ⟨h1, h2⟩ | ⟨k, h1, h2, h3, h4, h5⟩
  · refine .inl ⟨h1, ?_⟩
    refine takeWhile_self fun x hx => ?_
    obtain ⟨j, hj, rfl⟩ := List.getElem_of_mem hx
    rw [List.length_drop] at hj
    have := h2 (i + j) (by rw [fi]; omega) (by rw [S_len]; omega)
    rw [gd _ (by omega), List.getElem?_eq_getElem (by omega)] at this
    rw [List.getElem_drop]
    exact decide_eq_true this
  · rw [fi] at h2
    rw [S_len] at h3
    have key : ((t.drop i).takeWhile (· ≠ c)).length = k - i := by
      have hk : t.drop i = (t.drop i).take (k - i) ++ t.drop k := by
        have e := (List.take_append_drop (k - i) (t.drop i)).symm
        rw [List.drop_drop, show i + (k - i) = k by omega] at e
        exact e
      rw [hk, List.takeWhile_append_of_pos]
      · rw [List.drop_eq_getElem_cons h3, List.takeWhile_cons]
        have hc : t[k] = c := by
          have := h4
          rw [gd _ h3, List.getElem?_eq_getElem h3] at this
          exact this
        rw [if_neg (by simp [hc]), List.append_nil, List.length_take, List.length_drop]
        omega
      · intro x hx
        obtain ⟨j, hj, rfl⟩ := List.getElem_of_mem hx
        rw [List.length_take, List.length_drop] at hj
        have := h5 (i + j) (by rw [fi]; omega) (by omega)
        rw [gd _ (by omega), List.getElem?_eq_getElem (by omega)] at this
        rw [List.getElem_take, List.getElem_drop]
        exact decide_eq_true this
    refine .inr ⟨?_, ?_⟩
    · rw [h1, key, show i + (k - i) = k by omega]
    · rw [key]
      omega
end Pk
set_option Elab.async false
set_option linter.all false
set_option maxRecDepth 100000
set_option maxHeartbeats 4000000
/-! data in a part G of the heap that stands; no row -/
namespace Pk
open PySem PySem.Spec PyProof.Rows L2
theorem rd_sub {G H : Hp} {a : Addr} {o : HO} (k : Same G H) (h : L2.Rd G a o) : L2.Rd H a o := by
  rcases h with h | ⟨u, h⟩
  · exact .inl (k _ _ h)
  · exact .inr ⟨u, k _ _ h⟩
theorem sqL_sub {K : PySem.W.Frag} {G H : Hp} {a : Addr} {xs : List V} (k : Same G H) (h : SqL K G a xs) : SqL K H a xs := by
  rcases h with h | h
  · exact .inl (rd_sub k h)
  · exact .inr h
theorem sqT_sub {K : PySem.W.Frag} {G H : Hp} {a : Addr} {xs : List V} (k : Same G H) (h : SqT K G a xs) : SqT K H a xs := by
  rcases h with h | h
  · exact .inl (rd_sub k h)
  · exact .inr h
mutual
theorem dp_sub {K : PySem.W.Frag} {G H : Hp} (k : Same G H) : ∀ {d : PyData} {v : V}, Dp K G v d → Dp K H v d
  | _, _, .non => .non
  | _, _, .bl b => .bl b
  | _, _, .int i => .int i
  | _, _, .str x => .str x
  | _, _, .lst h r => .lst (sqL_sub k h) (dpAll_sub k r)
  | _, _, .tup h r => .tup (sqT_sub k h) (dpAll_sub k r)
theorem dpAll_sub {K : PySem.W.Frag} {G H : Hp} (k : Same G H) : ∀ {ds : List PyData} {vs : List V}, DpAll K G vs ds → DpAll K H vs ds
  | _, _, .nil => .nil
  | _, _, .cons h r => .cons (dp_sub k h) (dpAll_sub k r)
end
theorem dpAll_len {K : PySem.W.Frag} {G : Hp} : ∀ {vs : List V} {ds : List PyData}, DpAll K G vs ds → vs.length = ds.length
  | _, _, .nil => rfl
  | _, _, .cons _ r => congrArg (· + 1) (dpAll_len r)
theorem dpAll_at {K : PySem.W.Frag} {G : Hp} : ∀ {vs : List V} {ds : List PyData} {i : Nat} {d : PyData}, DpAll K G vs ds → ds[i]? = some d → ∃ v, vs[i]? = some v ∧ Dp K G v d
  | _, _, _, _, .nil, e => by cases e
  | _, _, 0, _, .cons h _, e => by
    cases e
    exact ⟨_, rfl, h⟩
  | _, _, i + 1, _, .cons _ r, e => dpAll_at (i := i) r e
theorem dpAll_val {K : PySem.W.Frag} {G : Hp} : ∀ {vs : List V} {ds : List PyData} {i : Nat} {v : V}, DpAll K G vs ds → vs[i]? = some v → ∃ d, ds[i]? = some d ∧ Dp K G v d
  | _, _, _, _, .nil, e => by cases e
  | _, _, 0, _, .cons h _, e => by
    cases e
    exact ⟨_, rfl, h⟩
  | _, _, i + 1, _, .cons _ r, e => dpAll_val (i := i) r e
theorem dpAll_app {K : PySem.W.Frag} {G : Hp} : ∀ {vs ws : List V} {ds es : List PyData}, DpAll K G vs ds → DpAll K G ws es → DpAll K G (vs ++ ws) (ds ++ es)
  | _, _, _, _, .nil, h => h
  | _, _, _, _, .cons a r, h => .cons a (dpAll_app r h)
theorem dp_int {K : PySem.W.Frag} {G : Hp} {v : V} {i : Int} (h : Dp K G v (.int i)) : v = .int i := by
  cases h
  rfl
theorem dp_str {K : PySem.W.Frag} {G : Hp} {v : V} {x : Str} (h : Dp K G v (.str x)) : v = .str x := by
  cases h
  rfl
theorem dp_non {K : PySem.W.Frag} {G : Hp} {v : V} (h : Dp K G v .none) : v = .non := by
  cases h
  rfl
theorem dp_tup {K : PySem.W.Frag} {G : Hp} {v : V} {ds : List PyData} (h : Dp K G v (.tuple ds)) : ∃ p xs, v = .ref p ∧ SqT K G p xs ∧ DpAll K G xs ds := by
  cases h with
  | tup a b => exact ⟨_, _, rfl, a, b⟩
theorem dp_lst {K : PySem.W.Frag} {G : Hp} {v : V} {ds : List PyData} (h : Dp K G v (.list ds)) : ∃ p xs, v = .ref p ∧ SqL K G p xs ∧ DpAll K G xs ds := by
  cases h with
  | lst a b => exact ⟨_, _, rfl, a, b⟩
theorem dpAll_strs {K : PySem.W.Frag} {G : Hp} : ∀ {vs : List V} {ns : List Str}, DpAll K G vs (ns.map .str) → vs = ns.map V.str
  | _, [], .nil => rfl
  | _, n :: ns, .cons a r => by rw [dp_str a, dpAll_strs r]; rfl
theorem dpAll_of_ints {K : PySem.W.Frag} {G : Hp} : ∀ (ns : List Int), DpAll K G (ns.map V.int) (ns.map .int)
  | [] => .nil
  | n :: ns => .cons (.int n) (dpAll_of_ints ns)
theorem dpAll_nil {K : PySem.W.Frag} {G : Hp} {vs : List V} (h : DpAll K G vs []) : vs = [] := by
  cases h
  rfl
theorem dpAll_cons {K : PySem.W.Frag} {G : Hp} {vs : List V} {d : PyData} {ds : List PyData} (h : DpAll K G vs (d :: ds)) : ∃ v r, vs = v :: r ∧ Dp K G v d ∧ DpAll K G r ds := by
  cases h with
  | cons a b => exact ⟨_, _, rfl, a, b⟩
/-- G with one more object that stands in H -/
theorem same_upd {G H : Hp} {p : Addr} {o : HO} (k : Same G H) (e : H p = some o) : Same (upd G p o) H := fun b u h => by
  by_cases hb : b = p
  · rw [hb, upd_same] at h
    rw [hb, e, ← h]
  · rw [upd_ne hb] at h
    exact k _ _ h
theorem same_new2 {G : Hp} {p : Addr} {o : HO} (h : G p = none) : Same G (upd G p o) := fun b u e => by
  rw [upd_ne (ne_of_none e h)]
  exact e
/-- what stands in a part that the list at p is not in stands when p changes -/
theorem same_set {G H : Hp} {p : Addr} {o : HO} (k : Same G H) (h : G p = none) : Same G (upd H p o) := fun b u e => by
  rw [upd_ne (ne_of_none e h)]
  exact k _ _ e
/-- the new part -/
structure Gr (G G' H : Hp) : Prop where
  sub : Same G G'
  new : ∀ b, G' b ≠ none → G b ≠ none ∨ H b = none
theorem Gr.refl (G H : Hp) : Gr G G H := ⟨Same.refl _, fun _ h => .inl h⟩
theorem Gr.free {G G' H : Hp} {p : Addr} (g : Gr G G' H) (h1 : G p = none) (h2 : H p ≠ none) : G' p = none := by
  cases e : G' p with
  | none => rfl
  | some o =>
    rcases g.new p (by rw [e]; exact fun z => nomatch z) with h | h
    · exact absurd h1 h
    · exact absurd h h2
theorem Gr.trans {G G1 G2 H H1 : Hp} (a : Gr G G1 H) (b : Gr G1 G2 H1) (k : ∀ b, H1 b = none → H b = none) : Gr G G2 H := ⟨a.sub.trans b.sub, fun p h => by
  rcases b.new p h with h | h
  · exact a.new p h
  · exact .inr (k _ h)⟩
theorem Gr.put {G G1 H : Hp} {p : Addr} {o : HO} (a : Gr G G1 H) (h : H p = none) (h1 : G1 p = none) : Gr G (upd G1 p o) H := ⟨a.sub.trans (same_new2 h1), fun b e => by
  by_cases hb : b = p
  · rw [hb]
    exact .inr h
  · rw [upd_ne hb] at e
    exact a.new b e⟩
theorem same_none {H H' : Hp} (k : Same H H') : ∀ b, H' b = none → H b = none := fun b e => k.free e
/-- program[i] -/
def spAcc (K : PySem.W.Frag) (i : Nat) : Sp := fun vs H Q _ => ∃ (v : V) (G : Hp) (ds : List PyData) (d : PyData), vs = [v] ∧ Same G H ∧ Dp K G v (.tuple ds) ∧ ds[i]? = some d ∧ ∀ x, Dp K G x d → Q x H
/-- the name of a part -/
def nm2 (e : List PyData) : Str := match e[1]? with
  | some (PyData.str n) => n
  | _ => Str.empty
theorem nm2_of {e : List PyData} {n : Str} (h : e[1]? = some (.str n)) : nm2 e = n := by
  unfold nm2
  rw [h]
/-- [part[1] for part in parts] -/
def spNames (K : PySem.W.Frag) : Sp := fun vs H Q _ => ∃ (v : V) (G : Hp) (es : List (List PyData)) (ns : List Str), vs = [v] ∧ Same G H ∧ Dp K G v (.list (es.map .tuple)) ∧ es.length ≤ 1000 ∧ (∀ e ∈ es, ∃ n, e[1]? = some (.str n)) ∧ ns = es.map nm2 ∧
  ∀ H' p, Same H H' → H p = none → H' p = some (.lst (ns.map V.str)) → Q (.ref p) H'
/-- the first part with a name, which there is -/
def spPart (K : PySem.W.Frag) : Sp := fun vs H Q _ => ∃ (v : V) (G : Hp) (es : List (List PyData)) (n : Str) (i : Nat) (e : List PyData), vs = [v, .str n] ∧ Same G H ∧ Dp K G v (.list (es.map .tuple)) ∧ (∀ e ∈ es, ∃ n, e[1]? = some (.str n)) ∧
  es[i]? = some e ∧ e[1]? = some (.str n) ∧ (∀ j e', j < i → es[j]? = some e' → e'[1]? ≠ some (.str n)) ∧ ∀ x, Dp K G x (.tuple e) → Q x H
end Pk
set_option Elab.async false
set_option linter.all false
set_option maxRecDepth 100000
set_option maxHeartbeats 4000000
/-! written data: displays of displays, in one step; no row -/
namespace Pk
open PySem PySem.Spec PyProof.Rows L2
theorem StAt.neS {H : Hp} {s c p : Addr} (h : StAt H s c) (hp : H p = none) : p ≠ s ∧ p ≠ c := by
  obtain ⟨cells, seed, h1, h2, _⟩ := h
  exact ⟨Ne.symm (ne_of_none h1 hp), Ne.symm (ne_of_none h2 hp)⟩
/-- a part G that stands, beside the drawing state -/
structure Sg (G H : Hp) (s c : Addr) : Prop where
  sub : Same G H
  st : StAt H s c
  gs : G s = none
  gc : G c = none
theorem Sg.new {G H : Hp} {s c p : Addr} {o : HO} (C : Sg G H s c) (hp : H p = none) : Sg (upd G p o) (upd H p o) s c :=
  ⟨fun b u h => by
    by_cases hb : b = p
    · rw [hb, upd_same] at h
      rw [hb, upd_same]
      exact h
    · rw [upd_ne hb] at h
      rw [upd_ne hb]
      exact C.sub _ _ h, C.st.new hp, by rw [upd_ne (Ne.symm (C.st.neS hp).1)]; exact C.gs, by rw [upd_ne (Ne.symm (C.st.neS hp).2)]; exact C.gc⟩
theorem same_kp {G H H' : Hp} {s c : Addr} (h : Same G H) (gs : G s = none) (gc : G c = none) (k : Kp s c H H') : Same G H' := fun b o e => k b o (ne_of_none e gs) (ne_of_none e gc) (h b o e)
theorem Sg.kp {G H H' : Hp} {s c : Addr} (C : Sg G H s c) (k : Kp s c H H') (st : StAt H' s c) : Sg G H' s c := ⟨same_kp C.sub C.gs C.gc k, st, C.gs, C.gc⟩
theorem Sg.same {G H H' : Hp} {s c : Addr} (C : Sg G H s c) (k : Same H H') : Sg G H' s c := ⟨C.sub.trans k, C.st.same k, C.gs, C.gc⟩
theorem Sg.set {G H : Hp} {s c p : Addr} {o : HO} (C : Sg G H s c) (h : G p = none) (n : p ≠ s ∧ p ≠ c) : Sg G (upd H p o) s c := ⟨same_set C.sub h, C.st.upd n.1 n.2, C.gs, C.gc⟩
theorem Sg.frz {G H : Hp} {s c p : Addr} {o : HO} (C : Sg G H s c) (h : H p = some o) (n : p ≠ s ∧ p ≠ c) : Sg (upd G p o) H s c := ⟨same_upd C.sub h, C.st, by rw [upd_ne (Ne.symm n.1)]; exact C.gs, by rw [upd_ne (Ne.symm n.2)]; exact C.gc⟩
/-- te gives the data d from the part G0 -/
def DE (K : PySem.W.Frag) (σ : L2.St) (G0 : Hp) (te : TE) (d : PyData) : Prop := ∀ (G H : Hp) (s c : Addr) (Q : VK), Same G0 G → Sg G H s c → (∀ v G' H', Sg G' H' s c → Gr G G' H → Same H H' → Dp K G' v d → Q v H') → te σ H Q
def DEs (K : PySem.W.Frag) (σ : L2.St) (G0 : Hp) (ta : TA) (ds : List PyData) : Prop := ∀ (G H : Hp) (s c : Addr) (Q : List V → Hp → Prop), Same G0 G → Sg G H s c → (∀ vs G' H', Sg G' H' s c → Gr G G' H → Same H H' → DpAll K G' vs ds → Q vs H') → ta σ H Q
section
variable {K : PySem.W.Frag} {σ : L2.St} {G0 : Hp}
theorem DE.int (i : Int) : DE K σ G0 (tC (.int i)) (.int i) := fun G H s c Q _ C q => q _ G H C (Gr.refl _ _) (Same.refl _) (.int i)
theorem DE.str (x : Str) : DE K σ G0 (tC (.str x)) (.str x) := fun G H s c Q _ C q => q _ G H C (Gr.refl _ _) (Same.refl _) (.str x)
theorem DE.non : DE K σ G0 (tC .non) .none := fun G H s c Q _ C q => q _ G H C (Gr.refl _ _) (Same.refl _) .non
theorem DE.var {i : Nat} {v : V} {d : PyData} (h : σ[i]? = some (some v)) (hd : Dp K G0 v d) : DE K σ G0 (tVar i) d := fun G H s c Q g C q => ⟨v, h, q _ G H C (Gr.refl _ _) (Same.refl _) (dp_sub g hd)⟩
theorem DEs.nil : DEs K σ G0 tNil [] := fun G H s c Q _ C q => q _ G H C (Gr.refl _ _) (Same.refl _) .nil
theorem DEs.cons {te : TE} {ta : TA} {d : PyData} {ds : List PyData} (h : DE K σ G0 te d) (r : DEs K σ G0 ta ds) : DEs K σ G0 (tCons te ta) (d :: ds) := fun G H s c Q g C q =>
  h G H s c _ g C fun v G1 H1 C1 s1 t1 hd => r G1 H1 s c _ (g.trans s1.sub) C1 fun vs G2 H2 C2 s2 t2 hds => q _ G2 H2 C2 (s1.trans s2 (same_none t1)) (t1.trans t2) (.cons (dp_sub s2.sub hd) hds)
theorem DE.lst {ta : TA} {ds : List PyData} (h : DEs K σ G0 ta ds) (hl : ds.length ≤ 1000) : DE K σ G0 (tLst ta) (.list ds) := fun G H s c Q g C q =>
  h G H s c _ g C fun vs G1 H1 C1 s1 t1 hds => ⟨Nat.le_of_lt (small1000 (by rw [dpAll_len hds]; exact hl)), fun p hp => q _ _ _ (C1.new hp) (s1.put (t1.free hp) (C1.sub.free hp)) (t1.trans (same_new hp)) (.lst (SqL.of upd_same) (dpAll_sub (same_new2 (C1.sub.free hp)) hds))⟩
theorem DE.tup {ta : TA} {ds : List PyData} (h : DEs K σ G0 ta ds) (hl : ds.length ≤ 1000) : DE K σ G0 (tTup ta) (.tuple ds) := fun G H s c Q g C q =>
  h G H s c _ g C fun vs G1 H1 C1 s1 t1 hds => ⟨Nat.le_of_lt (small1000 (by rw [dpAll_len hds]; exact hl)), fun p hp => q _ _ _ (C1.new hp) (s1.put (t1.free hp) (C1.sub.free hp)) (t1.trans (same_new hp)) (.tup (SqT.of upd_same) (dpAll_sub (same_new2 (C1.sub.free hp)) hds))⟩
/-- x = DATA; rest -/
theorem set_rd {te : TE} {d : PyData} {g : TG} {rest : TS} {D : Ends} {G H : Hp} {s c : Addr} (h : DE K σ G te d) (C : Sg G H s c) (q : ∀ v G' H', Sg G' H' s c → Gr G G' H → Same H H' → Dp K G' v d → g v σ H' (fun σ2 H2 => rest D σ2 H2)) : tSeq (tAsg te g) rest D σ H := by
  unfold tSeq tAsg
  exact h G H s c (fun v H1 => g v σ H1 fun σ2 H2 => rest D σ2 H2) (Same.refl _) C q
theorem setlst_rd {ta : TA} {ds : List PyData} {g : TG} {rest : TS} {D : Ends} {G H : Hp} {s c : Addr} (h : DEs K σ G ta ds) (C : Sg G H s c) (hl : ds.length ≤ 1000)
    (q : ∀ p vs G' H', Sg G' H' s c → Gr G G' H → Same H H' → G' p = some (.lst vs) → DpAll K G' vs ds → g (.ref p) σ H' (fun σ2 H2 => rest D σ2 H2)) : tSeq (tAsg (tLst ta) g) rest D σ H := by
  unfold tSeq tAsg
  exact h G H s c _ (Same.refl _) C fun vs G1 H1 C1 s1 t1 hds => ⟨Nat.le_of_lt (small1000 (by rw [dpAll_len hds]; exact hl)), fun p hp => q _ _ _ _ (C1.new hp) (s1.put (t1.free hp) (C1.sub.free hp)) (t1.trans (same_new hp)) upd_same (dpAll_sub (same_new2 (C1.sub.free hp)) hds)⟩
/-- x = []; rest -/
theorem setnil_rd {g : TG} {rest : TS} {D : Ends} {H : Hp} (q : ∀ p H', H p = none → Same H H' → H' p = some (.lst []) → g (.ref p) σ H' (fun σ2 H2 => rest D σ2 H2)) : tSeq (tAsg (tLst tNil) g) rest D σ H := by
  unfold tSeq tAsg
  exact ⟨Nat.zero_le _, fun p hp => q p _ hp (same_new hp) upd_same⟩
/-- x = e; rest, the rest by its name -/
theorem setany_rd {te : TE} {g : TG} {rest : TS} {D : Ends} {H : Hp} (q : te σ H fun x H1 => g x σ H1 fun σ2 H2 => rest D σ2 H2) : tSeq (tAsg te g) rest D σ H := q
/-- return DATA -/
theorem ret_rd {te : TE} {d : PyData} {D : Ends} {G H : Hp} {s c : Addr} (h : DE K σ G te d) (C : Sg G H s c) (q : ∀ v G' H', Sg G' H' s c → Gr G G' H → Same H H' → Dp K G' v d → D.rt v H') : tRet te D σ H := by
  unfold tRet
  exact h G H s c D.rt (Same.refl _) C q
theorem setpick_rd {ta : TA} {ds : List PyData} {g : TG} {rest : TS} {D : Ends} {G H : Hp} {s c : Addr} (h0 : σ[0]? = some (some (.ref s))) (h : DEs K σ G ta ds) (C : Sg G H s c) (hl : 0 < ds.length) (hl2 : ds.length ≤ 1000)
    (q : ∀ (x : V) (G' H' : Hp) (i : Nat) (d : PyData), Sg G' H' s c → Gr G G' H → Kp s c H H' → ds[i]? = some d → Dp K G' x d → g x σ H' fun σ2 H2 => rest D σ2 H2) :
    tSeq (tAsg (tCall (spPick K) [] E0 (tCons (tVar 0) (tCons (tLst ta) tNil))) g) rest D σ H := by
  refine ⟨_, h0, ?_⟩
  refine h G H s c _ (Same.refl _) C fun vs G1 H1 C1 s1 t1 hds => ?_
  have hlen := dpAll_len hds
  refine ⟨Nat.le_of_lt (small1000 (by omega)), fun p hp => ?_⟩
  have n1 := C1.st.neS hp
  refine ⟨s, c, p, vs, rfl, C1.st.new hp, SqL.of upd_same, n1.1, n1.2, by omega, by omega, fun H2 i x hx st2 kp2 => ?_⟩
  obtain ⟨d, ed, hd2⟩ := dpAll_val hds hx
  exact q x G1 H2 i d ((C1.same (same_new hp)).kp kp2 st2) s1 (((Kp.same t1).trans (Kp.new hp)).trans kp2) ed hd2
end
/-- items of an entry or of a list of ints by their values -/
theorem pick_ints {ns : List Int} {i : Nat} {x : V} (h : (ns.map V.int)[i]? = some x) : ∃ n, n ∈ ns ∧ x = .int n := by
  rw [List.getElem?_map] at h
  cases e : ns[i]? with
  | none => rw [e] at h; cases h
  | some n => rw [e] at h; exact ⟨n, List.mem_of_getElem? e, (Option.some.inj h).symm⟩
end Pk
set_option Elab.async false
set_option linter.all false
set_option maxRecDepth 100000
set_option maxHeartbeats 4000000
/-! data that stands in the heap itself (no constants of the module, nothing frozen): Dr; no row -/
namespace Pk
open PySem PySem.Spec PyProof.Rows L2
mutual
inductive Dr (H : Hp) : V → PyData → Prop
  | non : Dr H .non .none
  | bl (b : Bool) : Dr H (.bl b) (.bool b)
  | int (i : Int) : Dr H (.int i) (.int i)
  | str (x : Str) : Dr H (.str x) (.str x)
  | lst {a : Addr} {xs : List V} {ds : List PyData} : H a = some (.lst xs) → DrAll H xs ds → Dr H (.ref a) (.list ds)
  | tup {a : Addr} {xs : List V} {ds : List PyData} : H a = some (.tup xs) → DrAll H xs ds → Dr H (.ref a) (.tuple ds)
inductive DrAll (H : Hp) : List V → List PyData → Prop
  | nil : DrAll H [] []
  | cons {v : V} {vs : List V} {d : PyData} {ds : List PyData} : Dr H v d → DrAll H vs ds → DrAll H (v :: vs) (d :: ds)
end
theorem sqT_subz {K : PySem.W.Frag} {G H : Hp} {a : Addr} {xs : List V} (k : Same G H) (h : G a = some (.tup xs)) : SqT K H a xs := SqT.of (k _ _ h)
theorem sqL_subz {K : PySem.W.Frag} {G H : Hp} {a : Addr} {xs : List V} (k : Same G H) (h : G a = some (.lst xs)) : SqL K H a xs := SqL.of (k _ _ h)
mutual
theorem dr_dp {K : PySem.W.Frag} {G : Hp} : ∀ {d : PyData} {v : V}, Dr G v d → Dp K G v d
  | _, _, .non => .non
  | _, _, .bl b => .bl b
  | _, _, .int i => .int i
  | _, _, .str x => .str x
  | _, _, .lst h r => .lst (SqL.of h) (drAll_dp r)
  | _, _, .tup h r => .tup (SqT.of h) (drAll_dp r)
theorem drAll_dp {K : PySem.W.Frag} {G : Hp} : ∀ {ds : List PyData} {vs : List V}, DrAll G vs ds → DpAll K G vs ds
  | _, _, .nil => .nil
  | _, _, .cons h r => .cons (dr_dp h) (drAll_dp r)
end
mutual
theorem dr_sub {G H : Hp} (k : Same G H) : ∀ {d : PyData} {v : V}, Dr G v d → Dr H v d
  | _, _, .non => .non
  | _, _, .bl b => .bl b
  | _, _, .int i => .int i
  | _, _, .str x => .str x
  | _, _, .lst h r => .lst (k _ _ h) (drAll_sub k r)
  | _, _, .tup h r => .tup (k _ _ h) (drAll_sub k r)
theorem drAll_sub {G H : Hp} (k : Same G H) : ∀ {ds : List PyData} {vs : List V}, DrAll G vs ds → DrAll H vs ds
  | _, _, .nil => .nil
  | _, _, .cons h r => .cons (dr_sub k h) (drAll_sub k r)
end
theorem drAll_len {G : Hp} : ∀ {vs : List V} {ds : List PyData}, DrAll G vs ds → vs.length = ds.length
  | _, _, .nil => rfl
  | _, _, .cons _ r => congrArg (· + 1) (drAll_len r)
theorem drAll_at {G : Hp} : ∀ {vs : List V} {ds : List PyData} {i : Nat} {d : PyData}, DrAll G vs ds → ds[i]? = some d → ∃ v, vs[i]? = some v ∧ Dr G v d
  | _, _, _, _, .nil, e => by cases e
  | _, _, 0, _, .cons h _, e => by
    cases e
    exact ⟨_, rfl, h⟩
  | _, _, i + 1, _, .cons _ r, e => drAll_at (i := i) r e
theorem drAll_val {G : Hp} : ∀ {vs : List V} {ds : List PyData} {i : Nat} {v : V}, DrAll G vs ds → vs[i]? = some v → ∃ d, ds[i]? = some d ∧ Dr G v d
  | _, _, _, _, .nil, e => by cases e
  | _, _, 0, _, .cons h _, e => by
    cases e
    exact ⟨_, rfl, h⟩
  | _, _, i + 1, _, .cons _ r, e => drAll_val (i := i) r e
theorem drAll_app {G : Hp} : ∀ {vs ws : List V} {ds es : List PyData}, DrAll G vs ds → DrAll G ws es → DrAll G (vs ++ ws) (ds ++ es)
  | _, _, _, _, .nil, h => h
  | _, _, _, _, .cons a r, h => .cons a (drAll_app r h)
theorem dr_int {G : Hp} {v : V} {i : Int} (h : Dr G v (.int i)) : v = .int i := by
  cases h
  rfl
theorem dr_str {G : Hp} {v : V} {x : Str} (h : Dr G v (.str x)) : v = .str x := by
  cases h
  rfl
theorem dr_non {G : Hp} {v : V} (h : Dr G v .none) : v = .non := by
  cases h
  rfl
theorem dr_tup {G : Hp} {v : V} {ds : List PyData} (h : Dr G v (.tuple ds)) : ∃ p xs, v = .ref p ∧ G p = some (.tup xs) ∧ DrAll G xs ds := by
  cases h with
  | tup a b => exact ⟨_, _, rfl, a, b⟩
theorem dr_lst {G : Hp} {v : V} {ds : List PyData} (h : Dr G v (.list ds)) : ∃ p xs, v = .ref p ∧ G p = some (.lst xs) ∧ DrAll G xs ds := by
  cases h with
  | lst a b => exact ⟨_, _, rfl, a, b⟩
theorem drAll_strs {G : Hp} : ∀ {vs : List V} {ns : List Str}, DrAll G vs (ns.map .str) → vs = ns.map V.str
  | _, [], .nil => rfl
  | _, n :: ns, .cons a r => by rw [dr_str a, drAll_strs r]; rfl
theorem drAll_of_ints {G : Hp} : ∀ (ns : List Int), DrAll G (ns.map V.int) (ns.map .int)
  | [] => .nil
  | n :: ns => .cons (.int n) (drAll_of_ints ns)
theorem drAll_nil {G : Hp} {vs : List V} (h : DrAll G vs []) : vs = [] := by
  cases h
  rfl
theorem drAll_cons {G : Hp} {vs : List V} {d : PyData} {ds : List PyData} (h : DrAll G vs (d :: ds)) : ∃ v r, vs = v :: r ∧ Dr G v d ∧ DrAll G r ds := by
  cases h with
  | cons a b => exact ⟨_, _, rfl, a, b⟩
/-- te gives the data d from the part G0 -/
def ZE (σ : L2.St) (G0 : Hp) (te : TE) (d : PyData) : Prop := ∀ (G H : Hp) (s c : Addr) (Q : VK), Same G0 G → Sg G H s c → (∀ v G' H', Sg G' H' s c → Gr G G' H → Same H H' → Dr G' v d → Q v H') → te σ H Q
def ZEs (σ : L2.St) (G0 : Hp) (ta : TA) (ds : List PyData) : Prop := ∀ (G H : Hp) (s c : Addr) (Q : List V → Hp → Prop), Same G0 G → Sg G H s c → (∀ vs G' H', Sg G' H' s c → Gr G G' H → Same H H' → DrAll G' vs ds → Q vs H') → ta σ H Q
section
variable {σ : L2.St} {G0 : Hp}
theorem ZE.int (i : Int) : ZE σ G0 (tC (.int i)) (.int i) := fun G H s c Q _ C q => q _ G H C (Gr.refl _ _) (Same.refl _) (.int i)
theorem ZE.str (x : Str) : ZE σ G0 (tC (.str x)) (.str x) := fun G H s c Q _ C q => q _ G H C (Gr.refl _ _) (Same.refl _) (.str x)
theorem ZE.non : ZE σ G0 (tC .non) .none := fun G H s c Q _ C q => q _ G H C (Gr.refl _ _) (Same.refl _) .non
theorem ZE.var {i : Nat} {v : V} {d : PyData} (h : σ[i]? = some (some v)) (hd : Dr G0 v d) : ZE σ G0 (tVar i) d := fun G H s c Q g C q => ⟨v, h, q _ G H C (Gr.refl _ _) (Same.refl _) (dr_sub g hd)⟩
theorem ZEs.nil : ZEs σ G0 tNil [] := fun G H s c Q _ C q => q _ G H C (Gr.refl _ _) (Same.refl _) .nil
theorem ZEs.cons {te : TE} {ta : TA} {d : PyData} {ds : List PyData} (h : ZE σ G0 te d) (r : ZEs σ G0 ta ds) : ZEs σ G0 (tCons te ta) (d :: ds) := fun G H s c Q g C q =>
  h G H s c _ g C fun v G1 H1 C1 s1 t1 hd => r G1 H1 s c _ (g.trans s1.sub) C1 fun vs G2 H2 C2 s2 t2 hds => q _ G2 H2 C2 (s1.trans s2 (same_none t1)) (t1.trans t2) (.cons (dr_sub s2.sub hd) hds)
theorem ZE.lst {ta : TA} {ds : List PyData} (h : ZEs σ G0 ta ds) (hl : ds.length ≤ 1000) : ZE σ G0 (tLst ta) (.list ds) := fun G H s c Q g C q =>
  h G H s c _ g C fun vs G1 H1 C1 s1 t1 hds => ⟨Nat.le_of_lt (small1000 (by rw [drAll_len hds]; exact hl)), fun p hp => q _ _ _ (C1.new hp) (s1.put (t1.free hp) (C1.sub.free hp)) (t1.trans (same_new hp)) (.lst upd_same (drAll_sub (same_new2 (C1.sub.free hp)) hds))⟩
theorem ZE.tup {ta : TA} {ds : List PyData} (h : ZEs σ G0 ta ds) (hl : ds.length ≤ 1000) : ZE σ G0 (tTup ta) (.tuple ds) := fun G H s c Q g C q =>
  h G H s c _ g C fun vs G1 H1 C1 s1 t1 hds => ⟨Nat.le_of_lt (small1000 (by rw [drAll_len hds]; exact hl)), fun p hp => q _ _ _ (C1.new hp) (s1.put (t1.free hp) (C1.sub.free hp)) (t1.trans (same_new hp)) (.tup upd_same (drAll_sub (same_new2 (C1.sub.free hp)) hds))⟩
/-- x = DATA; rest -/
theorem set_rz {te : TE} {d : PyData} {g : TG} {rest : TS} {D : Ends} {G H : Hp} {s c : Addr} (h : ZE σ G te d) (C : Sg G H s c) (q : ∀ v G' H', Sg G' H' s c → Gr G G' H → Same H H' → Dr G' v d → g v σ H' (fun σ2 H2 => rest D σ2 H2)) : tSeq (tAsg te g) rest D σ H := by
  unfold tSeq tAsg
  exact h G H s c (fun v H1 => g v σ H1 fun σ2 H2 => rest D σ2 H2) (Same.refl _) C q
theorem setlst_rz {ta : TA} {ds : List PyData} {g : TG} {rest : TS} {D : Ends} {G H : Hp} {s c : Addr} (h : ZEs σ G ta ds) (C : Sg G H s c) (hl : ds.length ≤ 1000)
    (q : ∀ p vs G' H', Sg G' H' s c → Gr G G' H → Same H H' → G' p = some (.lst vs) → DrAll G' vs ds → g (.ref p) σ H' (fun σ2 H2 => rest D σ2 H2)) : tSeq (tAsg (tLst ta) g) rest D σ H := by
  unfold tSeq tAsg
  exact h G H s c _ (Same.refl _) C fun vs G1 H1 C1 s1 t1 hds => ⟨Nat.le_of_lt (small1000 (by rw [drAll_len hds]; exact hl)), fun p hp => q _ _ _ _ (C1.new hp) (s1.put (t1.free hp) (C1.sub.free hp)) (t1.trans (same_new hp)) upd_same (drAll_sub (same_new2 (C1.sub.free hp)) hds)⟩
/-- return DATA -/
theorem ret_rz {te : TE} {d : PyData} {D : Ends} {G H : Hp} {s c : Addr} (h : ZE σ G te d) (C : Sg G H s c) (q : ∀ v G' H', Sg G' H' s c → Gr G G' H → Same H H' → Dr G' v d → D.rt v H') : tRet te D σ H := by
  unfold tRet
  exact h G H s c D.rt (Same.refl _) C q
theorem setpick_rz {K : PySem.W.Frag} {ta : TA} {ds : List PyData} {g : TG} {rest : TS} {D : Ends} {G H : Hp} {s c : Addr} (h0 : σ[0]? = some (some (.ref s))) (h : ZEs σ G ta ds) (C : Sg G H s c) (hl : 0 < ds.length) (hl2 : ds.length ≤ 1000)
    (q : ∀ (x : V) (G' H' : Hp) (i : Nat) (d : PyData), Sg G' H' s c → Gr G G' H → Kp s c H H' → ds[i]? = some d → Dr G' x d → g x σ H' fun σ2 H2 => rest D σ2 H2) :
    tSeq (tAsg (tCall (spPick K) [] E0 (tCons (tVar 0) (tCons (tLst ta) tNil))) g) rest D σ H := by
  refine ⟨_, h0, ?_⟩
  refine h G H s c _ (Same.refl _) C fun vs G1 H1 C1 s1 t1 hds => ?_
  have hlen := drAll_len hds
  refine ⟨Nat.le_of_lt (small1000 (by omega)), fun p hp => ?_⟩
  have n1 := C1.st.neS hp
  refine ⟨s, c, p, vs, rfl, C1.st.new hp, SqL.of upd_same, n1.1, n1.2, by omega, by omega, fun H2 i x hx st2 kp2 => ?_⟩
  obtain ⟨d, ed, hd2⟩ := drAll_val hds hx
  exact q x G1 H2 i d ((C1.same (same_new hp)).kp kp2 st2) s1 (((Kp.same t1).trans (Kp.new hp)).trans kp2) ed hd2
end
end Pk
set_option Elab.async false
set_option linter.all false
set_option maxRecDepth 100000
set_option maxHeartbeats 4000000
/-! the drawn programs, as plain values; no row -/
namespace Pk
open PySem PySem.Spec PyProof.Rows L2 SX GxR Tk
/-- a drawn name with the number k in it -/
def runs : List Nat := [97, 90, 95, 113]
def NmK (k : Nat) (x : Str) : Prop := ∃ a r1 r2, x = S (a :: (r1 ++ (48 + k) :: r2)) ∧ a ∈ letters ∧ (∀ c ∈ r1, c ∈ runs) ∧ (∀ c ∈ r2, c ∈ runs) ∧ r1.length ≤ 6 ∧ r2.length ≤ 6
/-- the first digit of a text -/
def isDg (c : Nat) : Bool := decide (48 ≤ c ∧ c ≤ 57)
def digOf (x : Str) : Option Nat := x.cps.toList.find? isDg
theorem digOf_nm {k : Nat} {x : Str} (h : NmK k x) (hk : k < 10) : digOf x = some (48 + k) := by
  obtain ⟨a, r1, r2, rfl, ha, h1, hz⟩ := h
  clear hz
  have na : ¬ (isDg a = true) := by
    have : ∀ a ∈ letters, ¬ (isDg a = true) := by decide +kernel
    exact this a ha
  have nr : ∀ c ∈ runs, ¬ (isDg c = true) := by decide
  show (a :: (r1 ++ (48 + k) :: r2)).find? isDg = _
  rw [List.find?_cons_of_neg na]
  induction r1 with
  | nil => rw [List.nil_append, List.find?_cons_of_pos (by exact decide_eq_true (by omega))]
  | cons c r ih =>
    rw [List.cons_append, List.find?_cons_of_neg (nr c (h1 c List.mem_cons_self))]
    exact ih (fun x hx => h1 x (List.mem_cons_of_mem _ hx))
theorem nm_inj {k j : Nat} {x y : Str} (h : NmK k x) (g : NmK j y) (hk : k < 10) (hj : j < 10) (e : x = y) : k = j := by
  have h1 := digOf_nm h hk
  rw [e, digOf_nm g hj] at h1
  have := Option.some.inj h1
  omega
theorem nm_len {k : Nat} {x : Str} (h : NmK k x) : 1 ≤ x.length ∧ x.length ≤ 14 := by
  obtain ⟨a, r1, r2, rfl, ha, h1, h2, h3, h4⟩ := h
  rw [S_len, List.length_cons, List.length_append, List.length_cons]
  omega
abbrev Fl := Str × Nat
abbrev Hd := Str × List Fl
abbrev Rf := Str × Str × Nat
def flL (f : Fl) : List PyData := [.str f.1, .int (f.2 : Nat)]
def flsD (fs : List Fl) : PyData := .list (fs.map fun f => .tuple (flL f))
def hdL (h : Hd) : List PyData := [.str "header", .str h.1, flsD h.2]
def hdsD (hs : List Hd) : PyData := .list (hs.map fun h => .tuple (hdL h))
def rfL (r : Rf) : List PyData := [.str r.1, .str r.2.1, .int (r.2.2 : Nat)]
def rfsD (rs : List Rf) : PyData := .list (rs.map fun r => .tuple (rfL r))
def total (fs : List Fl) : Nat := (fs.map (·.2)).sum
/-- fields in the making: names by their places, widths -/
def WfG (fs : List Fl) : Prop := ∀ j f, fs[j]? = some f → (j < 10 → NmK j f.1) ∧ f.1.length ≤ 20 ∧ 1 ≤ f.2 ∧ f.2 ≤ 32
def WfF (fs : List Fl) : Prop := 1 ≤ fs.length ∧ fs.length ≤ 8 ∧ WfG fs ∧ total fs % 8 = 0 ∧ total fs ≤ 128
def WfH (hs : List Hd) : Prop := ∀ i h, hs[i]? = some h → NmK i h.1 ∧ WfF h.2
def WfM (m : List Fl) : Prop := m.length ≤ 2 ∧ WfG m
theorem WfG.app {fs : List Fl} {f : Fl} (h : WfG fs) (hn : fs.length < 10 → NmK fs.length f.1) (hl : f.1.length ≤ 20) (h1 : 1 ≤ f.2) (h2 : f.2 ≤ 32) : WfG (fs ++ [f]) := by
  intro j g e
  rw [List.getElem?_append] at e
  by_cases hj : j < fs.length
  · rw [if_pos hj] at e
    exact h j g e
  · rw [if_neg hj] at e
    have : j - fs.length = 0 := by
      rcases Nat.eq_zero_or_pos (j - fs.length) with h | h
      · exact h
      · rw [List.getElem?_eq_none (by show 1 ≤ _; omega)] at e
        cases e
    rw [this] at e
    cases e
    obtain rfl : j = fs.length := by omega
    exact ⟨hn, hl, h1, h2⟩
theorem total_app (fs : List Fl) (f : Fl) : total (fs ++ [f]) = total fs + f.2 := by
  unfold total
  rw [List.map_append, List.sum_append]
  rfl
theorem len_total : ∀ {fs : List Fl}, WfG fs → fs.length ≤ total fs := by
  have key : ∀ (fs : List Fl), (∀ f ∈ fs, 1 ≤ f.2) → fs.length ≤ total fs := by
    intro fs
    induction fs with
    | nil => intro _; exact Nat.zero_le _
    | cons f r ih =>
      intro h
      have h1 := h f List.mem_cons_self
      have h2 := ih fun g hg => h g (List.mem_cons_of_mem _ hg)
      show r.length + 1 ≤ f.2 + total r
      omega
  intro fs h
  refine key fs fun f hf => ?_
  obtain ⟨j, e⟩ := List.mem_iff_getElem?.mp hf
  exact (h j f e).2.2.1
/-- what an operand, an operation, .. may name -/
def refsOf (hs : List Hd) (m : List Fl) : List Rf := (Str.ofString "packet", Str.ofString "port", 3) :: (hs.flatMap fun h => h.2.map fun f => (h.1, f.1, f.2)) ++ m.map fun f => (Str.ofString "meta", f.1, f.2)
end Pk
set_option Elab.async false
set_option linter.all false
set_option maxRecDepth 100000
/-! bits of masks and prefixes; no row -/
namespace Pk
open PySem
theorem natMask (m n : Nat) : m &&& n = m ↔ m ||| n = n := by
  constructor
  · intro h
    refine Nat.eq_of_testBit_eq fun i => ?_
    have := congrArg (fun z => z.testBit i) h
    simp only [Nat.testBit_and] at this
    rw [Nat.testBit_or]
    revert this
    cases m.testBit i <;> cases n.testBit i <;> simp
  · intro h
    refine Nat.eq_of_testBit_eq fun i => ?_
    have := congrArg (fun z => z.testBit i) h
    simp only [Nat.testBit_or] at this
    rw [Nat.testBit_and]
    revert this
    cases m.testBit i <;> cases n.testBit i <;> simp
theorem natPrefix {v w s : Nat} (hv : v < 2 ^ w) (hs : s ≤ w) : v &&& ((2 ^ s - 1) * 2 ^ (w - s)) = v ↔ v % 2 ^ (w - s) = 0 := by
  have tb : ∀ i, ((2 ^ s - 1) * 2 ^ (w - s)).testBit i = (decide (i ≥ w - s) && decide (i - (w - s) < s)) := fun i => by
    rw [Nat.mul_comm, Nat.testBit_two_pow_mul, Nat.testBit_two_pow_sub_one]
  constructor
  · intro h
    refine Nat.eq_of_testBit_eq fun i => ?_
    have := congrArg (fun z => z.testBit i) h
    simp only [Nat.testBit_and, tb] at this
    rw [Nat.testBit_mod_two_pow, Nat.zero_testBit]
    by_cases hi : i < w - s
    · rw [decide_eq_false (by omega : ¬ i ≥ w - s)] at this
      simp only [Bool.false_and, Bool.and_false] at this
      rw [← this, Bool.and_false]
    · rw [decide_eq_false hi, Bool.false_and]
  · intro h
    refine Nat.eq_of_testBit_eq fun i => ?_
    rw [Nat.testBit_and, tb]
    cases e : v.testBit i with
    | false => rfl
    | true =>
      have h1 : i < w := by
        rcases Nat.lt_or_ge i w with h' | h'
        · exact h'
        · rw [Nat.testBit_lt_two_pow (Nat.lt_of_lt_of_le hv (Nat.pow_le_pow_right (by decide) h'))] at e
          cases e
      have h2 : i ≥ w - s := by
        rcases Nat.lt_or_ge i (w - s) with h' | h'
        · have := congrArg (fun z => z.testBit i) h
          simp only [Nat.testBit_mod_two_pow, Nat.zero_testBit, decide_eq_true h', e] at this
          cases this
        · exact h'
      rw [decide_eq_true h2, decide_eq_true (by omega : i - (w - s) < s)]
      rfl
theorem bitNot_eq (x : Int) : Builtin.bitNot x = -x - 1 := by
  unfold Builtin.bitNot
  omega
theorem bitAnd_nat {a b : Int} (ha : 0 ≤ a) (hb : 0 ≤ b) : Builtin.bitAnd a b = ((a.toNat &&& b.toNat : Nat) : Int) := by
  unfold Builtin.bitAnd
  rw [decide_eq_true ha, decide_eq_true hb]
theorem bitOr_nat {a b : Int} (ha : 0 ≤ a) (hb : 0 ≤ b) : Builtin.bitOr a b = ((a.toNat ||| b.toNat : Nat) : Int) := by
  have e1 : ¬ 0 ≤ Builtin.bitNot a := by rw [bitNot_eq]; omega
  have e2 : ¬ 0 ≤ Builtin.bitNot b := by rw [bitNot_eq]; omega
  have n1 : Builtin.bitNot (Builtin.bitNot a) = a := by rw [bitNot_eq, bitNot_eq]; omega
  have n2 : Builtin.bitNot (Builtin.bitNot b) = b := by rw [bitNot_eq, bitNot_eq]; omega
  unfold Builtin.bitOr Builtin.bitAnd
  rw [decide_eq_false e1, decide_eq_false e2]
  dsimp only
  rw [n1, n2, bitNot_eq, bitNot_eq]
  omega
theorem mask_iff {a b : Int} (ha : 0 ≤ a) (hb : 0 ≤ b) : Builtin.bitAnd a b = a ↔ Builtin.bitOr a b = b := by
  rw [bitAnd_nat ha hb, bitOr_nat ha hb]
  have := natMask a.toNat b.toNat
  omega
theorem prefix_iff {v : Int} {w s : Nat} (h0 : 0 ≤ v) (h1 : v < 2 ^ w) (hs : s ≤ w) : Builtin.bitAnd v ((2 ^ s - 1) * 2 ^ (w - s)) = v ↔ v % 2 ^ (w - s) = 0 := by
  have hp : (0 : Int) ≤ (2 ^ s - 1) * 2 ^ (w - s) := by
    have : (1 : Int) ≤ 2 ^ s := by exact_mod_cast Nat.one_le_two_pow
    exact Int.mul_nonneg (by omega) (Int.le_of_lt (Int.pow_pos (by decide)))
  have hv : v.toNat < 2 ^ w := by
    have : ((v.toNat : Nat) : Int) < ((2 ^ w : Nat) : Int) := by
      rw [Int.toNat_of_nonneg h0]
      push_cast
      exact h1
    exact_mod_cast this
  have ev : ((v.toNat : Nat) : Int) = v := Int.toNat_of_nonneg h0
  have em : ((2 ^ s - 1) * 2 ^ (w - s) : Int).toNat = (2 ^ s - 1) * 2 ^ (w - s) := by
    have h1 : ((2 : Int) ^ s - 1) = ((2 ^ s - 1 : Nat) : Int) := by
      have := Nat.one_le_two_pow (n := s)
      push_cast [this]
      rfl
    have h2 : (2 : Int) ^ (w - s) = ((2 ^ (w - s) : Nat) : Int) := by push_cast; rfl
    rw [h1, h2, ← Int.natCast_mul, Int.toNat_natCast]
  rw [bitAnd_nat h0 hp, em]
  have key := natPrefix hv hs
  have e2 : v % 2 ^ (w - s) = ((v.toNat % 2 ^ (w - s) : Nat) : Int) := by
    push_cast
    rw [ev]
  rw [e2]
  omega
end Pk
set_option Elab.async false
set_option linter.all false
set_option maxRecDepth 100000
set_option maxHeartbeats 4000000
/-! the drawn programs' parsers, as plain values; no row -/
namespace Pk
open PySem PySem.Spec PyProof.Rows L2 SX GxR Tk
abbrev Rw := Int × Option Int × Str
inductive Nx
  | go (t : Str)
  | sel (o n : Str) (rows : List Rw) (other : Str)
structure Sa where
  name : Str
  taken : Option Str
  nx : Nx
def opI : Option Int → PyData
  | none => .none
  | some n => .int n
def opS : Option Str → PyData
  | none => .none
  | some n => .str n
def rwL (r : Rw) : List PyData := [.int r.1, opI r.2.1, .str r.2.2]
def nxL : Nx → List PyData
  | .go t => [.str "go", .str t]
  | .sel o n rows other => [.str "select", .tuple [.str o, .str n], .list (rows.map fun r => .tuple (rwL r)), .str other]
def saL (a : Sa) : List PyData := [.str "state", .str a.name, opS a.taken, .tuple (nxL a.nx)]
def sasD (l : List Sa) : PyData := .list (l.map fun a => .tuple (saL a))
/-- a goal of a state: an end, or one of these names -/
def Goal (ns : List Str) (g : Str) : Prop := g = Str.ofString "accept" ∨ g = Str.ofString "reject" ∨ g ∈ ns
def RwOk (w : Nat) (ns : List Str) (r : Rw) : Prop := 0 ≤ r.1 ∧ r.1 < 4 ∧ r.1 < 2 ^ w ∧ (∀ m, r.2.1 = some m → 0 ≤ m ∧ m < 2 ^ w ∧ Builtin.bitOr r.1 m = m) ∧ Goal ns r.2.2
def NxOk (rs : List Rf) (ns : List Str) : Nx → Prop
  | .go t => Goal ns t
  | .sel o n rows other => (∃ w, (o, n, w) ∈ rs ∧ ∀ r ∈ rows, RwOk w ns r) ∧ rows.length ≤ 8 ∧ Goal ns other
theorem or_lt {a b : Int} {w : Nat} (ha : 0 ≤ a) (hb : 0 ≤ b) (ha2 : a < 2 ^ w) (hb2 : b < 2 ^ w) : 0 ≤ Builtin.bitOr a b ∧ Builtin.bitOr a b < 2 ^ w ∧ Builtin.bitOr a (Builtin.bitOr a b) = Builtin.bitOr a b := by
  have e : ((2 : Int) ^ w) = ((2 ^ w : Nat) : Int) := by push_cast; rfl
  rw [e] at ha2 hb2 ⊢
  have h1 : a.toNat < 2 ^ w := by omega
  have h2 : b.toNat < 2 ^ w := by omega
  have h3 := Nat.or_lt_two_pow h1 h2
  have h4 : (0 : Int) ≤ ((a.toNat ||| b.toNat : Nat) : Int) := Int.natCast_nonneg _
  rw [bitOr_nat ha hb]
  refine ⟨h4, by omega, ?_⟩
  rw [bitOr_nat ha h4, Int.toNat_natCast, ← Nat.or_assoc, Nat.or_self]
end Pk
set_option Elab.async false
set_option linter.all false
set_option maxRecDepth 100000
set_option maxHeartbeats 4000000
/-! the drawn programs' actions, as plain values; no row -/
namespace Pk
open PySem PySem.Spec PyProof.Rows L2 SX GxR Tk
inductive Od
  | num (n : Int)
  | par (x : Str)
  | fld (o n : Str)
inductive Ex
  | one (a : Od)
  | two (op : Str) (a b : Od)
inductive Op
  | set (o n : Str) (e : Ex)
  | drp
  | add (h : Str)
  | rem (h : Str)
  | snd (e : Ex)
structure Ac where
  name : Str
  ps : List Fl
  ops : List Op
def odL : Od → List PyData
  | .num n => [.str "num", .int n]
  | .par x => [.str "param", .str x]
  | .fld o n => [.str "field", .str o, .str n]
def exL : Ex → List PyData
  | .one a => odL a
  | .two op a b => [.str op, .tuple (odL a), .tuple (odL b)]
def opL : Op → List PyData
  | .set o n e => [.str "set", .tuple [.str o, .str n], .tuple (exL e)]
  | .drp => [.str "drop"]
  | .add h => [.str "add", .str h]
  | .rem h => [.str "remove", .str h]
  | .snd e => [.str "send", .tuple (exL e)]
def acL (a : Ac) : List PyData := [.str "action", .str a.name, flsD a.ps, .list (a.ops.map fun o => .tuple (opL o))]
def acsD (l : List Ac) : PyData := .list (l.map fun a => .tuple (acL a))
def signs : List Str := ["+", "-", "&", "|", "^"].map Str.ofString
def OdOk (rs : List Rf) (ps : List Fl) : Od → Prop
  | .num n => 0 ≤ n ∧ n ≤ 4294967295
  | .par x => ∃ w, (x, w) ∈ ps
  | .fld o n => ∃ w, (o, n, w) ∈ rs
def ExOk (rs : List Rf) (ps : List Fl) : Ex → Prop
  | .one a => OdOk rs ps a
  | .two op a b => op ∈ signs ∧ OdOk rs ps a ∧ OdOk rs ps b
def OpOk (hs : List Hd) (rs : List Rf) (ps : List Fl) : Op → Prop
  | .set o n e => (∃ w, (o, n, w) ∈ rs.drop 1) ∧ ExOk rs ps e
  | .drp => True
  | .add h => ∃ x ∈ hs, x.1 = h
  | .rem h => ∃ x ∈ hs, x.1 = h
  | .snd e => ExOk rs ps e
def AcOk (hs : List Hd) (rs : List Rf) (k : Nat) (a : Ac) : Prop := NmK k a.name ∧ a.ps.length ≤ 4 ∧ WfG a.ps ∧ a.ops.length ≤ 8 ∧ ∀ o ∈ a.ops, OpOk hs rs a.ps o
def AcsOk (hs : List Hd) (rs : List Rf) (l : List Ac) : Prop := 1 ≤ l.length ∧ l.length ≤ 8 ∧ ∀ k a, l[k]? = some a → AcOk hs rs k a
end Pk
set_option Elab.async false
set_option linter.all false
set_option maxRecDepth 100000
set_option maxHeartbeats 4000000
/-! the drawn programs' tables and control, as plain values; no row -/
namespace Pk
open PySem PySem.Spec PyProof.Rows L2 SX GxR Tk
structure Tb where
  name : Str
  keys : List ((Str × Str) × Str)
  uses : List Str
  dn : Str
  da : List Int
  size : Nat
def prL (p : Str × Str) : List PyData := [.str p.1, .str p.2]
def kyL (k : (Str × Str) × Str) : List PyData := [.tuple (prL k.1), .str k.2]
def tbL (t : Tb) : List PyData := [.str "table", .str t.name, .list (t.keys.map fun k => .tuple (kyL k)), .list (t.uses.map .str), .tuple [.str t.dn, .list (t.da.map .int)], .int (t.size : Nat)]
def tbsD (l : List Tb) : PyData := .list (l.map fun t => .tuple (tbL t))
def kinds3 : List Str := ["exact", "mask", "prefix"].map Str.ofString
def ArgsOk (ps : List Fl) (ns : List Int) : Prop := ns.length = ps.length ∧ ∀ (i : Nat) (f : Fl) (n : Int), ps[i]? = some f → ns[i]? = some n → 0 ≤ n ∧ n < 2 ^ f.2
def KeysOk (rs : List Rf) (ks : List ((Str × Str) × Str)) : Prop := ks.length ≤ 4 ∧ (∀ k ∈ ks, (∃ w, (k.1.1, k.1.2, w) ∈ rs) ∧ k.2 ∈ kinds3) ∧ (ks.map Prod.fst).Nodup ∧ (ks.filter fun k => decide (k.2 = Str.ofString "prefix")).length ≤ 1
def TbOk (rs : List Rf) (acs : List Ac) (k : Nat) (t : Tb) : Prop :=
  NmK k t.name ∧ KeysOk rs t.keys ∧ (∃ n < acs.length, t.uses = (acs.drop n).map Ac.name) ∧ t.dn ∈ t.uses ∧ (∃ a ∈ acs, a.name = t.dn ∧ ArgsOk a.ps t.da) ∧ 1 ≤ t.size ∧ t.size ≤ 16
theorem eqv_pr (a b : Str × Str) : PyData.eqv (.tuple (prL a)) (.tuple (prL b)) = (decide (a.1 = b.1) && (decide (a.2 = b.2) && true)) := rfl
theorem eqv_pr' (a b : Str × Str) : PyData.eqv (.tuple (prL a)) (.tuple (prL b)) = decide (a = b) := by
  rw [eqv_pr, Bool.and_true]
  obtain ⟨a1, a2⟩ := a
  obtain ⟨b1, b2⟩ := b
  by_cases h1 : a1 = b1
  · by_cases h2 : a2 = b2
    · subst h1; subst h2; simp
    · simp [h1, h2]
  · simp [h1]
inductive Tt
  | no (t : Tt)
  | vld (h : Str)
  | cmp (op o n : Str) (v : Int)
def ttL : Tt → List PyData
  | .no t => [.str "not", .tuple (ttL t)]
  | .vld h => [.str "valid", .str h]
  | .cmp op o n v => [.str op, .tuple (prL (o, n)), .int v]
def ops2 : List Str := ["==", "<"].map Str.ofString
def TtOk (hs : List Hd) (rs : List Rf) : Tt → Prop
  | .no t => TtOk hs rs t
  | .vld h => ∃ x ∈ hs, x.1 = h
  | .cmp op o n v => op ∈ ops2 ∧ ∃ w, (o, n, w) ∈ rs ∧ 0 ≤ v ∧ v < 2 ^ w
def nots : Tt → Nat
  | .no t => nots t + 1
  | _ => 0
/-- statements -/
inductive Ct
  | nil
  | ap (t : Str) (r : Ct)
  | cf (t : Tt) (x y r : Ct)
def ctD : Ct → List PyData
  | .nil => []
  | .ap t r => .tuple [.str "apply", .str t] :: ctD r
  | .cf t x y r => .tuple [.str "if", .tuple (ttL t), .list (ctD x), .list (ctD y)] :: ctD r
def CtOk (hs : List Hd) (rs : List Rf) : Ct → Prop
  | .nil => True
  | .ap _ r => CtOk hs rs r
  | .cf t x y r => TtOk hs rs t ∧ nots t ≤ 3 ∧ CtOk hs rs x ∧ CtOk hs rs y ∧ CtOk hs rs r
def sz : Ct → Nat
  | .nil => 0
  | .ap _ r => sz r + 1
  | .cf _ x y r => sz x + sz y + sz r + 1
def dpt : Ct → Nat
  | .nil => 0
  | .ap _ r => dpt r
  | .cf _ x y r => max (max (dpt x) (dpt y) + 1) (dpt r)
def len1 : Ct → Nat
  | .nil => 0
  | .ap _ r => len1 r + 1
  | .cf _ _ _ r => len1 r + 1
/-- the tables that are applied, in the order of the text -/
def aps : Ct → List Str
  | .nil => []
  | .ap t r => t :: aps r
  | .cf _ x y r => aps x ++ aps y ++ aps r
def catC : Ct → Ct → Ct
  | .nil, d => d
  | .ap t r, d => .ap t (catC r d)
  | .cf t x y r, d => .cf t x y (catC r d)
end Pk
set_option Elab.async false
set_option linter.all false
set_option maxRecDepth 100000
set_option maxHeartbeats 4000000
/-! the meaning of operations, as plain functions; no row -/
namespace Pk
open PySem PySem.Spec PyProof.Rows L2 SX GxR Tk
abbrev Fv := Str → Str → Nat
abbrev portK : Str × Str := (Str.ofString "packet", Str.ofString "port")
/-- what is read of a field -/
def rdF (port : Nat) (F : Fv) (o n : Str) : Nat := if (o, n) = portK then port else F o n
def putF (F : Fv) (o n : Str) (v : Nat) : Fv := fun a b => if (a, b) = (o, n) then v else F a b
def zeroF (F : Fv) (h : Str) : Fv := fun a b => if a = h then 0 else F a b
/-- the state of a run -/
structure Ms where
  F : Fv
  vs : List Str
  out : Option Nat
def cpt (op : Str) (a b : Int) : Int :=
  if op = Str.ofString "+" then a + b else if op = Str.ofString "-" then a - b else if op = Str.ofString "&" then Builtin.bitAnd a b else if op = Str.ofString "|" then Builtin.bitOr a b else Builtin.bitXor a b
/-- the argument of a parameter -/
def argV (ps : List Str) (ns : List Int) (x : Str) : Int := (ns[ps.findIdx fun y => decide (y = x)]?).getD 0
def odV (port : Nat) (F : Fv) (A : Str → Int) : Od → Int
  | .num n => n
  | .par x => A x
  | .fld o n => (rdF port F o n : Nat)
def evV (port : Nat) (F : Fv) (A : Str → Int) : Ex → Int
  | .one a => odV port F A a
  | .two op a b => cpt op (odV port F A a) (odV port F A b)
def portOf (v : Int) : Option Nat := if 0 ≤ v ∧ v < 8 then some v.toNat else none
/-- one operation; W: the fields' widths -/
def perf (port : Nat) (W : Str → Str → Nat) (A : Str → Int) (s : Ms) : Op → Ms
  | .set o n e => if o = Str.ofString "meta" ∨ o ∈ s.vs then { s with F := putF s.F o n (evV port s.F A e % 2 ^ W o n).toNat } else s
  | .drp => { s with out := none }
  | .add h => if h ∈ s.vs then s else { s with F := zeroF s.F h, vs := s.vs ++ [h] }
  | .rem h => { s with F := zeroF s.F h, vs := s.vs.erase h }
  | .snd e => { s with out := portOf (evV port s.F A e) }
/-- the fields of headers that are not valid are zero -/
def Zr (s : Ms) : Prop := ∀ h, h ∉ s.vs → h ≠ Str.ofString "meta" → ∀ n, s.F h n = 0
theorem zeroF_same {F : Fv} {h : Str} (z : ∀ n, F h n = 0) : zeroF F h = F := by
  funext a b
  unfold zeroF
  by_cases e : a = h
  · rw [if_pos e, e, z]
  · rw [if_neg e]
theorem rdF_put (port : Nat) (F : Fv) (o n : Str) (v : Nat) (a b : Str) (h : (o, n) ≠ portK) : rdF port (putF F o n v) a b = if (a, b) = (o, n) then v else rdF port F a b := by
  unfold rdF putF
  by_cases e : (a, b) = portK
  · rw [if_pos e, if_pos e, if_neg (fun z => h (z.symm.trans e))]
  · rw [if_neg e, if_neg e]
theorem rdF_zero (port : Nat) (F : Fv) (h a b : Str) (hp : h ≠ portK.1) : rdF port (zeroF F h) a b = if a = h then 0 else rdF port F a b := by
  unfold rdF zeroF
  by_cases e : (a, b) = portK
  · rw [if_pos e, if_pos e, if_neg (fun z => hp (by rw [← z]; exact (Prod.mk.inj e).1))]
  · rw [if_neg e, if_neg e]
section
variable {port : Nat} {W : Str → Str → Nat} {A : Str → Int} {s : Ms}
theorem perf_setT {o n : Str} {e : Ex} (c : o = Str.ofString "meta" ∨ o ∈ s.vs) : perf port W A s (.set o n e) = { s with F := putF s.F o n (evV port s.F A e % 2 ^ W o n).toNat } := if_pos c
theorem perf_setF {o n : Str} {e : Ex} (c : ¬ (o = Str.ofString "meta" ∨ o ∈ s.vs)) : perf port W A s (.set o n e) = s := if_neg c
theorem perf_addT {h : Str} (c : h ∈ s.vs) : perf port W A s (.add h) = s := if_pos c
theorem perf_addF {h : Str} (c : h ∉ s.vs) : perf port W A s (.add h) = { s with F := zeroF s.F h, vs := s.vs ++ [h] } := if_neg c
end
theorem perf_zr {port : Nat} {W : Str → Str → Nat} {A : Str → Int} {s : Ms} (z : Zr s) (nd : s.vs.Nodup) : ∀ o : Op, Zr (perf port W A s o) := by
  intro o h hh hm n
  cases o with
  | set a b e =>
    by_cases c : a = Str.ofString "meta" ∨ a ∈ s.vs
    · rw [perf_setT c] at hh ⊢
      show (if (h, n) = (a, b) then _ else s.F h n) = 0
      by_cases c2 : (h, n) = (a, b)
      · obtain ⟨rfl, rfl⟩ := Prod.mk.inj c2
        rcases c with c | c
        · exact absurd c hm
        · exact absurd c hh
      · rw [if_neg c2]
        exact z h hh hm n
    · rw [perf_setF c] at hh ⊢
      exact z h hh hm n
  | drp => exact z h hh hm n
  | add x =>
    by_cases c : x ∈ s.vs
    · rw [perf_addT c] at hh ⊢
      exact z h hh hm n
    · rw [perf_addF c] at hh ⊢
      show (if h = x then 0 else s.F h n) = 0
      by_cases e : h = x
      · exact if_pos e
      · rw [if_neg e]
        exact z h (fun y => hh (List.mem_append_left _ y)) hm n
  | rem x =>
    show (if h = x then 0 else s.F h n) = 0
    by_cases e : h = x
    · exact if_pos e
    · rw [if_neg e]
      exact z h (fun y => hh ((List.mem_erase_of_ne e).mpr y)) hm n
  | snd e => exact z h hh hm n
theorem perf_nodup {port : Nat} {W : Str → Str → Nat} {A : Str → Int} {s : Ms} (nd : s.vs.Nodup) : ∀ o : Op, (perf port W A s o).vs.Nodup := by
  intro o
  cases o with
  | set a b e =>
    by_cases c : a = Str.ofString "meta" ∨ a ∈ s.vs
    · rw [perf_setT c]; exact nd
    · rw [perf_setF c]; exact nd
  | drp => exact nd
  | add x =>
    by_cases c : x ∈ s.vs
    · rw [perf_addT c]; exact nd
    · rw [perf_addF c]
      exact List.nodup_append.mpr ⟨nd, List.nodup_cons.mpr ⟨List.not_mem_nil, List.nodup_nil⟩, fun a ha b hb e => c (by rw [← List.mem_singleton.mp hb, ← e]; exact ha)⟩
  | rem x => exact nd.erase x
  | snd e => exact nd
/-! ### dicts that hold fields' values -/
theorem nodup_len {α : Type} [DecidableEq α] : ∀ (l r : List α), l.Nodup → (∀ x ∈ l, x ∈ r) → l.length ≤ r.length
  | [], _, _, _ => Nat.zero_le _
  | x :: t, r, nd, h => by
    have h1 := List.nodup_cons.mp nd
    have hx := h x List.mem_cons_self
    have := nodup_len t (r.erase x) h1.2 fun y hy => (List.mem_erase_of_ne (fun e => h1.1 (by rw [← e]; exact hy))).mpr (h y (List.mem_cons_of_mem _ hy))
    rw [List.length_erase_of_mem hx] at this
    have := List.length_pos_of_mem hx
    show t.length + 1 ≤ _
    omega
end Pk
set_option Elab.async false
set_option linter.all false
namespace Pk
open PySem PySem.Spec PyProof.Rows L2 SX GxR Tk
theorem xor_int (a b : Int) : Builtin.bitOr a b - Builtin.bitAnd a b = Builtin.bitXor a b := rfl
end Pk
set_option Elab.async false
set_option linter.all false
set_option maxRecDepth 100000
set_option maxHeartbeats 4000000
/-! dicts with tuples as keys: a key that is only known to be read as a tuple; a display with one such key -/
namespace Pk
open PySem PySem.Spec PyProof.Rows L2
section
variable {X : Cx} {pins : List (Addr × Obj)} {σ : L2.St} {H : Hp} {s : Shared}
theorem key_ofQ {b : Addr} {k : List L2.Key} (I : Inv X pins σ H s) (e : SqT X.K H b (k.map kV)) : (tupleKind (mixKind X.prog X.w)).is s.heap k b := by
  rcases e with e | ⟨o, its, n, hk, hc, hs, hz, r⟩
  · obtain ⟨_, its, r, o, h1, h2, n, h3⟩ := (show ObjOk X.prog X.w H s.heap b (.tup (k.map kV)) from e.ok I.hok)
    exact ⟨o, its.toArray, n, h1, h2, h3, by simpa using items_are r⟩
  · exact ⟨o, its, n, I.kIn b o hk, hc, hs, items_are r⟩
/-- d[y], y in d for a dict with tuples as keys, y a tuple that stands -/
def tDGetQ (K : PySem.W.Frag) (td ty : TE) : TE := fun σ H Q => td σ H fun x H1 => ty σ H1 fun y H2 => ∃ (a b : Addr) (kvs : List (List L2.Key × V)) (k : List L2.Key) (v : V), x = .ref a ∧ y = .ref b ∧ H2 a = some (.dT kvs) ∧ SqT K H2 b (k.map kV) ∧ valV kvs k = some v ∧ Q v H2
def tDGet2Q (K : PySem.W.Frag) (td ty tx : TE) : TE := fun σ H Q => td σ H fun x H1 => ∃ (a : Addr) (kvs : List (List L2.Key × V)), x = .ref a ∧ H1 a = some (.dT kvs) ∧ ty σ H1 fun y H2 => tx σ H2 fun z H3 => ∃ (b : Addr) (k : List L2.Key), y = .ref b ∧ H3 a = some (.dT kvs) ∧ SqT K H3 b (k.map kV) ∧ Q ((valV kvs k).getD z) H3
end
section
variable {X : Cx} {o i e f : Expr} {pos apos cpos : Pos} {td ty tx : TE}
theorem pe_dgetQ (hu : X.A.units + 1 < cLine) (ho : PE X o td) (hi : PE X i ty) (hs : NoSl i) : PE X (.Subscript o i pos) (tDGetQ X.K td ty) := by
  refine ⟨fun pins s σ H Q I h => ?_⟩
  refine subD_of PySem.F.slot_dict_getitem.lookup hs (thn (ho.run pins s σ H _ I h) fun u s1 ⟨x, H1, I1, rx, q1⟩ => thn (hi.run pins s1 σ H1 _ I1 q1) fun iv s2 ⟨y, H2, I2, ry, a, b, kvs, k, v, ex, ey, e, eb, l, q2⟩ => ?_)
  subst ex
  subst ey
  obtain rfl : u = Value.ref a := rx
  obtain rfl : iv = Value.ref b := ry
  obtain ⟨z, hd, xs, rel, dd⟩ := dt_of I2.hok e
  obtain ⟨w', hw, rw'⟩ := RelO.some_of (v := v) (o := (atKey xs k).map (·.2)) (by rw [← l]; exact rel.val k)
  obtain ⟨p, hp, hp2⟩ := Option.map_eq_some_iff.mp hw
  refine ⟨dd.typeIs, wpAny_getItem_heap (tupleKind_room_in1 hu) (key_ofQ I2 eb) dd hp ?_⟩
  rw [hp2]
  exact ⟨v, H2, I2.tok _, rw', q2⟩
theorem pe_dget2Q (hu : X.A.units + 1 < cLine) (ho : PE X o td) (he : PE X e ty) (hf : PE X f tx) (m : M2 X o "get" apos e f cpos) : PE X (.Call (.Attribute o "get" apos) [e, f] [] cpos) (tDGet2Q X.K td ty tx) := by
  refine ⟨fun pins s σ H Q I h => ?_⟩
  refine wpAny_Call_method m.base m.few m.line PySem.F.plainAttrs_dict PySem.F.slot_dict_get PySem.F.type_dict_get (thn (ho.run pins s σ H _ I h) fun u s1 ⟨x, H1, I1, rx, a, kvs, ex, d, q1⟩ => ?_)
  subst ex
  obtain rfl : u = Value.ref a := rx
  obtain ⟨t1, t2, _⟩ := isD_at I1 (.inr ⟨kvs, .inl d⟩)
  refine ⟨t1, t2, ?_⟩
  rw [m.trees]
  refine Calls.callWith_builtin rfl (Calls.evalArgs_plain (Calls.spliced_cons (thn (he.run pins s1 σ H1 _ I1 q1) fun iv s2 ⟨y, H2, I2, ry, q2⟩ =>
    Calls.spliced_cons (thn (hf.run pins s2 σ H2 _ I2 q2) fun fv s3 ⟨z, H3, I3, rz, b, k, ey, e3, eb, q3⟩ => Calls.spliced_nil ?_))))
  subst ey
  obtain rfl : iv = Value.ref b := ry
  obtain ⟨z0, hd, xs, rel, dd⟩ := dt_of I3.hok e3
  exact call_meetsIn PySem.F.slot_dict_get dd.typeIs PySem.F.entry_dict_get (PySem.F.args_dict_get_3 _ _ _) (meetsH_dict_get_default (tupleKind (mixKind X.prog X.w)) a b hd fv) ⟨tupleKind_room_in1 hu, k, xs, key_ofQ I3 eb, dd, ⟨_, H3, I3.tok _, (rel.val k).getD rz, q3⟩⟩
/-- {k: v}, k a tuple -/
def tDisp1T (tk tv : TE) : TE := fun σ H Q => ∀ p, H p = none → tPairs [(tk, tv)] σ (upd H p (.dT [])) fun ps H2 => ∃ (x y : V) (b : Addr) (k : List L2.Key), ps = [(x, y)] ∧ x = .ref b ∧ H2 p = some (.dT []) ∧ H2 b = some (.tup (k.map kV)) ∧ Q (.ref p) (upd H2 p (.dT [(k, y)]))
theorem pe_disp1T {k v : Expr} {tk tv : TE} (hu : X.A.units + 1 < cLine) (hk : PE X k tk) (hv : PE X v tv) : PE X (.Dict [some k] [v] pos) (tDisp1T tk tv) := by
  refine ⟨fun pins s σ H Q I q => ?_⟩
  have hn := I.hok.fresh (Nat.le_refl s.heap.objs.size)
  have I1 := I.laid (a := s.heap.objs.size) (o := .dT []) (h' := s.heap.push { cls := .type "dict", data := .dict #[] }) (t' := s.toks) (fun _ _ q => Heap.get?_push_of_some _ q) (Nat.le_refl _) (dt_empty s.heap I.big)
  rw [arm_eval_Dict, zip_pairTrees [some k] [v] X.env pos rfl rfl, dictDisplay_pairs _ (fun z => by cases z) (by rw [pairTrees_length [some k] [v] X.env pos rfl rfl]; show 1 < 17; decide)]
  refine wpAny_bind (wpAny_standAt (wpAny_bind (wpAny_subDictH (knd := tupleKind (mixKind X.prog X.w)) (Q := fun d s' => wpAny (model X.prog X.w) X.A (pure (Value.ref d)) _ X.xe s') (show X.A.units < cLine by omega) (by rw [pairTrees_length [some k] [v] X.env pos rfl rfl]; show 1 ≤ 15; decide) ?_)))
  refine thn ((pps_cons (pos := pos) hk hv pps_nil).run pins _ σ _ (fun ps H2 => ∃ (x y : V) (b : Addr) (k : List L2.Key), ps = [(x, y)] ∧ x = .ref b ∧ H2 s.heap.objs.size = some (.dT []) ∧ H2 b = some (.tup (k.map kV)) ∧ Q (.ref s.heap.objs.size) (upd H2 s.heap.objs.size (.dT [(k, y)]))) I1 ?_) fun ws s2 ⟨ps, H2, I2, rel, x, y, b, k', ep, ex, e2, eb, q2⟩ => ?_
  · exact q _ hn
  · subst ep
    subst ex
    cases rel with
    | @cons _ u _ _ h t =>
    cases t
    obtain ⟨u1, u2⟩ := u
    obtain ⟨h1, h2⟩ := h
    obtain rfl : u1 = Value.ref b := h1
    obtain ⟨z, hd, xs, rel, dd⟩ := dt_of I2.hok e2
    cases rel
    refine ⟨[(k', b, u2)], ⟨rfl, rfl, key_of I2.hok eb, True.intro⟩, dd, fun h' tk dd' hs => wpAny_pure ?_⟩
    obtain ⟨q, es, ep, hq, g2, g3, g4, _, g5⟩ := dd'
    refine ⟨.ref s.heap.objs.size, _, d_write (ob := .dT [(k', y)]) (t' := tk) I2 (by rw [e2]; exact True.intro) hs ⟨q, hq⟩ ⟨by show 1 ≤ sizeLine; decide, hd, _, ?_, q, es, ep, hq, g2, g3, g4, g5⟩, rfl, q2⟩
    refine .cons ⟨rfl, ?_, h2⟩ .nil
    rw [upd_ne (ne_of eb e2 (fun z => nomatch z))]
    exact eb
end
end Pk
set_option Elab.async false
set_option linter.all false
set_option maxRecDepth 100000
set_option maxHeartbeats 4000000
/-! d[y] = v with a tuple as key that is only known by SqT; list.remove of texts -/
namespace Pk
open PySem PySem.Spec PyProof.Rows L2
section
variable {X : Cx}
/-- d[y] = v (for pg_sub), y a tuple that stands, perhaps a constant -/
def rSetDQ (K : PySem.W.Frag) : TSet := fun o i v H Q => ∃ (a b : Addr) (kvs : List (List L2.Key × V)) (k : List L2.Key), o = .ref a ∧ i = .ref b ∧ H a = some (.dT kvs) ∧ SqT K H b (k.map kV) ∧ kvs.length < sizeLine ∧
  ((∃ c, H c = some (.tup (k.map kV))) → Q (upd H a (.dT (putK kvs k v))))
def rRemF : V → List V → Hp → VK → Prop := fun x xs H Q => ∃ (l : Addr) (ys : List V) (y : V) (j : Nat) (z : V), x = .ref l ∧ xs = [y] ∧ H l = some (.lst ys) ∧ flatV y = true ∧ ys.all flatV = true ∧ ys[j]? = some z ∧ eqV z y = true ∧
  (∀ (m : Nat) (z' : V), m < j → ys[m]? = some z' → eqV z' y = false) ∧ Q .non (upd H l (.lst (ys.eraseIdx j)))
theorem mt_removeF : MtM X "list.remove" rRemF := by
  intro pins s σ H x xs v us Q I rx rxs h
  obtain ⟨l, ys, y, j, z0, rfl, rfl, hH, fy, fys, hz, hzj, hno, q⟩ := h
  cases rx
  obtain ⟨u, rfl, ru⟩ := rxs.one
  obtain ⟨z, its, n, rv, hl, e⟩ := I.lstM hH
  obtain ⟨u0, hu0, ru0⟩ := rv.get hz
  obtain ⟨hjl, hje⟩ := List.getElem?_eq_some_iff.mp hu0
  have hvl := rv.length
  have hj : j < its.toArray.size := by simpa using hjl
  refine call_meets PySem.F.slot_list_remove ⟨_, e, rfl⟩ PySem.F.entry_list_remove (PySem.F.args_list_remove_2 _ _)
    (SeqAt.list_removeAt l its.toArray n none _ u (eqU y) j hj ?_ ?_ (by rw [List.size_toArray]; omega)) ⟨e, fun u' hu' => mem_eqAt ru fy rv fys u' (by simpa using hu'), ?_⟩
  · have e1 : its.toArray[j] = u0 := by simpa using hje
    rw [e1, eqU_of ru0 (flat_at fys hz)]
    exact hzj
  · intro m hm hmj
    have hml : m < its.length := by simpa using hm
    have hmy : m < ys.length := by omega
    have hy' : ys[m]? = some ys[m] := List.getElem?_eq_getElem hmy
    obtain ⟨u2, hu2, ru2⟩ := rv.get hy'
    obtain ⟨_, hme⟩ := List.getElem?_eq_some_iff.mp hu2
    have e1 : its.toArray[m] = u2 := by simpa using hme
    rw [e1, eqU_of ru2 (flat_at fys hy')]
    exact hno m _ hmj hy'
  · refine ⟨.non, _, I.lset (its' := its.eraseIdx j) (t' := s.toks) hH e ?_ (rv.eraseIdx j) ?_, rfl, q⟩
    · show its.toArray.eraseIdxIfInBounds j = (its.eraseIdx j).toArray
      rw [List.eraseIdxIfInBounds_toArray]
    · have := List.length_eraseIdx_le ys j
      omega
end
end Pk
set_option Elab.async false
set_option linter.all false
set_option maxRecDepth 100000
set_option maxHeartbeats 4000000
/-! the octets of a packet as a number, the values of the fields in it, the plain parser; no def of the row -/
namespace Pk
open PySem PySem.Spec PyProof.Rows L2 SX GxR Tk
/-- the number of octets -/
def numL (l : List Nat) : Nat := l.foldl (fun n b => n * 256 + b) 0
theorem numL_acc (l : List Nat) : ∀ a : Nat, l.foldl (fun n b => n * 256 + b) a = a * 256 ^ l.length + numL l := by
  induction l with
  | nil => intro a; show a = a * 1 + 0; omega
  | cons b r ih =>
    intro a
    have h1 := ih (a * 256 + b)
    have h2 := ih (0 * 256 + b)
    have e : numL (b :: r) = r.foldl (fun n b => n * 256 + b) (0 * 256 + b) := rfl
    show r.foldl (fun n b => n * 256 + b) (a * 256 + b) = _
    rw [h1, e, h2, List.length_cons, Nat.pow_succ]
    have e3 : (a * 256 + b) * 256 ^ r.length = a * 256 * 256 ^ r.length + b * 256 ^ r.length := Nat.add_mul _ _ _
    have e4 : a * (256 ^ r.length * 256) = a * 256 * 256 ^ r.length := by rw [Nat.mul_comm (256 ^ r.length) 256, Nat.mul_assoc]
    have e5 : (0 * 256 + b) = b := by omega
    rw [e3, e4, e5]
    omega
theorem numL_app (l1 l2 : List Nat) : numL (l1 ++ l2) = numL l1 * 256 ^ l2.length + numL l2 := by
  have : numL (l1 ++ l2) = l2.foldl (fun n b => n * 256 + b) (numL l1) := by
    unfold numL
    rw [List.foldl_append]
  rw [this, numL_acc]
def Oct (l : List Nat) : Prop := ∀ b ∈ l, b < 256
theorem numL_lt : ∀ (l : List Nat), Oct l → numL l < 256 ^ l.length := by
  intro l h
  have key : ∀ (l : List Nat), Oct l.reverse → numL l.reverse < 256 ^ l.reverse.length := by
    intro l
    induction l with
    | nil => intro _; exact Nat.one_pos
    | cons b r ih =>
      intro h
      rw [List.reverse_cons] at h ⊢
      have h1 := ih fun x hx => h x (List.mem_append_left _ hx)
      have h2 := h b (List.mem_append_right _ List.mem_cons_self)
      rw [numL_app, List.length_append]
      have e1 : numL [b] = b := by show 0 * 256 + b = b; omega
      have e2 : ([b] : List Nat).length = 1 := rfl
      rw [e1, e2, Nat.pow_one, Nat.pow_add, Nat.pow_one]
      generalize 256 ^ r.reverse.length = z at h1 ⊢
      have : (numL r.reverse + 1) * 256 ≤ z * 256 := Nat.mul_le_mul_right _ h1
      omega
  have := key l.reverse
  rw [List.reverse_reverse] at this
  exact this h
/-- the values of the fields of these widths, from the left bits of n -/
def exV (n : Nat) : Nat → List Nat → List Nat
  | _, [] => []
  | L, w :: r => n / 2 ^ (L - w) % 2 ^ w :: exV n (L - w) r
theorem exV_len (n : Nat) : ∀ (ws : List Nat) (L : Nat), (exV n L ws).length = ws.length := by
  intro ws
  induction ws with
  | nil => intro _; rfl
  | cons w r ih => intro L; show (exV n (L - w) r).length + 1 = _; rw [ih]; rfl
theorem exV_lt (n : Nat) : ∀ (ws : List Nat) (L i v w : Nat), (exV n L ws)[i]? = some v → ws[i]? = some w → v < 2 ^ w := by
  intro ws
  induction ws with
  | nil => intro L i v w h; cases h
  | cons x r ih =>
    intro L i v w h h2
    cases i with
    | zero => cases h; cases h2; exact Nat.mod_lt _ (Nat.two_pow_pos _)
    | succ j => exact ih _ j v w h h2
/-- the bits of a part of the packet -/
theorem bits_part {A n w q c r : Nat} (h : q + w ≤ c) (R : Nat) (hR : R < 2 ^ r) : ((A * 2 ^ c + n) * 2 ^ r + R) / 2 ^ (r + q) % 2 ^ w = n / 2 ^ q % 2 ^ w := by
  have e1 : ((A * 2 ^ c + n) * 2 ^ r + R) / 2 ^ (r + q) = (A * 2 ^ c + n) / 2 ^ q := by
    rw [Nat.pow_add, ← Nat.div_div_eq_div_mul]
    congr 1
    rw [Nat.mul_comm, Nat.mul_add_div (Nat.two_pow_pos _), Nat.div_eq_of_lt hR]
    rfl
  have e2 : A * 2 ^ c = 2 ^ q * (A * 2 ^ (c - q)) := by
    rw [Nat.mul_comm A, Nat.mul_comm A, ← Nat.mul_assoc, ← Nat.pow_add]
    congr 2
    omega
  rw [e1, e2, Nat.mul_add_div (Nat.two_pow_pos _)]
  have e3 : A * 2 ^ (c - q) = 2 ^ w * (A * 2 ^ (c - q - w)) := by
    rw [Nat.mul_comm A, Nat.mul_comm A, ← Nat.mul_assoc, ← Nat.pow_add]
    congr 2
    omega
  rw [e3, Nat.mul_add_mod]
theorem exV_part {A n R c r : Nat} (hR : R < 2 ^ r) : ∀ (ws : List Nat) (L : Nat), ws.sum ≤ L → L ≤ c → exV ((A * 2 ^ c + n) * 2 ^ r + R) (r + L) ws = exV n L ws := by
  intro ws
  induction ws with
  | nil => intro _ _ _; rfl
  | cons w t ih =>
    intro L h1 h2
    rw [List.sum_cons] at h1
    have e1 : r + L - w = r + (L - w) := by omega
    show _ :: _ = _ :: _
    rw [e1, bits_part (by omega) R hR, ih (L - w) (by omega) (by omega)]
theorem pow256 (k : Nat) : 256 ^ k = 2 ^ (8 * k) := by rw [Nat.pow_mul]
/-- the fields of the octets t .. t + o of the packet l -/
theorem exV_pkt {l : List Nat} (ho : Oct l) {t o : Nat} (h : t + o ≤ l.length) {ws : List Nat} (hw : ws.sum = 8 * o) : exV (numL l) (8 * (l.length - t)) ws = exV (numL ((l.drop t).take o)) (8 * o) ws := by
  have e1 : l = (l.take t ++ (l.drop t).take o) ++ l.drop (t + o) := by
    rw [List.append_assoc, ← List.drop_drop, List.take_append_drop, List.take_append_drop]
  have l1 : ((l.drop t).take o).length = o := by rw [List.length_take, List.length_drop]; omega
  have l2 : (l.drop (t + o)).length = l.length - t - o := by rw [List.length_drop]; omega
  have e2 : numL l = (numL (l.take t) * 2 ^ (8 * o) + numL ((l.drop t).take o)) * 2 ^ (8 * (l.length - t - o)) + numL (l.drop (t + o)) := by
    conv => lhs; rw [e1]
    rw [numL_app, numL_app, l1, l2, pow256, pow256]
  have hR : numL (l.drop (t + o)) < 2 ^ (8 * (l.length - t - o)) := by
    have := numL_lt (l.drop (t + o)) fun b hb => ho b (List.mem_of_mem_drop hb)
    rwa [l2, pow256] at this
  rw [e2, show 8 * (l.length - t) = 8 * (l.length - t - o) + 8 * o by omega]
  exact exV_part hR ws (8 * o) (by omega) (Nat.le_refl _)
/-! ### the plain parser -/
abbrev Xt := Str × Str × Nat
/-- what is read of a field: the port, or the extracted value, or nothing -/
def look (port : Nat) (ex : List Xt) (o n : Str) : Nat :=
  if (o, n) = (Str.ofString "packet", Str.ofString "port") then port else ((ex.find? fun e => decide ((e.1, e.2.1) = (o, n))).map fun e => e.2.2).getD 0
def rowHit (v : Nat) (r : Rw) : Bool := match r.2.1 with
  | none => decide ((v : Int) = r.1)
  | some m => decide (Builtin.bitAnd (v : Int) m = r.1)
def tgt (port : Nat) (ex : List Xt) : Nx → Str
  | .go t => t
  | .sel o n rows other => ((rows.find? (rowHit (look port ex o n))).map fun r => r.2.2).getD other
/-- what a header's fields give -/
def newX (h : Hd) (N L : Nat) : List Xt := (h.2.zip (exV N L (h.2.map (·.2)))).map fun p => (h.1, p.1.1, p.2)
structure Ps where
  ex : List Xt
  vs : List Str
  left : Nat
/-- one state; none: too short -/
def pstep (port N : Nat) (hs : List Hd) (a : Sa) (s : Ps) : Option (Str × Ps) := match a.taken with
  | none => some (tgt port s.ex a.nx, s)
  | some x => match hs.find? fun h => decide (h.1 = x) with
    | none => none
    | some h => if total h.2 > s.left then none else
      some (tgt port (s.ex ++ newX h N s.left) a.nx, ⟨s.ex ++ newX h N s.left, s.vs ++ [h.1], s.left - total h.2⟩)
def parsM (port N : Nat) (hs : List Hd) (sts : List Sa) : Nat → Str → Ps → Option Ps
  | 0, name, s => if name = Str.ofString "accept" then some s else none
  | k + 1, name, s => if name = Str.ofString "accept" then some s else if name = Str.ofString "reject" then none else
    match sts.find? fun a => decide (a.name = name) with
    | none => none
    | some a => match pstep port N hs a s with
      | none => none
      | some (n', s') => parsM port N hs sts k n' s'
end Pk
set_option Elab.async false
set_option linter.all false
set_option maxRecDepth 100000
set_option maxHeartbeats 4000000
namespace Pk
open PySem PySem.Spec PyProof.Rows L2
def topS (i : Nat) : Stmt := PySem.Challenge.pw_wholepackets_k17_compiled_actions.main.body.getD i (.Pass ⟨0, 0, 0, 0⟩)
abbrev sState : Stmt := topS 38
abbrev sDraw : Stmt := topS 39
abbrev sPick : Stmt := topS 40
theorem scState : FnScope ["script", "seed", "cell"] ["script"] (defScope sState) := ⟨rfl, rfl, rfl, by decide +kernel, rfl, by decide +kernel, by decide +kernel⟩
theorem scDraw : FnScope ["state", "many", "cells", "value", "mixed"] ["state", "many"] (defScope sDraw) := ⟨rfl, rfl, rfl, by decide +kernel, rfl, by decide +kernel, by decide +kernel⟩
theorem scPick : FnScope ["state", "row"] ["state", "row"] (defScope sPick) := ⟨rfl, rfl, rfl, by decide +kernel, rfl, by decide +kernel, by decide +kernel⟩
section
variable {P : Program} {w : World} {K : PySem.W.Frag} {mg : Str → Option Value} {base : Heap}
theorem map_at {ns : List Int} {i : Nat} {y : V} (h : (ns.map V.int)[i]? = some y) : ∃ z, ns[i]? = some z ∧ y = V.int z := by
  rw [List.getElem?_map] at h
  cases e : ns[i]? with
  | none => rw [e] at h; cases h
  | some z => rw [e] at h; exact ⟨z, rfl, (Option.some.inj h).symm⟩
def absI (z : Int) : Int := if z < 0 then -z else z
theorem ok_state {f : Addr} {fd : FuncData} {k : Nat} (F : Fun K "_law_state" "_law_state" sState f fd) (T : Blt mg) : FnOk P w K mg base CX0 (k + 1) f fd ["script"] (spState K) := by
  refine F.ok scState (fun vs H Q E h => ?_) (fun cdv A outer s H vs Q E hr h => ?_)
  · obtain ⟨a, ns, rfl, _⟩ := h
    rfl
  · obtain ⟨a, ns, rfl, hS, hn, q⟩ := h
    refine ⟨_, pss_cons (ps_set (i := 1) scState.nd rfl (.inl rfl) pe_int)
      (pss_cons (ps_for PassesOwn.never rfl (pi_list (pv 0)) (pg_name (i := 2) scState.nd rfl (.inl rfl))
        (pss_one (ps_set (i := 1) scState.nd rfl (.inl rfl) (pe_op op_mod (pe_callTy call_int1 (by rfl) T.zInt (by decide +kernel) (pa_cons (pe_op op_add (pe_op op_mul (pv 1) pe_int) (pv 2)) pa_nil)) pe_int))))
      (pss_one (ps_ret (pe_lst (pa_cons (pe_lc (own := [("cell", 2)]) (g := gName 2) (tt := tYes) rfl scState.nd (pi_list (pv 0)) (blkOk_by (N := ["script", "seed", "cell"]) (sc := defScope sState) (by decide +kernel))
        (fun _ _ _ _ _ => pg_name (i := 2) scState.nd rfl (Or.inl rfl)) (fun _ _ _ _ _ => pts_nil) (fun _ _ _ _ _ => pe_callB call_abs (by rfl) T.zAbs (by decide +kernel) (pa_cons (pv 2) pa_nil)))
        (pa_cons (pe_op op_add (pv 1) pe_int) pa_nil)))))), ?_⟩
    refine ⟨_, rfl, a, rfl, ⟨_, hS⟩, for_list (K := K) (a := a) (xs := ns.map V.int) (fun i σ H' => ∃ (sd : Int) (v : Option V), σ = [some (.ref a), some (.int sd), v] ∧ H' = H ∧ 0 ≤ sd ∧ sd < 1000003)
      ⟨7, none, rfl, rfl, by decide, by decide⟩ (fun i σ H' _ ⟨_, _, _, e, _⟩ => by subst e; exact hS) ?_ ?_⟩
    · rintro i y σ H' hi ⟨sd, v, rfl, rfl, h0, h1⟩
      obtain ⟨z, _, rfl⟩ := map_at hi
      refine ⟨_, rfl, _, _, rfl, rfl, .inl ⟨by omega, by omega⟩, _, rfl, _, _, rfl, rfl, .inl ⟨_, rfl, _, _, rfl, rfl, (by show (0 : Int) < 1000003; decide), ?_⟩⟩
      exact ⟨_, _, rfl, rfl, Int.emod_nonneg _ (by decide), Int.emod_lt_of_pos _ (by decide)⟩
    · rintro σ H' ⟨sd, v, rfl, rfl, h0, h1⟩
      refine ⟨_, rfl, a, rfl, ⟨_, hS⟩, fun D hD => lc_list (K := K) (a := a) (xs := ns.map V.int) (fun i H2 => Same H' H2 ∧ H2 D = some (.lst ((ns.take i).map fun z => V.int (absI z))))
        ⟨same_new hD, upd_same⟩ (fun i H2 _ h => h.1.seq hS) ?_ ?_⟩
      · rintro i y H2 hi ⟨k1, k2⟩
        obtain ⟨z, hz, rfl⟩ := map_at hi
        refine ⟨rfl, ⟨_, rfl, _, rfl, _, k2, ?_, fun b o e => ?_, ?_⟩⟩
        · rw [List.length_map, List.length_take]
          exact Nat.lt_of_le_of_lt (Nat.min_le_right _ _) (small1000 (by omega))
        · rw [upd_ne (ne_of_none e hD)]
          exact k1 b o e
        · rw [upd_same, List.take_add_one, hz, List.map_append]
          rfl
      · rintro H2 ⟨k1, k2⟩
        refine ⟨_, rfl, _, _, rfl, rfl, (by show 2 ≤ sizeLine; decide), fun p hp => ?_⟩
        have e : (ns.map V.int).length = ns.length := List.length_map ..
        rw [e, List.take_length] at k2
        have npD : D ≠ p := ne_of_none k2 hp
        refine q _ p D (k1.trans (same_new hp)) (k1.free hp) hD ⟨ns.map absI, sd + 1, upd_same, ?_, ?_, by omega, by omega⟩
        · rw [upd_ne npD, k2, List.map_map]
          rfl
        · intro z hz
          obtain ⟨y, _, rfl⟩ := List.mem_map.mp hz
          unfold absI
          split <;> omega
theorem ok_draw {f : Addr} {fd : FuncData} {k : Nat} (F : Fun K "_law_draw" "_law_draw" sDraw f fd) (T : Blt mg) : FnOk P w K mg base CX0 (k + 1) f fd ["state", "many"] spDraw := by
  refine F.ok scDraw (fun vs H Q E h => ?_) (fun cdv A outer s H vs Q E hr h => ?_)
  · obtain ⟨s, c, many, rfl, _⟩ := h
    rfl
  · obtain ⟨s, c, many, rfl, hS, hm0, hm1, q⟩ := h
    refine ⟨_, pss_cons (ps_set (i := 2) scDraw.nd rfl (.inl rfl) (pe_ix ix_list (pv 0) pe_int (fun _ _ => rfl)))
      (pss_cons (ps_while PassesOwn.never (PW.pt (pw_and (pt_cmpR op_gt (pe_callB call_len_seq (by rfl) T.zLen PySem.boot_len (pa_cons (pv 2) pa_nil)) pe_int (nomark _)) (pw_and1 (pt_cmpR op_eq (pe_ix ix_list (pv 2) pe_int (fun _ _ => rfl)) pe_int (nomark _)))))
        (pss_one (ps_expr (pe_bm PySem.F.plainAttrs_list PySem.F.slot_list_pop PySem.F.type_list_pop mt_popAt (pv 2) (pa_cons pe_int pa_nil)))))
      (pss_cons (ps_if (pt_cmpR op_gt (pe_callB call_len_seq (by rfl) T.zLen PySem.boot_len (pa_cons (pv 2) pa_nil)) pe_int (nomark _))
        (pss_cons (ps_set (i := 3) scDraw.nd rfl (.inl rfl) (pe_ix ix_list (pv 2) pe_int (fun _ _ => rfl)))
        (pss_cons (ps_asg (pe_op op_fdivW (pv 3) (pv 1)) (pg_sub (pv 2) pe_int set_list))
        (pss_one (ps_ret (pe_op op_mod (pe_callTy call_int1 (by rfl) T.zInt (by decide +kernel) (pa_cons (pv 3) pa_nil)) (pv 1)))))) pss_nil)
      (pss_cons (ps_set (i := 4) scDraw.nd rfl (.inl rfl) (pe_op op_mod (pe_callTy call_int1 (by rfl) T.zInt (by decide +kernel) (pa_cons (pe_op op_add (pe_op op_mul (pe_ix ix_list (pv 0) pe_int (fun _ _ => rfl)) pe_int) pe_int) pa_nil)) pe_int))
      (pss_cons (ps_asg (pv 4) (pg_sub (pv 0) pe_int set_list))
      (pss_one (ps_ret (pe_op op_mod (pe_callTy call_int1 (by rfl) T.zInt (by decide +kernel) (pa_cons (pe_op op_fdivW (pv 4) pe_int) pa_nil)) (pv 1)))))))), ?_⟩
    have hSC := hS
    have hne := hS.ne
    obtain ⟨cells, seed, h1, h2, h3, h4, h5⟩ := hS
    refine ⟨.ref s, rfl, s, _, _, _, rfl, rfl, SqL.of h1, atI_nat (j := 0) rfl, ?_⟩
    -- the while: cells lose their zeros
    refine ⟨fun m σ H' => ∃ cs : List Int, m = cs.length ∧ σ = [some (.ref s), some (.int many), some (.ref c), none, none] ∧ H' s = some (.lst [.ref c, .int seed]) ∧ H' c = some (.lst (cs.map V.int)) ∧ (∀ z ∈ cs, 0 ≤ z) ∧ Kp s c H H',
      ⟨cells.length, cells, rfl, rfl, h1, h2, h3, Kp.refl _ _ _⟩, ?_⟩
    rintro m σ H' ⟨cs, rfl, rfl, g1, g2, g3, g4⟩
    refine ⟨.ref c, rfl, c, _, rfl, .inl (SqL.of g2), _, _, rfl, rfl, _, rfl, ?_⟩
    cases cs with
    | nil =>
      refine iteDF (by decide) (iteF ?_)
      -- no cell is left: mixed
      refine ⟨.ref c, rfl, c, _, rfl, .inl (SqL.of g2), _, _, rfl, rfl, _, rfl, iteDF (by decide) ?_⟩
      refine ⟨.ref s, rfl, s, _, _, _, rfl, rfl, SqL.of g1, atI_nat (j := 1) rfl, _, _, rfl, rfl, .inl ⟨by omega, by omega⟩, _, _, rfl, rfl, .inl ⟨_, rfl, _, _, rfl, rfl, (by show (0 : Int) < 2147483647; decide), ?_⟩⟩
      have b0 : 0 ≤ (seed * 48271 + 12345) % 2147483647 := Int.emod_nonneg _ (by decide)
      have b1 : (seed * 48271 + 12345) % 2147483647 < 2147483647 := Int.emod_lt_of_pos _ (by decide)
      refine ⟨_, rfl, .ref s, rfl, s, _, _, 1, rfl, rfl, g1, rfl, ?_⟩
      refine ⟨_, rfl, _, _, rfl, rfl, ⟨by decide, by decide⟩, .inl ⟨_, rfl, _, rfl, _, _, rfl, rfl, hm0, ?_⟩⟩
      refine q _ _ (Int.emod_nonneg _ (by omega)) (Int.emod_lt_of_pos _ hm0) ⟨[], _, upd_same, ?_, fun z hz => absurd hz (by simp), b0, by omega⟩ fun b o n1 n2 e => ?_
      · rw [upd_ne (Ne.symm hne)]
        exact g2
      · rw [upd_ne n1]
        exact g4 b o n1 n2 e
    | cons z r =>
      refine iteDT (by rw [List.length_map, List.length_cons]; omega) ?_
      refine ⟨.ref c, rfl, c, _, _, _, rfl, rfl, SqL.of g2, atI_nat (j := 0) rfl, rfl, _, rfl, ?_⟩
      rw [dcInt]
      refine iteD (fun hz => ?_) fun hz => ?_
      · -- a zero is dropped
        refine ⟨fun σ' H' => ∃ m', m' < (z :: r).length ∧ ∃ cs : List Int, m' = cs.length ∧ σ' = [some (.ref s), some (.int many), some (.ref c), none, none] ∧ H' s = some (.lst [.ref c, .int seed]) ∧ H' c = some (.lst (cs.map V.int)) ∧ (∀ z ∈ cs, 0 ≤ z) ∧ Kp s c H H',
          fun _ _ h => h, ?_⟩
        refine ⟨.ref c, rfl, .inl ⟨rfl, _, SqL.of g2⟩, c, _, _, 0, _, rfl, rfl, g2, by decide, by decide, ?_, rfl, r.length, by rw [List.length_cons]; omega, r, rfl, rfl, ?_, ?_, fun y hy => g3 y (List.mem_cons_of_mem _ hy), fun b o n1 n2 e => ?_⟩
        · exact PySem.StrLaws.seqIndex_nonneg (Int.le_refl 0) (by rw [List.length_map, List.length_cons]; omega)
        · rw [upd_ne hne]
          exact g1
        · rw [upd_same]
          rfl
        · rw [upd_ne n2]
          exact g4 b o n1 n2 e
      · -- the first cell is drawn from
        refine ⟨.ref c, rfl, c, _, rfl, .inl (SqL.of g2), _, _, rfl, rfl, _, rfl, iteDT (by rw [List.length_map, List.length_cons]; omega) ?_⟩
        have z0 := g3 z List.mem_cons_self
        refine ⟨.ref c, rfl, c, _, _, _, rfl, rfl, SqL.of g2, atI_nat (j := 0) rfl, ?_⟩
        refine ⟨_, rfl, _, rfl, _, _, rfl, rfl, wide_div (b := 41) hm0 (by omega) (by decide) (by decide), .ref c, rfl, c, _, _, 0, rfl, rfl, g2, ?_, ?_⟩
        · rw [List.length_map, List.length_cons]
          unfold ixN
          rw [if_pos (Int.le_refl 0), if_pos (by omega)]
          rfl
        refine ⟨_, rfl, .inl ⟨_, rfl, _, rfl, _, _, rfl, rfl, hm0, ?_⟩⟩
        refine q _ _ (Int.emod_nonneg _ (by omega)) (Int.emod_lt_of_pos _ hm0) ⟨z / many :: r, seed, ?_, ?_, ?_, h4, h5⟩ fun b o n1 n2 e => ?_
        · rw [upd_ne hne]
          exact g1
        · rw [upd_same]
          rfl
        · intro y hy
          rcases List.mem_cons.mp hy with rfl | hy
          · exact Int.ediv_nonneg z0 (by omega)
          · exact g3 y (List.mem_cons_of_mem _ hy)
        · rw [upd_ne n2]
          exact g4 b o n1 n2 e
theorem ok_pick {f fD : Addr} {fd fdD : FuncData} {k : Nat} (F : Fun K "_law_pick" "_law_pick" sPick f fd) (T : Blt mg) (G : FnOk P w K mg base CX0 (k + 1) fD fdD ["state", "many"] spDraw)
    (gD : mg "_law_draw" = some (.ref fD)) (kD : PySem.W.keepIn K (.ref fD) = true) (bD : Binds K fdD ["state", "many"] []) : FnOk P w K mg base CX0 (k + 2) f fd ["state", "row"] (spPick K) := by
  refine F.ok scPick (fun vs H Q E h => ?_) (fun cdv A outer s H vs Q E hr h => ?_)
  · obtain ⟨s, c, p, xs, rfl, _⟩ := h
    rfl
  · obtain ⟨s, c, p, xs, rfl, hS, hL, n1, n2, l0, l1, q⟩ := h
    refine ⟨_, pss_one (ps_ret (pe_ix ix_list (pv 1) (pe_call G hr (by rfl) gD kD bD .nil pass0 (pa_cons (pv 0) (pa_cons (pe_callB call_len_seq (by rfl) T.zLen PySem.boot_len (pa_cons (pv 1) pa_nil)) pa_nil))) (fun _ _ => rfl))), ?_⟩
    refine ⟨.ref p, rfl, .ref s, rfl, .ref p, rfl, p, xs, rfl, .inl hL, s, c, xs.length, rfl, hS, by omega, by omega, fun H' r r0 r1 hS' k' => ?_⟩
    obtain ⟨j, rfl⟩ : ∃ j : Nat, r = (j : Int) := ⟨r.toNat, by omega⟩
    have hj : j < xs.length := by omega
    have e : xs[j]? = some xs[j] := List.getElem?_eq_getElem hj
    exact ⟨p, xs, _, _, rfl, rfl, k'.seq hL n1 n2, atI_nat e, q H' j _ e hS' k'⟩
end
end Pk
set_option Elab.async false
set_option linter.all false
set_option maxRecDepth 100000
set_option maxHeartbeats 4000000
/-! promises of a def that may ask repr: no repr runs around it; no row -/
namespace Pk
open PySem PySem.Spec PyProof.Rows L2
structure FnG (P : Program) (w : World) (K : PySem.W.Frag) (mg : Str → Option Value) (base : Heap) (CX : CXT) (k : Nat) (f : Addr) (fd : FuncData) (ps : List Str) (sp : Sp) : Prop where
  len : ∀ (vs : List V) (H : Hp) (Q : VK) (E : XK), sp vs H Q E → vs.length = ps.length
  run : ∀ (A : Around) (outer : List Env) (s : Shared) (H : Hp) (args : Args) (us : List Value) (vs : List V) (Q : VK) (E : XK), A.guards = some [] → Room k A → Env0 P w K mg base A outer s H → BindsTo s fd args (ps.zip us) → Vals vs us → sp vs H Q E →
    codeAny (model P w) A (Code.call (Value.ref f) args) (CR CX outer P w H s Q E) s
theorem fn_ofG {CX : CXT} {P : Program} {w : World} {K : PySem.W.Frag} {mg : Str → Option Value} {base : Heap} {k : Nat} {f : Addr} {name qual : Str} {params : Arguments} {body : List Stmt} {scope : Scope} {dV kV doc pm cdv ct oc : Value}
    {an od : Option Addr} {osl : Array (Option Value)} {N ps : List Str} {sp : Sp}
    (lk : List.lookup f K = some { cls := oc, dict := od, data := Data.func (PySem.W.fnOf name qual params body scope dV kV doc pm an cdv ct), slots := osl })
    (hcd : PySem.W.codeIn K cdv qual = true) (S : FnScope N ps scope) (len : ∀ (vs : List V) (H : Hp) (Q : VK) (E : XK), sp vs H Q E → vs.length = ps.length)
    (hbody : ∀ (A : Around) (outer : List Env) (s : Shared) (H : Hp) (vs : List V) (Q : VK) (E : XK), A.guards = some [] → Room k (A.deeper (envOfC qual scope s.heap.objs.size f cdv)) → sp vs H Q E →
      ∃ t, PSs (cxOf CX P w K mg base N qual scope f cdv A outer s H E) body t ∧ t { nx := fun x H' => Q V.non H', rt := Q } (L2.start N vs) H) :
    FnG P w K mg base CX (k + 1) f (PySem.W.fnOf name qual params body scope dV kV doc pm an cdv ct) ps sp := by
  refine ⟨len, fun A outer s H args us vs Q E hg hr e0 hb r hsp => ?_⟩
  have hl := len vs H Q E hsp
  have KX := PySem.W.Frag.In.keeps e0.mod.kin fun b o e => (e0.bs b o e).left
  have lim := Heap.NoLimit.keeps e0.mod.nolimit fun b o e => (e0.bs b o e).left
  refine codeAny_call_function (Room.depth hr) (KX f _ lk) rfl S.co S.gen rfl (PySem.W.codeRec_of KX hcd) (hb (model P w) A.in1 _ _ (wpAny_newFunctionEnv_cells S.kind ?_ fun env he s1 x => ?_))
  · rintro ⟨n, v⟩ hy
    rcases S.par n (List.of_mem_zip hy).left with q | q
    · exact Or.inl q
    · exact Or.inr ⟨q, PySem.W.cellsFrom_some scope.names (s.heap.objs.size + 1) [] (Or.inl q)⟩
  · subst he
    refine ⟨Heap.NoLimit.keeps lim x.toInCall.keep, codeAny_func ?_⟩
    obtain ⟨t, ht, hq⟩ := hbody A outer s H vs Q E hg (Room.deeper hr (envOfC qual scope s.heap.objs.size f cdv)) hsp
    refine wpAny_mono (ht.run [] s1 (L2.start N vs) H { nx := fun x H' => Q V.non H', rt := Q } (inv_start S hr.hd e0 hl r x) hq) (fun fl s' hs => ?_) (fun e s' hs => hs)
    cases fl with
    | next =>
      obtain ⟨σ', H', J, q⟩ := hs
      exact ⟨V.non, H', J.os, J.bare, J.base, J.hok, rfl, q⟩
    | ret u =>
      obtain ⟨v, σ', H', J, rv, q⟩ := hs
      exact ⟨v, H', J.os, J.bare, J.base, J.hok, rv, q⟩
    | _ =>
      obtain ⟨_, _, _, q⟩ := hs
      exact q.elim
theorem okG {P : Program} {w : World} {K : PySem.W.Frag} {mg : Str → Option Value} {base : Heap} {x qual : Str} {st : Stmt} {f : Addr} {fd : FuncData} {N ps : List Str} {k : Nat} {sp : Sp} (F : Fun K x qual st f fd) (S : FnScope N ps (defScope st))
    (len : ∀ (vs : List V) (H : Hp) (Q : VK) (E : XK), sp vs H Q E → vs.length = ps.length)
    (hbody : ∀ (cdv : Value) (A : Around) (outer : List Env) (s : Shared) (H : Hp) (vs : List V) (Q : VK) (E : XK), A.guards = some [] → Room k (A.deeper (envOfC qual (defScope st) s.heap.objs.size f cdv)) → sp vs H Q E →
      ∃ t, PSs (cxOf CX0 P w K mg base N qual (defScope st) f cdv A outer s H E).nox (defBody st) t ∧ t { nx := fun x H' => Q V.non H', rt := Q } (L2.start N vs) H) :
    FnG P w K mg base CX0 (k + 1) f fd ps sp := by
  obtain ⟨oc, od, kV, doc, pm, an, cdv, ct, osl, rfl, lk, hcd⟩ := F.ex
  refine fn_ofG lk hcd S len fun A outer s H vs Q E hg hr hsp => ?_
  obtain ⟨t, h, q⟩ := hbody cdv A outer s H vs Q E hg hr hsp
  exact ⟨t, PSs.nox h, q⟩
theorem law_callG {P : Program} {w : World} {K : PySem.W.Frag} {mg mb : Str → Option Value} {CX : CXT} {k : Nat} {fa a : Addr} {fd : FuncData} {x : Str} {sp : Sp} {s₁ : Shared} {vs : List Value} {ns : List Int}
    (KX : K.In s₁.heap) (hns : s₁.heap.Ns mainGlobals mg) (hb : s₁.heap.Ns builtinsNs mb) (hbb : ∀ (x : Str), x ≠ Str.ofString "__name__" → mb x = bootBuiltins x) (hlim : s₁.heap.NoLimit) (hg : s₁.gens = #[])
    (ha : s₁.heap.get? a = some { cls := Value.type "list", data := Data.seq vs.toArray }) (hi : IntsAre vs ns) (hl : ns.length ≤ sizeLine) (hr : Room k callerA)
    (F : ∀ (base : Heap), K.In base → base.Ns mainGlobals mg → FnG P w K mg base CX k fa fd [x] sp)
    (hbind : ∀ (s : Shared) (u : Value), BindsTo s fd { pos := [u] } [(x, u)])
    (hsp : ∀ (H : Hp), Only H → SqL K H a (List.map V.int ns) → sp [V.ref a] H (fun v x => v = V.bl true) fun x x_1 x_2 => False)
    (hCX : ∀ (H : Hp) (e : Value) (s' : Shared), CX [] H s₁ (fun x x_1 x_2 => False) e s' → False) :
    codeAny (model P w) callerA (Code.call (Value.ref fa) { pos := [Value.ref a] }) (fun r s' => r = Except.ok (Flow.ret (Value.bool true)) ∧ OldK s₁.heap s'.heap ∧ s'.os = s₁.os ∧ AllBare s'.gens) s₁ := by
  have rv := vals_ints hi
  have lenV := IntsAre.length hi
  have core : ∀ H : Hp, Only H → SqL K H a (List.map V.int ns) → HOk P w H s₁.heap → (∀ b, H b ≠ none → b = a) → (H a ≠ none → List.lookup a K = none) →
      codeAny (model P w) callerA (Code.call (Value.ref fa) { pos := [Value.ref a] }) (fun r s' => r = Except.ok (Flow.ret (Value.bool true)) ∧ OldK s₁.heap s'.heap ∧ s'.os = s₁.os ∧ AllBare s'.gens) s₁ := by
    intro H hO hS hok hA hK
    have base_of : ∀ {b : Addr} {o : Obj}, s₁.heap.get? b = some o → H b = none → (hidT s₁.heap H).get? b = some o := fun e n => hidT_get e n
    have noA : ∀ {b : Addr} {o : Obj} {es : Array DictEntry} {ep : Nat}, s₁.heap.get? b = some o → o.data = Data.dict es ep → H b = none := by
      intro b o es ep e d
      cases q : H b with
      | none => rfl
      | some u =>
        have e' := hA b (by rw [q]; exact fun z => nomatch z)
        subst e'
        rw [ha] at e
        cases e
        cases d
    have nsK : ∀ {b : Addr} {m : Str → Option Value}, s₁.heap.Ns b m → (hidT s₁.heap H).Ns b m := by
      intro b m x
      obtain ⟨o, es, ep, e, d, r⟩ := x
      exact ⟨o, es, ep, base_of e (noA e d), d, r⟩
    have hKb : K.In (hidT s₁.heap H) := fun b o e => base_of (KX b o e) (by
      cases q : H b with
      | none => rfl
      | some u =>
        have n0 : H b ≠ none := by rw [q]; exact fun z => nomatch z
        have e' := hA b n0
        subst e'
        have := hK n0
        rw [this] at e
        cases e)
    have hM : L2.Mod K mg (hidT s₁.heap H) := { kin := hKb, glob := nsK hns, blt := ⟨mb, nsK hb, hbb⟩, nolimit := (match hlim with | ⟨mc, h1, h2⟩ => ⟨mc, nsK h1, h2⟩) }
    have e0 : Env0 P w K mg (hidT s₁.heap H) callerA [] s₁ H := { frames := rfl, mod := hM, bs := fun b o e => of_hidT e, bsz := Nat.le_of_eq (hidT_size s₁.heap H), funs := trivial, frf := fun b hb => absurd hb List.not_mem_nil, hok := hok, bare := AllBare.of_eq hg }
    refine codeAny_mono ((F (hidT s₁.heap H) hKb (nsK hns)).run callerA [] s₁ H { pos := [Value.ref a] } [Value.ref a] [V.ref a] (fun v x => v = V.bl true) (fun x x_1 x_2 => False) rfl hr e0 (hbind s₁ (Value.ref a)) (Paired.cons rfl Paired.nil) (hsp H hO hS)) fun r s' h => ?_
    cases r with
    | error e => exact (hCX H e s' h).elim
    | ok fl =>
      cases fl with
      | ret u =>
        obtain ⟨v, H', os, bare, un, hok', r', q⟩ := h
        subst q
        obtain rfl := r'
        refine ⟨rfl, OldK.of_keep fun b o e => ?_, os, bare⟩
        cases q : H b with
        | none => exact un.keep b o e q (fun z => absurd z List.not_mem_nil) List.not_mem_nil
        | some u =>
          rcases hO b with z | ⟨ob, xs, z⟩
          · rw [q] at z
            cases z
          · have z2 := un.frzs b ob (HO.lst xs) z
            have e1 := (hok b _ z).1
            have e2 := (hok' b _ z2).1
            rw [e] at e1
            cases e1
            exact e2
      | _ => exact (h : False).elim
  cases hk : List.lookup a K with
  | none =>
    refine core (fun b => if b = a then some (HO.frz { cls := Value.type "list", data := Data.seq vs.toArray } (HO.lst (List.map V.int ns))) else none) (fun b => ?_) (.inl (.inr ⟨_, if_pos rfl⟩)) (fun b u z => ?_) (fun b z => ?_) fun _ => hk
    · by_cases hb : b = a
      · exact .inr ⟨_, _, if_pos hb⟩
      · exact .inl (if_neg hb)
    · by_cases hb : b = a
      · subst hb
        dsimp only at z
        rw [if_pos rfl] at z
        cases z
        exact ⟨ha, by rw [List.length_map]; exact hl, vs, 0, rv, ha⟩
      · dsimp only at z
        rw [if_neg hb] at z
        cases z
    · by_cases hb : b = a
      · exact hb
      · exact absurd (if_neg hb) z
  | some o =>
    have e := KX a o hk
    rw [ha] at e
    cases e
    refine core (fun _ => none) (fun _ => .inl rfl) (.inr ⟨_, vs.toArray, 0, hk, rfl, rfl, rfl, ?_, rv⟩) (fun b u z => by cases z) (fun b z => absurd rfl z) fun z => absurd rfl z
    rw [List.size_toArray, lenV]
    exact hl
theorem walk_ofG {l : PySem.W.OpenLaw} {n k : Nat} {q : Program} {loose : List Str} {XP : (Str → Option Value) → Heap → Prop} {YP : World → Heap → Prop} {d : DefRec} {K : Params → PySem.W.Frag} {CX : World → CXT} {sp : World → Sp} {x : Str}
    (hn : l.most = some n) (hn2 : n ≤ sizeLine) (hdf : d.params.defaults = []) (hr : Room k callerA) (hY : ∀ (w : World) (h : Heap), YP w h → (K w.params).In h)
    (F : ∀ (w : World) (mg : Str → Option Value) (fa : Addr) (h : Heap), (K w.params).In h → h.Ns mainGlobals mg → mg d.name = some (Value.ref fa) →
      ∃ fd, (∀ (s : Shared) (u : Value), BindsTo s fd { pos := [u] } [(x, u)]) ∧ ∀ (base : Heap), (K w.params).In base → base.Ns mainGlobals mg → FnG l.prog w (K w.params) mg base (CX w) k fa fd [x] (sp w))
    (hsp : ∀ (w : World) (H : Hp) (a : Addr) (ns : List Int), ns.length ≤ n → Only H → SqL (K w.params) H a (List.map V.int ns) → sp w [V.ref a] H (fun v x => v = V.bl true) fun x x_1 x_2 => False)
    (hCX : ∀ (w : World) (H : Hp) (s : Shared) (e : Value) (s' : Shared), CX w [] H s (fun x x_1 x_2 => False) e s' → False) :
    PySem.W.WalkO q loose XP YP l.row.toRowW d [] fun f vs => call f vs :=
  Att.attach_call hn hdf fun w s₀ s₁ mg mb fa o pm cd doc a vs ns G Y ho hd hcd hmg hobj hints hlen hg => by
    have KX := hY w s₁.heap Y
    obtain ⟨fd, hb, hF⟩ := F w mg fa s₁.heap KX G.T.g hmg
    exact law_callG KX G.T.g G.T.b G.T.builtins G.T.nolimit hg hobj hints (Nat.le_trans hlen hn2) hr hF hb (fun H hO hS => hsp w H a ns hlen hO hS) fun H e s' => hCX w H s₁ e s'
end Pk
set_option Elab.async false
set_option linter.all false
set_option maxRecDepth 100000
set_option maxHeartbeats 4000000
namespace Pk
open PySem PySem.Spec PyProof.Rows L2 SX GxR Tk
abbrev sName : Stmt := topS 41
abbrev sFields : Stmt := topS 42
abbrev sHds : Stmt := topS 43
abbrev sRefs : Stmt := topS 44
theorem scName : FnScope ["state", "k", "letters", "name", "j"] ["state", "k"] (defScope sName) := ⟨rfl, rfl, rfl, by decide +kernel, rfl, by decide +kernel, by decide +kernel⟩
theorem scFields : FnScope ["state", "bits", "fields", "left", "width"] ["state", "bits"] (defScope sFields) := ⟨rfl, rfl, rfl, by decide +kernel, rfl, by decide +kernel, by decide +kernel⟩
theorem scHds : FnScope ["state", "headers", "k", "bits", "fields"] ["state"] (defScope sHds) := ⟨rfl, rfl, rfl, by decide +kernel, rfl, by decide +kernel, by decide +kernel⟩
abbrev NRe : List Str := ["headers", "meta", "refs", "header", "name", "width"]
theorem scRefs : FnScope NRe ["headers", "meta"] (defScope sRefs) := ⟨rfl, rfl, rfl, by decide +kernel, rfl, by decide +kernel, by decide +kernel⟩
structure Bl (mg : Str → Option Value) : Prop where
  zRange : mg "range" = none
  zStr : mg "str" = none
  zMin : mg "min" = none
  zLen : mg "len" = none
theorem letS : lettersS = S letters := (S_tl lettersS).symm
theorem len52 : letters.length = 52 := by decide +kernel
theorem at_list {t : List Nat} {r : Int} (h0 : 0 ≤ r) (h1 : r < t.length) : ∃ c ∈ t, atI (S t).cps.toList r = some c := by
  obtain ⟨j, rfl⟩ : ∃ j : Nat, r = (j : Int) := ⟨r.toNat, by omega⟩
  have hj : j < t.length := by omega
  exact ⟨t[j], List.getElem_mem hj, atI_nat (by show t[j]? = some t[j]; exact List.getElem?_eq_getElem hj)⟩
theorem num_one : ∀ k < 10, (toString ((k : Nat) : Int) : Str) = S [48 + k] := by decide +kernel
theorem num_len : ∀ k < 200, (toString ((k : Nat) : Int) : Str).length ≤ 3 := by decide +kernel
theorem log_ok : ∀ k, k < 200 → k.log2 < 1920 := by decide +kernel
theorem run_pick {i : Nat} {x : V} (h : ([V.str "a", .str "Z", .str "_", .str "q"] : List V)[i]? = some x) : ∃ c ∈ runs, x = .str (S [c]) := by
  match i, h with
  | 0, e => cases e; exact ⟨97, by decide, congrArg V.str (by decide +kernel)⟩
  | 1, e => cases e; exact ⟨90, by decide, congrArg V.str (by decide +kernel)⟩
  | 2, e => cases e; exact ⟨95, by decide, congrArg V.str (by decide +kernel)⟩
  | 3, e => cases e; exact ⟨113, by decide, congrArg V.str (by decide +kernel)⟩
  | n + 4, e => cases e
section
variable {P : Program} {w : World} {K : PySem.W.Frag} {mg : Str → Option Value} {base : Heap}
def spNm : Sp := fun vs H Q _ => ∃ (s c : Addr) (k : Nat), vs = [.ref s, .int k] ∧ StAt H s c ∧ k < 200 ∧ ∀ (H' : Hp) (x : Str), (k < 10 → NmK k x) → x.length ≤ 20 → StAt H' s c → Kp s c H H' → Q (.str x) H'
theorem ok_nm {f : Addr} {fd : FuncData} (F : Fun K "_law_name" "_law_name" sName f fd) (T : Bl mg) (D1 : Df P w K mg base CX0 1 "_law_draw" ["state", "many"] spDraw) (D2 : Df P w K mg base CX0 2 "_law_pick" ["state", "row"] (spPick K)) : FnOk P w K mg base CX0 3 f fd ["state", "k"] spNm := by
  obtain ⟨f1, fd1, G1, g1, k1, b1⟩ := D1.ex
  obtain ⟨f2, fd2, G2, g2, k2, b2⟩ := D2.ex
  refine F.ok scName (fun vs H Q E h => ?_) (fun cdv A outer s0 H vs Q E hr h => ?_)
  · obtain ⟨s, c, k, rfl, _⟩ := h
    rfl
  · obtain ⟨s, c, k, rfl, hS, hk, q⟩ := h
    have nd := scName.nd
    have hr1 : Room 1 _ := hr.mono (by omega)
    refine ⟨_, pss_cons (ps_set (i := 2) nd rfl (.inl rfl) pe_str)
      (pss_cons (ps_set (i := 3) nd rfl (.inl rfl) (pe_ix ix_str (pv 2) (pe_call G1 hr1 (by rfl) g1 k1 b1 .nil pass0 (pa_cons (pv 0) (pa_cons pe_int pa_nil))) (fun _ _ => rfl)))
      (pss_cons (ps_for PassesOwn.never rfl (pi_range1 (by rfl) T.zRange (pa_cons (pe_call G1 hr1 (by rfl) g1 k1 b1 .nil pass0 (pa_cons (pv 0) (pa_cons pe_int pa_nil))) pa_nil)) (pg_name (i := 4) nd rfl (.inl rfl))
        (pss_one (ps_set (i := 3) nd rfl (.inl rfl) (pe_op op_add_str (pv 3) (pe_call G2 hr (by rfl) g2 k2 b2 .nil pass0 (pa_cons (pv 0) (pa_cons (pe_lst (pa_cons pe_str (pa_cons pe_str (pa_cons pe_str (pa_cons pe_str pa_nil))))) pa_nil)))))))
      (pss_cons (ps_set (i := 3) nd rfl (.inl rfl) (pe_op op_add_str (pv 3) (pe_callTy call_str_int (by rfl) T.zStr (by decide +kernel) (pa_cons (pv 1) pa_nil))))
      (pss_cons (ps_for PassesOwn.never rfl (pi_range1 (by rfl) T.zRange (pa_cons (pe_call G1 hr1 (by rfl) g1 k1 b1 .nil pass0 (pa_cons (pv 0) (pa_cons pe_int pa_nil))) pa_nil)) (pg_name (i := 4) nd rfl (.inl rfl))
        (pss_one (ps_set (i := 3) nd rfl (.inl rfl) (pe_op op_add_str (pv 3) (pe_call G2 hr (by rfl) g2 k2 b2 .nil pass0 (pa_cons (pv 0) (pa_cons (pe_lst (pa_cons pe_str (pa_cons pe_str (pa_cons pe_str (pa_cons pe_str pa_nil))))) pa_nil)))))))
      (pss_one (ps_ret (pv 3))))))), ?_⟩
    refine ⟨_, rfl, _, rfl, s, c, 52, rfl, hS, by decide, by decide, fun H1 r r0 r1 hS1 kp1 => ?_⟩
    obtain ⟨c0, hc0, e0⟩ := at_list (t := letters) r0 (by rw [len52]; omega)
    refine ⟨_, _, _, rfl, rfl, by decide +kernel, e0, ?_⟩
    refine ⟨_, rfl, s, c, 7, rfl, hS1, by decide, by decide, fun H2 r2 r20 r21 hS2 kp2 => ⟨r2, rfl, by omega, by omega, ?_⟩⟩
    refine for_range (lo := 0) (n := r2.toNat) (fun i σ H' => ∃ (m : List Nat) (o : Option V), σ = [some (.ref s), some (.int (k : Nat)), some (.str lettersS), some (.str (S (c0 :: m))), o] ∧ (∀ c ∈ m, c ∈ runs) ∧ m.length = i ∧ StAt H' s c ∧ Kp s c H H') ⟨[], none, rfl, (fun c h => nomatch h), rfl, hS2, kp1.trans kp2⟩ ?_ ?_
    · rintro i σ H' hi ⟨m, o, rfl, hm, hl, hS', kp'⟩
      refine ⟨_, rfl, _, rfl, by show 4 ≤ sizeLine; decide, fun p hp => ?_⟩
      have n1 := hS'.neS hp
      refine ⟨s, c, p, _, rfl, hS'.new hp, SqL.of upd_same, n1.1, n1.2, (by show 0 < 4; decide), (by show 4 ≤ 1000; decide), fun H3 i3 x3 hx3 st3 kp3 => ?_⟩
      obtain ⟨c3, hc3, rfl⟩ := run_pick hx3
      refine ⟨_, _, rfl, rfl, ?_, m ++ [c3], some (.int (0 + (i : Int))), ?_, ?_, by rw [List.length_append, hl]; rfl, st3, (kp'.trans (Kp.new hp)).trans kp3⟩
      · rw [S_len, S_len, sizeLine_eq, List.length_cons, List.length_cons, List.length_nil]
        omega
      · show ([_, _, _, some (V.str (S (c0 :: m) ++ S [c3])), _] : L2.St) = _
        rw [S_cat]
        rfl
      · intro y hy
        rcases List.mem_append.mp hy with h | h
        · exact hm y h
        · rw [List.mem_singleton.mp h]
          exact hc3
    rintro σ H3 ⟨m1, o, rfl, hm1, hl1, hS3, kp3⟩
    have hd := num_len k hk
    refine ⟨_, rfl, _, rfl, _, rfl, by rw [Int.natAbs_natCast]; exact log_ok k hk, _, _, rfl, rfl, ?_, ?_⟩
    · rw [S_len, sizeLine_eq, List.length_cons]
      omega
    have ed : ∃ ds : List Nat, (toString ((k : Nat) : Int) : Str) = S ds ∧ ds.length ≤ 3 ∧ (k < 10 → ds = [48 + k]) := by
      by_cases h10 : k < 10
      · exact ⟨[48 + k], num_one k h10, by show 1 ≤ 3; decide, fun _ => rfl⟩
      · refine ⟨(toString ((k : Nat) : Int) : Str).cps.toList, (S_tl _).symm, ?_, fun h => absurd h h10⟩
        rw [← S_len, S_tl]
        exact hd
    obtain ⟨ds, eds, hds, hd10⟩ := ed
    refine ⟨_, rfl, s, c, 7, rfl, hS3, by decide, by decide, fun H4 r4 r40 r41 hS4 kp4 => ⟨r4, rfl, by omega, by omega, ?_⟩⟩
    refine for_range (lo := 0) (n := r4.toNat) (fun i σ H' => ∃ (m : List Nat) (o : Option V), σ = [some (.ref s), some (.int (k : Nat)), some (.str lettersS), some (.str (S (c0 :: (m1 ++ (ds ++ m))))), o] ∧ (∀ c ∈ m, c ∈ runs) ∧ m.length = i ∧ StAt H' s c ∧ Kp s c H H') ⟨[], o, ?_, (fun c h => nomatch h), rfl, hS4, kp3.trans kp4⟩ ?_ ?_
    · show ([_, _, _, some (V.str (S (c0 :: m1) ++ toString ((k : Nat) : Int))), _] : L2.St) = _
      rw [eds, S_cat, List.append_nil]
      rfl
    · rintro i σ H' hi ⟨m, o, rfl, hm, hl, hS', kp'⟩
      refine ⟨_, rfl, _, rfl, by show 4 ≤ sizeLine; decide, fun p hp => ?_⟩
      have n1 := hS'.neS hp
      refine ⟨s, c, p, _, rfl, hS'.new hp, SqL.of upd_same, n1.1, n1.2, (by show 0 < 4; decide), (by show 4 ≤ 1000; decide), fun H3 i3 x3 hx3 st3 kp3 => ?_⟩
      obtain ⟨c3, hc3, rfl⟩ := run_pick hx3
      refine ⟨_, _, rfl, rfl, ?_, m ++ [c3], some (.int (0 + (i : Int))), ?_, ?_, by rw [List.length_append, hl]; rfl, st3, (kp'.trans (Kp.new hp)).trans kp3⟩
      · rw [S_len, S_len, sizeLine_eq, List.length_cons, List.length_append, List.length_append, List.length_cons, List.length_nil]
        omega
      · show ([_, _, _, some (V.str (S (c0 :: (m1 ++ (ds ++ m))) ++ S [c3])), _] : L2.St) = _
        rw [S_cat, List.cons_append, List.append_assoc, List.append_assoc]
      · intro y hy
        rcases List.mem_append.mp hy with h | h
        · exact hm y h
        · rw [List.mem_singleton.mp h]
          exact hc3
    · rintro σ H5 ⟨m2, o, rfl, hm2, hl2, hS5, kp5⟩
      refine ⟨_, rfl, q H5 _ (fun h10 => ⟨c0, m1, m2, by rw [hd10 h10]; rfl, hc0, hm1, hm2, by omega, by omega⟩) ?_ hS5 kp5⟩
      rw [S_len, List.length_cons, List.length_append, List.length_append]
      omega
end
end Pk
set_option Elab.async false
set_option linter.all false
set_option maxRecDepth 100000
set_option maxHeartbeats 4000000
namespace Pk
open PySem PySem.Spec PyProof.Rows L2 SX GxR Tk
section
variable {P : Program} {w : World} {K : PySem.W.Frag} {mg : Str → Option Value} {base : Heap}
def spFs (K : PySem.W.Frag) : Sp := fun vs H Q _ => ∃ (s c : Addr) (G : Hp) (bits : Nat), vs = [.ref s, .int bits] ∧ Sg G H s c ∧ 1 ≤ bits ∧ bits ≤ 128 ∧ ∀ (H' G' : Hp) (p : Addr) (fs : List Fl), Sg G' H' s c → Gr G G' H → Kp s c H H' → Dr G' (.ref p) (flsD fs) → WfG fs → total fs = bits → 1 ≤ fs.length → Q (.ref p) H'
theorem ok_fs {f : Addr} {fd : FuncData} (F : Fun K "_law_fields" "_law_fields" sFields f fd) (T : Bl mg) (D2 : Df P w K mg base CX0 2 "_law_pick" ["state", "row"] (spPick K)) (D3 : Df P w K mg base CX0 3 "_law_name" ["state", "k"] spNm) : FnOk P w K mg base CX0 4 f fd ["state", "bits"] (spFs K) := by
  obtain ⟨f2, fd2, G2, g2, k2, b2⟩ := D2.ex
  obtain ⟨f3, fd3, G3, g3, k3, b3⟩ := D3.ex
  refine F.ok scFields (fun vs H Q E h => ?_) (fun cdv A outer s0 H vs Q E hr h => ?_)
  · obtain ⟨s, c, G, bits, rfl, _⟩ := h
    rfl
  · obtain ⟨s, c, G, bits, rfl, C, hb1, hb2, q⟩ := h
    have nd := scFields.nd
    have hr2 : Room 2 _ := hr.mono (by omega)
    refine ⟨_, pss_cons (ps_set (i := 2) nd rfl (.inl rfl) (pe_lst pa_nil))
      (pss_cons (ps_set (i := 3) nd rfl (.inl rfl) (pv 1))
      (pss_cons (ps_while PassesOwn.never (pt_cmpR op_gt (pv 3) pe_int (nomark _))
        (pss_cons (ps_set (i := 4) nd rfl (.inl rfl) (pe_callB (call_min2 rfl) (by rfl) T.zMin (by decide +kernel) (pa_cons (pv 3) (pa_cons (pe_call G2 hr2 (by rfl) g2 k2 b2 .nil pass0 (pa_cons (pv 0) (pa_cons (pe_lst (pa_cons pe_int (pa_cons pe_int (pa_cons pe_int (pa_cons pe_int (pa_cons pe_int (pa_cons pe_int (pa_cons pe_int (pa_cons pe_int pa_nil))))))))) pa_nil))) pa_nil))))
        (C8.pss_cut (ps_if (pt_cmpR op_eq (pe_callB call_len_seq (by rfl) T.zLen PySem.boot_len (pa_cons (pv 2) pa_nil)) pe_int (nomark _)) (pss_one (ps_set (i := 4) nd rfl (.inl rfl) (pe_callB (call_min2 rfl) (by rfl) T.zMin (by decide +kernel) (pa_cons pe_int (pa_cons (pv 3) pa_nil))))) pss_nil)
        (pss_cons (ps_expr (pe_bm PySem.F.plainAttrs_list PySem.F.slot_list_append PySem.F.type_list_append mt_append (pv 2) (pa_cons (pe_tup (pa_cons (pe_call G3 hr (by rfl) g3 k3 b3 .nil pass0 (pa_cons (pv 0) (pa_cons (pe_callB call_len_seq (by rfl) T.zLen PySem.boot_len (pa_cons (pv 2) pa_nil)) pa_nil))) (pa_cons (pv 4) pa_nil))) pa_nil)))
        (pss_one (ps_set (i := 3) nd rfl (.inl rfl) (pe_op op_sub (pv 3) (pv 4))))))))
      (pss_one (ps_ret (pv 2))))), ?_⟩
    refine setnil_rd fun pf H1 hpf s1 e1 => ?_
    have nf := C.st.neS hpf
    have C1 := C.same s1
    have g1' : G pf = none := C.sub.free hpf
    refine ⟨_, rfl, ?_⟩
    refine ⟨fun m σ H' => ∃ (fs : List Fl) (xs : List V) (G' : Hp) (o : Option V), σ = [some (.ref s), some (.int (bits : Nat)), some (.ref pf), some (.int (m : Nat)), o] ∧ Sg G' H' s c ∧ Gr G G' H ∧ G' pf = none ∧ H' pf = some (.lst xs) ∧ DrAll G' xs (fs.map fun f => .tuple (flL f)) ∧ WfG fs ∧ total fs + m = bits ∧ Kp s c H H',
      ⟨bits, [], [], G, none, rfl, C1, Gr.refl _ _, g1', e1, .nil, (fun j f h => by cases h), by show 0 + bits = bits; omega, Kp.same s1⟩, ?_⟩
    rintro m σ H' ⟨fs, xs, G', o, rfl, C', gr', gp', e', hx, hw, ht, kp'⟩
    have hlen := drAll_len hx
    rw [List.length_map] at hlen
    have hlt := len_total hw
    refine ⟨_, rfl, _, _, rfl, rfl, _, rfl, ?_⟩
    by_cases hm : m = 0
    · subst hm
      refine iteDF (by omega) ⟨_, rfl, ?_⟩
      have hnz : 1 ≤ fs.length := by
        cases fs with
        | nil => 
          have : (0 : Nat) + 0 = bits := ht
          omega
        | cons f r => exact Nat.succ_le_succ (Nat.zero_le _)
      exact q H' _ pf fs (C'.frz e' nf) (gr'.put hpf gp') kp' (.lst upd_same (drAll_sub (same_new2 gp') hx)) hw (by omega) hnz
    refine iteDT (by omega) ?_
    refine ⟨fun σ' H' => ∃ m', m' < m ∧ ∃ (fs : List Fl) (xs : List V) (G' : Hp) (o : Option V), σ' = [some (.ref s), some (.int (bits : Nat)), some (.ref pf), some (.int (m' : Nat)), o] ∧ Sg G' H' s c ∧ Gr G G' H ∧ G' pf = none ∧ H' pf = some (.lst xs) ∧ DrAll G' xs (fs.map fun f => .tuple (flL f)) ∧ WfG fs ∧ total fs + m' = bits ∧ Kp s c H H',
      fun _ _ h => h, ?_⟩
    refine ⟨_, rfl, _, rfl, by show 8 ≤ sizeLine; decide, fun p hp => ?_⟩
    have n1 := C'.st.neS hp
    refine ⟨s, c, p, _, rfl, C'.st.new hp, SqL.of upd_same, n1.1, n1.2, (by show 0 < 8; decide), (by show 8 ≤ 1000; decide), fun H2 i2 x2 hx2 st2 kp2 => ?_⟩
    obtain ⟨pk, hpk, rfl⟩ := pick_ints (ns := [1, 2, 3, 4, 8, 8, 16, 32]) hx2
    have hpkb : 1 ≤ pk ∧ pk ≤ 32 := by
      simp only [List.mem_cons, List.not_mem_nil, or_false] at hpk
      omega
    have kq2 := (Kp.new hp).trans kp2
    have C2 := C'.kp kq2 st2
    have e2 := kq2 _ _ nf.1 nf.2 e'
    refine ⟨_, _, rfl, ?_⟩
    refine ⟨fun σ H => ∃ wd : Nat, 1 ≤ wd ∧ wd ≤ 32 ∧ wd ≤ m ∧ H = H2 ∧ σ = [some (.ref s), some (.int (bits : Nat)), some (.ref pf), some (.int (m : Nat)), some (.int (wd : Nat))], ?_, ?_⟩
    · refine ⟨_, rfl, pf, xs, rfl, .inl (SqL.of e2), rfl, _, rfl, ?_⟩
      rw [dcInt]
      refine iteD (fun _ => ⟨_, rfl, _, _, rfl, ?_⟩) fun _ => ?_
      · by_cases h : (m : Int) < 32
        · rw [if_pos h]
          exact ⟨m, by omega, by omega, Nat.le_refl _, rfl, rfl⟩
        · rw [if_neg h]
          exact ⟨32, by decide, by decide, by omega, rfl, rfl⟩
      · by_cases h : pk < (m : Int)
        · rw [if_pos h]
          refine ⟨pk.toNat, by omega, by omega, by omega, rfl, ?_⟩
          rw [show ((pk.toNat : Nat) : Int) = pk by omega]
          rfl
        · rw [if_neg h]
          exact ⟨m, by omega, by omega, Nat.le_refl _, rfl, rfl⟩
    · rintro σ H3 ⟨wd, hw1, hw2, hw3, rfl, rfl⟩
      refine ⟨_, rfl, .inl ⟨rfl, _, SqL.of e2⟩, _, rfl, _, rfl, pf, xs, rfl, .inl (SqL.of e2), s, c, xs.length, rfl, C2.st, by omega, fun H4 x hn hxl st4 kp4 => ?_⟩
      have C4 := C2.kp kp4 st4
      have e4 := kp4 _ _ nf.1 nf.2 e2
      refine ⟨_, rfl, by show 2 ≤ sizeLine; decide, fun t ht' => ?_⟩
      have C5 := C4.new (o := .tup [V.str x, V.int (wd : Nat)]) ht'
      have s5 := same_new2 (o := .tup [V.str x, V.int (wd : Nat)]) (C4.sub.free ht')
      have e5 := (same_new (o := .tup [V.str x, V.int (wd : Nat)]) ht') _ _ e4
      have kq5 := (kp'.trans kq2).trans (kp4.trans (Kp.new (o := .tup [V.str x, V.int (wd : Nat)]) ht'))
      have ntf : t ≠ pf := Ne.symm (ne_of_none e4 ht')
      have tH : H t = none := by
        cases e : H t with
        | none => rfl
        | some o =>
          have n := C4.st.neS ht'
          have := ((kp'.trans kq2).trans kp4) t o n.1 n.2 e
          rw [ht'] at this
          cases this
      have dt : Dr (upd G' t (.tup [V.str x, V.int (wd : Nat)])) (.ref t) (.tuple (flL (x, wd))) := .tup upd_same (.cons (.str _) (.cons (.int _) .nil))
      have g5 : (upd G' t (.tup [V.str x, V.int (wd : Nat)])) pf = none := by rw [upd_ne (Ne.symm ntf)]; exact gp'
      have gr5 := gr'.put (o := .tup [V.str x, V.int (wd : Nat)]) tH (C4.sub.free ht')
      generalize upd H4 t (.tup [V.str x, V.int (wd : Nat)]) = H5 at C5 e5 kq5 ⊢
      generalize upd G' t (.tup [V.str x, V.int (wd : Nat)]) = G5 at C5 s5 dt g5 gr5
      refine ⟨pf, xs, _, rfl, rfl, e5, small1000 (by omega), _, rfl, _, rfl, _, _, rfl, rfl, m - wd, by omega, fs ++ [(x, wd)], xs ++ [.ref t], G5, some (.int (wd : Nat)), ?_, C5.set g5 nf, gr5, g5, upd_same, ?_, hw.app (fun h => ?_) hxl hw1 hw2, ?_, ?_⟩
      · show ([_, _, _, some (V.int ((m : Int) - (wd : Int))), _] : L2.St) = _
        rw [show ((m : Int) - (wd : Int)) = ((m - wd : Nat) : Int) by omega]
      · rw [List.map_append]
        exact drAll_app (drAll_sub s5 hx) (.cons dt .nil)
      · rw [hlen] at hn
        exact hn h
      · rw [total_app]
        show total fs + wd + (m - wd) = bits
        omega
      · intro b o h1 h2 h3
        rw [upd_ne (ne_of_none h3 hpf)]
        exact kq5 b o h1 h2 h3
end
end Pk
set_option Elab.async false
set_option linter.all false
set_option maxRecDepth 100000
set_option maxHeartbeats 4000000
namespace Pk
open PySem PySem.Spec PyProof.Rows L2 SX GxR Tk
theorem kp_none {H H' : Hp} {s c t : Addr} (k : Kp s c H H') (st : StAt H' s c) (h : H' t = none) : H t = none := by
  cases e : H t with
  | none => rfl
  | some o =>
    have n := st.neS h
    have := k t o n.1 n.2 e
    rw [h] at this
    cases this
theorem Gr.kp {G G1 G2 H H1 : Hp} {s c : Addr} (a : Gr G G1 H) (b : Gr G1 G2 H1) (k : Kp s c H H1) (st : StAt H1 s c) : Gr G G2 H := a.trans b fun _ h => kp_none k st h
theorem wfH_app {hs : List Hd} {h : Hd} (w : WfH hs) (hn : NmK hs.length h.1) (hf : WfF h.2) : WfH (hs ++ [h]) := by
  intro j g e
  rw [List.getElem?_append] at e
  by_cases hj : j < hs.length
  · rw [if_pos hj] at e
    exact w j g e
  · rw [if_neg hj] at e
    have : j - hs.length = 0 := by
      rcases Nat.eq_zero_or_pos (j - hs.length) with h | h
      · exact h
      · rw [List.getElem?_eq_none (by show 1 ≤ _; omega)] at e
        cases e
    rw [this] at e
    cases e
    obtain rfl : j = hs.length := by omega
    exact ⟨hn, hf⟩
section
variable {P : Program} {w : World} {K : PySem.W.Frag} {mg : Str → Option Value} {base : Heap}
def spHs (K : PySem.W.Frag) : Sp := fun vs H Q _ => ∃ (s c : Addr) (G : Hp), vs = [.ref s] ∧ Sg G H s c ∧ ∀ (H' G' : Hp) (p : Addr) (hs : List Hd), Sg G' H' s c → Gr G G' H → Kp s c H H' → Dr G' (.ref p) (hdsD hs) → WfH hs → 1 ≤ hs.length → hs.length ≤ 6 → Q (.ref p) H'
theorem ok_hs {f : Addr} {fd : FuncData} (F : Fun K "_law_headers" "_law_headers" sHds f fd) (T : Bl mg) (D1 : Df P w K mg base CX0 1 "_law_draw" ["state", "many"] spDraw) (D2 : Df P w K mg base CX0 2 "_law_pick" ["state", "row"] (spPick K)) (D3 : Df P w K mg base CX0 3 "_law_name" ["state", "k"] spNm) (D4 : Df P w K mg base CX0 4 "_law_fields" ["state", "bits"] (spFs K)) : FnOk P w K mg base CX0 5 f fd ["state"] (spHs K) := by
  obtain ⟨f1, fd1, G1, g1, k1, b1⟩ := D1.ex
  obtain ⟨f2, fd2, G2, g2, k2, b2⟩ := D2.ex
  obtain ⟨f3, fd3, G3, g3, k3, b3⟩ := D3.ex
  obtain ⟨f4, fd4, G4, g4, k4, b4⟩ := D4.ex
  refine F.ok scHds (fun vs H Q E h => ?_) (fun cdv A outer s0 H vs Q E hr h => ?_)
  · obtain ⟨s, c, G, rfl, _⟩ := h
    rfl
  · obtain ⟨s, c, G, rfl, C, q⟩ := h
    have nd := scHds.nd
    have hr1 : Room 1 _ := hr.mono (by omega)
    have hr2 : Room 2 _ := hr.mono (by omega)
    have hr3 : Room 3 _ := hr.mono (by omega)
    refine ⟨_, pss_cons (ps_set (i := 1) nd rfl (.inl rfl) (pe_lst pa_nil))
      (pss_cons (ps_for PassesOwn.never rfl (pi_range1 (by rfl) T.zRange (pa_cons (pe_op op_add pe_int (pe_call G1 hr1 (by rfl) g1 k1 b1 .nil pass0 (pa_cons (pv 0) (pa_cons (pe_call G2 hr2 (by rfl) g2 k2 b2 .nil pass0 (pa_cons (pv 0) (pa_cons (pe_lst (pa_cons pe_int (pa_cons pe_int (pa_cons pe_int (pa_cons pe_int pa_nil))))) pa_nil))) pa_nil)))) pa_nil)) (pg_name (i := 2) nd rfl (.inl rfl))
        (pss_cons (ps_set (i := 3) nd rfl (.inl rfl) (pe_op op_mul pe_int (pe_op op_add pe_int (pe_call G1 hr1 (by rfl) g1 k1 b1 .nil pass0 (pa_cons (pv 0) (pa_cons pe_int pa_nil))))))
        (C8.pss_cut (ps_if (pt_cmpR op_eq (pe_call G1 hr1 (by rfl) g1 k1 b1 .nil pass0 (pa_cons (pv 0) (pa_cons pe_int pa_nil))) pe_int (nomark _)) (pss_one (ps_set (i := 3) nd rfl (.inl rfl) pe_int)) pss_nil)
        (pss_cons (ps_set (i := 4) nd rfl (.inl rfl) (pe_call G4 hr (by rfl) g4 k4 b4 .nil pass0 (pa_cons (pv 0) (pa_cons (pv 3) pa_nil))))
        (pss_cons (ps_while PassesOwn.never (pt_cmpR op_gt (pe_callB call_len_seq (by rfl) T.zLen PySem.boot_len (pa_cons (pv 4) pa_nil)) pe_int (nomark _)) (pss_one (ps_set (i := 4) nd rfl (.inl rfl) (pe_call G4 hr (by rfl) g4 k4 b4 .nil pass0 (pa_cons (pv 0) (pa_cons pe_int pa_nil))))))
        (pss_one (ps_expr (pe_bm PySem.F.plainAttrs_list PySem.F.slot_list_append PySem.F.type_list_append mt_append (pv 1) (pa_cons (pe_tup (pa_cons pe_str (pa_cons (pe_call G3 hr3 (by rfl) g3 k3 b3 .nil pass0 (pa_cons (pv 0) (pa_cons (pv 2) pa_nil))) (pa_cons (pv 4) pa_nil)))) pa_nil)))))))))
      (pss_one (ps_ret (pv 1)))), ?_⟩
    refine setnil_rd fun ph H1 hph s1 e1 => ?_
    have nf := C.st.neS hph
    have C1 := C.same s1
    have gh : G ph = none := C.sub.free hph
    refine ⟨_, rfl, _, rfl, by show 4 ≤ sizeLine; decide, fun p hp => ?_⟩
    have n1 := C1.st.neS hp
    refine ⟨s, c, p, _, rfl, C1.st.new hp, SqL.of upd_same, n1.1, n1.2, (by show 0 < 4; decide), (by show 4 ≤ 1000; decide), fun H2 i2 x2 hx2 st2 kp2 => ?_⟩
    obtain ⟨pk, hpk, rfl⟩ := pick_ints (ns := [3, 3, 3, 6]) hx2
    have hpkb : 1 ≤ pk ∧ pk ≤ 6 := by
      simp only [List.mem_cons, List.not_mem_nil, or_false] at hpk
      omega
    have kq2 := (Kp.new hp).trans kp2
    have C2 := C1.kp kq2 st2
    have e2 := kq2 _ _ nf.1 nf.2 e1
    refine ⟨s, c, pk, rfl, st2, by omega, by omega, fun H3 r r0 r1 st3 kp3 => ⟨_, _, rfl, rfl, 1 + r, rfl, by omega, by omega, ?_⟩⟩
    have C3 := C2.kp kp3 st3
    have e3 := kp3 _ _ nf.1 nf.2 e2
    refine for_range (lo := 0) (n := (1 + r).toNat) (fun i σ H' => ∃ (hs : List Hd) (xs : List V) (G' : Hp) (o2 o3 o4 : Option V), σ = [some (.ref s), some (.ref ph), o2, o3, o4] ∧ Sg G' H' s c ∧ Gr G G' H ∧ G' ph = none ∧ H' ph = some (.lst xs) ∧ DrAll G' xs (hs.map fun h => .tuple (hdL h)) ∧ WfH hs ∧ hs.length = i ∧ Kp s c H H')
      ⟨[], [], G, none, none, none, rfl, C3, Gr.refl _ _, gh, e3, .nil, (fun j f h => by cases h), rfl, ((Kp.same s1).trans kq2).trans kp3⟩ ?_ ?_
    case refine_2 =>
      rintro σ H' ⟨hs, xs, G', o2, o3, o4, rfl, C', gr', gp', e', hx, hw, hl, kp'⟩
      exact ⟨_, rfl, q H' _ ph hs (C'.frz e' nf) (gr'.put hph gp') kp' (.lst upd_same (drAll_sub (same_new2 gp') hx)) hw (by omega) (by omega)⟩
    rintro i σ H' hi ⟨hs, xs, G', o2, o3, o4, rfl, C', gr', gp', e', hx, hw, hl, kp'⟩
    have hlen := drAll_len hx
    rw [List.length_map] at hlen
    refine ⟨_, rfl, s, c, 3, rfl, C'.st, by decide, by decide, fun H4 r4 r40 r41 st4 kp4 => ⟨_, _, rfl, rfl, _, _, rfl, rfl, .inl ⟨by omega, by omega⟩, ?_⟩⟩
    have C4 := C'.kp kp4 st4
    have e4 := kp4 _ _ nf.1 nf.2 e'
    refine ⟨fun σ H5 => ∃ bits : Nat, 1 ≤ bits ∧ bits ≤ 128 ∧ bits % 8 = 0 ∧ Sg G' H5 s c ∧ Kp s c H H5 ∧ H5 ph = some (.lst xs) ∧ σ = [some (.ref s), some (.ref ph), some (.int (0 + (i : Int))), some (.int (bits : Nat)), o4], ?_, ?_⟩
    · refine ⟨_, rfl, s, c, 12, rfl, C4.st, by decide, by decide, fun H5 r5 r50 r51 st5 kp5 => ⟨rfl, _, rfl, ?_⟩⟩
      have C5 := C4.kp kp5 st5
      have e5 := kp5 _ _ nf.1 nf.2 e4
      have kq := (kp'.trans kp4).trans kp5
      rw [dcInt]
      refine iteD (fun _ => ⟨128, by decide, by decide, by decide, C5, kq, e5, rfl⟩) fun _ => ⟨(8 * (1 + r4)).toNat, by omega, by omega, by omega, C5, kq, e5, ?_⟩
      rw [show (((8 * (1 + r4)).toNat : Nat) : Int) = 8 * (1 + r4) by omega]
      rfl
    rintro σ H5 ⟨bits, hb1, hb2, hb8, C5, kq5, e5, rfl⟩
    refine ⟨_, rfl, _, rfl, s, c, G', bits, rfl, C5, hb1, hb2, fun H6 G6 pf fs C6 gr6 kp6 d6 hg6 ht6 hl6 => ?_⟩
    have g6 : G6 ph = none := gr6.free gp' (by rw [e5]; exact fun z => nomatch z)
    have e6 := kp6 _ _ nf.1 nf.2 e5
    refine ⟨fun m σ H' => ∃ (fs : List Fl) (pf : Addr) (G7 : Hp), σ = [some (.ref s), some (.ref ph), some (.int (0 + (i : Int))), some (.int (bits : Nat)), some (.ref pf)] ∧ Sg G7 H' s c ∧ Gr G G7 H ∧ Same G' G7 ∧ G7 ph = none ∧ H' ph = some (.lst xs) ∧ Dr G7 (.ref pf) (flsD fs) ∧ WfG fs ∧ total fs % 8 = 0 ∧ total fs ≤ 128 ∧ 1 ≤ fs.length ∧ (m = 0 → fs.length ≤ 8) ∧ Kp s c H H',
      ⟨fs.length - 8, fs, pf, G6, rfl, C6, gr'.kp gr6 kq5 C5.st, gr6.sub, g6, e6, d6, hg6, by rw [ht6]; exact hb8, by rw [ht6]; exact hb2, hl6, fun h => by omega, kq5.trans kp6⟩, ?_⟩
    rintro m σ H7 ⟨fs, pf, G7, rfl, C7, gr7, sG7, g7, e7, d7, hg7, ht8, ht128, hl7, hm7, kp7⟩
    obtain ⟨_, ys, ep, y1, y2⟩ := dr_lst d7
    cases ep
    have hly := drAll_len y2
    rw [List.length_map] at hly
    refine ⟨_, rfl, pf, ys, rfl, .inl (sqL_subz C7.sub y1), _, _, rfl, rfl, _, rfl, ?_⟩
    by_cases h8 : fs.length ≤ 8
    · refine iteDF (by omega) ?_
      -- the header
      refine ⟨_, rfl, .inl ⟨rfl, _, SqL.of e7⟩, _, rfl, _, rfl, s, c, i, by rw [Int.zero_add]; rfl, C7.st, by omega, fun H8 x hn hxl st8 kp8 => ?_⟩
      have C8 := C7.kp kp8 st8
      have e8 := kp8 _ _ nf.1 nf.2 e7
      refine ⟨_, rfl, by show 3 ≤ sizeLine; decide, fun t ht => ?_⟩
      have kq8 := kp7.trans kp8
      have tH := kp_none kq8 C8.st ht
      have C9 := C8.new (o := .tup [V.str "header", V.str x, V.ref pf]) ht
      have s9 := same_new2 (o := .tup [V.str "header", V.str x, V.ref pf]) (C8.sub.free ht)
      have e9 := (same_new (o := .tup [V.str "header", V.str x, V.ref pf]) ht) _ _ e8
      have kq9 := kq8.trans (Kp.new (o := .tup [V.str "header", V.str x, V.ref pf]) ht)
      have g9 : (upd G7 t (.tup [V.str "header", V.str x, V.ref pf])) ph = none := by rw [upd_ne (ne_of_none e8 ht)]; exact g7
      have gr9 := gr7.put (o := .tup [V.str "header", V.str x, V.ref pf]) tH (C8.sub.free ht)
      have dt : Dr (upd G7 t (.tup [V.str "header", V.str x, V.ref pf])) (.ref t) (.tuple (hdL (x, fs))) := .tup upd_same (.cons (.str _) (.cons (.str _) (.cons (dr_sub s9 d7) .nil)))
      generalize upd H8 t (.tup [V.str "header", V.str x, V.ref pf]) = H9 at C9 e9 kq9 ⊢
      generalize upd G7 t (.tup [V.str "header", V.str x, V.ref pf]) = G9 at C9 s9 dt g9 gr9
      refine ⟨ph, xs, _, rfl, rfl, e9, small1000 (by omega), hs ++ [(x, fs)], xs ++ [.ref t], G9, some (.int (0 + (i : Int))), some (.int (bits : Nat)), some (.ref pf), rfl, C9.set g9 nf, gr9, g9, upd_same, ?_, wfH_app hw (by rw [hl]; exact hn (by omega)) ⟨hl7, h8, hg7, ht8, ht128⟩, by rw [List.length_append, hl]; rfl, ?_⟩
      · rw [List.map_append]
        exact drAll_app (drAll_sub (sG7.trans s9) hx) (.cons dt .nil)
      · intro b o h1 h2 h3
        rw [upd_ne (ne_of_none h3 hph)]
        exact kq9 b o h1 h2 h3
    · refine iteDT (by omega) ?_
      refine ⟨fun σ' H' => ∃ m', m' < m ∧ ∃ (fs : List Fl) (pf : Addr) (G7 : Hp), σ' = [some (.ref s), some (.ref ph), some (.int (0 + (i : Int))), some (.int (bits : Nat)), some (.ref pf)] ∧ Sg G7 H' s c ∧ Gr G G7 H ∧ Same G' G7 ∧ G7 ph = none ∧ H' ph = some (.lst xs) ∧ Dr G7 (.ref pf) (flsD fs) ∧ WfG fs ∧ total fs % 8 = 0 ∧ total fs ≤ 128 ∧ 1 ≤ fs.length ∧ (m' = 0 → fs.length ≤ 8) ∧ Kp s c H H', fun _ _ h => h, ?_⟩
      refine ⟨_, rfl, s, c, G7, 8, rfl, C7, by decide, by decide, fun H8 G8 pf2 fs2 C8 gr8 kp8 d8 hg8 ht8' hl8 => ?_⟩
      have hle := len_total hg8
      exact ⟨0, by rcases Nat.eq_zero_or_pos m with h | h; exact absurd (hm7 h) h8; exact h, fs2, pf2, G8, rfl, C8, gr7.kp gr8 kp7 C7.st, sG7.trans gr8.sub, gr8.free g7 (by rw [e7]; exact fun z => nomatch z), kp8 _ _ nf.1 nf.2 e7, d8, hg8, by rw [ht8'], by rw [ht8']; decide, hl8, fun _ => by omega, kp7.trans kp8⟩
end
end Pk
set_option Elab.async false
set_option linter.all false
set_option maxRecDepth 100000
set_option maxHeartbeats 4000000
namespace Pk
open PySem PySem.Spec PyProof.Rows L2 SX GxR Tk
def hRefs (h : Hd) : List Rf := h.2.map fun f => (h.1, f.1, f.2)
def mRefs (m : List Fl) : List Rf := m.map fun f => (Str.ofString "meta", f.1, f.2)
section
variable {P : Program} {w : World} {K : PySem.W.Frag} {mg : Str → Option Value} {base : Heap}
/-- a turn of [(x, name, width) for name, width in fields] -/
theorem ref_turn {G G' H' : Hp} {s c D t : Addr} {xs : List V} {rs : List Rf} {o n : Str} {wd : Nat} (C : Sg G' H' s c) (sG : Same G G') (gD : G' D = none) (eD : H' D = some (.lst xs)) (hx : DrAll G' xs (rs.map fun r => .tuple (rfL r))) (nD : D ≠ s ∧ D ≠ c) (ht : H' t = none) :
    (upd H' t (.tup [V.str o, V.str n, V.int (wd : Nat)])) D = some (.lst xs) ∧ Sg (upd G' t (.tup [V.str o, V.str n, V.int (wd : Nat)])) (upd (upd H' t (.tup [V.str o, V.str n, V.int (wd : Nat)])) D (.lst (xs ++ [.ref t]))) s c ∧ Same G (upd G' t (.tup [V.str o, V.str n, V.int (wd : Nat)])) ∧
      (upd G' t (.tup [V.str o, V.str n, V.int (wd : Nat)])) D = none ∧ DrAll (upd G' t (.tup [V.str o, V.str n, V.int (wd : Nat)])) (xs ++ [.ref t]) ((rs ++ [(o, n, wd)]).map fun r => .tuple (rfL r)) := by
  have C9 := C.new (o := .tup [V.str o, V.str n, V.int (wd : Nat)]) ht
  have s9 := same_new2 (o := .tup [V.str o, V.str n, V.int (wd : Nat)]) (C.sub.free ht)
  have e9 := (same_new (o := .tup [V.str o, V.str n, V.int (wd : Nat)]) ht) _ _ eD
  have g9 : (upd G' t (.tup [V.str o, V.str n, V.int (wd : Nat)])) D = none := by rw [upd_ne (ne_of_none eD ht)]; exact gD
  refine ⟨e9, C9.set g9 nD, sG.trans s9, g9, ?_⟩
  rw [List.map_append]
  exact drAll_app (drAll_sub s9 hx) (.cons (.tup upd_same (.cons (.str _) (.cons (.str _) (.cons (.int _) .nil)))) .nil)
def spRs (K : PySem.W.Frag) : Sp := fun vs H Q _ => ∃ (v1 v2 : V) (s c : Addr) (G : Hp) (hs : List Hd) (m : List Fl), vs = [v1, v2] ∧ Sg G H s c ∧ Dr G v1 (hdsD hs) ∧ Dr G v2 (flsD m) ∧ hs.length ≤ 6 ∧ (∀ h ∈ hs, h.2.length ≤ 8) ∧ m.length ≤ 10 ∧
  ∀ (H' G' : Hp) (p : Addr), Sg G' H' s c → Same G G' → Same H H' → Dr G' (.ref p) (rfsD (refsOf hs m)) → Q (.ref p) H'
theorem refs_len : ∀ hs : List Hd, (∀ h ∈ hs, h.2.length ≤ 8) → (hs.flatMap hRefs).length ≤ 8 * hs.length
  | [], _ => Nat.zero_le _
  | h :: r, k => by
    have h1 := k h List.mem_cons_self
    have h2 := refs_len r fun x hx => k x (List.mem_cons_of_mem _ hx)
    rw [List.flatMap_cons, List.length_append, List.length_cons]
    have : (hRefs h).length = h.2.length := List.length_map ..
    omega
theorem ok_rs {f : Addr} {fd : FuncData} (F : Fun K "_law_refs" "_law_refs" sRefs f fd) : FnOk P w K mg base CX0 1 f fd ["headers", "meta"] (spRs K) := by
  refine F.ok scRefs (fun vs H Q E h => ?_) (fun cdv A outer s0 H vs Q E hr h => ?_)
  · obtain ⟨v1, v2, s, c, G, hs, m, rfl, _⟩ := h
    rfl
  · obtain ⟨v1, v2, s, c, G, hs, m, rfl, C, d1, d2, hl, hf, hm, q⟩ := h
    have nd := scRefs.nd
    refine ⟨_, pss_cons (ps_set (i := 2) nd rfl (.inl rfl) (pe_lst (pa_cons (pe_tup (pa_cons pe_str (pa_cons pe_str (pa_cons pe_int pa_nil)))) pa_nil)))
      (pss_cons (ps_for PassesOwn.never rfl (pi_list (pv 0)) (pg_name (i := 3) nd rfl (.inr rfl))
        (pss_one (ps_set (i := 2) nd rfl (.inl rfl) (pe_op op_cat (pv 2) (pe_lc (own := [("name", 4), ("width", 5)]) (g := gTup K 2 (gCons (gName 4) (gCons (gName 5) gNil))) (tt := tYes) rfl nd (pi_list (pe_ix ix_tup (pv 3) pe_int (fun _ _ => rfl))) (blkOk_by (N := NRe) (sc := defScope sRefs) (by decide +kernel))
          (fun _ _ _ _ _ => pg_tup rfl (pgs_cons (pg_name (i := 4) nd rfl (Or.inl rfl)) (pgs_cons (pg_name (i := 5) nd rfl (Or.inl rfl)) pgs_nil))) (fun _ _ _ _ _ => pts_nil) (fun _ _ _ _ _ => pe_tup (pa_cons (pe_ix (r := rIxT K) ix_tup (pv 3) pe_int (fun _ _ => rfl)) (pa_cons (pv 4) (pa_cons (pv 5) pa_nil)))))))))
      (pss_one (ps_ret (pe_op op_cat (pv 2) (pe_lc (own := [("name", 4), ("width", 5)]) (g := gTup K 2 (gCons (gName 4) (gCons (gName 5) gNil))) (tt := tYes) rfl nd (pi_list (pv 1)) (blkOk_by (N := NRe) (sc := defScope sRefs) (by decide +kernel))
          (fun _ _ _ _ _ => pg_tup rfl (pgs_cons (pg_name (i := 4) nd rfl (Or.inl rfl)) (pgs_cons (pg_name (i := 5) nd rfl (Or.inl rfl)) pgs_nil))) (fun _ _ _ _ _ => pts_nil) (fun _ _ _ _ _ => pe_tup (pa_cons pe_str (pa_cons (pv 4) (pa_cons (pv 5) pa_nil))))))))), ?_⟩
    refine setlst_rz (ds := [.tuple (rfL (Str.ofString "packet", Str.ofString "port", 3))]) (by repeat (first | exact ZEs.nil | refine ZEs.cons ?_ ?_ | exact ZE.int _ | exact ZE.str _ | exact ZE.non | refine ZE.tup ?_ (Nat.le_of_ble_eq_true rfl) | refine ZE.lst ?_ (Nat.le_of_ble_eq_true rfl))) C (by decide) fun p0 vs0 G0 H0 C0 gr0 t0 e0 x0 => ?_
    have d1' := dr_sub gr0.sub d1
    obtain ⟨ph, ys, rfl, y1, y2⟩ := dr_lst d1'
    obtain ⟨pm, ms, rfl, m1, m2⟩ := dr_lst (dr_sub gr0.sub d2)
    have hly := drAll_len y2
    rw [List.length_map] at hly
    have hlm := drAll_len m2
    rw [List.length_map] at hlm
    refine ⟨_, rfl, ph, rfl, ⟨_, sqL_subz C0.sub y1⟩, for_list (K := K) (a := ph) (xs := ys) (fun i σ H' => ∃ (pr : Addr) (xs : List V) (G' : Hp) (o3 : Option V), σ = [some (.ref ph), some (.ref pm), some (.ref pr), o3, none, none] ∧ Sg G' H' s c ∧ Same G0 G' ∧ Same H0 H' ∧ G' pr = some (.lst xs) ∧ DrAll G' xs (((Str.ofString "packet", Str.ofString "port", 3) :: (hs.take i).flatMap hRefs).map fun r => .tuple (rfL r)))
      ⟨p0, vs0, G0, none, rfl, C0, Same.refl _, Same.refl _, e0, x0⟩ (fun i σ H' _ h => by
        obtain ⟨pr, xs, G', o3, rfl, C', s', _⟩ := h
        exact sqL_subz (s'.trans C'.sub) y1) ?_ ?_⟩
    · rintro i y σ H' hi ⟨pr, xs, G', o3, rfl, C', s', t', ep, hx⟩
      obtain ⟨dh, edh, hdh⟩ := drAll_val y2 hi
      rw [List.getElem?_map] at edh
      cases eh : hs[i]? with
      | none => rw [eh] at edh; cases edh
      | some h =>
      rw [eh] at edh
      cases edh
      obtain ⟨pq, zq, rfl, w1, w2⟩ := dr_tup hdh
      obtain ⟨z0, r, rfl, n0, w2⟩ := drAll_cons w2
      obtain ⟨z1, r, rfl, n1, w2⟩ := drAll_cons w2
      obtain ⟨z2, r, rfl, n2, w2⟩ := drAll_cons w2
      obtain rfl := drAll_nil w2
      obtain rfl := dr_str n1
      obtain ⟨pf, fs, rfl, f1, f2⟩ := dr_lst n2
      have hlf := drAll_len f2
      rw [List.length_map] at hlf
      have hf8 := hf h (List.mem_of_getElem? eh)
      have sq : ∀ {H2 : Hp}, Same G' H2 → SqT K H2 pq [z0, .str h.1, .ref pf] := fun k => sqT_subz (s'.trans k) w1
      refine ⟨_, rfl, _, rfl, pq, _, _, _, rfl, rfl, sq C'.sub, atI_nat (j := 2) rfl, pf, rfl, ⟨_, sqL_subz (s'.trans C'.sub) f1⟩, fun D hD => ?_⟩
      have nD := C'.st.neS hD
      have gD : G' D = none := C'.sub.free hD
      refine lc_list (K := K) (a := pf) (xs := fs) (fun j H2 => ∃ (zs : List V) (G2 : Hp), Sg G2 H2 s c ∧ Same G' G2 ∧ Same H' H2 ∧ G2 D = none ∧ H2 D = some (.lst zs) ∧ DrAll G2 zs (((h.2.take j).map fun f => (h.1, f.1, f.2)).map fun r => .tuple (rfL r))) ⟨[], G', C'.same (same_new hD), Same.refl _, same_new hD, gD, upd_same, .nil⟩ (fun j H2 _ hh => by
        obtain ⟨zs, G2, C2, s2, _⟩ := hh
        exact sqL_subz ((s'.trans s2).trans C2.sub) f1) ?_ ?_
      · rintro j y H2 hj ⟨zs, G2, C2, s2, t2, g2, e2, hz⟩
        obtain ⟨df, edf, hdf⟩ := drAll_val f2 hj
        rw [List.getElem?_map] at edf
        cases ef : h.2[j]? with
        | none => rw [ef] at edf; cases edf
        | some fl =>
        rw [ef] at edf
        cases edf
        obtain ⟨pt, zz, rfl, q1, q2⟩ := dr_tup hdf
        obtain ⟨a0, r, rfl, b0, q2⟩ := drAll_cons q2
        obtain ⟨a1, r, rfl, b1, q2⟩ := drAll_cons q2
        obtain rfl := drAll_nil q2
        obtain rfl := dr_str b0
        obtain rfl := dr_int b1
        have hzl := drAll_len hz
        rw [List.length_map, List.length_map, List.length_take] at hzl
        refine ⟨pt, _, rfl, sqT_subz ((s'.trans s2).trans C2.sub) q1, rfl, _, _, rfl, _, _, rfl, rfl, rfl, _, rfl, pq, _, _, _, rfl, rfl, sq (s2.trans C2.sub), atI_nat (j := 1) rfl, _, rfl, _, rfl, by show 3 ≤ sizeLine; decide, fun t ht => ?_⟩
        obtain ⟨r1, r2, r3, r4, r5⟩ := ref_turn (o := h.1) (n := fl.1) (wd := fl.2) C2 s2 g2 e2 hz nD ht
        refine ⟨_, r1, small1000 (by omega), _, _, r2, r3, ?_, r4, upd_same, ?_⟩
        · exact same_set (t2.trans (same_new ht)) hD
        · rw [List.take_add_one, ef, List.map_append]
          exact r5
      · rintro H2 ⟨zs, G2, C2, s2, t2, g2, e2, hz⟩
        rw [hlf, List.take_length] at hz
        have hxl := drAll_len hx
        have hzl := drAll_len hz
        have hrl := refs_len (hs.take i) fun x hx => hf x (List.mem_of_mem_take hx)
        rw [List.length_map, List.length_cons] at hxl
        rw [List.length_map, List.length_map] at hzl
        rw [List.length_take] at hrl
        refine ⟨pr, D, xs, zs, rfl, rfl, C2.sub _ _ (s2 _ _ ep), e2, Nat.le_of_lt (by have := small1000 (n := xs.length + zs.length) (by omega); exact this), fun l hl' => ?_⟩
        have CF := C2.frz e2 nD
        have sF := same_new2 (o := .lst zs) g2
        have CL := CF.new (o := .lst (xs ++ zs)) hl'
        have sL := same_new2 (o := .lst (xs ++ zs)) (CF.sub.free hl')
        refine ⟨l, xs ++ zs, _, some (.ref pq), rfl, CL, s'.trans ((s2.trans sF).trans sL), t'.trans (t2.trans (same_new hl')), upd_same, ?_⟩
        rw [List.take_add_one, eh, List.flatMap_append, ← List.cons_append, List.map_append]
        refine drAll_app (drAll_sub ((s2.trans sF).trans sL) hx) ?_
        show DrAll _ zs (([h].flatMap hRefs).map fun r => .tuple (rfL r))
        rw [List.flatMap_cons, List.flatMap_nil, List.append_nil]
        exact drAll_sub (sF.trans sL) hz
    · rintro σ H' ⟨pr, xs, G', o3, rfl, C', s', t', ep, hx⟩
      rw [hly, List.take_length] at hx
      refine ⟨_, rfl, _, rfl, pm, rfl, ⟨_, sqL_subz (s'.trans C'.sub) m1⟩, fun D hD => ?_⟩
      have nD := C'.st.neS hD
      have gD : G' D = none := C'.sub.free hD
      refine lc_list (K := K) (a := pm) (xs := ms) (fun j H2 => ∃ (zs : List V) (G2 : Hp), Sg G2 H2 s c ∧ Same G' G2 ∧ Same H' H2 ∧ G2 D = none ∧ H2 D = some (.lst zs) ∧ DrAll G2 zs ((mRefs (m.take j)).map fun r => .tuple (rfL r))) ⟨[], G', C'.same (same_new hD), Same.refl _, same_new hD, gD, upd_same, .nil⟩ (fun j H2 _ hh => by
        obtain ⟨zs, G2, C2, s2, _⟩ := hh
        exact sqL_subz ((s'.trans s2).trans C2.sub) m1) ?_ ?_
      · rintro j y H2 hj ⟨zs, G2, C2, s2, t2, g2, e2, hz⟩
        obtain ⟨df, edf, hdf⟩ := drAll_val m2 hj
        rw [List.getElem?_map] at edf
        cases ef : m[j]? with
        | none => rw [ef] at edf; cases edf
        | some fl =>
        rw [ef] at edf
        cases edf
        obtain ⟨pt, zz, rfl, q1, q2⟩ := dr_tup hdf
        obtain ⟨a0, r, rfl, b0, q2⟩ := drAll_cons q2
        obtain ⟨a1, r, rfl, b1, q2⟩ := drAll_cons q2
        obtain rfl := drAll_nil q2
        obtain rfl := dr_str b0
        obtain rfl := dr_int b1
        have hzl := drAll_len hz
        unfold mRefs at hzl
        rw [List.length_map, List.length_map, List.length_take] at hzl
        refine ⟨pt, _, rfl, sqT_subz ((s'.trans s2).trans C2.sub) q1, rfl, _, _, rfl, _, _, rfl, rfl, rfl, _, rfl, _, rfl, by show 3 ≤ sizeLine; decide, fun t ht => ?_⟩
        obtain ⟨r1, r2, r3, r4, r5⟩ := ref_turn (o := Str.ofString "meta") (n := fl.1) (wd := fl.2) C2 s2 g2 e2 hz nD ht
        refine ⟨_, r1, small1000 (by omega), _, _, r2, r3, ?_, r4, upd_same, ?_⟩
        · exact same_set (t2.trans (same_new ht)) hD
        · unfold mRefs at r5 ⊢
          rw [List.take_add_one, ef, List.map_append]
          exact r5
      · rintro H2 ⟨zs, G2, C2, s2, t2, g2, e2, hz⟩
        rw [hlm, List.take_length] at hz
        have hxl := drAll_len hx
        have hzl := drAll_len hz
        have hrl := refs_len hs hf
        unfold mRefs at hzl
        rw [List.length_map, List.length_cons] at hxl
        rw [List.length_map, List.length_map] at hzl
        refine ⟨pr, D, xs, zs, rfl, rfl, C2.sub _ _ (s2 _ _ ep), e2, Nat.le_of_lt (by have := small1000 (n := xs.length + zs.length) (by omega); exact this), fun l hl' => ?_⟩
        have CF := C2.frz e2 nD
        have sF := same_new2 (o := .lst zs) g2
        have CL := CF.new (o := .lst (xs ++ zs)) hl'
        have sL := same_new2 (o := .lst (xs ++ zs)) (CF.sub.free hl')
        refine q _ _ l CL (gr0.sub.trans (s'.trans ((s2.trans sF).trans sL))) (t0.trans (t'.trans (t2.trans (same_new hl')))) (.lst upd_same ?_)
        show DrAll _ (xs ++ zs) (((Str.ofString "packet", Str.ofString "port", 3) :: hs.flatMap hRefs ++ mRefs m).map fun r => .tuple (rfL r))
        rw [List.map_append]
        exact drAll_app (drAll_sub ((s2.trans sF).trans sL) hx) (drAll_sub (sF.trans sL) hz)
end
end Pk
set_option Elab.async false
set_option linter.all false
set_option maxRecDepth 100000
set_option maxHeartbeats 4000000
namespace Pk
open PySem PySem.Spec PyProof.Rows L2 SX GxR Tk
abbrev sGoal : Stmt := topS 45
abbrev sSelect : Stmt := topS 46
abbrev sStates : Stmt := topS 47
theorem scGoal : FnScope ["state", "names", "kind"] ["state", "names"] (defScope sGoal) := ⟨rfl, rfl, rfl, by decide +kernel, rfl, by decide +kernel, by decide +kernel⟩
theorem scSelect : FnScope ["state", "refs", "names", "owner", "name", "width", "rows", "k", "value", "mask"] ["state", "refs", "names"] (defScope sSelect) := ⟨rfl, rfl, rfl, by decide +kernel, rfl, by decide +kernel, by decide +kernel⟩
abbrev NSt : List Str := ["state", "headers", "many", "k", "names", "sure", "states", "refs", "taken", "name", "width", "following"]
theorem scStates : FnScope NSt ["state", "headers"] (defScope sStates) := ⟨rfl, rfl, rfl, by decide +kernel, rfl, by decide +kernel, by decide +kernel⟩
theorem pow32 {w : Nat} (h : w ≤ 32) : (0 : Int) < 2 ^ w ∧ (2 : Int) ^ w ≤ 4294967296 := by
  have h1 : (2 : Nat) ^ w ≤ 2 ^ 32 := Nat.pow_le_pow_right (by decide) h
  have h2 : ((2 : Int) ^ w) = ((2 ^ w : Nat) : Int) := by push_cast; rfl
  have h3 : 0 < 2 ^ w := Nat.pow_pos (by decide)
  have h4 : (2 : Nat) ^ 32 = 4294967296 := by decide
  rw [h2]
  omega
section
variable {P : Program} {w : World} {K : PySem.W.Frag} {mg : Str → Option Value} {base : Heap}
theorem shl1 {w : Nat} {H : Hp} {Q : VK} (hw : w ≤ 40) (q : Q (.int (2 ^ w)) H) : rI CPow (fun i j => V.int (i * 2 ^ j.toNat)) (.int 1) (.int (w : Nat)) H Q :=
  ⟨1, w, rfl, rfl, ⟨by omega, by omega, by decide +kernel⟩, by show Q (.int (1 * 2 ^ ((w : Nat) : Int).toNat)) H; rw [Int.toNat_natCast, Int.one_mul]; exact q⟩
/-- pick from a list that stands whatever is drawn -/
def spPickK (K : PySem.W.Frag) : Sp := fun vs H Q _ => ∃ (s c p : Addr) (xs : List V), vs = [.ref s, .ref p] ∧ StAt H s c ∧ SqL K H p xs ∧ (∀ H', Kp s c H H' → SqL K H' p xs) ∧ 0 < xs.length ∧ xs.length ≤ 1000 ∧
  ∀ (H' : Hp) (i : Nat) (x : V), xs[i]? = some x → StAt H' s c → Kp s c H H' → Q x H'
theorem ok_pickK {f : Addr} {fd : FuncData} (F : Fun K "_law_pick" "_law_pick" sPick f fd) (T : Bl mg) (D : Df P w K mg base CX0 1 "_law_draw" ["state", "many"] spDraw) : FnOk P w K mg base CX0 2 f fd ["state", "row"] (spPickK K) := by
  obtain ⟨fD, fdD, G, gD, kD, bD⟩ := D.ex
  refine F.ok scPick (fun vs H Q E h => ?_) (fun cdv A outer s H vs Q E hr h => ?_)
  · obtain ⟨s, c, p, xs, rfl, _⟩ := h
    rfl
  · obtain ⟨s, c, p, xs, rfl, hS, hL, n1, l0, l1, q⟩ := h
    refine ⟨_, pss_one (ps_ret (pe_ix ix_list (pv 1) (pe_call G hr (by rfl) gD kD bD .nil pass0 (pa_cons (pv 0) (pa_cons (pe_callB call_len_seq (by rfl) T.zLen PySem.boot_len (pa_cons (pv 1) pa_nil)) pa_nil))) (fun _ _ => rfl))), ?_⟩
    refine ⟨.ref p, rfl, .ref s, rfl, .ref p, rfl, p, xs, rfl, .inl hL, s, c, xs.length, rfl, hS, by omega, by omega, fun H' r r0 r1 hS' k' => ?_⟩
    obtain ⟨j, rfl⟩ : ∃ j : Nat, r = (j : Int) := ⟨r.toNat, by omega⟩
    have hj : j < xs.length := by omega
    have e : xs[j]? = some xs[j] := List.getElem?_eq_getElem hj
    exact ⟨p, xs, _, _, rfl, rfl, n1 H' k', atI_nat e, q H' j _ e hS' k'⟩
/-- the promise of pick for data that stands -/
theorem pickD {G H : Hp} {s c p : Addr} {ds : List PyData} {Q : VK} (E : XK) (C : Sg G H s c) (hd : Dr G (.ref p) (.list ds)) (h0 : 0 < ds.length) (h1 : ds.length ≤ 1000) (q : ∀ (H' : Hp) (i : Nat) (d : PyData) (x : V), ds[i]? = some d → Dr G x d → Sg G H' s c → Kp s c H H' → Q x H') : spPickK K [.ref s, .ref p] H Q E := by
  obtain ⟨_, xs, ep, e1, e2⟩ := dr_lst hd
  cases ep
  have hl := drAll_len e2
  exact ⟨s, c, p, xs, rfl, C.st, sqL_subz C.sub e1, fun H' k => sqL_subz (same_kp C.sub C.gs C.gc k) e1, by omega, by omega, fun H' i x hx st kp => by
    obtain ⟨d, ed, hd⟩ := drAll_val e2 hx
    exact q H' i d x ed hd (C.kp kp st) kp⟩
def spGl (K : PySem.W.Frag) : Sp := fun vs H Q _ => ∃ (s c : Addr) (G : Hp) (v : V) (ns : List Str), vs = [.ref s, v] ∧ Sg G H s c ∧ Dr G v (.list (ns.map .str)) ∧ ns.length ≤ 100 ∧ ∀ (H' : Hp) (g : Str), Goal ns g → Sg G H' s c → Kp s c H H' → Q (.str g) H'
theorem ok_gl {f : Addr} {fd : FuncData} (F : Fun K "_law_goal" "_law_goal" sGoal f fd) (T : Bl mg) (D1 : Df P w K mg base CX0 1 "_law_draw" ["state", "many"] spDraw) (D2 : Df P w K mg base CX0 2 "_law_pick" ["state", "row"] (spPickK K)) : FnOk P w K mg base CX0 3 f fd ["state", "names"] (spGl K) := by
  obtain ⟨f1, fd1, G1, g1, k1, b1⟩ := D1.ex
  obtain ⟨f2, fd2, G2, g2, k2, b2⟩ := D2.ex
  refine F.ok scGoal (fun vs H Q E h => ?_) (fun cdv A outer s0 H vs Q E hr h => ?_)
  · obtain ⟨s, c, G, v, ns, rfl, _⟩ := h
    rfl
  · obtain ⟨s, c, G, v, ns, rfl, C, hd, hn, q⟩ := h
    have nd := scGoal.nd
    have hr1 : Room 1 _ := hr.mono (by omega)
    refine ⟨_, pss_cons (ps_set (i := 2) nd rfl (.inl rfl) (pe_call G1 hr1 (by rfl) g1 k1 b1 .nil pass0 (pa_cons (pv 0) (pa_cons pe_int pa_nil))))
      (pss_cons (ps_if (PW.pt (pw_or (pt_cmpR op_lt (pv 2) pe_int (nomark _)) (pw_or1 (pt_cmpR op_eq (pe_callB call_len_seq (by rfl) T.zLen PySem.boot_len (pa_cons (pv 1) pa_nil)) pe_int (nomark _))))) (pss_one (ps_ret pe_str)) pss_nil)
      (pss_cons (ps_if (pt_cmpR op_eq (pv 2) pe_int (nomark _)) (pss_one (ps_ret pe_str)) pss_nil)
      (pss_one (ps_ret (pe_call G2 hr (by rfl) g2 k2 b2 .nil pass0 (pa_cons (pv 0) (pa_cons (pv 1) pa_nil))))))), ?_⟩
    obtain ⟨p, xs, rfl, e1, e2⟩ := dr_lst hd
    have hl := drAll_len e2
    rw [List.length_map] at hl
    refine ⟨_, rfl, s, c, 8, rfl, C.st, by decide, by decide, fun H1 r r0 r1 st1 kp1 => ?_⟩
    have C1 := C.kp kp1 st1
    refine ⟨_, rfl, _, _, rfl, rfl, _, rfl, iteD (fun _ => q H1 _ (.inl rfl) C1 kp1) fun _ => ⟨_, rfl, p, xs, rfl, .inl (sqL_subz C1.sub e1), rfl, _, rfl, ?_⟩⟩
    rw [dcInt]
    refine iteD (fun _ => q H1 _ (.inl rfl) C1 kp1) fun h0 => ⟨_, rfl, rfl, _, rfl, ?_⟩
    rw [dcInt]
    refine iteD (fun _ => q H1 _ (.inr (.inl rfl)) C1 kp1) fun _ => ?_
    refine ⟨_, rfl, _, rfl, pickD E C1 hd (by rw [List.length_map]; omega) (by rw [List.length_map]; omega) fun H2 i d x ed hx C2 kp2 => ?_⟩
    rw [List.getElem?_map] at ed
    cases en : ns[i]? with
    | none => rw [en] at ed; cases ed
    | some n =>
      rw [en] at ed
      cases ed
      obtain rfl := dr_str hx
      exact q H2 n (.inr (.inr (List.mem_of_getElem? en))) C2 (kp1.trans kp2)
def spSl (K : PySem.W.Frag) : Sp := fun vs H Q _ => ∃ (s c : Addr) (G : Hp) (v u : V) (rs : List Rf) (ns : List Str), vs = [.ref s, v, u] ∧ Sg G H s c ∧ Dr G v (rfsD rs) ∧ Dr G u (.list (ns.map .str)) ∧ ns.length ≤ 100 ∧ 0 < rs.length ∧ rs.length ≤ 100 ∧ (∀ r ∈ rs, r.2.2 ≤ 32) ∧
  ∀ (H' G' : Hp) (x : V) (n : Nx), NxOk rs ns n → Sg G' H' s c → Gr G G' H → Kp s c H H' → Dr G' x (.tuple (nxL n)) → Q x H'
theorem ok_sl {f : Addr} {fd : FuncData} (F : Fun K "_law_select" "_law_select" sSelect f fd) (T : Bl mg) (D1 : Df P w K mg base CX0 1 "_law_draw" ["state", "many"] spDraw) (D2 : Df P w K mg base CX0 2 "_law_pick" ["state", "row"] (spPickK K)) (D2' : Df P w K mg base CX0 2 "_law_pick" ["state", "row"] (spPick K)) (D3 : Df P w K mg base CX0 3 "_law_goal" ["state", "names"] (spGl K)) : FnOk P w K mg base CX0 4 f fd ["state", "refs", "names"] (spSl K) := by
  obtain ⟨f1, fd1, G1, g1, k1, b1⟩ := D1.ex
  obtain ⟨f2, fd2, G2, g2, k2, b2⟩ := D2.ex
  obtain ⟨f4, fd4, G4, g4, k4, b4⟩ := D2'.ex
  obtain ⟨f3, fd3, G3, g3, k3, b3⟩ := D3.ex
  refine F.ok scSelect (fun vs H Q E h => ?_) (fun cdv A outer s0 H vs Q E hr h => ?_)
  · obtain ⟨s, c, G, v, u, rs, ns, rfl, _⟩ := h
    rfl
  · obtain ⟨s, c, G, v, u, rs, ns, rfl, C, hd, hu, hn, h0, h1, h32, q⟩ := h
    have nd := scSelect.nd
    have hr1 : Room 1 _ := hr.mono (by omega)
    have hr2 : Room 2 _ := hr.mono (by omega)
    refine ⟨_, pss_cons (ps_asg (pe_call G2 hr2 (by rfl) g2 k2 b2 .nil pass0 (pa_cons (pv 0) (pa_cons (pv 1) pa_nil))) (pg_tup (by rfl) (pgs_cons (pg_name (i := 3) nd rfl (.inl rfl)) (pgs_cons (pg_name (i := 4) nd rfl (.inl rfl)) (pgs_cons (pg_name (i := 5) nd rfl (.inl rfl)) pgs_nil)))))
      (pss_cons (ps_set (i := 6) nd rfl (.inl rfl) (pe_lst pa_nil))
      (pss_cons (ps_for PassesOwn.never rfl (pi_range1 (by rfl) T.zRange (pa_cons (pe_call G1 hr1 (by rfl) g1 k1 b1 .nil pass0 (pa_cons (pv 0) (pa_cons (pe_call G4 hr2 (by rfl) g4 k4 b4 .nil pass0 (pa_cons (pv 0) (pa_cons (pe_lst (pa_cons pe_int (pa_cons pe_int (pa_cons pe_int pa_nil)))) pa_nil))) pa_nil))) pa_nil)) (pg_name (i := 7) nd rfl (.inl rfl))
        (pss_cons (ps_set (i := 8) nd rfl (.inl rfl) (pe_call G1 hr1 (by rfl) g1 k1 b1 .nil pass0 (pa_cons (pv 0) (pa_cons (pe_callB (call_min2 rfl) (by rfl) T.zMin (by decide +kernel) (pa_cons (pe_op op_shl pe_int (pv 5)) (pa_cons pe_int pa_nil))) pa_nil))))
        (pss_cons (ps_set (i := 9) nd rfl (.inl rfl) pe_non)
        (C8.pss_cut (ps_if (pt_cmpR op_eq (pe_call G1 hr1 (by rfl) g1 k1 b1 .nil pass0 (pa_cons (pv 0) (pa_cons pe_int pa_nil))) pe_int (nomark _)) (pss_one (ps_set (i := 9) nd rfl (.inl rfl) (pe_op op_or (pv 8) (pe_call G1 hr1 (by rfl) g1 k1 b1 .nil pass0 (pa_cons (pv 0) (pa_cons (pe_op op_shl pe_int (pv 5)) pa_nil)))))) pss_nil)
        (pss_one (ps_expr (pe_bm PySem.F.plainAttrs_list PySem.F.slot_list_append PySem.F.type_list_append mt_append (pv 6) (pa_cons (pe_tup (pa_cons (pv 8) (pa_cons (pv 9) (pa_cons (pe_call G3 hr (by rfl) g3 k3 b3 .nil pass0 (pa_cons (pv 0) (pa_cons (pv 2) pa_nil))) pa_nil)))) pa_nil))))))))
      (pss_one (ps_ret (pe_tup (pa_cons pe_str (pa_cons (pe_tup (pa_cons (pv 3) (pa_cons (pv 4) pa_nil))) (pa_cons (pv 6) (pa_cons (pe_call G3 hr (by rfl) g3 k3 b3 .nil pass0 (pa_cons (pv 0) (pa_cons (pv 2) pa_nil))) pa_nil))))))))), ?_⟩
    obtain ⟨pv', xs, rfl, e1, e2⟩ := dr_lst hd
    refine ⟨_, rfl, _, rfl, pickD E C hd (by rw [List.length_map]; exact h0) (by rw [List.length_map]; omega) fun H1 i d x ed hx C1 kp1 => ?_⟩
    rw [List.getElem?_map] at ed
    cases en : rs[i]? with
    | none => rw [en] at ed; cases ed
    | some rf =>
    rw [en] at ed
    cases ed
    have hmem := List.mem_of_getElem? en
    obtain ⟨o, n, wd⟩ := rf
    have hw32 : wd ≤ 32 := h32 _ hmem
    have hp := pow32 hw32
    obtain ⟨pt, zs, rfl, t1, t2⟩ := dr_tup hx
    obtain ⟨z0, r, rfl, a0, t2⟩ := drAll_cons t2
    obtain ⟨z1, r, rfl, a1, t2⟩ := drAll_cons t2
    obtain ⟨z2, r, rfl, a2, t2⟩ := drAll_cons t2
    obtain rfl := drAll_nil t2
    obtain rfl := dr_str a0
    obtain rfl := dr_str a1
    obtain rfl := dr_int a2
    refine ⟨pt, _, rfl, sqT_subz C1.sub t1, rfl, _, _, rfl, _, _, rfl, _, _, rfl, rfl, ?_⟩
    refine setnil_rd fun pr H2 hpr s2 e2' => ?_
    have nR := C1.st.neS hpr
    have C2 := C1.same s2
    have gR : G pr = none := C1.sub.free hpr
    have hprH : H pr = none := kp_none kp1 C1.st hpr
    refine ⟨_, rfl, _, rfl, by show 3 ≤ sizeLine; decide, fun p hp3 => ?_⟩
    have n1 := C2.st.neS hp3
    refine ⟨s, c, p, _, rfl, C2.st.new hp3, SqL.of upd_same, n1.1, n1.2, (by show 0 < 3; decide), (by show 3 ≤ 1000; decide), fun H3 i3 x3 hx3 st3 kp3 => ?_⟩
    obtain ⟨pk, hpk, rfl⟩ := pick_ints (ns := [4, 4, 9]) hx3
    have hpkb : 1 ≤ pk ∧ pk ≤ 9 := by
      simp only [List.mem_cons, List.not_mem_nil, or_false] at hpk
      omega
    have kq3 := (Kp.new hp3).trans kp3
    have C3 := C2.kp kq3 st3
    have e3 := kq3 _ _ nR.1 nR.2 e2'
    refine ⟨s, c, pk, rfl, st3, by omega, by omega, fun H4 r4 r40 r41 st4 kp4 => ⟨r4, rfl, by omega, by omega, ?_⟩⟩
    have C4 := C3.kp kp4 st4
    have e4 := kp4 _ _ nR.1 nR.2 e3
    have kq4 := ((kp1.trans (Kp.same s2)).trans kq3).trans kp4
    refine for_range (lo := 0) (n := r4.toNat) (fun i σ H' => ∃ (rows : List Rw) (ys : List V) (G' : Hp) (o7 o8 o9 : Option V), σ = [some (.ref s), some (.ref pv'), some u, some (.str o), some (.str n), some (.int (wd : Nat)), some (.ref pr), o7, o8, o9] ∧ Sg G' H' s c ∧ Gr G G' H ∧ G' pr = none ∧ H' pr = some (.lst ys) ∧ DrAll G' ys (rows.map fun r => .tuple (rwL r)) ∧ (∀ r ∈ rows, RwOk wd ns r) ∧ rows.length = i ∧ Kp s c H H')
      ⟨[], [], G, none, none, none, rfl, C4, Gr.refl _ _, gR, e4, .nil, (fun r h => nomatch h), rfl, kq4⟩ ?_ ?_
    · rintro i σ H' hi ⟨rows, ys, G', o7, o8, o9, rfl, C', gr', g', e', hx', hok, hl, kp'⟩
      have hyl := drAll_len hx'
      rw [List.length_map] at hyl
      refine ⟨_, rfl, _, rfl, shl1 (by omega) ⟨_, _, rfl, s, c, _, rfl, C'.st, by split <;> omega, by split <;> omega, fun H5 val v0 v1 st5 kp5 => ?_⟩⟩
      have C5 := C'.kp kp5 st5
      have e5 := kp5 _ _ nR.1 nR.2 e'
      have hv : val < 4 ∧ val < 2 ^ wd := by
        split at v1 <;> omega
      refine ⟨fun σ H => ∃ (mk : Option Int) (mv : V), (∀ Gx : Hp, Dr Gx mv (opI mk)) ∧ (∀ m, mk = some m → 0 ≤ m ∧ m < 2 ^ wd ∧ Builtin.bitOr val m = m) ∧ Sg G' H s c ∧ Kp s c H5 H ∧ σ = [some (.ref s), some (.ref pv'), some u, some (.str o), some (.str n), some (.int (wd : Nat)), some (.ref pr), some (.int (0 + (i : Int))), some (.int val), some mv], ?_, ?_⟩
      · refine ⟨_, rfl, s, c, 2, rfl, C5.st, by decide, by decide, fun H6 r6 r60 r61 st6 kp6 => ⟨rfl, _, rfl, ?_⟩⟩
        have C6 := C5.kp kp6 st6
        rw [dcInt]
        refine iteD (fun _ => ?_) fun _ => ⟨none, .non, (fun _ => .non), (fun m h => nomatch h), C6, kp6, rfl⟩
        refine ⟨_, rfl, _, rfl, _, rfl, shl1 (by omega) ⟨s, c, _, rfl, C6.st, hp.1, by omega, fun H7 dv d0 d1 st7 kp7 => ⟨_, _, rfl, rfl, ?_⟩⟩⟩
        have h3 := or_lt v0 d0 hv.2 d1
        exact ⟨some (Builtin.bitOr val dv), .int (Builtin.bitOr val dv), (fun _ => .int _), fun m h => by cases h; exact h3, C6.kp kp7 st7, kp6.trans kp7, rfl⟩
      · rintro σ H6 ⟨mk, mv, dmv, hmk, C6, kp6, rfl⟩
        have e6 := kp6 _ _ nR.1 nR.2 e5
        refine ⟨_, rfl, .inl ⟨rfl, _, SqL.of e6⟩, _, rfl, _, rfl, _, rfl, _, rfl, s, c, G', u, ns, rfl, C6, dr_sub gr'.sub hu, hn, fun H7 g hg C7 kp7 => ⟨by show 3 ≤ sizeLine; decide, fun t ht => ?_⟩⟩
        have e7 := kp7 _ _ nR.1 nR.2 e6
        have kq7 := ((kp'.trans kp5).trans kp6).trans kp7
        have tH := kp_none kq7 C7.st ht
        have C8 := C7.new (o := .tup [V.int val, mv, V.str g]) ht
        have s8 := same_new2 (o := .tup [V.int val, mv, V.str g]) (C7.sub.free ht)
        have e8 := (same_new (o := .tup [V.int val, mv, V.str g]) ht) _ _ e7
        have kq8 := kq7.trans (Kp.new (o := .tup [V.int val, mv, V.str g]) ht)
        have g8 : (upd G' t (.tup [V.int val, mv, V.str g])) pr = none := by rw [upd_ne (ne_of_none e7 ht)]; exact g'
        have gr8 := gr'.put (o := .tup [V.int val, mv, V.str g]) tH (C7.sub.free ht)
        have dt : Dr (upd G' t (.tup [V.int val, mv, V.str g])) (.ref t) (.tuple (rwL (val, mk, g))) := .tup upd_same (.cons (.int _) (.cons (dmv _) (.cons (.str _) .nil)))
        refine ⟨pr, ys, _, rfl, rfl, e8, small1000 (by omega), rows ++ [(val, mk, g)], ys ++ [.ref t], _, some (.int (0 + (i : Int))), some (.int val), some mv, rfl, C8.set g8 nR, gr8, g8, upd_same, ?_, ?_, by rw [List.length_append, hl]; rfl, ?_⟩
        · rw [List.map_append]
          exact drAll_app (drAll_sub s8 hx') (.cons dt .nil)
        · intro r hr
          rcases List.mem_append.mp hr with h | h
          · exact hok r h
          · rw [List.mem_singleton.mp h]
            exact ⟨v0, hv.1, hv.2, hmk, hg⟩
        · intro b o h1 h2 h3
          rw [upd_ne (ne_of_none h3 hprH)]
          exact kq8 b o h1 h2 h3
    · rintro σ H' ⟨rows, ys, G', o7, o8, o9, rfl, C', gr', g', e', hx', hok, hl, kp'⟩
      have CF := C'.frz e' nR
      have sF := same_new2 (o := .lst ys) g'
      have grF := gr'.put (o := .lst ys) hprH g'
      have dF : Dr (upd G' pr (.lst ys)) (.ref pr) (.list (rows.map fun r => .tuple (rwL r))) := .lst upd_same (drAll_sub sF hx')
      generalize upd G' pr (.lst ys) = GF at CF sF grF dF
      refine ⟨_, rfl, _, rfl, by show 2 ≤ sizeLine; decide, fun t1' ht1 => ?_⟩
      have t1H := kp_none kp' CF.st ht1
      have C6 := CF.new (o := .tup [V.str o, V.str n]) ht1
      have s6 := same_new2 (o := .tup [V.str o, V.str n]) (CF.sub.free ht1)
      have gr6 := grF.put (o := .tup [V.str o, V.str n]) t1H (CF.sub.free ht1)
      have d6 : Dr (upd GF t1' (.tup [V.str o, V.str n])) (.ref t1') (.tuple [.str o, .str n]) := .tup upd_same (.cons (.str _) (.cons (.str _) .nil))
      have kq6 := kp'.trans (Kp.new (o := .tup [V.str o, V.str n]) ht1)
      generalize upd GF t1' (.tup [V.str o, V.str n]) = G6 at C6 s6 gr6 d6
      generalize upd H' t1' (.tup [V.str o, V.str n]) = H6 at C6 kq6 ⊢
      refine ⟨_, rfl, _, rfl, _, rfl, s, c, G6, u, ns, rfl, C6, dr_sub gr6.sub hu, hn, fun H7 g hg C7 kp7 => ⟨by show 4 ≤ sizeLine; decide, fun t ht => ?_⟩⟩
      have kq7 := kq6.trans kp7
      have tH := kp_none kq7 C7.st ht
      have s8 := same_new2 (o := .tup [V.str "select", .ref t1', .ref pr, V.str g]) (C7.sub.free ht)
      exact q _ _ _ (.sel o n rows g) ⟨⟨wd, hmem, hok⟩, by omega, hg⟩ (C7.new ht) (gr6.put tH (C7.sub.free ht)) (kq7.trans (Kp.new ht)) (.tup upd_same (.cons (.str _) (.cons (dr_sub s8 d6) (.cons (dr_sub (s6.trans s8) dF) (.cons (.str _) .nil)))))
end
end Pk
set_option Elab.async false
set_option linter.all false
set_option maxRecDepth 100000
set_option maxHeartbeats 4000000
namespace Pk
open PySem PySem.Spec PyProof.Rows L2 SX GxR Tk
def portR : Rf := (Str.ofString "packet", Str.ofString "port", 3)
/-- the refs that the select of the state k may use -/
def ownRefs (hs : List Hd) (k : Nat) (t : Option Str) : List Rf := match t, hs[k]? with
  | some _, some h => hRefs h
  | _, _ => []
/-- what the first state takes -/
def tk0 (sts : List Sa) : Option Str := sts[0]?.bind Sa.taken
def SaOk (hs : List Hd) (sr : List Rf) (ns : List Str) (k : Nat) (a : Sa) : Prop :=
  ns[k]? = some a.name ∧ (a.taken = none ∨ ∃ h, hs[k]? = some h ∧ a.taken = some h.1) ∧ NxOk (sr ++ ownRefs hs k a.taken) (ns.drop (k + 1)) a.nx
def NsOk (ns : List Str) : Prop := 1 ≤ ns.length ∧ ns.length ≤ 8 ∧ ns[0]? = some (Str.ofString "start") ∧ ∀ j x, 1 ≤ j → ns[j]? = some x → NmK j x
/-- the states before they are turned round -/
def SasOk (hs : List Hd) (sts : List Sa) : Prop := ∃ ns, NsOk ns ∧ sts.length = ns.length ∧ ∀ k a, sts[k]? = some a → SaOk hs (if k = 0 then [portR] else [portR] ++ ownRefs hs 0 (tk0 sts)) ns k a
theorem cut_from (xs : List V) (k : Nat) (h : k ≤ xs.length) : cutV xs (some ((k : Nat) : Int)) none = xs.drop k := by
  unfold cutV HT.sIx
  simp only
  rw [if_neg (by omega), Int.toNat_natCast, Nat.min_eq_left h]
  exact List.take_of_length_le (by rw [List.length_drop]; omega)
theorem cut_to (xs : List V) (k : Nat) : cutV xs none (some ((k : Nat) : Int)) = xs.take k := by
  unfold cutV HT.sIx
  simp only
  rw [if_neg (by omega), Int.toNat_natCast, List.drop_zero, Nat.sub_zero]
  rcases Nat.le_total k xs.length with h | h
  · rw [Nat.min_eq_left h]
  · rw [Nat.min_eq_right h, List.take_of_length_le (Nat.le_refl _), List.take_of_length_le h]
theorem drAll_of_strs {G : Hp} : ∀ (ns : List Str), DrAll G (ns.map V.str) (ns.map .str)
  | [] => .nil
  | n :: ns => .cons (.str n) (drAll_of_strs ns)
theorem drAll_drop {G : Hp} : ∀ {vs : List V} {ds : List PyData}, DrAll G vs ds → ∀ n, DrAll G (vs.drop n) (ds.drop n)
  | _, _, h, 0 => h
  | _, _, .nil, n + 1 => .nil
  | _, _, .cons _ r, n + 1 => drAll_drop r n
theorem drAll_take {G : Hp} : ∀ {vs : List V} {ds : List PyData}, DrAll G vs ds → ∀ n, DrAll G (vs.take n) (ds.take n)
  | _, _, _, 0 => .nil
  | _, _, .nil, n + 1 => .nil
  | _, _, .cons a r, n + 1 => .cons a (drAll_take r n)
section
variable {P : Program} {w : World} {K : PySem.W.Frag} {mg : Str → Option Value} {base : Heap}
def spSt (K : PySem.W.Frag) : Sp := fun vs H Q _ => ∃ (s c : Addr) (G : Hp) (v : V) (hs : List Hd), vs = [.ref s, v] ∧ Sg G H s c ∧ Dr G v (hdsD hs) ∧ WfH hs ∧ 1 ≤ hs.length ∧ hs.length ≤ 6 ∧
  ∀ (H' G' : Hp) (p : Addr) (sts : List Sa) (n : Nat), Sg G' H' s c → Gr G G' H → Kp s c H H' → Dr G' (.ref p) (sasD (sts.drop n ++ sts.take n)) → n ≤ 1 → SasOk hs sts → Q (.ref p) H'
theorem ok_sts {f : Addr} {fd : FuncData} (F : Fun K "_law_states" "_law_states" sStates f fd) (T : Bl mg) (zList : mg "list" = none) (D1 : Df P w K mg base CX0 1 "_law_draw" ["state", "many"] spDraw) (D2 : Df P w K mg base CX0 2 "_law_pick" ["state", "row"] (spPick K)) (D3 : Df P w K mg base CX0 3 "_law_name" ["state", "k"] spNm) (D4 : Df P w K mg base CX0 3 "_law_goal" ["state", "names"] (spGl K)) (D5 : Df P w K mg base CX0 4 "_law_select" ["state", "refs", "names"] (spSl K)) :
    FnOk P w K mg base CX0 5 f fd ["state", "headers"] (spSt K) := by
  obtain ⟨f1, fd1, G1, g1, k1, b1⟩ := D1.ex
  obtain ⟨f2, fd2, G2, g2, k2, b2⟩ := D2.ex
  obtain ⟨f3, fd3, G3, g3, k3, b3⟩ := D3.ex
  obtain ⟨f4, fd4, G4, g4, k4, b4⟩ := D4.ex
  obtain ⟨f5, fd5, G5, g5, k5, b5⟩ := D5.ex
  refine F.ok scStates (fun vs H Q E h => ?_) (fun cdv A outer s0 H vs Q E hr h => ?_)
  · obtain ⟨s, c, G, v, hs, rfl, _⟩ := h
    rfl
  · obtain ⟨s, c, G, v, hs, rfl, C, hd, hw, hl1, hl6, q⟩ := h
    have nd := scStates.nd
    have hr1 : Room 1 _ := hr.mono (by omega)
    have hr2 : Room 2 _ := hr.mono (by omega)
    have hr3 : Room 3 _ := hr.mono (by omega)
    refine ⟨_, pss_cons (ps_set (i := 2) nd rfl (.inl rfl) (pe_callB (call_min2 rfl) (by rfl) T.zMin (by decide +kernel) (pa_cons pe_int (pa_cons (pe_op op_add (pe_callB call_len_seq (by rfl) T.zLen PySem.boot_len (pa_cons (pv 1) pa_nil)) (pe_call G1 hr1 (by rfl) g1 k1 b1 .nil pass0 (pa_cons (pv 0) (pa_cons (pe_call G2 hr2 (by rfl) g2 k2 b2 .nil pass0 (pa_cons (pv 0) (pa_cons (pe_lst (pa_cons pe_int (pa_cons pe_int (pa_cons pe_int pa_nil)))) pa_nil))) pa_nil)))) pa_nil))))
      (pss_cons (ps_set (i := 4) nd rfl (.inl rfl) (pe_op op_cat (pe_lst (pa_cons pe_str pa_nil)) (pe_lc (own := [("k", 3)]) (g := gName 3) (tt := tYes) rfl nd (pi_range2 (by rfl) T.zRange (pa_cons pe_int (pa_cons (pv 2) pa_nil))) (blkOk_by (N := NSt) (sc := defScope sStates) (by decide +kernel)) (fun _ _ _ _ _ => pg_name (i := 3) nd rfl (Or.inl rfl)) (fun _ _ _ _ _ => pts_nil) (fun _ _ _ _ _ => pe_call G3 hr3 (by rfl) g3 k3 b3 .nil pass0 (pa_cons (pv 0) (pa_cons (pv 3) pa_nil))))))
      (pss_cons (ps_set (i := 5) nd rfl (.inl rfl) (pe_lst (pa_cons (pe_tup (pa_cons pe_str (pa_cons pe_str (pa_cons pe_int pa_nil)))) pa_nil)))
      (pss_cons (ps_set (i := 6) nd rfl (.inl rfl) (pe_lst pa_nil))
      (pss_cons (ps_for PassesOwn.never rfl (pi_range1 (by rfl) T.zRange (pa_cons (pv 2) pa_nil)) (pg_name (i := 3) nd rfl (.inl rfl))
        (pss_cons (ps_set (i := 7) nd rfl (.inl rfl) (pe_callTy call_list_of (by rfl) zList (by decide +kernel) (pa_cons (pv 5) pa_nil)))
        (pss_cons (ps_set (i := 8) nd rfl (.inr rfl) pe_non)
        (C8.pss_cut (ps_if (PW.pt (pw_and (pt_cmpR op_lt (pv 3) (pe_callB call_len_seq (by rfl) T.zLen PySem.boot_len (pa_cons (pv 1) pa_nil)) (nomark _)) (pw_and1 (pt_cmpR op_gt (pe_call G1 hr1 (by rfl) g1 k1 b1 .nil pass0 (pa_cons (pv 0) (pa_cons pe_int pa_nil))) pe_int (nomark _)))))
          (pss_cons (ps_set (i := 8) nd rfl (.inr rfl) (pe_ix ix_tup (pe_ix ix_list (pv 1) (pv 3) (fun _ _ => rfl)) pe_int (fun _ _ => rfl)))
          (pss_one (ps_set (i := 7) nd rfl (.inl rfl) (pe_op op_cat (pv 7) (pe_lc (own := [("name", 9), ("width", 10)]) (g := gTup K 2 (gCons (gName 9) (gCons (gName 10) gNil))) (tt := tYes) rfl nd (pi_list (pe_ix ix_tup (pe_ix ix_list (pv 1) (pv 3) (fun _ _ => rfl)) pe_int (fun _ _ => rfl))) (blkOk_by (N := NSt) (sc := defScope sStates) (by decide +kernel))
            (fun _ _ _ _ _ => pg_tup rfl (pgs_cons (pg_name (i := 9) nd rfl (Or.inl rfl)) (pgs_cons (pg_name (i := 10) nd rfl (Or.inl rfl)) pgs_nil))) (fun _ _ _ _ _ => pts_nil) (fun _ _ _ _ _ => pe_tup (pa_cons (pv 8) (pa_cons (pv 9) (pa_cons (pv 10) pa_nil)))))))) ) pss_nil)
        (C8.pss_cut (ps_if (pt_cmpR op_eq (pv 3) pe_int (nomark _)) (pss_one (ps_set (i := 5) nd rfl (.inl rfl) (pv 7))) pss_nil)
        (pss_cons (ps_set (i := 11) nd rfl (.inl rfl) (pe_tup (pa_cons pe_str (pa_cons (pe_call G4 hr3 (by rfl) g4 k4 b4 .nil pass0 (pa_cons (pv 0) (pa_cons (pe_slice sl_list (pv 4) (po_some (pe_op op_add (pv 3) pe_int)) po_none) pa_nil))) pa_nil))))
        (C8.pss_cut (ps_if (pt_cmpR op_gt (pe_call G1 hr1 (by rfl) g1 k1 b1 .nil pass0 (pa_cons (pv 0) (pa_cons pe_int pa_nil))) pe_int (nomark _)) (pss_one (ps_set (i := 11) nd rfl (.inl rfl) (pe_call G5 hr (by rfl) g5 k5 b5 .nil pass0 (pa_cons (pv 0) (pa_cons (pv 7) (pa_cons (pe_slice sl_list (pv 4) (po_some (pe_op op_add (pv 3) pe_int)) po_none) pa_nil)))))) pss_nil)
        (pss_one (ps_expr (pe_bm PySem.F.plainAttrs_list PySem.F.slot_list_append PySem.F.type_list_append mt_append (pv 6) (pa_cons (pe_tup (pa_cons pe_str (pa_cons (pe_ix ix_list (pv 4) (pv 3) (fun _ _ => rfl)) (pa_cons (pv 8) (pa_cons (pv 11) pa_nil))))) pa_nil)))))))))))
      (C8.pss_cut (ps_if (pt_cmpR op_eq (pe_call G1 hr1 (by rfl) g1 k1 b1 .nil pass0 (pa_cons (pv 0) (pa_cons pe_int pa_nil))) pe_int (nomark _)) (pss_one (ps_set (i := 6) nd rfl (.inl rfl) (pe_op op_cat (pe_slice sl_list (pv 6) (po_some pe_int) po_none) (pe_slice sl_list (pv 6) po_none (po_some pe_int))))) pss_nil)
      (pss_one (ps_ret (pv 6)))))))), ?_⟩
    obtain ⟨ph, hx, rfl, h1, h2⟩ := dr_lst hd
    have hlh := drAll_len h2
    rw [List.length_map] at hlh
    -- many
    refine setany_rd ?_
    refine ⟨_, rfl, ph, hx, rfl, .inl (sqL_subz C.sub h1), _, rfl, _, rfl, by show 3 ≤ sizeLine; decide, fun p hp3 => ?_⟩
    have n1 := C.st.neS hp3
    refine ⟨s, c, p, _, rfl, C.st.new hp3, SqL.of upd_same, n1.1, n1.2, (by show 0 < 3; decide), (by show 3 ≤ 1000; decide), fun H1 i1 x1 hx1 st1 kp1 => ?_⟩
    obtain ⟨pk, hpk, rfl⟩ := pick_ints (ns := [1, 1, 4]) hx1
    have hpkb : 1 ≤ pk ∧ pk ≤ 4 := by
      simp only [List.mem_cons, List.not_mem_nil, or_false] at hpk
      omega
    have kq1 := (Kp.new hp3).trans kp1
    have C1 := C.kp kq1 st1
    refine ⟨s, c, pk, rfl, st1, by omega, by omega, fun H2 r r0 r1 st2 kp2 => ⟨_, _, rfl, rfl, _, _, rfl, ?_⟩⟩
    have C2 := C1.kp kp2 st2
    have kq2 := kq1.trans kp2
    obtain ⟨many, hmany, hm1, hm8⟩ : ∃ many : Nat, (if ((hx.length : Nat) : Int) + r < 8 then ((hx.length : Nat) : Int) + r else 8) = (many : Int) ∧ 1 ≤ many ∧ many ≤ 8 := by
      split
      · exact ⟨(((hx.length : Nat) : Int) + r).toNat, by omega, by omega, by omega⟩
      · exact ⟨8, rfl, by decide, by decide⟩
    rw [hmany]
    -- the names
    refine setany_rd ?_
    refine ⟨by show 1 ≤ sizeLine; decide, fun pa hpa => ?_⟩
    have s3 := same_new (o := .lst [V.str "start"]) hpa
    have C3 := C2.same s3
    have ea : (upd H2 pa (.lst [V.str "start"])) pa = some (.lst [V.str "start"]) := upd_same
    have na := C2.st.neS hpa
    have kq3 := kq2.trans (Kp.same s3)
    generalize upd H2 pa (.lst [V.str "start"]) = H3 at C3 ea kq3 ⊢
    refine ⟨_, rfl, 1, many, rfl, by omega, fun D hD => ?_⟩
    have nD := C3.st.neS hD
    have gD : G D = none := C3.sub.free hD
    have hDH := kp_none kq3 C3.st hD
    refine lc_range (lo := 1) (n := (((many : Nat) : Int) - 1).toNat) (fun i H' => Sg G H' s c ∧ Kp s c H H' ∧ H' pa = some (.lst [V.str "start"]) ∧ ∃ ns : List Str, H' D = some (.lst (ns.map V.str)) ∧ ns.length = i ∧ ∀ j x, ns[j]? = some x → NmK (j + 1) x) ⟨C3.same (same_new hD), kq3.trans (Kp.new hD), (same_new hD) _ _ ea, [], upd_same, rfl, (fun j x h => by cases h)⟩ ?_ ?_
    · rintro i H' hi ⟨C', kp', ea', ns, ens, hnl, hns⟩
      refine ⟨rfl, _, rfl, _, rfl, s, c, i + 1, by rw [Int.add_comm]; rfl, C'.st, by omega, fun H4 x hn hxl st4 kp4 => ⟨_, kp4 _ _ nD.1 nD.2 ens, small1000 (by rw [List.length_map]; omega), (C'.kp kp4 st4).set gD nD, ?_, ?_, ns ++ [x], ?_, by rw [List.length_append, hnl]; rfl, ?_⟩⟩
      · intro b o h1 h2 h3
        rw [upd_ne (ne_of_none h3 hDH)]
        exact (kp'.trans kp4) b o h1 h2 h3
      · rw [upd_ne (ne_of_none ea hD)]
        exact kp4 _ _ na.1 na.2 ea'
      · rw [upd_same, List.map_append]
        rfl
      · intro j y e
        rw [List.getElem?_append] at e
        by_cases hj : j < ns.length
        · rw [if_pos hj] at e
          exact hns j y e
        · rw [if_neg hj] at e
          have : j - ns.length = 0 := by
            rcases Nat.eq_zero_or_pos (j - ns.length) with h | h
            · exact h
            · rw [List.getElem?_eq_none (by show 1 ≤ _; omega)] at e
              cases e
          rw [this] at e
          cases e
          obtain rfl : j = ns.length := by omega
          rw [hnl]
          exact hn (by omega)
    rintro H4 ⟨C4, kp4, ea4, ns0, ens, hnl, hns⟩
    refine ⟨pa, D, _, _, rfl, rfl, ea4, ens, by rw [List.length_map]; show 1 + ns0.length ≤ sizeLine; rw [sizeLine_eq]; omega, fun pn hpn => ?_⟩
    have npn := C4.st.neS hpn
    obtain ⟨ns, hns2⟩ : ∃ ns, ns = Str.ofString "start" :: ns0 := ⟨_, rfl⟩
    have eNs : ([V.str "start"] ++ ns0.map V.str : List V) = ns.map V.str := by rw [hns2]; rfl
    rw [eNs]
    have hNs : NsOk ns := by
      subst hns2
      refine ⟨Nat.succ_le_succ (Nat.zero_le _), by show ns0.length + 1 ≤ 8; omega, rfl, fun j x hj e => ?_⟩
      obtain ⟨m, rfl⟩ : ∃ m, j = m + 1 := ⟨j - 1, by omega⟩
      exact hns m x e
    have hNl : ns.length = many := by
      subst hns2
      show ns0.length + 1 = many
      omega
    have C5 := C4.new (o := .lst (ns.map V.str)) hpn
    have pnH := kp_none kp4 C4.st hpn
    have gr5 := (Gr.refl G H).put (o := .lst (ns.map V.str)) pnH (C4.sub.free hpn)
    have e5 : (upd G pn (.lst (ns.map V.str))) pn = some (.lst (ns.map V.str)) := upd_same
    have kq5 := kp4.trans (Kp.new (o := .lst (ns.map V.str)) hpn)
    generalize upd H4 pn (.lst (ns.map V.str)) = H5 at C5 kq5 ⊢
    generalize upd G pn (.lst (ns.map V.str)) = GA at C5 gr5 e5
    clear hns ens ea4 kp4 C4 ea C3 kq3 hpn
    -- sure, states
    refine setlst_rz (ds := [portR].map fun r => .tuple (rfL r)) (by repeat (first | exact ZEs.nil | refine ZEs.cons ?_ ?_ | exact ZE.int _ | exact ZE.str _ | exact ZE.non | refine ZE.tup ?_ (Nat.le_of_ble_eq_true rfl) | refine ZE.lst ?_ (Nat.le_of_ble_eq_true rfl))) C5 (by decide) fun p5 vs5 GB H6 C6 gr6 t6 e6 x6 => ?_
    have kq6 := kq5.trans (Kp.same t6)
    have grB := gr5.kp gr6 kq5 C5.st
    refine setnil_rd fun pst H7 hpst t7 e7 => ?_
    have nS := C6.st.neS hpst
    have C7 := C6.same t7
    have gS : GB pst = none := C6.sub.free hpst
    have kq7 := kq6.trans (Kp.same t7)
    have pstH := kp_none kq6 C6.st hpst
    have hD6 : DrAll GB hx (hs.map fun h => .tuple (hdL h)) := drAll_sub (gr5.sub.trans gr6.sub) h2
    have eN : GB pn = some (.lst (ns.map V.str)) := gr6.sub _ _ e5
    have h1B : SqL K GB ph hx := sqL_subz (gr5.sub.trans gr6.sub) h1
    have dN : ∀ k, DrAll GB ((ns.map V.str).drop k) ((ns.drop k).map .str) := fun k => by
      rw [← List.map_drop]
      exact drAll_of_strs _
    refine ⟨_, rfl, many, rfl, by omega, by omega, ?_⟩
    refine for_range (lo := 0) (n := ((many : Nat) : Int).toNat) (fun i σ H' => ∃ (sts : List Sa) (xs : List V) (G' : Hp) (psr : Addr) (sv : List V) (o3 o7 o8 o11 : Option V), σ = [some (.ref s), some (.ref ph), some (.int (many : Nat)), o3, some (.ref pn), some (.ref psr), some (.ref pst), o7, o8, none, none, o11] ∧ Sg G' H' s c ∧ Gr G G' H ∧ Same GB G' ∧ G' pst = none ∧ H' pst = some (.lst xs) ∧ DrAll G' xs (sts.map fun a => .tuple (saL a)) ∧ sts.length = i ∧
        (∀ k a, sts[k]? = some a → SaOk hs (if k = 0 then [portR] else [portR] ++ ownRefs hs 0 (tk0 sts)) ns k a) ∧ G' psr = some (.lst sv) ∧ DrAll G' sv (([portR] ++ ownRefs hs 0 (tk0 sts)).map fun r => .tuple (rfL r)) ∧ Kp s c H H')
      ⟨[], [], GB, p5, vs5, none, none, none, none, rfl, C7, grB, Same.refl _, gS, e7, .nil, rfl, (fun k a h => by cases h), e6, x6, kq7⟩ ?_ ?_
    · rintro i σ H' hi ⟨sts, xs, G', psr, sv, o3, o7, o8, o11, rfl, C', gr', sB', g', e', hx', hsl, hok, esr, hsr, kp'⟩
      rw [Int.toNat_natCast] at hi
      have hsrl := drAll_len hsr
      rw [List.length_map, List.length_append] at hsrl
      have hxl := drAll_len hx'
      rw [List.length_map] at hxl
      have own8 : ∀ k t, (ownRefs hs k t).length ≤ 8 := fun k t => by
        unfold ownRefs
        split
        · rename_i h e
          unfold hRefs
          rw [List.length_map]
          exact (hw k _ e).2.2.1
        · exact Nat.zero_le _
      have o80 := own8 0 (tk0 sts)
      have l1r : [portR].length = 1 := rfl
      -- refs = list(sure)
      refine setany_rd ?_
      refine ⟨_, rfl, psr, _, rfl, .inl (SqL.of (C'.sub _ _ esr)), fun l hl => ?_⟩
      have lH := kp_none kp' C'.st hl
      have C1 := C'.new (o := .lst sv) hl
      have sg1 := same_new2 (o := .lst sv) (C'.sub.free hl)
      have gr1 := gr'.put (o := .lst sv) lH (C'.sub.free hl)
      have g1 : (upd G' l (.lst sv)) pst = none := by rw [upd_ne (ne_of_none e' hl)]; exact g'
      have e1 := (same_new (o := .lst sv) hl) _ _ e'
      have kq1 := kp'.trans (Kp.new (o := .lst sv) hl)
      have el : (upd G' l (.lst sv)) l = some (.lst sv) := upd_same
      generalize upd H' l (.lst sv) = H1 at C1 e1 kq1 ⊢
      generalize upd G' l (.lst sv) = G1' at C1 sg1 gr1 g1 el
      -- taken, refs
      refine ⟨fun σ Hx => ∃ (tk : Option Str) (tv : V) (pr : Addr) (rv : List V) (G2 : Hp), (∀ Gx : Hp, Dr Gx tv (opS tk)) ∧ (tk = none ∨ ∃ h, hs[i]? = some h ∧ tk = some h.1) ∧ σ = [some (.ref s), some (.ref ph), some (.int (many : Nat)), some (.int (0 + (i : Int))), some (.ref pn), some (.ref psr), some (.ref pst), some (.ref pr), some tv, none, none, o11] ∧ Sg G2 Hx s c ∧ Gr G G2 H ∧ Same G1' G2 ∧ G2 pst = none ∧ Hx pst = some (.lst xs) ∧ G2 pr = some (.lst rv) ∧
          DrAll G2 rv ((([portR] ++ ownRefs hs 0 (tk0 sts)) ++ ownRefs hs i tk).map fun r => .tuple (rfL r)) ∧ Kp s c H Hx, ?_, ?_⟩
      · have nope : ∀ {Hx : Hp}, Sg G1' Hx s c → Hx pst = some (.lst xs) → Kp s c H Hx → ∃ (tk : Option Str) (tv : V) (pr : Addr) (rv : List V) (G2 : Hp), (∀ Gx : Hp, Dr Gx tv (opS tk)) ∧ (tk = none ∨ ∃ h, hs[i]? = some h ∧ tk = some h.1) ∧ ([some (.ref s), some (.ref ph), some (.int (many : Nat)), some (.int (0 + (i : Int))), some (.ref pn), some (.ref psr), some (.ref pst), some (.ref l), some .non, none, none, o11] : L2.St) = [some (.ref s), some (.ref ph), some (.int (many : Nat)), some (.int (0 + (i : Int))), some (.ref pn), some (.ref psr), some (.ref pst), some (.ref pr), some tv, none, none, o11] ∧ Sg G2 Hx s c ∧ Gr G G2 H ∧ Same G1' G2 ∧ G2 pst = none ∧ Hx pst = some (.lst xs) ∧ G2 pr = some (.lst rv) ∧
            DrAll G2 rv ((([portR] ++ ownRefs hs 0 (tk0 sts)) ++ ownRefs hs i tk).map fun r => .tuple (rfL r)) ∧ Kp s c H Hx :=
          fun C e k => ⟨none, .non, l, sv, G1', (fun _ => .non), .inl rfl, rfl, C, gr1, Same.refl _, g1, e, el, by
            show DrAll G1' sv ((([portR] ++ ownRefs hs 0 (tk0 sts)) ++ []).map fun r => .tuple (rfL r))
            rw [List.append_nil]
            exact drAll_sub sg1 hsr, k⟩
        refine ⟨_, rfl, _, rfl, ph, hx, rfl, .inl (sqL_sub ((sB'.trans sg1).trans C1.sub) h1B), _, _, rfl, rfl, _, rfl, iteD (fun hk => ?_) fun _ => nope C1 e1 kq1⟩
        refine ⟨_, rfl, s, c, 6, rfl, C1.st, by decide, by decide, fun H2 r2 r20 r21 st2 kp2 => ⟨_, _, rfl, rfl, _, rfl, ?_⟩⟩
        have C2 := C1.kp kp2 st2
        have e2 := kp2 _ _ nS.1 nS.2 e1
        have kq2 := kq1.trans kp2
        refine iteD (fun _ => ?_) fun _ => nope C2 e2 kq2
        have hih : i < hs.length := by omega
        obtain ⟨vh, evh, hvh⟩ := drAll_at hD6 (i := i) (d := .tuple (hdL hs[i])) (by rw [List.getElem?_map, List.getElem?_eq_getElem hih]; rfl)
        obtain ⟨pq, zq, rfl, w1, w2⟩ := dr_tup hvh
        obtain ⟨z0, r, rfl, n0, w2⟩ := drAll_cons w2
        obtain ⟨z1, r, rfl, n1, w2⟩ := drAll_cons w2
        obtain ⟨z2, r, rfl, n2, w2⟩ := drAll_cons w2
        obtain rfl := drAll_nil w2
        obtain rfl := dr_str n1
        obtain ⟨pf, fs, rfl, q1, q2⟩ := dr_lst n2
        have hlf := drAll_len q2
        rw [List.length_map] at hlf
        have hf8 := (hw i _ (List.getElem?_eq_getElem hih)).2.2.1
        have sB2 := (sB'.trans sg1)
        have sq : ∀ {H2 : Hp}, Same G1' H2 → SqT K H2 pq [z0, .str hs[i].1, .ref pf] := fun k => sqT_subz (sB2.trans k) w1
        have ai : atI hx (0 + (i : Int)) = some (.ref pq) := at_of (j := i) (by omega) evh
        refine ⟨_, rfl, _, rfl, ph, _, _, _, rfl, rfl, sqL_sub (sB2.trans C2.sub) h1B, ai, pq, _, _, _, rfl, rfl, sq C2.sub, atI_nat (j := 1) rfl, ?_⟩
        refine ⟨_, rfl, _, rfl, _, rfl, ph, _, _, _, rfl, rfl, sqL_sub (sB2.trans C2.sub) h1B, ai, pq, _, _, _, rfl, rfl, sq C2.sub, atI_nat (j := 2) rfl, pf, rfl, ⟨_, sqL_subz (sB2.trans C2.sub) q1⟩, fun D hD => ?_⟩
        have nD := C2.st.neS hD
        have gD : G1' D = none := C2.sub.free hD
        have nDp : D ≠ pst := Ne.symm (ne_of_none e2 hD)
        refine lc_list (K := K) (a := pf) (xs := fs) (fun j H3 => ∃ (zs : List V) (G3 : Hp), Sg G3 H3 s c ∧ Gr G1' G3 H2 ∧ Same H2 H3 ∧ G3 D = none ∧ H3 D = some (.lst zs) ∧ DrAll G3 zs (((hs[i].2.take j).map fun f => (hs[i].1, f.1, f.2)).map fun r => .tuple (rfL r))) ⟨[], G1', C2.same (same_new hD), Gr.refl _ _, same_new hD, gD, upd_same, .nil⟩ (fun j H3 _ hh => by
          obtain ⟨zs, G3, C3, s3, _⟩ := hh
          exact sqL_subz ((sB2.trans s3.sub).trans C3.sub) q1) ?_ ?_
        · rintro j y H3 hj ⟨zs, G3, C3, s3, t3, g3, e3, hz⟩
          obtain ⟨df, edf, hdf⟩ := drAll_val q2 hj
          rw [List.getElem?_map] at edf
          cases ef : hs[i].2[j]? with
          | none => rw [ef] at edf; cases edf
          | some fl =>
          rw [ef] at edf
          cases edf
          obtain ⟨pt, zz, rfl, y1, y2⟩ := dr_tup hdf
          obtain ⟨a0, r, rfl, b0, y2⟩ := drAll_cons y2
          obtain ⟨a1, r, rfl, b1, y2⟩ := drAll_cons y2
          obtain rfl := drAll_nil y2
          obtain rfl := dr_str b0
          obtain rfl := dr_int b1
          have hzl := drAll_len hz
          rw [List.length_map, List.length_map, List.length_take] at hzl
          refine ⟨pt, _, rfl, sqT_subz ((sB2.trans s3.sub).trans C3.sub) y1, rfl, _, _, rfl, _, _, rfl, rfl, rfl, _, rfl, _, rfl, _, rfl, by show 3 ≤ sizeLine; decide, fun t ht => ?_⟩
          obtain ⟨r1, r2, r3, r4, r5⟩ := ref_turn (o := hs[i].1) (n := fl.1) (wd := fl.2) C3 s3.sub g3 e3 hz nD ht
          refine ⟨_, r1, small1000 (by omega), _, _, r2, s3.put (t3.free ht) (C3.sub.free ht), ?_, r4, upd_same, ?_⟩
          · exact same_set (t3.trans (same_new ht)) hD
          · rw [List.take_add_one, ef, List.map_append]
            exact r5
        · rintro H3 ⟨zs, G3, C3, s3, t3, g3, e3, hz⟩
          rw [hlf, List.take_length] at hz
          have hzl := drAll_len hz
          rw [List.length_map, List.length_map] at hzl
          refine ⟨l, D, sv, zs, rfl, rfl, C3.sub _ _ (s3.sub _ _ el), e3, Nat.le_of_lt (by have := small1000 (n := sv.length + zs.length) (by omega); exact this), fun l2 hl2 => ?_⟩
          have e3p := t3 _ _ e2
          have g3p : G3 pst = none := s3.free g1 (by rw [e2]; exact fun z => nomatch z)
          have kq3 := kq2.trans (Kp.same t3)
          have DH := kp_none kq2 C2.st hD
          have l2H := kp_none kq3 C3.st hl2
          have CF := C3.frz e3 nD
          have sF := same_new2 (o := .lst zs) g3
          have gF : (upd G3 D (.lst zs)) pst = none := by rw [upd_ne (Ne.symm nDp)]; exact g3p
          have grF := (gr1.kp s3 kq2 C2.st).put (o := .lst zs) DH g3
          have CL := CF.new (o := .lst (sv ++ zs)) hl2
          have sL := same_new2 (o := .lst (sv ++ zs)) (CF.sub.free hl2)
          refine ⟨some hs[i].1, .str hs[i].1, l2, sv ++ zs, _, (fun _ => .str _), .inr ⟨hs[i], List.getElem?_eq_getElem hih, rfl⟩, rfl, CL, grF.put l2H (CF.sub.free hl2), (s3.sub.trans sF).trans sL, by rw [upd_ne (ne_of_none e3p hl2)]; exact gF, (same_new hl2) _ _ e3p, upd_same, ?_, kq3.trans (Kp.new hl2)⟩
          rw [List.map_append]
          refine drAll_app (drAll_sub (((sg1.trans s3.sub).trans sF).trans sL) hsr) ?_
          unfold ownRefs
          rw [List.getElem?_eq_getElem hih]
          exact drAll_sub (sF.trans sL) hz
      rintro σ H2 ⟨tk, tv, pr, rv, G2, dtv, htk, rfl, C2, gr2, s2, g2, e2, epr, hrv, kq2⟩
      have hrl := drAll_len hrv
      rw [List.length_map, List.length_append, List.length_append] at hrl
      have o8i := own8 i tk
      have sB2 := (sB'.trans sg1).trans s2
      -- sure
      refine ⟨fun σ Hx => ∃ (psr2 : Addr) (sv2 : List V), Hx = H2 ∧ σ = [some (.ref s), some (.ref ph), some (.int (many : Nat)), some (.int (0 + (i : Int))), some (.ref pn), some (.ref psr2), some (.ref pst), some (.ref pr), some tv, none, none, o11] ∧ G2 psr2 = some (.lst sv2) ∧ DrAll G2 sv2 (([portR] ++ (if i = 0 then ownRefs hs 0 tk else ownRefs hs 0 (tk0 sts))).map fun r => .tuple (rfL r)), ?_, ?_⟩
      · refine ⟨_, rfl, rfl, _, rfl, ?_⟩
        rw [dcInt]
        refine iteD (fun h0 => ⟨_, rfl, pr, rv, rfl, rfl, epr, ?_⟩) fun h0 => ⟨psr, sv, rfl, rfl, s2 _ _ (sg1 _ _ esr), ?_⟩
        · obtain rfl : i = 0 := by omega
          have : sts = [] := List.length_eq_zero_iff.mp hsl
          subst this
          rw [if_pos rfl]
          exact hrv
        · rw [if_neg (by omega)]
          exact drAll_sub (sg1.trans s2) hsr
      rintro σ H3 ⟨psr2, sv2, rfl, rfl, esr2, hsr2⟩
      -- following
      have hin : i < ns.length := by omega
      have icast : (0 + (i : Int)) + 1 = ((i + 1 : Nat) : Int) := by omega
      refine setany_rd ?_
      refine ⟨_, rfl, _, rfl, _, rfl, _, _, rfl, rfl, _, rfl, pn, _, rfl, SqL.of (C2.sub _ _ (sB2 _ _ eN)), fun l3 hl3 => ?_⟩
      rw [icast, cut_from _ _ (by rw [List.length_map]; omega)]
      have l3H := kp_none kq2 C2.st hl3
      have C3 := C2.new (o := .lst ((ns.map V.str).drop (i + 1))) hl3
      have s3 := same_new2 (o := .lst ((ns.map V.str).drop (i + 1))) (C2.sub.free hl3)
      have gr3 := gr2.put (o := .lst ((ns.map V.str).drop (i + 1))) l3H (C2.sub.free hl3)
      have g3 : (upd G2 l3 (.lst ((ns.map V.str).drop (i + 1)))) pst = none := by rw [upd_ne (ne_of_none e2 hl3)]; exact g2
      have e3 := (same_new (o := .lst ((ns.map V.str).drop (i + 1))) hl3) _ _ e2
      have kq3 := kq2.trans (Kp.new (o := .lst ((ns.map V.str).drop (i + 1))) hl3)
      have d3 : Dr (upd G2 l3 (.lst ((ns.map V.str).drop (i + 1)))) (.ref l3) (.list ((ns.drop (i + 1)).map .str)) := .lst upd_same (drAll_sub (sB2.trans s3) (dN (i + 1)))
      generalize upd H3 l3 (.lst ((ns.map V.str).drop (i + 1))) = H4 at C3 e3 kq3 ⊢
      generalize upd G2 l3 (.lst ((ns.map V.str).drop (i + 1))) = G3' at C3 s3 gr3 g3 d3
      refine ⟨s, c, G3', .ref l3, ns.drop (i + 1), rfl, C3, d3, by rw [List.length_drop]; omega, fun H5 g hg C4 kp4 => ⟨by show 2 ≤ sizeLine; decide, fun t5 ht5 => ?_⟩⟩
      have e4 := kp4 _ _ nS.1 nS.2 e3
      have kq4 := kq3.trans kp4
      have t5H := kp_none kq4 C4.st ht5
      have C5' := C4.new (o := .tup [V.str "go", V.str g]) ht5
      have s5' := same_new2 (o := .tup [V.str "go", V.str g]) (C4.sub.free ht5)
      have gr5' := gr3.put (o := .tup [V.str "go", V.str g]) t5H (C4.sub.free ht5)
      have g5' : (upd G3' t5 (.tup [V.str "go", V.str g])) pst = none := by rw [upd_ne (ne_of_none e4 ht5)]; exact g3
      have e5' := (same_new (o := .tup [V.str "go", V.str g]) ht5) _ _ e4
      have kq5' := kq4.trans (Kp.new (o := .tup [V.str "go", V.str g]) ht5)
      have d5' : Dr (upd G3' t5 (.tup [V.str "go", V.str g])) (.ref t5) (.tuple (nxL (.go g))) := .tup upd_same (.cons (.str _) (.cons (.str _) .nil))
      generalize upd H5 t5 (.tup [V.str "go", V.str g]) = H6' at C5' e5' kq5' ⊢
      generalize upd G3' t5 (.tup [V.str "go", V.str g]) = G5' at C5' s5' gr5' g5' d5'
      have sB5 := (sB2.trans s3).trans s5'
      have s25 := s3.trans s5'
      refine ⟨fun σ Hx => ∃ (fv : V) (nx : Nx) (G6 : Hp), σ = [some (.ref s), some (.ref ph), some (.int (many : Nat)), some (.int (0 + (i : Int))), some (.ref pn), some (.ref psr2), some (.ref pst), some (.ref pr), some tv, none, none, some fv] ∧ Sg G6 Hx s c ∧ Gr G G6 H ∧ Same G5' G6 ∧ G6 pst = none ∧ Hx pst = some (.lst xs) ∧ Dr G6 fv (.tuple (nxL nx)) ∧ NxOk (([portR] ++ ownRefs hs 0 (tk0 sts)) ++ ownRefs hs i tk) (ns.drop (i + 1)) nx ∧ Kp s c H Hx, ?_, ?_⟩
      · refine ⟨_, rfl, s, c, 3, rfl, C5'.st, by decide, by decide, fun H7 r7 r70 r71 st7 kp7 => ⟨_, _, rfl, rfl, _, rfl, ?_⟩⟩
        have C7' := C5'.kp kp7 st7
        have e7' := kp7 _ _ nS.1 nS.2 e5'
        have kq7' := kq5'.trans kp7
        refine iteD (fun _ => ?_) fun _ => ⟨.ref t5, .go g, G5', rfl, C7', gr5', Same.refl _, g5', e7', d5', hg, kq7'⟩
        refine ⟨_, rfl, _, rfl, _, rfl, _, rfl, _, _, rfl, rfl, _, rfl, pn, _, rfl, SqL.of (C7'.sub _ _ (sB5 _ _ eN)), fun l8 hl8 => ?_⟩
        rw [icast, cut_from _ _ (by rw [List.length_map]; omega)]
        have l8H := kp_none kq7' C7'.st hl8
        have C8 := C7'.new (o := .lst ((ns.map V.str).drop (i + 1))) hl8
        have s8 := same_new2 (o := .lst ((ns.map V.str).drop (i + 1))) (C7'.sub.free hl8)
        have gr8 := gr5'.put (o := .lst ((ns.map V.str).drop (i + 1))) l8H (C7'.sub.free hl8)
        have g8 : (upd G5' l8 (.lst ((ns.map V.str).drop (i + 1)))) pst = none := by rw [upd_ne (ne_of_none e7' hl8)]; exact g5'
        have e8 := (same_new (o := .lst ((ns.map V.str).drop (i + 1))) hl8) _ _ e7'
        have kq8 := kq7'.trans (Kp.new (o := .lst ((ns.map V.str).drop (i + 1))) hl8)
        have d8 : Dr (upd G5' l8 (.lst ((ns.map V.str).drop (i + 1)))) (.ref l8) (.list ((ns.drop (i + 1)).map .str)) := .lst upd_same (drAll_sub (sB5.trans s8) (dN (i + 1)))
        have d8r : Dr (upd G5' l8 (.lst ((ns.map V.str).drop (i + 1)))) (.ref pr) (rfsD (([portR] ++ ownRefs hs 0 (tk0 sts)) ++ ownRefs hs i tk)) := .lst ((s25.trans s8) _ _ epr) (drAll_sub (s25.trans s8) hrv)
        generalize upd H7 l8 (.lst ((ns.map V.str).drop (i + 1))) = H8 at C8 e8 kq8 ⊢
        generalize upd G5' l8 (.lst ((ns.map V.str).drop (i + 1))) = G8 at C8 s8 gr8 g8 d8 d8r
        refine ⟨s, c, G8, .ref pr, .ref l8, _, ns.drop (i + 1), rfl, C8, d8r, d8, by rw [List.length_drop]; omega, by rw [List.length_append, List.length_append]; omega, by rw [List.length_append, List.length_append]; omega, ?_, fun H9 G9 fv nx hnx C9 gr9 kp9 d9 => ⟨fv, nx, G9, rfl, C9, gr8.kp gr9 kq8 C8.st, s8.trans gr9.sub, gr9.free g8 (by rw [e8]; exact fun z => nomatch z), kp9 _ _ nS.1 nS.2 e8, d9, hnx, kq8.trans kp9⟩⟩
        have own32 : ∀ k t, ∀ r ∈ ownRefs hs k t, r.2.2 ≤ 32 := fun k t r hr => by
          unfold ownRefs at hr
          split at hr
          · rename_i h e
            unfold hRefs at hr
            obtain ⟨f, hf, rfl⟩ := List.mem_map.mp hr
            obtain ⟨j, ej⟩ := List.mem_iff_getElem?.mp hf
            exact ((hw k _ e).2.2.2.1 j f ej).2.2.2
          · cases hr
        intro r hr
        rcases List.mem_append.mp hr with h | h
        · rcases List.mem_append.mp h with h | h
          · rw [List.mem_singleton.mp h]
            decide
          · exact own32 _ _ r h
        · exact own32 _ _ r h
      rintro σ H9 ⟨fv, nx, G6, rfl, C6', gr6', s6', g6', e6', dfv, hnx, kq6'⟩
      have sB6 := sB5.trans s6'
      refine ⟨_, rfl, .inl ⟨rfl, _, SqL.of e6'⟩, _, rfl, _, rfl, pn, _, _, _, rfl, rfl, SqL.of (C6'.sub _ _ (sB6 _ _ eN)), at_of (j := i) (by omega) (show (ns.map V.str)[i]? = some (.str (ns[i]'hin)) by rw [List.getElem?_map, List.getElem?_eq_getElem hin]; rfl), _, rfl, _, rfl, by show 4 ≤ sizeLine; decide, fun t ht => ?_⟩
      have tH := kp_none kq6' C6'.st ht
      have C8 := C6'.new (o := .tup [V.str "state", V.str (ns[i]'hin), tv, fv]) ht
      have s8 := same_new2 (o := .tup [V.str "state", V.str (ns[i]'hin), tv, fv]) (C6'.sub.free ht)
      have gr8 := gr6'.put (o := .tup [V.str "state", V.str (ns[i]'hin), tv, fv]) tH (C6'.sub.free ht)
      have g8 : (upd G6 t (.tup [V.str "state", V.str (ns[i]'hin), tv, fv])) pst = none := by rw [upd_ne (ne_of_none e6' ht)]; exact g6'
      have e8 := (same_new (o := .tup [V.str "state", V.str (ns[i]'hin), tv, fv]) ht) _ _ e6'
      have kq8 := kq6'.trans (Kp.new (o := .tup [V.str "state", V.str (ns[i]'hin), tv, fv]) ht)
      have dt : Dr (upd G6 t (.tup [V.str "state", V.str (ns[i]'hin), tv, fv])) (.ref t) (.tuple (saL ⟨ns[i]'hin, tk, nx⟩)) := .tup upd_same (.cons (.str _) (.cons (.str _) (.cons (dtv _) (.cons (dr_sub s8 dfv) .nil))))
      generalize upd H9 t (.tup [V.str "state", V.str (ns[i]'hin), tv, fv]) = H10 at C8 e8 kq8 ⊢
      generalize upd G6 t (.tup [V.str "state", V.str (ns[i]'hin), tv, fv]) = G8 at C8 s8 gr8 g8 dt
      have s28 := (s25.trans s6').trans s8
      have first : ∀ a : Sa, tk0 (sts ++ [a]) = if i = 0 then a.taken else tk0 sts := fun a => by
        cases sts with
        | nil =>
          obtain rfl : i = 0 := hsl.symm
          rfl
        | cons b r =>
          have : i ≠ 0 := by
            have : r.length + 1 = i := hsl
            omega
          rw [if_neg this]
          rfl
      refine ⟨pst, xs, _, rfl, rfl, e8, small1000 (by omega), sts ++ [⟨ns[i]'hin, tk, nx⟩], xs ++ [.ref t], G8, psr2, sv2, some (.int (0 + (i : Int))), some (.ref pr), some tv, some fv, rfl, C8.set g8 nS, gr8, sB6.trans s8, g8, upd_same, ?_, by rw [List.length_append, hsl]; rfl, ?_, s28 _ _ esr2, ?_, ?_⟩
      · rw [List.map_append]
        exact drAll_app (drAll_sub (((sg1.trans s2).trans s25).trans (s6'.trans s8)) hx') (.cons dt .nil)
      · intro k a ea'
        rw [List.getElem?_append] at ea'
        rw [first]
        by_cases hk : k < sts.length
        · rw [if_pos hk] at ea'
          have := hok k a ea'
          have hi0 : i ≠ 0 := by omega
          rw [if_neg hi0]
          exact this
        · rw [if_neg hk] at ea'
          have : k - sts.length = 0 := by
            rcases Nat.eq_zero_or_pos (k - sts.length) with h | h
            · exact h
            · rw [List.getElem?_eq_none (by show 1 ≤ _; omega)] at ea'
              cases ea'
          rw [this] at ea'
          cases ea'
          obtain rfl : k = i := by omega
          refine ⟨List.getElem?_eq_getElem hin, htk, ?_⟩
          by_cases hi0 : k = 0
          · subst hi0
            have : sts = [] := List.length_eq_zero_iff.mp hsl
            subst this
            rw [if_pos rfl]
            exact hnx
          · rw [if_neg hi0, if_neg hi0]
            exact hnx
      · rw [first]
        have := drAll_sub s28 hsr2
        by_cases hi0 : i = 0
        · rw [if_pos hi0] at this ⊢
          exact this
        · rw [if_neg hi0] at this ⊢
          exact this
      · intro b o h1 h2 h3
        rw [upd_ne (ne_of_none h3 pstH)]
        exact kq8 b o h1 h2 h3
    · rintro σ H' ⟨sts, xs, G', psr, sv, o3, o7, o8, o11, rfl, C', gr', sB', g', e', hx', hsl, hok, esr, hsr, kp'⟩
      rw [Int.toNat_natCast] at hsl
      have hxl := drAll_len hx'
      rw [List.length_map] at hxl
      have CF := C'.frz e' nS
      have sF := same_new2 (o := .lst xs) g'
      have grF := gr'.put (o := .lst xs) pstH g'
      have eF : (upd G' pst (.lst xs)) pst = some (.lst xs) := upd_same
      have hxF := drAll_sub sF hx'
      generalize upd G' pst (.lst xs) = GF at CF sF grF eF hxF
      refine ⟨fun σ Hx => ∃ (px : Addr) (n : Nat) (G2 : Hp), σ = [some (.ref s), some (.ref ph), some (.int (many : Nat)), o3, some (.ref pn), some (.ref psr), some (.ref px), o7, o8, none, none, o11] ∧ n ≤ 1 ∧ Sg G2 Hx s c ∧ Gr G G2 H ∧ Kp s c H Hx ∧ Dr G2 (.ref px) (sasD (sts.drop n ++ sts.take n)), ?_, ?_⟩
      · refine ⟨_, rfl, s, c, 3, rfl, CF.st, by decide, by decide, fun H2 r2 r20 r21 st2 kp2 => ⟨rfl, _, rfl, ?_⟩⟩
        have C2 := CF.kp kp2 st2
        have kq2 := kp'.trans kp2
        rw [dcInt]
        refine iteD (fun _ => ?_) fun _ => ⟨pst, 0, GF, rfl, by decide, C2, grF, kq2, by rw [List.drop_zero, List.take_zero, List.append_nil]; exact .lst eF hxF⟩
        refine ⟨_, rfl, _, rfl, pst, _, rfl, SqL.of (C2.sub _ _ eF), fun la hla => ?_⟩
        rw [show (1 : Int) = ((1 : Nat) : Int) from rfl, cut_from _ _ (by omega)]
        have sa := same_new (o := .lst (xs.drop 1)) hla
        have ea := (upd_same (H := H2) (a := la) (o := .lst (xs.drop 1)))
        have Ca := C2.same sa
        have kqa := kq2.trans (Kp.same sa)
        generalize upd H2 la (.lst (xs.drop 1)) = Ha at sa ea Ca kqa ⊢
        refine ⟨_, rfl, _, rfl, pst, _, rfl, SqL.of (Ca.sub _ _ eF), fun lb hlb => ?_⟩
        rw [cut_to]
        have sb := same_new (o := .lst (xs.take 1)) hlb
        have eb := (upd_same (H := Ha) (a := lb) (o := .lst (xs.take 1)))
        have Cb := Ca.same sb
        have kqb := kqa.trans (Kp.same sb)
        have ea2 := sb _ _ ea
        generalize upd Ha lb (.lst (xs.take 1)) = Hb at sb eb Cb kqb ea2 ⊢
        refine ⟨la, lb, _, _, rfl, rfl, ea2, eb, Nat.le_of_lt (small1000 (by rw [List.length_drop, List.length_take]; omega)), fun lc hlc => ?_⟩
        have lcH := kp_none kqb Cb.st hlc
        have sL := same_new2 (o := .lst (xs.drop 1 ++ xs.take 1)) (Cb.sub.free hlc)
        refine ⟨lc, 1, _, rfl, Nat.le_refl _, Cb.new hlc, grF.put lcH (Cb.sub.free hlc), kqb.trans (Kp.new hlc), .lst upd_same ?_⟩
        rw [List.map_append, List.map_drop, List.map_take]
        exact drAll_sub sL (drAll_app (drAll_drop hxF 1) (drAll_take hxF 1))
      · rintro σ H2 ⟨px, n, G2, rfl, hn1, C2, gr2, kq2, dpx⟩
        exact ⟨_, rfl, q H2 G2 px sts n C2 gr2 kq2 dpx hn1 ⟨ns, hNs, by omega, hok⟩⟩
end
end Pk
set_option Elab.async false
set_option linter.all false
set_option maxRecDepth 100000
set_option maxHeartbeats 4000000
namespace Pk
open PySem PySem.Spec PyProof.Rows L2 SX GxR Tk
abbrev sOperand : Stmt := topS 48
abbrev sExpr : Stmt := topS 49
abbrev sOper : Stmt := topS 50
abbrev sActs : Stmt := topS 51
theorem scOperand : FnScope ["state", "refs", "params", "kind", "owner", "name", "width"] ["state", "refs", "params"] (defScope sOperand) := ⟨rfl, rfl, rfl, by decide +kernel, rfl, by decide +kernel, by decide +kernel⟩
theorem scExpr : FnScope ["state", "refs", "params", "first"] ["state", "refs", "params"] (defScope sExpr) := ⟨rfl, rfl, rfl, by decide +kernel, rfl, by decide +kernel, by decide +kernel⟩
theorem scOper : FnScope ["state", "headers", "refs", "params", "kind", "owner", "name", "width"] ["state", "headers", "refs", "params"] (defScope sOper) := ⟨rfl, rfl, rfl, by decide +kernel, rfl, by decide +kernel, by decide +kernel⟩
abbrev NAc : List Str := ["state", "headers", "refs", "actions", "k", "many", "j", "params", "ops"]
theorem scActs : FnScope NAc ["state", "headers", "refs"] (defScope sActs) := ⟨rfl, rfl, rfl, by decide +kernel, rfl, by decide +kernel, by decide +kernel⟩
section
variable {P : Program} {w : World} {K : PySem.W.Frag} {mg : Str → Option Value} {base : Heap}
/-- a new tuple of data -/
theorem newT {G0 G H H0 : Hp} {s c t : Addr} {vs : List V} {ds : List PyData} (C : Sg G H s c) (gr : Gr G0 G H0) (kp : Kp s c H0 H) (ht : H t = none) (hd : DrAll G vs ds) :
    Sg (upd G t (.tup vs)) (upd H t (.tup vs)) s c ∧ Gr G0 (upd G t (.tup vs)) H0 ∧ Kp s c H0 (upd H t (.tup vs)) ∧ Same G (upd G t (.tup vs)) ∧ Dr (upd G t (.tup vs)) (.ref t) (.tuple ds) :=
  ⟨C.new ht, gr.put (kp_none kp C.st ht) (C.sub.free ht), kp.trans (Kp.new ht), same_new2 (C.sub.free ht), .tup upd_same (drAll_sub (same_new2 (C.sub.free ht)) hd)⟩
/-- a new list of data -/
theorem newL {G0 G H H0 : Hp} {s c t : Addr} {vs : List V} {ds : List PyData} (C : Sg G H s c) (gr : Gr G0 G H0) (kp : Kp s c H0 H) (ht : H t = none) (hd : DrAll G vs ds) :
    Sg (upd G t (.lst vs)) (upd H t (.lst vs)) s c ∧ Gr G0 (upd G t (.lst vs)) H0 ∧ Kp s c H0 (upd H t (.lst vs)) ∧ Same G (upd G t (.lst vs)) ∧ Dr (upd G t (.lst vs)) (.ref t) (.list ds) :=
  ⟨C.new ht, gr.put (kp_none kp C.st ht) (C.sub.free ht), kp.trans (Kp.new ht), same_new2 (C.sub.free ht), .lst upd_same (drAll_sub (same_new2 (C.sub.free ht)) hd)⟩
/-- the parts that an expression is made of stand in G -/
structure Rp (G : Hp) (v u : V) (rs : List Rf) (ps : List Fl) : Prop where
  dr : Dr G v (rfsD rs)
  dp : Dr G u (flsD ps)
  r0 : 0 < rs.length
  r1 : rs.length ≤ 100
  p1 : ps.length ≤ 10
theorem Rp.up {G G' : Hp} {v u : V} {rs : List Rf} {ps : List Fl} (h : Rp G v u rs ps) (k : Same G G') : Rp G' v u rs ps := ⟨dr_sub k h.dr, dr_sub k h.dp, h.r0, h.r1, h.p1⟩
def spOd (K : PySem.W.Frag) : Sp := fun vs H Q _ => ∃ (s c : Addr) (G : Hp) (v u : V) (rs : List Rf) (ps : List Fl), vs = [.ref s, v, u] ∧ Sg G H s c ∧ Rp G v u rs ps ∧ ∀ (H' G' : Hp) (x : V) (o : Od), OdOk rs ps o → Sg G' H' s c → Gr G G' H → Kp s c H H' → Dr G' x (.tuple (odL o)) → Q x H'
theorem ok_od {f : Addr} {fd : FuncData} (F : Fun K "_law_operand" "_law_operand" sOperand f fd) (T : Bl mg) (D1 : Df P w K mg base CX0 1 "_law_draw" ["state", "many"] spDraw) (D2 : Df P w K mg base CX0 2 "_law_pick" ["state", "row"] (spPick K)) (D2' : Df P w K mg base CX0 2 "_law_pick" ["state", "row"] (spPickK K)) : FnOk P w K mg base CX0 3 f fd ["state", "refs", "params"] (spOd K) := by
  obtain ⟨f1, fd1, G1, g1, k1, b1⟩ := D1.ex
  obtain ⟨f2, fd2, G2, g2, k2, b2⟩ := D2.ex
  obtain ⟨f3, fd3, G3, g3, k3, b3⟩ := D2'.ex
  refine F.ok scOperand (fun vs H Q E h => ?_) (fun cdv A outer s0 H vs Q E hr h => ?_)
  · obtain ⟨s, c, G, v, u, rs, ps, rfl, _⟩ := h
    rfl
  · obtain ⟨s, c, G, v, u, rs, ps, rfl, C, R, q⟩ := h
    have nd := scOperand.nd
    have hr1 : Room 1 _ := hr.mono (by omega)
    refine ⟨_, pss_cons (ps_set (i := 3) nd rfl (.inl rfl) (pe_call G1 hr1 (by rfl) g1 k1 b1 .nil pass0 (pa_cons (pv 0) (pa_cons pe_int pa_nil))))
      (pss_cons (ps_if (pt_cmpR op_eq (pv 3) pe_int (nomark _)) (pss_one (ps_ret (pe_tup (pa_cons pe_str (pa_cons (pe_call G2 hr (by rfl) g2 k2 b2 .nil pass0 (pa_cons (pv 0) (pa_cons (pe_lst (pa_cons pe_int (pa_cons pe_int (pa_cons pe_int (pa_cons pe_int (pa_cons pe_int (pa_cons pe_int (pa_cons pe_int (pa_cons (pe_call G1 hr1 (by rfl) g1 k1 b1 .nil pass0 (pa_cons (pv 0) (pa_cons pe_int pa_nil))) pa_nil))))))))) pa_nil))) pa_nil))))) pss_nil)
      (pss_cons (ps_if (PW.pt (pw_and (pt_cmpR op_eq (pv 3) pe_int (nomark _)) (pw_and1 (pt_cmpR op_gt (pe_callB call_len_seq (by rfl) T.zLen PySem.boot_len (pa_cons (pv 2) pa_nil)) pe_int (nomark _))))) (pss_one (ps_ret (pe_tup (pa_cons pe_str (pa_cons (pe_ix ix_tup (pe_call G3 hr (by rfl) g3 k3 b3 .nil pass0 (pa_cons (pv 0) (pa_cons (pv 2) pa_nil))) pe_int (fun _ _ => rfl)) pa_nil))))) pss_nil)
      (pss_cons (ps_asg (pe_call G3 hr (by rfl) g3 k3 b3 .nil pass0 (pa_cons (pv 0) (pa_cons (pv 1) pa_nil))) (pg_tup (by rfl) (pgs_cons (pg_name (i := 4) nd rfl (.inl rfl)) (pgs_cons (pg_name (i := 5) nd rfl (.inl rfl)) (pgs_cons (pg_name (i := 6) nd rfl (.inl rfl)) pgs_nil)))))
      (pss_one (ps_ret (pe_tup (pa_cons pe_str (pa_cons (pv 4) (pa_cons (pv 5) pa_nil))))))))), ?_⟩
    obtain ⟨pr, xr, rfl, e1, e2⟩ := dr_lst R.dr
    obtain ⟨pp, xp, rfl, a1, a2⟩ := dr_lst R.dp
    have hlp := drAll_len a2
    rw [List.length_map] at hlp
    have hr0 := R.r0
    have hr1' := R.r1
    have hp1 := R.p1
    refine ⟨_, rfl, s, c, 3, rfl, C.st, by decide, by decide, fun H1 k k0 k1' st1 kp1 => ?_⟩
    have C1 := C.kp kp1 st1
    have fin : ∀ {D : Ends}, D.rt = Q → tSeq (tAsg (tCall (spPickK K) [] E0 (tCons (tVar 0) (tCons (tVar 1) tNil))) (gTup K 3 (gCons (gName 4) (gCons (gName 5) (gCons (gName 6) gNil))))) (tRet (tTup (tCons (tC (.str "field")) (tCons (tVar 4) (tCons (tVar 5) tNil))))) D [some (.ref s), some (.ref pr), some (.ref pp), some (.int k), none, none, none] H1 := by
      intro D hD
      refine ⟨_, rfl, _, rfl, pickD E C1 R.dr (by rw [List.length_map]; omega) (by rw [List.length_map]; omega) fun H2 i d x ed hx C2 kp2 => ?_⟩
      rw [List.getElem?_map] at ed
      cases en : rs[i]? with
      | none => rw [en] at ed; cases ed
      | some rf =>
      rw [en] at ed
      cases ed
      obtain ⟨o, n, wd⟩ := rf
      obtain ⟨pt, zs, rfl, t1, t2⟩ := dr_tup hx
      obtain ⟨z0, r, rfl, b0, t2⟩ := drAll_cons t2
      obtain ⟨z1, r, rfl, b1, t2⟩ := drAll_cons t2
      obtain ⟨z2, r, rfl, b2, t2⟩ := drAll_cons t2
      obtain rfl := drAll_nil t2
      obtain rfl := dr_str b0
      obtain rfl := dr_str b1
      obtain rfl := dr_int b2
      refine ⟨pt, _, rfl, sqT_subz C2.sub t1, rfl, _, _, rfl, _, _, rfl, _, _, rfl, rfl, _, rfl, _, rfl, by show 3 ≤ sizeLine; decide, fun t ht => ?_⟩
      obtain ⟨n1, n2, n3, n4, n5⟩ := newT C2 (Gr.refl G H) (kp1.trans kp2) ht (.cons (.str "field") (.cons (.str o) (.cons (.str n) .nil)))
      rw [hD]
      exact q _ _ _ (.fld o n) ⟨wd, List.mem_of_getElem? en⟩ n1 n2 n3 n5
    refine ⟨_, rfl, rfl, _, rfl, ?_⟩
    rw [dcInt]
    refine iteD (fun _ => ?_) fun _ => ?_
    · refine ⟨_, rfl, _, rfl, s, c, 40, rfl, C1.st, by decide, by decide, fun H2 dv d0 d1 st2 kp2 => ⟨by show 8 ≤ sizeLine; decide, fun p hp => ?_⟩⟩
      have C2 := C1.kp kp2 st2
      have n1 := C2.st.neS hp
      refine ⟨s, c, p, _, rfl, C2.st.new hp, SqL.of upd_same, n1.1, n1.2, (by show 0 < 8; decide), (by show 8 ≤ 1000; decide), fun H3 i3 x3 hx3 st3 kp3 => ⟨by show 2 ≤ sizeLine; decide, fun t ht => ?_⟩⟩
      obtain ⟨b, hb, rfl⟩ := pick_ints (ns := [0, 1, 7, 255, 256, 65535, 4294967295, dv]) hx3
      have kq := (Kp.new hp).trans kp3
      obtain ⟨n1, n2, n3, n4, n5⟩ := newT (C2.kp kq st3) (Gr.refl G H) ((kp1.trans kp2).trans kq) ht (.cons (.str "num") (.cons (.int b) .nil))
      refine q _ _ _ (.num b) ?_ n1 n2 n3 n5
      simp only [List.mem_cons, List.not_mem_nil, or_false] at hb
      show 0 ≤ b ∧ b ≤ 4294967295
      omega
    · refine ⟨_, rfl, rfl, _, rfl, ?_⟩
      rw [dcInt]
      refine iteD (fun _ => ⟨_, rfl, pp, xp, rfl, .inl (sqL_subz C1.sub a1), _, _, rfl, rfl, _, rfl, iteD (fun hp => ?_) fun _ => fin rfl⟩) fun _ => fin rfl
      refine ⟨_, rfl, _, rfl, pickD E C1 R.dp (by rw [List.length_map]; omega) (by rw [List.length_map]; omega) fun H2 i d x ed hx C2 kp2 => ?_⟩
      rw [List.getElem?_map] at ed
      cases en : ps[i]? with
      | none => rw [en] at ed; cases ed
      | some fl =>
      rw [en] at ed
      cases ed
      obtain ⟨pt, zs, rfl, t1, t2⟩ := dr_tup hx
      obtain ⟨z0, r, rfl, b0, t2⟩ := drAll_cons t2
      obtain rfl := dr_str b0
      refine ⟨pt, _, _, _, rfl, rfl, sqT_subz C2.sub t1, atI_nat (j := 0) rfl, by show 2 ≤ sizeLine; decide, fun t ht => ?_⟩
      obtain ⟨n1, n2, n3, n4, n5⟩ := newT C2 (Gr.refl G H) (kp1.trans kp2) ht (.cons (.str "param") (.cons (.str fl.1) .nil))
      exact q _ _ _ (.par fl.1) ⟨fl.2, List.mem_of_getElem? en⟩ n1 n2 n3 n5
def spEx (K : PySem.W.Frag) : Sp := fun vs H Q _ => ∃ (s c : Addr) (G : Hp) (v u : V) (rs : List Rf) (ps : List Fl), vs = [.ref s, v, u] ∧ Sg G H s c ∧ Rp G v u rs ps ∧ ∀ (H' G' : Hp) (x : V) (e : Ex), ExOk rs ps e → Sg G' H' s c → Gr G G' H → Kp s c H H' → Dr G' x (.tuple (exL e)) → Q x H'
theorem ok_ex {f : Addr} {fd : FuncData} (F : Fun K "_law_expression" "_law_expression" sExpr f fd) (D1 : Df P w K mg base CX0 1 "_law_draw" ["state", "many"] spDraw) (D2 : Df P w K mg base CX0 2 "_law_pick" ["state", "row"] (spPick K)) (D3 : Df P w K mg base CX0 3 "_law_operand" ["state", "refs", "params"] (spOd K)) : FnOk P w K mg base CX0 4 f fd ["state", "refs", "params"] (spEx K) := by
  obtain ⟨f1, fd1, G1, g1, k1, b1⟩ := D1.ex
  obtain ⟨f2, fd2, G2, g2, k2, b2⟩ := D2.ex
  obtain ⟨f3, fd3, G3, g3, k3, b3⟩ := D3.ex
  refine F.ok scExpr (fun vs H Q E h => ?_) (fun cdv A outer s0 H vs Q E hr h => ?_)
  · obtain ⟨s, c, G, v, u, rs, ps, rfl, _⟩ := h
    rfl
  · obtain ⟨s, c, G, v, u, rs, ps, rfl, C, R, q⟩ := h
    have nd := scExpr.nd
    have hr1 : Room 1 _ := hr.mono (by omega)
    have hr2 : Room 2 _ := hr.mono (by omega)
    refine ⟨_, pss_cons (ps_set (i := 3) nd rfl (.inl rfl) (pe_call G3 hr (by rfl) g3 k3 b3 .nil pass0 (pa_cons (pv 0) (pa_cons (pv 1) (pa_cons (pv 2) pa_nil)))))
      (pss_cons (ps_if (pt_cmpR op_eq (pe_call G1 hr1 (by rfl) g1 k1 b1 .nil pass0 (pa_cons (pv 0) (pa_cons pe_int pa_nil))) pe_int (nomark _)) (pss_one (ps_ret (pv 3))) pss_nil)
      (pss_one (ps_ret (pe_tup (pa_cons (pe_call G2 hr2 (by rfl) g2 k2 b2 .nil pass0 (pa_cons (pv 0) (pa_cons (pe_lst (pa_cons pe_str (pa_cons pe_str (pa_cons pe_str (pa_cons pe_str (pa_cons pe_str pa_nil)))))) pa_nil))) (pa_cons (pv 3) (pa_cons (pe_call G3 hr (by rfl) g3 k3 b3 .nil pass0 (pa_cons (pv 0) (pa_cons (pv 1) (pa_cons (pv 2) pa_nil)))) pa_nil))))))), ?_⟩
    refine ⟨_, rfl, _, rfl, _, rfl, s, c, G, v, u, rs, ps, rfl, C, R, fun H1 G1' x o ho C1 gr1 kp1 d1 => ?_⟩
    refine ⟨_, rfl, s, c, 3, rfl, C1.st, by decide, by decide, fun H2 r r0 r1 st2 kp2 => ⟨rfl, _, rfl, ?_⟩⟩
    have C2 := C1.kp kp2 st2
    rw [dcInt]
    refine iteD (fun _ => ⟨_, rfl, q H2 G1' x (.one o) ho C2 gr1 (kp1.trans kp2) d1⟩) fun _ => ?_
    refine ⟨_, rfl, by show 5 ≤ sizeLine; decide, fun p hp => ?_⟩
    have n1 := C2.st.neS hp
    refine ⟨s, c, p, _, rfl, C2.st.new hp, SqL.of upd_same, n1.1, n1.2, (by show 0 < 5; decide), (by show 5 ≤ 1000; decide), fun H3 i3 x3 hx3 st3 kp3 => ?_⟩
    have hm : x3 ∈ signs.map V.str := List.mem_of_getElem? hx3
    obtain ⟨op, hop, rfl⟩ := List.mem_map.mp hm
    have kq3 := (kp1.trans kp2).trans ((Kp.new hp).trans kp3)
    have C3 := C2.kp ((Kp.new hp).trans kp3) st3
    refine ⟨_, rfl, _, rfl, _, rfl, _, rfl, s, c, G1', v, u, rs, ps, rfl, C3, R.up gr1.sub, fun H4 G4 y o2 ho2 C4 gr4 kp4 d4 => ⟨by show 3 ≤ sizeLine; decide, fun t ht => ?_⟩⟩
    obtain ⟨n1, n2, n3, n4, n5⟩ := newT C4 (gr1.kp gr4 kq3 C3.st) (kq3.trans kp4) ht (.cons (.str op) (.cons (dr_sub gr4.sub d1) (.cons d4 .nil)))
    exact q _ _ _ (.two op o o2) ⟨hop, ho, ho2⟩ n1 n2 n3 n5
end
end Pk
set_option Elab.async false
set_option linter.all false
set_option maxRecDepth 100000
set_option maxHeartbeats 4000000
namespace Pk
open PySem PySem.Spec PyProof.Rows L2 SX GxR Tk
section
variable {P : Program} {w : World} {K : PySem.W.Frag} {mg : Str → Option Value} {base : Heap}
theorem OdOk.up {rs rs' : List Rf} {ps : List Fl} (k : ∀ r ∈ rs, r ∈ rs') : ∀ {o : Od}, OdOk rs ps o → OdOk rs' ps o
  | .num n, h => h
  | .par x, h => h
  | .fld o n, ⟨w, h⟩ => ⟨w, k _ h⟩
theorem ExOk.up {rs rs' : List Rf} {ps : List Fl} (k : ∀ r ∈ rs, r ∈ rs') : ∀ {o : Ex}, ExOk rs ps o → ExOk rs' ps o
  | .one a, h => OdOk.up k h
  | .two op a b, ⟨h0, h1, h2⟩ => ⟨h0, OdOk.up k h1, OdOk.up k h2⟩
def spOp (K : PySem.W.Frag) : Sp := fun vs H Q _ => ∃ (s c : Addr) (G : Hp) (z v u : V) (hs : List Hd) (rs : List Rf) (ps : List Fl), vs = [.ref s, z, v, u] ∧ Sg G H s c ∧ Dr G z (hdsD hs) ∧ 1 ≤ hs.length ∧ hs.length ≤ 6 ∧ Rp G v u rs ps ∧ rs[0]? = some portR ∧
  ∀ (H' G' : Hp) (x : V) (o : Op), OpOk hs rs ps o → Sg G' H' s c → Gr G G' H → Kp s c H H' → Dr G' x (.tuple (opL o)) → Q x H'
theorem ok_op {f : Addr} {fd : FuncData} (F : Fun K "_law_operation" "_law_operation" sOper f fd) (T : Bl mg) (D1 : Df P w K mg base CX0 1 "_law_draw" ["state", "many"] spDraw) (D2 : Df P w K mg base CX0 2 "_law_pick" ["state", "row"] (spPickK K)) (D3 : Df P w K mg base CX0 4 "_law_expression" ["state", "refs", "params"] (spEx K)) : FnOk P w K mg base CX0 5 f fd ["state", "headers", "refs", "params"] (spOp K) := by
  obtain ⟨f1, fd1, G1, g1, k1, b1⟩ := D1.ex
  obtain ⟨f2, fd2, G2, g2, k2, b2⟩ := D2.ex
  obtain ⟨f3, fd3, G3, g3, k3, b3⟩ := D3.ex
  refine F.ok scOper (fun vs H Q E h => ?_) (fun cdv A outer s0 H vs Q E hr h => ?_)
  · obtain ⟨s, c, G, z, v, u, hs, rs, ps, rfl, _⟩ := h
    rfl
  · obtain ⟨s, c, G, z, v, u, hs, rs, ps, rfl, C, dh, hh1, hh6, R, hport, q⟩ := h
    have nd := scOper.nd
    have hr1 : Room 1 _ := hr.mono (by omega)
    have hr2 : Room 2 _ := hr.mono (by omega)
    refine ⟨_, pss_cons (ps_set (i := 4) nd rfl (.inl rfl) (pe_call G1 hr1 (by rfl) g1 k1 b1 .nil pass0 (pa_cons (pv 0) (pa_cons pe_int pa_nil))))
      (C8.pss_cut (ps_if (pt_cmpR op_lt (pv 4) pe_int (nomark _))
        (pss_cons (ps_asg (pe_ix ix_list (pv 2) pe_int (fun _ _ => rfl)) (pg_tup (by rfl) (pgs_cons (pg_name (i := 5) nd rfl (.inl rfl)) (pgs_cons (pg_name (i := 6) nd rfl (.inl rfl)) (pgs_cons (pg_name (i := 7) nd rfl (.inl rfl)) pgs_nil)))))
        (pss_one (ps_if (pt_cmpR op_gt (pe_callB call_len_seq (by rfl) T.zLen PySem.boot_len (pa_cons (pv 2) pa_nil)) pe_int (nomark _))
          (pss_cons (ps_asg (pe_call G2 hr2 (by rfl) g2 k2 b2 .nil pass0 (pa_cons (pv 0) (pa_cons (pe_slice sl_list (pv 2) (po_some pe_int) po_none) pa_nil))) (pg_tup (by rfl) (pgs_cons (pg_name (i := 5) nd rfl (.inl rfl)) (pgs_cons (pg_name (i := 6) nd rfl (.inl rfl)) (pgs_cons (pg_name (i := 7) nd rfl (.inl rfl)) pgs_nil)))))
          (pss_one (ps_ret (pe_tup (pa_cons pe_str (pa_cons (pe_tup (pa_cons (pv 5) (pa_cons (pv 6) pa_nil))) (pa_cons (pe_call G3 hr (by rfl) g3 k3 b3 .nil pass0 (pa_cons (pv 0) (pa_cons (pv 2) (pa_cons (pv 3) pa_nil)))) pa_nil))))))) pss_nil))) pss_nil)
      (pss_cons (ps_if (pt_cmpR op_eq (pv 4) pe_int (nomark _)) (pss_one (ps_ret (pe_tup (pa_cons pe_str pa_nil)))) pss_nil)
      (pss_cons (ps_if (pt_cmpR op_eq (pv 4) pe_int (nomark _)) (pss_one (ps_ret (pe_tup (pa_cons pe_str (pa_cons (pe_ix ix_tup (pe_call G2 hr2 (by rfl) g2 k2 b2 .nil pass0 (pa_cons (pv 0) (pa_cons (pv 1) pa_nil))) pe_int (fun _ _ => rfl)) pa_nil))))) pss_nil)
      (pss_cons (ps_if (pt_cmpR op_eq (pv 4) pe_int (nomark _)) (pss_one (ps_ret (pe_tup (pa_cons pe_str (pa_cons (pe_ix ix_tup (pe_call G2 hr2 (by rfl) g2 k2 b2 .nil pass0 (pa_cons (pv 0) (pa_cons (pv 1) pa_nil))) pe_int (fun _ _ => rfl)) pa_nil))))) pss_nil)
      (pss_cons (ps_if (pt_cmpR op_eq (pv 4) pe_int (nomark _)) (pss_one (ps_ret (pe_tup (pa_cons pe_str (pa_cons (pe_call G3 hr (by rfl) g3 k3 b3 .nil pass0 (pa_cons (pv 0) (pa_cons (pv 2) (pa_cons (pv 3) pa_nil)))) pa_nil))))) pss_nil)
      (pss_one (ps_ret (pe_tup (pa_cons pe_str (pa_cons (pe_call G2 hr2 (by rfl) g2 k2 b2 .nil pass0 (pa_cons (pv 0) (pa_cons (pe_lst (pa_cons (pe_tup (pa_cons pe_str (pa_cons (pe_call G1 hr1 (by rfl) g1 k1 b1 .nil pass0 (pa_cons (pv 0) (pa_cons pe_int pa_nil))) pa_nil))) (pa_cons (pe_tup (pa_cons pe_str (pa_cons pe_str (pa_cons pe_str pa_nil)))) pa_nil))) pa_nil))) pa_nil)))))))))), ?_⟩
    obtain ⟨pr, xr, rfl, e1, e2⟩ := dr_lst R.dr
    obtain ⟨ph, xh, rfl, a1, a2⟩ := dr_lst dh
    have hlr := drAll_len e2
    rw [List.length_map] at hlr
    have hr0 := R.r0
    have hr1' := R.r1
    refine ⟨_, rfl, s, c, 9, rfl, C.st, by decide, by decide, fun H1 k k0 k1' st1 kp1 => ?_⟩
    have C1 := C.kp kp1 st1
    -- a ref's tuple taken apart
    have take : ∀ {G2 : Hp} {x : V} {i : Nat} {rf : Rf}, Dr G2 x (.tuple (rfL rf)) → ∃ pt z0, x = .ref pt ∧ G2 pt = some (.tup [.str rf.1, .str rf.2.1, z0]) := by
      intro G2 x i rf hx
      obtain ⟨pt, zs, rfl, t1, t2⟩ := dr_tup hx
      obtain ⟨z0, r, rfl, b0, t2⟩ := drAll_cons t2
      obtain ⟨z1, r, rfl, b1, t2⟩ := drAll_cons t2
      obtain ⟨z2, r, rfl, b2, t2⟩ := drAll_cons t2
      obtain rfl := drAll_nil t2
      obtain rfl := dr_str b0
      obtain rfl := dr_str b1
      exact ⟨pt, _, rfl, t1⟩
    refine ⟨fun σ Hx => Hx = H1 ∧ ∃ o5 o6 o7, σ = [some (.ref s), some (.ref ph), some (.ref pr), some u, some (.int k), o5, o6, o7], ?_, ?_⟩
    · refine ⟨_, rfl, _, _, rfl, rfl, _, rfl, iteD (fun _ => ?_) fun _ => ⟨rfl, _, _, _, rfl⟩⟩
      obtain ⟨y, ey, hy⟩ := drAll_at e2 (i := 0) (d := .tuple (rfL portR)) (by rw [List.getElem?_map, hport]; rfl)
      obtain ⟨pt, z0, rfl, t1⟩ := take (i := 0) hy
      refine ⟨_, rfl, pr, _, _, _, rfl, rfl, sqL_subz C1.sub e1, atI_nat (j := 0) ey, pt, _, rfl, sqT_subz C1.sub t1, rfl, _, _, rfl, _, _, rfl, _, _, rfl, rfl, ?_⟩
      refine ⟨_, rfl, pr, xr, rfl, .inl (sqL_subz C1.sub e1), _, _, rfl, rfl, _, rfl, iteD (fun hgt => ?_) fun _ => ⟨rfl, _, _, _, rfl⟩⟩
      refine ⟨_, rfl, _, rfl, _, rfl, pr, xr, rfl, sqL_subz C1.sub e1, fun l hl => ?_⟩
      rw [show (1 : Int) = ((1 : Nat) : Int) from rfl, cut_from _ _ (by omega)]
      obtain ⟨C2, gr2, kp2, s2, d2⟩ := newL C1 (Gr.refl G H) kp1 hl (drAll_drop e2 1)
      rw [← List.map_drop] at d2
      generalize upd H1 l (.lst (xr.drop 1)) = H2 at C2 kp2 ⊢
      generalize upd G l (.lst (xr.drop 1)) = G2' at C2 gr2 s2 d2
      refine pickD E C2 d2 (by rw [List.length_map, List.length_drop]; omega) (by rw [List.length_map, List.length_drop]; omega) fun H3 i d x ed hx C3 kp3 => ?_
      rw [List.getElem?_map] at ed
      cases en : (rs.drop 1)[i]? with
      | none => rw [en] at ed; cases ed
      | some rf =>
      rw [en] at ed
      cases ed
      obtain ⟨pt2, z2, rfl, u1⟩ := take (i := 0) hx
      have kq3 := kp2.trans kp3
      refine ⟨pt2, _, rfl, sqT_subz C3.sub u1, rfl, _, _, rfl, _, _, rfl, _, _, rfl, rfl, _, rfl, _, rfl, by show 2 ≤ sizeLine; decide, fun t ht => ?_⟩
      obtain ⟨C4, gr4, kp4, s4, d4⟩ := newT C3 gr2 kq3 ht (.cons (.str rf.1) (.cons (.str rf.2.1) .nil))
      refine ⟨_, rfl, _, rfl, _, rfl, s, c, _, .ref pr, u, rs, ps, rfl, C4, R.up (s2.trans s4), fun H5 G5 y e he C5 gr5 kp5 d5 => ⟨by show 3 ≤ sizeLine; decide, fun t2 ht2 => ?_⟩⟩
      obtain ⟨n1, n2, n3, n4, n5⟩ := newT C5 (gr4.kp gr5 kp4 C4.st) (kp4.trans kp5) ht2 (.cons (.str "set") (.cons (dr_sub gr5.sub d4) (.cons d5 .nil)))
      exact q _ _ _ (.set rf.1 rf.2.1 e) ⟨⟨rf.2.2, List.mem_of_getElem? en⟩, he⟩ n1 n2 n3 n5
    rintro σ Hx ⟨rfl, o5, o6, o7, rfl⟩
    have pickH : ∀ {D : Ends} {nm : Str} (mk : Str → Op), D.rt = Q → (∀ x ∈ hs, OpOk hs rs ps (mk x.1)) → (∀ h, opL (mk h) = [.str nm, .str h]) →
        tRet (tTup (tCons (tC (.str nm)) (tCons (tOp (rIxT K) (tCall (spPickK K) [] E0 (tCons (tVar 0) (tCons (tVar 1) tNil))) (tC (.int 1))) tNil))) D [some (.ref s), some (.ref ph), some (.ref pr), some u, some (.int k), o5, o6, o7] Hx := by
      intro D nm mk hD hok hL
      refine ⟨_, rfl, _, rfl, pickD E C1 dh (by rw [List.length_map]; omega) (by rw [List.length_map]; omega) fun H2 i d x ed hx C2 kp2 => ?_⟩
      rw [List.getElem?_map] at ed
      cases en : hs[i]? with
      | none => rw [en] at ed; cases ed
      | some h =>
      rw [en] at ed
      cases ed
      obtain ⟨pt, zs, rfl, t1, t2⟩ := dr_tup hx
      obtain ⟨z0, r, rfl, b0, t2⟩ := drAll_cons t2
      obtain ⟨z1, r, rfl, b1, t2⟩ := drAll_cons t2
      obtain rfl := dr_str b1
      refine ⟨pt, _, _, _, rfl, rfl, sqT_subz C2.sub t1, atI_nat (j := 1) rfl, by show 2 ≤ sizeLine; decide, fun t ht => ?_⟩
      obtain ⟨n1, n2, n3, n4, n5⟩ := newT C2 (Gr.refl G H) (kp1.trans kp2) ht (.cons (.str nm) (.cons (.str h.1) .nil))
      rw [hD]
      exact q _ _ _ (mk h.1) (hok h (List.mem_of_getElem? en)) n1 n2 n3 (by rw [hL]; exact n5)
    refine ⟨_, rfl, rfl, _, rfl, ?_⟩
    rw [dcInt]
    refine iteD (fun _ => ⟨by show 1 ≤ sizeLine; decide, fun t ht => ?_⟩) fun _ => ⟨_, rfl, rfl, _, rfl, ?_⟩
    · obtain ⟨n1, n2, n3, n4, n5⟩ := newT C1 (Gr.refl G H) kp1 ht (.cons (.str "drop") .nil)
      exact q _ _ _ .drp trivial n1 n2 n3 n5
    rw [dcInt]
    refine iteD (fun _ => pickH .add rfl (fun x hx => ⟨x, hx, rfl⟩) (fun _ => rfl)) fun _ => ⟨_, rfl, rfl, _, rfl, ?_⟩
    rw [dcInt]
    refine iteD (fun _ => pickH .rem rfl (fun x hx => ⟨x, hx, rfl⟩) (fun _ => rfl)) fun _ => ⟨_, rfl, rfl, _, rfl, ?_⟩
    rw [dcInt]
    refine iteD (fun _ => ?_) fun _ => ?_
    · refine ⟨_, rfl, _, rfl, _, rfl, s, c, G, .ref pr, u, rs, ps, rfl, C1, R, fun H5 G5 y e he C5 gr5 kp5 d5 => ⟨by show 2 ≤ sizeLine; decide, fun t2 ht2 => ?_⟩⟩
      obtain ⟨n1, n2, n3, n4, n5⟩ := newT C5 ((Gr.refl G H).kp gr5 kp1 C1.st) (kp1.trans kp5) ht2 (.cons (.str "send") (.cons d5 .nil))
      exact q _ _ _ (.snd e) he n1 n2 n3 n5
    · refine ⟨_, rfl, _, rfl, s, c, 9, rfl, C1.st, by decide, by decide, fun H2 dv d0 d1 st2 kp2 => ⟨by show 2 ≤ sizeLine; decide, fun t1 ht1 => ?_⟩⟩
      have C2 := C1.kp kp2 st2
      obtain ⟨C3, gr3, kp3, s3, d3⟩ := newT C2 (Gr.refl G H) (kp1.trans kp2) ht1 (.cons (.str "num") (.cons (.int dv) .nil))
      refine ⟨by show 3 ≤ sizeLine; decide, fun t2 ht2 => ?_⟩
      obtain ⟨C4, gr4, kp4, s4, d4⟩ := newT C3 gr3 kp3 ht2 (.cons (.str "field") (.cons (.str "packet") (.cons (.str "port") .nil)))
      refine ⟨by show 2 ≤ sizeLine; decide, fun l hl => ?_⟩
      obtain ⟨C5, gr5, kp5, s5, d5⟩ := newL C4 gr4 kp4 hl (.cons (dr_sub s4 d3) (.cons d4 .nil))
      refine pickD E C5 d5 (by show 0 < 2; decide) (by show 2 ≤ 1000; decide) fun H6 i d x ed hx C6 kp6 => ⟨by show 2 ≤ sizeLine; decide, fun t3 ht3 => ?_⟩
      obtain ⟨n1, n2, n3, n4, n5⟩ := newT C6 gr5 (kp5.trans kp6) ht3 (.cons (.str "send") (.cons hx .nil))
      match i, ed with
      | 0, ed =>
        cases ed
        exact q _ _ _ (.snd (.one (.num dv))) ⟨d0, by omega⟩ n1 n2 n3 n5
      | 1, ed =>
        cases ed
        exact q _ _ _ (.snd (.one (.fld "packet" "port"))) ⟨3, List.mem_of_getElem? hport⟩ n1 n2 n3 n5
      | m + 2, ed => cases ed
end
end Pk
set_option Elab.async false
set_option linter.all false
set_option maxRecDepth 100000
set_option maxHeartbeats 4000000
namespace Pk
open PySem PySem.Spec PyProof.Rows L2 SX GxR Tk
theorem acsOk_app {hs : List Hd} {rs : List Rf} {l : List Ac} {a : Ac} (h : ∀ k a, l[k]? = some a → AcOk hs rs k a) (ha : AcOk hs rs l.length a) : ∀ k b, (l ++ [a])[k]? = some b → AcOk hs rs k b := by
  intro j g e
  rw [List.getElem?_append] at e
  by_cases hj : j < l.length
  · rw [if_pos hj] at e
    exact h j g e
  · rw [if_neg hj] at e
    have : j - l.length = 0 := by
      rcases Nat.eq_zero_or_pos (j - l.length) with h | h
      · exact h
      · rw [List.getElem?_eq_none (by show 1 ≤ _; omega)] at e
        cases e
    rw [this] at e
    cases e
    obtain rfl : j = l.length := by omega
    exact ha
section
variable {P : Program} {w : World} {K : PySem.W.Frag} {mg : Str → Option Value} {base : Heap}
def spAs (K : PySem.W.Frag) : Sp := fun vs H Q _ => ∃ (s c : Addr) (G : Hp) (z v : V) (hs : List Hd) (rs : List Rf), vs = [.ref s, z, v] ∧ Sg G H s c ∧ Dr G z (hdsD hs) ∧ 1 ≤ hs.length ∧ hs.length ≤ 6 ∧ Dr G v (rfsD rs) ∧ rs[0]? = some portR ∧ rs.length ≤ 100 ∧
  ∀ (H' G' : Hp) (p : Addr) (acs : List Ac), AcsOk hs rs acs → Sg G' H' s c → Gr G G' H → Kp s c H H' → Dr G' (.ref p) (acsD acs) → Q (.ref p) H'
theorem ok_as {f : Addr} {fd : FuncData} (F : Fun K "_law_actions" "_law_actions" sActs f fd) (T : Bl mg) (D1 : Df P w K mg base CX0 1 "_law_draw" ["state", "many"] spDraw) (D2 : Df P w K mg base CX0 2 "_law_pick" ["state", "row"] (spPick K)) (D3 : Df P w K mg base CX0 3 "_law_name" ["state", "k"] spNm) (D4 : Df P w K mg base CX0 5 "_law_operation" ["state", "headers", "refs", "params"] (spOp K)) : FnOk P w K mg base CX0 6 f fd ["state", "headers", "refs"] (spAs K) := by
  obtain ⟨f1, fd1, G1, g1, k1, b1⟩ := D1.ex
  obtain ⟨f2, fd2, G2, g2, k2, b2⟩ := D2.ex
  obtain ⟨f3, fd3, G3, g3, k3, b3⟩ := D3.ex
  obtain ⟨f4, fd4, G4, g4, k4, b4⟩ := D4.ex
  refine F.ok scActs (fun vs H Q E h => ?_) (fun cdv A outer s0 H vs Q E hr h => ?_)
  · obtain ⟨s, c, G, z, v, hs, rs, rfl, _⟩ := h
    rfl
  · obtain ⟨s, c, G, z, v, hs, rs, rfl, C, dh, hh1, hh6, dr, hport, hr100, q⟩ := h
    have nd := scActs.nd
    have hr1 : Room 1 _ := hr.mono (by omega)
    have hr2 : Room 2 _ := hr.mono (by omega)
    have hr3 : Room 3 _ := hr.mono (by omega)
    refine ⟨_, pss_cons (ps_set (i := 3) nd rfl (.inl rfl) (pe_lst pa_nil))
      (pss_cons (ps_for PassesOwn.never rfl (pi_range1 (by rfl) T.zRange (pa_cons (pe_op op_add pe_int (pe_call G1 hr1 (by rfl) g1 k1 b1 .nil pass0 (pa_cons (pv 0) (pa_cons (pe_call G2 hr2 (by rfl) g2 k2 b2 .nil pass0 (pa_cons (pv 0) (pa_cons (pe_lst (pa_cons pe_int (pa_cons pe_int (pa_cons pe_int pa_nil)))) pa_nil))) pa_nil)))) pa_nil)) (pg_name (i := 4) nd rfl (.inl rfl))
        (pss_cons (ps_set (i := 5) nd rfl (.inl rfl) (pe_call G1 hr1 (by rfl) g1 k1 b1 .nil pass0 (pa_cons (pv 0) (pa_cons (pe_call G2 hr2 (by rfl) g2 k2 b2 .nil pass0 (pa_cons (pv 0) (pa_cons (pe_lst (pa_cons pe_int (pa_cons pe_int (pa_cons pe_int pa_nil)))) pa_nil))) pa_nil))))
        (pss_cons (ps_set (i := 7) nd rfl (.inr rfl) (pe_lc (own := [("j", 6)]) (g := gName 6) (tt := tYes) rfl nd (pi_range1 (by rfl) T.zRange (pa_cons (pv 5) pa_nil)) (blkOk_by (N := NAc) (sc := defScope sActs) (by decide +kernel)) (fun _ _ _ _ _ => pg_name (i := 6) nd rfl (Or.inl rfl)) (fun _ _ _ _ _ => pts_nil)
          (fun _ _ _ _ _ => pe_tup (pa_cons (pe_call G3 hr3 (by rfl) g3 k3 b3 .nil pass0 (pa_cons (pv 0) (pa_cons (pv 6) pa_nil))) (pa_cons (pe_call G2 hr2 (by rfl) g2 k2 b2 .nil pass0 (pa_cons (pv 0) (pa_cons (pe_lst (pa_cons pe_int (pa_cons pe_int (pa_cons pe_int (pa_cons pe_int pa_nil))))) pa_nil))) pa_nil)))))
        (pss_cons (ps_setLc (i := 8) (own := [("j", 6)]) (g := gName 6) (tt := tYes) rfl nd rfl rfl (sw_true rfl rfl rfl (by decide +kernel)) (pi_range1 (by rfl) T.zRange (pa_cons (pe_call G1 hr1 (by rfl) g1 k1 b1 .nil pass0 (pa_cons (pv 0) (pa_cons (pe_call G2 hr2 (by rfl) g2 k2 b2 .nil pass0 (pa_cons (pv 0) (pa_cons (pe_lst (pa_cons pe_int (pa_cons pe_int (pa_cons pe_int pa_nil)))) pa_nil))) pa_nil))) pa_nil)) (blkOk_by (N := NAc) (sc := defScope sActs) (by decide +kernel)) (fun _ _ _ _ _ => pg_name (i := 6) nd rfl (Or.inl rfl)) (fun _ _ _ _ _ => pts_nil)
          (fun _ _ _ _ _ => pe_call G4 hr (by rfl) g4 k4 b4 .nil pass0 (pa_cons (pv 0) (pa_cons (pv 1) (pa_cons (pv 2) (pa_cons (pv 7) pa_nil))))))
        (pss_one (ps_expr (pe_bm PySem.F.plainAttrs_list PySem.F.slot_list_append PySem.F.type_list_append mt_append (pv 3) (pa_cons (pe_tup (pa_cons pe_str (pa_cons (pe_call G3 hr3 (by rfl) g3 k3 b3 .nil pass0 (pa_cons (pv 0) (pa_cons (pv 4) pa_nil))) (pa_cons (pv 7) (pa_cons (pv 8) pa_nil))))) pa_nil))))))))
      (pss_one (ps_ret (pv 3)))), ?_⟩
    refine setnil_rd fun ph H1 hph s1 e1 => ?_
    have nf := C.st.neS hph
    have C1 := C.same s1
    have gh : G ph = none := C.sub.free hph
    refine ⟨_, rfl, _, rfl, by show 3 ≤ sizeLine; decide, fun p hp => ?_⟩
    have n1 := C1.st.neS hp
    refine ⟨s, c, p, _, rfl, C1.st.new hp, SqL.of upd_same, n1.1, n1.2, (by show 0 < 3; decide), (by show 3 ≤ 1000; decide), fun H2 i2 x2 hx2 st2 kp2 => ?_⟩
    obtain ⟨pk, hpk, rfl⟩ := pick_ints (ns := [3, 3, 8]) hx2
    have hpkb : 1 ≤ pk ∧ pk ≤ 8 := by
      simp only [List.mem_cons, List.not_mem_nil, or_false] at hpk
      omega
    have kq2 := (Kp.new hp).trans kp2
    have C2 := C1.kp kq2 st2
    have e2 := kq2 _ _ nf.1 nf.2 e1
    refine ⟨s, c, pk, rfl, st2, by omega, by omega, fun H3 r r0 r1 st3 kp3 => ⟨_, _, rfl, rfl, 1 + r, rfl, by omega, by omega, ?_⟩⟩
    have C3 := C2.kp kp3 st3
    have e3 := kp3 _ _ nf.1 nf.2 e2
    refine for_range (lo := 0) (n := (1 + r).toNat) (fun i σ H' => ∃ (acs : List Ac) (xs : List V) (G' : Hp) (o4 o5 o7 o8 : Option V), σ = [some (.ref s), some z, some v, some (.ref ph), o4, o5, none, o7, o8] ∧ Sg G' H' s c ∧ Gr G G' H ∧ G' ph = none ∧ H' ph = some (.lst xs) ∧ DrAll G' xs (acs.map fun a => .tuple (acL a)) ∧ (∀ k a, acs[k]? = some a → AcOk hs rs k a) ∧ acs.length = i ∧ Kp s c H H')
      ⟨[], [], G, none, none, none, none, rfl, C3, Gr.refl _ _, gh, e3, .nil, (fun j f h => by cases h), rfl, ((Kp.same s1).trans kq2).trans kp3⟩ ?_ ?_
    case refine_2 =>
      rintro σ H' ⟨acs, xs, G', o4, o5, o7, o8, rfl, C', gr', gp', e', hx, hw, hl, kp'⟩
      exact ⟨_, rfl, q H' _ ph acs ⟨by omega, by omega, hw⟩ (C'.frz e' nf) (gr'.put hph gp') kp' (.lst upd_same (drAll_sub (same_new2 gp') hx))⟩
    rintro i σ H' hi ⟨acs, xs, G', o4, o5, o7, o8, rfl, C', gr', gp', e', hx, hw, hl, kp'⟩
    have hlen := drAll_len hx
    rw [List.length_map] at hlen
    -- many
    refine setany_rd ?_
    refine ⟨_, rfl, _, rfl, by show 3 ≤ sizeLine; decide, fun p4 hp4 => ?_⟩
    have n4 := C'.st.neS hp4
    refine ⟨s, c, p4, _, rfl, C'.st.new hp4, SqL.of upd_same, n4.1, n4.2, (by show 0 < 3; decide), (by show 3 ≤ 1000; decide), fun H4 i4 x4 hx4 st4 kp4 => ?_⟩
    obtain ⟨m4, hm4, rfl⟩ := pick_ints (ns := [3, 3, 5]) hx4
    have hm4b : 1 ≤ m4 ∧ m4 ≤ 5 := by
      simp only [List.mem_cons, List.not_mem_nil, or_false] at hm4
      omega
    have kq4 := (Kp.new hp4).trans kp4
    have C4 := C'.kp kq4 st4
    have e4 := kq4 _ _ nf.1 nf.2 e'
    refine ⟨s, c, m4, rfl, st4, by omega, by omega, fun H5 many y0 y1 st5 kp5 => ?_⟩
    have C5 := C4.kp kp5 st5
    have e5 := kp5 _ _ nf.1 nf.2 e4
    have kq5 := (kp'.trans kq4).trans kp5
    -- params
    refine setany_rd ?_
    refine ⟨_, rfl, many, rfl, by omega, by omega, fun D hD => ?_⟩
    have nD := C5.st.neS hD
    have gD : G' D = none := C5.sub.free hD
    have hDH := kp_none kq5 C5.st hD
    have nDp : D ≠ ph := Ne.symm (ne_of_none e5 hD)
    refine lc_range (lo := 0) (n := many.toNat) (fun j H6 => ∃ (fs : List Fl) (zs : List V) (G6 : Hp), Sg G6 H6 s c ∧ Gr G G6 H ∧ Same G' G6 ∧ G6 D = none ∧ G6 ph = none ∧ H6 D = some (.lst zs) ∧ H6 ph = some (.lst xs) ∧ DrAll G6 zs (fs.map fun f => .tuple (flL f)) ∧ WfG fs ∧ fs.length = j ∧ Kp s c H H6)
      ⟨[], [], G', C5.same (same_new hD), gr', Same.refl _, gD, gp', upd_same, (same_new hD) _ _ e5, .nil, (fun j f h => by cases h), rfl, kq5.trans (Kp.new hD)⟩ ?_ ?_
    · rintro j H6 hj ⟨fs, zs, G6, C6, gr6, s6, gD6, gp6, eD6, ep6, hz, hwf, hfl, kp6⟩
      have hzl := drAll_len hz
      rw [List.length_map] at hzl
      refine ⟨rfl, _, rfl, _, rfl, s, c, j, by rw [Int.zero_add]; rfl, C6.st, by omega, fun H7 x hn hxl st7 kp7 => ⟨_, rfl, by show 4 ≤ sizeLine; decide, fun p7 hp7 => ?_⟩⟩
      have C7 := C6.kp kp7 st7
      have n7 := C7.st.neS hp7
      refine ⟨s, c, p7, _, rfl, C7.st.new hp7, SqL.of upd_same, n7.1, n7.2, (by show 0 < 4; decide), (by show 4 ≤ 1000; decide), fun H8 i8 x8 hx8 st8 kp8 => ⟨by show 2 ≤ sizeLine; decide, fun t ht => ?_⟩⟩
      obtain ⟨wd, hwd, rfl⟩ := pick_ints (ns := [1, 3, 8, 32]) hx8
      have hwb : 1 ≤ wd ∧ wd ≤ 32 := by
        simp only [List.mem_cons, List.not_mem_nil, or_false] at hwd
        omega
      obtain ⟨wn, rfl⟩ : ∃ wn : Nat, wd = (wn : Int) := ⟨wd.toNat, by omega⟩
      have kq8 := kp7.trans ((Kp.new hp7).trans kp8)
      have C8 := C6.kp kq8 st8
      have eD8 := kq8 _ _ nD.1 nD.2 eD6
      have ep8 := kq8 _ _ nf.1 nf.2 ep6
      obtain ⟨C9, gr9, kp9, s9, d9⟩ := newT C8 gr6 (kp6.trans kq8) ht (.cons (.str x) (.cons (.int wn) .nil))
      have t9 := same_new (H := H8) (o := .tup [V.str x, V.int wn]) ht
      refine ⟨_, t9 _ _ eD8, small1000 (by omega), fs ++ [(x, wn)], zs ++ [.ref t], _, C9.set (by rw [upd_ne (ne_of_none eD8 ht)]; exact gD6) nD, gr9, s6.trans s9, by rw [upd_ne (ne_of_none eD8 ht)]; exact gD6, by rw [upd_ne (ne_of_none ep8 ht)]; exact gp6, upd_same, by rw [upd_ne (Ne.symm nDp)]; exact t9 _ _ ep8, ?_, hwf.app (fun h => by rw [hfl]; rw [hfl] at h; exact hn h) hxl (by omega) (by omega), by rw [List.length_append, hfl]; rfl, ?_⟩
      · rw [List.map_append]
        exact drAll_app (drAll_sub s9 hz) (.cons d9 .nil)
      · intro b o h1 h2 h3
        rw [upd_ne (ne_of_none h3 hDH)]
        exact kp9 b o h1 h2 h3
    rintro H6 ⟨fs, zs, G6, C6, gr6, s6, gD6, gp6, eD6, ep6, hz, hwf, hfl, kp6⟩
    have C7 := C6.frz eD6 nD
    have s7 := same_new2 (o := .lst zs) gD6
    have gr7 := gr6.put (o := .lst zs) hDH gD6
    have gp7 : (upd G6 D (.lst zs)) ph = none := by rw [upd_ne (Ne.symm nDp)]; exact gp6
    have dps : Dr (upd G6 D (.lst zs)) (.ref D) (flsD fs) := .lst upd_same (drAll_sub s7 hz)
    have s67 := s6.trans s7
    generalize upd G6 D (.lst zs) = G7 at C7 gr7 gp7 dps s67
    clear s7 hz eD6 gD6 gr6 C6 gp6
    -- ops
    refine setany_rd ?_
    refine ⟨_, rfl, _, rfl, by show 3 ≤ sizeLine; decide, fun p8 hp8 => ?_⟩
    have n8 := C7.st.neS hp8
    refine ⟨s, c, p8, _, rfl, C7.st.new hp8, SqL.of upd_same, n8.1, n8.2, (by show 0 < 3; decide), (by show 3 ≤ 1000; decide), fun H8 i8 x8 hx8 st8 kp8 => ?_⟩
    obtain ⟨m8, hm8, rfl⟩ := pick_ints (ns := [5, 5, 9]) hx8
    have hm8b : 1 ≤ m8 ∧ m8 ≤ 9 := by
      simp only [List.mem_cons, List.not_mem_nil, or_false] at hm8
      omega
    have kq8 := (Kp.new hp8).trans kp8
    have C8 := C7.kp kq8 st8
    have e8 := kq8 _ _ nf.1 nf.2 ep6
    refine ⟨s, c, m8, rfl, st8, by omega, by omega, fun H9 no z0 z1 st9 kp9 => ⟨no, rfl, by omega, by omega, fun D2 hD2 => ?_⟩⟩
    have C9 := C8.kp kp9 st9
    have e9 := kp9 _ _ nf.1 nf.2 e8
    have kq9 := (kp6.trans kq8).trans kp9
    have nD2 := C9.st.neS hD2
    have gD2 : G7 D2 = none := C9.sub.free hD2
    have hD2H := kp_none kq9 C9.st hD2
    have nD2p : D2 ≠ ph := Ne.symm (ne_of_none e9 hD2)
    refine lc_range (lo := 0) (n := no.toNat) (fun j H6 => ∃ (os : List Op) (zs : List V) (G6 : Hp), Sg G6 H6 s c ∧ Gr G G6 H ∧ Same G7 G6 ∧ G6 D2 = none ∧ G6 ph = none ∧ H6 D2 = some (.lst zs) ∧ H6 ph = some (.lst xs) ∧ DrAll G6 zs (os.map fun o => .tuple (opL o)) ∧ (∀ o ∈ os, OpOk hs rs fs o) ∧ os.length = j ∧ Kp s c H H6)
      ⟨[], [], G7, C9.same (same_new hD2), gr7, Same.refl _, gD2, gp7, upd_same, (same_new hD2) _ _ e9, .nil, (fun o h => nomatch h), rfl, kq9.trans (Kp.new hD2)⟩ ?_ ?_
    · rintro j H6 hj ⟨os, zs, G6, C6, gr6, s6, gD6, gp6, eD6, ep6, hz, hok, hfl', kp6⟩
      have hzl := drAll_len hz
      rw [List.length_map] at hzl
      refine ⟨rfl, _, rfl, _, rfl, _, rfl, _, rfl, s, c, G6, z, v, .ref D, hs, rs, fs, rfl, C6, dr_sub (gr6.sub) dh, hh1, hh6, ⟨dr_sub gr6.sub dr, dr_sub s6 dps, by
        rcases Nat.eq_zero_or_pos rs.length with h | h
        · rw [List.length_eq_zero_iff.mp h] at hport
          cases hport
        · exact h, hr100, by omega⟩, hport, fun H10 G10 x o ho C10 gr10 kp10 d10 => ?_⟩
      have eD10 := kp10 _ _ nD2.1 nD2.2 eD6
      have ep10 := kp10 _ _ nf.1 nf.2 ep6
      have gD10 := gr10.free gD6 (by rw [eD6]; exact fun z => nomatch z)
      have gp10 := gr10.free gp6 (by rw [ep6]; exact fun z => nomatch z)
      refine ⟨_, eD10, small1000 (by omega), os ++ [o], zs ++ [x], G10, C10.set gD10 nD2, gr6.kp gr10 kp6 C6.st, s6.trans gr10.sub, gD10, gp10, upd_same, by rw [upd_ne (Ne.symm nD2p)]; exact ep10, ?_, ?_, by rw [List.length_append, hfl']; rfl, ?_⟩
      · rw [List.map_append]
        exact drAll_app (drAll_sub gr10.sub hz) (.cons d10 .nil)
      · intro y hy
        rcases List.mem_append.mp hy with h | h
        · exact hok y h
        · rw [List.mem_singleton.mp h]
          exact ho
      · intro b o h1 h2 h3
        rw [upd_ne (ne_of_none h3 hD2H)]
        exact (kp6.trans kp10) b o h1 h2 h3
    rintro H10 ⟨os, ws, G10, C10, gr10, s10, gD10, gp10, eD10, ep10, hz, hok, hol, kp10⟩
    have C11 := C10.frz eD10 nD2
    have s11 := same_new2 (o := .lst ws) gD10
    have gr11 := gr10.put (o := .lst ws) hD2H gD10
    have gp11 : (upd G10 D2 (.lst ws)) ph = none := by rw [upd_ne (Ne.symm nD2p)]; exact gp10
    have dos : Dr (upd G10 D2 (.lst ws)) (.ref D2) (.list (os.map fun o => .tuple (opL o))) := .lst upd_same (drAll_sub s11 hz)
    have s711 := s10.trans s11
    generalize upd G10 D2 (.lst ws) = G11 at C11 gr11 gp11 dos s711
    -- the action
    refine ⟨_, rfl, .inl ⟨rfl, _, SqL.of ep10⟩, _, rfl, _, rfl, s, c, i, by rw [Int.zero_add]; rfl, C11.st, by omega, fun H12 x hn hxl st12 kp12 => ⟨_, rfl, _, rfl, by show 4 ≤ sizeLine; decide, fun t ht => ?_⟩⟩
    have C12 := C11.kp kp12 st12
    have e12 := kp12 _ _ nf.1 nf.2 ep10
    obtain ⟨C13, gr13, kp13, s13, d13⟩ := newT C12 gr11 (kp10.trans kp12) ht (.cons (.str "action") (.cons (.str x) (.cons (dr_sub s711 dps) (.cons dos .nil))))
    have t13 := same_new (H := H12) (o := .tup [V.str "action", V.str x, V.ref D, V.ref D2]) ht
    have g13 : (upd G11 t (.tup [V.str "action", V.str x, V.ref D, V.ref D2])) ph = none := by rw [upd_ne (ne_of_none e12 ht)]; exact gp11
    refine ⟨ph, xs, _, rfl, rfl, t13 _ _ e12, small1000 (by omega), acs ++ [⟨x, fs, os⟩], xs ++ [.ref t], _, _, _, _, _, rfl, C13.set g13 nf, gr13, g13, upd_same, ?_, acsOk_app hw ⟨by rw [hl]; exact hn (by omega), by show fs.length ≤ 4; omega, hwf, by show os.length ≤ 8; omega, hok⟩, by rw [List.length_append, hl]; rfl, ?_⟩
    · rw [List.map_append]
      exact drAll_app (drAll_sub ((s67.trans s711).trans s13) hx) (.cons d13 .nil)
    · intro b o h1 h2 h3
      rw [upd_ne (ne_of_none h3 hph)]
      exact kp13 b o h1 h2 h3
end
end Pk
set_option Elab.async false
set_option linter.all false
set_option maxRecDepth 100000
set_option maxHeartbeats 4000000
namespace Pk
open PySem PySem.Spec PyProof.Rows L2 SX GxR Tk
abbrev sArgs : Stmt := topS 52
abbrev sTable : Stmt := topS 53
abbrev NAr : List Str := ["state", "actions", "name", "action", "params", "param"]
theorem scArgs : FnScope NAr ["state", "actions", "name"] (defScope sArgs) := ⟨rfl, rfl, rfl, by decide +kernel, rfl, by decide +kernel, by decide +kernel⟩
abbrev NTb : List Str := ["state", "k", "actions", "refs", "keys", "used", "kinds", "j", "owner", "name", "width", "kind", "start", "action", "uses"]
theorem scTable : FnScope NTb ["state", "k", "actions", "refs"] (defScope sTable) := ⟨rfl, rfl, rfl, by decide +kernel, rfl, by decide +kernel, by decide +kernel⟩
section
variable {P : Program} {w : World} {K : PySem.W.Frag} {mg : Str → Option Value} {base : Heap}
def spAr (K : PySem.W.Frag) : Sp := fun vs H Q _ => ∃ (s c : Addr) (G : Hp) (v : V) (acs : List Ac) (nm : Str), vs = [.ref s, v, .str nm] ∧ Sg G H s c ∧ Dr G v (acsD acs) ∧ acs.length ≤ 8 ∧ (∀ a ∈ acs, a.ps.length ≤ 4 ∧ ∀ f ∈ a.ps, f.2 ≤ 32) ∧ (∃ a ∈ acs, a.name = nm) ∧
  ∀ (H' G' : Hp) (p : Addr) (ns : List Int), (∃ a ∈ acs, a.name = nm ∧ ArgsOk a.ps ns) → ns.length ≤ 4 → Sg G' H' s c → Gr G G' H → Kp s c H H' → Dr G' (.ref p) (.list (ns.map .int)) → Q (.ref p) H'
theorem ok_ar {f : Addr} {fd : FuncData} (F : Fun K "_law_args" "_law_args" sArgs f fd) (T : Bl mg) (D1 : Df P w K mg base CX0 1 "_law_draw" ["state", "many"] spDraw) (D2 : Df P w K mg base CX0 2 "_law_pick" ["state", "row"] (spPick K)) : FnOk P w K mg base CX0 3 f fd ["state", "actions", "name"] (spAr K) := by
  obtain ⟨f1, fd1, G1, g1, k1, b1⟩ := D1.ex
  obtain ⟨f2, fd2, G2, g2, k2, b2⟩ := D2.ex
  refine F.ok scArgs (fun vs H Q E h => ?_) (fun cdv A outer s0 H vs Q E hr h => ?_)
  · obtain ⟨s, c, G, v, acs, nm, rfl, _⟩ := h
    rfl
  · obtain ⟨s, c, G, v, acs, nm, rfl, C, hd, hl8, hps, hex, q⟩ := h
    have nd := scArgs.nd
    have hr1 : Room 1 _ := hr.mono (by omega)
    refine ⟨_, pss_cons (ps_set (i := 4) nd rfl (.inl rfl) (pe_ix ix_list (pe_lc (own := [("action", 3)]) (g := gName 3) rfl nd (pi_list (pv 1)) (blkOk_by (N := NAr) (sc := defScope sArgs) (by decide +kernel)) (fun _ _ _ _ _ => pg_name (i := 3) nd rfl (Or.inl rfl)) (fun _ _ _ _ _ => pts_one (pt_cmpR op_eq (pe_ix (r := rIxT K) ix_tup (pv 3) pe_int (fun _ _ => rfl)) (pv 2) (nomark _))) (fun _ _ _ _ _ => pe_ix (r := rIxT K) ix_tup (pv 3) pe_int (fun _ _ => rfl))) pe_int (fun _ _ => rfl)))
      (pss_one (ps_ret (pe_lc (own := [("param", 5)]) (g := gName 5) (tt := tYes) rfl nd (pi_list (pv 4)) (blkOk_by (N := NAr) (sc := defScope sArgs) (by decide +kernel)) (fun _ _ _ _ _ => pg_name (i := 5) nd rfl (Or.inl rfl)) (fun _ _ _ _ _ => pts_nil)
        (fun _ _ _ _ _ => pe_call G1 hr1 (by rfl) g1 k1 b1 .nil pass0 (pa_cons (pv 0) (pa_cons (pe_call G2 hr (by rfl) g2 k2 b2 .nil pass0 (pa_cons (pv 0) (pa_cons (pe_lst (pa_cons (pe_callB (call_min2 rfl) (by rfl) T.zMin (by decide +kernel) (pa_cons pe_int (pa_cons (pe_op op_shl pe_int (pe_ix (r := rIxT K) ix_tup (pv 5) pe_int (fun _ _ => rfl))) pa_nil))) (pa_cons (pe_op op_shl pe_int (pe_ix (r := rIxT K) ix_tup (pv 5) pe_int (fun _ _ => rfl))) pa_nil))) pa_nil))) pa_nil)))))), ?_⟩
    obtain ⟨pa, xs, rfl, h1, h2⟩ := dr_lst hd
    have hxl := drAll_len h2
    rw [List.length_map] at hxl
    refine ⟨_, rfl, pa, rfl, ⟨_, sqL_subz C.sub h1⟩, fun D hD => lc_list (K := K) (a := pa) (xs := xs) (fun j H2 => Same H H2 ∧ ∃ zs, H2 D = some (.lst zs) ∧ DrAll G zs (((acs.take j).filter fun a => decide (a.name = nm)).map fun a => flsD a.ps)) ⟨same_new hD, [], upd_same, .nil⟩ (fun j H2 _ h => sqL_subz (C.sub.trans h.1) h1) ?_ ?_⟩
    · rintro j y H2 hj ⟨sm, zs, ez, hz⟩
      obtain ⟨d, ed, hdj⟩ := drAll_val h2 hj
      rw [List.getElem?_map] at ed
      cases ea : acs[j]? with
      | none => rw [ea] at ed; cases ed
      | some a =>
      rw [ea] at ed
      cases ed
      obtain ⟨pt, ys, rfl, y1, y2⟩ := dr_tup hdj
      obtain ⟨z0, r, rfl, n0, y2⟩ := drAll_cons y2
      obtain ⟨z1, r, rfl, n1, y2⟩ := drAll_cons y2
      obtain ⟨z2, r, rfl, n2, y2⟩ := drAll_cons y2
      obtain rfl := dr_str n1
      have hzl := drAll_len hz
      have hfl := List.length_filter_le (fun a : Ac => decide (a.name = nm)) (acs.take j)
      rw [List.length_map] at hzl
      rw [List.length_take] at hfl
      have et : acs.take (j + 1) = acs.take j ++ [a] := by
        rw [List.take_add_one, ea]
        rfl
      refine ⟨rfl, _, rfl, pt, _, _, _, rfl, rfl, sqT_subz (C.sub.trans sm) y1, atI_nat (j := 1) rfl, _, rfl, rfl, _, rfl, ?_⟩
      rw [dcStr]
      refine iteD (fun hm => ⟨_, rfl, pt, _, _, _, rfl, rfl, sqT_subz (C.sub.trans sm) y1, atI_nat (j := 2) rfl, _, ez, small1000 (by omega), same_set sm hD, zs ++ [z2], upd_same, ?_⟩) fun hm => ⟨sm, zs, ez, ?_⟩
      · rw [et, List.filter_append, List.map_append, List.filter_cons, if_pos (decide_eq_true hm)]
        exact drAll_app hz (.cons n2 .nil)
      · rw [et, List.filter_append, List.filter_cons, if_neg (by rw [decide_eq_true_eq]; exact hm), List.filter_nil, List.append_nil]
        exact hz
    rintro H2 ⟨sm, zs, ez, hz⟩
    rw [hxl, List.take_length] at hz
    obtain ⟨a, ha, hfil⟩ : ∃ a, (acs.filter fun a => decide (a.name = nm))[0]? = some a ∧ a ∈ acs ∧ a.name = nm := by
      obtain ⟨a, ha, hn⟩ := hex
      have hm : a ∈ acs.filter fun a => decide (a.name = nm) := List.mem_filter.mpr ⟨ha, decide_eq_true hn⟩
      cases e : acs.filter fun a => decide (a.name = nm) with
      | nil => rw [e] at hm; cases hm
      | cons b r =>
        have hb : b ∈ acs.filter fun a => decide (a.name = nm) := by rw [e]; exact List.mem_cons_self
        have := List.mem_filter.mp hb
        exact ⟨b, rfl, this.1, of_decide_eq_true this.2⟩
    obtain ⟨y, ey, hy⟩ := drAll_at hz (i := 0) (d := flsD a.ps) (by rw [List.getElem?_map, ha]; rfl)
    have C2 := C.same sm
    obtain ⟨hpl, hpw⟩ := hps a hfil.1
    obtain ⟨pp, ps, rfl, p1, p2⟩ := dr_lst hy
    have hppl := drAll_len p2
    rw [List.length_map] at hppl
    refine ⟨D, _, _, _, rfl, rfl, SqL.of ez, atI_nat (j := 0) ey, ?_⟩
    refine ⟨_, rfl, pp, rfl, ⟨_, sqL_subz C2.sub p1⟩, fun D2 hD2 => ?_⟩
    have nD := C2.st.neS hD2
    have gD : G D2 = none := C2.sub.free hD2
    have kq2 : Kp s c H H2 := Kp.same sm
    have hDH := kp_none kq2 C2.st hD2
    refine lc_list (K := K) (a := pp) (xs := ps) (fun j H3 => Sg G H3 s c ∧ Kp s c H H3 ∧ ∃ ns : List Int, H3 D2 = some (.lst (ns.map V.int)) ∧ ns.length = j ∧ ∀ (i : Nat) (f : Fl) (n : Int), a.ps[i]? = some f → ns[i]? = some n → 0 ≤ n ∧ n < 2 ^ f.2) ⟨C2.same (same_new hD2), kq2.trans (Kp.new hD2), [], upd_same, rfl, (fun i f n _ e => by cases e)⟩ (fun j H3 _ h => sqL_subz h.1.sub p1) ?_ ?_
    · rintro j y H3 hj ⟨C3, kp3, ns, en, hnl, hns⟩
      obtain ⟨d, ed, hdj⟩ := drAll_val p2 hj
      rw [List.getElem?_map] at ed
      cases ef : a.ps[j]? with
      | none => rw [ef] at ed; cases ed
      | some fl =>
      rw [ef] at ed
      cases ed
      have hw32 := hpw fl (List.mem_of_getElem? ef)
      have hp := pow32 hw32
      obtain ⟨pt, ys, rfl, y1, y2⟩ := dr_tup hdj
      obtain ⟨z0, r, rfl, n0, y2⟩ := drAll_cons y2
      obtain ⟨z1, r, rfl, n1, y2⟩ := drAll_cons y2
      obtain rfl := dr_int n1
      have sq : SqT K H3 pt _ := sqT_subz C3.sub y1
      refine ⟨rfl, _, rfl, _, rfl, _, rfl, pt, _, _, _, rfl, rfl, sq, atI_nat (j := 1) rfl, shl1 (by omega) ⟨_, _, rfl, _, rfl, pt, _, _, _, rfl, rfl, sq, atI_nat (j := 1) rfl, shl1 (by omega) ⟨by show 2 ≤ sizeLine; decide, fun p5 hp5 => ?_⟩⟩⟩
      have n5 := C3.st.neS hp5
      refine ⟨s, c, p5, _, rfl, C3.st.new hp5, SqL.of upd_same, n5.1, n5.2, (by show 0 < 2; decide), (by show 2 ≤ 1000; decide), fun H4 i4 x4 hx4 st4 kp4 => ?_⟩
      obtain ⟨m, hm, rfl⟩ := pick_ints (ns := [if (2 : Int) ^ fl.2 < 9 then 2 ^ fl.2 else 9, 2 ^ fl.2]) hx4
      have hmb : 0 < m ∧ m ≤ 2 ^ fl.2 := by
        rcases List.mem_cons.mp hm with rfl | hm
        · split <;> omega
        rcases List.mem_cons.mp hm with rfl | hm
        · omega
        · cases hm
      have C4 := C3.kp ((Kp.new hp5).trans kp4) st4
      have kq4 := kp3.trans ((Kp.new hp5).trans kp4)
      have e4 := ((Kp.new hp5).trans kp4) _ _ nD.1 nD.2 en
      refine ⟨s, c, m, rfl, st4, hmb.1, by omega, fun H5 r r0 r1 st5 kp5 => ⟨_, kp5 _ _ nD.1 nD.2 e4, small1000 (by rw [List.length_map]; have := List.getElem?_eq_some_iff.mp ef; obtain ⟨h, _⟩ := this; omega), (C4.kp kp5 st5).set gD nD, ?_, ns ++ [r], ?_, by rw [List.length_append, hnl]; rfl, ?_⟩⟩
      · intro b o h1 h2 h3
        rw [upd_ne (ne_of_none h3 hDH)]
        exact (kq4.trans kp5) b o h1 h2 h3
      · rw [upd_same, List.map_append]
        rfl
      · intro i f n ei en'
        rw [List.getElem?_append] at en'
        by_cases hi : i < ns.length
        · rw [if_pos hi] at en'
          exact hns i f n ei en'
        · rw [if_neg hi] at en'
          have : i - ns.length = 0 := by
            rcases Nat.eq_zero_or_pos (i - ns.length) with h | h
            · exact h
            · rw [List.getElem?_eq_none (by show 1 ≤ _; omega)] at en'
              cases en'
          rw [this] at en'
          cases en'
          obtain rfl : i = j := by omega
          rw [ef] at ei
          cases ei
          exact ⟨r0, by omega⟩
    · rintro H3 ⟨C3, kp3, ns, en, hnl, hns⟩
      rw [hppl] at hnl
      have sF := same_new2 (o := .lst (ns.map V.int)) gD
      exact q H3 _ D2 ns ⟨a, hfil.1, hfil.2, hnl, hns⟩ (by omega) (C3.frz en nD) ((Gr.refl G H).put hDH gD) kp3 (.lst upd_same (drAll_of_ints _))
end
end Pk
set_option Elab.async false
set_option linter.all false
set_option maxRecDepth 100000
set_option maxHeartbeats 4000000
namespace Pk
open PySem PySem.Spec PyProof.Rows L2 SX GxR Tk
/-- texts that can be compared -/
def PrOk (p : Str × Str) : Prop := PyData.strOk p.1 = true ∧ PyData.strOk p.2 = true
theorem pr_lay {p : Str × Str} (h : PrOk p) : PyData.canLay0 (.tuple (prL p)) = true := by
  show (PyData.strOk p.1 && (PyData.strOk p.2 && true)) = true
  rw [h.1, h.2]
  rfl
theorem prs_facts : ∀ l : List (Str × Str), (∀ p ∈ l, PrOk p) → PyData.canLayAll0 (l.map fun p => .tuple (prL p)) = true ∧ PyData.depthAll (l.map fun p => .tuple (prL p)) ≤ 1
  | [], _ => ⟨rfl, Nat.zero_le _⟩
  | p :: r, h => by
    obtain ⟨h1, h2⟩ := prs_facts r fun x hx => h x (List.mem_cons_of_mem _ hx)
    refine ⟨?_, ?_⟩
    · show (PyData.canLay0 (.tuple (prL p)) && PyData.canLayAll0 (r.map fun p => .tuple (prL p))) = true
      rw [h1, pr_lay (h p List.mem_cons_self)]
      rfl
    · show max (max 0 (max 0 0) + 1) (PyData.depthAll (r.map fun p => .tuple (prL p))) ≤ 1
      omega
theorem shaped_prs (l : List (Str × Str)) (h : ∀ p ∈ l, PrOk p) : SeqAt.shaped (.list (l.map fun p => .tuple (prL p))) = true := by
  obtain ⟨h1, h2⟩ := prs_facts l h
  show (PyData.canLayAll0 (l.map fun p => .tuple (prL p)) && decide (PyData.depthAll (l.map fun p => .tuple (prL p)) + 1 ≤ 64)) = true
  rw [h1, decide_eq_true (by omega)]
  rfl
theorem shaped_pr {p : Str × Str} (h : PrOk p) : SeqAt.shaped (.tuple (prL p)) = true := by
  show (PyData.canLay0 (.tuple (prL p)) && _) = true
  rw [pr_lay h]
  rfl
theorem any_prs (a : Str × Str) : ∀ l : List (Str × Str), ((l.map fun p => PyData.tuple (prL p)).any fun z => PyData.eqv z (.tuple (prL a))) = decide (a ∈ l)
  | [] => by simp
  | p :: r => by
    rw [List.map_cons, List.any_cons, any_prs a r, eqv_pr']
    by_cases h : p = a
    · subst h; simp
    · have : a ≠ p := fun z => h z.symm
      simp [h, this]
section
variable {P : Program} {w : World} {K : PySem.W.Frag} {mg : Str → Option Value} {base : Heap}
def spTb (K : PySem.W.Frag) : Sp := fun vs H Q _ => ∃ (s c : Addr) (G : Hp) (k : Nat) (v u : V) (hs : List Hd) (rs : List Rf) (acs : List Ac), vs = [.ref s, .int k, v, u] ∧ Sg G H s c ∧ k < 10 ∧ Dr G v (acsD acs) ∧ AcsOk hs rs acs ∧ Dr G u (rfsD rs) ∧ 0 < rs.length ∧ rs.length ≤ 100 ∧ (∀ r ∈ rs, PrOk (r.1, r.2.1)) ∧
  ∀ (H' G' : Hp) (x : V) (t : Tb), TbOk rs acs k t → Sg G' H' s c → Gr G G' H → Kp s c H H' → Dr G' x (.tuple (tbL t)) → Q x H'
theorem ok_tb {f : Addr} {fd : FuncData} (F : Fun K "_law_table" "_law_table" sTable f fd) (T : Bl mg) (D1 : Df P w K mg base CX0 1 "_law_draw" ["state", "many"] spDraw) (D2 : Df P w K mg base CX0 2 "_law_pick" ["state", "row"] (spPick K)) (D2' : Df P w K mg base CX0 2 "_law_pick" ["state", "row"] (spPickK K)) (D3 : Df P w K mg base CX0 3 "_law_name" ["state", "k"] spNm) (D4 : Df P w K mg base CX0 3 "_law_args" ["state", "actions", "name"] (spAr K)) : FnOk P w K mg base CX0 4 f fd ["state", "k", "actions", "refs"] (spTb K) := by
  obtain ⟨f1, fd1, G1, g1, k1, b1⟩ := D1.ex
  obtain ⟨f2, fd2, G2, g2, k2, b2⟩ := D2.ex
  obtain ⟨f5, fd5, G5, g5, k5, b5⟩ := D2'.ex
  obtain ⟨f3, fd3, G3, g3, k3, b3⟩ := D3.ex
  obtain ⟨f4, fd4, G4, g4, k4, b4⟩ := D4.ex
  refine F.ok scTable (fun vs H Q E h => ?_) (fun cdv A outer s0 H vs Q E hr h => ?_)
  · obtain ⟨s, c, G, k, v, u, hs, rs, acs, rfl, _⟩ := h
    rfl
  · obtain ⟨s, c, G, k, v, u, hs, rs, acs, rfl, C, hk10, dv, hacs, du, hr0, hr100, hrs, q⟩ := h
    have nd := scTable.nd
    have hr1 : Room 1 _ := hr.mono (by omega)
    have hr2 : Room 2 _ := hr.mono (by omega)
    have hu65 : (cxOf CX0 P w K mg base NTb "_law_table" (defScope sTable) f cdv A outer s0 H E).nox.A.units + 65 < cLine := by
      have := hr.un
      show (A.deeper _).units + 65 < cLine
      omega
    refine ⟨_, pss_cons (ps_set (i := 4) nd rfl (.inl rfl) (pe_lst pa_nil))
      (pss_cons (ps_set (i := 5) nd rfl (.inl rfl) (pe_lst pa_nil))
      (pss_cons (ps_set (i := 6) nd rfl (.inl rfl) (pe_lst (pa_cons pe_str (pa_cons pe_str (pa_cons pe_str (pa_cons pe_str pa_nil))))))
      (pss_cons (ps_for PassesOwn.never rfl (pi_range1 (by rfl) T.zRange (pa_cons (pe_call G1 hr1 (by rfl) g1 k1 b1 .nil pass0 (pa_cons (pv 0) (pa_cons (pe_call G2 hr2 (by rfl) g2 k2 b2 .nil pass0 (pa_cons (pv 0) (pa_cons (pe_lst (pa_cons pe_int (pa_cons pe_int (pa_cons pe_int pa_nil)))) pa_nil))) pa_nil))) pa_nil)) (pg_name (i := 7) nd rfl (.inl rfl))
        (pss_cons (ps_asg (pe_call G5 hr2 (by rfl) g5 k5 b5 .nil pass0 (pa_cons (pv 0) (pa_cons (pv 3) pa_nil))) (pg_tup (by rfl) (pgs_cons (pg_name (i := 8) nd rfl (.inl rfl)) (pgs_cons (pg_name (i := 9) nd rfl (.inl rfl)) (pgs_cons (pg_name (i := 10) nd rfl (.inl rfl)) pgs_nil)))))
        (pss_one (ps_if (pt_cmpR (op_notInD hu65) (pe_tup (pa_cons (pv 8) (pa_cons (pv 9) pa_nil))) (pv 5) (by rfl))
          (pss_cons (ps_set (i := 11) nd rfl (.inl rfl) (pe_call G2 hr2 (by rfl) g2 k2 b2 .nil pass0 (pa_cons (pv 0) (pa_cons (pv 6) pa_nil))))
          (C8.pss_cut (ps_if (pt_cmpR op_eq (pv 11) pe_str (nomark _)) (pss_one (ps_set (i := 6) nd rfl (.inl rfl) (pe_lst (pa_cons pe_str (pa_cons pe_str pa_nil))))) pss_nil)
          (pss_cons (ps_expr (pe_bm PySem.F.plainAttrs_list PySem.F.slot_list_append PySem.F.type_list_append mt_append (pv 5) (pa_cons (pe_tup (pa_cons (pv 8) (pa_cons (pv 9) pa_nil))) pa_nil)))
          (pss_one (ps_expr (pe_bm PySem.F.plainAttrs_list PySem.F.slot_list_append PySem.F.type_list_append mt_append (pv 4) (pa_cons (pe_tup (pa_cons (pe_tup (pa_cons (pv 8) (pa_cons (pv 9) pa_nil))) (pa_cons (pv 11) pa_nil))) pa_nil))))))) pss_nil))))
      (pss_cons (ps_set (i := 12) nd rfl (.inl rfl) (pe_call G1 hr1 (by rfl) g1 k1 b1 .nil pass0 (pa_cons (pv 0) (pa_cons (pe_callB call_len_seq (by rfl) T.zLen PySem.boot_len (pa_cons (pv 2) pa_nil)) pa_nil))))
      (pss_cons (ps_setLc (i := 14) (own := [("action", 13)]) (g := gName 13) (tt := tYes) rfl nd rfl rfl (sw_true rfl rfl rfl (by decide +kernel)) (pi_list (pe_slice sl_list (pv 2) (po_some (pv 12)) po_none)) (blkOk_by (N := NTb) (sc := defScope sTable) (by decide +kernel)) (fun _ _ _ _ _ => pg_name (i := 13) nd rfl (Or.inl rfl)) (fun _ _ _ _ _ => pts_nil) (fun _ _ _ _ _ => pe_ix (r := rIxT K) ix_tup (pv 13) pe_int (fun _ _ => rfl)))
      (pss_cons (ps_set (i := 9) nd rfl (.inl rfl) (pe_call G5 hr2 (by rfl) g5 k5 b5 .nil pass0 (pa_cons (pv 0) (pa_cons (pv 14) pa_nil))))
      (pss_one (ps_ret (pe_tup (pa_cons pe_str (pa_cons (pe_call G3 hr (by rfl) g3 k3 b3 .nil pass0 (pa_cons (pv 0) (pa_cons (pv 1) pa_nil))) (pa_cons (pv 4) (pa_cons (pv 14) (pa_cons (pe_tup (pa_cons (pv 9) (pa_cons (pe_call G4 hr (by rfl) g4 k4 b4 .nil pass0 (pa_cons (pv 0) (pa_cons (pv 2) (pa_cons (pv 9) pa_nil)))) pa_nil)))
        (pa_cons (pe_op op_add pe_int (pe_call G1 hr1 (by rfl) g1 k1 b1 .nil pass0 (pa_cons (pv 0) (pa_cons (pe_call G2 hr2 (by rfl) g2 k2 b2 .nil pass0 (pa_cons (pv 0) (pa_cons (pe_lst (pa_cons pe_int (pa_cons pe_int (pa_cons pe_int pa_nil)))) pa_nil))) pa_nil)))) pa_nil))))))))))))))), ?_⟩
    obtain ⟨pac, xac, rfl, ac1, ac2⟩ := dr_lst dv
    have hacl := drAll_len ac2
    rw [List.length_map] at hacl
    have ha1 := hacs.1
    have ha8 := hacs.2.1
    obtain ⟨prf, xrf, rfl, rf1, rf2⟩ := dr_lst du
    refine setnil_rd fun pk H1 hpk s1 e1 => ?_
    have nK := C.st.neS hpk
    have C1 := C.same s1
    have gK : G pk = none := C.sub.free hpk
    refine setnil_rd fun pu H2 hpu s2 e2 => ?_
    have nU := C1.st.neS hpu
    have C2 := C1.same s2
    have gU : G pu = none := C1.sub.free hpu
    have e1' := s2 _ _ e1
    have kuNe : pk ≠ pu := ne_of_none e1 hpu
    have puH : H pu = none := s1.free hpu
    have kq2 := (Kp.same (s := s) (c := c) s1).trans (Kp.same s2)
    refine setlst_rz (ds := [Str.ofString "exact", Str.ofString "mask", Str.ofString "prefix", Str.ofString "exact"].map .str) (by repeat (first | exact ZEs.nil | refine ZEs.cons ?_ ?_ | exact ZE.str _)) C2 (by decide) fun p3 vs3 GA H3 C3 gr3 t3 e3 x3 => ?_
    have kq3 := kq2.trans (Kp.same t3)
    have grA := (Gr.refl G H).kp gr3 kq2 C2.st
    have eK3 := t3 _ _ e1'
    have eU3 := t3 _ _ e2
    have gK3 := gr3.free gK (by rw [e1']; exact fun z => nomatch z)
    have gU3 := gr3.free gU (by rw [e2]; exact fun z => nomatch z)
    obtain rfl : vs3 = [Str.ofString "exact", Str.ofString "mask", Str.ofString "prefix", Str.ofString "exact"].map V.str := drAll_strs x3
    -- how many keys
    refine ⟨_, rfl, _, rfl, by show 3 ≤ sizeLine; decide, fun p hp => ?_⟩
    have n1 := C3.st.neS hp
    refine ⟨s, c, p, _, rfl, C3.st.new hp, SqL.of upd_same, n1.1, n1.2, (by show 0 < 3; decide), (by show 3 ≤ 1000; decide), fun H4 i4 x4 hx4 st4 kp4 => ?_⟩
    obtain ⟨m4, hm4, rfl⟩ := pick_ints (ns := [3, 3, 5]) hx4
    have hm4b : 1 ≤ m4 ∧ m4 ≤ 5 := by
      simp only [List.mem_cons, List.not_mem_nil, or_false] at hm4
      omega
    have kq4 := (Kp.new hp).trans kp4
    have C4 := C3.kp kq4 st4
    refine ⟨s, c, m4, rfl, st4, by omega, by omega, fun H5 many y0 y1 st5 kp5 => ⟨many, rfl, by omega, by omega, ?_⟩⟩
    have C5 := C4.kp kp5 st5
    have kq5 := (kq3.trans kq4).trans kp5
    have eK5 := kp5 _ _ nK.1 nK.2 (kq4 _ _ nK.1 nK.2 eK3)
    have eU5 := kp5 _ _ nU.1 nU.2 (kq4 _ _ nU.1 nU.2 eU3)
    refine for_range (lo := 0) (n := many.toNat) (fun i σ H' => ∃ (ks : List ((Str × Str) × Str)) (xs ys : List V) (G' : Hp) (pkd : Addr) (kn : List Str) (o7 o8 o9 o10 o11 : Option V), σ = [some (.ref s), some (.int (k : Nat)), some (.ref pac), some (.ref prf), some (.ref pk), some (.ref pu), some (.ref pkd), o7, o8, o9, o10, o11, none, none, none] ∧ Sg G' H' s c ∧ Gr G G' H ∧ Same GA G' ∧ G' pk = none ∧ G' pu = none ∧ H' pk = some (.lst xs) ∧ H' pu = some (.lst ys) ∧
        DrAll G' xs (ks.map fun k => .tuple (kyL k)) ∧ DrAll G' ys ((ks.map Prod.fst).map fun p => .tuple (prL p)) ∧ KeysOk rs ks ∧ ks.length ≤ i ∧ G' pkd = some (.lst (kn.map V.str)) ∧ (∀ x ∈ kn, x ∈ kinds3) ∧ 0 < kn.length ∧ kn.length ≤ 4 ∧ (Str.ofString "prefix" ∈ kn → (ks.filter fun k => decide (k.2 = Str.ofString "prefix")).length = 0) ∧ Kp s c H H')
      ⟨[], [], [], GA, p3, _, none, none, none, none, none, rfl, C5, grA, Same.refl _, gK3, gU3, eK5, eU5, .nil, .nil, ⟨Nat.zero_le _, (fun k h => nomatch h), List.nodup_nil, Nat.zero_le _⟩, Nat.zero_le _, e3, by decide +kernel, by decide, by decide, fun _ => rfl, kq5⟩ ?_ ?_
    · rintro i σ H' hi ⟨ks, xs, ys, G', pkd, kn, o7, o8, o9, o10, o11, rfl, C', gr', sA', gK', gU', eK', eU', hx, hy, hks, hkl, ekd, hkn, hk0, hk4, hpre, kp'⟩
      have hxl := drAll_len hx
      rw [List.length_map] at hxl
      have hyl := drAll_len hy
      rw [List.length_map, List.length_map] at hyl
      refine ⟨_, rfl, _, rfl, pickD E C' (dr_sub gr'.sub du) (by rw [List.length_map]; exact hr0) (by rw [List.length_map]; omega) fun H6 i6 d x ed hx6 C6 kp6 => ?_⟩
      rw [List.getElem?_map] at ed
      cases en : rs[i6]? with
      | none => rw [en] at ed; cases ed
      | some rf =>
      rw [en] at ed
      cases ed
      obtain ⟨o, n, wd⟩ := rf
      obtain ⟨pt, zs, rfl, t1, t2⟩ := dr_tup hx6
      obtain ⟨z0, r, rfl, b0, t2⟩ := drAll_cons t2
      obtain ⟨z1, r, rfl, b1, t2⟩ := drAll_cons t2
      obtain ⟨z2, r, rfl, b2, t2⟩ := drAll_cons t2
      obtain rfl := drAll_nil t2
      obtain rfl := dr_str b0
      obtain rfl := dr_str b1
      obtain rfl := dr_int b2
      have eK6 := kp6 _ _ nK.1 nK.2 eK'
      have eU6 := kp6 _ _ nU.1 nU.2 eU'
      have kq6 := kp'.trans kp6
      refine ⟨pt, _, rfl, sqT_subz C6.sub t1, rfl, _, _, rfl, _, _, rfl, _, _, rfl, rfl, ?_⟩
      refine ⟨_, rfl, _, rfl, by show 2 ≤ sizeLine; decide, fun ta hta => ?_⟩
      obtain ⟨C7, gr7, kp7, s7, d7⟩ := newT C6 gr' kq6 hta (.cons (.str o) (.cons (.str n) .nil))
      have t7 := same_new (H := H6) (o := .tup [V.str o, V.str n]) hta
      have gK7 : (upd G' ta (.tup [V.str o, V.str n])) pk = none := by rw [upd_ne (ne_of_none eK6 hta)]; exact gK'
      have gU7 : (upd G' ta (.tup [V.str o, V.str n])) pu = none := by rw [upd_ne (ne_of_none eU6 hta)]; exact gU'
      have eK7 := t7 _ _ eK6
      have eU7 := t7 _ _ eU6
      generalize upd H6 ta (.tup [V.str o, V.str n]) = H7 at C7 kp7 eK7 eU7 ⊢
      generalize upd G' ta (.tup [V.str o, V.str n]) = G7 at C7 gr7 s7 d7 gK7 gU7
      refine ⟨_, rfl, .tuple (prL (o, n)), (ks.map Prod.fst).map fun p => .tuple (prL p), dr_dp (dr_sub C7.sub d7), .lst (SqL.of eU7) (drAll_dp (drAll_sub (s7.trans C7.sub) hy)), shaped_pr (hrs _ (List.mem_of_getElem? en)), shaped_prs _ (fun p hp => by
        obtain ⟨kk, hkk, rfl⟩ := List.mem_map.mp hp
        obtain ⟨wk, hwk⟩ := (hks.2.1 kk hkk).1
        exact hrs _ hwk), _, rfl, ?_⟩
      rw [any_prs]
      by_cases hin : (o, n) ∈ ks.map Prod.fst
      · rw [decide_eq_true hin]
        exact iteF ⟨ks, xs, ys, G7, pkd, kn, _, _, _, _, _, rfl, C7, gr7, sA'.trans s7, gK7, gU7, eK7, eU7, drAll_sub s7 hx, drAll_sub s7 hy, hks, by omega, s7 _ _ ekd, hkn, hk0, hk4, hpre, kp7⟩
      rw [decide_eq_false hin]
      refine iteT ?_
      refine ⟨_, rfl, _, rfl, s, c, pkd, _, rfl, C7.st, SqL.of (C7.sub _ _ (s7 _ _ ekd)), ne_of_none (s7 _ _ ekd) C7.gs, ne_of_none (s7 _ _ ekd) C7.gc, by rw [List.length_map]; exact hk0, by rw [List.length_map]; omega, fun H8 i8 x8 hx8 st8 kp8 => ?_⟩
      rw [List.getElem?_map] at hx8
      cases e8k : kn[i8]? with
      | none => rw [e8k] at hx8; cases hx8
      | some kd =>
      rw [e8k] at hx8
      cases hx8
      have hkdm := List.mem_of_getElem? e8k
      have hkd := hkn kd hkdm
      have C8 := C7.kp kp8 st8
      have eK8 := kp8 _ _ nK.1 nK.2 eK7
      have eU8 := kp8 _ _ nU.1 nU.2 eU7
      have kq8 := kp7.trans kp8
      refine ⟨fun σ Hx => ∃ (pkd2 : Addr) (kn2 : List Str) (G9 : Hp), σ = [some (.ref s), some (.int (k : Nat)), some (.ref pac), some (.ref prf), some (.ref pk), some (.ref pu), some (.ref pkd2), some (.int (0 + (i : Int))), some (.str o), some (.str n), some (.int (wd : Nat)), some (.str kd), none, none, none] ∧ Sg G9 Hx s c ∧ Gr G G9 H ∧ Same G7 G9 ∧ G9 pk = none ∧ G9 pu = none ∧ Hx pk = some (.lst xs) ∧ Hx pu = some (.lst ys) ∧
          G9 pkd2 = some (.lst (kn2.map V.str)) ∧ (∀ x ∈ kn2, x ∈ kinds3) ∧ 0 < kn2.length ∧ kn2.length ≤ 4 ∧ (Str.ofString "prefix" ∈ kn2 → kd ≠ Str.ofString "prefix" ∧ (ks.filter fun k => decide (k.2 = Str.ofString "prefix")).length = 0) ∧ Kp s c H Hx, ?_, ?_⟩
      · refine ⟨_, rfl, rfl, _, rfl, ?_⟩
        rw [dcStr]
        refine iteD (fun hpf => ?_) fun hpf => ⟨pkd, kn, G7, rfl, C8, gr7, Same.refl _, gK7, gU7, eK8, eU8, s7 _ _ ekd, hkn, hk0, hk4, fun h => ⟨hpf, hpre h⟩, kq8⟩
        refine ⟨by show 2 ≤ sizeLine; decide, fun p9 hp9 => ?_⟩
        obtain ⟨C9, gr9, kp9, s9, d9⟩ := newL C8 gr7 kq8 hp9 (.cons (.str "exact") (.cons (.str "mask") .nil))
        have t9 := same_new (H := H8) (o := .lst [V.str "exact", V.str "mask"]) hp9
        exact ⟨p9, [Str.ofString "exact", Str.ofString "mask"], _, rfl, C9, gr9, s9, by rw [upd_ne (ne_of_none eK8 hp9)]; exact gK7, by rw [upd_ne (ne_of_none eU8 hp9)]; exact gU7, t9 _ _ eK8, t9 _ _ eU8, upd_same, by decide +kernel, by decide, by decide, fun h => absurd h (by decide +kernel), kp9⟩
      rintro σ H9 ⟨pkd2, kn2, G9, rfl, C9, gr9, s9, gK9, gU9, eK9, eU9, ekd2, hkn2, hk20, hk24, hpre2, kq9⟩
      -- used
      refine ⟨_, rfl, .inl ⟨rfl, _, SqL.of eU9⟩, _, rfl, _, rfl, by show 2 ≤ sizeLine; decide, fun tb htb => ?_⟩
      obtain ⟨C10, gr10, kp10, s10, d10⟩ := newT C9 gr9 kq9 htb (.cons (.str o) (.cons (.str n) .nil))
      have t10 := same_new (H := H9) (o := .tup [V.str o, V.str n]) htb
      have gK10 : (upd G9 tb (.tup [V.str o, V.str n])) pk = none := by rw [upd_ne (ne_of_none eK9 htb)]; exact gK9
      have gU10 : (upd G9 tb (.tup [V.str o, V.str n])) pu = none := by rw [upd_ne (ne_of_none eU9 htb)]; exact gU9
      have eK10 := t10 _ _ eK9
      have eU10 := t10 _ _ eU9
      generalize upd H9 tb (.tup [V.str o, V.str n]) = H10 at C10 kp10 eK10 eU10 ⊢
      generalize upd G9 tb (.tup [V.str o, V.str n]) = G10 at C10 gr10 s10 d10 gK10 gU10
      refine ⟨pu, ys, _, rfl, rfl, eU10, small1000 (by omega), ?_⟩
      have C11 := C10.set (o := .lst (ys ++ [.ref tb])) gU10 nU
      have eU11 : (upd H10 pu (.lst (ys ++ [.ref tb]))) pu = some (.lst (ys ++ [.ref tb])) := upd_same
      have eK11 : (upd H10 pu (.lst (ys ++ [.ref tb]))) pk = some (.lst xs) := by rw [upd_ne kuNe]; exact eK10
      have kp11 : Kp s c H (upd H10 pu (.lst (ys ++ [.ref tb]))) := fun b o h1 h2 h3 => by
        rw [upd_ne (ne_of_none h3 puH)]
        exact kp10 b o h1 h2 h3
      generalize upd H10 pu (.lst (ys ++ [.ref tb])) = H11 at C11 eU11 eK11 kp11 ⊢
      -- keys
      refine ⟨_, rfl, .inl ⟨rfl, _, SqL.of eK11⟩, _, rfl, _, rfl, by show 2 ≤ sizeLine; decide, fun tc htc => ?_⟩
      obtain ⟨C12, gr12, kp12, s12, d12⟩ := newT C11 gr10 kp11 htc (.cons (.str o) (.cons (.str n) .nil))
      have t12 := same_new (H := H11) (o := .tup [V.str o, V.str n]) htc
      have gK12 : (upd G10 tc (.tup [V.str o, V.str n])) pk = none := by rw [upd_ne (ne_of_none eK11 htc)]; exact gK10
      have gU12 : (upd G10 tc (.tup [V.str o, V.str n])) pu = none := by rw [upd_ne (ne_of_none eU11 htc)]; exact gU10
      have eK12 := t12 _ _ eK11
      have eU12 := t12 _ _ eU11
      generalize upd H11 tc (.tup [V.str o, V.str n]) = H12 at C12 kp12 eK12 eU12 ⊢
      generalize upd G10 tc (.tup [V.str o, V.str n]) = G12 at C12 gr12 s12 d12 gK12 gU12
      refine ⟨_, rfl, by show 2 ≤ sizeLine; decide, fun te hte => ?_⟩
      obtain ⟨C13, gr13, kp13, s13, d13⟩ := newT C12 gr12 kp12 hte (.cons d12 (.cons (.str kd) .nil))
      have t13 := same_new (H := H12) (o := .tup [V.ref tc, V.str kd]) hte
      have gK13 : (upd G12 te (.tup [V.ref tc, V.str kd])) pk = none := by rw [upd_ne (ne_of_none eK12 hte)]; exact gK12
      have gU13 : (upd G12 te (.tup [V.ref tc, V.str kd])) pu = none := by rw [upd_ne (ne_of_none eU12 hte)]; exact gU12
      have eK13 := t13 _ _ eK12
      have eU13 := t13 _ _ eU12
      generalize upd H12 te (.tup [V.ref tc, V.str kd]) = H13 at C13 kp13 eK13 eU13 ⊢
      generalize upd G12 te (.tup [V.ref tc, V.str kd]) = G13 at C13 gr13 s13 d13 gK13 gU13
      have s713 := (s9.trans s10).trans (s12.trans s13)
      refine ⟨pk, xs, _, rfl, rfl, eK13, small1000 (by omega), ks ++ [((o, n), kd)], xs ++ [.ref te], ys ++ [.ref tb], G13, pkd2, kn2, _, _, _, _, _, rfl, C13.set gK13 nK, gr13, sA'.trans (s7.trans s713), gK13, gU13, upd_same, by rw [upd_ne (Ne.symm kuNe)]; exact eU13, ?_, ?_, ?_, by rw [List.length_append]; show ks.length + 1 ≤ i + 1; omega, ((s10.trans s12).trans s13) _ _ ekd2, hkn2, hk20, hk24, ?_, ?_⟩
      · rw [List.map_append]
        exact drAll_app (drAll_sub (s7.trans s713) hx) (.cons d13 .nil)
      · rw [List.map_append, List.map_append]
        exact drAll_app (drAll_sub (s7.trans s713) hy) (.cons (dr_sub (s12.trans s13) d10) .nil)
      · obtain ⟨q1, q2, q3, q4⟩ := hks
        refine ⟨by rw [List.length_append]; show ks.length + 1 ≤ 4; omega, fun k' hk' => ?_, ?_, ?_⟩
        · rcases List.mem_append.mp hk' with h | h
          · exact q2 k' h
          · rw [List.mem_singleton.mp h]
            exact ⟨⟨wd, List.mem_of_getElem? en⟩, hkd⟩
        · rw [List.map_append]
          refine List.nodup_append.mpr ⟨q3, List.nodup_cons.mpr ⟨List.not_mem_nil, List.nodup_nil⟩, fun a ha b hb => ?_⟩
          rw [List.mem_singleton.mp hb]
          intro z
          subst z
          exact hin ha
        · rw [List.filter_append, List.length_append]
          by_cases hpf : kd = Str.ofString "prefix"
          · have h0 := hpre (by rw [← hpf]; exact hkdm)
            have : ([((o, n), kd)].filter fun k => decide (k.2 = Str.ofString "prefix")).length ≤ 1 := List.length_filter_le _ _
            omega
          · have : ([((o, n), kd)].filter fun k => decide (k.2 = Str.ofString "prefix")) = [] := by
              rw [List.filter_cons, if_neg (by rw [decide_eq_true_eq]; exact hpf), List.filter_nil]
            rw [this]
            exact q4
      · intro h
        obtain ⟨z1, z2⟩ := hpre2 h
        rw [List.filter_append, List.length_append, z2, List.filter_cons, if_neg (by rw [decide_eq_true_eq]; exact z1), List.filter_nil]
        rfl
      · intro b o h1 h2 h3
        rw [upd_ne (ne_of_none h3 hpk)]
        exact kp13 b o h1 h2 h3
    rintro σ H' ⟨ks, xs, ys, G', pkd, kn, o7, o8, o9, o10, o11, rfl, C', gr', sA', gK', gU', eK', eU', hx, hy, hks, hkl, ekd, hkn, hk0, hk4, hpre, kp'⟩
    have CF := C'.frz eK' nK
    have sF := same_new2 (o := .lst xs) gK'
    have grF := gr'.put (o := .lst xs) hpk gK'
    have dK : Dr (upd G' pk (.lst xs)) (.ref pk) (.list (ks.map fun k => .tuple (kyL k))) := .lst upd_same (drAll_sub sF hx)
    generalize upd G' pk (.lst xs) = GF at CF sF grF dK
    clear hx hy eK' eU' gK' gU'
    -- start, uses
    dsimp only
    refine setany_rd ?_
    refine ⟨_, rfl, _, rfl, pac, xac, rfl, .inl (sqL_subz (grF.sub.trans CF.sub) ac1), s, c, xac.length, rfl, CF.st, by omega, by omega, fun H6 start z0 z1 st6 kp6 => ?_⟩
    have C6 := CF.kp kp6 st6
    have kq6 := kp'.trans kp6
    obtain ⟨sn, rfl⟩ : ∃ sn : Nat, start = (sn : Int) := ⟨start.toNat, by omega⟩
    refine ⟨_, rfl, _, rfl, _, rfl, pac, _, rfl, sqL_subz (grF.sub.trans C6.sub) ac1, fun l hl => ?_⟩
    rw [cut_from _ _ (by omega)]
    obtain ⟨C7, gr7, kp7, s7, d7⟩ := newL C6 grF kq6 hl (drAll_sub grF.sub (drAll_drop ac2 sn))
    rw [← List.map_drop] at d7
    have eL : (upd GF l (.lst (xac.drop sn))) l = some (.lst (xac.drop sn)) := upd_same
    generalize upd H6 l (.lst (xac.drop sn)) = H7 at C7 kp7 ⊢
    generalize upd GF l (.lst (xac.drop sn)) = G7 at C7 gr7 s7 d7 eL
    have hdl := drAll_drop (drAll_sub (grF.sub.trans s7) ac2) sn
    rw [← List.map_drop] at hdl
    refine ⟨l, rfl, ⟨_, SqL.of (C7.sub _ _ eL)⟩, fun D hD => ?_⟩
    have nD := C7.st.neS hD
    have gD : G7 D = none := C7.sub.free hD
    have hDH := kp_none kp7 C7.st hD
    refine lc_list (K := K) (a := l) (xs := xac.drop sn) (fun j H8 => Same H7 H8 ∧ H8 D = some (.lst (((acs.drop sn).take j).map fun a => V.str a.name))) ⟨same_new hD, upd_same⟩ (fun j H8 _ h => SqL.of (h.1 _ _ (C7.sub _ _ eL))) ?_ ?_
    · rintro j y H8 hj ⟨sm, e8⟩
      obtain ⟨d, ed, hdj⟩ := drAll_val hdl hj
      rw [List.getElem?_map] at ed
      cases ea : (acs.drop sn)[j]? with
      | none => rw [ea] at ed; cases ed
      | some a =>
      rw [ea] at ed
      cases ed
      obtain ⟨pt, zs, rfl, y1', y2'⟩ := dr_tup hdj
      obtain ⟨a0, r, rfl, n0, y2'⟩ := drAll_cons y2'
      obtain ⟨a1, r, rfl, n1', y2'⟩ := drAll_cons y2'
      obtain rfl := dr_str n1'
      refine ⟨rfl, _, rfl, pt, _, _, _, rfl, rfl, sqT_subz (C7.sub.trans sm) y1', atI_nat (j := 1) rfl, _, e8, ?_, same_set sm hD, ?_⟩
      · rw [List.length_map, List.length_take, List.length_drop]
        exact small1000 (by omega)
      · rw [upd_same, List.take_add_one, ea, List.map_append]
        rfl
    rintro H8 ⟨sm, e8⟩
    rw [List.length_drop, hacl, show acs.length - sn = (acs.drop sn).length by rw [List.length_drop], List.take_length] at e8
    have C8 := (C7.same sm).frz e8 nD
    have s8 := same_new2 (o := .lst ((acs.drop sn).map fun a => V.str a.name)) gD
    have gr8 := gr7.put (o := .lst ((acs.drop sn).map fun a => V.str a.name)) hDH gD
    have kq8 := kp7.trans (Kp.same sm)
    have dU : Dr (upd G7 D (.lst ((acs.drop sn).map fun a => V.str a.name))) (.ref D) (.list (((acs.drop sn).map Ac.name).map .str)) := by
      refine .lst upd_same ?_
      have := drAll_of_strs (G := upd G7 D (.lst ((acs.drop sn).map fun a => V.str a.name))) ((acs.drop sn).map Ac.name)
      rw [List.map_map] at this
      exact this
    generalize upd G7 D (.lst ((acs.drop sn).map fun a => V.str a.name)) = G8 at C8 s8 gr8 dU
    -- name
    refine ⟨_, rfl, _, rfl, pickD E C8 dU (by rw [List.length_map, List.length_map, List.length_drop]; omega) (by rw [List.length_map, List.length_map, List.length_drop]; omega) fun H9 i9 d9 x9 ed9 hx9 C9 kp9 => ?_⟩
    rw [List.getElem?_map] at ed9
    cases en9 : ((acs.drop sn).map Ac.name)[i9]? with
    | none => rw [en9] at ed9; cases ed9
    | some nm =>
    rw [en9] at ed9
    cases ed9
    obtain rfl := dr_str hx9
    have hnm : nm ∈ (acs.drop sn).map Ac.name := List.mem_of_getElem? en9
    obtain ⟨an, han, hann⟩ := List.mem_map.mp hnm
    have hanm := List.mem_of_mem_drop han
    have kq9 := kq8.trans kp9
    refine ⟨_, rfl, _, rfl, s, c, k, rfl, C9.st, by omega, fun H10 x hn hxl st10 kp10 => ?_⟩
    have C10 := C9.kp kp10 st10
    have kq10 := kq9.trans kp10
    refine ⟨_, rfl, _, rfl, _, rfl, _, rfl, _, rfl, _, rfl, s, c, G8, .ref pac, acs, nm, rfl, C10, dr_sub gr8.sub dv, ha8, fun a ha => ?_, ⟨an, hanm, hann⟩, fun H11 G11 pa ns hns hnl C11 gr11 kp11 d11 => ⟨by show 2 ≤ sizeLine; decide, fun t11 ht11 => ?_⟩⟩
    · obtain ⟨j, ej⟩ := List.mem_iff_getElem?.mp ha
      have := hacs.2.2 j a ej
      refine ⟨this.2.1, fun f hf => ?_⟩
      obtain ⟨m, em⟩ := List.mem_iff_getElem?.mp hf
      exact (this.2.2.1 m f em).2.2.2
    have kq11 := kq10.trans kp11
    obtain ⟨C12, gr12, kp12, s12, d12⟩ := newT C11 (gr8.kp gr11 kq10 C10.st) kq11 ht11 (.cons (.str nm) (.cons d11 .nil))
    generalize upd H11 t11 (.tup [V.str nm, V.ref pa]) = H12 at C12 kp12 ⊢
    generalize upd G11 t11 (.tup [V.str nm, V.ref pa]) = G12 at C12 gr12 s12 d12
    refine ⟨_, rfl, _, rfl, by show 3 ≤ sizeLine; decide, fun p13 hp13 => ?_⟩
    have n13 := C12.st.neS hp13
    refine ⟨s, c, p13, _, rfl, C12.st.new hp13, SqL.of upd_same, n13.1, n13.2, (by show 0 < 3; decide), (by show 3 ≤ 1000; decide), fun H13 i13 x13 hx13 st13 kp13 => ?_⟩
    obtain ⟨m13, hm13, rfl⟩ := pick_ints (ns := [6, 6, 16]) hx13
    have hm13b : 1 ≤ m13 ∧ m13 ≤ 16 := by
      simp only [List.mem_cons, List.not_mem_nil, or_false] at hm13
      omega
    have kq13 := (Kp.new hp13).trans kp13
    have C13 := C12.kp kq13 st13
    refine ⟨s, c, m13, rfl, st13, by omega, by omega, fun H14 sz z0' z1' st14 kp14 => ⟨_, _, rfl, rfl, by show 6 ≤ sizeLine; decide, fun t ht => ?_⟩⟩
    have C14 := C13.kp kp14 st14
    have sUp := gr11.sub.trans s12
    obtain ⟨szn, hszn⟩ : ∃ szn : Nat, 1 + sz = (szn : Int) := ⟨(1 + sz).toNat, by omega⟩
    show Q (.ref t) (upd H14 t (.tup [V.str "table", V.str x, V.ref pk, V.ref D, V.ref t11, V.int (1 + sz)]))
    rw [hszn]
    obtain ⟨C15, gr15, kp15, s15, d15⟩ := newT C14 gr12 ((kp12.trans kq13).trans kp14) ht (.cons (.str "table") (.cons (.str x) (.cons (dr_sub ((s7.trans s8).trans sUp) dK) (.cons (dr_sub sUp dU) (.cons d12 (.cons (.int szn) .nil))))))
    exact q _ _ _ ⟨x, ks, (acs.drop sn).map Ac.name, nm, ns, szn⟩ ⟨hn hk10, hks, ⟨sn, by omega, rfl⟩, hnm, hns, by show 1 ≤ szn; omega, by show szn ≤ 16; omega⟩ C15 gr15 kp15 d15
end
end Pk
set_option Elab.async false
set_option linter.all false
set_option maxRecDepth 100000
set_option maxHeartbeats 4000000
namespace Pk
open PySem PySem.Spec PyProof.Rows L2 SX GxR Tk
abbrev sTest : Stmt := topS 54
abbrev sCtl : Stmt := topS 55
theorem scTest : FnScope ["state", "headers", "refs", "deep", "kind", "owner", "name", "width", "number"] ["state", "headers", "refs", "deep"] (defScope sTest) := ⟨rfl, rfl, rfl, by decide +kernel, rfl, by decide +kernel, by decide +kernel⟩
abbrev NCt : List Str := ["state", "headers", "refs", "names", "nested", "left", "control", "k", "test", "then"]
abbrev PCt : List Str := ["state", "headers", "refs", "names", "nested", "left"]
theorem scCtl : FnScope NCt PCt (defScope sCtl) := ⟨rfl, rfl, rfl, by decide +kernel, rfl, by decide +kernel, by decide +kernel⟩
theorem ct_cat : ∀ c d, ctD (catC c d) = ctD c ++ ctD d
  | .nil, _ => rfl
  | .ap t r, d => congrArg (_ :: ·) (ct_cat r d)
  | .cf n a b r, d => congrArg (_ :: ·) (ct_cat r d)
theorem sz_cat : ∀ c d, sz (catC c d) = sz c + sz d
  | .nil, d => (Nat.zero_add _).symm
  | .ap t r, d => by
    show sz (catC r d) + 1 = sz r + 1 + sz d
    rw [sz_cat r d]
    omega
  | .cf n a b r, d => by
    show sz a + sz b + sz (catC r d) + 1 = sz a + sz b + sz r + 1 + sz d
    rw [sz_cat r d]
    omega
theorem dpt_cat : ∀ c d, dpt (catC c d) = max (dpt c) (dpt d)
  | .nil, d => (Nat.zero_max _).symm
  | .ap t r, d => dpt_cat r d
  | .cf n a b r, d => by
    show max (max (dpt a) (dpt b) + 1) (dpt (catC r d)) = max (max (max (dpt a) (dpt b) + 1) (dpt r)) (dpt d)
    rw [dpt_cat r d]
    omega
theorem ok_cat {hs : List Hd} {rs : List Rf} : ∀ c d, CtOk hs rs c → CtOk hs rs d → CtOk hs rs (catC c d)
  | .nil, _, _, h => h
  | .ap t r, d, h, k => ok_cat r d h k
  | .cf n a b r, d, h, k => ⟨h.1, h.2.1, h.2.2.1, h.2.2.2.1, ok_cat r d h.2.2.2.2 k⟩
theorem aps_cat : ∀ c d, aps (catC c d) = aps c ++ aps d
  | .nil, _ => rfl
  | .ap t r, d => congrArg (t :: ·) (aps_cat r d)
  | .cf n a b r, d => by
    show aps a ++ aps b ++ aps (catC r d) = aps a ++ aps b ++ aps r ++ aps d
    rw [aps_cat r d]
    simp only [List.append_assoc]
theorem ct_len : ∀ c, (ctD c).length ≤ sz c
  | .nil => Nat.le_refl _
  | .ap t r => Nat.succ_le_succ (ct_len r)
  | .cf n a b r => by
    have := ct_len r
    show (ctD r).length + 1 ≤ sz a + sz b + sz r + 1
    omega
theorem by_if {t : TT} {a b : TS} {D : Ends} {σ : L2.St} {H : Hp} (C : Bool → Hp → Prop) (h : ∀ R' : Bool → Hp → Prop, (∀ b Hx, C b Hx → R' b Hx) → t σ H R') (k1 : ∀ Hx, C true Hx → a D σ Hx) (k2 : ∀ Hx, C false Hx → b D σ Hx) : tIfS t a b D σ H := by
  refine h _ fun c Hx hc => ?_
  cases c with
  | true => exact iteT (k1 _ hc)
  | false => exact iteF (k2 _ hc)
theorem by_seqif {t : TT} {a b rest : TS} {D : Ends} {σ : L2.St} {H : Hp} (C : Bool → Hp → Prop) (h : ∀ R' : Bool → Hp → Prop, (∀ b Hx, C b Hx → R' b Hx) → t σ H R') (k1 : ∀ Hx, C true Hx → a { D with nx := rest D } σ Hx) (k2 : ∀ Hx, C false Hx → b { D with nx := rest D } σ Hx) : tSeq (tIfS t a b) rest D σ H := by
  unfold tSeq
  exact by_if C h k1 k2
/-- the drawing state, the part that stands, and the two lists that the control's def changes -/
structure C4 (G H : Hp) (s c pl pn : Addr) (L : Nat) (ns : List Str) : Prop where
  sg : Sg G H s c
  gl : G pl = none
  gn : G pn = none
  el : H pl = some (.lst [.int (L : Nat)])
  en : H pn = some (.lst (ns.map V.str))
  nl : pl ≠ s ∧ pl ≠ c
  nn : pn ≠ s ∧ pn ≠ c
  ne : pl ≠ pn
def Kq (s c l n : Addr) (H H' : Hp) : Prop := ∀ b o, b ≠ s → b ≠ c → b ≠ l → b ≠ n → H b = some o → H' b = some o
section
variable {G G' H H' H2 : Hp} {s c pl pn : Addr} {L : Nat} {ns : List Str}
theorem Kq.trans (a : Kq s c pl pn H H') (b : Kq s c pl pn H' H2) : Kq s c pl pn H H2 := fun x o h1 h2 h3 h4 e => b x o h1 h2 h3 h4 (a x o h1 h2 h3 h4 e)
theorem Kq.kp (a : Kp s c H H') : Kq s c pl pn H H' := fun x o h1 h2 _ _ e => a x o h1 h2 e
theorem Kq.none (k : Kq s c pl pn H H') (C : C4 G H' s c pl pn L ns) {t : Addr} (h : H' t = none) : H t = none := by
  cases e : H t with
  | none => rfl
  | some o =>
    have n := C.sg.st.neS h
    have := k t o n.1 n.2 (Ne.symm (ne_of_none C.el h)) (Ne.symm (ne_of_none C.en h)) e
    rw [h] at this
    cases this
theorem C4.kp (C : C4 G H s c pl pn L ns) (k : Kp s c H H') (st : StAt H' s c) : C4 G H' s c pl pn L ns := ⟨C.sg.kp k st, C.gl, C.gn, k _ _ C.nl.1 C.nl.2 C.el, k _ _ C.nn.1 C.nn.2 C.en, C.nl, C.nn, C.ne⟩
theorem C4.grow (C : C4 G H s c pl pn L ns) (k : Kp s c H H') (sg : Sg G' H' s c) (gr : Gr G G' H) : C4 G' H' s c pl pn L ns :=
  ⟨sg, gr.free C.gl (by rw [C.el]; exact fun z => nomatch z), gr.free C.gn (by rw [C.en]; exact fun z => nomatch z), k _ _ C.nl.1 C.nl.2 C.el, k _ _ C.nn.1 C.nn.2 C.en, C.nl, C.nn, C.ne⟩
theorem C4.setL {L' : Nat} {xs : List V} (C : C4 G H s c pl pn L ns) (e : xs = [.int (L' : Nat)]) : C4 G (upd H pl (.lst xs)) s c pl pn L' ns :=
  ⟨C.sg.set C.gl C.nl, C.gl, C.gn, by rw [upd_same, e], by rw [upd_ne (Ne.symm C.ne)]; exact C.en, C.nl, C.nn, C.ne⟩
theorem C4.setN {ns' : List Str} {xs : List V} (C : C4 G H s c pl pn L ns) (e : xs = ns'.map V.str) : C4 G (upd H pn (.lst xs)) s c pl pn L ns' :=
  ⟨C.sg.set C.gn C.nn, C.gl, C.gn, by rw [upd_ne C.ne]; exact C.el, by rw [upd_same, e], C.nl, C.nn, C.ne⟩
theorem C4.set {p : Addr} {o : HO} (C : C4 G H s c pl pn L ns) (g : G p = Option.none) (n : p ≠ s ∧ p ≠ c ∧ p ≠ pl ∧ p ≠ pn) : C4 G (upd H p o) s c pl pn L ns :=
  ⟨C.sg.set g ⟨n.1, n.2.1⟩, C.gl, C.gn, by rw [upd_ne (Ne.symm n.2.2.1)]; exact C.el, by rw [upd_ne (Ne.symm n.2.2.2)]; exact C.en, C.nl, C.nn, C.ne⟩
theorem Kq.setL {o : HO} : Kq s c pl pn H (upd H pl o) := fun b u _ _ h3 _ e => by rw [upd_ne h3]; exact e
theorem Kq.setN {o : HO} : Kq s c pl pn H (upd H pn o) := fun b u _ _ _ h4 e => by rw [upd_ne h4]; exact e
theorem C4.neS (C : C4 G H s c pl pn L ns) {p : Addr} (h : H p = Option.none) : p ≠ s ∧ p ≠ c ∧ p ≠ pl ∧ p ≠ pn := ⟨(C.sg.st.neS h).1, (C.sg.st.neS h).2, Ne.symm (ne_of_none C.el h), Ne.symm (ne_of_none C.en h)⟩
/-- a new tuple of data -/
theorem newT4 {G0 H0 : Hp} {t : Addr} {vs : List V} {ds : List PyData} (C : C4 G H s c pl pn L ns) (gr : Gr G0 G H0) (kq : Kq s c pl pn H0 H) (ht : H t = Option.none) (hd : DrAll G vs ds) :
    C4 (upd G t (.tup vs)) (upd H t (.tup vs)) s c pl pn L ns ∧ Gr G0 (upd G t (.tup vs)) H0 ∧ Kq s c pl pn H0 (upd H t (.tup vs)) ∧ Same G (upd G t (.tup vs)) ∧ Dr (upd G t (.tup vs)) (.ref t) (.tuple ds) := by
  have hG := C.sg.sub.free ht
  refine ⟨C.grow (Kp.new ht) (C.sg.new ht) ((Gr.refl G H).put ht hG), gr.put (kq.none C ht) hG, kq.trans (Kq.kp (Kp.new ht)), same_new2 hG, .tup upd_same (drAll_sub (same_new2 hG) hd)⟩
end
section
variable {P : Program} {w : World} {K : PySem.W.Frag} {mg : Str → Option Value} {base : Heap}
def spTt (K : PySem.W.Frag) : Nat → Sp
  | 0 => fun _ _ _ _ => False
  | m + 1 => fun vs H Q _ => ∃ (s c : Addr) (G : Hp) (z v : V) (hs : List Hd) (rs : List Rf) (dp : Nat), vs = [.ref s, z, v, .int dp] ∧ Sg G H s c ∧ dp ≤ m ∧ Dr G z (hdsD hs) ∧ 1 ≤ hs.length ∧ hs.length ≤ 6 ∧ Dr G v (rfsD rs) ∧ 0 < rs.length ∧ rs.length ≤ 100 ∧ (∀ r ∈ rs, r.2.2 ≤ 32) ∧
    ∀ (H' G' : Hp) (x : V) (t : Tt), TtOk hs rs t → nots t ≤ dp → Sg G' H' s c → Gr G G' H → Kp s c H H' → Dr G' x (.tuple (ttL t)) → Q x H'
theorem ok_tt0 {f : Addr} {fd : FuncData} {k : Nat} (F : Fun K "_law_test" "_law_test" sTest f fd) : FnOk P w K mg base CX0 (k + 1) f fd ["state", "headers", "refs", "deep"] (spTt K 0) :=
  F.ok scTest (fun _ _ _ _ h => h.elim) (fun _ _ _ _ _ _ _ _ _ h => h.elim)
theorem ok_ttS {f : Addr} {fd : FuncData} {m : Nat} (F : Fun K "_law_test" "_law_test" sTest f fd) (T : Bl mg) (D1 : Df P w K mg base CX0 1 "_law_draw" ["state", "many"] spDraw) (D2 : Df P w K mg base CX0 2 "_law_pick" ["state", "row"] (spPick K)) (D2' : Df P w K mg base CX0 2 "_law_pick" ["state", "row"] (spPickK K)) (D3 : Df P w K mg base CX0 (m + 2) "_law_test" ["state", "headers", "refs", "deep"] (spTt K m)) :
    FnOk P w K mg base CX0 (m + 3) f fd ["state", "headers", "refs", "deep"] (spTt K (m + 1)) := by
  obtain ⟨f1, fd1, G1, g1, k1, b1⟩ := D1.ex
  obtain ⟨f2, fd2, G2, g2, k2, b2⟩ := D2.ex
  obtain ⟨f3, fd3, G3, g3, k3, b3⟩ := D2'.ex
  obtain ⟨f4, fd4, G4, g4, k4, b4⟩ := D3.ex
  refine F.ok scTest (fun vs H Q E h => ?_) (fun cdv A outer s0 H vs Q E hr h => ?_)
  · obtain ⟨s, c, G, z, v, hs, rs, dp, rfl, _⟩ := h
    rfl
  · obtain ⟨s, c, G, z, v, hs, rs, dp, rfl, C, hdp, dh, hh1, hh6, dr, hr0, hr100, h32, q⟩ := h
    have nd := scTest.nd
    have hr1 : Room 1 _ := hr.mono (by omega)
    have hr2 : Room 2 _ := hr.mono (by omega)
    refine ⟨_, pss_cons (ps_set (i := 4) nd rfl (.inl rfl) (pe_call G1 hr1 (by rfl) g1 k1 b1 .nil pass0 (pa_cons (pv 0) (pa_cons pe_int pa_nil))))
      (pss_cons (ps_if (PW.pt (pw_and (pt_cmpR op_eq (pv 4) pe_int (nomark _)) (pw_and1 (pt_cmpR op_gt (pv 3) pe_int (nomark _))))) (pss_one (ps_ret (pe_tup (pa_cons pe_str (pa_cons (pe_call G4 hr (by rfl) g4 k4 b4 .nil pass0 (pa_cons (pv 0) (pa_cons (pv 1) (pa_cons (pv 2) (pa_cons (pe_op op_sub (pv 3) pe_int) pa_nil))))) pa_nil))))) pss_nil)
      (pss_cons (ps_if (pt_cmpR op_eq (pv 4) pe_int (nomark _)) (pss_one (ps_ret (pe_tup (pa_cons pe_str (pa_cons (pe_ix ix_tup (pe_call G3 hr2 (by rfl) g3 k3 b3 .nil pass0 (pa_cons (pv 0) (pa_cons (pv 1) pa_nil))) pe_int (fun _ _ => rfl)) pa_nil))))) pss_nil)
      (pss_cons (ps_asg (pe_call G3 hr2 (by rfl) g3 k3 b3 .nil pass0 (pa_cons (pv 0) (pa_cons (pv 2) pa_nil))) (pg_tup (by rfl) (pgs_cons (pg_name (i := 5) nd rfl (.inl rfl)) (pgs_cons (pg_name (i := 6) nd rfl (.inl rfl)) (pgs_cons (pg_name (i := 7) nd rfl (.inl rfl)) pgs_nil)))))
      (pss_cons (ps_set (i := 8) nd rfl (.inl rfl) (pe_call G1 hr1 (by rfl) g1 k1 b1 .nil pass0 (pa_cons (pv 0) (pa_cons (pe_call G2 hr2 (by rfl) g2 k2 b2 .nil pass0 (pa_cons (pv 0) (pa_cons (pe_lst (pa_cons (pe_callB (call_min2 rfl) (by rfl) T.zMin (by decide +kernel) (pa_cons pe_int (pa_cons (pe_op op_shl pe_int (pv 7)) pa_nil))) (pa_cons (pe_op op_shl pe_int (pv 7)) pa_nil))) pa_nil))) pa_nil))))
      (pss_one (ps_ret (pe_tup (pa_cons (pe_call G2 hr2 (by rfl) g2 k2 b2 .nil pass0 (pa_cons (pv 0) (pa_cons (pe_lst (pa_cons pe_str (pa_cons pe_str pa_nil))) pa_nil))) (pa_cons (pe_tup (pa_cons (pv 5) (pa_cons (pv 6) pa_nil))) (pa_cons (pv 8) pa_nil)))))))))), ?_⟩
    obtain ⟨pr, xr, rfl, e1, e2⟩ := dr_lst dr
    obtain ⟨ph, xh, rfl, a1, a2⟩ := dr_lst dh
    refine setany_rd ?_
    refine ⟨_, rfl, s, c, 5, rfl, C.st, by decide, by decide, fun H1 k k0 k1' st1 kp1 => ?_⟩
    have C1 := C.kp kp1 st1
    unfold gName
    dsimp only
    refine by_seqif (fun b Hx => Hx = H1 ∧ (b = true → 0 < dp)) (fun R' hR' => ?_) (fun Hx hb => ?_) (fun Hx hb => ?_)
    · refine ⟨_, rfl, rfl, _, rfl, ?_⟩
      rw [dcInt]
      refine iteD (fun _ => ⟨_, rfl, _, _, rfl, rfl, _, rfl, hR' _ _ ⟨rfl, fun h => by have := of_decide_eq_true h; omega⟩⟩) fun _ => hR' false _ ⟨rfl, fun h => nomatch h⟩
    · obtain ⟨rfl, hpos⟩ := hb
      have hp := hpos rfl
      obtain ⟨m', rfl⟩ : ∃ m', m = m' + 1 := ⟨m - 1, by omega⟩
      obtain ⟨d', rfl⟩ : ∃ d', dp = d' + 1 := ⟨dp - 1, by omega⟩
      refine ⟨_, rfl, _, rfl, _, rfl, _, rfl, _, _, rfl, rfl, s, c, G, .ref ph, .ref pr, hs, rs, d', ?_, C1, by omega, dh, hh1, hh6, dr, hr0, hr100, h32, fun H2 G2' x t ht hn C2 gr2 kp2 d2 => ⟨by show 2 ≤ sizeLine; decide, fun tt htt => ?_⟩⟩
      · exact congrArg (fun z : Int => [V.ref s, V.ref ph, V.ref pr, V.int z]) (show (((d' + 1 : Nat) : Int) - 1) = ((d' : Nat) : Int) by omega)
      · obtain ⟨n1, n2, n3, n4, n5⟩ := newT C2 ((Gr.refl G H).kp gr2 kp1 C1.st) (kp1.trans kp2) htt (.cons (.str "not") (.cons d2 .nil))
        exact q _ _ _ (.no t) ht (by show nots t + 1 ≤ d' + 1; omega) n1 n2 n3 n5
    · obtain ⟨rfl, _⟩ := hb
      refine ⟨_, rfl, rfl, _, rfl, ?_⟩
      rw [dcInt]
      refine iteD (fun _ => ?_) fun _ => ?_
      · refine ⟨_, rfl, _, rfl, pickD E C1 dh (by rw [List.length_map]; omega) (by rw [List.length_map]; omega) fun H2 i d x ed hx C2 kp2 => ?_⟩
        rw [List.getElem?_map] at ed
        cases en : hs[i]? with
        | none => rw [en] at ed; cases ed
        | some h =>
        rw [en] at ed
        cases ed
        obtain ⟨pt, zs, rfl, t1, t2⟩ := dr_tup hx
        obtain ⟨z0, r, rfl, b0, t2⟩ := drAll_cons t2
        obtain ⟨z1, r, rfl, b1, t2⟩ := drAll_cons t2
        obtain rfl := dr_str b1
        refine ⟨pt, _, _, _, rfl, rfl, sqT_subz C2.sub t1, atI_nat (j := 1) rfl, by show 2 ≤ sizeLine; decide, fun t ht => ?_⟩
        obtain ⟨n1, n2, n3, n4, n5⟩ := newT C2 (Gr.refl G H) (kp1.trans kp2) ht (.cons (.str "valid") (.cons (.str h.1) .nil))
        exact q _ _ _ (.vld h.1) ⟨h, List.mem_of_getElem? en, rfl⟩ (Nat.zero_le _) n1 n2 n3 n5
      · refine ⟨_, rfl, _, rfl, pickD E C1 dr (by rw [List.length_map]; omega) (by rw [List.length_map]; omega) fun H2 i d x ed hx C2 kp2 => ?_⟩
        rw [List.getElem?_map] at ed
        cases en : rs[i]? with
        | none => rw [en] at ed; cases ed
        | some rf =>
        rw [en] at ed
        cases ed
        obtain ⟨o, n, wd⟩ := rf
        have hw32 : wd ≤ 32 := h32 _ (List.mem_of_getElem? en)
        have hp := pow32 hw32
        obtain ⟨pt, zs, rfl, t1, t2⟩ := dr_tup hx
        obtain ⟨z0, r, rfl, b0, t2⟩ := drAll_cons t2
        obtain ⟨z1, r, rfl, b1, t2⟩ := drAll_cons t2
        obtain ⟨z2, r, rfl, b2, t2⟩ := drAll_cons t2
        obtain rfl := drAll_nil t2
        obtain rfl := dr_str b0
        obtain rfl := dr_str b1
        obtain rfl := dr_int b2
        have kq2 := kp1.trans kp2
        refine ⟨pt, _, rfl, sqT_subz C2.sub t1, rfl, _, _, rfl, _, _, rfl, _, _, rfl, rfl, ?_⟩
        refine ⟨_, rfl, _, rfl, _, rfl, shl1 (Nat.le_trans hw32 (by decide)) ⟨_, _, rfl, _, rfl, shl1 (Nat.le_trans hw32 (by decide)) ⟨by show 2 ≤ sizeLine; decide, fun p hp5 => ?_⟩⟩⟩
        have n5 := C2.st.neS hp5
        refine ⟨s, c, p, _, rfl, C2.st.new hp5, SqL.of upd_same, n5.1, n5.2, (by show 0 < 2; decide), (by show 2 ≤ 1000; decide), fun H4 i4 x4 hx4 st4 kp4 => ?_⟩
        obtain ⟨m4, hm, rfl⟩ := pick_ints (ns := [if (2 : Int) ^ wd < 5 then 2 ^ wd else 5, 2 ^ wd]) hx4
        have hmb : 0 < m4 ∧ m4 ≤ 2 ^ wd := by
          rcases List.mem_cons.mp hm with rfl | hm
          · split <;> omega
          rcases List.mem_cons.mp hm with rfl | hm
          · omega
          · cases hm
        have kq4 := (Kp.new hp5).trans kp4
        have C4 := C2.kp kq4 st4
        refine ⟨s, c, m4, rfl, st4, hmb.1, by omega, fun H5 val v0 v1 st5 kp5 => ?_⟩
        have C5 := C4.kp kp5 st5
        have kq5 := (kq2.trans kq4).trans kp5
        refine ⟨_, rfl, by show 2 ≤ sizeLine; decide, fun p6 hp6 => ?_⟩
        have n6 := C5.st.neS hp6
        refine ⟨s, c, p6, _, rfl, C5.st.new hp6, SqL.of upd_same, n6.1, n6.2, (by show 0 < 2; decide), (by show 2 ≤ 1000; decide), fun H6 i6 x6 hx6 st6 kp6 => ?_⟩
        have hm6 : x6 ∈ ops2.map V.str := List.mem_of_getElem? hx6
        obtain ⟨op, hop, rfl⟩ := List.mem_map.mp hm6
        have kq6 := kq5.trans ((Kp.new hp6).trans kp6)
        have C6 := C5.kp ((Kp.new hp6).trans kp6) st6
        refine ⟨_, rfl, _, rfl, by show 2 ≤ sizeLine; decide, fun ta hta => ?_⟩
        obtain ⟨C7, gr7, kp7, s7, d7⟩ := newT C6 (Gr.refl G H) kq6 hta (.cons (.str o) (.cons (.str n) .nil))
        refine ⟨_, rfl, by show 3 ≤ sizeLine; decide, fun tb htb => ?_⟩
        obtain ⟨n1, n2, n3, n4, n5⟩ := newT C7 gr7 kp7 htb (.cons (.str op) (.cons d7 (.cons (.int val) .nil)))
        exact q _ _ _ (.cmp op o n val) ⟨hop, wd, List.mem_of_getElem? en, v0, by omega⟩ (Nat.zero_le _) n1 n2 n3 n5
def spCl (K : PySem.W.Frag) : Nat → Sp
  | 0 => fun _ _ _ _ => False
  | m + 1 => fun vs H Q _ => ∃ (s c pl pn : Addr) (G : Hp) (z v : V) (hs : List Hd) (rs : List Rf) (nest L : Nat) (ns : List Str), vs = [.ref s, z, v, .ref pn, .int nest, .ref pl] ∧ C4 G H s c pl pn L ns ∧ nest ≤ m ∧ L ≤ 12 ∧ ns.length ≤ 10 ∧ Dr G z (hdsD hs) ∧ 1 ≤ hs.length ∧ hs.length ≤ 6 ∧ Dr G v (rfsD rs) ∧ 0 < rs.length ∧ rs.length ≤ 100 ∧ (∀ r ∈ rs, r.2.2 ≤ 32) ∧
    ∀ (H' G' : Hp) (p : Addr) (ct : Ct) (L' : Nat) (ns' : List Str), C4 G' H' s c pl pn L' ns' → Gr G G' H → Kq s c pl pn H H' → Dr G' (.ref p) (.list (ctD ct)) → CtOk hs rs ct → sz ct + L' = L → dpt ct ≤ nest → (aps ct ++ ns').Perm ns → Q (.ref p) H'
theorem ok_cl0 {f : Addr} {fd : FuncData} {k : Nat} (F : Fun K "_law_control" "_law_control" sCtl f fd) : FnOk P w K mg base CX0 (k + 1) f fd PCt (spCl K 0) :=
  F.ok scCtl (fun _ _ _ _ h => h.elim) (fun _ _ _ _ _ _ _ _ _ h => h.elim)
end
end Pk
set_option Elab.async false
set_option linter.all false
set_option maxRecDepth 100000
set_option maxHeartbeats 4000000
namespace Pk
open PySem PySem.Spec PyProof.Rows L2 SX GxR Tk
theorem C4.frz {G H : Hp} {s c pl pn p : Addr} {L : Nat} {ns : List Str} {o : HO} (C : C4 G H s c pl pn L ns) (h : H p = some o) (n : p ≠ s ∧ p ≠ c ∧ p ≠ pl ∧ p ≠ pn) : C4 (upd G p o) H s c pl pn L ns :=
  ⟨C.sg.frz h ⟨n.1, n.2.1⟩, by rw [upd_ne (Ne.symm n.2.2.1)]; exact C.gl, by rw [upd_ne (Ne.symm n.2.2.2)]; exact C.gn, C.el, C.en, C.nl, C.nn, C.ne⟩
theorem perm_erase : ∀ {ns : List Str} {k : Nat} {t : Str}, ns[k]? = some t → (t :: ns.eraseIdx k).Perm ns
  | x :: xs, 0, t, h => by cases h; exact List.Perm.refl _
  | x :: xs, k + 1, t, h => (List.Perm.swap x t (xs.eraseIdx k)).trans (.cons x (perm_erase (ns := xs) (k := k) h))
  | [], _, _, h => by cases h
theorem map_erase : ∀ (ns : List Str) (k : Nat), (ns.map V.str).eraseIdx k = (ns.eraseIdx k).map V.str
  | [], _ => rfl
  | _ :: _, 0 => rfl
  | x :: xs, k + 1 => congrArg (V.str x :: ·) (map_erase xs k)
theorem seq_ix {j n : Nat} (h : j < n) : seqIndex? (j : Int) n = some j := by
  unfold seqIndex?
  simp
  omega
section
variable {P : Program} {w : World} {K : PySem.W.Frag} {mg : Str → Option Value} {base : Heap}
theorem ok_clS {f : Addr} {fd : FuncData} {m : Nat} (F : Fun K "_law_control" "_law_control" sCtl f fd) (T : Bl mg) (D1 : Df P w K mg base CX0 1 "_law_draw" ["state", "many"] spDraw) (D2 : Df P w K mg base CX0 6 "_law_test" ["state", "headers", "refs", "deep"] (spTt K 4)) (D3 : Df P w K mg base CX0 (m + 7) "_law_control" PCt (spCl K m)) :
    FnOk P w K mg base CX0 (m + 8) f fd PCt (spCl K (m + 1)) := by
  obtain ⟨f1, fd1, G1, g1, k1, b1⟩ := D1.ex
  obtain ⟨f2, fd2, G2, g2, k2, b2⟩ := D2.ex
  obtain ⟨f3, fd3, G3, g3, k3, b3⟩ := D3.ex
  refine F.ok scCtl (fun vs H Q E h => ?_) (fun cdv A outer s0 H vs Q E hr h => ?_)
  · obtain ⟨s, c, pl, pn, G, z, v, hs, rs, nest, L, ns, rfl, _⟩ := h
    rfl
  · obtain ⟨s, c, pl, pn, G, z, v, hs, rs, nest, L0, ns0, rfl, C0, hnm, hL12, hn10, dh, hh1, hh6, dr, hr0, hr100, h32, q⟩ := h
    have nd := scCtl.nd
    have hr1 : Room 1 _ := hr.mono (by omega)
    have hr6 : Room 6 _ := hr.mono (by omega)
    refine ⟨_, pss_cons (ps_set (i := 6) nd rfl (.inl rfl) (pe_lst pa_nil))
      (pss_cons (ps_for PassesOwn.never rfl (pi_range1 (by rfl) T.zRange (pa_cons (pe_call G1 hr1 (by rfl) g1 k1 b1 .nil pass0 (pa_cons (pv 0) (pa_cons pe_int pa_nil))) pa_nil)) (pg_name (i := 7) nd rfl (.inl rfl))
        (pss_one (ps_if (PW.pt (pw_and (pt_cmpR op_gt (pv 4) pe_int (nomark _)) (pw_and (pt_cmpR op_gt (pe_ix ix_list (pv 5) pe_int (fun _ _ => rfl)) pe_int (nomark _)) (pw_and1 (pt_cmpR op_eq (pe_call G1 hr1 (by rfl) g1 k1 b1 .nil pass0 (pa_cons (pv 0) (pa_cons pe_int pa_nil))) pe_int (nomark _))))))
          (pss_cons (ps_asg (pe_op op_sub (pe_ix ix_list (pv 5) pe_int (fun _ _ => rfl)) pe_int) (pg_sub (pv 5) pe_int set_list))
          (pss_cons (ps_set (i := 8) nd rfl (.inl rfl) (pe_call G2 hr6 (by rfl) g2 k2 b2 .nil pass0 (pa_cons (pv 0) (pa_cons (pv 1) (pa_cons (pv 2) (pa_cons pe_int pa_nil))))))
          (pss_cons (ps_set (i := 9) nd rfl (.inl rfl) (pe_call G3 hr (by rfl) g3 k3 b3 .nil pass0 (pa_cons (pv 0) (pa_cons (pv 1) (pa_cons (pv 2) (pa_cons (pv 3) (pa_cons (pe_op op_sub (pv 4) pe_int) (pa_cons (pv 5) pa_nil))))))))
          (pss_one (ps_expr (pe_bm PySem.F.plainAttrs_list PySem.F.slot_list_append PySem.F.type_list_append mt_append (pv 6) (pa_cons (pe_tup (pa_cons pe_str (pa_cons (pv 8) (pa_cons (pv 9) (pa_cons (pe_call G3 hr (by rfl) g3 k3 b3 .nil pass0 (pa_cons (pv 0) (pa_cons (pv 1) (pa_cons (pv 2) (pa_cons (pv 3) (pa_cons (pe_op op_sub (pv 4) pe_int) (pa_cons (pv 5) pa_nil))))))) pa_nil))))) pa_nil)))))))
          (pss_one (ps_if (PW.pt (pw_and (pt_cmpR op_gt (pe_callB call_len_seq (by rfl) T.zLen PySem.boot_len (pa_cons (pv 3) pa_nil)) pe_int (nomark _)) (pw_and1 (pt_cmpR op_gt (pe_ix ix_list (pv 5) pe_int (fun _ _ => rfl)) pe_int (nomark _)))))
            (pss_cons (ps_asg (pe_op op_sub (pe_ix ix_list (pv 5) pe_int (fun _ _ => rfl)) pe_int) (pg_sub (pv 5) pe_int set_list))
            (pss_one (ps_expr (pe_bm PySem.F.plainAttrs_list PySem.F.slot_list_append PySem.F.type_list_append mt_append (pv 6) (pa_cons (pe_tup (pa_cons pe_str (pa_cons (pe_bm PySem.F.plainAttrs_list PySem.F.slot_list_pop PySem.F.type_list_pop mt_popAt (pv 3) (pa_cons (pe_call G1 hr1 (by rfl) g1 k1 b1 .nil pass0 (pa_cons (pv 0) (pa_cons (pe_callB call_len_seq (by rfl) T.zLen PySem.boot_len (pa_cons (pv 3) pa_nil)) pa_nil))) pa_nil)) pa_nil))) pa_nil))))) pss_nil)))))
      (pss_one (ps_ret (pv 6)))), ?_⟩
    refine setnil_rd fun pc H1 hpc s1 er => ?_
    have nS := C0.neS hpc
    have gpc : G pc = none := C0.sg.sub.free hpc
    have kq1 : Kq s c pl pn H H1 := fun b o _ _ _ _ e => s1 b o e
    have C1 : C4 G H1 s c pl pn L0 ns0 := ⟨C0.sg.same s1, C0.gl, C0.gn, s1 _ _ C0.el, s1 _ _ C0.en, C0.nl, C0.nn, C0.ne⟩
    refine ⟨_, rfl, s, c, 4, rfl, C1.sg.st, by decide, by decide, fun H2 n n0 n1 st2 kp2 => ?_⟩
    have C2 := C1.kp kp2 st2
    have kq2 := kq1.trans (Kq.kp (pl := pl) (pn := pn) kp2)
    have er2 := kp2 _ _ nS.1 nS.2.1 er
    refine ⟨_, rfl, by omega, by omega, for_range (lo := 0) (n := n.toNat) (fun i σ H3 => ∃ (Gc : Hp) (ct : Ct) (xs : List V) (L : Nat) (ns : List Str) (o7 o8 o9 : Option V), σ = [some (.ref s), some z, some v, some (.ref pn), some (.int (nest : Nat)), some (.ref pl), some (.ref pc), o7, o8, o9] ∧ C4 Gc H3 s c pl pn L ns ∧ Gr G Gc H ∧ Kq s c pl pn H H3 ∧ Gc pc = none ∧ H3 pc = some (.lst xs) ∧ DrAll Gc xs (ctD ct) ∧ CtOk hs rs ct ∧ sz ct + L = L0 ∧ dpt ct ≤ nest ∧ (aps ct ++ ns).Perm ns0)
      ⟨G, .nil, [], L0, ns0, _, _, _, rfl, C2, Gr.refl _ _, kq2, gpc, er2, .nil, trivial, Nat.zero_add _, Nat.zero_le _, List.Perm.refl _⟩ ?_ ?_⟩
    case refine_2 =>
      rintro σ H3 ⟨Gc, ct, xs, L, ns, o7, o8, o9, rfl, C3, gr3, kq3, gp3, ep3, d3, ok3, sz3, dp3, pm3⟩
      exact ⟨_, rfl, q H3 (upd Gc pc (.lst xs)) pc ct L ns (C3.frz ep3 nS) (gr3.put hpc gp3) kq3 (.lst upd_same (drAll_sub (same_new2 gp3) d3)) ok3 sz3 dp3 pm3⟩
    rintro i σ H3 hi ⟨Gc, ct, xs, L, ns, o7, o8, o9, rfl, C3, gr3, kq3, gp3, ep3, d3, ok3, sz3, dp3, pm3⟩
    have lx := drAll_len d3
    have lc := ct_len ct
    unfold gName
    dsimp only
    refine by_if (fun b Hx => C4 Gc Hx s c pl pn L ns ∧ Kq s c pl pn H Hx ∧ Hx pc = some (.lst xs) ∧ (b = true → 0 < L ∧ 0 < nest)) (fun R' hR' => ?_) (fun H4 hb => ?_) (fun H4 hb => ?_)
    · refine ⟨_, rfl, _, _, rfl, rfl, _, rfl, iteD (fun h1 => ⟨_, rfl, pl, _, _, _, rfl, rfl, SqL.of C3.el, atI_nat (j := 0) rfl, _, _, rfl, rfl, _, rfl, iteD (fun h2 => ⟨_, rfl, s, c, 3, rfl, C3.sg.st, by decide, by decide, fun H5 r r0 r1 st5 kp5 => ⟨rfl, _, rfl, hR' _ _ ⟨C3.kp kp5 st5, kq3.trans (Kq.kp kp5), kp5 _ _ nS.1 nS.2.1 ep3, fun _ => ⟨by omega, by omega⟩⟩⟩⟩) fun _ => hR' false _ ⟨C3, kq3, ep3, fun h => nomatch h⟩⟩) fun _ => hR' false _ ⟨C3, kq3, ep3, fun h => nomatch h⟩⟩
    · obtain ⟨C4', kq4, ep4, hpos⟩ := hb
      obtain ⟨hLp, hNp⟩ := hpos rfl
      obtain ⟨L', rfl⟩ : ∃ L', L = L' + 1 := ⟨L - 1, by omega⟩
      obtain ⟨N, rfl⟩ : ∃ N, nest = N + 1 := ⟨nest - 1, by omega⟩
      obtain ⟨m', rfl⟩ : ∃ m', m = m' + 1 := ⟨m - 1, by omega⟩
      refine ⟨_, rfl, pl, _, _, _, rfl, rfl, SqL.of C4'.el, atI_nat (j := 0) rfl, _, _, rfl, rfl, _, rfl, pl, _, _, 0, rfl, rfl, C4'.el, rfl, ?_⟩
      have C5 := C4'.setL (L' := L') (xs := List.set [V.int ((L' + 1 : Nat) : Int)] 0 (V.int (((L' + 1 : Nat) : Int) - 1))) (by
        show [V.int (((L' + 1 : Nat) : Int) - 1)] = _
        rw [show (((L' + 1 : Nat) : Int) - 1) = ((L' : Nat) : Int) by omega])
      have kq5 : Kq s c pl pn H (upd H4 pl (.lst (List.set [V.int ((L' + 1 : Nat) : Int)] 0 (V.int (((L' + 1 : Nat) : Int) - 1))))) := kq4.trans Kq.setL
      have ep5 : (upd H4 pl (.lst (List.set [V.int ((L' + 1 : Nat) : Int)] 0 (V.int (((L' + 1 : Nat) : Int) - 1))))) pc = some (.lst xs) := by rw [upd_ne nS.2.2.1]; exact ep4
      generalize upd H4 pl (.lst (List.set [V.int ((L' + 1 : Nat) : Int)] 0 (V.int (((L' + 1 : Nat) : Int) - 1)))) = H5 at C5 kq5 ep5 ⊢
      have nsl : ns.length ≤ 10 := by
        have := pm3.length_eq
        rw [List.length_append] at this
        omega
      refine ⟨_, rfl, _, rfl, _, rfl, s, c, Gc, z, v, hs, rs, 3, rfl, C5.sg, by decide, dr_sub gr3.sub dh, hh1, hh6, dr_sub gr3.sub dr, hr0, hr100, h32, fun H6 G6 x t ht hn3 sg6 gr6 kp6 dt => ?_⟩
      have C6 := C5.grow kp6 sg6 gr6
      have kq6 := kq5.trans (Kq.kp (pl := pl) (pn := pn) kp6)
      have ep6 := kp6 _ _ nS.1 nS.2.1 ep5
      have gp6 := gr6.free gp3 (by rw [ep5]; exact fun z => nomatch z)
      have grA := gr3.trans gr6 fun b h => kq5.none C5 h
      refine ⟨_, rfl, _, rfl, _, rfl, _, rfl, _, rfl, _, _, rfl, rfl, _, rfl, s, c, pl, pn, G6, z, v, hs, rs, N, L', ns, congrArg (fun q : Int => [V.ref s, z, v, .ref pn, .int q, .ref pl]) (by omega), C6, by omega, by omega, nsl, dr_sub grA.sub dh, hh1, hh6, dr_sub grA.sub dr, hr0, hr100, h32, fun H7 G7 p7 c7 L7 ns7 C7 gr7 kq7 d7 ok7 sz7 dp7 pm7 => ?_⟩
      have kqB := kq6.trans kq7
      have ep7 := kq7 _ _ nS.1 nS.2.1 nS.2.2.1 nS.2.2.2 ep6
      have gp7 := gr7.free gp6 (by rw [ep6]; exact fun z => nomatch z)
      have grB := grA.trans gr7 fun b h => kq6.none C6 h
      have nsl7 : ns7.length ≤ 10 := by
        have := pm7.length_eq
        rw [List.length_append] at this
        omega
      refine ⟨_, rfl, .inl ⟨rfl, _, SqL.of ep7⟩, _, rfl, _, rfl, _, rfl, _, rfl, _, rfl, _, rfl, _, rfl, _, _, rfl, rfl, _, rfl, s, c, pl, pn, G7, z, v, hs, rs, N, L7, ns7, congrArg (fun q : Int => [V.ref s, z, v, .ref pn, .int q, .ref pl]) (by omega), C7, by omega, by omega, nsl7, dr_sub grB.sub dh, hh1, hh6, dr_sub grB.sub dr, hr0, hr100, h32, fun H8 G8 p8 c8 L8 ns8 C8 gr8 kq8 d8 ok8 sz8 dp8 pm8 => ⟨by show 4 ≤ sizeLine; decide, fun T hT => ?_⟩⟩
      have kqC := kqB.trans kq8
      have ep8 := kq8 _ _ nS.1 nS.2.1 nS.2.2.1 nS.2.2.2 ep7
      have gp8 := gr8.free gp7 (by rw [ep7]; exact fun z => nomatch z)
      have grC := grB.trans gr8 fun b h => kqB.none C7 h
      obtain ⟨C9, gr9, kq9, s9, d9⟩ := newT4 C8 grC kqC hT (vs := [.str "if", x, .ref p7, .ref p8]) (ds := [.str "if", .tuple (ttL t), .list (ctD c7), .list (ctD c8)]) (.cons (.str _) (.cons (dr_sub (gr7.sub.trans gr8.sub) dt) (.cons (dr_sub gr8.sub d7) (.cons d8 .nil))))
      have nT : pc ≠ T := ne_of_none ep8 hT
      have ep9 := (same_new (o := .tup [V.str "if", x, .ref p7, .ref p8]) hT) _ _ ep8
      have gp9 : (upd G8 T (.tup [V.str "if", x, .ref p7, .ref p8])) pc = none := by rw [upd_ne nT]; exact gp8
      have sub38 := gr6.sub.trans (gr7.sub.trans gr8.sub)
      refine ⟨pc, _, _, rfl, rfl, ep9, small1000 (by omega), _, catC ct (.cf t c7 c8 .nil), xs ++ [.ref T], L8, ns8, _, _, _, rfl, C9.set gp9 nS, gr9, fun b o a1 a2 a3 a4 e => ?_, gp9, upd_same, ?_, ok_cat _ _ ok3 ⟨ht, hn3, ok7, ok8, trivial⟩, ?_, ?_, ?_⟩
      · rw [upd_ne (fun z => by rw [z, hpc] at e; cases e)]
        exact kq9 b o a1 a2 a3 a4 e
      · rw [ct_cat]
        exact drAll_app (drAll_sub (sub38.trans s9) d3) (.cons d9 .nil)
      · rw [sz_cat]
        show sz ct + (sz c7 + sz c8 + 0 + 1) + L8 = L0
        omega
      · rw [dpt_cat]
        show max (dpt ct) (max (max (dpt c7) (dpt c8) + 1) 0) ≤ N + 1
        omega
      · rw [aps_cat]
        show (aps ct ++ (aps c7 ++ aps c8 ++ []) ++ ns8).Perm ns0
        simp only [List.append_nil, List.append_assoc]
        exact (List.Perm.append_left _ ((List.Perm.append_left _ pm8).trans pm7)).trans pm3
    · obtain ⟨C4', kq4, ep4, _⟩ := hb
      refine by_if (fun b Hx => Hx = H4 ∧ (b = true → 0 < ns.length ∧ 0 < L)) (fun R' hR' => ?_) (fun H5 hb => ?_) (fun H5 hb => ?_)
      · refine ⟨_, rfl, pn, _, rfl, .inl (SqL.of C4'.en), _, _, rfl, rfl, _, rfl, iteD (fun h1 => ⟨_, rfl, pl, _, _, _, rfl, rfl, SqL.of C4'.el, atI_nat (j := 0) rfl, _, _, rfl, rfl, _, rfl, hR' _ _ ⟨rfl, fun h2 => ?_⟩⟩) fun _ => hR' false _ ⟨rfl, fun h => nomatch h⟩⟩
        rw [List.length_map] at h1
        have := of_decide_eq_true h2
        omega
      · obtain ⟨rfl, hpos⟩ := hb
        obtain ⟨hnp, hLp⟩ := hpos rfl
        obtain ⟨L', rfl⟩ : ∃ L', L = L' + 1 := ⟨L - 1, by omega⟩
        refine ⟨_, rfl, pl, _, _, _, rfl, rfl, SqL.of C4'.el, atI_nat (j := 0) rfl, _, _, rfl, rfl, _, rfl, pl, _, _, 0, rfl, rfl, C4'.el, rfl, ?_⟩
        have C5 := C4'.setL (L' := L') (xs := List.set [V.int ((L' + 1 : Nat) : Int)] 0 (V.int (((L' + 1 : Nat) : Int) - 1))) (by
          show [V.int (((L' + 1 : Nat) : Int) - 1)] = _
          rw [show (((L' + 1 : Nat) : Int) - 1) = ((L' : Nat) : Int) by omega])
        have kq5 : Kq s c pl pn H (upd H5 pl (.lst (List.set [V.int ((L' + 1 : Nat) : Int)] 0 (V.int (((L' + 1 : Nat) : Int) - 1))))) := kq4.trans Kq.setL
        have ep5 : (upd H5 pl (.lst (List.set [V.int ((L' + 1 : Nat) : Int)] 0 (V.int (((L' + 1 : Nat) : Int) - 1))))) pc = some (.lst xs) := by rw [upd_ne nS.2.2.1]; exact ep4
        generalize upd H5 pl (.lst (List.set [V.int ((L' + 1 : Nat) : Int)] 0 (V.int (((L' + 1 : Nat) : Int) - 1)))) = H6 at C5 kq5 ep5 ⊢
        have nsl : ns.length ≤ 10 := by
          have := pm3.length_eq
          rw [List.length_append] at this
          omega
        refine ⟨_, rfl, .inl ⟨rfl, _, SqL.of ep5⟩, _, rfl, .inl ⟨rfl, _, SqL.of C5.en⟩, _, rfl, _, rfl, pn, _, rfl, .inl (SqL.of C5.en), s, c, (((ns.map V.str).length : Nat) : Int), rfl, C5.sg.st, by rw [List.length_map]; omega, by rw [List.length_map]; omega, fun H7 r r0 r1 st7 kp7 => ?_⟩
        rw [List.length_map] at r1
        obtain ⟨j, rfl⟩ : ∃ j : Nat, r = (j : Int) := ⟨r.toNat, by omega⟩
        have hj : j < ns.length := by omega
        have C7 := C5.kp kp7 st7
        have ep7 := kp7 _ _ nS.1 nS.2.1 ep5
        have hnj := List.getElem?_eq_getElem hj
        refine ⟨pn, _, _, j, _, rfl, rfl, C7.en, by omega, by omega, seq_ix (by rw [List.length_map]; exact hj), by rw [List.getElem?_map, hnj]; rfl, by show 2 ≤ sizeLine; decide, fun T hT => ?_⟩
        have C8 := C7.setN (ns' := ns.eraseIdx j) (xs := (ns.map V.str).eraseIdx j) (map_erase ns j)
        have kq8 : Kq s c pl pn H (upd H7 pn (.lst ((ns.map V.str).eraseIdx j))) := (kq5.trans (Kq.kp (pl := pl) (pn := pn) kp7)).trans Kq.setN
        have ep8 : (upd H7 pn (.lst ((ns.map V.str).eraseIdx j))) pc = some (.lst xs) := by rw [upd_ne nS.2.2.2]; exact ep7
        generalize upd H7 pn (.lst ((ns.map V.str).eraseIdx j)) = H8 at C8 kq8 ep8 hT ⊢
        obtain ⟨C9, gr9, kq9, s9, d9⟩ := newT4 C8 gr3 kq8 hT (vs := [.str "apply", .str ns[j]]) (ds := [.str "apply", .str ns[j]]) (.cons (.str _) (.cons (.str _) .nil))
        have nT : pc ≠ T := ne_of_none ep8 hT
        have ep9 := (same_new (o := .tup [V.str "apply", .str ns[j]]) hT) _ _ ep8
        have gp9 : (upd Gc T (.tup [V.str "apply", .str ns[j]])) pc = none := by rw [upd_ne nT]; exact gp3
        refine ⟨pc, _, _, rfl, rfl, ep9, small1000 (by omega), _, catC ct (.ap ns[j] .nil), xs ++ [.ref T], L', ns.eraseIdx j, _, _, _, rfl, C9.set gp9 nS, gr9, fun b o a1 a2 a3 a4 e => ?_, gp9, upd_same, ?_, ok_cat _ _ ok3 trivial, ?_, ?_, ?_⟩
        · rw [upd_ne (fun z => by rw [z, hpc] at e; cases e)]
          exact kq9 b o a1 a2 a3 a4 e
        · rw [ct_cat]
          exact drAll_app (drAll_sub s9 d3) (.cons d9 .nil)
        · rw [sz_cat]
          show sz ct + (0 + 1) + L' = L0
          omega
        · rw [dpt_cat]
          show max (dpt ct) 0 ≤ nest
          omega
        · rw [aps_cat, List.append_assoc]
          exact (List.Perm.append_left _ (perm_erase hnj)).trans pm3
      · obtain ⟨rfl, _⟩ := hb
        exact ⟨Gc, ct, xs, L, ns, _, _, _, rfl, C4', gr3, kq4, gp3, ep4, d3, ok3, sz3, dp3, pm3⟩
end
end Pk
set_option Elab.async false
set_option linter.all false
set_option maxRecDepth 100000
set_option maxHeartbeats 4000000
namespace Pk
open PySem PySem.Spec PyProof.Rows L2 SX GxR Tk
abbrev sProg : Stmt := topS 56
abbrev NPm : List Str := ["state", "headers", "j", "meta", "refs", "actions", "k", "tables", "nested", "table", "control", "header", "emits", "states"]
theorem scProg : FnScope NPm ["state"] (defScope sProg) := ⟨rfl, rfl, rfl, by decide +kernel, rfl, by decide +kernel, by decide +kernel⟩
def pgL (nm : Str) (hs : List Hd) (m : List Fl) (sts : List Sa) (acs : List Ac) (tbs : List Tb) (ct : Ct) (em : List Str) : List PyData :=
  [.str "program", .str nm, hdsD hs, flsD m, sasD sts, acsD acs, tbsD tbs, .list (ctD ct), .list (em.map .str)]
theorem cut1 : ∀ xs : List V, cutV xs (some 1) none = xs.drop 1
  | [] => rfl
  | x :: xs => cut_from (x :: xs) 1 (Nat.succ_le_succ (Nat.zero_le _))
theorem nm_ok {k : Nat} {x : Str} (h : NmK k x) (hk : k < 10) : PyData.strOk x = true := by
  obtain ⟨a, r1, r2, rfl, ha, h1, h2, _⟩ := h
  have hl : ∀ a ∈ letters, a < 1114112 := by decide +kernel
  have hr : ∀ c ∈ runs, c < 1114112 := by decide
  show ((a :: (r1 ++ (48 + k) :: r2)).toArray.all fun x => decide (x < 1114112)) = true
  rw [List.all_toArray, List.all_eq_true]
  intro c hc
  refine decide_eq_true ?_
  rcases List.mem_cons.mp hc with rfl | hc
  · exact hl _ ha
  rcases List.mem_append.mp hc with hc | hc
  · exact hr _ (h1 c hc)
  rcases List.mem_cons.mp hc with rfl | hc
  · omega
  · exact hr _ (h2 c hc)
theorem fs_ok {fs : List Fl} (h : WfG fs) (hl : fs.length ≤ 10) {f : Fl} (hf : f ∈ fs) : PyData.strOk f.1 = true ∧ f.2 ≤ 32 := by
  obtain ⟨j, e⟩ := List.mem_iff_getElem?.mp hf
  have hj := (List.getElem?_eq_some_iff.mp e).1
  obtain ⟨h1, _, _, h4⟩ := h j f e
  exact ⟨nm_ok (h1 (by omega)) (by omega), h4⟩
theorem refs_ok {hs : List Hd} {m : List Fl} (wh : WfH hs) (h6 : hs.length ≤ 6) (wm : WfM m) : ∀ r ∈ refsOf hs m, PrOk (r.1, r.2.1) ∧ r.2.2 ≤ 32 := by
  intro r hr
  rcases List.mem_append.mp hr with hr | hr
  · rcases List.mem_cons.mp hr with rfl | hr
    · exact ⟨⟨by decide +kernel, by decide +kernel⟩, by decide⟩
    · obtain ⟨h, hh, hf⟩ := List.mem_flatMap.mp hr
      obtain ⟨f, hf2, rfl⟩ := List.mem_map.mp hf
      obtain ⟨i, ei⟩ := List.mem_iff_getElem?.mp hh
      have hi := (List.getElem?_eq_some_iff.mp ei).1
      obtain ⟨nm, wf⟩ := wh i h ei
      have := fs_ok wf.2.2.1 (Nat.le_trans wf.2.1 (by decide)) hf2
      exact ⟨⟨nm_ok nm (by omega), this.1⟩, this.2⟩
  · obtain ⟨f, hf2, rfl⟩ := List.mem_map.mp hr
    have := fs_ok wm.2 (Nat.le_trans wm.1 (by decide)) hf2
    have hm : PyData.strOk (Str.ofString "meta") = true := by decide +kernel
    exact ⟨⟨hm, this.1⟩, this.2⟩
section
variable {P : Program} {w : World} {K : PySem.W.Frag} {mg : Str → Option Value} {base : Heap}
def spPg (K : PySem.W.Frag) : Sp := fun vs H Q _ => ∃ (s c : Addr), vs = [.ref s] ∧ StAt H s c ∧
  ∀ (H' G' : Hp) (x : V) (nm : Str) (hs : List Hd) (m : List Fl) (sts : List Sa) (n : Nat) (acs : List Ac) (tbs : List Tb) (ct : Ct) (em : List Str) (n2 : Nat) (rest : List Str), Sg G' H' s c → Kp s c H H' → Dr G' x (.tuple (pgL nm hs m (sts.drop n ++ sts.take n) acs tbs ct (em.drop n2 ++ em.take n2))) →
    NmK 9 nm → WfH hs → 1 ≤ hs.length → hs.length ≤ 6 → WfM m → SasOk hs sts → n ≤ 1 → AcsOk hs (refsOf hs m) acs → 1 ≤ tbs.length → tbs.length ≤ 8 → (∀ i t, tbs[i]? = some t → TbOk (refsOf hs m) acs i t) → CtOk hs (refsOf hs m) ct → sz ct ≤ 12 → dpt ct ≤ 6 → ct ≠ .nil → (aps ct ++ rest).Perm (tbs.map Tb.name) → em.Sublist (hs.map Prod.fst) → n2 ≤ 1 → Q x H'
theorem ok_pg {f : Addr} {fd : FuncData} (F : Fun K "_law_program" "_law_program" sProg f fd) (T : Bl mg) (D1 : Df P w K mg base CX0 1 "_law_draw" ["state", "many"] spDraw) (D2 : Df P w K mg base CX0 2 "_law_pick" ["state", "row"] (spPick K)) (D3 : Df P w K mg base CX0 3 "_law_name" ["state", "k"] spNm) (D4 : Df P w K mg base CX0 5 "_law_headers" ["state"] (spHs K)) (D5 : Df P w K mg base CX0 1 "_law_refs" ["headers", "meta"] (spRs K)) (D6 : Df P w K mg base CX0 6 "_law_actions" ["state", "headers", "refs"] (spAs K))
    (D7 : Df P w K mg base CX0 4 "_law_table" ["state", "k", "actions", "refs"] (spTb K)) (D8 : Df P w K mg base CX0 14 "_law_control" PCt (spCl K 7)) (D9 : Df P w K mg base CX0 5 "_law_states" ["state", "headers"] (spSt K)) : FnOk P w K mg base CX0 15 f fd ["state"] (spPg K) := by
  obtain ⟨f1, fd1, G1, g1, k1, b1⟩ := D1.ex
  obtain ⟨f2, fd2, G2, g2, k2, b2⟩ := D2.ex
  obtain ⟨f3, fd3, G3, g3, k3, b3⟩ := D3.ex
  obtain ⟨f4, fd4, G4, g4, k4, b4⟩ := D4.ex
  obtain ⟨f5, fd5, G5, g5, k5, b5⟩ := D5.ex
  obtain ⟨f6, fd6, G6, g6, k6, b6⟩ := D6.ex
  obtain ⟨f7, fd7, G7, g7, k7, b7⟩ := D7.ex
  obtain ⟨f8, fd8, G8, g8, k8, b8⟩ := D8.ex
  obtain ⟨f9, fd9, G9, g9, k9, b9⟩ := D9.ex
  refine F.ok scProg (fun vs H Q E h => ?_) (fun cdv A outer s0 H vs Q E hr h => ?_)
  · obtain ⟨s, c, rfl, _⟩ := h
    rfl
  · obtain ⟨s, c, rfl, hS, q⟩ := h
    have nd := scProg.nd
    have hr1 : Room 1 _ := hr.mono (by omega)
    have hr2 : Room 2 _ := hr.mono (by omega)
    have hr3 : Room 3 _ := hr.mono (by omega)
    have hr4 : Room 4 _ := hr.mono (by omega)
    have hr5 : Room 5 _ := hr.mono (by omega)
    have hr6 : Room 6 _ := hr.mono (by omega)
    refine ⟨_, pss_cons (ps_set (i := 1) nd rfl (.inl rfl) (pe_call G4 hr5 (by rfl) g4 k4 b4 .nil pass0 (pa_cons (pv 0) pa_nil)))
      (pss_cons (ps_setLc (i := 3) (own := [("j", 2)]) (g := gName 2) (tt := tYes) rfl nd rfl rfl (sw_true rfl rfl rfl (by decide +kernel)) (pi_range1 (by rfl) T.zRange (pa_cons (pe_call G1 hr1 (by rfl) g1 k1 b1 .nil pass0 (pa_cons (pv 0) (pa_cons pe_int pa_nil))) pa_nil)) (blkOk_by (N := NPm) (sc := defScope sProg) (by decide +kernel)) (fun _ _ _ _ _ => pg_name (i := 2) nd rfl (Or.inl rfl)) (fun _ _ _ _ _ => pts_nil)
        (fun _ _ _ _ _ => pe_tup (pa_cons (pe_call G3 hr3 (by rfl) g3 k3 b3 .nil pass0 (pa_cons (pv 0) (pa_cons (pv 2) pa_nil))) (pa_cons (pe_op (r := rI0 fun i j => .int (i + j)) op_add pe_int (pe_call G1 hr1 (by rfl) g1 k1 b1 .nil pass0 (pa_cons (pv 0) (pa_cons pe_int pa_nil)))) pa_nil))))
      (pss_cons (ps_set (i := 4) nd rfl (.inr rfl) (pe_call G5 hr1 (by rfl) g5 k5 b5 .nil pass0 (pa_cons (pv 1) (pa_cons (pv 3) pa_nil))))
      (pss_cons (ps_set (i := 5) nd rfl (.inr rfl) (pe_call G6 hr6 (by rfl) g6 k6 b6 .nil pass0 (pa_cons (pv 0) (pa_cons (pv 1) (pa_cons (pv 4) pa_nil)))))
      (pss_cons (ps_setLc (i := 7) (own := [("k", 6)]) (g := gName 6) (tt := tYes) rfl nd rfl rfl (sw_true rfl rfl rfl (by decide +kernel)) (pi_range1 (by rfl) T.zRange (pa_cons (pe_op op_add pe_int (pe_call G1 hr1 (by rfl) g1 k1 b1 .nil pass0 (pa_cons (pv 0) (pa_cons (pe_call G2 hr2 (by rfl) g2 k2 b2 .nil pass0 (pa_cons (pv 0) (pa_cons (pe_lst (pa_cons pe_int (pa_cons pe_int (pa_cons pe_int pa_nil)))) pa_nil))) pa_nil)))) pa_nil)) (blkOk_by (N := NPm) (sc := defScope sProg) (by decide +kernel)) (fun _ _ _ _ _ => pg_name (i := 6) nd rfl (Or.inl rfl)) (fun _ _ _ _ _ => pts_nil)
        (fun _ _ _ _ _ => pe_call G7 hr4 (by rfl) g7 k7 b7 .nil pass0 (pa_cons (pv 0) (pa_cons (pv 6) (pa_cons (pv 5) (pa_cons (pv 4) pa_nil))))))
      (pss_cons (ps_set (i := 8) nd rfl (.inl rfl) (pe_call G2 hr2 (by rfl) g2 k2 b2 .nil pass0 (pa_cons (pv 0) (pa_cons (pe_lst (pa_cons pe_int (pa_cons pe_int (pa_cons pe_int (pa_cons pe_int pa_nil))))) pa_nil))))
      (pss_cons (ps_set (i := 10) nd rfl (.inl rfl) (pe_call G8 hr (by rfl) g8 k8 b8 .nil pass0 (pa_cons (pv 0) (pa_cons (pv 1) (pa_cons (pv 4) (pa_cons (pe_lc (own := [("table", 9)]) (g := gName 9) (tt := tYes) rfl nd (pi_list (pv 7)) (blkOk_by (N := NPm) (sc := defScope sProg) (by decide +kernel)) (fun _ _ _ _ _ => pg_name (i := 9) nd rfl (Or.inl rfl)) (fun _ _ _ _ _ => pts_nil) (fun _ _ _ _ _ => pe_ix (r := rIxT K) ix_tup (pv 9) pe_int (fun _ _ => rfl))) (pa_cons (pv 8) (pa_cons (pe_lst (pa_cons pe_int pa_nil)) pa_nil))))))))
      (C8.pss_cut (ps_if (pt_cmpR op_eq (pe_callB call_len_seq (by rfl) T.zLen PySem.boot_len (pa_cons (pv 10) pa_nil)) pe_int (nomark _)) (pss_one (ps_set (i := 10) nd rfl (.inl rfl) (pe_lst (pa_cons (pe_tup (pa_cons pe_str (pa_cons (pe_ix ix_tup (pe_ix ix_list (pv 7) pe_int (fun _ _ => rfl)) pe_int (fun _ _ => rfl)) pa_nil))) pa_nil)))) pss_nil)
      (pss_cons (ps_setLc (i := 12) (own := [("header", 11)]) (g := gName 11) rfl nd rfl rfl (sw_true rfl rfl rfl (by decide +kernel)) (pi_list (pv 1)) (blkOk_by (N := NPm) (sc := defScope sProg) (by decide +kernel)) (fun _ _ _ _ _ => pg_name (i := 11) nd rfl (Or.inl rfl)) (fun _ _ _ _ _ => pts_one (pt_cmpR op_gt (pe_call G1 hr1 (by rfl) g1 k1 b1 .nil pass0 (pa_cons (pv 0) (pa_cons pe_int pa_nil))) pe_int (nomark _))) (fun _ _ _ _ _ => pe_ix (r := rIxT K) ix_tup (pv 11) pe_int (fun _ _ => rfl)))
      (C8.pss_cut (ps_if (pt_cmpR op_eq (pe_call G1 hr1 (by rfl) g1 k1 b1 .nil pass0 (pa_cons (pv 0) (pa_cons pe_int pa_nil))) pe_int (nomark _)) (pss_one (ps_set (i := 12) nd rfl (.inl rfl) (pe_op op_cat (pe_slice sl_list (pv 12) (po_some pe_int) po_none) (pe_slice sl_list (pv 12) po_none (po_some pe_int))))) pss_nil)
      (pss_cons (ps_set (i := 13) nd rfl (.inl rfl) (pe_call G9 hr5 (by rfl) g9 k9 b9 .nil pass0 (pa_cons (pv 0) (pa_cons (pv 1) pa_nil))))
      (pss_one (ps_ret (pe_tup (pa_cons pe_str (pa_cons (pe_call G3 hr3 (by rfl) g3 k3 b3 .nil pass0 (pa_cons (pv 0) (pa_cons pe_int pa_nil))) (pa_cons (pv 1) (pa_cons (pv 3) (pa_cons (pv 13) (pa_cons (pv 5) (pa_cons (pv 7) (pa_cons (pv 10) (pa_cons (pv 12) pa_nil)))))))))))))))))))))), ?_⟩
    refine ⟨_, rfl, s, c, (fun _ => none), rfl, ⟨fun b o e => (nomatch e), hS, rfl, rfl⟩, fun H1 Ga p1 hs C1 gr1 kp1 d1 wf1 hh1 hh6 => ?_⟩
    have hf8 : ∀ h ∈ hs, h.2.length ≤ 8 := fun h hh => by
      obtain ⟨i, ei⟩ := List.mem_iff_getElem?.mp hh
      exact (wf1 i h ei).2.2.1
    refine ⟨_, rfl, s, c, 3, rfl, C1.st, by decide, by decide, fun H2 n n0 n1 st2 kp2 => ?_⟩
    have C2 := C1.kp kp2 st2
    have kq2 := kp1.trans kp2
    refine ⟨_, rfl, by omega, by omega, fun D hD => ?_⟩
    have gD : Ga D = none := C2.sub.free hD
    have nD := C2.st.neS hD
    refine lc_range (lo := 0) (n := n.toNat) (fun i H3 => ∃ (G3 : Hp) (m : List Fl) (xs : List V), Sg G3 H3 s c ∧ Same Ga G3 ∧ Kp s c H H3 ∧ G3 D = none ∧ H3 D = some (.lst xs) ∧ DrAll G3 xs (m.map fun f => .tuple (flL f)) ∧ m.length = i ∧ WfG m)
      ⟨Ga, [], [], C2.same (same_new hD), Same.refl _, kq2.trans (Kp.new hD), gD, upd_same, .nil, rfl, fun j f h => by cases h⟩ ?_ ?_
    · rintro i H3 hi ⟨G3, m, xs, C3, s3, kq3, gD3, e3, dx, hm, wf⟩
      have lx := drAll_len dx
      rw [List.length_map] at lx
      refine ⟨rfl, _, rfl, _, rfl, s, c, i, by rw [Int.zero_add]; rfl, C3.st, by omega, fun H4 x hx hx20 st4 kp4 => ?_⟩
      refine ⟨_, rfl, s, c, 32, rfl, st4, by decide, by decide, fun H5 r r0 r1 st5 kp5 => ⟨_, _, rfl, rfl, by show 2 ≤ sizeLine; decide, fun t ht => ?_⟩⟩
      have kp45 := kp4.trans kp5
      have C5 := C3.kp kp45 st5
      have e5 := kp45 _ _ nD.1 nD.2 e3
      obtain ⟨w', hw'⟩ : ∃ w' : Nat, 1 + r = (w' : Int) := ⟨(1 + r).toNat, by omega⟩
      dsimp only; rw [hw']
      obtain ⟨C6, gr6, kq6, s6, d6⟩ := newT C5 (Gr.refl G3 H5) (Kp.same (Same.refl H5)) ht (vs := [.str x, .int (w' : Nat)]) (ds := flL (x, w')) (.cons (.str _) (.cons (.int _) .nil))
      have nDt : D ≠ t := ne_of_none e5 ht
      have e6 := (same_new (o := .tup [V.str x, .int (w' : Nat)]) ht) _ _ e5
      have g6D : (upd G3 t (.tup [V.str x, .int (w' : Nat)])) D = none := by rw [upd_ne nDt]; exact gD3
      refine ⟨xs, e6, small1000 (by omega), _, m ++ [(x, w')], xs ++ [.ref t], C6.set g6D nD, s3.trans s6, fun b o hb hc eb => ?_, g6D, upd_same, ?_, by rw [List.length_append, hm]; rfl, wf.app (fun h => ?_) hx20 (by show 1 ≤ w'; omega) (by show w' ≤ 32; omega)⟩
      · by_cases hbD : b = D
        · subst hbD
          have : H2 b = some o := kq2 _ _ hb hc eb
          rw [hD] at this
          cases this
        · rw [upd_ne hbD]
          exact (kq3.trans (kp45.trans (Kp.new ht))) _ _ hb hc eb
      · rw [List.map_append]
        exact drAll_app (drAll_sub s6 dx) (.cons d6 .nil)
      · rw [hm] at h ⊢
        exact hx h
    rintro H3 ⟨G3, m, xs, C3, s3, kq3, gD3, e3, dx, hm, wf⟩
    have wm : WfM m := ⟨by omega, wf⟩
    have s4 := same_new2 (o := .lst xs) gD3
    have C4' := C3.frz e3 nD
    have dM : Dr (upd G3 D (.lst xs)) (.ref D) (flsD m) := .lst upd_same (drAll_sub s4 dx)
    have sA4 := s3.trans s4
    generalize upd G3 D (.lst xs) = G4' at C4' dM sA4
    refine ⟨_, rfl, _, rfl, .ref p1, .ref D, s, c, G4', hs, m, rfl, C4', dr_sub sA4 d1, dM, hh6, hf8, by omega, fun H5 G5' p5 C5 s5 t5 d5 => ?_⟩
    have kq5 := kq3.trans (Kp.same t5)
    have hro := refs_ok wf1 hh6 wm
    have hrl : (refsOf hs m).length ≤ 100 := by
      have h1 := refs_len hs hf8
      show (((Str.ofString "packet", Str.ofString "port", 3) :: (hs.flatMap hRefs)) ++ m.map _).length ≤ 100
      rw [List.length_append, List.length_cons, List.length_map]
      omega
    have hr0 : 0 < (refsOf hs m).length := Nat.succ_pos _
    refine ⟨_, rfl, _, rfl, _, rfl, s, c, G5', .ref p1, .ref p5, hs, refsOf hs m, rfl, C5, dr_sub (sA4.trans s5) d1, hh1, hh6, d5, rfl, hrl, fun H6 G6' p6 acs hac C6 gr6 kp6 d6 => ?_⟩
    have kq6 := kq5.trans kp6
    refine ⟨_, rfl, _, rfl, by show 3 ≤ sizeLine; decide, fun p7 hp7 => ?_⟩
    have n7 := C6.st.neS hp7
    refine ⟨s, c, p7, _, rfl, C6.st.new hp7, SqL.of upd_same, n7.1, n7.2, (by show 0 < 3; decide), (by show 3 ≤ 1000; decide), fun H7 i7 x7 hx7 st7 kp7 => ?_⟩
    obtain ⟨mm, hmm, rfl⟩ := pick_ints (ns := [3, 3, 8]) hx7
    have hmb : 1 ≤ mm ∧ mm ≤ 8 := by
      simp only [List.mem_cons, List.not_mem_nil, or_false] at hmm
      omega
    refine ⟨s, c, mm, rfl, st7, by omega, by omega, fun H8 r r0 r1 st8 kp8 => ⟨_, _, rfl, rfl, _, rfl, by omega, by omega, fun D2 hD2 => ?_⟩⟩
    have kp68 := ((Kp.new hp7).trans kp7).trans kp8
    have C8' := C6.kp kp68 st8
    have kq8 := kq6.trans kp68
    have gD2 : G6' D2 = none := C8'.sub.free hD2
    have nD2 := C8'.st.neS hD2
    refine lc_range (lo := 0) (n := (1 + r).toNat) (fun i H9 => ∃ (G9 : Hp) (tbs : List Tb) (xs : List V), Sg G9 H9 s c ∧ Same G6' G9 ∧ Kp s c H H9 ∧ G9 D2 = none ∧ H9 D2 = some (.lst xs) ∧ DrAll G9 xs (tbs.map fun t => .tuple (tbL t)) ∧ tbs.length = i ∧ ∀ (j : Nat) (t : Tb), tbs[j]? = some t → TbOk (refsOf hs m) acs j t)
      ⟨G6', [], [], C8'.same (same_new hD2), Same.refl _, kq8.trans (Kp.new hD2), gD2, upd_same, .nil, rfl, fun j t h => by cases h⟩ ?_ ?_
    · rintro i H9 hi ⟨G9', tbs, xs, C9, s9, kq9, g9D, e9, dx9, htl, htb⟩
      have lx := drAll_len dx9
      rw [List.length_map] at lx
      refine ⟨rfl, _, rfl, _, rfl, _, rfl, _, rfl, s, c, G9', i, .ref p6, .ref p5, hs, refsOf hs m, acs, by rw [Int.zero_add]; rfl, C9, by omega, dr_sub s9 d6, hac, dr_sub (gr6.sub.trans s9) d5, hr0, hrl, fun r hr => (hro r hr).1, fun H10 G10 x t ht C10 gr10 kp10 dt => ?_⟩
      have g10D := gr10.free g9D (by rw [e9]; exact fun z => nomatch z)
      have e10 := kp10 _ _ nD2.1 nD2.2 e9
      refine ⟨xs, e10, small1000 (by omega), G10, tbs ++ [t], xs ++ [x], C10.set g10D nD2, s9.trans gr10.sub, fun b o hb hc eb => ?_, g10D, upd_same, ?_, by rw [List.length_append, htl]; rfl, fun j t' h => ?_⟩
      · have hbD : b ≠ D2 := fun z => by
          have := kq8 _ _ hb hc eb
          rw [z, hD2] at this
          cases this
        rw [upd_ne hbD]
        exact kp10 _ _ hb hc (kq9 _ _ hb hc eb)
      · rw [List.map_append]
        exact drAll_app (drAll_sub gr10.sub dx9) (.cons dt .nil)
      · rcases Nat.lt_or_ge j tbs.length with h' | h'
        · rw [List.getElem?_append_left h'] at h
          exact htb j t' h
        · rw [List.getElem?_append_right h'] at h
          obtain ⟨hlt, _⟩ := List.getElem?_eq_some_iff.mp h
          have : j = i := by
            have : j - tbs.length < 1 := hlt
            omega
          subst this
          rw [htl, Nat.sub_self] at h
          cases h
          exact ht
    rintro H9 ⟨G9', tbs, xs, C9, s9, kq9, g9D, e9, dx9, htl, htb⟩
    have s10 := same_new2 (o := .lst xs) g9D
    have C10 := C9.frz e9 nD2
    have dTb : Dr (upd G9' D2 (.lst xs)) (.ref D2) (tbsD tbs) := .lst upd_same (drAll_sub s10 dx9)
    have tT : SqL K (upd G9' D2 (.lst xs)) D2 xs := SqL.of upd_same
    have dxT := drAll_sub s10 dx9
    have lxT := drAll_len dxT
    rw [List.length_map] at lxT
    have s610 := s9.trans s10
    generalize upd G9' D2 (.lst xs) = G10' at C10 dTb s610 tT dxT
    have ht1 : 1 ≤ tbs.length ∧ tbs.length ≤ 8 := by omega
    refine ⟨_, rfl, by show 4 ≤ sizeLine; decide, fun p12 hp12 => ?_⟩
    have n12 := C10.st.neS hp12
    refine ⟨s, c, p12, _, rfl, C10.st.new hp12, SqL.of upd_same, n12.1, n12.2, (by show 0 < 4; decide), (by show 4 ≤ 1000; decide), fun H12 i12 x12 hx12 st12 kp12 => ?_⟩
    obtain ⟨nn, hnn, rfl⟩ := pick_ints (ns := [1, 2, 2, 6]) hx12
    obtain ⟨nst, rfl, hnst⟩ : ∃ nst : Nat, nn = (nst : Int) ∧ nst ≤ 6 := by
      simp only [List.mem_cons, List.not_mem_nil, or_false] at hnn
      exact ⟨nn.toNat, by omega, by omega⟩
    have kp912 := (Kp.new hp12).trans kp12
    have C12 := C10.kp kp912 st12
    have kq12 := kq9.trans kp912
    refine ⟨_, rfl, _, rfl, _, rfl, _, rfl, D2, rfl, ⟨_, sqL_sub C12.sub tT⟩, fun D3 hD3 => lc_list (K := K) (a := D2) (xs := xs) (fun i H13 => Same H12 H13 ∧ H13 D3 = some (.lst (((tbs.map Tb.name).take i).map V.str))) ⟨same_new hD3, upd_same⟩ (fun i H13 _ h => sqL_sub (C12.sub.trans h.1) tT) ?_ ?_⟩
    · rintro i y H13 hy ⟨s13, e13⟩
      obtain ⟨d, ed, hd⟩ := drAll_val dxT hy
      rw [List.getElem?_map] at ed
      obtain ⟨tb, etb, ed'⟩ := Option.map_eq_some_iff.mp ed
      subst ed'
      obtain ⟨pt, zs, rfl, t1, t2⟩ := dr_tup hd
      obtain ⟨z0, r, rfl, n0', t2⟩ := drAll_cons t2
      obtain ⟨z1, r, rfl, n1', t2⟩ := drAll_cons t2
      obtain rfl := dr_str n1'
      have hil := (List.getElem?_eq_some_iff.mp etb).1
      refine ⟨rfl, _, rfl, pt, _, _, _, rfl, rfl, sqT_subz (C12.sub.trans s13) t1, atI_nat (j := 1) rfl, _, e13, ?_, same_set s13 hD3, ?_⟩
      · rw [List.length_map, List.length_take]
        exact small1000 (by rw [List.length_map]; omega)
      · rw [upd_same, List.take_add_one, List.getElem?_map, etb, List.map_append]
        rfl
    rintro H13 ⟨s13, e13⟩
    rw [List.take_of_length_le (by rw [List.length_map]; omega)] at e13
    have C13 := C12.same s13
    have n13 := C12.st.neS hD3
    have g13 : G10' D3 = none := C12.sub.free hD3
    refine ⟨_, rfl, by show 1 ≤ sizeLine; decide, fun p14 hp14 => ?_⟩
    have n14 := C13.st.neS hp14
    have g14 : G10' p14 = none := C13.sub.free hp14
    have s14 := same_new (o := .lst [V.int 12]) hp14
    have C14 : C4 G10' (upd H13 p14 (.lst [V.int 12])) s c p14 D3 12 (tbs.map Tb.name) := ⟨C13.same s14, g14, g13, upd_same, s14 _ _ e13, n14, n13, Ne.symm (ne_of_none e13 hp14)⟩
    have kq14 : Kp s c H (upd H13 p14 (.lst [V.int 12])) := kq12.trans (Kp.same (s13.trans s14))
    have hD3H : H D3 = none := kp_none kq12 C12.st hD3
    have h14H : H p14 = none := kp_none (kq12.trans (Kp.same s13)) C13.st hp14
    generalize upd H13 p14 (.lst [V.int 12]) = H14 at C14 kq14
    have sAll := (sA4.trans s5).trans (gr6.sub.trans s610)
    refine ⟨s, c, p14, D3, G10', .ref p1, .ref p5, hs, refsOf hs m, nst, 12, tbs.map Tb.name, rfl, C14, hnst, by decide, by rw [List.length_map]; omega, dr_sub sAll d1, hh1, hh6, dr_sub (gr6.sub.trans s610) d5, hr0, hrl, fun r hr => (hro r hr).2, fun H15 G15 pc ct L15 ns15 C15 gr15 kq15 dct okc szc dpc pmc => ?_⟩
    have kp15 : Kp s c H H15 := fun b o hb hc e => kq15 b o hb hc (fun z => by rw [z, h14H] at e; cases e) (fun z => by rw [z, hD3H] at e; cases e) (kq14 b o hb hc e)
    obtain ⟨pc', xc, epc, c1, c2⟩ := dr_lst dct
    cases epc
    have lcx := drAll_len c2
    have s15 := gr15.sub
    have htm : ∃ t0 tl, tbs = t0 :: tl := by
      cases tbs with
      | nil => exact absurd ht1.1 (by decide)
      | cons t0 tl => exact ⟨t0, tl, rfl⟩
    obtain ⟨t0, tl, htbs⟩ := htm
    refine ⟨fun σ H16 => ∃ (G16 : Hp) (pc' : Addr) (ct' : Ct) (rest : List Str) (o2 o6 o8 o9 ob oc od : Option V), σ = [some (.ref s), some (.ref p1), o2, some (.ref D), some (.ref p5), some (.ref p6), o6, some (.ref D2), o8, o9, some (.ref pc'), ob, oc, od] ∧ Sg G16 H16 s c ∧ Same G10' G16 ∧ Kp s c H H16 ∧ Dr G16 (.ref pc') (.list (ctD ct')) ∧ CtOk hs (refsOf hs m) ct' ∧ sz ct' ≤ 12 ∧ dpt ct' ≤ 6 ∧ ct' ≠ .nil ∧ (aps ct' ++ rest).Perm (tbs.map Tb.name), ?_, ?_⟩
    · refine ⟨_, rfl, pc, xc, rfl, .inl (sqL_subz C15.sg.sub c1), rfl, _, rfl, ?_⟩
      rw [dcInt]
      refine iteD (fun hz => ?_) fun hz => ⟨G15, pc, ct, ns15, _, _, _, _, _, _, _, rfl, C15.sg, s15, kp15, dct, okc, by omega, by omega, fun e => ?_, pmc⟩
      · obtain ⟨y0, ey0, hy0⟩ := drAll_at dxT (i := 0) (d := .tuple (tbL t0)) (by rw [htbs]; rfl)
        obtain ⟨pt, zs, rfl, t1, t2⟩ := dr_tup hy0
        obtain ⟨z0, r, rfl, n0', t2⟩ := drAll_cons t2
        obtain ⟨z1, r, rfl, n1', t2⟩ := drAll_cons t2
        obtain rfl := dr_str n1'
        have sT15 := s15.trans C15.sg.sub
        refine ⟨_, rfl, D2, _, _, _, rfl, rfl, sqL_sub sT15 tT, atI_nat (j := 0) ey0, pt, _, _, _, rfl, rfl, sqT_subz sT15 t1, atI_nat (j := 1) rfl, by show 2 ≤ sizeLine; decide, fun T hT => ⟨by show 1 ≤ sizeLine; decide, fun l hl => ?_⟩⟩
        obtain ⟨A1, A2, A3, A4, A5⟩ := newT C15.sg (Gr.refl G15 H15) (Kp.same (Same.refl H15)) hT (vs := [.str "apply", .str t0.name]) (ds := [.str "apply", .str t0.name]) (.cons (.str _) (.cons (.str _) .nil))
        have gl := A1.sub.free hl
        exact ⟨_, l, .ap t0.name .nil, tl.map Tb.name, _, _, _, _, _, _, _, rfl, A1.new hl, (s15.trans A4).trans (same_new2 gl), kp15.trans (A3.trans (Kp.new hl)), .lst upd_same (.cons (dr_sub (same_new2 gl) A5) .nil), trivial, (by show 0 + 1 ≤ 12; decide), (by show 0 ≤ 6; decide), (fun e => by cases e), by rw [htbs]; exact List.Perm.refl _⟩
      · subst e
        have : xc.length = 0 := lcx
        omega
    rintro σ H16 ⟨G16, pc2, ct', rest, o2, o6, o8, o9, ob, oc, od, rfl, C16, s16, kp16, dct', okc', szc', dpc', hne', pmc'⟩
    obtain ⟨p1', xh, ep1, b1', b2'⟩ := dr_lst d1
    cases ep1
    have lh := drAll_len b2'
    rw [List.length_map] at lh
    have sH16 := sAll.trans s16
    refine ⟨_, rfl, p1, rfl, ⟨_, sqL_subz (sH16.trans C16.sub) b1'⟩, fun D5 hD5 => ?_⟩
    have gD5 : G16 D5 = none := C16.sub.free hD5
    have nD5 := C16.st.neS hD5
    have hD5H : H D5 = none := kp_none kp16 C16.st hD5
    refine lc_list (K := K) (a := p1) (xs := xh) (fun i H17 => Sg G16 H17 s c ∧ Kp s c H H17 ∧ ∃ em : List Str, H17 D5 = some (.lst (em.map V.str)) ∧ em.Sublist ((hs.map Prod.fst).take i))
      ⟨C16.same (same_new hD5), kp16.trans (Kp.new hD5), [], upd_same, List.nil_sublist _⟩ (fun i H17 _ h => sqL_subz (sH16.trans h.1.sub) b1') ?_ ?_
    · rintro i y H17 hy ⟨C17, kp17, em, e17, hem⟩
      obtain ⟨d, ed, hd⟩ := drAll_val b2' hy
      rw [List.getElem?_map] at ed
      obtain ⟨h, eh, ed'⟩ := Option.map_eq_some_iff.mp ed
      subst ed'
      obtain ⟨pt, zs, rfl, t1, t2⟩ := dr_tup hd
      obtain ⟨z0, r, rfl, n0', t2⟩ := drAll_cons t2
      obtain ⟨z1, r, rfl, n1', t2⟩ := drAll_cons t2
      obtain rfl := dr_str n1'
      have hil := (List.getElem?_eq_some_iff.mp eh).1
      have eml : em.length ≤ 6 := by
        have := hem.length_le
        rw [List.length_take, List.length_map] at this
        omega
      have htk : (hs.map Prod.fst).take (i + 1) = (hs.map Prod.fst).take i ++ [h.1] := by
        rw [List.take_add_one, List.getElem?_map, eh]
        rfl
      refine ⟨rfl, _, rfl, s, c, 6, rfl, C17.st, by decide, by decide, fun H18 r r0 r1 st18 kp18 => ⟨_, _, rfl, rfl, _, rfl, ?_⟩⟩
      have C18 := C17.kp kp18 st18
      have e18 := kp18 _ _ nD5.1 nD5.2 e17
      refine iteD (fun _ => ⟨_, rfl, pt, _, _, _, rfl, rfl, sqT_subz (sH16.trans C18.sub) t1, atI_nat (j := 1) rfl, _, e18, small1000 (by rw [List.length_map]; omega), C18.set gD5 nD5, fun b o hb hc eb => ?_, em ++ [h.1], by rw [upd_same, List.map_append]; rfl, ?_⟩) fun _ => ⟨C18, kp17.trans kp18, em, e18, ?_⟩
      · rw [upd_ne (fun z => by rw [z, hD5H] at eb; cases eb)]
        exact kp18 _ _ hb hc (kp17 _ _ hb hc eb)
      · rw [htk]
        exact hem.append (List.Sublist.refl _)
      · rw [htk]
        exact hem.trans (List.sublist_append_left _ _)
    rintro H17 ⟨C17, kp17, em, e17, hem⟩
    rw [List.take_of_length_le (by rw [List.length_map]; omega)] at hem
    have eml : em.length ≤ 6 := by
      have := hem.length_le
      rw [List.length_map] at this
      omega
    have s17 := same_new2 (o := .lst (em.map V.str)) gD5
    have CF := C17.frz e17 nD5
    have eF : SqL K (upd G16 D5 (.lst (em.map V.str))) D5 (em.map V.str) := SqL.of upd_same
    have dF : Dr (upd G16 D5 (.lst (em.map V.str))) (.ref D5) (.list (em.map .str)) := .lst upd_same (drAll_of_strs em)
    generalize upd G16 D5 (.lst (em.map V.str)) = GF at CF eF dF s17
    refine ⟨fun σ Hx => ∃ (px : Addr) (n2 : Nat) (G2 : Hp) (o2 o6 o8 o9 ob od : Option V), σ = [some (.ref s), some (.ref p1), o2, some (.ref D), some (.ref p5), some (.ref p6), o6, some (.ref D2), o8, o9, some (.ref pc2), ob, some (.ref px), od] ∧ n2 ≤ 1 ∧ Sg G2 Hx s c ∧ Same GF G2 ∧ Kp s c H Hx ∧ Dr G2 (.ref px) (.list ((em.drop n2 ++ em.take n2).map .str)), ?_, ?_⟩
    · refine ⟨_, rfl, s, c, 4, rfl, CF.st, by decide, by decide, fun H2 r2 r20 r21 st2 kp2 => ⟨rfl, _, rfl, ?_⟩⟩
      have C2 := CF.kp kp2 st2
      have kq2 := kp17.trans kp2
      rw [dcInt]
      refine iteD (fun _ => ?_) fun _ => ⟨D5, 0, GF, _, _, _, _, _, _, rfl, by decide, C2, Same.refl _, kq2, by rw [List.drop_zero, List.take_zero, List.append_nil]; exact dF⟩
      refine ⟨_, rfl, _, rfl, D5, _, rfl, sqL_sub C2.sub eF, fun la hla => ?_⟩
      rw [cut1]
      have sa := same_new (o := .lst ((em.map V.str).drop 1)) hla
      have ea := (upd_same (H := H2) (a := la) (o := .lst ((em.map V.str).drop 1)))
      have Ca := C2.same sa
      have kqa := kq2.trans (Kp.same sa)
      generalize upd H2 la (.lst ((em.map V.str).drop 1)) = Ha at sa ea Ca kqa ⊢
      refine ⟨_, rfl, _, rfl, D5, _, rfl, sqL_sub Ca.sub eF, fun lb hlb => ?_⟩
      rw [show (1 : Int) = ((1 : Nat) : Int) from rfl, cut_to]
      have sb := same_new (o := .lst ((em.map V.str).take 1)) hlb
      have eb := (upd_same (H := Ha) (a := lb) (o := .lst ((em.map V.str).take 1)))
      have Cb := Ca.same sb
      have kqb := kqa.trans (Kp.same sb)
      have ea2 := sb _ _ ea
      generalize upd Ha lb (.lst ((em.map V.str).take 1)) = Hb at sb eb Cb kqb ea2 ⊢
      refine ⟨la, lb, _, _, rfl, rfl, ea2, eb, Nat.le_of_lt (small1000 (by rw [List.length_drop, List.length_take, List.length_map]; omega)), fun lc hlc => ?_⟩
      have gl := Cb.sub.free hlc
      refine ⟨lc, 1, _, _, _, _, _, _, _, rfl, Nat.le_refl _, Cb.new hlc, same_new2 gl, kqb.trans (Kp.new hlc), .lst upd_same ?_⟩
      have := drAll_of_strs (G := upd GF lc (.lst ((em.map V.str).drop 1 ++ (em.map V.str).take 1))) (em.drop 1 ++ em.take 1)
      rw [List.map_append, List.map_drop, List.map_take] at this
      rw [List.map_append, List.map_drop, List.map_take]
      rw [List.map_append, List.map_drop, List.map_take] at this
      exact this
    rintro σ H18 ⟨px, n2, G18, o2, o6, o8, o9, ob, od, rfl, hn2, C18, s18, kp18, dpx⟩
    have sGF := (s17.trans s18)
    have sH18 := sH16.trans sGF
    refine ⟨_, rfl, _, rfl, s, c, G18, .ref p1, hs, rfl, C18, dr_sub sH18 d1, wf1, hh1, hh6, fun H19 G19 p13 sts n C19 gr19 kp19 dst hn1 hsa => ?_⟩
    have kq19 := kp18.trans kp19
    refine ⟨_, rfl, s, c, 9, rfl, C19.st, by decide, fun H20 nm hnm hnml st20 kp20 => ⟨_, rfl, _, rfl, _, rfl, _, rfl, _, rfl, _, rfl, _, rfl, by show 9 ≤ sizeLine; decide, fun T hT => ?_⟩⟩
    have C20 := C19.kp kp20 st20
    have kq20 := kq19.trans kp20
    have s19 := gr19.sub
    have sA19 := sH18.trans s19
    have sM19 := ((s5.trans (gr6.sub.trans s610)).trans s16).trans (sGF.trans s19)
    have s619 := (s610.trans s16).trans (sGF.trans s19)
    have s1019 := s16.trans (sGF.trans s19)
    obtain ⟨E1, E2, E3, E4, E5⟩ := newT C20 (Gr.refl G19 H20) (Kp.same (Same.refl H20)) hT (vs := [.str "program", .str nm, .ref p1, .ref D, .ref p13, .ref p6, .ref D2, .ref pc2, .ref px]) (ds := pgL nm hs m (sts.drop n ++ sts.take n) acs tbs ct' (em.drop n2 ++ em.take n2))
      (.cons (.str _) (.cons (.str _) (.cons (dr_sub sA19 d1) (.cons (dr_sub sM19 dM) (.cons dst (.cons (dr_sub s619 d6) (.cons (dr_sub s1019 dTb) (.cons (dr_sub (sGF.trans s19) dct') (.cons (dr_sub s19 dpx) .nil)))))))))
    exact q _ _ _ nm hs m sts n acs tbs ct' em n2 rest E1 (kq20.trans E3) E5 (hnm (by decide)) wf1 hh1 hh6 wm hsa hn1 hac ht1.1 ht1.2 htb okc' szc' dpc' hne' pmc' hem hn2
end
end Pk
set_option Elab.async false
set_option linter.all false
set_option maxRecDepth 100000
set_option maxHeartbeats 4000000
namespace Pk
open PySem PySem.Spec PyProof.Rows L2 SX GxR Tk
abbrev sHeadersOf : Stmt := topS 7
abbrev sMetaOf : Stmt := topS 8
abbrev sCells : Stmt := topS 18
theorem sc_headersOf : FnScope ["program"] ["program"] (defScope sHeadersOf) := ⟨rfl, rfl, rfl, by decide +kernel, rfl, by decide +kernel, by decide +kernel⟩
theorem sc_metaOf : FnScope ["program"] ["program"] (defScope sMetaOf) := ⟨rfl, rfl, rfl, by decide +kernel, rfl, by decide +kernel, by decide +kernel⟩
abbrev NCe : List Str := ["program", "cells", "_", "header", "fields", "name", "width"]
theorem scCells : FnScope NCe ["program"] (defScope sCells) := ⟨rfl, rfl, rfl, by decide +kernel, rfl, by decide +kernel, by decide +kernel⟩
/-- what the module's names hold -/
structure Gc13 (K : PySem.W.Frag) (mg : Str → Option Value) : Prop where
  PORT : ∃ p, mg "PORT" = some (.ref p) ∧ TupK K p [.str "packet", .str "port"]
  PW : ∃ u, mg "PORT_WIDTH" = some u ∧ RelV (.int 3) u
  OW : ∃ u, mg "OUT_WIDTH" = some u ∧ RelV (.int 4) u
def cellD (x : PyData × Nat) : PyData := .tuple [x.1, .int (x.2 : Nat)]
def hCells (h : Hd) : List (PyData × Nat) := (.str h.1, 1) :: h.2.map fun f => (.tuple [.str h.1, .str f.1], f.2)
def mCells (m : List Fl) : List (PyData × Nat) := m.map fun f => (.tuple [.str "meta", .str f.1], f.2)
def cellsL (hs : List Hd) (m : List Fl) : List (PyData × Nat) := (.tuple [.str "packet", .str "port"], 3) :: (.none, 4) :: (hs.flatMap hCells ++ mCells m)
section
variable {P : Program} {w : World} {K : PySem.W.Frag} {mg : Str → Option Value} {base : Heap}
theorem acc13 {v : V} {G H : Hp} {ds : List PyData} {d : PyData} {i : Nat} {Q : VK} (s : Same G H) (h : Dp K G v (.tuple ds)) (e : ds[i]? = some d) (q : ∀ x, Dp K G x d → Q x H) :
    ∃ p xs, v = .ref p ∧ SqT K H p xs ∧ ∃ x, xs[i]? = some x ∧ Dp K G x d ∧ Q x H := by
  obtain ⟨p, xs, rfl, h1, h2⟩ := dp_tup h
  obtain ⟨x, e1, e2⟩ := dpAll_at h2 e
  exact ⟨p, xs, rfl, sqT_sub s h1, x, e1, e2, q x e2⟩
theorem ok_headersOf {f : Addr} {fd : FuncData} {k : Nat} (F : Fun K "headers_of" "headers_of" sHeadersOf f fd) : FnOk P w K mg base CX0 (k + 1) f fd ["program"] (spAcc K 2) := by
  refine F.ok sc_headersOf (fun vs H Q E h => ?_) (fun cdv A outer s H vs Q E hr h => ?_)
  · obtain ⟨v, G, ds, d, rfl, _⟩ := h
    rfl
  · obtain ⟨v, G, ds, d, rfl, sG, hD, e, q⟩ := h
    obtain ⟨p, xs, rfl, h1, x, e1, e2, hq⟩ := acc13 sG hD e q
    refine ⟨_, pss_one (ps_ret (pe_ix ix_tup (pv 0) pe_int (fun _ _ => rfl))), _, rfl, p, _, _, _, rfl, rfl, h1, atI_nat (j := 2) e1, hq⟩
theorem ok_metaOf {f : Addr} {fd : FuncData} {k : Nat} (F : Fun K "meta_of" "meta_of" sMetaOf f fd) : FnOk P w K mg base CX0 (k + 1) f fd ["program"] (spAcc K 3) := by
  refine F.ok sc_metaOf (fun vs H Q E h => ?_) (fun cdv A outer s H vs Q E hr h => ?_)
  · obtain ⟨v, G, ds, d, rfl, _⟩ := h
    rfl
  · obtain ⟨v, G, ds, d, rfl, sG, hD, e, q⟩ := h
    obtain ⟨p, xs, rfl, h1, x, e1, e2, hq⟩ := acc13 sG hD e q
    refine ⟨_, pss_one (ps_ret (pe_ix ix_tup (pv 0) pe_int (fun _ _ => rfl))), _, rfl, p, _, _, _, rfl, rfl, h1, atI_nat (j := 3) e1, hq⟩
end
end Pk
set_option Elab.async false
set_option linter.all false
set_option maxRecDepth 100000
set_option maxHeartbeats 4000000
namespace Pk
open PySem PySem.Spec PyProof.Rows L2 SX GxR Tk
/-- a list under work, of data that stands -/
structure Wk (K : PySem.W.Frag) (H0 G H : Hp) (pc : Addr) (xs : List V) (ds : List PyData) : Prop where
  a : Same H0 G
  b : Same G H
  g : G pc = none
  e : H pc = some (.lst xs)
  d : DpAll K G xs ds
theorem same_both2 {G H : Hp} {T : Addr} {o : HO} (k : Same G H) : Same (upd G T o) (upd H T o) := fun b u h => by
  by_cases hb : b = T
  · rw [hb, upd_same] at h
    rw [hb, upd_same]
    exact h
  · rw [upd_ne hb] at h
    rw [upd_ne hb]
    exact k _ _ h
theorem Wk.tup {K : PySem.W.Frag} {H0 G H : Hp} {pc T : Addr} {xs vs : List V} {ds es : List PyData} (W : Wk K H0 G H pc xs ds) (hT : H T = none) (hd : DpAll K G vs es) :
    Wk K H0 (upd G T (.tup vs)) (upd H T (.tup vs)) pc xs ds ∧ Same G (upd G T (.tup vs)) ∧ Dp K (upd G T (.tup vs)) (.ref T) (.tuple es) := by
  have gT : G T = none := W.b.free hT
  have nT : pc ≠ T := ne_of_none W.e hT
  have s := same_new2 (o := .tup vs) gT
  exact ⟨⟨W.a.trans s, same_both2 W.b, by rw [upd_ne nT]; exact W.g, by rw [upd_ne nT]; exact W.e, dpAll_sub s W.d⟩, s, .tup (SqT.of upd_same) (dpAll_sub s hd)⟩
theorem Wk.put {K : PySem.W.Frag} {H0 G H : Hp} {pc : Addr} {xs : List V} {ds : List PyData} {y : V} {d : PyData} (W : Wk K H0 G H pc xs ds) (hd : Dp K G y d) : Wk K H0 G (upd H pc (.lst (xs ++ [y]))) pc (xs ++ [y]) (ds ++ [d]) :=
  ⟨W.a, same_set W.b W.g, W.g, upd_same, dpAll_app W.d (.cons hd .nil)⟩
def fC (h : Str) (f : Fl) : PyData × Nat := (.tuple [.str h, .str f.1], f.2)
def c2L : List (PyData × Nat) := [(.tuple [.str "packet", .str "port"], 3), (.none, 4)]
theorem dp_port13 {K : PySem.W.Frag} {H : Hp} {po : Addr} (tp : TupK K po [.str "packet", .str "port"]) : Dp K H (.ref po) (.tuple [.str "packet", .str "port"]) := .tup (.inr tp) (.cons (.str _) (.cons (.str _) .nil))
section
variable {P : Program} {w : World} {K : PySem.W.Frag} {mg : Str → Option Value} {base : Heap}
def spCells (K : PySem.W.Frag) : Sp := fun vs H Q _ => ∃ (v : V) (G : Hp) (nm : Str) (hs : List Hd) (m : List Fl) (sts : List Sa) (acs : List Ac) (tbs : List Tb) (ct : Ct) (em : List Str), vs = [v] ∧ Same G H ∧ Dp K G v (.tuple (pgL nm hs m sts acs tbs ct em)) ∧ hs.length ≤ 6 ∧ (∀ h ∈ hs, h.2.length ≤ 8) ∧ m.length ≤ 10 ∧
  ∀ (H' G' : Hp) (p : Addr), Same H G' → Same G' H' → Dp K G' (.ref p) (.list ((cellsL hs m).map cellD)) → Q (.ref p) H'
theorem ok_cells {f : Addr} {fd : FuncData} {k : Nat} (F : Fun K "cells_of" "cells_of" sCells f fd) (T : Gc13 K mg) (D1 : Df P w K mg base CX0 (k + 1) "headers_of" ["program"] (spAcc K 2)) (D2 : Df P w K mg base CX0 (k + 1) "meta_of" ["program"] (spAcc K 3)) : FnOk P w K mg base CX0 (k + 2) f fd ["program"] (spCells K) := by
  obtain ⟨f1, fd1, G1, g1, k1, b1⟩ := D1.ex
  obtain ⟨f2, fd2, G2, g2, k2, b2⟩ := D2.ex
  obtain ⟨po, gp, tp⟩ := T.PORT
  obtain ⟨uw, gw, rw_⟩ := T.PW
  obtain ⟨uo, go_, ro⟩ := T.OW
  refine F.ok scCells (fun vs H Q E h => ?_) (fun cdv A outer s0 H vs Q E hr h => ?_)
  · obtain ⟨v, G, nm, hs, m, sts, acs, tbs, ct, em, rfl, _⟩ := h
    rfl
  · obtain ⟨v, G, nm, hs, m, sts, acs, tbs, ct, em, rfl, sG, hD, hh6, hf8, hm10, q⟩ := h
    have nd := scCells.nd
    refine ⟨_, pss_cons (ps_set (i := 1) nd rfl (.inl rfl) (pe_lst (pa_cons (pe_tup (pa_cons (pe_glob (v := .ref po) rfl gp rfl) (pa_cons (pe_glob rfl gw rw_) pa_nil))) (pa_cons (pe_tup (pa_cons pe_non (pa_cons (pe_glob rfl go_ ro) pa_nil))) pa_nil))))
      (pss_cons (ps_for PassesOwn.never rfl (pi_list (pe_call G1 hr (by rfl) g1 k1 b1 .nil pass0 (pa_cons (pv 0) pa_nil))) (pg_tup rfl (pgs_cons (pg_name (i := 2) nd rfl (.inl rfl)) (pgs_cons (pg_name (i := 3) nd rfl (.inl rfl)) (pgs_cons (pg_name (i := 4) nd rfl (.inl rfl)) pgs_nil))))
        (pss_cons (ps_expr (pe_bm PySem.F.plainAttrs_list PySem.F.slot_list_append PySem.F.type_list_append mt_append (pv 1) (pa_cons (pe_tup (pa_cons (pv 3) (pa_cons pe_int pa_nil))) pa_nil)))
        (pss_one (ps_for PassesOwn.never rfl (pi_list (pv 4)) (pg_tup rfl (pgs_cons (pg_name (i := 5) nd rfl (.inl rfl)) (pgs_cons (pg_name (i := 6) nd rfl (.inl rfl)) pgs_nil)))
          (pss_one (ps_expr (pe_bm PySem.F.plainAttrs_list PySem.F.slot_list_append PySem.F.type_list_append mt_append (pv 1) (pa_cons (pe_tup (pa_cons (pe_tup (pa_cons (pv 3) (pa_cons (pv 5) pa_nil))) (pa_cons (pv 6) pa_nil))) pa_nil))))))))
      (pss_cons (ps_for PassesOwn.never rfl (pi_list (pe_call G2 hr (by rfl) g2 k2 b2 .nil pass0 (pa_cons (pv 0) pa_nil))) (pg_tup rfl (pgs_cons (pg_name (i := 5) nd rfl (.inl rfl)) (pgs_cons (pg_name (i := 6) nd rfl (.inl rfl)) pgs_nil)))
        (pss_one (ps_expr (pe_bm PySem.F.plainAttrs_list PySem.F.slot_list_append PySem.F.type_list_append mt_append (pv 1) (pa_cons (pe_tup (pa_cons (pe_tup (pa_cons pe_str (pa_cons (pv 5) pa_nil))) (pa_cons (pv 6) pa_nil))) pa_nil)))))
      (pss_one (ps_ret (pv 1))))), ?_⟩
    refine ⟨by show 2 ≤ sizeLine; decide, fun ta hta => ⟨by show 2 ≤ sizeLine; decide, fun tb htb => ⟨by show 2 ≤ sizeLine; decide, fun pc hpc => ?_⟩⟩⟩
    have sa := same_new (o := .tup [V.ref po, .int 3]) hta
    have sb := same_new (o := .tup [V.non, .int 4]) htb
    have ea := sb _ _ (upd_same (H := H) (a := ta) (o := .tup [V.ref po, .int 3]))
    have W0 : Wk K H (upd (upd H ta (.tup [.ref po, .int 3])) tb (.tup [.non, .int 4])) (upd (upd (upd H ta (.tup [.ref po, .int 3])) tb (.tup [.non, .int 4])) pc (.lst [.ref ta, .ref tb])) pc [.ref ta, .ref tb] (c2L.map cellD) :=
      ⟨sa.trans sb, same_new hpc, hpc, upd_same, .cons (.tup (SqT.of ea) (.cons (dp_port13 tp) (.cons (.int _) .nil))) (.cons (.tup (SqT.of upd_same) (.cons .non (.cons (.int _) .nil))) .nil)⟩
    generalize upd (upd (upd H ta (.tup [.ref po, .int 3])) tb (.tup [.non, .int 4])) pc (.lst [.ref ta, .ref tb]) = Hc at W0 ⊢
    generalize upd (upd H ta (.tup [.ref po, .int 3])) tb (.tup [.non, .int 4]) = Gc at W0
    refine ⟨_, rfl, v, G, _, hdsD hs, rfl, sG.trans (W0.a.trans W0.b), hD, rfl, fun x hx => ?_⟩
    obtain ⟨p1, xh, rfl, h1, h2⟩ := dp_lst hx
    have lh := dpAll_len h2
    rw [List.length_map] at lh
    refine ⟨p1, rfl, ⟨_, sqL_sub (sG.trans (W0.a.trans W0.b)) h1⟩, for_list (K := K) (a := p1) (xs := xh) (fun i σ H2 => ∃ (G2 : Hp) (xs : List V) (o2 o3 o4 o5 o6 : Option V), σ = [some v, some (.ref pc), o2, o3, o4, o5, o6] ∧ Wk K H G2 H2 pc xs ((c2L ++ (hs.take i).flatMap hCells).map cellD) ∧ xs.length ≤ 2 + 9 * i)
      ⟨Gc, _, _, _, _, _, _, rfl, W0, by show 2 ≤ 2; decide⟩ (fun i σ H2 _ h => by obtain ⟨G2, _, _, _, _, _, _, _, W, _⟩ := h; exact sqL_sub (sG.trans (W.a.trans W.b)) h1) ?_ ?_⟩
    · rintro i y σ H2 hy ⟨G2', xs, o2, o3, o4, o5, o6, rfl, W, hxl⟩
      obtain ⟨d, ed, hd⟩ := dpAll_val h2 hy
      rw [List.getElem?_map] at ed
      obtain ⟨hd1, eh, ed'⟩ := Option.map_eq_some_iff.mp ed
      subst ed'
      have hil := (List.getElem?_eq_some_iff.mp eh).1
      obtain ⟨pt, zs, rfl, t1, t2⟩ := dp_tup hd
      obtain ⟨z0, r, rfl, n0, t2⟩ := dpAll_cons t2
      obtain ⟨z1, r, rfl, n1, t2⟩ := dpAll_cons t2
      obtain ⟨z2, r, rfl, n2, t2⟩ := dpAll_cons t2
      obtain rfl := dpAll_nil t2
      obtain rfl := dp_str n1
      obtain ⟨pf, xf, rfl, f1', f2'⟩ := dp_lst n2
      have lf := dpAll_len f2'
      rw [List.length_map] at lf
      have h8 := hf8 hd1 (List.mem_of_getElem? eh)
      have htk : (hs.take (i + 1)).flatMap hCells = (hs.take i).flatMap hCells ++ hCells hd1 := by
        rw [List.take_add_one, eh, List.flatMap_append]
        show _ ++ (hCells hd1 ++ []) = _
        rw [List.append_nil]
      refine ⟨pt, _, rfl, sqT_sub (sG.trans (W.a.trans W.b)) t1, rfl, _, _, rfl, _, _, rfl, _, _, rfl, rfl, ?_⟩
      refine ⟨_, rfl, .inl ⟨rfl, _, SqL.of W.e⟩, _, rfl, by show 2 ≤ sizeLine; decide, fun T hT => ?_⟩
      obtain ⟨W1, s1, d1⟩ := W.tup hT (vs := [.str hd1.1, .int 1]) (es := [.str hd1.1, .int 1]) (.cons (.str _) (.cons (.int _) .nil))
      refine ⟨pc, _, _, rfl, rfl, W1.e, small1000 (by omega), ?_⟩
      have W2 := W1.put (d := cellD (.str hd1.1, 1)) d1
      generalize upd (upd H2 T (.tup [V.str hd1.1, .int 1])) pc (.lst (xs ++ [.ref T])) = H3 at W2 ⊢
      generalize upd G2' T (.tup [V.str hd1.1, .int 1]) = G3 at W2
      refine ⟨_, rfl, pf, rfl, ⟨_, sqL_sub (sG.trans (W2.a.trans W2.b)) f1'⟩, for_list (K := K) (a := pf) (xs := xf) (fun j σ H4 => ∃ (G4 : Hp) (ys : List V) (o2 o5 o6 : Option V), σ = [some v, some (.ref pc), o2, some (.str hd1.1), some (.ref pf), o5, o6] ∧ Wk K H G4 H4 pc ys ((c2L ++ (hs.take i).flatMap hCells ++ (.str hd1.1, 1) :: (hd1.2.take j).map (fC hd1.1)).map cellD) ∧ ys.length ≤ 2 + 9 * i + 1 + j)
        ⟨G3, _, _, _, _, rfl, by rw [List.map_append]; exact W2, by rw [List.length_append]; exact Nat.add_le_add_right hxl 1⟩ (fun j σ H4 _ h => by obtain ⟨G4, _, _, _, _, _, W, _⟩ := h; exact sqL_sub (sG.trans (W.a.trans W.b)) f1') ?_ ?_⟩
      · rintro j y σ H4 hy ⟨G4, ys, o2, o5, o6, rfl, W, hyl⟩
        obtain ⟨d, ed, hd⟩ := dpAll_val f2' hy
        rw [List.getElem?_map] at ed
        obtain ⟨fl, ef, ed'⟩ := Option.map_eq_some_iff.mp ed
        subst ed'
        have hjl := (List.getElem?_eq_some_iff.mp ef).1
        obtain ⟨pq, zs, rfl, t1, t2⟩ := dp_tup hd
        obtain ⟨z0, r, rfl, n0, t2⟩ := dpAll_cons t2
        obtain ⟨z1, r, rfl, n1, t2⟩ := dpAll_cons t2
        obtain rfl := dpAll_nil t2
        obtain rfl := dp_str n0
        obtain rfl := dp_int n1
        refine ⟨pq, _, rfl, sqT_sub (sG.trans (W.a.trans W.b)) t1, rfl, _, _, rfl, _, _, rfl, rfl, ?_⟩
        refine ⟨_, rfl, .inl ⟨rfl, _, SqL.of W.e⟩, _, rfl, _, rfl, by show 2 ≤ sizeLine; decide, fun T1 hT1 => ?_⟩
        obtain ⟨W1, s1, d1⟩ := W.tup hT1 (vs := [.str hd1.1, .str fl.1]) (es := [.str hd1.1, .str fl.1]) (.cons (.str _) (.cons (.str _) .nil))
        refine ⟨_, rfl, by show 2 ≤ sizeLine; decide, fun T2 hT2 => ?_⟩
        obtain ⟨W2, s2, d2⟩ := W1.tup hT2 (vs := [.ref T1, .int (fl.2 : Nat)]) (es := [.tuple [.str hd1.1, .str fl.1], .int (fl.2 : Nat)]) (.cons d1 (.cons (.int _) .nil))
        have W3 := W2.put (d := cellD (fC hd1.1 fl)) d2
        refine ⟨pc, _, _, rfl, rfl, W2.e, small1000 (by omega), upd (upd G4 T1 (.tup [V.str hd1.1, .str fl.1])) T2 (.tup [V.ref T1, .int (fl.2 : Nat)]), ys ++ [.ref T2], _, _, _, rfl, ?_, by rw [List.length_append]; exact Nat.succ_le_succ hyl⟩
        have e : (c2L ++ (hs.take i).flatMap hCells ++ (.str hd1.1, 1) :: (hd1.2.take (j + 1)).map (fC hd1.1)).map cellD = (c2L ++ (hs.take i).flatMap hCells ++ (.str hd1.1, 1) :: (hd1.2.take j).map (fC hd1.1)).map cellD ++ [cellD (fC hd1.1 fl)] := by
          rw [List.take_add_one, ef]
          simp
        rw [e]
        exact W3
      · rintro σ H4 ⟨G4, ys, o2, o5, o6, rfl, W, hyl⟩
        rw [lf, List.take_length] at W
        refine ⟨G4, ys, _, _, _, _, _, rfl, ?_, by omega⟩
        rw [htk, ← List.append_assoc]
        exact W
    rintro σ H2 ⟨G2', xs, o2, o3, o4, o5, o6, rfl, W, hxl⟩
    rw [lh, List.take_length] at W
    refine ⟨_, rfl, v, G, _, flsD m, rfl, sG.trans (W.a.trans W.b), hD, rfl, fun x hx => ?_⟩
    obtain ⟨p3, xm, rfl, m1, m2⟩ := dp_lst hx
    have lm := dpAll_len m2
    rw [List.length_map] at lm
    refine ⟨p3, rfl, ⟨_, sqL_sub (sG.trans (W.a.trans W.b)) m1⟩, for_list (K := K) (a := p3) (xs := xm) (fun i σ H3 => ∃ (G3 : Hp) (ys : List V) (o2 o3 o4 o5 o6 : Option V), σ = [some v, some (.ref pc), o2, o3, o4, o5, o6] ∧ Wk K H G3 H3 pc ys ((c2L ++ hs.flatMap hCells ++ (m.take i).map (fC "meta")).map cellD) ∧ ys.length ≤ 2 + 9 * hs.length + i)
      ⟨G2', xs, _, _, _, _, _, rfl, by rw [List.take_zero, List.map_nil, List.append_nil]; exact W, by omega⟩ (fun i σ H3 _ h => by obtain ⟨G3, _, _, _, _, _, _, _, W, _⟩ := h; exact sqL_sub (sG.trans (W.a.trans W.b)) m1) ?_ ?_⟩
    · rintro i y σ H3 hy ⟨G3, ys, o2, o3, o4, o5, o6, rfl, W, hyl⟩
      obtain ⟨d, ed, hd⟩ := dpAll_val m2 hy
      rw [List.getElem?_map] at ed
      obtain ⟨fl, ef, ed'⟩ := Option.map_eq_some_iff.mp ed
      subst ed'
      have hjl := (List.getElem?_eq_some_iff.mp ef).1
      obtain ⟨pq, zs, rfl, t1, t2⟩ := dp_tup hd
      obtain ⟨z0, r, rfl, n0, t2⟩ := dpAll_cons t2
      obtain ⟨z1, r, rfl, n1, t2⟩ := dpAll_cons t2
      obtain rfl := dpAll_nil t2
      obtain rfl := dp_str n0
      obtain rfl := dp_int n1
      refine ⟨pq, _, rfl, sqT_sub (sG.trans (W.a.trans W.b)) t1, rfl, _, _, rfl, _, _, rfl, rfl, ?_⟩
      refine ⟨_, rfl, .inl ⟨rfl, _, SqL.of W.e⟩, _, rfl, by show 2 ≤ sizeLine; decide, fun T1 hT1 => ?_⟩
      obtain ⟨W1, s1, d1⟩ := W.tup hT1 (vs := [.str "meta", .str fl.1]) (es := [.str "meta", .str fl.1]) (.cons (.str _) (.cons (.str _) .nil))
      refine ⟨_, rfl, by show 2 ≤ sizeLine; decide, fun T2 hT2 => ?_⟩
      obtain ⟨W2, s2, d2⟩ := W1.tup hT2 (vs := [.ref T1, .int (fl.2 : Nat)]) (es := [.tuple [.str "meta", .str fl.1], .int (fl.2 : Nat)]) (.cons d1 (.cons (.int _) .nil))
      have W3 := W2.put (d := cellD (fC "meta" fl)) d2
      refine ⟨pc, _, _, rfl, rfl, W2.e, small1000 (by omega), upd (upd G3 T1 (.tup [V.str "meta", .str fl.1])) T2 (.tup [V.ref T1, .int (fl.2 : Nat)]), ys ++ [.ref T2], _, _, _, _, _, rfl, ?_, by rw [List.length_append]; exact Nat.succ_le_succ hyl⟩
      have e : (c2L ++ hs.flatMap hCells ++ (m.take (i + 1)).map (fC "meta")).map cellD = (c2L ++ hs.flatMap hCells ++ (m.take i).map (fC "meta")).map cellD ++ [cellD (fC "meta" fl)] := by
        rw [List.take_add_one, ef]
        simp
      rw [e]
      exact W3
    rintro σ H3 ⟨G3, ys, o2, o3, o4, o5, o6, rfl, W, hyl⟩
    rw [lm, List.take_length] at W
    refine ⟨_, rfl, q H3 (upd G3 pc (.lst ys)) pc (W.a.trans (same_new2 W.g)) (same_upd W.b W.e) (.lst (SqL.of upd_same) (dpAll_sub (same_new2 W.g) ?_))⟩
    exact W.d
end
end Pk
set_option Elab.async false
set_option linter.all false
set_option maxRecDepth 100000
set_option maxHeartbeats 4000000
namespace Pk
open PySem PySem.Spec PyProof.Rows L2 SX GxR Tk
abbrev sIndex : Stmt := topS 19
abbrev NIx : List Str := ["program", "place", "other", "_"]
theorem scIndex : FnScope NIx ["program", "place"] (defScope sIndex) := ⟨rfl, rfl, rfl, by decide +kernel, rfl, by decide +kernel, by decide +kernel⟩
theorem cells_len (hs : List Hd) (m : List Fl) (h6 : hs.length ≤ 6) (h8 : ∀ h ∈ hs, h.2.length ≤ 8) (m10 : m.length ≤ 10) : (cellsL hs m).length ≤ 100 := by
  have key : ∀ l : List Hd, (∀ h ∈ l, h.2.length ≤ 8) → (l.flatMap hCells).length ≤ 9 * l.length := by
    intro l
    induction l with
    | nil => intro _; exact Nat.zero_le _
    | cons x l ih =>
      intro h
      have h1 := h x List.mem_cons_self
      have h2 := ih fun y hy => h y (List.mem_cons_of_mem _ hy)
      rw [List.flatMap_cons, List.length_append, List.length_cons]
      have : (hCells x).length = x.2.length + 1 := by
        show (x.2.map _).length + 1 = _
        rw [List.length_map]
      omega
  have := key hs h8
  show ((hs.flatMap hCells ++ mCells m).length + 1) + 1 ≤ 100
  rw [List.length_append]
  have : (mCells m).length = m.length := List.length_map ..
  omega
section
variable {P : Program} {w : World} {K : PySem.W.Frag} {mg : Str → Option Value} {base : Heap}
end
end Pk
set_option Elab.async false
set_option linter.all false
set_option maxRecDepth 100000
set_option maxHeartbeats 4000000
namespace Pk
open PySem PySem.Spec PyProof.Rows L2 SX GxR Tk
def placesL (hs : List Hd) (m : List Fl) : List PyData := (cellsL hs m).map Prod.fst
section
variable {P : Program} {w : World} {K : PySem.W.Frag} {mg : Str → Option Value} {base : Heap}
def spIndex (K : PySem.W.Frag) : Sp := fun vs H Q _ => ∃ (v y : V) (G GP : Hp) (nm : Str) (hs : List Hd) (m : List Fl) (sts : List Sa) (acs : List Ac) (tbs : List Tb) (ct : Ct) (em : List Str) (d : PyData) (j : Nat) (z : PyData), vs = [v, y] ∧ Same G H ∧ Dp K G v (.tuple (pgL nm hs m sts acs tbs ct em)) ∧ hs.length ≤ 6 ∧ (∀ h ∈ hs, h.2.length ≤ 8) ∧ m.length ≤ 10 ∧
  SeqAt.shaped (.list (placesL hs m)) = true ∧ Same GP H ∧ Dp K GP y d ∧ SeqAt.shaped d = true ∧ (placesL hs m)[j]? = some z ∧ PyData.eqv z d = true ∧ (∀ (n : Nat) (z' : PyData), n < j → (placesL hs m)[n]? = some z' → PyData.eqv z' d = false) ∧ ∀ H', Same H H' → Q (.int (j : Nat)) H'
theorem ok_index {f : Addr} {fd : FuncData} {k : Nat} (F : Fun K "index_of" "index_of" sIndex f fd) (D1 : Df P w K mg base CX0 (k + 1) "cells_of" ["program"] (spCells K)) : FnOk P w K mg base CX0 (k + 2) f fd ["program", "place"] (spIndex K) := by
  obtain ⟨f1, fd1, G1, g1, k1, b1⟩ := D1.ex
  refine F.ok scIndex (fun vs H Q E h => ?_) (fun cdv A outer s0 H vs Q E hr h => ?_)
  · obtain ⟨v, y, G, GP, nm, hs, m, sts, acs, tbs, ct, em, d, j, z, rfl, _⟩ := h
    rfl
  · obtain ⟨v, y, G, GP, nm, hs, m, sts, acs, tbs, ct, em, d, j, z, rfl, sG, hD, hh6, hf8, hm10, sh1, sP, dy, sh2, ej, ez, en, q⟩ := h
    have nd := scIndex.nd
    have hun := hr.un
    have hu65 : (A.deeper (envOfC "index_of" (defScope sIndex) s0.heap.objs.size f cdv)).units + 65 < cLine := by omega
    refine ⟨_, pss_one (ps_ret (pe_bm PySem.F.plainAttrs_list PySem.F.slot_list_index PySem.F.type_list_index (mt_indexD hu65) (pe_lc (own := [("other", 2), ("_", 3)]) (g := gTup K 2 (gCons (gName 2) (gCons (gName 3) gNil))) (tt := tYes) rfl nd (pi_list (pe_call G1 hr (by rfl) g1 k1 b1 .nil pass0 (pa_cons (pv 0) pa_nil))) (blkOk_by (N := NIx) (sc := defScope sIndex) (by decide +kernel))
      (fun _ _ _ _ _ => pg_tup rfl (pgs_cons (pg_name (i := 2) nd rfl (Or.inl rfl)) (pgs_cons (pg_name (i := 3) nd rfl (Or.inl rfl)) pgs_nil))) (fun _ _ _ _ _ => pts_nil) (fun _ _ _ _ _ => pv 2)) (pa_cons (pv 1) pa_nil))), ?_⟩
    refine ⟨_, rfl, v, G, nm, hs, m, sts, acs, tbs, ct, em, rfl, sG, hD, hh6, hf8, hm10, fun H1 G1' p s1 t1 d1 => ?_⟩
    have hcl := cells_len hs m hh6 hf8 hm10
    obtain ⟨p', xs, ep, h1, h2⟩ := dp_lst d1
    cases ep
    have lx := dpAll_len h2
    rw [List.length_map] at lx
    have sH1 : Same H H1 := s1.trans t1
    refine ⟨p, rfl, ⟨_, sqL_sub t1 h1⟩, fun D hD1 => lc_list (K := K) (a := p) (xs := xs) (fun i H2 => Same H1 H2 ∧ ∃ ys : List V, H2 D = some (.lst ys) ∧ DpAll K G1' ys ((placesL hs m).take i)) ⟨same_new hD1, [], upd_same, .nil⟩ (fun i H2 _ h => sqL_sub (t1.trans h.1) h1) ?_ ?_⟩
    · rintro i y' H2 hy ⟨s2, ys, e2, dys⟩
      obtain ⟨d', ed, hd⟩ := dpAll_val h2 hy
      rw [List.getElem?_map] at ed
      obtain ⟨c, ec, ed'⟩ := Option.map_eq_some_iff.mp ed
      subst ed'
      obtain ⟨pt, zs, rfl, u1, u2⟩ := dp_tup hd
      obtain ⟨z0, r, rfl, n0, u2⟩ := dpAll_cons u2
      obtain ⟨z1, r, rfl, n1, u2⟩ := dpAll_cons u2
      obtain rfl := dpAll_nil u2
      have hil := (List.getElem?_eq_some_iff.mp ec).1
      have ly := dpAll_len dys
      rw [List.length_take] at ly
      refine ⟨pt, _, rfl, sqT_sub (t1.trans s2) u1, rfl, _, _, rfl, _, _, rfl, rfl, ?_⟩
      refine ⟨rfl, _, rfl, _, e2, small1000 (by omega), same_set s2 hD1, ys ++ [z0], upd_same, ?_⟩
      have e : (placesL hs m).take (i + 1) = (placesL hs m).take i ++ [c.1] := by
        unfold placesL
        rw [List.take_add_one, List.getElem?_map, ec]
        rfl
      rw [e]
      exact dpAll_app dys (.cons n0 .nil)
    · rintro H2 ⟨s2, ys, e2, dys⟩
      rw [List.take_of_length_le (by unfold placesL; rw [List.length_map]; omega)] at dys
      exact ⟨.inl ⟨rfl, _, SqL.of e2⟩, _, rfl, D, y, d, placesL hs m, j, z, rfl, rfl, .lst (SqL.of e2) (dpAll_sub (t1.trans s2) dys), dp_sub (sP.trans (sH1.trans s2)) dy, sh1, sh2, ej, ez, en, q H2 (sH1.trans s2)⟩
end
end Pk
set_option Elab.async false
set_option linter.all false
set_option maxRecDepth 100000
set_option maxHeartbeats 4000000
namespace Pk
open PySem PySem.Spec PyProof.Rows L2 SX GxR Tk
abbrev sPart : Stmt := topS 10
abbrev sCellOf : Stmt := topS 20
abbrev sValidCell : Stmt := topS 21
theorem scPart : FnScope ["parts", "name", "part"] ["parts", "name"] (defScope sPart) := ⟨rfl, rfl, rfl, by decide +kernel, rfl, by decide +kernel, by decide +kernel⟩
theorem scCellOf : FnScope ["program", "field"] ["program", "field"] (defScope sCellOf) := ⟨rfl, rfl, rfl, by decide +kernel, rfl, by decide +kernel, by decide +kernel⟩
theorem scValidCell : FnScope ["program", "header"] ["program", "header"] (defScope sValidCell) := ⟨rfl, rfl, rfl, by decide +kernel, rfl, by decide +kernel, by decide +kernel⟩
section
variable {P : Program} {w : World} {K : PySem.W.Frag} {mg : Str → Option Value} {base : Heap}
theorem ok_cellOf {f : Addr} {fd : FuncData} {k : Nat} (F : Fun K "cell_of" "cell_of" sCellOf f fd) (D1 : Df P w K mg base CX0 (k + 1) "index_of" ["program", "place"] (spIndex K)) : FnOk P w K mg base CX0 (k + 2) f fd ["program", "field"] (spIndex K) := by
  obtain ⟨f1, fd1, G1, g1, k1, b1⟩ := D1.ex
  refine F.ok scCellOf (fun vs H Q E h => ?_) (fun cdv A outer s0 H vs Q E hr h => ?_)
  · obtain ⟨v, y, G, GP, nm, hs, m, sts, acs, tbs, ct, em, d, j, z, rfl, _⟩ := h
    rfl
  · obtain ⟨v, y, G, GP, nm, hs, m, sts, acs, tbs, ct, em, d, j, z, rfl, h⟩ := h
    exact ⟨_, pss_one (ps_ret (pe_call G1 hr (by rfl) g1 k1 b1 .nil pass0 (pa_cons (pv 0) (pa_cons (pv 1) pa_nil)))), _, rfl, _, rfl, v, y, G, GP, nm, hs, m, sts, acs, tbs, ct, em, d, j, z, rfl, h⟩
theorem ok_validCell {f : Addr} {fd : FuncData} {k : Nat} (F : Fun K "valid_cell" "valid_cell" sValidCell f fd) (D1 : Df P w K mg base CX0 (k + 1) "index_of" ["program", "place"] (spIndex K)) : FnOk P w K mg base CX0 (k + 2) f fd ["program", "header"] (spIndex K) := by
  obtain ⟨f1, fd1, G1, g1, k1, b1⟩ := D1.ex
  refine F.ok scValidCell (fun vs H Q E h => ?_) (fun cdv A outer s0 H vs Q E hr h => ?_)
  · obtain ⟨v, y, G, GP, nm, hs, m, sts, acs, tbs, ct, em, d, j, z, rfl, _⟩ := h
    rfl
  · obtain ⟨v, y, G, GP, nm, hs, m, sts, acs, tbs, ct, em, d, j, z, rfl, h⟩ := h
    exact ⟨_, pss_one (ps_ret (pe_call G1 hr (by rfl) g1 k1 b1 .nil pass0 (pa_cons (pv 0) (pa_cons (pv 1) pa_nil)))), _, rfl, _, rfl, v, y, G, GP, nm, hs, m, sts, acs, tbs, ct, em, d, j, z, rfl, h⟩
theorem ok_part {f : Addr} {fd : FuncData} {k : Nat} (F : Fun K "part_named" "part_named" sPart f fd) : FnOk P w K mg base CX0 (k + 1) f fd ["parts", "name"] (spPart K) := by
  refine F.ok scPart (fun vs H Q E h => ?_) (fun cdv A outer s H vs Q E hr h => ?_)
  · obtain ⟨v, G, es, n, i, e, rfl, _⟩ := h
    rfl
  · obtain ⟨v, G, es, n, i0, e0, rfl, sG, hD, hes, he, hn, hf, q⟩ := h
    have nd := scPart.nd
    refine ⟨_, pss_cons (ps_for PassesOwn.never rfl (pi_list (pv 0)) (pg_name (i := 2) nd rfl (.inl rfl)) (pss_one (ps_if (pt_cmpR op_eq (pe_ix ix_tup (pv 2) pe_int (fun _ _ => rfl)) (pv 1) (nomark _)) (pss_one (ps_ret (pv 2))) pss_nil))) (pss_one (ps_ret pe_non)), ?_⟩
    obtain ⟨p, xs, rfl, h1, h2⟩ := dp_lst hD
    have hl := dpAll_len h2
    rw [List.length_map] at hl
    have hi0 : i0 < es.length := by
      rcases Nat.lt_or_ge i0 es.length with h | h
      · exact h
      · rw [List.getElem?_eq_none h] at he
        cases he
    refine ⟨_, rfl, p, rfl, ⟨_, sqL_sub sG h1⟩, for_list (K := K) (a := p) (xs := xs) (fun i σ H2 => i ≤ i0 ∧ H2 = H ∧ ∃ o, σ = [some (.ref p), some (.str n), o]) ⟨Nat.zero_le _, rfl, none, rfl⟩ (fun i σ H2 _ h => by rw [h.2.1]; exact sqL_sub sG h1) ?_ ?_⟩
    · rintro i y σ H2 hi ⟨hle, rfl, o, rfl⟩
      obtain ⟨d, ed, hd⟩ := dpAll_val h2 hi
      rw [List.getElem?_map] at ed
      cases ee : es[i]? with
      | none => rw [ee] at ed; cases ed
      | some e =>
      rw [ee] at ed
      cases ed
      obtain ⟨m, em⟩ := hes e (List.mem_of_getElem? ee)
      obtain ⟨pt, xs2, rfl, g1, g2⟩ := dp_tup hd
      obtain ⟨x, ex, hx⟩ := dpAll_at g2 em
      obtain rfl := dp_str hx
      refine ⟨_, rfl, pt, _, _, _, rfl, rfl, sqT_sub sG g1, atI_nat (j := 1) ex, _, rfl, rfl, _, rfl, ?_⟩
      rw [dcStr]
      refine iteD (fun hm => ?_) fun hm => ?_
      · subst hm
        have : i = i0 := by
          rcases Nat.lt_or_ge i i0 with h | h
          · exact absurd em (hf i e h ee)
          · omega
        subst this
        rw [he] at ee
        cases ee
        exact ⟨_, rfl, q _ hd⟩
      · refine ⟨?_, rfl, _, rfl⟩
        rcases Nat.lt_or_ge i i0 with h | h
        · omega
        · have : i = i0 := by omega
          subst this
          rw [he] at ee
          cases ee
          rw [hn] at em
          cases em
          exact absurd rfl hm
    · rintro σ H2 ⟨hle, rfl, o, rfl⟩
      rw [hl] at hle
      omega
end
end Pk
set_option Elab.async false
set_option linter.all false
set_option maxRecDepth 100000
set_option maxHeartbeats 4000000
namespace Pk
open PySem PySem.Spec PyProof.Rows L2 SX GxR Tk
abbrev sFieldsOf : Stmt := topS 11
theorem scFieldsOf : FnScope ["program", "owner", "header"] ["program", "owner"] (defScope sFieldsOf) := ⟨rfl, rfl, rfl, by decide +kernel, rfl, by decide +kernel, by decide +kernel⟩
theorem nm_ne_meta {k : Nat} {x : Str} (h : NmK k x) (hk : k < 10) : x ≠ Str.ofString "meta" := fun e => by
  have h1 := digOf_nm h hk
  rw [e] at h1
  have : digOf (Str.ofString "meta") = none := by decide +kernel
  rw [this] at h1
  cases h1
section
variable {P : Program} {w : World} {K : PySem.W.Frag} {mg : Str → Option Value} {base : Heap}
def spFieldsOf (K : PySem.W.Frag) : Sp := fun vs H Q _ => ∃ (v : V) (G : Hp) (nm : Str) (hs : List Hd) (m : List Fl) (sts : List Sa) (acs : List Ac) (tbs : List Tb) (ct : Ct) (em : List Str) (i : Nat) (h : Hd), vs = [v, .str h.1] ∧ Same G H ∧ Dp K G v (.tuple (pgL nm hs m sts acs tbs ct em)) ∧ WfH hs ∧ hs.length ≤ 6 ∧ hs[i]? = some h ∧ ∀ x, Dp K G x (flsD h.2) → Q x H
theorem ok_fieldsOf {f : Addr} {fd : FuncData} (F : Fun K "fields_of" "fields_of" sFieldsOf f fd) (D1 : Df P w K mg base CX0 1 "headers_of" ["program"] (spAcc K 2)) (D2 : Df P w K mg base CX0 1 "meta_of" ["program"] (spAcc K 3)) (D3 : Df P w K mg base CX0 1 "part_named" ["parts", "name"] (spPart K)) :
    FnOk P w K mg base CX0 2 f fd ["program", "owner"] (spFieldsOf K) := by
  obtain ⟨f1, fd1, G1, g1, k1, b1⟩ := D1.ex
  obtain ⟨f2, fd2, G2, g2, k2, b2⟩ := D2.ex
  obtain ⟨f3, fd3, G3, g3, k3, b3⟩ := D3.ex
  refine F.ok scFieldsOf (fun vs H Q E h => ?_) (fun cdv A outer s H vs Q E hr h => ?_)
  · obtain ⟨v, G, nm, hs, m, sts, acs, tbs, ct, em, i, h, rfl, _⟩ := h
    rfl
  · obtain ⟨v, G, nm, hs, m, sts, acs, tbs, ct, em, i, h, rfl, sG, hD, wf, h6, eh, q⟩ := h
    have nd := scFieldsOf.nd
    refine ⟨_, pss_cons (ps_if (pt_cmpR op_eq (pv 1) pe_str (nomark _)) (pss_one (ps_ret (pe_call G2 hr (by rfl) g2 k2 b2 .nil pass0 (pa_cons (pv 0) pa_nil)))) pss_nil)
      (pss_cons (ps_set (i := 2) nd rfl (.inl rfl) (pe_call G3 hr (by rfl) g3 k3 b3 .nil pass0 (pa_cons (pe_call G1 hr (by rfl) g1 k1 b1 .nil pass0 (pa_cons (pv 0) pa_nil)) (pa_cons (pv 1) pa_nil))))
      (pss_cons (ps_if (pt_cmpR op_isN (pv 2) pe_non (nomark _)) (pss_one (ps_ret (pe_lst pa_nil))) pss_nil)
      (pss_one (ps_ret (pe_ix ix_tup (pv 2) pe_int (fun _ _ => rfl)))))), ?_⟩
    have hi := (List.getElem?_eq_some_iff.mp eh).1
    have hnm := (wf i h eh).1
    have hdD : hdsD hs = .list ((hs.map hdL).map .tuple) := by
      unfold hdsD
      rw [List.map_map]
      rfl
    refine ⟨_, rfl, rfl, _, rfl, ?_⟩
    rw [dcStr]
    refine iteDF (nm_ne_meta hnm (by omega)) ⟨_, rfl, v, G, _, .list ((hs.map hdL).map .tuple), rfl, sG, hD, by rw [← hdD]; rfl, fun x hx => ⟨_, rfl, x, G, hs.map hdL, _, i, hdL h, rfl, sG, hx, fun e he => ?_, by rw [List.getElem?_map, eh]; rfl, rfl, fun j e' hj he' => ?_, fun y hy => ?_⟩⟩
    · obtain ⟨a, ha, rfl⟩ := List.mem_map.mp he
      exact ⟨_, rfl⟩
    · rw [List.getElem?_map] at he'
      obtain ⟨a, ea, rfl⟩ := Option.map_eq_some_iff.mp he'
      intro z
      have hz : a.1 = h.1 := PyData.str.inj (Option.some.inj z)
      have := nm_inj (wf j a ea).1 hnm (by omega) (by omega) hz
      omega
    · obtain ⟨p, xs, rfl, h1, h2⟩ := dp_tup hy
      obtain ⟨y2, e2, h3⟩ := dpAll_at h2 (i := 2) (d := flsD h.2) rfl
      exact ⟨_, rfl, rfl, _, rfl, iteDF (fun z => by cases z) ⟨_, rfl, p, _, _, _, rfl, rfl, sqT_sub sG h1, atI_nat (j := 2) e2, q y2 h3⟩⟩
end
end Pk
set_option Elab.async false
set_option linter.all false
set_option maxRecDepth 100000
set_option maxHeartbeats 4000000
/-! repr of data; no row -/
namespace Pk
open PySem PySem.Spec PyProof.Rows L2
mutual
theorem dp_noDict {K : PySem.W.Frag} {G : Hp} : ∀ {d : PyData} {v : V}, Dp K G v d → d.hasDict = false
  | _, _, .non => rfl
  | _, _, .bl b => rfl
  | _, _, .int i => rfl
  | _, _, .str x => rfl
  | _, _, .lst h r => dpAll_noDict r
  | _, _, .tup h r => dpAll_noDict r
theorem dpAll_noDict {K : PySem.W.Frag} {G : Hp} : ∀ {ds : List PyData} {vs : List V}, DpAll K G vs ds → PyData.hasDictAll ds = false
  | _, _, .nil => rfl
  | _, _, .cons h r => by
    rw [show ∀ (x : PyData) xs, PyData.hasDictAll (x :: xs) = (x.hasDict || PyData.hasDictAll xs) from fun _ _ => rfl, dp_noDict h, dpAll_noDict r]
    rfl
end
def rReprD (K : PySem.W.Frag) : List V → Hp → VK → Prop := fun xs H Q => ∃ (a : Addr) (d : PyData), xs = [.ref a] ∧ Dp K H (.ref a) d ∧ d.showable = true ∧ d.shown.length ≤ sizeLine ∧ d.depth ≤ 60 ∧ Q (.str d.shown) H
theorem call_reprD {X : Cx} (hg : X.A.guards = some []) (hu : X.A.units + 64 < cLine) : CallR X (.builtin "repr") (rReprD X.K) := by
  intro pins s σ H xs us Q I r h
  obtain ⟨a, d, rfl, hD, hs, hl, hd, q⟩ := h
  cases r with
  | cons r0 rr =>
    cases rr
    obtain ⟨as, hR⟩ := Dp.reads I d (.ref a) _ hD r0
    obtain rfl := r0
    exact PySem.repr_of_reads' hR hs (fun z => by rw [dp_noDict hD] at z; cases z) hg (by omega) (fun _ _ e => e) (fun h' u tk hk => ⟨.str d.shown, H, I.kept (t' := tk) hk, ⟨u, rfl⟩, q⟩) hl
end Pk
set_option Elab.async false
set_option linter.all false
set_option maxRecDepth 100000
set_option maxHeartbeats 4000000
/-! the drawn table, its keys, its entries; no row -/
namespace Pk
open PySem PySem.Spec PyProof.Rows L2
/-- fields by number: owner, name, width -/
def fo : Nat → Str
  | 0 => "packet" | 5 => "meta" | _ => "h"
def fn : Nat → Str
  | 0 => "port" | 1 => "a" | 2 => "b" | 3 => "c" | 4 => "d" | _ => "m"
def fw : Nat → Nat
  | 0 => 3 | 1 => 1 | 2 => 7 | 3 => 8 | 4 => 32 | _ => 5
def kdS : Nat → Str
  | 0 => "exact" | 1 => "mask" | _ => "prefix"
def acS : Nat → Str
  | 0 => "x" | 1 => "y" | _ => "z"
def wds : Nat → List Nat
  | 0 => [] | 1 => [3, 32] | _ => [1]
def pns : Nat → List Str
  | 0 => [] | 1 => ["p", "q"] | _ => ["r"]
def usesOf : Nat → List Nat
  | 0 => [0] | 1 => [0, 1] | _ => [2, 1, 0]
theorem fw_le (i : Nat) : fw i ≤ 32 := by
  unfold fw
  split <;> decide
theorem wds_le (j : Nat) : ∀ w ∈ wds j, w ≤ 32 := by
  unfold wds
  split <;> decide
/-- a key: a field and a kind -/
abbrev Ky := Nat × Nat
def fldD (i : Nat) : PyData := .tuple [.str (fo i), .str (fn i)]
def keyL (k : Ky) : List PyData := [fldD k.1, .str (kdS k.2)]
def ptL (n : Str) (w : Nat) : List PyData := [.str n, .int (w : Nat)]
def hFs : List (Str × Nat) := [("a", 1), ("b", 7), ("c", 8), ("d", 32)]
def mFs : List (Str × Nat) := [("m", 5)]
def ptsD (l : List (Str × Nat)) : PyData := .list (l.map fun x => .tuple (ptL x.1 x.2))
def hdrL : List PyData := [.str "header", .str "h", ptsD hFs]
def pars (j : Nat) : List (Str × Nat) := (pns j).zip (wds j)
def actL (j : Nat) : List PyData := [.str "action", .str (acS j), ptsD (pars j), .list []]
def actsL : List (List PyData) := [actL 0, actL 1, actL 2]
def staL : List PyData := [.str "state", .str "start", .str "h", .tuple [.str "go", .str "accept"]]
def tbsL : List PyData := [.str "table", .str "s", .list [], .list [.str "z"], .tuple [.str "z", .list [.int 1]], .int 2]
def tbtL (ks : List Ky) (us : List Nat) (dflt : PyData) (size : Int) : List PyData := [.str "table", .str "t", .list (ks.map fun k => .tuple (keyL k)), .list (us.map fun j => .str (acS j)), dflt, .int size]
def prgL (ks : List Ky) (us : List Nat) (dflt : PyData) (size : Int) : List PyData :=
  [.str "program", .str "p", .list ([hdrL].map .tuple), ptsD mFs, .list ([staL].map .tuple), .list (actsL.map .tuple), .list ([tbsL, tbtL ks us dflt size].map .tuple), .list [], .list []]
/-- an item of an entry -/
inductive It
  | i (n : Int)
  | p (a b : Int)
def itD : It → PyData
  | .i n => .int n
  | .p a b => .tuple [.int a, .int b]
def entL (its : List It) (prio : Int) (act : Nat) (args : List Int) : List PyData := [.str "entry", .list (its.map itD), .int prio, .str (acS act), .list (args.map .int)]
/-! what is due -/
def okV (n : Int) (w : Nat) : Bool := decide (0 ≤ n ∧ n < 2 ^ w)
def okIt : Nat → Nat → It → Bool
  | 0, w, .i n => okV n w
  | 0, _, .p _ _ => false
  | _ + 1, _, .i _ => false
  | 1, w, .p a b => okV a w && okV b w && decide (Builtin.bitOr a b = b)
  | _ + 2, w, .p a b => okV a w && decide (0 ≤ b ∧ b ≤ (w : Int)) && decide (a % 2 ^ (w - b.toNat) = 0)
def okIts : List Ky → List It → Bool
  | k :: ks, t :: ts => okIt k.2 (fw k.1) t && okIts ks ts
  | _, _ => true
def okArgs : List Nat → List Int → Bool
  | w :: ws, a :: as => okV a w && okArgs ws as
  | _, _ => true
def due (ks : List Ky) (us : List Nat) (its : List It) (prio : Int) (act : Nat) (args : List Int) : Bool :=
  decide (its.length = ks.length) && okV prio 8 && decide (act ∈ us) && okIts ks its && (decide (args.length = (wds act).length) && okArgs (wds act) args)
/-- how is_item goes on with a pair -/
theorem okPair1 {w : Nat} {a b : Int} : (if okV a w then (if okV b w then decide (Builtin.bitAnd a b = a) else false) else false) = okIt 1 w (.p a b) := by
  show _ = (okV a w && okV b w && decide (Builtin.bitOr a b = b))
  cases ha : okV a w
  · rfl
  cases hb : okV b w
  · rfl
  have h1 := (of_decide_eq_true ha).1
  have h2 := (of_decide_eq_true hb).1
  show decide _ = (true && true && decide _)
  rw [Bool.and_self, Bool.true_and]
  exact decide_eq_decide.mpr (mask_iff h1 h2)
theorem okPair2 {w : Nat} {a b : Int} (ha : okV a w = true) (hb : 0 ≤ b ∧ b ≤ (w : Int)) : decide (Builtin.bitAnd a ((2 ^ b.toNat - 1) * 2 ^ (w - b.toNat)) = a) = decide (a % 2 ^ (w - b.toNat) = 0) := by
  have h1 := of_decide_eq_true ha
  exact decide_eq_decide.mpr (prefix_iff h1.1 h1.2 (by omega))
end Pk
set_option Elab.async false
set_option linter.all false
set_option maxRecDepth 100000
set_option maxHeartbeats 4000000
/-! the text of an entry is short; no row -/
namespace Pk
open PySem PySem.Spec PyProof.Rows L2
def smI (n : Int) : Prop := -100000000000 < n ∧ n < 100000000000
def ItB : It → Prop
  | .i n => smI n
  | .p a b => smI a ∧ smI b
def EB (its : List It) (prio : Int) (act : Nat) (args : List Int) : Prop := its.length ≤ 200 ∧ (∀ t ∈ its, ItB t) ∧ smI prio ∧ act < 3 ∧ args.length ≤ 10 ∧ ∀ n ∈ args, smI n
theorem smI_abs {n : Int} (h : smI n) : n.natAbs < 10 ^ 12 := by
  obtain ⟨h1, h2⟩ := h
  have : (10 : Nat) ^ 12 = 1000000000000 := by decide
  rw [this]
  omega
theorem smI_show {n : Int} (h : smI n) : (PyData.int n).showable = true := by
  show decide (n.natAbs.log2 < 1920) = true
  refine decide_eq_true ?_
  by_cases h0 : n.natAbs = 0
  · rw [h0]
    decide
  · rw [Nat.log2_lt h0]
    exact Nat.lt_of_lt_of_le (smI_abs h) (by decide +kernel)
theorem smI_short {n : Int} (h : smI n) : PyData.leavesShort 100 (.int n) = true := by
  show decide ((PyData.int n).shown.length ≤ 100) = true
  exact decide_eq_true (Nat.le_trans (PyData.shown_int_le (smI_abs h)) (by decide))
theorem its_facts : ∀ its : List It, (∀ t ∈ its, ItB t) → PyData.showableAll (its.map itD) = true ∧ PyData.leavesShortAll 100 (its.map itD) = true ∧ PyData.bulkAll (its.map itD) ≤ 3 * its.length ∧ PyData.depthAll (its.map itD) ≤ 1
  | [], _ => ⟨rfl, rfl, Nat.zero_le _, Nat.zero_le _⟩
  | t :: ts, h => by
    obtain ⟨h1, h2, h3, h4⟩ := its_facts ts (fun x hx => h x (List.mem_cons_of_mem _ hx))
    have ht := h t List.mem_cons_self
    have key : (itD t).showable = true ∧ PyData.leavesShort 100 (itD t) = true ∧ (itD t).bulk ≤ 2 ∧ (itD t).depth ≤ 1 := by
      cases t with
      | i n => exact ⟨smI_show ht, smI_short ht, Nat.zero_le _, Nat.zero_le _⟩
      | p a b =>
        refine ⟨?_, ?_, by show (0 + 1 + (0 + 1 + 0)) ≤ 2; decide, by show max 0 (max 0 0) + 1 ≤ 1; decide⟩
        · show ((PyData.int a).showable && ((PyData.int b).showable && true)) = true
          rw [smI_show ht.1, smI_show ht.2]
          rfl
        · show (PyData.leavesShort 100 (.int a) && (PyData.leavesShort 100 (.int b) && true)) = true
          rw [smI_short ht.1, smI_short ht.2]
          rfl
    refine ⟨?_, ?_, ?_, ?_⟩
    · show ((itD t).showable && PyData.showableAll (ts.map itD)) = true
      rw [key.1, h1]
      rfl
    · show (PyData.leavesShort 100 (itD t) && PyData.leavesShortAll 100 (ts.map itD)) = true
      rw [key.2.1, h2]
      rfl
    · show (itD t).bulk + 1 + PyData.bulkAll (ts.map itD) ≤ 3 * (ts.length + 1)
      have := key.2.2.1
      omega
    · show max (itD t).depth (PyData.depthAll (ts.map itD)) ≤ 1
      have := key.2.2.2
      omega
theorem args_facts : ∀ as : List Int, (∀ n ∈ as, smI n) → PyData.showableAll (as.map .int) = true ∧ PyData.leavesShortAll 100 (as.map .int) = true ∧ PyData.bulkAll (as.map .int) ≤ as.length ∧ PyData.depthAll (as.map .int) ≤ 0
  | [], _ => ⟨rfl, rfl, Nat.zero_le _, Nat.zero_le _⟩
  | n :: ts, h => by
    obtain ⟨h1, h2, h3, h4⟩ := args_facts ts (fun x hx => h x (List.mem_cons_of_mem _ hx))
    have ht := h n List.mem_cons_self
    refine ⟨?_, ?_, ?_, ?_⟩
    · show ((PyData.int n).showable && PyData.showableAll (ts.map .int)) = true
      rw [smI_show ht, h1]
      rfl
    · show (PyData.leavesShort 100 (.int n) && PyData.leavesShortAll 100 (ts.map .int)) = true
      rw [smI_short ht, h2]
      rfl
    · show 0 + 1 + PyData.bulkAll (ts.map .int) ≤ ts.length + 1
      omega
    · show max 0 (PyData.depthAll (ts.map .int)) ≤ 0
      omega
theorem acS_facts {act : Nat} (h : act < 3) : PyData.leavesShort 100 (.str (acS act)) = true ∧ (PyData.str (acS act)).bulk ≤ 1 := by
  have : ∀ a < 3, PyData.leavesShort 100 (.str (acS a)) = true ∧ (PyData.str (acS a)).bulk ≤ 1 := by decide +kernel
  exact this act h
theorem ent_repr {its : List It} {prio : Int} {act : Nat} {args : List Int} (h : EB its prio act args) : (PyData.tuple (entL its prio act args)).showable = true ∧ (PyData.tuple (entL its prio act args)).shown.length ≤ sizeLine ∧ (PyData.tuple (entL its prio act args)).depth ≤ 60 := by
  obtain ⟨hl, hi, hp, ha, hal, har⟩ := h
  obtain ⟨i1, i2, i3, i4⟩ := its_facts its hi
  obtain ⟨a1, a2, a3, a4⟩ := args_facts args har
  obtain ⟨s1, s2⟩ := acS_facts ha
  refine ⟨?_, ?_, ?_⟩
  · show (true && (PyData.showableAll (its.map itD) && ((PyData.int prio).showable && (true && (PyData.showableAll (args.map .int) && true))))) = true
    rw [i1, smI_show hp, a1]
    rfl
  · have e1 : PyData.leavesShort 100 (.tuple (entL its prio act args)) = true := by
      show (PyData.leavesShort 100 (.str "entry") && (PyData.leavesShortAll 100 (its.map itD) && (PyData.leavesShort 100 (.int prio) && (PyData.leavesShort 100 (.str (acS act)) && (PyData.leavesShortAll 100 (args.map .int) && true))))) = true
      rw [i2, smI_short hp, s1, a2, (by decide +kernel : PyData.leavesShort 100 (.str "entry") = true)]
      rfl
    have e2 : (PyData.tuple (entL its prio act args)).bulk ≤ 700 := by
      show (PyData.str "entry").bulk + 1 + (PyData.bulkAll (its.map itD) + 1 + (0 + 1 + ((PyData.str (acS act)).bulk + 1 + (PyData.bulkAll (args.map .int) + 1 + 0)))) ≤ 700
      have : (PyData.str "entry").bulk = 5 := by decide +kernel
      omega
    have := PyData.shown_le_bulk 100 (by decide) _ e1
    rw [sizeLine_eq]
    omega
  · show max 0 (max (PyData.depthAll (its.map itD) + 1) (max 0 (max 0 (max (PyData.depthAll (args.map .int) + 1) 0)))) + 1 ≤ 60
    omega
end Pk
set_option Elab.async false
set_option linter.all false
set_option maxRecDepth 100000
set_option maxHeartbeats 4000000
/-! how long the text of data is; no row -/
namespace Pk
open PySem PySem.Spec PyProof.Rows L2
/-- data whose text is short: bulk at most b, depth at most k -/
structure Ft (d : PyData) (b k : Nat) : Prop where
  sh : d.showable = true
  lf : PyData.leavesShort 100 d = true
  bk : d.bulk ≤ b
  dp : d.depth ≤ k
structure FtA (ds : List PyData) (b k : Nat) : Prop where
  sh : PyData.showableAll ds = true
  lf : PyData.leavesShortAll 100 ds = true
  bk : PyData.bulkAll ds ≤ b
  dp : PyData.depthAll ds ≤ k
theorem Ft.up {d : PyData} {b k b' k' : Nat} (h : Ft d b k) (hb : b ≤ b') (hk : k ≤ k') : Ft d b' k' := ⟨h.sh, h.lf, Nat.le_trans h.bk hb, Nat.le_trans h.dp hk⟩
theorem FtA.up {d : List PyData} {b k b' k' : Nat} (h : FtA d b k) (hb : b ≤ b') (hk : k ≤ k') : FtA d b' k' := ⟨h.sh, h.lf, Nat.le_trans h.bk hb, Nat.le_trans h.dp hk⟩
theorem Ft.str {x : Str} {n : Nat} (h : PyData.strOk x = true) (hl : x.length ≤ n) : Ft (.str x) n 0 := by
  refine ⟨rfl, ?_, hl, Nat.le_refl _⟩
  show (x.cps.toList.all fun c => decide (c < 16 ^ 8)) = true
  have h' : (x.cps.all fun c => decide (c < 1114112)) = true := h
  rw [← Array.all_toList, List.all_eq_true] at h'
  rw [List.all_eq_true]
  intro c hc
  have h1 : c < 1114112 := of_decide_eq_true (h' c hc)
  exact decide_eq_true (Nat.lt_trans h1 (by decide))
theorem Ft.int {n : Int} (h : smI n) : Ft (.int n) 0 0 := ⟨smI_show h, smI_short h, Nat.le_refl _, Nat.le_refl _⟩
theorem Ft.non : Ft .none 0 0 := ⟨rfl, rfl, Nat.le_refl _, Nat.le_refl _⟩
theorem Ft.bool (b : Bool) : Ft (.bool b) 0 0 := ⟨rfl, rfl, Nat.le_refl _, Nat.le_refl _⟩
theorem FtA.nil : FtA [] 0 0 := ⟨rfl, rfl, Nat.le_refl _, Nat.le_refl _⟩
theorem FtA.cons {d : PyData} {ds : List PyData} {b b' k k' : Nat} (h : Ft d b k) (r : FtA ds b' k') : FtA (d :: ds) (b + 1 + b') (max k k') := by
  refine ⟨?_, ?_, ?_, ?_⟩
  · show (d.showable && PyData.showableAll ds) = true
    rw [h.sh, r.sh]
    rfl
  · show (PyData.leavesShort 100 d && PyData.leavesShortAll 100 ds) = true
    rw [h.lf, r.lf]
    rfl
  · show d.bulk + 1 + PyData.bulkAll ds ≤ b + 1 + b'
    have h1 := h.bk
    have h2 := r.bk
    omega
  · show max d.depth (PyData.depthAll ds) ≤ max k k'
    have h1 := h.dp
    have h2 := r.dp
    omega
theorem FtA.app {ds es : List PyData} {b b' k : Nat} (h : FtA ds b k) (r : FtA es b' k) : FtA (ds ++ es) (b + b') k := by
  induction ds generalizing b with
  | nil => exact r.up (by omega) (Nat.le_refl _)
  | cons d l ih =>
    have h1 : d.showable = true ∧ PyData.showableAll l = true := Bool.and_eq_true_iff.mp h.sh
    have h2 : PyData.leavesShort 100 d = true ∧ PyData.leavesShortAll 100 l = true := Bool.and_eq_true_iff.mp h.lf
    have h3 : d.bulk + 1 + PyData.bulkAll l ≤ b := h.bk
    have h4 : max d.depth (PyData.depthAll l) ≤ k := h.dp
    have h5 := FtA.cons (b := d.bulk) (k := k) ⟨h1.1, h2.1, Nat.le_refl _, by omega⟩ (ih (b := PyData.bulkAll l) ⟨h1.2, h2.2, Nat.le_refl _, by omega⟩)
    exact h5.up (by omega) (by omega)
theorem FtA.map {α : Type} {f : α → PyData} {b k : Nat} : ∀ {l : List α} {n : Nat}, (∀ x ∈ l, Ft (f x) b k) → l.length ≤ n → FtA (l.map f) ((b + 1) * n) k
  | [], n, _, _ => FtA.nil.up (Nat.zero_le _) (Nat.zero_le _)
  | x :: l, 0, _, h => absurd h (Nat.not_succ_le_zero _)
  | x :: l, n + 1, hf, h => by
    have h1 := FtA.map (l := l) (n := n) (fun y hy => hf y (List.mem_cons_of_mem _ hy)) (Nat.le_of_succ_le_succ h)
    refine (FtA.cons (hf x List.mem_cons_self) h1).up ?_ (by omega)
    rw [Nat.mul_succ]
    omega
theorem Ft.lst {ds : List PyData} {b k : Nat} (h : FtA ds b k) : Ft (.list ds) b (k + 1) := ⟨h.sh, h.lf, h.bk, Nat.succ_le_succ h.dp⟩
theorem Ft.tup {ds : List PyData} {b k : Nat} (h : FtA ds b k) : Ft (.tuple ds) b (k + 1) := ⟨h.sh, h.lf, h.bk, Nat.succ_le_succ h.dp⟩
/-- what repr asks -/
theorem Ft.repr {d : PyData} {b k : Nat} (h : Ft d b k) (hb : b ≤ 150000) (hk : k ≤ 60) : d.showable = true ∧ d.shown.length ≤ sizeLine ∧ d.depth ≤ 60 := by
  refine ⟨h.sh, ?_, Nat.le_trans h.dp hk⟩
  have h1 := PyData.shown_le_bulk 100 (by decide) _ h.lf
  have h2 := h.bk
  rw [sizeLine_eq]
  omega
end Pk
set_option Elab.async false
set_option linter.all false
set_option maxRecDepth 100000
set_option maxHeartbeats 4000000
/-! the text of a drawn program is short -/
namespace Pk
open PySem PySem.Spec PyProof.Rows L2 SX GxR Tk
def Sx (x : Str) : Prop := PyData.strOk x = true ∧ x.length ≤ 20
theorem Sx.ft {x : Str} (h : Sx x) : Ft (.str x) 20 0 := Ft.str h.1 h.2
theorem sx_nm {k : Nat} {x : Str} (h : NmK k x) (hk : k < 10) : Sx x := ⟨nm_ok h hk, Nat.le_trans (nm_len h).2 (by decide)⟩
theorem nat_sm {n : Nat} (h : n ≤ 1000) : smI (n : Nat) := ⟨by omega, by omega⟩
/-- the parts of a drawn program, with what is known of each -/
structure PgF (nm : Str) (hs : List Hd) (m : List Fl) (sts : List Sa) (n : Nat) (acs : List Ac) (tbs : List Tb) (ct : Ct) (em : List Str) (n2 : Nat) (rest : List Str) : Prop where
  nm : NmK 9 nm
  wh : WfH hs
  h1 : 1 ≤ hs.length
  h6 : hs.length ≤ 6
  wm : WfM m
  sa : SasOk hs sts
  n1 : n ≤ 1
  ac : AcsOk hs (refsOf hs m) acs
  t1 : 1 ≤ tbs.length
  t8 : tbs.length ≤ 8
  tb : ∀ i t, tbs[i]? = some t → TbOk (refsOf hs m) acs i t
  co : CtOk hs (refsOf hs m) ct
  cz : sz ct ≤ 12
  cd : dpt ct ≤ 6
  cn : ct ≠ .nil
  ap : (aps ct ++ rest).Perm (tbs.map Tb.name)
  em : em.Sublist (hs.map Prod.fst)
  n2 : n2 ≤ 1
def RfS (r : Rf) : Prop := Sx r.1 ∧ Sx r.2.1 ∧ r.2.2 ≤ 32
theorem fl_sx {fs : List Fl} (h : WfG fs) (hl : fs.length ≤ 10) {f : Fl} (hf : f ∈ fs) : Sx f.1 ∧ f.2 ≤ 32 := by
  have h1 := fs_ok h hl hf
  obtain ⟨j, e⟩ := List.mem_iff_getElem?.mp hf
  obtain ⟨_, h2, _, h4⟩ := h j f e
  exact ⟨⟨h1.1, h2⟩, h4⟩
theorem hd_sx {hs : List Hd} (wh : WfH hs) (h6 : hs.length ≤ 6) {h : Hd} (hh : h ∈ hs) : Sx h.1 ∧ WfF h.2 := by
  obtain ⟨i, ei⟩ := List.mem_iff_getElem?.mp hh
  have hi := (List.getElem?_eq_some_iff.mp ei).1
  obtain ⟨a, b⟩ := wh i h ei
  exact ⟨sx_nm a (by omega), b⟩
theorem sx_meta : Sx (Str.ofString "meta") := by unfold Sx; decide +kernel
theorem sx_port : Sx (Str.ofString "packet") ∧ Sx (Str.ofString "port") := by unfold Sx; decide +kernel
theorem refs_sx {hs : List Hd} {m : List Fl} (wh : WfH hs) (h6 : hs.length ≤ 6) (wm : WfM m) : ∀ r ∈ refsOf hs m, RfS r := by
  intro r hr
  rcases List.mem_append.mp hr with hr | hr
  · rcases List.mem_cons.mp hr with rfl | hr
    · exact ⟨sx_port.1, sx_port.2, by decide⟩
    · obtain ⟨h, hh, hf⟩ := List.mem_flatMap.mp hr
      obtain ⟨f, hf2, rfl⟩ := List.mem_map.mp hf
      obtain ⟨a, b⟩ := hd_sx wh h6 hh
      have := fl_sx b.2.2.1 (Nat.le_trans b.2.1 (by decide)) hf2
      exact ⟨a, this⟩
  · obtain ⟨f, hf2, rfl⟩ := List.mem_map.mp hr
    have := fl_sx wm.2 (Nat.le_trans wm.1 (by decide)) hf2
    exact ⟨sx_meta, this⟩
theorem own_sx {hs : List Hd} (wh : WfH hs) (h6 : hs.length ≤ 6) {k : Nat} {t : Option Str} : ∀ r ∈ ownRefs hs k t, RfS r := by
  intro r hr
  unfold ownRefs at hr
  split at hr
  · rename_i h e
    obtain ⟨f, hf2, rfl⟩ := List.mem_map.mp hr
    obtain ⟨a, b⟩ := hd_sx wh h6 (List.mem_of_getElem? e)
    have := fl_sx b.2.2.1 (Nat.le_trans b.2.1 (by decide)) hf2
    exact ⟨a, this⟩
  · cases hr
theorem sx_end : Sx (Str.ofString "accept") ∧ Sx (Str.ofString "reject") ∧ Sx (Str.ofString "start") := by unfold Sx; decide +kernel
theorem ns_sx {ns : List Str} (h : NsOk ns) : ∀ x ∈ ns, Sx x := by
  intro x hx
  obtain ⟨j, e⟩ := List.mem_iff_getElem?.mp hx
  have hj := (List.getElem?_eq_some_iff.mp e).1
  obtain ⟨h1, h2, h3, h4⟩ := h
  by_cases h0 : j = 0
  · subst h0
    rw [h3] at e
    cases e
    exact sx_end.2.2
  · exact sx_nm (h4 j x (by omega) e) (by omega)
theorem goal_sx {ns : List Str} {g : Str} (h : ∀ x ∈ ns, Sx x) (hg : Goal ns g) : Sx g := by
  rcases hg with rfl | rfl | hg
  · exact sx_end.1
  · exact sx_end.2.1
  · exact h _ hg
theorem pow_sm {n : Int} {w : Nat} (h0 : 0 ≤ n) (h1 : n < 2 ^ w) (hw : w ≤ 32) : smI n := by
  have := (pow32 hw).2
  exact ⟨by omega, by omega⟩
theorem ft_fl {f : Fl} (h : Sx f.1 ∧ f.2 ≤ 32) : Ft (.tuple (flL f)) 22 1 := (Ft.tup (.cons h.1.ft (.cons (.int (nat_sm (by omega))) .nil))).up (by decide) (by decide)
theorem ft_fls {fs : List Fl} (h : WfG fs) (hl : fs.length ≤ 8) : Ft (flsD fs) 200 2 :=
  (Ft.lst (FtA.map (n := 8) (fun f hf => ft_fl (fl_sx h (Nat.le_trans hl (by decide)) hf)) hl)).up (by decide) (by decide)
theorem ft_s {x : String} {n : Nat} (h : (PyData.strOk (Str.ofString x) && decide ((Str.ofString x).length ≤ n)) = true) : Ft (.str (Str.ofString x)) n 0 := by
  have := Bool.and_eq_true_iff.mp h
  exact Ft.str this.1 (of_decide_eq_true this.2)
theorem ft_hd {h : Hd} (hx : Sx h.1 ∧ WfF h.2) : Ft (.tuple (hdL h)) 230 3 :=
  (Ft.tup (.cons (ft_s (n := 6) (by decide +kernel)) (.cons hx.1.ft (.cons (ft_fls hx.2.2.2.1 hx.2.2.1) .nil)))).up (by decide) (by decide)
theorem ft_hds {hs : List Hd} (wh : WfH hs) (h6 : hs.length ≤ 6) : Ft (hdsD hs) 1400 4 :=
  (Ft.lst (FtA.map (n := 6) (fun h hh => ft_hd (hd_sx wh h6 hh)) h6)).up (by decide) (by decide)
theorem ft_opS {t : Option Str} (h : ∀ x, t = some x → Sx x) : Ft (opS t) 20 0 := by
  cases t with
  | none => exact Ft.non.up (by decide) (by decide)
  | some x => exact (h x rfl).ft
theorem ft_opI {t : Option Int} (h : ∀ x, t = some x → smI x) : Ft (opI t) 0 0 := by
  cases t with
  | none => exact Ft.non
  | some x => exact Ft.int (h x rfl)
theorem ft_nx {rs : List Rf} {ns : List Str} {x : Nx} (hr : ∀ r ∈ rs, RfS r) (hn : ∀ x ∈ ns, Sx x) (h : NxOk rs ns x) : Ft (.tuple (nxL x)) 300 3 := by
  cases x with
  | go t => exact (Ft.tup (.cons (ft_s (n := 2) (by decide +kernel)) (.cons (goal_sx hn h).ft .nil))).up (by decide) (by decide)
  | sel o n rows other =>
    obtain ⟨⟨w, hw, hrow⟩, hl, hg⟩ := h
    have h2 := hr _ hw
    have hw32 : w ≤ 32 := h2.2.2
    refine (Ft.tup (.cons (ft_s (n := 6) (by decide +kernel)) (.cons (Ft.tup (.cons h2.1.ft (.cons h2.2.1.ft .nil))) (.cons (Ft.lst (FtA.map (b := 23) (k := 1) (n := 8) (fun r hm => ?_) hl)) (.cons (goal_sx hn hg).ft .nil))))).up (by decide) (by decide)
    obtain ⟨a0, a1, a2, a3, a4⟩ := hrow r hm
    exact (Ft.tup (.cons (.int ⟨by omega, by omega⟩) (.cons (ft_opI fun x e => pow_sm (a3 x e).1 (a3 x e).2.1 hw32) (.cons (goal_sx hn a4).ft .nil)))).up (by decide) (by decide)
theorem ft_sa {hs : List Hd} {sts : List Sa} (wh : WfH hs) (h6 : hs.length ≤ 6) (h : SasOk hs sts) : sts.length ≤ 8 ∧ ∀ a ∈ sts, Ft (.tuple (saL a)) 360 4 := by
  obtain ⟨ns, hns, hl, ha⟩ := h
  have hsx := ns_sx hns
  refine ⟨by have := hns.2.1; omega, fun a hm => ?_⟩
  obtain ⟨k, ek⟩ := List.mem_iff_getElem?.mp hm
  obtain ⟨b1, b2, b3⟩ := ha k a ek
  refine (Ft.tup (.cons (ft_s (n := 5) (by decide +kernel)) (.cons (hsx _ (List.mem_of_getElem? b1)).ft (.cons (ft_opS fun x e => ?_) (.cons (ft_nx (fun r hr => ?_) (fun x hx => hsx x (List.mem_of_mem_drop hx)) b3) .nil))))).up (by decide) (by decide)
  · rcases b2 with h | ⟨h, e2, e3⟩
    · rw [h] at e
      cases e
    · rw [e3] at e
      cases e
      exact (hd_sx wh h6 (List.mem_of_getElem? e2)).1
  · have hp : RfS portR := ⟨sx_port.1, sx_port.2, by decide⟩
    rcases List.mem_append.mp hr with hr | hr
    · split at hr
      · obtain rfl := List.mem_singleton.mp hr
        exact hp
      · rcases List.mem_append.mp hr with hr | hr
        · obtain rfl := List.mem_singleton.mp hr
          exact hp
        · exact own_sx wh h6 r hr
    · exact own_sx wh h6 r hr
theorem sx_sign {op : Str} (h : op ∈ signs) : Sx op := by
  have : ∀ x ∈ signs, Sx x := by unfold Sx; decide +kernel
  exact this op h
theorem ft_od {rs : List Rf} {ps : List Fl} {o : Od} (hr : ∀ r ∈ rs, RfS r) (hp : ∀ f ∈ ps, Sx f.1 ∧ f.2 ≤ 32) (h : OdOk rs ps o) : Ft (.tuple (odL o)) 48 1 := by
  cases o with
  | num n => exact (Ft.tup (.cons (ft_s (n := 3) (by decide +kernel)) (.cons (.int ⟨by have := h.1; omega, by have := h.2; omega⟩) .nil))).up (by decide) (by decide)
  | par x =>
    obtain ⟨w, hw⟩ := h
    exact (Ft.tup (.cons (ft_s (n := 5) (by decide +kernel)) (.cons (hp _ hw).1.ft .nil))).up (by decide) (by decide)
  | fld o n =>
    obtain ⟨w, hw⟩ := h
    exact (Ft.tup (.cons (ft_s (n := 5) (by decide +kernel)) (.cons (hr _ hw).1.ft (.cons (hr _ hw).2.1.ft .nil)))).up (by decide) (by decide)
theorem ft_ex {rs : List Rf} {ps : List Fl} {x : Ex} (hr : ∀ r ∈ rs, RfS r) (hp : ∀ f ∈ ps, Sx f.1 ∧ f.2 ≤ 32) (h : ExOk rs ps x) : Ft (.tuple (exL x)) 130 2 := by
  cases x with
  | one a => exact (ft_od hr hp h).up (by decide) (by decide)
  | two op a b => exact (Ft.tup (.cons (sx_sign h.1).ft (.cons (ft_od hr hp h.2.1) (.cons (ft_od hr hp h.2.2) .nil)))).up (by decide) (by decide)
theorem ft_op {hs : List Hd} {rs : List Rf} {ps : List Fl} {o : Op} (wh : WfH hs) (h6 : hs.length ≤ 6) (hr : ∀ r ∈ rs, RfS r) (hp : ∀ f ∈ ps, Sx f.1 ∧ f.2 ≤ 32) (h : OpOk hs rs ps o) : Ft (.tuple (opL o)) 190 3 := by
  cases o with
  | set o n e =>
    obtain ⟨⟨w, hw⟩, he⟩ := h
    have h2 := hr _ (List.mem_of_mem_drop hw)
    exact (Ft.tup (.cons (ft_s (n := 3) (by decide +kernel)) (.cons (Ft.tup (.cons h2.1.ft (.cons h2.2.1.ft .nil))) (.cons (ft_ex hr hp he) .nil)))).up (by decide) (by decide)
  | drp => exact (Ft.tup (.cons (ft_s (n := 4) (by decide +kernel)) .nil)).up (by decide) (by decide)
  | add h' =>
    obtain ⟨x, hx, rfl⟩ := h
    exact (Ft.tup (.cons (ft_s (n := 3) (by decide +kernel)) (.cons (hd_sx wh h6 hx).1.ft .nil))).up (by decide) (by decide)
  | rem h' =>
    obtain ⟨x, hx, rfl⟩ := h
    exact (Ft.tup (.cons (ft_s (n := 6) (by decide +kernel)) (.cons (hd_sx wh h6 hx).1.ft .nil))).up (by decide) (by decide)
  | snd e => exact (Ft.tup (.cons (ft_s (n := 4) (by decide +kernel)) (.cons (ft_ex hr hp h) .nil))).up (by decide) (by decide)
theorem ft_ac {hs : List Hd} {rs : List Rf} {k : Nat} {a : Ac} (wh : WfH hs) (h6 : hs.length ≤ 6) (hr : ∀ r ∈ rs, RfS r) (hk : k < 10) (h : AcOk hs rs k a) : Ft (.tuple (acL a)) 1800 5 := by
  obtain ⟨h1, h2, h3, h4, h5⟩ := h
  exact (Ft.tup (.cons (ft_s (n := 6) (by decide +kernel)) (.cons (sx_nm h1 hk).ft (.cons (ft_fls h3 (Nat.le_trans h2 (by decide))) (.cons (Ft.lst (FtA.map (b := 190) (k := 3) (n := 8) (fun o ho => ft_op wh h6 hr (fun f hf => fl_sx h3 (Nat.le_trans h2 (by decide)) hf) (h5 o ho)) h4)) .nil))))).up (by decide) (by decide)
theorem ft_acs {hs : List Hd} {rs : List Rf} {l : List Ac} (wh : WfH hs) (h6 : hs.length ≤ 6) (hr : ∀ r ∈ rs, RfS r) (h : AcsOk hs rs l) : Ft (acsD l) 14500 6 := by
  refine (Ft.lst (FtA.map (b := 1800) (k := 5) (n := 8) (fun a ha => ?_) h.2.1)).up (by decide) (by decide)
  obtain ⟨k, ek⟩ := List.mem_iff_getElem?.mp ha
  have hk := (List.getElem?_eq_some_iff.mp ek).1
  exact ft_ac wh h6 hr (by have := h.2.1; omega) (h.2.2 k a ek)
theorem sx_kind {k : Str} (h : k ∈ kinds3) : Sx k := by
  have : ∀ x ∈ kinds3, Sx x := by unfold Sx; decide +kernel
  exact this k h
theorem acs_sx {hs : List Hd} {rs : List Rf} {l : List Ac} (h : AcsOk hs rs l) : ∀ a ∈ l, Sx a.name ∧ a.ps.length ≤ 4 ∧ WfG a.ps := by
  intro a ha
  obtain ⟨k, ek⟩ := List.mem_iff_getElem?.mp ha
  have hk := (List.getElem?_eq_some_iff.mp ek).1
  have := h.2.2 k a ek
  exact ⟨sx_nm this.1 (by have := h.2.1; omega), this.2.1, this.2.2.1⟩
theorem args_sm {ps : List Fl} {ns : List Int} (hw : WfG ps) (hl : ps.length ≤ 10) (h : ArgsOk ps ns) : ∀ n ∈ ns, smI n := by
  intro n hn
  obtain ⟨i, ei⟩ := List.mem_iff_getElem?.mp hn
  have hi := (List.getElem?_eq_some_iff.mp ei).1
  have hip : i < ps.length := by
    have := h.1
    omega
  have e : ps[i]? = some ps[i] := List.getElem?_eq_getElem hip
  obtain ⟨h0, h1⟩ := h.2 i _ n e ei
  exact pow_sm h0 h1 (fl_sx hw hl (List.mem_of_getElem? e)).2
theorem ft_tb {hs : List Hd} {rs : List Rf} {acs : List Ac} {k : Nat} {t : Tb} (hr : ∀ r ∈ rs, RfS r) (ha : AcsOk hs rs acs) (hk : k < 10) (h : TbOk rs acs k t) : Sx t.name ∧ Ft (.tuple (tbL t)) 520 4 := by
  obtain ⟨h1, h2, ⟨n, hn, hu⟩, h4, ⟨a, ham, han, haa⟩, h6, h7⟩ := h
  have hx := acs_sx ha
  have hus : ∀ x ∈ t.uses, Sx x := by
    intro x hxm
    rw [hu] at hxm
    obtain ⟨b, hb, rfl⟩ := List.mem_map.mp hxm
    exact (hx b (List.mem_of_mem_drop hb)).1
  have hul : t.uses.length ≤ 8 := by
    rw [hu, List.length_map, List.length_drop]
    have := ha.2.1
    omega
  have hal : t.da.length ≤ 4 := by
    rw [haa.1]
    exact (hx a ham).2.1
  refine ⟨sx_nm h1 hk, (Ft.tup (.cons (ft_s (n := 5) (by decide +kernel)) (.cons (sx_nm h1 hk).ft (.cons (Ft.lst (FtA.map (b := 64) (k := 2) (n := 4) (fun y hy => ?_) h2.1)) (.cons (Ft.lst (FtA.map (b := 20) (k := 0) (n := 8) (fun x hxm => (hus x hxm).ft) hul)) (.cons (Ft.tup (.cons (hus _ h4).ft (.cons (Ft.lst (FtA.map (b := 0) (k := 0) (n := 4) (fun x hxm => Ft.int (args_sm (hx a ham).2.2 (Nat.le_trans (hx a ham).2.1 (by decide)) haa x hxm)) hal)) .nil))) (.cons (.int (nat_sm (by omega))) .nil))))))).up (by decide) (by decide)⟩
  obtain ⟨⟨w, hw⟩, hkd⟩ := h2.2.1 y hy
  have := hr _ hw
  exact (Ft.tup (.cons (Ft.tup (.cons this.1.ft (.cons this.2.1.ft .nil))) (.cons (sx_kind hkd).ft .nil))).up (by decide) (by decide)
theorem sx_cmp {k : Str} (h : k ∈ ops2) : Sx k := by
  have : ∀ x ∈ ops2, Sx x := by unfold Sx; decide +kernel
  exact this k h
theorem ft_tt {hs : List Hd} {rs : List Rf} (wh : WfH hs) (h6 : hs.length ≤ 6) (hr : ∀ r ∈ rs, RfS r) : ∀ {t : Tt} {n : Nat}, TtOk hs rs t → nots t ≤ n → Ft (.tuple (ttL t)) (70 + 5 * n) (2 + n)
  | .no t, 0, _, hn => absurd hn (Nat.not_succ_le_zero _)
  | .no t, n + 1, h, hn => (Ft.tup (.cons (ft_s (n := 3) (by decide +kernel)) (.cons (ft_tt wh h6 hr (t := t) (n := n) h (Nat.le_of_succ_le_succ hn)) .nil))).up (by omega) (by omega)
  | .vld h', n, h, _ => by
    obtain ⟨x, hx, rfl⟩ := h
    exact (Ft.tup (.cons (ft_s (n := 5) (by decide +kernel)) (.cons (hd_sx wh h6 hx).1.ft .nil))).up (by omega) (by omega)
  | .cmp op o n v, k, h, _ => by
    obtain ⟨h1, w, hw, h2, h3⟩ := h
    have := hr _ hw
    exact (Ft.tup (.cons (sx_cmp h1).ft (.cons (Ft.tup (.cons this.1.ft (.cons this.2.1.ft .nil))) (.cons (.int (pow_sm h2 h3 this.2.2)) .nil)))).up (by omega) (by omega)
theorem ft_ct {hs : List Hd} {rs : List Rf} (wh : WfH hs) (h6 : hs.length ≤ 6) (hr : ∀ r ∈ rs, RfS r) : ∀ {c : Ct}, CtOk hs rs c → (∀ x ∈ aps c, Sx x) → FtA (ctD c) (120 * sz c) (2 * dpt c + 6)
  | .nil, _, _ => FtA.nil.up (by omega) (by omega)
  | .ap t r, h, hx => by
    have h1 := ft_ct wh h6 hr (c := r) h fun x hm => hx x (List.mem_cons_of_mem _ hm)
    have h2 := FtA.cons (Ft.tup (.cons (ft_s (x := "apply") (n := 5) (by decide +kernel)) (.cons (hx t List.mem_cons_self).ft .nil))) h1
    exact h2.up (by show _ ≤ 120 * (sz r + 1); omega) (by show _ ≤ 2 * dpt r + 6; omega)
  | .cf t x y r, h, hx => by
    obtain ⟨a, b, c, d, e⟩ := h
    have hm : ∀ z, z ∈ aps x ∨ z ∈ aps y ∨ z ∈ aps r → Sx z := fun z hz => hx z (by
      show z ∈ aps x ++ aps y ++ aps r
      rw [List.mem_append, List.mem_append]
      rcases hz with h | h | h
      · exact .inl (.inl h)
      · exact .inl (.inr h)
      · exact .inr h)
    have h1 := ft_ct wh h6 hr (c := x) c fun z hz => hm z (.inl hz)
    have h2 := ft_ct wh h6 hr (c := y) d fun z hz => hm z (.inr (.inl hz))
    have h3 := ft_ct wh h6 hr (c := r) e fun z hz => hm z (.inr (.inr hz))
    have h4 := ft_tt wh h6 hr (t := t) (n := 3) a b
    have h5 := FtA.cons (Ft.tup (.cons (ft_s (x := "if") (n := 2) (by decide +kernel)) (.cons h4 (.cons (Ft.lst h1) (.cons (Ft.lst h2) .nil))))) h3
    exact h5.up (by show _ ≤ 120 * (sz x + sz y + sz r + 1); omega) (by show _ ≤ 2 * (max (max (dpt x) (dpt y) + 1) (dpt r)) + 6; omega)
theorem PgF.ft {nm : Str} {hs : List Hd} {m : List Fl} {sts : List Sa} {n : Nat} {acs : List Ac} {tbs : List Tb} {ct : Ct} {em : List Str} {n2 : Nat} {rest : List Str} (h : PgF nm hs m sts n acs tbs ct em n2 rest) :
    Ft (.tuple (pgL nm hs m (sts.drop n ++ sts.take n) acs tbs ct (em.drop n2 ++ em.take n2))) 30000 30 := by
  have hr := refs_sx h.wh h.h6 h.wm
  have hsa := ft_sa h.wh h.h6 h.sa
  have htb : ∀ t ∈ tbs, Sx t.name ∧ Ft (.tuple (tbL t)) 520 4 := by
    intro t ht
    obtain ⟨k, ek⟩ := List.mem_iff_getElem?.mp ht
    have hk := (List.getElem?_eq_some_iff.mp ek).1
    exact ft_tb hr h.ac (by have := h.t8; omega) (h.tb k t ek)
  have hap : ∀ x ∈ aps ct, Sx x := by
    intro x hx
    have := h.ap.mem_iff.mp (List.mem_append_left rest hx)
    obtain ⟨t, ht, rfl⟩ := List.mem_map.mp this
    exact (htb t ht).1
  have hct := ft_ct h.wh h.h6 hr h.co hap
  have hem : ∀ x ∈ em, Sx x := by
    intro x hx
    obtain ⟨a, ha, rfl⟩ := List.mem_map.mp (h.em.subset hx)
    exact (hd_sx h.wh h.h6 ha).1
  have heml : em.length ≤ 6 := by
    have := h.em.length_le
    rw [List.length_map] at this
    have := h.h6
    omega
  have hst : FtA ((sts.drop n ++ sts.take n).map fun a => .tuple (saL a)) (361 * 8) 4 := FtA.map (fun a ha => by
    rcases List.mem_append.mp ha with ha | ha
    · exact hsa.2 a (List.mem_of_mem_drop ha)
    · exact hsa.2 a (List.mem_of_mem_take ha)) (by rw [List.length_append, List.length_drop, List.length_take]; have := hsa.1; omega)
  have hemA : FtA ((em.drop n2 ++ em.take n2).map .str) (21 * 6) 0 := FtA.map (fun a ha => by
    rcases List.mem_append.mp ha with ha | ha
    · exact (hem a (List.mem_of_mem_drop ha)).ft
    · exact (hem a (List.mem_of_mem_take ha)).ft) (by rw [List.length_append, List.length_drop, List.length_take]; omega)
  have hc1 := h.cz
  have hc2 := h.cd
  refine (Ft.tup (.cons (ft_s (n := 7) (by decide +kernel)) (.cons (sx_nm h.nm (by decide)).ft (.cons (ft_hds h.wh h.h6) (.cons (ft_fls h.wm.2 (Nat.le_trans h.wm.1 (by decide))) (.cons (Ft.lst hst) (.cons (ft_acs h.wh h.h6 hr h.ac) (.cons (Ft.lst (FtA.map (b := 520) (k := 4) (n := 8) (fun t ht => (htb t ht).2) h.t8)) (.cons (Ft.lst hct) (.cons (Ft.lst hemA) .nil)))))))))).up ?_ ?_
  · omega
  · omega
end Pk
set_option Elab.async false
set_option linter.all false
set_option maxRecDepth 100000
set_option maxHeartbeats 4000000
namespace Pk
open PySem PySem.Spec PyProof.Rows L2 SX GxR Tk
/-! ### where a place stands -/
theorem at_mid {α : Type} (l1 l2 : List α) (z : α) : (l1 ++ z :: l2)[l1.length]? = some z ∧ ∀ n z', n < l1.length → (l1 ++ z :: l2)[n]? = some z' → z' ∈ l1 := by
  refine ⟨?_, fun n z' hn e => ?_⟩
  · rw [List.getElem?_append_right (Nat.le_refl _), Nat.sub_self]
    rfl
  · rw [List.getElem?_append_left hn] at e
    exact List.mem_of_getElem? e
def hPl (h : Hd) : List PyData := .str h.1 :: h.2.map fun f => .tuple [.str h.1, .str f.1]
def mPl (m : List Fl) : List PyData := m.map fun f => .tuple [.str "meta", .str f.1]
theorem placesL_eq (hs : List Hd) (m : List Fl) : placesL hs m = .tuple [.str "packet", .str "port"] :: .none :: (hs.flatMap hPl ++ mPl m) := by
  unfold placesL cellsL
  rw [List.map_cons, List.map_cons, List.map_append, List.map_flatMap]
  have e1 : (hs.flatMap fun a => List.map Prod.fst (hCells a)) = hs.flatMap hPl := by
    congr 1
    funext h
    show _ :: _ = _ :: _
    rw [List.map_map]
    rfl
  have e2 : (mCells m).map Prod.fst = mPl m := by
    unfold mCells mPl
    rw [List.map_map]
    rfl
  rw [e1, e2]
def posOf (hs : List Hd) (i : Nat) : Nat := 2 + ((hs.take i).flatMap hPl).length
theorem pl_split {hs : List Hd} {i : Nat} {h : Hd} (m : List Fl) (e : hs[i]? = some h) : placesL hs m = (.tuple [.str "packet", .str "port"] :: .none :: (hs.take i).flatMap hPl) ++ (hPl h ++ ((hs.drop (i + 1)).flatMap hPl ++ mPl m)) := by
  rw [placesL_eq]
  have hi := (List.getElem?_eq_some_iff.mp e).1
  have e1 : hs = hs.take i ++ h :: hs.drop (i + 1) := by
    have := (List.take_append_drop i hs).symm
    rw [List.drop_eq_getElem_cons hi, (List.getElem?_eq_some_iff.mp e).2] at this
    exact this
  show _ :: _ :: _ = _ :: _ :: _
  congr 2
  conv => lhs; rw [e1]
  rw [List.flatMap_append, List.flatMap_cons, List.append_assoc, List.append_assoc]
  rfl
theorem eqv_ts (a : List PyData) (x : Str) : PyData.eqv (.tuple a) (.str x) = false := by unfold PyData.eqv; rfl
theorem eqv_ns (x : Str) : PyData.eqv .none (.str x) = false := by unfold PyData.eqv; rfl
theorem eqv_nt (a : List PyData) : PyData.eqv .none (.tuple a) = false := by unfold PyData.eqv; rfl
theorem eqv_st (x : Str) (a : List PyData) : PyData.eqv (.str x) (.tuple a) = false := by unfold PyData.eqv; rfl
theorem eqv_ss (x y : Str) : PyData.eqv (.str x) (.str y) = decide (x = y) := rfl
theorem eqv_tt (a b c d : Str) : PyData.eqv (.tuple [.str a, .str b]) (.tuple [.str c, .str d]) = decide ((a, b) = (c, d)) := eqv_pr' (a, b) (c, d)
theorem nm_ne_str {k : Nat} {x : Str} (h : NmK k x) (hk : k < 10) (y : Str) (hy : digOf y = none) : x ≠ y := fun e => by
  have h1 := digOf_nm h hk
  rw [e, hy] at h1
  cases h1
theorem dg_packet : digOf (Str.ofString "packet") = none ∧ digOf (Str.ofString "meta") = none := by decide +kernel
theorem pm_ne : Str.ofString "packet" ≠ Str.ofString "meta" := by decide +kernel
/-- a header ahead has another name -/
theorem ahead_ne {hs : List Hd} (wh : WfH hs) (h6 : hs.length ≤ 6) {i : Nat} {h h' : Hd} (e : hs[i]? = some h) (hm : h' ∈ hs.take i) : h'.1 ≠ h.1 := by
  obtain ⟨a, ea⟩ := List.mem_iff_getElem?.mp hm
  have hi := (List.getElem?_eq_some_iff.mp e).1
  have ha := (List.getElem?_eq_some_iff.mp ea).1
  rw [List.length_take] at ha
  rw [List.getElem?_take_of_lt (by omega)] at ea
  intro z
  have := nm_inj (wh a h' ea).1 (wh i h e).1 (by omega) (by omega) z
  omega
theorem ahead_str {hs : List Hd} (wh : WfH hs) (h6 : hs.length ≤ 6) {i : Nat} {h : Hd} (e : hs[i]? = some h) : ∀ z ∈ (PyData.tuple [.str "packet", .str "port"] :: .none :: (hs.take i).flatMap hPl), PyData.eqv z (.str h.1) = false := by
  intro z hz
  rcases List.mem_cons.mp hz with rfl | hz
  · exact eqv_ts _ _
  rcases List.mem_cons.mp hz with rfl | hz
  · exact eqv_ns _
  obtain ⟨h', hm, hz⟩ := List.mem_flatMap.mp hz
  rcases List.mem_cons.mp hz with rfl | hz
  · rw [eqv_ss]
    exact decide_eq_false (ahead_ne wh h6 e hm)
  · obtain ⟨f, _, rfl⟩ := List.mem_map.mp hz
    exact eqv_ts _ _
theorem ahead_tup {hs : List Hd} (wh : WfH hs) (h6 : hs.length ≤ 6) {i : Nat} {h : Hd} (x : Str) (e : hs[i]? = some h) : ∀ z ∈ (PyData.tuple [.str "packet", .str "port"] :: .none :: (hs.take i).flatMap hPl), PyData.eqv z (.tuple [.str h.1, .str x]) = false := by
  have hi := (List.getElem?_eq_some_iff.mp e).1
  intro z hz
  rcases List.mem_cons.mp hz with rfl | hz
  · rw [eqv_tt]
    refine decide_eq_false fun z => ?_
    exact nm_ne_str (wh i h e).1 (by omega) _ dg_packet.1 (Prod.mk.inj z).1.symm
  rcases List.mem_cons.mp hz with rfl | hz
  · exact eqv_nt _
  obtain ⟨h', hm, hz⟩ := List.mem_flatMap.mp hz
  rcases List.mem_cons.mp hz with rfl | hz
  · exact eqv_st _ _
  · obtain ⟨f, _, rfl⟩ := List.mem_map.mp hz
    rw [eqv_tt]
    exact decide_eq_false fun z => ahead_ne wh h6 e hm (Prod.mk.inj z).1
/-- the place z is found at j -/
structure Fd (hs : List Hd) (m : List Fl) (j : Nat) (z : PyData) : Prop where
  at_ : (placesL hs m)[j]? = some z
  re : PyData.eqv z z = true
  no : ∀ (n : Nat) (z' : PyData), n < j → (placesL hs m)[n]? = some z' → PyData.eqv z' z = false
theorem fd_of {hs : List Hd} {m : List Fl} {l1 l2 : List PyData} {z : PyData} {j : Nat} (e : placesL hs m = l1 ++ z :: l2) (hj : j = l1.length) (hr : PyData.eqv z z = true) (hn : ∀ x ∈ l1, PyData.eqv x z = false) : Fd hs m j z := by
  obtain ⟨h1, h2⟩ := at_mid l1 l2 z
  subst hj
  exact ⟨by rw [e]; exact h1, hr, fun n z' hlt ez => hn z' (h2 n z' hlt (by rw [← e]; exact ez))⟩
theorem len_ahead (hs : List Hd) (i : Nat) : (PyData.tuple [.str "packet", .str "port"] :: .none :: (hs.take i).flatMap hPl).length = posOf hs i := by
  show _ + 1 + 1 = 2 + _
  omega
theorem fd_valid {hs : List Hd} {m : List Fl} (wh : WfH hs) (h6 : hs.length ≤ 6) {i : Nat} {h : Hd} (e : hs[i]? = some h) : Fd hs m (posOf hs i) (.str h.1) :=
  fd_of (pl_split m e) (len_ahead hs i).symm (by rw [eqv_ss]; exact decide_eq_true rfl) (ahead_str wh h6 e)
theorem fd_field {hs : List Hd} {m : List Fl} (wh : WfH hs) (h6 : hs.length ≤ 6) {i j : Nat} {h : Hd} {f : Fl} (e : hs[i]? = some h) (ef : h.2[j]? = some f) : Fd hs m (posOf hs i + 1 + j) (.tuple [.str h.1, .str f.1]) := by
  have hi := (List.getElem?_eq_some_iff.mp e).1
  have hj := (List.getElem?_eq_some_iff.mp ef).1
  have wf := (wh i h e).2
  have e1 : h.2 = h.2.take j ++ f :: h.2.drop (j + 1) := by
    have := (List.take_append_drop j h.2).symm
    rw [List.drop_eq_getElem_cons hj, (List.getElem?_eq_some_iff.mp ef).2] at this
    exact this
  have e2 : hPl h = (.str h.1 :: (h.2.take j).map fun f => .tuple [.str h.1, .str f.1]) ++ .tuple [.str h.1, .str f.1] :: (h.2.drop (j + 1)).map fun f => .tuple [.str h.1, .str f.1] := by
    show _ :: _ = _ :: _
    congr 1
    conv => lhs; rw [e1]
    rw [List.map_append, List.map_cons]
    rfl
  have e3 : placesL hs m = ((.tuple [.str "packet", .str "port"] :: .none :: (hs.take i).flatMap hPl) ++ (.str h.1 :: (h.2.take j).map fun f => .tuple [.str h.1, .str f.1])) ++ .tuple [.str h.1, .str f.1] :: ((h.2.drop (j + 1)).map (fun f => .tuple [.str h.1, .str f.1]) ++ ((hs.drop (i + 1)).flatMap hPl ++ mPl m)) := by
    rw [pl_split m e, e2, List.append_assoc, List.append_assoc]
    rfl
  refine fd_of e3 ?_ ?_ ?_
  · rw [List.length_append, len_ahead, List.length_cons, List.length_map, List.length_take, Nat.min_eq_left (Nat.le_of_lt hj)]
    omega
  · rw [eqv_tt]
    exact decide_eq_true rfl
  · intro z hz
    rcases List.mem_append.mp hz with hz | hz
    · exact ahead_tup wh h6 _ e z hz
    rcases List.mem_cons.mp hz with rfl | hz
    · exact eqv_st _ _
    · obtain ⟨f', hf', rfl⟩ := List.mem_map.mp hz
      rw [eqv_tt]
      refine decide_eq_false fun z => ?_
      obtain ⟨a, ea⟩ := List.mem_iff_getElem?.mp hf'
      have ha := (List.getElem?_eq_some_iff.mp ea).1
      rw [List.length_take] at ha
      rw [List.getElem?_take_of_lt (by omega)] at ea
      have hl := wf.2.1
      have := nm_inj ((wf.2.2.1 a f' ea).1 (by omega)) ((wf.2.2.1 j f ef).1 (by omega)) (by omega) (by omega) (Prod.mk.inj z).2
      omega
theorem fd_meta {hs : List Hd} {m : List Fl} (wh : WfH hs) (h6 : hs.length ≤ 6) (wm : WfM m) {j : Nat} {f : Fl} (ef : m[j]? = some f) : Fd hs m (posOf hs hs.length + j) (.tuple [.str "meta", .str f.1]) := by
  have hj := (List.getElem?_eq_some_iff.mp ef).1
  have e1 : m = m.take j ++ f :: m.drop (j + 1) := by
    have := (List.take_append_drop j m).symm
    rw [List.drop_eq_getElem_cons hj, (List.getElem?_eq_some_iff.mp ef).2] at this
    exact this
  have e3 : placesL hs m = ((.tuple [.str "packet", .str "port"] :: .none :: hs.flatMap hPl) ++ mPl (m.take j)) ++ .tuple [.str "meta", .str f.1] :: mPl (m.drop (j + 1)) := by
    rw [placesL_eq]
    have : mPl m = mPl (m.take j) ++ .tuple [.str "meta", .str f.1] :: mPl (m.drop (j + 1)) := by
      conv => lhs; rw [e1]
      unfold mPl
      rw [List.map_append, List.map_cons]
    rw [this]
    show _ :: _ :: _ = (_ :: _ :: (hs.flatMap hPl ++ mPl (m.take j))) ++ _
    rw [← List.append_assoc]
    rfl
  refine fd_of e3 ?_ ?_ ?_
  · have := len_ahead hs hs.length
    rw [List.take_length] at this
    rw [List.length_append, this]
    unfold mPl
    rw [List.length_map, List.length_take, Nat.min_eq_left (Nat.le_of_lt hj)]
  · rw [eqv_tt]
    exact decide_eq_true rfl
  · intro z hz
    rcases List.mem_append.mp hz with hz | hz
    · rcases List.mem_cons.mp hz with rfl | hz
      · rw [eqv_tt]
        exact decide_eq_false fun z => pm_ne (Prod.mk.inj z).1
      rcases List.mem_cons.mp hz with rfl | hz
      · exact eqv_nt _
      obtain ⟨h', hm, hz⟩ := List.mem_flatMap.mp hz
      rcases List.mem_cons.mp hz with rfl | hz
      · exact eqv_st _ _
      · obtain ⟨f', _, rfl⟩ := List.mem_map.mp hz
        obtain ⟨a, ea⟩ := List.mem_iff_getElem?.mp hm
        have ha := (List.getElem?_eq_some_iff.mp ea).1
        rw [eqv_tt]
        exact decide_eq_false fun z => nm_ne_str (wh a h' ea).1 (by omega) _ dg_packet.2 (Prod.mk.inj z).1
    · obtain ⟨f', hf', rfl⟩ := List.mem_map.mp hz
      rw [eqv_tt]
      refine decide_eq_false fun z => ?_
      obtain ⟨a, ea⟩ := List.mem_iff_getElem?.mp hf'
      have ha := (List.getElem?_eq_some_iff.mp ea).1
      rw [List.length_take] at ha
      rw [List.getElem?_take_of_lt (by omega)] at ea
      have hl := wm.1
      have := nm_inj ((wm.2 a f' ea).1 (by omega)) ((wm.2 j f ef).1 (by omega)) (by omega) (by omega) (Prod.mk.inj z).2
      omega
theorem fd_port (hs : List Hd) (m : List Fl) : Fd hs m 0 (.tuple [.str "packet", .str "port"]) := by
  refine fd_of (l1 := []) (placesL_eq hs m) rfl ?_ fun x hx => absurd hx List.not_mem_nil
  rw [eqv_tt]
  exact decide_eq_true rfl
/-- all places are data that can be compared -/
theorem places_lay {hs : List Hd} {m : List Fl} (wh : WfH hs) (h6 : hs.length ≤ 6) (wm : WfM m) : SeqAt.shaped (.list (placesL hs m)) = true := by
  have key : ∀ l : List PyData, (∀ x ∈ l, PyData.canLay0 x = true ∧ x.depth ≤ 1) → PyData.canLayAll0 l = true ∧ PyData.depthAll l ≤ 1 := by
    intro l
    induction l with
    | nil => intro _; exact ⟨rfl, Nat.zero_le _⟩
    | cons a l ih =>
      intro h
      obtain ⟨h1, h2⟩ := h a List.mem_cons_self
      obtain ⟨h3, h4⟩ := ih fun x hx => h x (List.mem_cons_of_mem _ hx)
      refine ⟨?_, ?_⟩
      · show (PyData.canLay0 a && PyData.canLayAll0 l) = true
        rw [h1, h3]
        rfl
      · show max a.depth (PyData.depthAll l) ≤ 1
        omega
  have pr : ∀ a b : Str, Sx a → Sx b → PyData.canLay0 (.tuple [.str a, .str b]) = true ∧ (PyData.tuple [.str a, .str b]).depth ≤ 1 := fun a b h1 h2 => ⟨by
    show (PyData.strOk a && (PyData.strOk b && true)) = true
    rw [h1.1, h2.1]
    rfl, by show max 0 (max 0 0) + 1 ≤ 1; decide⟩
  have hall : ∀ x ∈ placesL hs m, PyData.canLay0 x = true ∧ x.depth ≤ 1 := by
    intro x hx
    rw [placesL_eq] at hx
    rcases List.mem_cons.mp hx with rfl | hx
    · exact pr _ _ sx_port.1 sx_port.2
    rcases List.mem_cons.mp hx with rfl | hx
    · exact ⟨rfl, Nat.zero_le _⟩
    rcases List.mem_append.mp hx with hx | hx
    · obtain ⟨h, hh, hx⟩ := List.mem_flatMap.mp hx
      obtain ⟨a, b⟩ := hd_sx wh h6 hh
      rcases List.mem_cons.mp hx with rfl | hx
      · exact ⟨a.1, Nat.zero_le _⟩
      · obtain ⟨f, hf, rfl⟩ := List.mem_map.mp hx
        exact pr _ _ a (fl_sx b.2.2.1 (Nat.le_trans b.2.1 (by decide)) hf).1
    · obtain ⟨f, hf, rfl⟩ := List.mem_map.mp hx
      exact pr _ _ sx_meta (fl_sx wm.2 (Nat.le_trans wm.1 (by decide)) hf).1
  obtain ⟨h1, h2⟩ := key _ hall
  show (PyData.canLayAll0 (placesL hs m) && decide (PyData.depthAll (placesL hs m) + 1 ≤ 64)) = true
  rw [h1, decide_eq_true (by omega)]
  rfl
end Pk
set_option Elab.async false
set_option linter.all false
set_option maxRecDepth 100000
set_option maxHeartbeats 4000000
namespace Pk
open PySem PySem.Spec PyProof.Rows L2 SX GxR Tk
theorem lenC (l : List Hd) : (l.flatMap hCells).length = (l.flatMap hPl).length := by
  induction l with
  | nil => rfl
  | cons h r ih =>
    rw [List.flatMap_cons, List.flatMap_cons, List.length_append, List.length_append, ih]
    have : (hCells h).length = (hPl h).length := by
      show (h.2.map _).length + 1 = (h.2.map _).length + 1
      rw [List.length_map, List.length_map]
    rw [this]
theorem posOf_succ {hs : List Hd} {i : Nat} {h : Hd} (e : hs[i]? = some h) : posOf hs (i + 1) = posOf hs i + 1 + h.2.length := by
  unfold posOf
  rw [List.take_add_one, e, List.flatMap_append, List.length_append]
  show _ + (_ + ([h].flatMap hPl).length) = _
  rw [List.flatMap_singleton]
  have : (hPl h).length = h.2.length + 1 := by
    show (h.2.map _).length + 1 = _
    rw [List.length_map]
  omega
theorem cells_split {hs : List Hd} {i : Nat} {h : Hd} (m : List Fl) (e : hs[i]? = some h) : cellsL hs m = (((PyData.tuple [.str "packet", .str "port"], 3) :: (PyData.none, 4) :: (hs.take i).flatMap hCells)) ++ (hCells h ++ ((hs.drop (i + 1)).flatMap hCells ++ mCells m)) := by
  have hi := (List.getElem?_eq_some_iff.mp e).1
  have e1 : hs = hs.take i ++ h :: hs.drop (i + 1) := by
    have := (List.take_append_drop i hs).symm
    rw [List.drop_eq_getElem_cons hi, (List.getElem?_eq_some_iff.mp e).2] at this
    exact this
  show _ :: _ :: _ = _ :: _ :: _
  congr 2
  conv => lhs; rw [e1]
  rw [List.flatMap_append, List.flatMap_cons, List.append_assoc, List.append_assoc]
  rfl
theorem lenC' (hs : List Hd) (i : Nat) : ((PyData.tuple [.str "packet", .str "port"], 3) :: (PyData.none, 4) :: (hs.take i).flatMap hCells).length = posOf hs i := by
  show _ + 1 + 1 = 2 + _
  rw [lenC]
  omega
theorem cl_valid {hs : List Hd} (m : List Fl) {i : Nat} {h : Hd} (e : hs[i]? = some h) : (cellsL hs m)[posOf hs i]? = some (.str h.1, 1) := by
  rw [cells_split m e, List.getElem?_append_right (by rw [lenC']; exact Nat.le_refl _), lenC', Nat.sub_self]
  rfl
theorem cl_field {hs : List Hd} (m : List Fl) {i j : Nat} {h : Hd} {f : Fl} (e : hs[i]? = some h) (ef : h.2[j]? = some f) : (cellsL hs m)[posOf hs i + 1 + j]? = some (.tuple [.str h.1, .str f.1], f.2) := by
  have hj := (List.getElem?_eq_some_iff.mp ef).1
  have hl : (hCells h).length = h.2.length + 1 := by
    show (h.2.map _).length + 1 = _
    rw [List.length_map]
  rw [cells_split m e, List.getElem?_append_right (by rw [lenC']; omega), lenC', List.getElem?_append_left (by rw [hl]; omega), show posOf hs i + 1 + j - posOf hs i = j + 1 by omega]
  show (h.2.map _)[j]? = _
  rw [List.getElem?_map, ef]
  rfl
theorem cl_meta {hs : List Hd} {m : List Fl} {j : Nat} {f : Fl} (ef : m[j]? = some f) : (cellsL hs m)[posOf hs hs.length + j]? = some (.tuple [.str "meta", .str f.1], f.2) := by
  have e : cellsL hs m = ((PyData.tuple [.str "packet", .str "port"], 3) :: (PyData.none, 4) :: hs.flatMap hCells) ++ mCells m := rfl
  have hl := lenC' hs hs.length
  rw [List.take_length] at hl
  rw [e, List.getElem?_append_right (by rw [hl]; omega), hl, show posOf hs hs.length + j - posOf hs hs.length = j by omega]
  unfold mCells
  rw [List.getElem?_map, ef]
  rfl
theorem cl_len (hs : List Hd) (m : List Fl) : (cellsL hs m).length = posOf hs hs.length + m.length := by
  have e : cellsL hs m = ((PyData.tuple [.str "packet", .str "port"], 3) :: (PyData.none, 4) :: hs.flatMap hCells) ++ mCells m := rfl
  have hl := lenC' hs hs.length
  rw [List.take_length] at hl
  rw [e, List.length_append, hl]
  unfold mCells
  rw [List.length_map]
/-- the first n widths -/
def wdsL (hs : List Hd) (m : List Fl) (n : Nat) : List V := ((cellsL hs m).take n).map fun x => V.int (x.2 : Nat)
theorem wdsL_next {hs : List Hd} {m : List Fl} {n : Nat} {x : PyData × Nat} (e : (cellsL hs m)[n]? = some x) : wdsL hs m n ++ [V.int (x.2 : Nat)] = wdsL hs m (n + 1) := by
  unfold wdsL
  rw [List.take_add_one, e, List.map_append]
  rfl
theorem wdsL_len {hs : List Hd} {m : List Fl} {n : Nat} (h : n ≤ (cellsL hs m).length) : (wdsL hs m n).length = n := by
  unfold wdsL
  rw [List.length_map, List.length_take]
  omega
theorem shp_str {x : Str} (h : Sx x) : SeqAt.shaped (.str x) = true := by
  show (PyData.strOk x && _) = true
  rw [h.1]
  rfl
theorem shp_pr {a b : Str} (h1 : Sx a) (h2 : Sx b) : SeqAt.shaped (.tuple [.str a, .str b]) = true := by
  show ((PyData.strOk a && (PyData.strOk b && true)) && _) = true
  rw [h1.1, h2.1]
  rfl
section
variable {P : Program} {w : World} {K : PySem.W.Frag} {mg : Str → Option Value} {base : Heap}
theorem idx_call {G H GP : Hp} {v y : V} {nm : Str} {hs : List Hd} {m : List Fl} {sts : List Sa} {acs : List Ac} {tbs : List Tb} {ct : Ct} {em : List Str} {z : PyData} {j : Nat} {Q : VK} (E : XK) (sG : Same G H) (hD : Dp K G v (.tuple (pgL nm hs m sts acs tbs ct em))) (wh : WfH hs) (h6 : hs.length ≤ 6) (wm : WfM m)
    (sP : Same GP H) (dy : Dp K GP y z) (sz : SeqAt.shaped z = true) (fd : Fd hs m j z) (q : ∀ H', Same H H' → Q (.int (j : Nat)) H') : spIndex K [v, y] H Q E :=
  ⟨v, y, G, GP, nm, hs, m, sts, acs, tbs, ct, em, z, j, z, rfl, sG, hD, h6, fun h hh => (hd_sx wh h6 hh).2.2.1, Nat.le_trans wm.1 (by decide), places_lay wh h6 wm, sP, dy, sz, fd.at_, fd.re, fd.no, q⟩
end
end Pk
set_option Elab.async false
set_option linter.all false
set_option maxRecDepth 100000
set_option maxHeartbeats 4000000
/-! the nodes of a drawn program's control, and what follows them -/
namespace Pk
open PySem PySem.Spec PyProof.Rows L2 SX GxR Tk
/-! ### where a field stands, as numbers -/
def prD (o n : Str) : PyData := .tuple [.str o, .str n]
def fix (hs : List Hd) (m : List Fl) (z : PyData) : Nat := (placesL hs m).findIdx fun z' => PyData.eqv z' z
theorem fix_fd {hs : List Hd} {m : List Fl} {j : Nat} {z : PyData} (h : Fd hs m j z) : fix hs m z = j := by
  have hj := (List.getElem?_eq_some_iff.mp h.at_).1
  refine (List.findIdx_eq hj).mpr ⟨?_, fun i hi => ?_⟩
  · rw [(List.getElem?_eq_some_iff.mp h.at_).2]
    exact h.re
  · exact h.no i _ hi (List.getElem?_eq_getElem (by omega))
def wix (hs : List Hd) (m : List Fl) (z : PyData) : Nat := (((cellsL hs m)[fix hs m z]?).map Prod.snd).getD 0
/-- the field (o, n) of the width w -/
structure Loc (hs : List Hd) (m : List Fl) (z : PyData) (w : Nat) : Prop where
  fd : Fd hs m (fix hs m z) z
  cl : (cellsL hs m)[fix hs m z]? = some (z, w)
theorem loc_mk {hs : List Hd} {m : List Fl} {j w : Nat} {z : PyData} (h : Fd hs m j z) (c : (cellsL hs m)[j]? = some (z, w)) : Loc hs m z w := by
  have e := fix_fd h
  exact ⟨by rw [e]; exact h, by rw [e]; exact c⟩
theorem Loc.w {hs : List Hd} {m : List Fl} {z : PyData} {w : Nat} (h : Loc hs m z w) : wix hs m z = w := by
  unfold wix
  rw [h.cl]
  rfl
theorem loc_valid {hs : List Hd} {m : List Fl} (wh : WfH hs) (h6 : hs.length ≤ 6) {h : Hd} (hh : h ∈ hs) : Loc hs m (.str h.1) 1 := by
  obtain ⟨i, ei⟩ := List.mem_iff_getElem?.mp hh
  exact loc_mk (fd_valid wh h6 ei) (cl_valid m ei)
/-- the three kinds of fields -/
theorem ref_cases {hs : List Hd} {m : List Fl} {r : Rf} (hr : r ∈ refsOf hs m) : r = (Str.ofString "packet", Str.ofString "port", 3) ∨ (∃ (i j : Nat) (h : Hd) (f : Fl), hs[i]? = some h ∧ h.2[j]? = some f ∧ r = (h.1, f.1, f.2)) ∨ ∃ (j : Nat) (f : Fl), m[j]? = some f ∧ r = (Str.ofString "meta", f.1, f.2) := by
  rcases List.mem_append.mp hr with hr | hr
  · rcases List.mem_cons.mp hr with rfl | hr
    · exact .inl rfl
    · obtain ⟨h, hh, hf⟩ := List.mem_flatMap.mp hr
      obtain ⟨f, hf2, rfl⟩ := List.mem_map.mp hf
      obtain ⟨i, ei⟩ := List.mem_iff_getElem?.mp hh
      obtain ⟨j, ej⟩ := List.mem_iff_getElem?.mp hf2
      exact .inr (.inl ⟨i, j, h, f, ei, ej, rfl⟩)
  · obtain ⟨f, hf2, rfl⟩ := List.mem_map.mp hr
    obtain ⟨j, ej⟩ := List.mem_iff_getElem?.mp hf2
    exact .inr (.inr ⟨j, f, ej, rfl⟩)
theorem loc_ref {hs : List Hd} {m : List Fl} (wh : WfH hs) (h6 : hs.length ≤ 6) (wm : WfM m) {r : Rf} (hr : r ∈ refsOf hs m) : Loc hs m (prD r.1 r.2.1) r.2.2 := by
  rcases ref_cases hr with rfl | ⟨i, j, h, f, ei, ej, rfl⟩ | ⟨j, f, ej, rfl⟩
  · exact loc_mk (fd_port hs m) rfl
  · exact loc_mk (fd_field wh h6 ei ej) (cl_field m ei ej)
  · exact loc_mk (fd_meta wh h6 wm ej) (cl_meta ej)
/-! ### nodes -/
inductive Nd where
  | tb (ix : Nat) (ks : List (Nat × Str × Nat)) (next : Int) : Nd
  | ts (op : Str) (cell : Nat) (n : Int) (yes no : Int) : Nd
def kcL (k : Nat × Str × Nat) : List PyData := [.int (k.1 : Nat), .str k.2.1, .int (k.2.2 : Nat)]
def kcsD (ks : List (Nat × Str × Nat)) : PyData := .list (ks.map fun k => .tuple (kcL k))
def dN : Nd → List PyData
  | .tb i ks x => [.str "table", .int (i : Nat), kcsD ks, .int x]
  | .ts op c n y z => [.str "test", .str op, .int (c : Nat), .int n, .int y, .int z]
def ndsD (l : List Nd) : List PyData := l.map fun nd => .tuple (dN nd)
def plainT : Tt → Tt × Bool
  | .no t => ((plainT t).1, !(plainT t).2)
  | .vld h => (.vld h, false)
  | .cmp op o n v => (.cmp op o n v, false)
/-- the index of a table -/
def tix (tbs : List Tb) (t : Str) : Nat := (tbs.map Tb.name).findIdx fun x => decide (x = t)
def kcs (hs : List Hd) (m : List Fl) (t : Tb) : List (Nat × Str × Nat) := t.keys.map fun k => (fix hs m (prD k.1.1 k.1.2), k.2, wix hs m (prD k.1.1 k.1.2))
def tNode (hs : List Hd) (m : List Fl) (tbs : List Tb) (t : Str) (a : Int) : Nd := .tb (tix tbs t) (((tbs[tix tbs t]?).map (kcs hs m)).getD []) a
def sNode (hs : List Hd) (m : List Fl) (t : Tt) (y z : Int) : Nd := match t with
  | .vld h => .ts "==" (fix hs m (.str h)) 1 y z
  | .cmp op o n v => .ts op (fix hs m (prD o n)) v y z
  | .no _ => .ts "==" 0 0 y z
def testN (hs : List Hd) (m : List Fl) (t : Tt) (y z : Int) : Nd := if (plainT t).2 = true then sNode hs m (plainT t).1 z y else sNode hs m (plainT t).1 y z
def firstOf (c : Ct) (f : Nat) (a : Int) : Int := match c with
  | .nil => a
  | _ => f
/-- the node that follows a statement of size z at f, before r -/
def foll (r : Ct) (f z : Nat) (a : Int) : Int := match r with
  | .nil => a
  | _ => ((f + z : Nat) : Int)
section
variable (hs : List Hd) (m : List Fl) (tbs : List Tb)
def comp : Ct → Nat → Int → List Nd
  | .nil, _, _ => []
  | .ap t r, f, a => tNode hs m tbs t (foll r f 1 a) :: comp r (f + 1) a
  | .cf n x y r, f, a => testN hs m n (firstOf x (f + 1) (foll r f (sz x + sz y + 1) a)) (firstOf y (f + 1 + sz x) (foll r f (sz x + sz y + 1) a)) ::
      (comp x (f + 1) (foll r f (sz x + sz y + 1) a) ++ (comp y (f + 1 + sz x) (foll r f (sz x + sz y + 1) a) ++ comp r (f + (sz x + sz y + 1)) a))
theorem comp_len : ∀ c f a, (comp hs m tbs c f a).length = sz c
  | .nil, _, _ => rfl
  | .ap t r, f, a => congrArg (· + 1) (comp_len r _ _)
  | .cf n x y r, f, a => by
    show (comp hs m tbs x _ _ ++ (comp hs m tbs y _ _ ++ comp hs m tbs r _ _)).length + 1 = sz x + sz y + sz r + 1
    rw [List.length_append, List.length_append, comp_len x, comp_len y, comp_len r]
    omega
/-- one statement -/
inductive One : Ct → Prop where
  | ap (t : Str) : One (.ap t .nil)
  | cf (n : Tt) (a b : Ct) : One (.cf n a b .nil)
/-- the first statement of a list, and the others -/
theorem comp_split {s r : Ct} (h : One s) (f : Nat) (a : Int) : comp hs m tbs (catC s r) f a = comp hs m tbs s f (foll r f (sz s) a) ++ comp hs m tbs r (f + sz s) a := by
  cases h with
  | ap t => rfl
  | cf n x y =>
    show _ :: (_ ++ (_ ++ _)) = _ :: (_ ++ (_ ++ [])) ++ _
    rw [List.append_nil, List.cons_append, List.append_assoc]
    rfl
/-! ### what is executed -/
def exec : Ct → List Bool → List Nat × List Bool
  | .nil, ans => ([], ans)
  | .ap t r, ans => (tix tbs t :: (exec r ans).1, (exec r ans).2)
  | .cf t x y r, ans => match ans with
    | [] => ([], [])
    | b :: l =>
      if (b != (plainT t).2) = true then ((exec x l).1 ++ (exec r (exec x l).2).1, (exec r (exec x l).2).2)
      else ((exec y l).1 ++ (exec r (exec y l).2).1, (exec r (exec y l).2).2)
theorem exec_len : ∀ (c : Ct) (ans : List Bool), sz c ≤ ans.length → ans.length ≤ (exec tbs c ans).2.length + sz c
  | .nil, _, _ => Nat.le_refl _
  | .ap t r, ans, h => by
    have := exec_len r ans (Nat.le_of_succ_le h)
    show ans.length ≤ (exec tbs r ans).2.length + (sz r + 1)
    omega
  | .cf t x y r, [], h => absurd h (Nat.not_succ_le_zero _)
  | .cf t x y r, b :: l, h => by
    have h' : sz x + sz y + sz r + 1 ≤ l.length + 1 := h
    show l.length + 1 ≤ (exec tbs (.cf t x y r) (b :: l)).2.length + (sz x + sz y + sz r + 1)
    unfold exec
    dsimp only
    split
    · have h1 := exec_len x l (by omega)
      have h2 := exec_len r (exec tbs x l).2 (by omega)
      dsimp only
      omega
    · have h1 := exec_len y l (by omega)
      have h2 := exec_len r (exec tbs y l).2 (by omega)
      dsimp only
      omega
end
/-! ### following the nodes -/
abbrev Fs := Int × List Bool × List Nat
def stp (nds : List Nd) (s : Fs) : Option Fs :=
  if s.1 < 0 then some s else match nds[s.1.toNat]? with
    | none => none
    | some (.tb i _ nx) => some (nx, s.2.1, s.2.2 ++ [i])
    | some (.ts _ _ _ y z) => match s.2.1 with
      | [] => none
      | b :: r => some (if b = true then y else z, r, s.2.2)
def itr (nds : List Nd) : Nat → Fs → Option Fs
  | 0, s => some s
  | k + 1, s => (stp nds s).bind (itr nds k)
theorem itr_add (nds : List Nd) : ∀ (a b : Nat) (s : Fs), itr nds (a + b) s = (itr nds a s).bind (itr nds b)
  | 0, b, s => by rw [Nat.zero_add]; rfl
  | a + 1, b, s => by
    rw [Nat.succ_add]
    show (stp nds s).bind (itr nds (a + b)) = ((stp nds s).bind (itr nds a)).bind (itr nds b)
    cases stp nds s with
    | none => rfl
    | some t => exact itr_add nds a b t
theorem itr_neg (nds : List Nd) : ∀ (k : Nat) (s : Fs), s.1 < 0 → itr nds k s = some s
  | 0, s, _ => rfl
  | k + 1, s, h => by
    show (stp nds s).bind (itr nds k) = some s
    have : stp nds s = some s := if_pos h
    rw [this]
    exact itr_neg nds k s h
/-- the part l of the nodes stands at f -/
def Sub (nds : List Nd) (f : Nat) (l : List Nd) : Prop := ∀ i nd, l[i]? = some nd → nds[f + i]? = some nd
theorem Sub.app {nds : List Nd} {f : Nat} {l1 l2 : List Nd} (h : Sub nds f (l1 ++ l2)) : Sub nds f l1 ∧ Sub nds (f + l1.length) l2 := by
  refine ⟨fun i nd e => h i nd ?_, fun i nd e => ?_⟩
  · rw [List.getElem?_append_left (List.getElem?_eq_some_iff.mp e).1]
    exact e
  · have := h (l1.length + i) nd (by rw [List.getElem?_append_right (by omega)]; rw [show l1.length + i - l1.length = i by omega]; exact e)
    rw [show f + l1.length + i = f + (l1.length + i) by omega]
    exact this
theorem Sub.head {nds : List Nd} {f : Nat} {x : Nd} {l : List Nd} (h : Sub nds f (x :: l)) : nds[f]? = some x ∧ Sub nds (f + 1) l := by
  refine ⟨h 0 x rfl, fun i nd e => ?_⟩
  have := h (i + 1) nd e
  rw [show f + 1 + i = f + (i + 1) by omega]
  exact this
theorem goes_on {nds : List Nd} {k1 k2 : Nat} {s s1 s2 : Fs} (h1 : itr nds k1 s = some s1) (h2 : itr nds k2 s1 = some s2) : itr nds (k1 + k2) s = some s2 := by
  rw [itr_add, h1]
  exact h2
section
variable (hs : List Hd) (m : List Fl) (tbs : List Tb)
theorem test_goal {nds : List Nd} {f : Nat} {t : Tt} {y z : Int} (e : nds[f]? = some (testN hs m t y z)) (hp : ∀ u, (plainT t).1 ≠ .no u) (b : Bool) (l : List Bool) (fd : List Nat) :
    stp nds ((f : Int), b :: l, fd) = some (if (b != (plainT t).2) = true then y else z, l, fd) := by
  have hn : ¬ ((f : Int) < 0) := by omega
  unfold stp
  rw [if_neg hn]
  show (match nds[((f : Nat) : Int).toNat]? with | _ => _) = _
  rw [Int.toNat_natCast, e]
  unfold testN
  cases hq : (plainT t).2 with
  | true =>
    rw [if_pos rfl]
    cases ht : (plainT t).1 with
    | no u => exact absurd ht (hp u)
    | vld h => cases b <;> rfl
    | cmp op o n v => cases b <;> rfl
  | false =>
    rw [if_neg Bool.false_ne_true]
    cases ht : (plainT t).1 with
    | no u => exact absurd ht (hp u)
    | vld h => cases b <;> rfl
    | cmp op o n v => cases b <;> rfl
theorem plain_ne : ∀ (t u : Tt), (plainT t).1 ≠ .no u
  | .no t, u => plain_ne t u
  | .vld h, u => fun e => by cases e
  | .cmp op o n v, u => fun e => by cases e
theorem first_foll (r : Ct) (f z : Nat) (a : Int) : firstOf r (f + z) a = foll r f z a := by
  cases r <;> rfl
/-- the nodes of c lead from its first one to a, as its execution does -/
theorem run_comp : ∀ (c : Ct) (nds : List Nd) (f : Nat) (a : Int) (ans : List Bool) (fd : List Nat), Sub nds f (comp hs m tbs c f a) → sz c ≤ ans.length →
    ∃ k, k ≤ sz c ∧ itr nds k (firstOf c f a, ans, fd) = some (a, (exec tbs c ans).2, fd ++ (exec tbs c ans).1)
  | .nil, nds, f, a, ans, fd, _, _ => ⟨0, Nat.le_refl _, by
    show some (a, ans, fd) = some (a, ans, fd ++ [])
    rw [List.append_nil]⟩
  | .ap t r, nds, f, a, ans, fd, hsub, hl => by
    obtain ⟨e, hsub⟩ := hsub.head
    obtain ⟨k, hk, ek⟩ := run_comp r nds (f + 1) a ans (fd ++ [tix tbs t]) hsub (Nat.le_of_succ_le hl)
    refine ⟨1 + k, by show 1 + k ≤ sz r + 1; omega, goes_on (s1 := (foll r f 1 a, ans, fd ++ [tix tbs t])) ?_ ?_⟩
    · show (stp nds ((f : Int), ans, fd)).bind _ = _
      have hn : ¬ ((f : Int) < 0) := by omega
      have : stp nds ((f : Int), ans, fd) = some (foll r f 1 a, ans, fd ++ [tix tbs t]) := by
        unfold stp
        rw [if_neg hn]
        show (match nds[((f : Nat) : Int).toNat]? with | _ => _) = _
        rw [Int.toNat_natCast, e]
        rfl
      rw [this]
      rfl
    · rw [← first_foll, ek]
      show some (a, _, fd ++ [tix tbs t] ++ _) = some (a, _, fd ++ (tix tbs t :: _))
      rw [List.append_assoc]
      rfl
  | .cf t x y r, nds, f, a, [], fd, _, hl => absurd hl (Nat.not_succ_le_zero _)
  | .cf t x y r, nds, f, a, b :: l, fd, hsub, hl => by
    obtain ⟨e, hsub⟩ := hsub.head
    obtain ⟨hx, hsub⟩ := hsub.app
    obtain ⟨hy, hr⟩ := hsub.app
    rw [comp_len] at hy hr
    rw [comp_len] at hr
    have hl' : sz x + sz y + sz r + 1 ≤ l.length + 1 := hl
    have hg := test_goal hs m e (plain_ne t) b l fd
    have hst : itr nds 1 ((f : Int), b :: l, fd) = some (if (b != (plainT t).2) = true then firstOf x (f + 1) (foll r f (sz x + sz y + 1) a) else firstOf y (f + 1 + sz x) (foll r f (sz x + sz y + 1) a), l, fd) := by
      show (stp nds _).bind _ = _
      rw [hg]
      rfl
    have hr' : Sub nds (f + (sz x + sz y + 1)) (comp hs m tbs r (f + (sz x + sz y + 1)) a) := by
      rw [show f + 1 + sz x + sz y = f + (sz x + sz y + 1) by omega] at hr
      exact hr
    cases hc : (b != (plainT t).2) with
    | true =>
      rw [hc, if_pos rfl] at hst
      obtain ⟨k1, hk1, ek1⟩ := run_comp x nds (f + 1) (foll r f (sz x + sz y + 1) a) l fd hx (by omega)
      have hel := exec_len tbs x l (by omega)
      obtain ⟨k2, hk2, ek2⟩ := run_comp r nds (f + (sz x + sz y + 1)) a (exec tbs x l).2 (fd ++ (exec tbs x l).1) hr' (by omega)
      rw [first_foll] at ek2
      have := goes_on (goes_on hst ek1) ek2
      refine ⟨1 + k1 + k2, by show _ ≤ sz x + sz y + sz r + 1; omega, ?_⟩
      show itr nds _ ((f : Int), b :: l, fd) = _
      rw [this]
      have e1 : exec tbs (.cf t x y r) (b :: l) = ((exec tbs x l).1 ++ (exec tbs r (exec tbs x l).2).1, (exec tbs r (exec tbs x l).2).2) := by
        show (if (b != (plainT t).2) = true then _ else _) = _
        rw [hc, if_pos rfl]
      rw [e1, List.append_assoc]
    | false =>
      rw [hc, if_neg Bool.false_ne_true] at hst
      obtain ⟨k1, hk1, ek1⟩ := run_comp y nds (f + 1 + sz x) (foll r f (sz x + sz y + 1) a) l fd hy (by omega)
      have hel := exec_len tbs y l (by omega)
      obtain ⟨k2, hk2, ek2⟩ := run_comp r nds (f + (sz x + sz y + 1)) a (exec tbs y l).2 (fd ++ (exec tbs y l).1) hr' (by omega)
      rw [first_foll] at ek2
      have := goes_on (goes_on hst ek1) ek2
      refine ⟨1 + k1 + k2, by show _ ≤ sz x + sz y + sz r + 1; omega, ?_⟩
      show itr nds _ ((f : Int), b :: l, fd) = _
      rw [this]
      have e1 : exec tbs (.cf t x y r) (b :: l) = ((exec tbs y l).1 ++ (exec tbs r (exec tbs y l).2).1, (exec tbs r (exec tbs y l).2).2) := by
        show (if (b != (plainT t).2) = true then _ else _) = _
        rw [hc, if_neg Bool.false_ne_true]
      rw [e1, List.append_assoc]
/-- as many steps as there are nodes -/
theorem run_all (c : Ct) (ans : List Bool) (h : sz c ≤ ans.length) (hne : c ≠ .nil) : ∃ l, itr (comp hs m tbs c 0 (-1)) (sz c) (0, ans, []) = some (-1, l, (exec tbs c ans).1) := by
  obtain ⟨k, hk, ek⟩ := run_comp hs m tbs c (comp hs m tbs c 0 (-1)) 0 (-1) ans [] (fun i nd e => by rw [Nat.zero_add]; exact e) h
  refine ⟨(exec tbs c ans).2, ?_⟩
  have e0 : firstOf c 0 (-1) = 0 := by
    cases c with
    | nil => exact absurd rfl hne
    | ap t r => rfl
    | cf n x y r => rfl
  rw [e0, List.nil_append] at ek
  obtain ⟨j, hj⟩ : ∃ j, sz c = k + j := ⟨sz c - k, by omega⟩
  rw [hj, itr_add, ek]
  exact itr_neg _ j _ (by show (-1 : Int) < 0; decide)
end
/-! ### one statement at a time -/
theorem drop_data {c ci : Ct} {i : Nat} {d : PyData} (h : ctD ci = (ctD c).drop i) (e : (ctD c)[i]? = some d) : (∃ t r, ci = .ap t r ∧ d = .tuple [.str "apply", .str t] ∧ ctD r = (ctD c).drop (i + 1)) ∨
    ∃ n a b r, ci = .cf n a b r ∧ d = .tuple [.str "if", .tuple (ttL n), .list (ctD a), .list (ctD b)] ∧ ctD r = (ctD c).drop (i + 1) := by
  have hl := (List.getElem?_eq_some_iff.mp e).1
  rw [List.drop_eq_getElem_cons hl] at h
  rw [List.getElem?_eq_getElem hl] at e
  cases e
  cases ci with
  | nil => cases h
  | ap t r => exact .inl ⟨t, r, rfl, ((List.cons.inj h).1).symm, (List.cons.inj h).2⟩
  | cf n a b r => exact .inr ⟨n, a, b, r, rfl, ((List.cons.inj h).1).symm, (List.cons.inj h).2⟩
theorem one_of {c ci : Ct} {i : Nat} {d : PyData} (h : ctD ci = (ctD c).drop i) (e : (ctD c)[i]? = some d) : ∃ s r, ci = catC s r ∧ One s ∧ ctD s = [d] ∧ ctD r = (ctD c).drop (i + 1) := by
  rcases drop_data h e with ⟨t, r, rfl, rfl, hr⟩ | ⟨n, a, b, r, rfl, rfl, hr⟩
  · exact ⟨.ap t .nil, r, rfl, .ap t, rfl, hr⟩
  · exact ⟨.cf n a b .nil, r, rfl, .cf n a b, rfl, hr⟩
theorem foll_nil {r : Ct} (h : ctD r = []) (f z : Nat) (a : Int) : foll r f z a = a := by
  cases r with
  | nil => rfl
  | ap t r => cases h
  | cf n x y r => cases h
theorem foll_more {r : Ct} (h : ctD r ≠ []) (f z : Nat) (a : Int) : foll r f z a = ((f + z : Nat) : Int) := by
  cases r with
  | nil => exact absurd rfl h
  | ap t r => rfl
  | cf n x y r => rfl
theorem nil_of {c ci : Ct} (h : ctD ci = (ctD c).drop (ctD c).length) : ci = .nil := by
  rw [List.drop_length] at h
  cases ci with
  | nil => rfl
  | ap t r => cases h
  | cf n a b r => cases h
theorem data_len : ∀ c, (ctD c).length ≤ sz c
  | .nil => Nat.le_refl _
  | .ap t r => Nat.succ_le_succ (data_len r)
  | .cf n a b r => by
    have := data_len r
    show (ctD r).length + 1 ≤ sz a + sz b + sz r + 1
    omega
theorem sz_one {s : Ct} (h : One s) : 1 ≤ sz s := by
  cases h with
  | ap t => exact Nat.le_refl _
  | cf n a b => exact Nat.succ_le_succ (Nat.zero_le _)
theorem ndsD_app (a b : List Nd) : ndsD (a ++ b) = ndsD a ++ ndsD b := List.map_append
/-- the statements of a control, in the order of the text -/
def flatL : Ct → List PyData
  | .nil => []
  | .ap t r => .tuple [.str "apply", .str t] :: flatL r
  | .cf t x y r => .tuple [.str "if", .tuple (ttL t), .list (ctD x), .list (ctD y)] :: (flatL x ++ (flatL y ++ flatL r))
theorem flat_len : ∀ c, (flatL c).length = sz c
  | .nil => rfl
  | .ap t r => congrArg (· + 1) (flat_len r)
  | .cf t x y r => by
    show (flatL x ++ (flatL y ++ flatL r)).length + 1 = _
    rw [List.length_append, List.length_append, flat_len x, flat_len y, flat_len r]
    show _ = sz x + sz y + sz r + 1
    omega
/-- what is known of the statements of a control -/
def CtK (hs : List Hd) (rs : List Rf) (tbs : List Tb) (c : Ct) : Prop := CtOk hs rs c ∧ ∀ t ∈ aps c, ∃ x ∈ tbs, x.name = t
theorem CtK.ap {hs : List Hd} {rs : List Rf} {tbs : List Tb} {t : Str} {r : Ct} (h : CtK hs rs tbs (.ap t r)) : (∃ x ∈ tbs, x.name = t) ∧ CtK hs rs tbs r :=
  ⟨h.2 t List.mem_cons_self, h.1, fun x hx => h.2 x (List.mem_cons_of_mem _ hx)⟩
theorem CtK.cf {hs : List Hd} {rs : List Rf} {tbs : List Tb} {t : Tt} {x y r : Ct} (h : CtK hs rs tbs (.cf t x y r)) : TtOk hs rs t ∧ nots t ≤ 3 ∧ CtK hs rs tbs x ∧ CtK hs rs tbs y ∧ CtK hs rs tbs r := by
  obtain ⟨⟨a, b, c, d, e⟩, h2⟩ := h
  have hm : ∀ z, z ∈ aps x ∨ z ∈ aps y ∨ z ∈ aps r → ∃ x ∈ tbs, x.name = z := fun z hz => h2 z (by
    show z ∈ aps x ++ aps y ++ aps r
    rw [List.mem_append, List.mem_append]
    rcases hz with h | h | h
    · exact .inl (.inl h)
    · exact .inl (.inr h)
    · exact .inr h)
  exact ⟨a, b, ⟨c, fun z hz => hm z (.inl hz)⟩, ⟨d, fun z hz => hm z (.inr (.inl hz))⟩, ⟨e, fun z hz => hm z (.inr (.inr hz))⟩⟩
theorem CtK.split {hs : List Hd} {rs : List Rf} {tbs : List Tb} : ∀ {s r : Ct}, One s → CtK hs rs tbs (catC s r) → CtK hs rs tbs s ∧ CtK hs rs tbs r
  | _, _, .ap t, h => ⟨⟨trivial, fun x hx => by
      obtain rfl := List.mem_singleton.mp hx
      exact h.ap.1⟩, h.ap.2⟩
  | _, _, .cf n a b, h => by
    obtain ⟨h1, h2, h3, h4, h5⟩ := h.cf
    refine ⟨⟨⟨h1, h2, h3.1, h4.1, trivial⟩, fun x hx => ?_⟩, h5⟩
    have hx' : x ∈ aps a ++ aps b ++ [] := hx
    rw [List.append_nil, List.mem_append] at hx'
    rcases hx' with h | h
    · exact h3.2 x h
    · exact h4.2 x h
/-- the table of a name -/
theorem tix_at {hs : List Hd} {m : List Fl} {acs : List Ac} {tbs : List Tb} (ht : ∀ i t, tbs[i]? = some t → TbOk (refsOf hs m) acs i t) (t8 : tbs.length ≤ 8) {x : Str} (h : ∃ t ∈ tbs, t.name = x) :
    ∃ t, tbs[tix tbs x]? = some t ∧ t.name = x ∧ tix tbs x < tbs.length ∧ ∀ j t', j < tix tbs x → tbs[j]? = some t' → t'.name ≠ x := by
  obtain ⟨t, hm, rfl⟩ := h
  obtain ⟨i, ei⟩ := List.mem_iff_getElem?.mp hm
  have hi := (List.getElem?_eq_some_iff.mp ei).1
  have hlt : tix tbs t.name < (tbs.map Tb.name).length := List.findIdx_lt_length.mpr ⟨t.name, List.mem_map.mpr ⟨t, hm, rfl⟩, decide_eq_true rfl⟩
  have hlt' : tix tbs t.name < tbs.length := by
    rw [List.length_map] at hlt
    exact hlt
  have hg : decide ((tbs.map Tb.name)[tix tbs t.name] = t.name) = true := List.findIdx_getElem (w := hlt)
  rw [List.getElem_map] at hg
  refine ⟨_, List.getElem?_eq_getElem hlt', of_decide_eq_true hg, hlt', fun j t' hj ej => ?_⟩
  have hjl := (List.getElem?_eq_some_iff.mp ej).1
  have := List.not_of_lt_findIdx (xs := tbs.map Tb.name) (p := fun x => decide (x = t.name)) hj
  rw [List.getElem_map, (List.getElem?_eq_some_iff.mp ej).2] at this
  exact of_decide_eq_false this
end Pk
set_option Elab.async false
set_option linter.all false
set_option maxRecDepth 100000
set_option maxHeartbeats 4000000
namespace Pk
open PySem PySem.Spec PyProof.Rows L2 SX GxR Tk
abbrev sFieldWidth : Stmt := topS 12
abbrev sWidthOf : Stmt := topS 24
abbrev NFw : List Str := ["program", "field", "owner", "name", "other", "width"]
theorem scFieldWidth : FnScope NFw ["program", "field"] (defScope sFieldWidth) := ⟨rfl, rfl, rfl, by decide +kernel, rfl, by decide +kernel, by decide +kernel⟩
theorem scWidthOf : FnScope ["program", "field"] ["program", "field"] (defScope sWidthOf) := ⟨rfl, rfl, rfl, by decide +kernel, rfl, by decide +kernel, by decide +kernel⟩
theorem fnok_or {P : Program} {w : World} {K : PySem.W.Frag} {mg : Str → Option Value} {base : Heap} {CX : CXT} {k : Nat} {f : Addr} {fd : FuncData} {ps : List Str} {A B : Sp} (h1 : FnOk P w K mg base CX k f fd ps A) (h2 : FnOk P w K mg base CX k f fd ps B) :
    FnOk P w K mg base CX k f fd ps (fun vs H Q E => A vs H Q E ∨ B vs H Q E) :=
  ⟨fun vs H Q E h => h.elim (h1.len vs H Q E) (h2.len vs H Q E), fun A outer s H args us vs Q E hr e0 hb r h => h.elim (h1.run A outer s H args us vs Q E hr e0 hb r) (h2.run A outer s H args us vs Q E hr e0 hb r)⟩
section
variable {P : Program} {w : World} {K : PySem.W.Frag} {mg : Str → Option Value} {base : Heap}
/-- the fields of "meta" -/
def spFieldsM (K : PySem.W.Frag) : Sp := fun vs H Q _ => ∃ (v : V) (G : Hp) (nm : Str) (hs : List Hd) (m : List Fl) (sts : List Sa) (acs : List Ac) (tbs : List Tb) (ct : Ct) (em : List Str), vs = [v, .str "meta"] ∧ Same G H ∧ Dp K G v (.tuple (pgL nm hs m sts acs tbs ct em)) ∧ ∀ x, Dp K G x (flsD m) → Q x H
theorem ok_fieldsM {f : Addr} {fd : FuncData} (F : Fun K "fields_of" "fields_of" sFieldsOf f fd) (D1 : Df P w K mg base CX0 1 "headers_of" ["program"] (spAcc K 2)) (D2 : Df P w K mg base CX0 1 "meta_of" ["program"] (spAcc K 3)) (D3 : Df P w K mg base CX0 1 "part_named" ["parts", "name"] (spPart K)) :
    FnOk P w K mg base CX0 2 f fd ["program", "owner"] (spFieldsM K) := by
  obtain ⟨f1, fd1, G1, g1, k1, b1⟩ := D1.ex
  obtain ⟨f2, fd2, G2, g2, k2, b2⟩ := D2.ex
  obtain ⟨f3, fd3, G3, g3, k3, b3⟩ := D3.ex
  refine F.ok scFieldsOf (fun vs H Q E h => ?_) (fun cdv A outer s H vs Q E hr h => ?_)
  · obtain ⟨v, G, nm, hs, m, sts, acs, tbs, ct, em, rfl, _⟩ := h
    rfl
  · obtain ⟨v, G, nm, hs, m, sts, acs, tbs, ct, em, rfl, sG, hD, q⟩ := h
    have nd := scFieldsOf.nd
    refine ⟨_, pss_cons (ps_if (pt_cmpR op_eq (pv 1) pe_str (nomark _)) (pss_one (ps_ret (pe_call G2 hr (by rfl) g2 k2 b2 .nil pass0 (pa_cons (pv 0) pa_nil)))) pss_nil)
      (pss_cons (ps_set (i := 2) nd rfl (.inl rfl) (pe_call G3 hr (by rfl) g3 k3 b3 .nil pass0 (pa_cons (pe_call G1 hr (by rfl) g1 k1 b1 .nil pass0 (pa_cons (pv 0) pa_nil)) (pa_cons (pv 1) pa_nil))))
      (pss_cons (ps_if (pt_cmpR op_isN (pv 2) pe_non (nomark _)) (pss_one (ps_ret (pe_lst pa_nil))) pss_nil)
      (pss_one (ps_ret (pe_ix ix_tup (pv 2) pe_int (fun _ _ => rfl)))))), ?_⟩
    refine ⟨_, rfl, rfl, _, rfl, ?_⟩
    rw [dcStr]
    exact iteDT rfl ⟨_, rfl, v, G, _, flsD m, rfl, sG, hD, rfl, q⟩
def spFieldsAny (K : PySem.W.Frag) : Sp := fun vs H Q E => spFieldsOf K vs H Q E ∨ spFieldsM K vs H Q E
/-- the width of a field -/
def spWid (K : PySem.W.Frag) : Sp := fun vs H Q _ => ∃ (v y : V) (G GP : Hp) (nm : Str) (hs : List Hd) (m : List Fl) (sts : List Sa) (acs : List Ac) (tbs : List Tb) (ct : Ct) (em : List Str) (r : Rf), vs = [v, y] ∧ Same G H ∧ Dp K G v (.tuple (pgL nm hs m sts acs tbs ct em)) ∧ WfH hs ∧ hs.length ≤ 6 ∧ WfM m ∧ Same GP H ∧ Dp K GP y (prD r.1 r.2.1) ∧ r ∈ refsOf hs m ∧ Q (.int (r.2.2 : Nat)) H
theorem dp_prD {G : Hp} {y : V} {o n : Str} (h : Dp K G y (prD o n)) : ∃ p, y = .ref p ∧ SqT K G p [.str o, .str n] := by
  obtain ⟨p, xs, rfl, h1, h2⟩ := dp_tup h
  obtain ⟨v0, r, rfl, e0, h2⟩ := dpAll_cons h2
  obtain ⟨v1, r, rfl, e1, h2⟩ := dpAll_cons h2
  obtain rfl := dpAll_nil h2
  obtain rfl := dp_str e0
  obtain rfl := dp_str e1
  exact ⟨p, rfl, h1⟩
/-- the first field of a name among its fields -/
theorem fl_first {fs : List Fl} (h : WfG fs) (hl : fs.length ≤ 10) {i j : Nat} {f g : Fl} (ei : fs[i]? = some f) (ej : fs[j]? = some g) (e : f.1 = g.1) : i = j := by
  have h1 := (List.getElem?_eq_some_iff.mp ei).1
  have h2 := (List.getElem?_eq_some_iff.mp ej).1
  exact nm_inj ((h i f ei).1 (by omega)) ((h j g ej).1 (by omega)) (by omega) (by omega) e
theorem wfM10 {m : List Fl} (h : WfM m) : m.length ≤ 10 := Nat.le_trans h.1 (by decide)
theorem wfF10 {fs : List Fl} (h : WfF fs) : fs.length ≤ 10 := Nat.le_trans h.2.1 (by decide)
theorem dp_port {p : Addr} {H : Hp} (t : TupK K p [.str "packet", .str "port"]) : Dp K H (.ref p) (prD "packet" "port") := .tup (t.at H) (.cons (.str _) (.cons (.str _) .nil))
theorem prD_shaped {a b : Str} (h1 : Sx a) (h2 : Sx b) : SeqAt.shaped (prD a b) = true := shp_pr h1 h2
theorem prD_eqv (a b c d : Str) : PyData.eqv (prD a b) (prD c d) = decide ((a, b) = (c, d)) := eqv_tt a b c d
theorem ok_fieldWidth {f : Addr} {fd : FuncData} (F : Fun K "field_width" "field_width" sFieldWidth f fd) (T : Gc13 K mg) (D1 : Df P w K mg base CX0 2 "fields_of" ["program", "owner"] (spFieldsAny K)) : FnOk P w K mg base CX0 3 f fd ["program", "field"] (spWid K) := by
  obtain ⟨f1, fd1, G1, g1, k1, b1⟩ := D1.ex
  obtain ⟨po, gp, tp⟩ := T.PORT
  obtain ⟨uW, gW, rW⟩ := T.PW
  refine F.ok scFieldWidth (fun vs H Q E h => ?_) (fun cdv A outer s H vs Q E hr h => ?_)
  · obtain ⟨v, y, G, GP, nm, hs, m, sts, acs, tbs, ct, em, r, rfl, _⟩ := h
    rfl
  · obtain ⟨v, y, G, GP, nm, hs, m, sts, acs, tbs, ct, em, r, rfl, sG, hD, wh, h6, wm, sP, dy, hrf, q⟩ := h
    have nd := scFieldWidth.nd
    refine ⟨_, (pss_cons (ps_if (pt_cmpR (op_eqD hr.units) (pv 1) (pe_glob (v := .ref po) rfl gp rfl) (nomark _)) (pss_one (ps_ret (pe_glob rfl gW rW))) pss_nil)
      (pss_cons (ps_asg (pv 1) (pg_tup (by rfl) (pgs_cons (pg_name (i := 2) nd rfl (.inl rfl)) (pgs_cons (pg_name (i := 3) nd rfl (.inl rfl)) pgs_nil))))
      (pss_cons (ps_for PassesOwn.never rfl (pi_list (pe_call G1 hr (by rfl) g1 k1 b1 .nil pass0 (pa_cons (pv 0) (pa_cons (pv 2) pa_nil)))) (pg_tup (by rfl) (pgs_cons (pg_name (i := 4) nd rfl (.inl rfl)) (pgs_cons (pg_name (i := 5) nd rfl (.inl rfl)) pgs_nil)))
        (pss_one (ps_if (pt_cmpR op_eq (pv 4) (pv 3) (nomark _)) (pss_one (ps_ret (pv 5))) pss_nil)))
      (pss_one (ps_ret pe_non))))), ?_⟩
    have hsx := refs_sx wh h6 wm r hrf
    obtain ⟨py, rfl, y1⟩ := dp_prD dy
    refine ⟨_, rfl, _, _, dp_sub sP dy, dp_port tp, prD_shaped hsx.1 hsx.2.1, prD_shaped sx_port.1 sx_port.2, _, rfl, ?_⟩
    rw [prD_eqv]
    -- a loop over fields among which the field is
    have loop : ∀ (fs : List Fl) (i : Nat) (f : Fl) (x : V), WfG fs → fs.length ≤ 10 → fs[i]? = some f → f.1 = r.2.1 → f.2 = r.2.2 → Dp K G x (flsD fs) → ∀ (W : VK), (∀ (p : Addr) (xs : List V), x = .ref p → SqL K H p xs → DpAll K G xs (fs.map fun f => .tuple (flL f)) → W x H) → W x H := fun fs i f x _ _ _ _ _ hx W hW => by
      obtain ⟨p, xs, rfl, h1, h2⟩ := dp_lst hx
      exact hW p xs rfl (sqL_sub sG h1) h2
    rcases ref_cases hrf with rfl | ⟨i, j, h, f, ei, ej, rfl⟩ | ⟨j, f, ej, rfl⟩
    · exact iteDT rfl q
    · have hi := (List.getElem?_eq_some_iff.mp ei).1
      refine iteDF (fun e => nm_ne_str (wh i h ei).1 (by omega) _ dg_packet.1 (Prod.mk.inj e).1) ?_
      refine ⟨_, rfl, py, _, rfl, sqT_sub sP y1, rfl, _, _, rfl, _, _, rfl, rfl, ?_⟩
      refine ⟨_, rfl, _, rfl, .inl ⟨v, G, nm, hs, m, sts, acs, tbs, ct, em, i, h, rfl, sG, hD, wh, h6, ei, fun x hx => ?_⟩⟩
      obtain ⟨p, xs, rfl, h1, h2⟩ := dp_lst hx
      have hl := dpAll_len h2
      rw [List.length_map] at hl
      have hwf := (wh i h ei).2
      have hj := (List.getElem?_eq_some_iff.mp ej).1
      refine ⟨p, rfl, ⟨_, sqL_sub sG h1⟩, for_list (K := K) (a := p) (xs := xs) (fun a σ H2 => a ≤ j ∧ H2 = H ∧ ∃ o4 o5, σ = [some v, some (.ref py), some (.str h.1), some (.str f.1), o4, o5]) ⟨Nat.zero_le _, rfl, none, none, rfl⟩ (fun a σ H2 _ h => by rw [h.2.1]; exact sqL_sub sG h1) ?_ ?_⟩
      · rintro a y σ H2 ha ⟨hle, rfl, o4, o5, rfl⟩
        obtain ⟨d, ed, hd⟩ := dpAll_val h2 ha
        rw [List.getElem?_map] at ed
        obtain ⟨g, eg, ed'⟩ := Option.map_eq_some_iff.mp ed
        subst ed'
        obtain ⟨pt, zs, rfl, u1, u2⟩ := dp_tup hd
        obtain ⟨z0, r, rfl, n0, u2⟩ := dpAll_cons u2
        obtain ⟨z1, r, rfl, n1, u2⟩ := dpAll_cons u2
        obtain rfl := dpAll_nil u2
        obtain rfl := dp_str n0
        obtain rfl := dp_int n1
        refine ⟨pt, _, rfl, sqT_sub sG u1, rfl, _, _, rfl, _, _, rfl, rfl, ?_⟩
        refine ⟨_, rfl, _, rfl, rfl, _, rfl, ?_⟩
        rw [dcStr]
        refine iteD (fun e => ?_) fun e => ?_
        · have := fl_first hwf.2.2.1 (wfF10 hwf) eg ej e
          subst this
          rw [ej] at eg
          cases eg
          exact ⟨_, rfl, q⟩
        · refine ⟨?_, rfl, _, _, rfl⟩
          rcases Nat.lt_or_ge a j with h | h
          · omega
          · obtain rfl : a = j := by omega
            rw [ej] at eg
            cases eg
            exact absurd rfl e
      · rintro σ H2 ⟨hle, rfl, o4, o5, rfl⟩
        rw [hl] at hle
        omega
    · have hj := (List.getElem?_eq_some_iff.mp ej).1
      refine iteDF (fun e => pm_ne (Prod.mk.inj e).1.symm) ?_
      refine ⟨_, rfl, py, _, rfl, sqT_sub sP y1, rfl, _, _, rfl, _, _, rfl, rfl, ?_⟩
      refine ⟨_, rfl, _, rfl, .inr ⟨v, G, nm, hs, m, sts, acs, tbs, ct, em, rfl, sG, hD, fun x hx => ?_⟩⟩
      obtain ⟨p, xs, rfl, h1, h2⟩ := dp_lst hx
      have hl := dpAll_len h2
      rw [List.length_map] at hl
      refine ⟨p, rfl, ⟨_, sqL_sub sG h1⟩, for_list (K := K) (a := p) (xs := xs) (fun a σ H2 => a ≤ j ∧ H2 = H ∧ ∃ o4 o5, σ = [some v, some (.ref py), some (.str "meta"), some (.str f.1), o4, o5]) ⟨Nat.zero_le _, rfl, none, none, rfl⟩ (fun a σ H2 _ h => by rw [h.2.1]; exact sqL_sub sG h1) ?_ ?_⟩
      · rintro a y σ H2 ha ⟨hle, rfl, o4, o5, rfl⟩
        obtain ⟨d, ed, hd⟩ := dpAll_val h2 ha
        rw [List.getElem?_map] at ed
        obtain ⟨g, eg, ed'⟩ := Option.map_eq_some_iff.mp ed
        subst ed'
        obtain ⟨pt, zs, rfl, u1, u2⟩ := dp_tup hd
        obtain ⟨z0, r, rfl, n0, u2⟩ := dpAll_cons u2
        obtain ⟨z1, r, rfl, n1, u2⟩ := dpAll_cons u2
        obtain rfl := dpAll_nil u2
        obtain rfl := dp_str n0
        obtain rfl := dp_int n1
        refine ⟨pt, _, rfl, sqT_sub sG u1, rfl, _, _, rfl, _, _, rfl, rfl, ?_⟩
        refine ⟨_, rfl, _, rfl, rfl, _, rfl, ?_⟩
        rw [dcStr]
        refine iteD (fun e => ?_) fun e => ?_
        · have := fl_first wm.2 (wfM10 wm) eg ej e
          subst this
          rw [ej] at eg
          cases eg
          exact ⟨_, rfl, q⟩
        · refine ⟨?_, rfl, _, _, rfl⟩
          rcases Nat.lt_or_ge a j with h | h
          · omega
          · obtain rfl : a = j := by omega
            rw [ej] at eg
            cases eg
            exact absurd rfl e
      · rintro σ H2 ⟨hle, rfl, o4, o5, rfl⟩
        rw [hl] at hle
        omega
theorem ok_widthOf {f : Addr} {fd : FuncData} (F : Fun K "width_of" "width_of" sWidthOf f fd) (D1 : Df P w K mg base CX0 3 "field_width" ["program", "field"] (spWid K)) : FnOk P w K mg base CX0 4 f fd ["program", "field"] (spWid K) := by
  obtain ⟨f1, fd1, G1, g1, k1, b1⟩ := D1.ex
  refine F.ok scWidthOf (fun vs H Q E h => ?_) (fun cdv A outer s0 H vs Q E hr h => ?_)
  · obtain ⟨v, y, G, GP, nm, hs, m, sts, acs, tbs, ct, em, r, rfl, _⟩ := h
    rfl
  · obtain ⟨v, y, G, GP, nm, hs, m, sts, acs, tbs, ct, em, r, rfl, h⟩ := h
    exact ⟨_, pss_one (ps_ret (pe_call G1 hr (by rfl) g1 k1 b1 .nil pass0 (pa_cons (pv 0) (pa_cons (pv 1) pa_nil)))), _, rfl, _, rfl, v, y, G, GP, nm, hs, m, sts, acs, tbs, ct, em, r, rfl, h⟩
end
end Pk
set_option Elab.async false
set_option linter.all false
set_option maxRecDepth 100000
set_option maxHeartbeats 4000000
namespace Pk
open PySem PySem.Spec PyProof.Rows L2 SX GxR Tk
abbrev sWidthL : Stmt := topS 57
abbrev NWl : List Str := ["program", "field", "rows", "header", "name", "width"]
theorem scWidthL : FnScope NWl ["program", "field"] (defScope sWidthL) := ⟨rfl, rfl, rfl, by decide +kernel, rfl, by decide +kernel, by decide +kernel⟩
/-- the list of fields that a field is in -/
theorem ref_fld {hs : List Hd} {m : List Fl} (wh : WfH hs) (h6 : hs.length ≤ 6) (wm : WfM m) {r : Rf} (hr : r ∈ refsOf hs m) : r = (Str.ofString "packet", Str.ofString "port", 3) ∨ ((r.1, r.2.1) ≠ (Str.ofString "packet", Str.ofString "port") ∧ ∃ (fs : List Fl) (j : Nat) (f : Fl), fs[j]? = some f ∧ f.1 = r.2.1 ∧ f.2 = r.2.2 ∧ WfG fs ∧ fs.length ≤ 10 ∧ (∀ g ∈ hs, g.1 = r.1 → g.2 = fs) ∧
    ((∃ (i : Nat) (h : Hd), hs[i]? = some h ∧ h.1 = r.1 ∧ fs = h.2) ∨ (r.1 = Str.ofString "meta" ∧ fs = m))) := by
  rcases ref_cases hr with rfl | ⟨i, j, h, f, ei, ej, rfl⟩ | ⟨j, f, ej, rfl⟩
  · exact .inl rfl
  · have hi := (List.getElem?_eq_some_iff.mp ei).1
    have hwf := (wh i h ei).2
    refine .inr ⟨fun e => nm_ne_str (wh i h ei).1 (by omega) _ dg_packet.1 (Prod.mk.inj e).1, h.2, j, f, ej, rfl, rfl, hwf.2.2.1, wfF10 hwf, fun g hg e => ?_, .inl ⟨i, h, ei, rfl, rfl⟩⟩
    obtain ⟨a, ea⟩ := List.mem_iff_getElem?.mp hg
    have ha := (List.getElem?_eq_some_iff.mp ea).1
    have := nm_inj (wh a g ea).1 (wh i h ei).1 (by omega) (by omega) e
    subst this
    rw [ei] at ea
    cases ea
    rfl
  · refine .inr ⟨fun e => pm_ne (Prod.mk.inj e).1.symm, m, j, f, ej, rfl, rfl, wm.2, wfM10 wm, fun g hg e => ?_, .inr ⟨rfl, rfl⟩⟩
    obtain ⟨a, ea⟩ := List.mem_iff_getElem?.mp hg
    have ha := (List.getElem?_eq_some_iff.mp ea).1
    exact absurd e (nm_ne_str (wh a g ea).1 (by omega) _ dg_packet.2)
section
variable {P : Program} {w : World} {K : PySem.W.Frag} {mg : Str → Option Value} {base : Heap}
def spWidL (K : PySem.W.Frag) : Sp := fun vs H Q _ => ∃ (v y : V) (G GP : Hp) (nm : Str) (hs : List Hd) (m : List Fl) (sts : List Sa) (acs : List Ac) (tbs : List Tb) (ct : Ct) (em : List Str) (r : Rf), vs = [v, y] ∧ Same G H ∧ Dp K G v (.tuple (pgL nm hs m sts acs tbs ct em)) ∧ WfH hs ∧ hs.length ≤ 6 ∧ WfM m ∧ Same GP H ∧ Dp K GP y (prD r.1 r.2.1) ∧ r ∈ refsOf hs m ∧ ∀ H', Same H H' → Q (.int (r.2.2 : Nat)) H'
theorem ok_widthL {f : Addr} {fd : FuncData} {k : Nat} (F : Fun K "_law_width" "_law_width" sWidthL f fd) : FnOk P w K mg base CX0 (k + 1) f fd ["program", "field"] (spWidL K) := by
  refine F.ok scWidthL (fun vs H Q E h => ?_) (fun cdv A outer s H vs Q E hr h => ?_)
  · obtain ⟨v, y, G, GP, nm, hs, m, sts, acs, tbs, ct, em, r, rfl, _⟩ := h
    rfl
  · obtain ⟨v, y, G, GP, nm, hs, m, sts, acs, tbs, ct, em, r, rfl, sG, hD, wh, h6, wm, sP, dy, hrf, q⟩ := h
    have nd := scWidthL.nd
    refine ⟨_, (pss_cons (ps_if (pt_cmpR (op_eqD hr.units) (pv 1) (pe_tup (pa_cons pe_str (pa_cons pe_str pa_nil))) (nomark _)) (pss_one (ps_ret pe_int)) pss_nil)
      (pss_cons (ps_set (i := 2) nd rfl (.inl rfl) (pe_ix ix_tup (pv 0) pe_int (fun _ _ => rfl)))
      (pss_cons (ps_for PassesOwn.never rfl (pi_list (pe_ix ix_tup (pv 0) pe_int (fun _ _ => rfl))) (pg_name (i := 3) nd rfl (.inl rfl))
        (pss_one (ps_if (pt_cmpR op_eq (pe_ix ix_tup (pv 3) pe_int (fun _ _ => rfl)) (pe_ix ix_tup (pv 1) pe_int (fun _ _ => rfl)) (nomark _)) (pss_one (ps_set (i := 2) nd rfl (.inl rfl) (pe_ix ix_tup (pv 3) pe_int (fun _ _ => rfl)))) pss_nil)))
      (pss_one (ps_ret (pe_ix ix_list (pe_lc (own := [("name", 4), ("width", 5)]) (g := gTup K 2 (gCons (gName 4) (gCons (gName 5) gNil))) rfl nd (pi_list (pv 2)) (blkOk_by (N := NWl) (sc := defScope sWidthL) (by decide +kernel)) (fun _ _ _ _ _ => (pg_tup rfl (pgs_cons (pg_name (i := 4) nd rfl (Or.inl rfl)) (pgs_cons (pg_name (i := 5) nd rfl (Or.inl rfl)) pgs_nil)))) (fun _ _ _ _ _ => (pts_one (pt_cmpR op_eq (pv 4) (pe_ix (r := rIxT K) ix_tup (pv 1) pe_int (fun _ _ => rfl)) (nomark _)))) (fun _ _ _ _ _ => (pv 5))) pe_int (fun _ _ => rfl))))))), ?_⟩
    have hsx := refs_sx wh h6 wm r hrf
    obtain ⟨py, rfl, y1⟩ := dp_prD dy
    refine ⟨_, rfl, (by show 2 ≤ sizeLine; decide), fun t ht => ⟨_, _, dp_sub (sP.trans (same_new ht)) dy, .tup (SqT.of upd_same) (.cons (.str _) (.cons (.str _) .nil)), prD_shaped hsx.1 hsx.2.1, prD_shaped sx_port.1 sx_port.2, _, rfl, ?_⟩⟩
    have s1 := same_new (o := .tup [V.str "packet", V.str "port"]) ht
    show if PyData.eqv (prD r.1 r.2.1) (prD "packet" "port") = true then _ else _
    rw [prD_eqv]
    generalize upd H t (.tup [V.str "packet", V.str "port"]) = H1 at s1 ⊢
    rcases ref_fld wh h6 wm hrf with rfl | ⟨hne, fs, j, fl, ej, e1, e2, wf, hl10, huni, hfs⟩
    · exact iteDT rfl (q H1 s1)
    refine iteDF hne ?_
    obtain ⟨pg, gs, rfl, pg1, pg2⟩ := dp_tup hD
    obtain ⟨xh, exh, hxh⟩ := dpAll_at pg2 (i := 2) (d := hdsD hs) rfl
    obtain ⟨xm, exm, hxm⟩ := dpAll_at pg2 (i := 3) (d := flsD m) rfl
    obtain ⟨ph, hl, rfl, ph1, ph2⟩ := dp_lst hxh
    have lh := dpAll_len ph2
    rw [List.length_map] at lh
    have sG1 := sG.trans s1
    have sP1 := sP.trans s1
    refine ⟨_, rfl, pg, _, _, _, rfl, rfl, sqT_sub sG1 pg1, atI_nat (j := 3) exm, _, rfl, pg, _, _, _, rfl, rfl, sqT_sub sG1 pg1, atI_nat (j := 2) exh, ph, rfl, ⟨_, sqL_sub sG1 ph1⟩, ?_⟩
    refine for_list (K := K) (a := ph) (xs := hl) (fun a σ H2 => H2 = H1 ∧ ∃ xr o, σ = [some (.ref pg), some (.ref py), some xr, o, none, none] ∧ ((∃ (i : Nat) (h : Hd), a ≤ i ∧ hs[i]? = some h ∧ h.1 = r.1) ∨ Dp K G xr (flsD fs))) ⟨rfl, xm, none, rfl, ?_⟩ (fun a σ H2 _ h => by rw [h.1]; exact sqL_sub sG1 ph1) ?_ ?_
    · rcases hfs with ⟨i, h, ei, e, _⟩ | ⟨_, rfl⟩
      · exact .inl ⟨i, h, Nat.zero_le _, ei, e⟩
      · exact .inr hxm
    · rintro a y σ H2 ha ⟨rfl, xr, o, rfl, hx⟩
      obtain ⟨d, ed, hd⟩ := dpAll_val ph2 ha
      rw [List.getElem?_map] at ed
      obtain ⟨g, eg, ed'⟩ := Option.map_eq_some_iff.mp ed
      subst ed'
      obtain ⟨pt, zs, rfl, u1, u2⟩ := dp_tup hd
      obtain ⟨z0, r', rfl, n0, u2⟩ := dpAll_cons u2
      obtain ⟨z1, r', rfl, n1, u2⟩ := dpAll_cons u2
      obtain ⟨z2, r', rfl, n2, u2⟩ := dpAll_cons u2
      obtain rfl := dpAll_nil u2
      obtain rfl := dp_str n1
      refine ⟨_, rfl, pt, _, _, _, rfl, rfl, sqT_sub sG1 u1, atI_nat (j := 1) rfl, _, rfl, py, _, _, _, rfl, rfl, sqT_sub sP1 y1, atI_nat (j := 0) rfl, rfl, _, rfl, ?_⟩
      rw [dcStr]
      refine iteD (fun e => ?_) fun e => ?_
      · refine ⟨_, rfl, pt, _, _, _, rfl, rfl, sqT_sub sG1 u1, atI_nat (j := 2) rfl, rfl, z2, _, rfl, .inr ?_⟩
        rw [← huni g (List.mem_of_getElem? eg) e]
        exact n2
      · refine ⟨rfl, xr, _, rfl, ?_⟩
        rcases hx with ⟨i, h, hle, ei, eh⟩ | hx
        · refine .inl ⟨i, h, ?_, ei, eh⟩
          rcases Nat.lt_or_ge a i with hlt | hge
          · exact hlt
          · obtain rfl : a = i := by omega
            rw [ei] at eg
            cases eg
            exact absurd eh e
        · exact .inr hx
    · rintro σ H2 ⟨rfl, xr, o, rfl, hx⟩
      have hx : Dp K G xr (flsD fs) := by
        rcases hx with ⟨i, h, hle, ei, eh⟩ | hx
        · have := (List.getElem?_eq_some_iff.mp ei).1
          omega
        · exact hx
      obtain ⟨p, xs, rfl, h1, h2⟩ := dp_lst hx
      have hxl := dpAll_len h2
      rw [List.length_map] at hxl
      have hjl := (List.getElem?_eq_some_iff.mp ej).1
      refine ⟨_, rfl, p, rfl, ⟨_, sqL_sub sG1 h1⟩, fun D hD1 => lc_list (K := K) (a := p) (xs := xs) (fun n H3 => Same H2 H3 ∧ H3 D = some (.lst (if j < n then [V.int (r.2.2 : Nat)] else []))) ⟨same_new hD1, upd_same⟩ (fun n H3 _ h => h.1.seq (sqL_sub sG1 h1)) ?_ ?_⟩
      · rintro n y H3 hy ⟨s3, e3⟩
        obtain ⟨d', ed, hd⟩ := dpAll_val h2 hy
        rw [List.getElem?_map] at ed
        obtain ⟨c, ec, ed'⟩ := Option.map_eq_some_iff.mp ed
        subst ed'
        obtain ⟨pt, zs, rfl, u1, u2⟩ := dp_tup hd
        obtain ⟨z0, r', rfl, n0, u2⟩ := dpAll_cons u2
        obtain ⟨z1, r', rfl, n1, u2⟩ := dpAll_cons u2
        obtain rfl := dpAll_nil u2
        obtain rfl := dp_str n0
        obtain rfl := dp_int n1
        refine ⟨pt, _, rfl, sqT_sub (sG1.trans s3) u1, rfl, _, _, rfl, _, _, rfl, rfl, ?_⟩
        refine ⟨rfl, _, rfl, _, rfl, py, _, _, _, rfl, rfl, sqT_sub (sP1.trans s3) y1, atI_nat (j := 1) rfl, rfl, _, rfl, ?_⟩
        rw [dcStr]
        refine iteD (fun e => ?_) fun e => ?_
        · have hn := fl_first wf hl10 ec ej (e.trans e1.symm)
          subst hn
          rw [ej] at ec
          cases ec
          rw [if_neg (Nat.lt_irrefl _)] at e3
          refine ⟨_, rfl, _, e3, (by show 0 < sizeLine; decide), same_set s3 hD1, ?_⟩
          rw [upd_same, if_pos (Nat.lt_succ_self _), e2]
          rfl
        · have hne2 : n ≠ j := by
            rintro rfl
            rw [ej] at ec
            cases ec
            exact e e1
          refine ⟨s3, ?_⟩
          by_cases hjn : j < n
          · rw [if_pos hjn] at e3
            rw [if_pos (by omega)]
            exact e3
          · rw [if_neg hjn] at e3
            rw [if_neg (by omega)]
            exact e3
      · rintro H3 ⟨s3, e3⟩
        rw [if_pos (by omega)] at e3
        exact ⟨D, _, _, _, rfl, rfl, SqL.of e3, atI_nat (j := 0) rfl, q H3 (s1.trans s3)⟩
end
end Pk
set_option Elab.async false
set_option linter.all false
set_option maxRecDepth 100000
set_option maxHeartbeats 4000000
namespace Pk
open PySem PySem.Spec PyProof.Rows L2 SX GxR Tk
abbrev sOnes : Stmt := topS 1
theorem scOnes : FnScope ["width"] ["width"] (defScope sOnes) := ⟨rfl, rfl, rfl, by decide +kernel, rfl, by decide +kernel, by decide +kernel⟩
abbrev NSp : List Str := ["octets", "widths", "number", "octet", "left", "values", "width"]
structure Bt14 (mg : Str → Option Value) : Prop where
  zLen : mg "len" = none
  zSum : mg "sum" = none
  zZip : mg "zip" = none
  zList : mg "list" = none
  zTuple : mg "tuple" = none
  zIsi : mg "isinstance" = none
  zRange : mg "range" = none
  OC : ∃ u, mg "OCTET_WIDTH" = some u ∧ RelV (.int 8) u
  PC : ∃ u, mg "PORT_CELL" = some u ∧ RelV (.int 0) u
  UC : ∃ u, mg "OUT_CELL" = some u ∧ RelV (.int 1) u
  NP : ∃ u, mg "NO_PORT" = some u ∧ RelV (.int 8) u
  AG : ∃ u, mg "ACCEPT_GOAL" = some u ∧ RelV (.int (-1)) u
  RG : ∃ u, mg "REJECT_GOAL" = some u ∧ RelV (.int (-2)) u
  FS : ∃ u, mg "FIRST_STATE" = some u ∧ RelV (.str "start") u
theorem p2le {w : Nat} (h : w ≤ 40) : ((2 : Int) ^ w).natAbs < 2 ^ 64 ∧ (0 : Int) < 2 ^ w ∧ (2 : Int) ^ w ≤ 1099511627776 := by
  have h1 : (2 : Nat) ^ w ≤ 2 ^ 40 := Nat.pow_le_pow_right (by decide) h
  have h2 : ((2 : Int) ^ w) = ((2 ^ w : Nat) : Int) := by push_cast; rfl
  have h3 : 0 < 2 ^ w := Nat.pow_pos (by decide)
  have h4 : (2 : Nat) ^ 40 = 1099511627776 := by decide
  have h5 : (2 : Nat) ^ 64 = 18446744073709551616 := by decide
  rw [h2, h5]
  omega
/-- the list of these numbers -/
def natsV (l : List Nat) : List V := l.map fun n => V.int (n : Nat)
theorem natsV_eq (l : List Nat) : natsV l = (l.map fun n => ((n : Nat) : Int)).map V.int := by
  unfold natsV
  rw [List.map_map]
  rfl
theorem sum_cast (l : List Nat) : (l.map fun n => ((n : Nat) : Int)).sum = ((l.sum : Nat) : Int) := by
  induction l with
  | nil => rfl
  | cons a r ih => rw [List.map_cons, List.sum_cons, List.sum_cons, ih]; push_cast; rfl
theorem and_ones (n k w : Nat) : Builtin.bitAnd (((n : Nat) : Int) / 2 ^ k) (2 ^ w - 1) = ((n / 2 ^ k % 2 ^ w : Nat) : Int) := by
  have e1 : ((n : Nat) : Int) / 2 ^ k = ((n / 2 ^ k : Nat) : Int) := by push_cast; rfl
  have h3 : 0 < 2 ^ w := Nat.pow_pos (by decide)
  have e2 : (2 : Int) ^ w - 1 = ((2 ^ w - 1 : Nat) : Int) := by
    have : ((2 : Int) ^ w) = ((2 ^ w : Nat) : Int) := by push_cast; rfl
    rw [this]; omega
  rw [e1, e2, bitAnd_nat (Int.natCast_nonneg _) (Int.natCast_nonneg _), Int.toNat_natCast, Int.toNat_natCast, Nat.and_two_pow_sub_one_eq_mod]
section
variable {P : Program} {w : World} {K : PySem.W.Frag} {mg : Str → Option Value} {base : Heap}
def spOnes : Sp := fun vs H Q _ => ∃ w : Nat, vs = [.int w] ∧ w ≤ 40 ∧ Q (.int (2 ^ w - 1)) H
theorem ok_ones {f : Addr} {fd : FuncData} {k : Nat} (F : Fun K "ones" "ones" sOnes f fd) : FnOk P w K mg base CX0 (k + 1) f fd ["width"] spOnes := by
  refine F.ok scOnes (fun vs H Q E h => ?_) (fun cdv A outer s H vs Q E hr h => ?_)
  · obtain ⟨n, rfl, _⟩ := h
    rfl
  · obtain ⟨n, rfl, hw, q⟩ := h
    refine ⟨_, pss_one (ps_ret (pe_op op_sub (pe_op op_shl pe_int (pv 0)) pe_int)), ?_⟩
    refine ⟨_, rfl, _, _, rfl, rfl, ⟨by omega, by omega, by decide +kernel⟩, _, _, rfl, rfl, ?_⟩
    rw [Int.toNat_natCast, Int.one_mul]
    exact q
/-- the values of the widths in the number of the octets -/
def spSplit (K : PySem.W.Frag) : Sp := fun vs H Q _ => ∃ (pa pb : Addr) (l ws : List Nat), vs = [.ref pa, .ref pb] ∧ SqL K H pa (natsV l) ∧ SqL K H pb (natsV ws) ∧ Oct l ∧ l.length ≤ 64 ∧ (∀ x ∈ ws, x ≤ 32) ∧ ws.length ≤ 8 ∧
  ∀ (H' : Hp) (p : Addr), Same H H' → H p = none → H' p = some (.lst (natsV (exV (numL l) ws.sum ws))) → Q (.ref p) H'
end
end Pk
set_option Elab.async false
set_option linter.all false
set_option maxRecDepth 100000
set_option maxHeartbeats 4000000
namespace Pk
open PySem PySem.Spec PyProof.Rows L2 SX GxR Tk
abbrev sPacket : Stmt := topS 61
abbrev sFind : Stmt := topS 62
abbrev NNg : List Str := ["cells", "key", "rows", "other", "mask", "value", "goal"]
abbrev NPk : List Str := ["state", "program", "packet", "k"]
theorem scPacket : FnScope NPk ["state", "program"] (defScope sPacket) := ⟨rfl, rfl, rfl, by decide +kernel, rfl, by decide +kernel, by decide +kernel⟩
abbrev NFi : List Str := ["rows", "name", "row"]
theorem scFind : FnScope NFi ["rows", "name"] (defScope sFind) := ⟨rfl, rfl, rfl, by decide +kernel, rfl, by decide +kernel, by decide +kernel⟩
abbrev Gr3 := Int × Int × Int
def g3L (r : Gr3) : List PyData := [.int r.1, .int r.2.1, .int r.2.2]
def nextG (v : Int) (rows : List Gr3) (other : Int) : Int := ((rows.find? fun r => decide (Builtin.bitAnd v r.1 = r.2.1)).map fun r => r.2.2).getD other
section
variable {P : Program} {w : World} {K : PySem.W.Frag} {mg : Str → Option Value} {base : Heap}
theorem find_step {α : Type} {f : α → Bool} {l : List α} {i : Nat} {x : α} (e : l[i]? = some x) (h : (l.take i).find? f = none) : (f x = true → l.find? f = some x) ∧ (f x = false → (l.take (i + 1)).find? f = none) := by
  have hi := (List.getElem?_eq_some_iff.mp e).1
  have e1 : l = l.take i ++ (x :: l.drop (i + 1)) := by
    have := (List.take_append_drop i l).symm
    rw [List.drop_eq_getElem_cons hi, (List.getElem?_eq_some_iff.mp e).2] at this
    exact this
  refine ⟨fun hx => ?_, fun hx => ?_⟩
  · rw [e1, List.find?_append, h, List.find?_cons_of_pos hx]
    rfl
  · rw [List.take_add_one, e, List.find?_append, h]
    show (none : Option α).or ([x].find? f) = none
    rw [List.find?_cons_of_neg (by rw [hx]; exact Bool.false_ne_true)]
    rfl
/-- the goal behind a state -/
def spNextGoal (K : PySem.W.Frag) : Sp := fun vs H Q _ => ∃ (pc pr : Addr) (kv : V) (xs : List V) (rows : List Gr3) (other : Int) (G : Hp), vs = [.ref pc, kv, .ref pr, .int other] ∧ H pc = some (.lst xs) ∧ Same G H ∧ Dp K G (.ref pr) (.list (rows.map fun r => .tuple (g3L r))) ∧
  (rows = [] ∧ Q (.int other) H ∨ ∃ (key : Nat) (v : Int), kv = .int (key : Nat) ∧ xs[key]? = some (.int v) ∧ Q (.int (nextG v rows other)) H)
/-- a packet of 1 to 64 octets -/
def spPacket (K : PySem.W.Frag) : Sp := fun vs H Q _ => ∃ (s c : Addr) (x : V), vs = [.ref s, x] ∧ StAt H s c ∧ ∀ (H' : Hp) (p : Addr) (l : List Nat), StAt H' s c → Kp s c H H' → H p = none → H' p = some (.lst (natsV l)) → Oct l → 1 ≤ l.length → l.length ≤ 64 → Q (.ref p) H'
theorem ok_packet {f : Addr} {fd : FuncData} (F : Fun K "_law_packet" "_law_packet" sPacket f fd) (T : Bt14 mg) (D1 : Df P w K mg base CX0 1 "_law_draw" ["state", "many"] spDraw) (D2 : Df P w K mg base CX0 2 "_law_pick" ["state", "row"] (spPickK K)) : FnOk P w K mg base CX0 3 f fd ["state", "program"] (spPacket K) := by
  obtain ⟨f1, fd1, G1, g1, k1, b1⟩ := D1.ex
  obtain ⟨f2, fd2, G2, g2, k2, b2⟩ := D2.ex
  refine F.ok scPacket (fun vs H Q E h => ?_) (fun cdv A outer s0 H vs Q E hr h => ?_)
  · obtain ⟨s, c, x, rfl, _⟩ := h
    rfl
  · obtain ⟨s, c, x, rfl, st, q⟩ := h
    have nd := scPacket.nd
    have hr1 : Room 1 _ := hr.mono (by omega)
    refine ⟨_, (pss_cons (ps_set (i := 2) nd rfl (.inl rfl) (pe_lst pa_nil))
      (pss_cons (ps_for PassesOwn.never rfl (pi_range1 (by rfl) T.zRange (pa_cons (pe_op op_add pe_int (pe_call G1 hr1 (by rfl) g1 k1 b1 .nil pass0 (pa_cons (pv 0) (pa_cons (pe_call G2 hr (by rfl) g2 k2 b2 .nil pass0 (pa_cons (pv 0) (pa_cons (pe_lst (pa_cons pe_int (pa_cons pe_int (pa_cons pe_int pa_nil)))) pa_nil))) pa_nil)))) pa_nil)) (pg_name (i := 3) nd rfl (.inl rfl))
        (pss_one (ps_expr (pe_bm PySem.F.plainAttrs_list PySem.F.slot_list_append PySem.F.type_list_append mt_append (pv 2) (pa_cons (pe_call G1 hr1 (by rfl) g1 k1 b1 .nil pass0 (pa_cons (pv 0) (pa_cons (pe_call G2 hr (by rfl) g2 k2 b2 .nil pass0 (pa_cons (pv 0) (pa_cons (pe_lst (pa_cons pe_int (pa_cons pe_int pa_nil))) pa_nil))) pa_nil))) pa_nil)))))
      (pss_one (ps_ret (pv 2))))), ?_⟩
    refine ⟨Nat.zero_le _, fun pp hpp => ?_⟩
    have np := st.neS hpp
    have st1 := st.new (o := .lst []) hpp
    have kp1 : Kp s c H (upd H pp (.lst [])) := Kp.new hpp
    refine ⟨_, rfl, _, rfl, by show 3 ≤ sizeLine; decide, fun p3 hp3 => ?_⟩
    have n3 := st1.neS hp3
    have st2 := st1.new (o := .lst [V.int 3, V.int 8, V.int 64]) hp3
    have kp2 := kp1.trans (Kp.new (s := s) (c := c) (o := .lst [V.int 3, V.int 8, V.int 64]) hp3)
    have e3 : (upd (upd H pp (.lst [])) p3 (.lst [V.int 3, V.int 8, V.int 64])) p3 = some (.lst [V.int 3, V.int 8, V.int 64]) := upd_same
    have npp : pp ≠ p3 := fun e => by rw [← e, upd_same] at hp3; cases hp3
    have epp : (upd (upd H pp (.lst [])) p3 (.lst [V.int 3, V.int 8, V.int 64])) pp = some (.lst []) := by rw [upd_ne npp, upd_same]
    refine ⟨s, c, p3, _, rfl, st2, SqL.of e3, fun H' k => SqL.of (k _ _ n3.1 n3.2 e3), by decide, by decide, fun H3 i y ey st3 kp3 => ?_⟩
    obtain ⟨m, rfl, m0, m1⟩ : ∃ m : Nat, y = .int (m : Nat) ∧ 0 < m ∧ m ≤ 64 := by
      match i, ey with
      | 0, e => cases e; exact ⟨3, rfl, by decide, by decide⟩
      | 1, e => cases e; exact ⟨8, rfl, by decide, by decide⟩
      | 2, e => cases e; exact ⟨64, rfl, by decide, by decide⟩
      | n + 3, e => cases e
    refine ⟨s, c, m, rfl, st3, by omega, by omega, fun H4 r r0 r1 st4 kp4 => ?_⟩
    refine ⟨_, _, rfl, rfl, 1 + r, rfl, by omega, by omega, ?_⟩
    have kp5 := (kp2.trans kp3).trans kp4
    have epp4 := kp4 _ _ np.1 np.2 (kp3 _ _ np.1 np.2 epp)
    refine for_range (lo := 0) (n := (1 + r).toNat) (fun i σ H5 => StAt H5 s c ∧ Kp s c H H5 ∧ ∃ (l : List Nat) (o3 : Option V), σ = [some (.ref s), some x, some (.ref pp), o3] ∧ H5 pp = some (.lst (natsV l)) ∧ Oct l ∧ l.length = i) ⟨st4, kp5, [], none, rfl, epp4, (fun b hb => absurd hb List.not_mem_nil), rfl⟩ ?_ ?_
    · rintro i σ H5 hi ⟨st5, kp5, l, o3, rfl, e5, hO, hl⟩
      refine ⟨_, rfl, .inl ⟨rfl, _, SqL.of e5⟩, _, rfl, _, rfl, by show 2 ≤ sizeLine; decide, fun p6 hp6 => ?_⟩
      have n6 := st5.neS hp6
      have st6 := st5.new (o := .lst [V.int 3, V.int 256]) hp6
      have kp6 := kp5.trans (Kp.new (s := s) (c := c) (o := .lst [V.int 3, V.int 256]) hp6)
      have e6 : (upd H5 p6 (.lst [V.int 3, V.int 256])) p6 = some (.lst [V.int 3, V.int 256]) := upd_same
      have npp6 : pp ≠ p6 := ne_of_none e5 hp6
      have epp6 : (upd H5 p6 (.lst [V.int 3, V.int 256])) pp = some (.lst (natsV l)) := by rw [upd_ne npp6]; exact e5
      refine ⟨s, c, p6, _, rfl, st6, SqL.of e6, fun H' k => SqL.of (k _ _ n6.1 n6.2 e6), by decide, by decide, fun H7 j y ey st7 kp7 => ?_⟩
      obtain ⟨m, rfl, m0, m1⟩ : ∃ m : Nat, y = .int (m : Nat) ∧ 0 < m ∧ m ≤ 256 := by
        match j, ey with
        | 0, e => cases e; exact ⟨3, rfl, by decide, by decide⟩
        | 1, e => cases e; exact ⟨256, rfl, by decide, by decide⟩
        | n + 2, e => cases e
      refine ⟨s, c, m, rfl, st7, by omega, by omega, fun H8 r' r0' r1' st8 kp8 => ?_⟩
      obtain ⟨b, rfl⟩ : ∃ b : Nat, r' = (b : Int) := ⟨r'.toNat, by omega⟩
      have epp8 := kp8 _ _ np.1 np.2 (kp7 _ _ np.1 np.2 epp6)
      have kp9 := (kp6.trans kp7).trans kp8
      refine ⟨pp, _, _, rfl, rfl, epp8, small1000 (by unfold natsV; rw [List.length_map]; omega), st8.upd np.1 np.2, fun b' o h1 h2 e => ?_, l ++ [b], _, rfl, ?_, ?_, ?_⟩
      · rw [upd_ne (ne_of_none e hpp)]
        exact kp9 b' o h1 h2 e
      · rw [upd_same]
        unfold natsV
        rw [List.map_append]
        rfl
      · intro z hz
        rcases List.mem_append.mp hz with hz | hz
        · exact hO z hz
        · rw [List.mem_singleton.mp hz]
          omega
      · rw [List.length_append, hl]
        rfl
    · rintro σ H5 ⟨st5, kp5, l, o3, rfl, e5, hO, hl⟩
      exact ⟨_, rfl, q H5 pp l st5 kp5 hpp e5 hO (by omega) (by omega)⟩
end
end Pk
set_option Elab.async false
set_option linter.all false
set_option maxRecDepth 100000
set_option maxHeartbeats 4000000
namespace Pk
open PySem PySem.Spec PyProof.Rows L2 SX GxR Tk
abbrev NGl : List Str := ["program", "target", "part"]
/-- a program -/
structure Pd where
  nm : Str
  hs : List Hd
  m : List Fl
  sts : List Sa
  acs : List Ac
  tbs : List Tb
  ct : Ct
  em : List Str
def Pd.L (p : Pd) : List PyData := pgL p.nm p.hs p.m p.sts p.acs p.tbs p.ct p.em
/-- the drawn states, before they are turned round -/
structure StK (p : Pd) (ss : List Sa) (n : Nat) : Prop where
  e : p.sts = ss.drop n ++ ss.take n
  n1 : n ≤ 1
  ok : SasOk p.hs ss
/-- v is the program p, with what is known of it -/
structure PgK (K : PySem.W.Frag) (G : Hp) (v : V) (p : Pd) : Prop where
  D : Dp K G v (.tuple p.L)
  wh : WfH p.hs
  h6 : p.hs.length ≤ 6
  wm : WfM p.m
  st : ∃ ss n, StK p ss n
theorem PgK.sub {K : PySem.W.Frag} {G G' : Hp} {v : V} {p : Pd} (h : PgK K G v p) (k : Same G G') : PgK K G' v p := ⟨dp_sub k h.D, h.wh, h.h6, h.wm, h.st⟩
def Pd.ns (p : Pd) : List Str := p.sts.map Sa.name
def goalI (ns : List Str) (t : Str) : Int := if t = Str.ofString "accept" then -1 else if t = Str.ofString "reject" then -2 else ((ns.findIdx fun x => decide (x = t) : Nat) : Int)
theorem ne_ar : Str.ofString "accept" ≠ Str.ofString "reject" := by decide +kernel
theorem dg_ends : digOf (Str.ofString "accept") = none ∧ digOf (Str.ofString "reject") = none ∧ digOf (Str.ofString "start") = none := by decide +kernel
theorem ne_start : Str.ofString "start" ≠ Str.ofString "accept" ∧ Str.ofString "start" ≠ Str.ofString "reject" := by decide +kernel
theorem nodup_iff_at {α : Type} {l : List α} : l.Nodup ↔ ∀ i j : Nat, i < j → j < l.length → l[i]? ≠ l[j]? := by
  unfold List.Nodup
  rw [List.pairwise_iff_getElem]
  refine ⟨fun h i j hij hj e => ?_, fun h i j hi hj hij e => ?_⟩
  · rw [List.getElem?_eq_getElem (by omega : i < l.length), List.getElem?_eq_getElem hj] at e
    exact h i j (by omega) hj hij (Option.some.inj e)
  · refine h i j hij hj ?_
    rw [List.getElem?_eq_getElem hi, List.getElem?_eq_getElem hj, e]
/-- names of states are no ends, and no two are alike -/
theorem ns_no {ns : List Str} (h : NsOk ns) : (∀ x ∈ ns, x ≠ Str.ofString "accept" ∧ x ≠ Str.ofString "reject") ∧ ns.Nodup := by
  obtain ⟨h1, h2, h3, h4⟩ := h
  have key : ∀ j x, ns[j]? = some x → j = 0 ∧ x = Str.ofString "start" ∨ 1 ≤ j ∧ NmK j x := by
    intro j x e
    by_cases h0 : j = 0
    · subst h0
      rw [h3] at e
      cases e
      exact .inl ⟨rfl, rfl⟩
    · exact .inr ⟨by omega, h4 j x (by omega) e⟩
  refine ⟨fun x hx => ?_, ?_⟩
  · obtain ⟨j, e⟩ := List.mem_iff_getElem?.mp hx
    have hj := (List.getElem?_eq_some_iff.mp e).1
    rcases key j x e with ⟨_, rfl⟩ | ⟨_, hn⟩
    · exact ne_start
    · exact ⟨nm_ne_str hn (by omega) _ dg_ends.1, nm_ne_str hn (by omega) _ dg_ends.2.1⟩
  · rw [nodup_iff_at]
    intro i j hij hj e
    have ei := List.getElem?_eq_getElem (by omega : i < ns.length)
    have ej := List.getElem?_eq_getElem hj
    rw [ei, ej] at e
    have e := Option.some.inj e
    rcases key i _ ei with ⟨_, h⟩ | ⟨_, h⟩
    · rcases key j _ ej with ⟨_, h'⟩ | ⟨_, h'⟩
      · omega
      · exact nm_ne_str h' (by omega) _ dg_ends.2.2 (e.symm.trans h)
    · rcases key j _ ej with ⟨_, h'⟩ | ⟨_, h'⟩
      · omega
      · have := nm_inj h h' (by omega) (by omega) e
        omega
theorem StK.names {p : Pd} {ss : List Sa} {n : Nat} (h : StK p ss n) : ∃ ns, NsOk ns ∧ ss.map Sa.name = ns ∧ p.ns.Perm ns ∧ (∀ k a, ss[k]? = some a → SaOk p.hs (if k = 0 then [portR] else [portR] ++ ownRefs p.hs 0 (tk0 ss)) ns k a) := by
  obtain ⟨ns, h1, h2, h3⟩ := h.ok
  have e : ss.map Sa.name = ns := by
    refine List.ext_getElem? fun i => ?_
    rw [List.getElem?_map]
    cases ea : ss[i]? with
    | none =>
      have := List.getElem?_eq_none_iff.mp ea
      exact (List.getElem?_eq_none (by omega)).symm
    | some a => exact (h3 i a ea).1.symm
  refine ⟨ns, h1, e, ?_, h3⟩
  unfold Pd.ns
  rw [h.e, List.map_append, ← e]
  conv => rhs; rw [← List.take_append_drop n ss, List.map_append]
  exact List.perm_append_comm
theorem StK.nodup {p : Pd} {ss : List Sa} {n : Nat} (h : StK p ss n) : p.ns.Nodup ∧ (∀ x ∈ p.ns, x ≠ Str.ofString "accept" ∧ x ≠ Str.ofString "reject" ∧ Sx x) ∧ Str.ofString "start" ∈ p.ns ∧ p.sts.length ≤ 8 := by
  obtain ⟨ns, h1, h2, h3, _⟩ := h.names
  have hh := ns_no h1
  refine ⟨h3.nodup_iff.mpr hh.2, fun x hx => ?_, h3.mem_iff.mpr (List.mem_of_getElem? h1.2.2.1), ?_⟩
  · have hm := h3.mem_iff.mp hx
    exact ⟨(hh.1 x hm).1, (hh.1 x hm).2, ns_sx h1 x hm⟩
  · have := h3.length_eq
    unfold Pd.ns at this
    rw [List.length_map] at this
    have := h1.2.1
    omega
/-- the first of a name among names of which no two are alike -/
theorem idx_nodup {l : List Str} (h : l.Nodup) {i : Nat} {x : Str} (e : l[i]? = some x) : (l.findIdx fun y => decide (y = x)) = i := by
  have hi := (List.getElem?_eq_some_iff.mp e).1
  refine (List.findIdx_eq hi).mpr ⟨?_, fun j hj => ?_⟩
  · rw [(List.getElem?_eq_some_iff.mp e).2]
    exact decide_eq_true rfl
  · refine decide_eq_false fun z => ?_
    have ej := List.getElem?_eq_getElem (by omega : j < l.length)
    rw [z] at ej
    exact (nodup_iff_at.mp h) j i hj hi (ej.trans e.symm)
theorem goalI_at {ns : List Str} (h : ns.Nodup) (hn : ∀ x ∈ ns, x ≠ Str.ofString "accept" ∧ x ≠ Str.ofString "reject" ∧ Sx x) {i : Nat} {x : Str} (e : ns[i]? = some x) : goalI ns x = (i : Int) := by
  have hx := hn x (List.mem_of_getElem? e)
  unfold goalI
  rw [if_neg hx.1, if_neg hx.2.1, idx_nodup h e]
theorem goalI_acc (ns : List Str) : goalI ns (Str.ofString "accept") = -1 := if_pos rfl
theorem goalI_rej (ns : List Str) : goalI ns (Str.ofString "reject") = -2 := by
  unfold goalI
  rw [if_neg (Ne.symm ne_ar), if_pos rfl]
theorem sasD_eq (l : List Sa) : sasD l = .list ((l.map saL).map .tuple) := by
  unfold sasD
  rw [List.map_map]
  rfl
theorem nm2_sa (l : List Sa) : (l.map saL).map nm2 = l.map Sa.name := by
  rw [List.map_map]
  rfl
section
variable {P : Program} {w : World} {K : PySem.W.Frag} {mg : Str → Option Value} {base : Heap}
/-- the index of a name -/
theorem index_rd {H : Hp} {pn : Addr} {ns : List Str} {t : Str} {Q : VK} (hnd : ns.Nodup) (ht : t ∈ ns) (e : H pn = some (.lst (ns.map V.str))) (q : Q (.int ((ns.findIdx fun x => decide (x = t) : Nat) : Int)) H) : rIndex K (.ref pn) [.str t] H Q := by
  obtain ⟨i, ei⟩ := List.mem_iff_getElem?.mp ht
  have hi := idx_nodup hnd ei
  rw [hi] at q
  refine ⟨pn, _, .str t, i, .str t, rfl, rfl, SqL.of e, rfl, flat_strs _, by rw [List.getElem?_map, ei]; rfl, ?_, fun n' z' hlt' ez => ?_, q⟩
  · show (t == t) = true
    exact beq_self_eq_true _
  · rw [List.getElem?_map] at ez
    obtain ⟨y, ey, rfl⟩ := Option.map_eq_some_iff.mp ez
    show (y == t) = false
    refine beq_eq_false_iff_ne.mpr fun z => ?_
    subst z
    exact (nodup_iff_at.mp hnd) n' i hlt' (List.getElem?_eq_some_iff.mp ei).1 (ey.trans ei.symm)
def spGoalOf (K : PySem.W.Frag) : Sp := fun vs H Q _ => ∃ (v : V) (G : Hp) (p : Pd) (t : Str), vs = [v, .str t] ∧ Same G H ∧ PgK K G v p ∧ Goal p.ns t ∧ ∀ H', Same H H' → Q (.int (goalI p.ns t)) H'
end
end Pk
set_option Elab.async false
set_option linter.all false
set_option maxRecDepth 100000
set_option maxHeartbeats 4000000
namespace Pk
open PySem PySem.Spec PyProof.Rows L2 SX GxR Tk
abbrev sExtract : Stmt := topS 63
abbrev sValueL : Stmt := topS 64
abbrev sTarget : Stmt := topS 65
abbrev NEx : List Str := ["header", "p", "number", "left", "name", "width"]
theorem scExtract : FnScope NEx ["header", "p", "number", "left"] (defScope sExtract) := ⟨rfl, rfl, rfl, by decide +kernel, rfl, by decide +kernel, by decide +kernel⟩
theorem scValueL : FnScope ["p", "field"] ["p", "field"] (defScope sValueL) := ⟨rfl, rfl, rfl, by decide +kernel, rfl, by decide +kernel, by decide +kernel⟩
abbrev NTg : List Str := ["p", "following", "value", "wanted", "mask", "target"]
theorem scTarget : FnScope NTg ["p", "following"] (defScope sTarget) := ⟨rfl, rfl, rfl, by decide +kernel, rfl, by decide +kernel, by decide +kernel⟩
/-! ### the plain parser's state as objects -/
def keyX (o n : Str) : List L2.Key := [.inr o, .inr n]
def kvX (ex : List Xt) : List (List L2.Key × V) := ex.map fun e => (keyX e.1 e.2.1, .int (e.2.2 : Nat))
theorem keyX_inj {a b c d : Str} : keyX a b = keyX c d ↔ (a, b) = (c, d) := by
  unfold keyX
  constructor
  · intro h
    injection h with h1 h2
    injection h2 with h2 h3
    injection h1 with h1
    injection h2 with h2
    rw [h1, h2]
  · intro h
    obtain ⟨rfl, rfl⟩ := Prod.mk.inj h
    rfl
theorem valX (o n : Str) : ∀ ex : List Xt, valV (kvX ex) (keyX o n) = (ex.find? fun e => decide ((e.1, e.2.1) = (o, n))).map fun e => V.int (e.2.2 : Nat) := by
  intro ex
  induction ex with
  | nil => rfl
  | cons e r ih =>
    by_cases h : (e.1, e.2.1) = (o, n)
    · rw [List.find?_cons_of_pos (by exact decide_eq_true h)]
      exact valV_pos (p := (keyX e.1 e.2.1, V.int (e.2.2 : Nat))) (keyX_inj.mpr h)
    · rw [List.find?_cons_of_neg (by rw [decide_eq_false h]; exact Bool.false_ne_true), ← ih]
      exact valV_neg (p := (keyX e.1 e.2.1, V.int (e.2.2 : Nat))) fun z => h (keyX_inj.mp z)
theorem look_val {port : Nat} {ex : List Xt} {o n : Str} (h : (o, n) ≠ (Str.ofString "packet", Str.ofString "port")) : (valV (kvX ex) (keyX o n)).getD (.int 0) = V.int (look port ex o n : Nat) := by
  rw [valX]
  unfold look
  rw [if_neg h]
  cases ex.find? fun e => decide ((e.1, e.2.1) = (o, n)) <;> rfl
structure Pp (H : Hp) (pp pd pv : Addr) (port : Nat) (ex : List Xt) (vs : List Str) : Prop where
  e : ∃ z, H pp = some (.lst [.ref pd, .ref pv, .non, .int (port : Nat), z])
  d : H pd = some (.dT (kvX ex))
  v : H pv = some (.lst (vs.map V.str))
  n1 : pp ≠ pv
theorem Pp.same {H H' : Hp} {pp pd pv : Addr} {port : Nat} {ex : List Xt} {vs : List Str} (h : Pp H pp pd pv port ex vs) (s : Same H H') : Pp H' pp pd pv port ex vs := by
  obtain ⟨z, e⟩ := h.e
  exact ⟨⟨z, s _ _ e⟩, s _ _ h.d, s _ _ h.v, h.n1⟩
theorem Pp.npd {H : Hp} {pp pd pv : Addr} {port : Nat} {ex : List Xt} {vs : List Str} (h : Pp H pp pd pv port ex vs) : pp ≠ pd ∧ pv ≠ pd := by
  obtain ⟨z, e⟩ := h.e
  refine ⟨fun x => ?_, fun x => ?_⟩
  · rw [x, h.d] at e
    cases e
  · have := h.v
    rw [x, h.d] at this
    cases this
section
variable {P : Program} {w : World} {K : PySem.W.Frag} {mg : Str → Option Value} {base : Heap}
def spValueL (K : PySem.W.Frag) : Sp := fun vs H Q _ => ∃ (pp pd pv : Addr) (y : V) (port : Nat) (ex : List Xt) (ns : List Str) (G : Hp) (o n : Str), vs = [.ref pp, y] ∧ Pp H pp pd pv port ex ns ∧ Same G H ∧ Dp K G y (prD o n) ∧ Sx o ∧ Sx n ∧ ∀ H', Same H H' → Q (.int (look port ex o n : Nat)) H'
theorem ok_valueL {f : Addr} {fd : FuncData} {k : Nat} (F : Fun K "_law_value" "_law_value" sValueL f fd) : FnOk P w K mg base CX0 (k + 1) f fd ["p", "field"] (spValueL K) := by
  refine F.ok scValueL (fun vs H Q E h => ?_) (fun cdv A outer s H vs Q E hr h => ?_)
  · obtain ⟨pp, pd, pv, y, port, ex, ns, G, o, n, rfl, _⟩ := h
    rfl
  · obtain ⟨pp, pd, pv', y, port, ex, ns, G, o, n, rfl, hp, sG, hy, so, sn, q⟩ := h
    have nd := scValueL.nd
    refine ⟨_, (pss_cons (ps_if (pt_cmpR (op_eqD hr.units) (pv 1) (pe_tup (pa_cons pe_str (pa_cons pe_str pa_nil))) (nomark _)) (pss_one (ps_ret (pe_ix ix_list (pv 0) pe_int (fun _ _ => rfl)))) pss_nil)
      (pss_one (ps_ret (pe_dget2Q (hu_of hr) (pe_ix ix_list (pv 0) pe_int (fun _ _ => rfl)) (pv 1) pe_int ⟨rfl, rfl, rfl, rfl⟩)))), ?_⟩
    obtain ⟨py, rfl, y1⟩ := dp_prD hy
    refine ⟨_, rfl, (by show 2 ≤ sizeLine; decide), fun t ht => ?_⟩
    have s1 := same_new (o := .tup [V.str "packet", V.str "port"]) ht
    refine ⟨_, _, dp_sub (sG.trans s1) hy, .tup (SqT.of upd_same) (.cons (.str _) (.cons (.str _) .nil)), prD_shaped so sn, prD_shaped sx_port.1 sx_port.2, _, rfl, ?_⟩
    show if PyData.eqv (prD o n) (prD "packet" "port") = true then _ else _
    rw [prD_eqv]
    generalize upd H t (.tup [V.str "packet", V.str "port"]) = H1 at s1 ⊢
    have hp1 := hp.same s1
    obtain ⟨z, e⟩ := hp1.e
    refine iteD (fun e1 => ?_) fun e1 => ?_
    · refine ⟨_, rfl, pp, _, _, _, rfl, rfl, SqL.of e, atI_nat (j := 3) rfl, ?_⟩
      have := q H1 s1
      unfold look at this
      rw [if_pos e1] at this
      exact this
    · refine ⟨_, rfl, pp, _, _, _, rfl, rfl, SqL.of e, atI_nat (j := 0) rfl, pd, kvX ex, rfl, hp1.d, _, rfl, py, keyX o n, rfl, hp1.d, sqT_sub (sG.trans s1) y1, ?_⟩
      rw [look_val (port := port) e1]
      exact q H1 s1
/-- the next state's name -/
def spTarget (K : PySem.W.Frag) : Sp := fun vs H Q _ => ∃ (pp pd pv : Addr) (y : V) (port : Nat) (ex : List Xt) (ns : List Str) (G : Hp) (x : Nx), vs = [.ref pp, y] ∧ Pp H pp pd pv port ex ns ∧ Same G H ∧ Dp K G y (.tuple (nxL x)) ∧
  (∀ o n rows other, x = .sel o n rows other → Sx o ∧ Sx n) ∧ ∀ H', Same H H' → Q (.str (tgt port ex x)) H'
theorem sel_ne : Str.ofString "select" ≠ Str.ofString "go" := by decide +kernel
theorem ok_target {f : Addr} {fd : FuncData} (F : Fun K "_law_target" "_law_target" sTarget f fd) (D1 : Df P w K mg base CX0 1 "_law_value" ["p", "field"] (spValueL K)) : FnOk P w K mg base CX0 2 f fd ["p", "following"] (spTarget K) := by
  obtain ⟨f1, fd1, G1, g1, k1, b1⟩ := D1.ex
  refine F.ok scTarget (fun vs H Q E h => ?_) (fun cdv A outer s H vs Q E hr h => ?_)
  · obtain ⟨pp, pd, pv, y, port, ex, ns, G, x, rfl, _⟩ := h
    rfl
  · obtain ⟨pp, pd, pv', y, port, ex, ns, G, x, rfl, hp, sG, hy, hx, q⟩ := h
    have nd := scTarget.nd
    refine ⟨_, (pss_cons (ps_if (pt_cmpR op_eq (pe_ix ix_tup (pv 1) pe_int (fun _ _ => rfl)) pe_str (nomark _)) (pss_one (ps_ret (pe_ix ix_tup (pv 1) pe_int (fun _ _ => rfl)))) pss_nil)
      (pss_cons (ps_set (i := 2) nd rfl (.inl rfl) (pe_call G1 hr (by rfl) g1 k1 b1 .nil pass0 (pa_cons (pv 0) (pa_cons (pe_ix ix_tup (pv 1) pe_int (fun _ _ => rfl)) pa_nil))))
      (pss_cons (ps_for PassesOwn.never rfl (pi_list (pe_ix ix_tup (pv 1) pe_int (fun _ _ => rfl))) (pg_tup (by rfl) (pgs_cons (pg_name (i := 3) nd rfl (.inl rfl)) (pgs_cons (pg_name (i := 4) nd rfl (.inl rfl)) (pgs_cons (pg_name (i := 5) nd rfl (.inl rfl)) pgs_nil))))
        (pss_one (ps_if (PW.pt (pw_or (PW.pt (pw_and (pt_cmpR op_isN (pv 4) pe_non (nomark _)) (pw_and1 (pt_cmpR op_eq (pv 2) (pv 3) (nomark _))))) (pw_or1 (PW.pt (pw_and (pt_cmpR op_notN (pv 4) pe_non (nomark _)) (pw_and1 (pt_cmpR op_eq (pe_op op_and (pv 2) (pv 4)) (pv 3) (nomark _)))))))) (pss_one (ps_ret (pv 5))) pss_nil)))
      (pss_one (ps_ret (pe_ix ix_tup (pv 1) pe_int (fun _ _ => rfl))))))), ?_⟩
    obtain ⟨py, ys, rfl, y1, y2⟩ := dp_tup hy
    cases x with
    | go t =>
      obtain ⟨v0, r, rfl, e0, y2⟩ := dpAll_cons y2
      obtain ⟨v1, r, rfl, e1, y2⟩ := dpAll_cons y2
      obtain rfl := dpAll_nil y2
      obtain rfl := dp_str e0
      obtain rfl := dp_str e1
      refine ⟨_, rfl, py, _, _, _, rfl, rfl, sqT_sub sG y1, atI_nat (j := 0) rfl, rfl, _, rfl, ?_⟩
      rw [dcStr]
      exact iteDT rfl ⟨_, rfl, py, _, _, _, rfl, rfl, sqT_sub sG y1, atI_nat (j := 1) rfl, q H (Same.refl _)⟩
    | sel o n rows other =>
      obtain ⟨v0, r, rfl, e0, y2⟩ := dpAll_cons y2
      obtain ⟨v1, r, rfl, e1, y2⟩ := dpAll_cons y2
      obtain ⟨v2, r, rfl, e2, y2⟩ := dpAll_cons y2
      obtain ⟨v3, r, rfl, e3, y2⟩ := dpAll_cons y2
      obtain rfl := dpAll_nil y2
      obtain rfl := dp_str e0
      obtain rfl := dp_str e3
      obtain ⟨so, sn⟩ := hx o n rows other rfl
      refine ⟨_, rfl, py, _, _, _, rfl, rfl, sqT_sub sG y1, atI_nat (j := 0) rfl, rfl, _, rfl, ?_⟩
      rw [dcStr]
      refine iteDF sel_ne ?_
      refine ⟨_, rfl, _, rfl, py, _, _, _, rfl, rfl, sqT_sub sG y1, atI_nat (j := 1) rfl, pp, pd, pv', v1, port, ex, ns, G, o, n, rfl, hp, sG, e1, so, sn, fun H1 s1 => ?_⟩
      obtain ⟨pr, zs, rfl, z1, z2⟩ := dp_lst e2
      have hl := dpAll_len z2
      rw [List.length_map] at hl
      have sG1 := sG.trans s1
      refine ⟨_, rfl, py, _, _, _, rfl, rfl, sqT_sub sG1 y1, atI_nat (j := 2) rfl, pr, rfl, ⟨_, sqL_sub sG1 z1⟩, for_list (K := K) (a := pr) (xs := zs) (fun i σ H2 => H2 = H1 ∧ (∃ o3 o4 o5, σ = [some (.ref pp), some (.ref py), some (.int (look port ex o n : Nat)), o3, o4, o5]) ∧ (rows.take i).find? (rowHit (look port ex o n)) = none) ⟨rfl, ⟨none, none, none, rfl⟩, rfl⟩ (fun i σ H2 _ h => by rw [h.1]; exact sqL_sub sG1 z1) ?_ ?_⟩
      · rintro i y σ H2 hi ⟨rfl, ⟨o3, o4, o5, rfl⟩, hn⟩
        obtain ⟨d, ed, hd⟩ := dpAll_val z2 hi
        rw [List.getElem?_map] at ed
        obtain ⟨r, er, rfl⟩ := Option.map_eq_some_iff.mp ed
        obtain ⟨pt, ts, rfl, u1, u2⟩ := dp_tup hd
        obtain ⟨w0, t, rfl, n0, u2⟩ := dpAll_cons u2
        obtain ⟨w1, t, rfl, n1, u2⟩ := dpAll_cons u2
        obtain ⟨w2, t, rfl, n2, u2⟩ := dpAll_cons u2
        obtain rfl := dpAll_nil u2
        obtain rfl := dp_int n0
        obtain rfl := dp_str n2
        obtain ⟨a, mk, g⟩ := r
        have hs := find_step er hn
        have hq : rowHit (look port ex o n) (a, mk, g) = true → Q (.str g) H2 := fun e => by
          have := q H2 s1
          show Q _ _
          have e2 : tgt port ex (.sel o n rows other) = g := by
            show ((rows.find? (rowHit (look port ex o n))).map fun r => r.2.2).getD other = g
            rw [hs.1 e]
            rfl
          rw [e2] at this
          exact this
        refine ⟨pt, _, rfl, sqT_sub sG1 u1, rfl, _, _, rfl, _, _, rfl, _, _, rfl, rfl, ?_⟩
        cases mk with
        | none =>
          have : w1 = .non := by
            cases n1
            rfl
          subst this
          refine ⟨_, rfl, rfl, _, rfl, ?_⟩
          refine iteT ?_
          refine ⟨_, rfl, _, rfl, rfl, _, rfl, ?_⟩
          rw [dcInt]
          refine iteD (fun e => ?_) fun e => ?_
          · exact ⟨_, rfl, hq (decide_eq_true e)⟩
          · refine ⟨_, rfl, rfl, _, rfl, ?_⟩
            refine iteF ?_
            exact ⟨rfl, ⟨_, _, _, rfl⟩, hs.2 (decide_eq_false e)⟩
        | some m =>
          obtain rfl := dp_int n1
          refine ⟨_, rfl, rfl, _, rfl, ?_⟩
          refine iteF ?_
          refine ⟨_, rfl, rfl, _, rfl, ?_⟩
          refine iteT ?_
          refine ⟨_, rfl, _, rfl, _, _, rfl, rfl, _, rfl, rfl, _, rfl, ?_⟩
          rw [dcInt]
          refine iteD (fun e => ?_) fun e => ?_
          · exact ⟨_, rfl, hq (decide_eq_true e)⟩
          · exact ⟨rfl, ⟨_, _, _, rfl⟩, hs.2 (decide_eq_false e)⟩
      · rintro σ H2 ⟨rfl, ⟨o3, o4, o5, rfl⟩, hn⟩
        rw [hl, List.take_length] at hn
        have e2 : tgt port ex (.sel o n rows other) = other := by
          show ((rows.find? (rowHit (look port ex o n))).map fun r => r.2.2).getD other = other
          rw [hn]
          rfl
        have := q H2 s1
        rw [e2] at this
        exact ⟨_, rfl, py, _, _, _, rfl, rfl, sqT_sub sG1 y1, atI_nat (j := 3) rfl, this⟩
end
end Pk
set_option Elab.async false
set_option linter.all false
set_option maxRecDepth 100000
set_option maxHeartbeats 4000000
namespace Pk
open PySem PySem.Spec PyProof.Rows L2 SX GxR Tk
def wsOf (h : Hd) : List Nat := h.2.map (·.2)
theorem ws_sum (h : Hd) : (wsOf h).sum = total h.2 := rfl
theorem newX_len (h : Hd) (N L : Nat) : (newX h N L).length = h.2.length := by
  unfold newX
  rw [List.length_map, List.length_zip, exV_len, List.length_map, Nat.min_self]
theorem newX_at {h : Hd} {N L i : Nat} {f : Fl} {v : Nat} (ef : h.2[i]? = some f) (ev : (exV N L (wsOf h))[i]? = some v) : (newX h N L)[i]? = some (h.1, f.1, v) := by
  unfold newX
  have e : (h.2.zip (exV N L (wsOf h)))[i]? = some (f, v) := (List.getElem?_zip_eq_some (z := (f, v))).mpr ⟨ef, ev⟩
  rw [List.getElem?_map]
  show Option.map _ ((h.2.zip (exV N L (wsOf h)))[i]?) = _
  rw [e]
  rfl
theorem newX_mem {h : Hd} {N L : Nat} {e : Xt} (he : e ∈ newX h N L) : e.1 = h.1 ∧ ∃ (i : Nat) (f : Fl), h.2[i]? = some f ∧ e.2.1 = f.1 ∧ (newX h N L)[i]? = some e := by
  obtain ⟨i, ei⟩ := List.mem_iff_getElem?.mp he
  have hi := (List.getElem?_eq_some_iff.mp ei).1
  rw [newX_len] at hi
  have ef := List.getElem?_eq_getElem hi
  have hi2 : i < (exV N L (wsOf h)).length := by
    rw [exV_len]
    unfold wsOf
    rw [List.length_map]
    exact hi
  have := newX_at ef (List.getElem?_eq_getElem hi2)
  rw [ei] at this
  obtain rfl := Option.some.inj this
  exact ⟨rfl, i, _, ef, rfl, ei⟩
/-- the values of the fields, one by one -/
theorem exV_step {N L i : Nat} {ws : List Nat} {x : Nat} (ex : ws[i]? = some x) (h : ws.sum ≤ L) : ∃ v, (exV N L ws)[i]? = some v ∧ v = N / 2 ^ (L - (ws.take (i + 1)).sum) % 2 ^ x ∧ L - (ws.take i).sum - x = L - (ws.take (i + 1)).sum ∧ (ws.take i).sum + x ≤ L := by
  induction ws generalizing L i with
  | nil => cases ex
  | cons w r ih =>
    rw [List.sum_cons] at h
    cases i with
    | zero =>
      cases ex
      refine ⟨N / 2 ^ (L - x) % 2 ^ x, rfl, ?_, ?_, ?_⟩
      · rw [List.take_succ_cons, List.take_zero, List.sum_cons, List.sum_nil]
        rfl
      · rw [List.take_succ_cons, List.take_zero, List.sum_cons, List.sum_nil]
        rfl
      · rw [List.take_zero, List.sum_nil]
        omega
    | succ j =>
      obtain ⟨v, h1, h2, h3, h4⟩ := ih (L := L - w) (i := j) ex (by omega)
      refine ⟨v, h1, ?_, ?_, ?_⟩
      · rw [h2, List.take_succ_cons, List.sum_cons]
        congr 2
        congr 1
        omega
      · rw [List.take_succ_cons, List.take_succ_cons, List.sum_cons, List.sum_cons]
        omega
      · rw [List.take_succ_cons, List.sum_cons]
        omega
theorem take_all (h : Hd) : ((wsOf h).take h.2.length).sum = total h.2 := by
  have : (wsOf h).length = h.2.length := List.length_map ..
  rw [← this, List.take_length]
  rfl
theorem kvX_app (a b : List Xt) : kvX (a ++ b) = kvX a ++ kvX b := List.map_append ..
theorem shr_ones (n k w : Nat) : Builtin.bitAnd (((n : Nat) : Int) / 2 ^ (((k : Nat) : Int)).toNat) (1 * 2 ^ (((w : Nat) : Int)).toNat - 1) = ((n / 2 ^ k % 2 ^ w : Nat) : Int) := by
  rw [Int.toNat_natCast, Int.toNat_natCast, Int.one_mul]
  exact and_ones n k w
section
variable {P : Program} {w : World} {K : PySem.W.Frag} {mg : Str → Option Value} {base : Heap}
/-- a header is extracted -/
def spExtract (K : PySem.W.Frag) : Sp := fun vs H Q _ => ∃ (pp pd pv : Addr) (y : V) (port : Nat) (ex : List Xt) (ns : List Str) (G : Hp) (h : Hd) (N L : Nat), vs = [y, .ref pp, .int (N : Nat), .int (L : Nat)] ∧ Pp H pp pd pv port ex ns ∧ Same G H ∧ G pd = none ∧ G pv = none ∧ Dp K G y (.tuple (hdL h)) ∧ WfF h.2 ∧ total h.2 ≤ L ∧ (∀ e ∈ ex, e.1 ≠ h.1) ∧ ex.length ≤ 100 ∧ ns.length ≤ 100 ∧
  ∀ H', (∀ b o, b ≠ pd → b ≠ pv → H b = some o → H' b = some o) → Pp H' pp pd pv port (ex ++ newX h N L) (ns ++ [h.1]) → Q (.int ((L - total h.2 : Nat) : Int)) H'
theorem ok_extract {f : Addr} {fd : FuncData} {k : Nat} (F : Fun K "_law_extract" "_law_extract" sExtract f fd) : FnOk P w K mg base CX0 (k + 1) f fd ["header", "p", "number", "left"] (spExtract K) := by
  refine F.ok scExtract (fun vs H Q E h => ?_) (fun cdv A outer s H vs Q E hr h => ?_)
  · obtain ⟨pp, pd, pv, y, port, ex, ns, G, h, N, L, rfl, _⟩ := h
    rfl
  · obtain ⟨pp, pd, pv', y, port, ex, ns, G, h, N, L, rfl, hp, sG, gd, gv, hy, hf, hL, hfresh, hexl, hnl, q⟩ := h
    have nd := scExtract.nd
    refine ⟨_, (pss_cons (ps_for PassesOwn.never rfl (pi_list (pe_ix ix_tup (pv 0) pe_int (fun _ _ => rfl))) (pg_tup (by rfl) (pgs_cons (pg_name (i := 4) nd rfl (.inl rfl)) (pgs_cons (pg_name (i := 5) nd rfl (.inl rfl)) pgs_nil)))
        (pss_cons (ps_set (i := 3) nd rfl (.inl rfl) (pe_op op_sub (pv 3) (pv 5)))
        (pss_one (ps_dput (hu_of hr) (pe_ix ix_list (pv 1) pe_int (fun _ _ => rfl)) (pe_tup (pa_cons (pe_ix ix_tup (pv 0) pe_int (fun _ _ => rfl)) (pa_cons (pv 4) pa_nil))) (pe_op op_and (pe_op op_shr (pv 2) (pv 3)) (pe_op op_sub (pe_op op_shl pe_int (pv 5)) pe_int)) rfl))))
      (pss_cons (ps_expr (pe_bm PySem.F.plainAttrs_list PySem.F.slot_list_append PySem.F.type_list_append mt_append (pe_ix ix_list (pv 1) pe_int (fun _ _ => rfl)) (pa_cons (pe_ix ix_tup (pv 0) pe_int (fun _ _ => rfl)) pa_nil)))
      (pss_one (ps_ret (pv 3))))), ?_⟩
    obtain ⟨py, ys, rfl, y1, y2⟩ := dp_tup hy
    obtain ⟨v0, r, rfl, e0, y2⟩ := dpAll_cons y2
    obtain ⟨v1, r, rfl, e1, y2⟩ := dpAll_cons y2
    obtain ⟨v2, r, rfl, e2, y2⟩ := dpAll_cons y2
    obtain rfl := dpAll_nil y2
    obtain rfl := dp_str e1
    obtain ⟨pf, zs, rfl, z1, z2⟩ := dp_lst e2
    have hl := dpAll_len z2
    rw [List.length_map] at hl
    have nps := hp.npd
    have hG : ∀ {H' : Hp}, (∀ b o, b ≠ pd → b ≠ pv' → H b = some o → H' b = some o) → Same G H' := fun k b o e => k b o (ne_of_none e gd) (ne_of_none e gv) (sG _ _ e)
    have hl8 : h.2.length ≤ 8 := hf.2.1
    refine ⟨_, rfl, py, _, _, _, rfl, rfl, sqT_sub sG y1, atI_nat (j := 2) rfl, pf, rfl, ⟨_, sqL_sub sG z1⟩, for_list (K := K) (a := pf) (xs := zs) (fun i σ H2 => (∀ b o, b ≠ pd → b ≠ pv' → H b = some o → H2 b = some o) ∧ (∃ o4 o5, σ = [some (.ref py), some (.ref pp), some (.int (N : Nat)), some (.int ((L - ((wsOf h).take i).sum : Nat) : Int)), o4, o5]) ∧ Pp H2 pp pd pv' port (ex ++ (newX h N L).take i) ns) ⟨fun b o _ _ e => e, ⟨none, none, rfl⟩, by rw [List.take_zero, List.append_nil]; exact hp⟩ (fun i σ H2 _ h => sqL_sub (hG h.1) z1) ?_ ?_⟩
    · rintro i y σ H2 hi ⟨kp, ⟨o4, o5, rfl⟩, hp2⟩
      obtain ⟨d, ed, hd⟩ := dpAll_val z2 hi
      rw [List.getElem?_map] at ed
      obtain ⟨c, ec, ed'⟩ := Option.map_eq_some_iff.mp ed
      subst ed'
      obtain ⟨pt, ts, rfl, u1, u2⟩ := dp_tup hd
      obtain ⟨w0, t, rfl, n0, u2⟩ := dpAll_cons u2
      obtain ⟨w1, t, rfl, n1, u2⟩ := dpAll_cons u2
      obtain rfl := dpAll_nil u2
      obtain rfl := dp_str n0
      obtain rfl := dp_int n1
      have sG2 := hG kp
      have hil := (List.getElem?_eq_some_iff.mp ec).1
      have ew : (wsOf h)[i]? = some c.2 := by
        unfold wsOf
        rw [List.getElem?_map, ec]
        rfl
      obtain ⟨val, ev, hv, hs1, hs2⟩ := exV_step (N := N) (L := L) ew (by rw [ws_sum]; exact hL)
      have en := newX_at ec ev
      have c32 := (hf.2.2.1 i c ec).2.2.2
      refine ⟨pt, _, rfl, sqT_sub sG2 u1, rfl, _, _, rfl, _, _, rfl, rfl, ?_⟩
      refine ⟨_, rfl, _, rfl, _, _, rfl, rfl, ?_⟩
      have eL : ((L - ((wsOf h).take i).sum : Nat) : Int) - ((c.2 : Nat) : Int) = ((L - ((wsOf h).take (i + 1)).sum : Nat) : Int) := by omega
      dsimp only
      rw [eL]
      obtain ⟨zz, epp⟩ := hp2.e
      refine ⟨_, rfl, _, rfl, _, _, rfl, rfl, Int.natCast_nonneg _, _, rfl, _, _, rfl, rfl, ⟨by omega, by omega, by decide +kernel⟩, _, _, rfl, rfl, _, _, rfl, rfl, ?_⟩
      refine ⟨_, rfl, pp, _, _, _, rfl, rfl, SqL.of epp, atI_nat (j := 0) rfl, ?_⟩
      refine ⟨_, rfl, py, _, _, _, rfl, rfl, sqT_sub sG2 y1, atI_nat (j := 1) rfl, _, rfl, (by show 2 ≤ sizeLine; decide), fun T hT => ?_⟩
      have s3 := same_new (o := .tup [V.str h.1, .str c.1]) hT
      have hp3 := hp2.same s3
      have hnone : valV (kvX (ex ++ (newX h N L).take i)) (keyX h.1 c.1) = none := by
        rw [valX]
        cases hfnd : (ex ++ (newX h N L).take i).find? (fun e => decide ((e.1, e.2.1) = (h.1, c.1))) with
        | none => rfl
        | some e =>
          have he := List.mem_of_find?_eq_some hfnd
          have h9 := List.find?_some hfnd
          have hpe : (e.1, e.2.1) = (h.1, c.1) := of_decide_eq_true h9
          obtain ⟨q1, q2⟩ := Prod.mk.inj hpe
          rcases List.mem_append.mp he with he | he
          · exact absurd q1 (hfresh e he)
          · obtain ⟨j, ej⟩ := List.mem_iff_getElem?.mp he
            have hj := (List.getElem?_eq_some_iff.mp ej).1
            rw [List.length_take] at hj
            rw [List.getElem?_take_of_lt (by omega)] at ej
            have hjl := (List.getElem?_eq_some_iff.mp ej).1
            rw [newX_len] at hjl
            have efj := List.getElem?_eq_getElem hjl
            have hj2 : j < (exV N L (wsOf h)).length := by
              rw [exV_len]
              unfold wsOf
              rw [List.length_map]
              exact hjl
            have := newX_at efj (List.getElem?_eq_getElem hj2)
            rw [ej] at this
            obtain rfl := Option.some.inj this
            have := fl_first hf.2.2.1 (wfF10 hf) efj ec q2
            omega
      have hput : putK (kvX (ex ++ (newX h N L).take i)) (keyX h.1 c.1) (.int (val : Nat)) = kvX (ex ++ (newX h N L).take (i + 1)) := by
        rw [putK_new _ hnone, List.take_add_one, en, ← List.append_assoc]
        exact (kvX_app _ [(h.1, c.1, val)]).symm
      refine ⟨pd, _, rfl, DPut.t (k := keyX h.1 c.1) hp3.d upd_same ?_, ?_⟩
      · unfold kvX
        rw [List.length_map, List.length_append, List.length_take, newX_len]
        exact small1000 (by omega)
      · dsimp only
        rw [shr_ones, ← hv, hput]
        have ntd : T ≠ pd := fun z => by
          rw [z, hp2.d] at hT
          cases hT
        refine ⟨fun b o n1' n2' e => ?_, ⟨_, _, rfl⟩, ⟨⟨zz, ?_⟩, upd_same, ?_, hp.n1⟩⟩
        · rw [upd_ne n1']
          exact s3 _ _ (kp b o n1' n2' e)
        · rw [upd_ne nps.1]
          exact s3 _ _ epp
        · rw [upd_ne nps.2]
          exact hp3.v
    · rintro σ H2 ⟨kp, ⟨o4, o5, rfl⟩, hp2⟩
      have sG2 := hG kp
      rw [hl, take_all]
      have hx : (newX h N L).take zs.length = newX h N L := by
        rw [hl, ← newX_len h N L, List.take_length]
      rw [hx] at hp2
      obtain ⟨zz, epp⟩ := hp2.e
      refine ⟨_, rfl, pp, _, _, _, rfl, rfl, SqL.of epp, atI_nat (j := 1) rfl, .inl ⟨rfl, _, SqL.of hp2.v⟩, _, rfl, py, _, _, _, rfl, rfl, sqT_sub sG2 y1, atI_nat (j := 1) rfl, pv', _, _, rfl, rfl, hp2.v, small1000 (by rw [List.length_map]; omega), ?_⟩
      refine ⟨_, rfl, q _ (fun b o n1' n2' e => ?_) ⟨⟨zz, ?_⟩, ?_, ?_, hp.n1⟩⟩
      · rw [upd_ne n2']
        exact kp b o n1' n2' e
      · rw [upd_ne hp.n1]
        exact epp
      · rw [upd_ne (Ne.symm nps.2)]
        exact hp2.d
      · rw [upd_same, List.map_append]
        rfl
end
end Pk
set_option Elab.async false
set_option linter.all false
set_option maxRecDepth 100000
set_option maxHeartbeats 4000000
namespace Pk
open PySem PySem.Spec PyProof.Rows L2 SX GxR Tk
section
variable {P : Program} {w : World} {K : PySem.W.Frag} {mg : Str → Option Value} {base : Heap}
/-- the first row of a name -/
def spFind (K : PySem.W.Frag) : Sp := fun vs H Q _ => ∃ (v : V) (G : Hp) (es : List (List PyData)) (n : Str) (i : Nat) (e : List PyData), vs = [v, .str n] ∧ Same G H ∧ Dp K G v (.list (es.map .tuple)) ∧ es.length ≤ 1000 ∧ (∀ e ∈ es, ∃ n, e[1]? = some (.str n)) ∧ es[i]? = some e ∧ e[1]? = some (.str n) ∧ (∀ (j : Nat) (e' : List PyData), j < i → es[j]? = some e' → e'[1]? ≠ some (.str n)) ∧
  ∀ H' x, Same H H' → Dp K G x (.tuple e) → Q x H'
theorem ok_find {f : Addr} {fd : FuncData} {k : Nat} (F : Fun K "_law_find" "_law_find" sFind f fd) : FnOk P w K mg base CX0 (k + 1) f fd ["rows", "name"] (spFind K) := by
  refine F.ok scFind (fun vs H Q E h => ?_) (fun cdv A outer s H vs Q E hr h => ?_)
  · obtain ⟨v, G, es, n, i, e, rfl, _⟩ := h
    rfl
  · obtain ⟨v, G, es, n, i0, e0, rfl, sG, hD, hel, hes, he, hn, hf, q⟩ := h
    have nd := scFind.nd
    refine ⟨_, (pss_one (ps_ret (pe_ix ix_list (pe_lc (own := [("row", 2)]) (g := gName 2) rfl nd (pi_list (pv 0)) (blkOk_by (N := NFi) (sc := defScope sFind) (by decide +kernel)) (fun _ _ _ _ _ => (pg_name (i := 2) nd rfl (Or.inl rfl))) (fun _ _ _ _ _ => (pts_one (pt_cmpR op_eq (pe_ix (r := rIxT K) ix_tup (pv 2) pe_int (fun _ _ => rfl)) (pv 1) (nomark _)))) (fun _ _ _ _ _ => (pv 2))) pe_int (fun _ _ => rfl)))), ?_⟩
    obtain ⟨p, xs, rfl, h1, h2⟩ := dp_lst hD
    have hl := dpAll_len h2
    rw [List.length_map] at hl
    have hi0 := (List.getElem?_eq_some_iff.mp he).1
    obtain ⟨x0, ex0, hx0⟩ := dpAll_at h2 (i := i0) (d := .tuple e0) (by rw [List.getElem?_map, he]; rfl)
    refine ⟨_, rfl, p, rfl, ⟨_, sqL_sub sG h1⟩, fun D hD1 => lc_list (K := K) (a := p) (xs := xs) (fun i H2 => Same H H2 ∧ ∃ r : List V, H2 D = some (.lst (if i0 < i then x0 :: r else [])) ∧ r.length ≤ i) ⟨same_new hD1, [], upd_same, Nat.zero_le _⟩ (fun i H2 _ h => h.1.seq (sqL_sub sG h1)) ?_ ?_⟩
    · rintro i y H2 hi ⟨s2, r, e2, hrl⟩
      obtain ⟨d, ed, hd⟩ := dpAll_val h2 hi
      rw [List.getElem?_map] at ed
      obtain ⟨e, ee, rfl⟩ := Option.map_eq_some_iff.mp ed
      obtain ⟨m, em⟩ := hes e (List.mem_of_getElem? ee)
      obtain ⟨pt, xs2, rfl, g1, g2⟩ := dp_tup hd
      obtain ⟨x, ex, hx⟩ := dpAll_at g2 em
      obtain rfl := dp_str hx
      have hil := (List.getElem?_eq_some_iff.mp ee).1
      refine ⟨rfl, _, rfl, pt, _, _, _, rfl, rfl, sqT_sub (sG.trans s2) g1, atI_nat (j := 1) ex, _, rfl, rfl, _, rfl, ?_⟩
      rw [dcStr]
      refine iteD (fun hm => ?_) fun hm => ?_
      · subst hm
        have hge : i0 ≤ i := by
          rcases Nat.lt_or_ge i i0 with h | h
          · exact absurd em (hf i e h ee)
          · exact h
        refine ⟨_, rfl, _, e2, ?_, same_set s2 hD1, ?_⟩
        · by_cases hlt : i0 < i
          · rw [if_pos hlt]
            exact small1000 (by rw [List.length_cons]; omega)
          · rw [if_neg hlt]
            exact small1000 (Nat.zero_le _)
        · by_cases hlt : i0 < i
          · refine ⟨r ++ [.ref pt], ?_, by rw [List.length_append]; exact Nat.succ_le_succ hrl⟩
            rw [upd_same, if_pos hlt, if_pos (by omega)]
            rfl
          · have : i = i0 := by omega
            subst this
            rw [ex0] at hi
            cases hi
            refine ⟨[], ?_, Nat.zero_le _⟩
            rw [upd_same, if_neg hlt, if_pos (Nat.lt_succ_self _)]
            rfl
      · have hne : i ≠ i0 := by
          rintro rfl
          rw [he] at ee
          cases ee
          rw [hn] at em
          cases em
          exact hm rfl
        refine ⟨s2, r, ?_, by omega⟩
        by_cases hlt : i0 < i
        · rw [if_pos hlt] at e2
          rw [if_pos (by omega)]
          exact e2
        · rw [if_neg hlt] at e2
          rw [if_neg (by omega)]
          exact e2
    · rintro H2 ⟨s2, r, e2, hrl⟩
      rw [if_pos (by omega)] at e2
      exact ⟨D, _, _, _, rfl, rfl, SqL.of e2, atI_nat (j := 0) rfl, q H2 x0 s2 hx0⟩
end
end Pk
set_option Elab.async false
set_option linter.all false
set_option maxRecDepth 100000
set_option maxHeartbeats 4000000
/-! the way through the states -/
namespace Pk
open PySem PySem.Spec PyProof.Rows L2 SX GxR Tk
/-- the name is an end or a state from j on -/
def AtN (ss : List Sa) (j : Nat) (nm : Str) : Prop := nm = Str.ofString "accept" ∨ nm = Str.ofString "reject" ∨ ∃ i a, j ≤ i ∧ ss[i]? = some a ∧ a.name = nm
/-- what is extracted before the state j -/
structure Fr (hs : List Hd) (j : Nat) (len : Nat) (s : Ps) : Prop where
  fr : ∀ e ∈ s.ex, ∃ i h, i < j ∧ hs[i]? = some h ∧ e.1 = h.1
  el : s.ex.length ≤ 8 * j
  vl : s.vs.length ≤ j
  vf : ∀ x ∈ s.vs, ∃ i h, i < j ∧ hs[i]? = some h ∧ x = h.1
  ll : s.left ≤ 8 * len
  l8 : s.left % 8 = 0
  nd : (s.ex.map fun e => (e.1, e.2.1)).Nodup
  ff : ∀ e ∈ s.ex, ∃ (i j : Nat) (h : Hd) (f : Fl), hs[i]? = some h ∧ h.2[j]? = some f ∧ e.1 = h.1 ∧ e.2.1 = f.1
theorem goal_at {ss : List Sa} {ns : List Str} (e : ss.map Sa.name = ns) {j : Nat} {g : Str} (h : Goal (ns.drop j) g) : AtN ss j g := by
  rcases h with h | h | h
  · exact .inl h
  · exact .inr (.inl h)
  · obtain ⟨i, ei⟩ := List.mem_iff_getElem?.mp h
    rw [List.getElem?_drop, ← e, List.getElem?_map] at ei
    obtain ⟨a, ea, en⟩ := Option.map_eq_some_iff.mp ei
    exact .inr (.inr ⟨j + i, a, by omega, ea, en⟩)
theorem tgt_goal {rs : List Rf} {ns : List Str} {x : Nx} (h : NxOk rs ns x) (port : Nat) (ex : List Xt) : Goal ns (tgt port ex x) := by
  cases x with
  | go t => exact h
  | sel o n rows other =>
    obtain ⟨⟨w, _, hrow⟩, _, hg⟩ := h
    show Goal ns (((rows.find? (rowHit (look port ex o n))).map fun r => r.2.2).getD other)
    cases hf : rows.find? (rowHit (look port ex o n)) with
    | none => exact hg
    | some r => exact (hrow r (List.mem_of_find?_eq_some hf)).2.2.2.2
/-- the state of a name, among the turned states -/
theorem StK.find {p : Pd} {ss : List Sa} {n : Nat} (h : StK p ss n) {i : Nat} {a : Sa} (ea : ss[i]? = some a) : (∃ i', p.sts[i']? = some a ∧ ∀ (j : Nat) (b : Sa), j < i' → p.sts[j]? = some b → b.name ≠ a.name) ∧ p.sts.find? (fun b => decide (b.name = a.name)) = some a := by
  have hm : a ∈ p.sts := by
    rw [h.e]
    have : a ∈ ss.take n ++ ss.drop n := by rw [List.take_append_drop]; exact List.mem_of_getElem? ea
    rcases List.mem_append.mp this with h | h
    · exact List.mem_append_right _ h
    · exact List.mem_append_left _ h
  obtain ⟨i', ei⟩ := List.mem_iff_getElem?.mp hm
  have hnd := h.nodup.1
  have hne : ∀ (j : Nat) (b : Sa), j < i' → p.sts[j]? = some b → b.name ≠ a.name := by
    intro j b hj eb z
    have hi := (List.getElem?_eq_some_iff.mp ei).1
    refine (nodup_iff_at.mp hnd) j i' hj (by unfold Pd.ns; rw [List.length_map]; exact hi) ?_
    unfold Pd.ns
    rw [List.getElem?_map, List.getElem?_map, eb, ei]
    exact congrArg some z
  refine ⟨⟨i', ei, hne⟩, ?_⟩
  have hnone : (p.sts.take i').find? (fun b => decide (b.name = a.name)) = none := by
    rw [List.find?_eq_none]
    intro b hb
    obtain ⟨j, ej⟩ := List.mem_iff_getElem?.mp hb
    have hj := (List.getElem?_eq_some_iff.mp ej).1
    rw [List.length_take] at hj
    rw [List.getElem?_take_of_lt (by omega)] at ej
    have := hne j b (by omega) ej
    exact fun z => this (of_decide_eq_true z)
  exact (find_step ei hnone).1 (decide_eq_true rfl)
theorem hd_find {hs : List Hd} (wh : WfH hs) (h6 : hs.length ≤ 6) {i : Nat} {h : Hd} (e : hs[i]? = some h) : hs.find? (fun x => decide (x.1 = h.1)) = some h := by
  have hnone : (hs.take i).find? (fun x => decide (x.1 = h.1)) = none := by
    rw [List.find?_eq_none]
    intro b hb z
    exact ahead_ne wh h6 e hb (of_decide_eq_true z)
  exact (find_step e hnone).1 (decide_eq_true rfl)
theorem Fr.mono {hs : List Hd} {i j len : Nat} {s : Ps} (h : Fr hs j len s) (hij : j ≤ i) : Fr hs i len s := by
  refine ⟨fun e he => ?_, by have := h.el; omega, by have := h.vl; omega, fun x hx => ?_, h.ll, h.l8, h.nd, h.ff⟩
  · obtain ⟨a, b, c, d⟩ := h.fr e he
    exact ⟨a, b, by omega, d⟩
  · obtain ⟨a, b, c, d⟩ := h.vf x hx
    exact ⟨a, b, by omega, d⟩
theorem Fr.ext {hs : List Hd} (wh : WfH hs) (h6 : hs.length ≤ 6) {j len N : Nat} {s : Ps} {h : Hd} (hf : Fr hs j len s) (e : hs[j]? = some h) (ht : total h.2 ≤ s.left) : Fr hs (j + 1) len ⟨s.ex ++ newX h N s.left, s.vs ++ [h.1], s.left - total h.2⟩ := by
  have wf := (wh j h e).2
  have h8 : h.2.length ≤ 8 := wf.2.1
  have ht8 : total h.2 % 8 = 0 := wf.2.2.2.1
  have hl8 := hf.l8
  have hm := hf.mono (i := j + 1) (by omega)
  refine ⟨fun x hx => ?_, ?_, ?_, fun x hx => ?_, ?_, ?_, ?_, fun x hx => (List.mem_append.mp hx).elim (hf.ff x) fun hx => let ⟨q1, a, f, q2, q3, _⟩ := newX_mem hx; ⟨j, a, h, f, e, q2, q1, q3⟩⟩
  · rcases List.mem_append.mp hx with hx | hx
    · exact hm.fr x hx
    · exact ⟨j, h, by omega, e, (newX_mem hx).1⟩
  · show (s.ex ++ newX h N s.left).length ≤ _
    rw [List.length_append, newX_len]
    have := hf.el
    omega
  · show (s.vs ++ [h.1]).length ≤ _
    rw [List.length_append]
    have := hf.vl
    show s.vs.length + 1 ≤ _
    omega
  · rcases List.mem_append.mp hx with hx | hx
    · exact hm.vf x hx
    · exact ⟨j, h, by omega, e, List.mem_singleton.mp hx⟩
  · have := hf.ll
    show s.left - total h.2 ≤ _
    omega
  · show (s.left - total h.2) % 8 = 0
    omega
  · show ((s.ex ++ newX h N s.left).map fun e => (e.1, e.2.1)).Nodup
    rw [List.map_append]
    refine List.nodup_append.mpr ⟨hf.nd, ?_, fun x hx y hy hxy => ?_⟩
    · rw [nodup_iff_at]
      intro a b hab hb z
      rw [List.length_map, newX_len] at hb
      have key : ∀ k, k < h.2.length → ∃ (f : Fl) (v : Nat), h.2[k]? = some f ∧ (newX h N s.left)[k]? = some (h.1, f.1, v) := fun k hk => by
        have ef := List.getElem?_eq_getElem hk
        have hk2 : k < (exV N s.left (wsOf h)).length := by
          rw [exV_len]
          unfold wsOf
          rw [List.length_map]
          exact hk
        exact ⟨_, _, ef, newX_at ef (List.getElem?_eq_getElem hk2)⟩
      obtain ⟨f, v, ef, en⟩ := key a (by omega)
      obtain ⟨g, u, eg, en'⟩ := key b hb
      rw [List.getElem?_map, List.getElem?_map, en, en'] at z
      have := fl_first wf.2.2.1 (wfF10 wf) ef eg (Prod.mk.inj (Option.some.inj z)).2
      omega
    · obtain ⟨e1, he1, rfl⟩ := List.mem_map.mp hx
      obtain ⟨e2, he2, rfl⟩ := List.mem_map.mp hy
      obtain ⟨i', g, hi', eg, en⟩ := hf.fr e1 he1
      have h1 := (Prod.mk.inj hxy).1
      have h2 := (newX_mem he2).1
      have hi1 := (List.getElem?_eq_some_iff.mp eg).1
      have hi2 := (List.getElem?_eq_some_iff.mp e).1
      have := nm_inj (wh i' g eg).1 (wh j h e).1 (by omega) (by omega) ((en.symm.trans h1).trans h2)
      omega
theorem Fr.fresh {hs : List Hd} (wh : WfH hs) (h6 : hs.length ≤ 6) {j len : Nat} {s : Ps} {h : Hd} (hf : Fr hs j len s) (e : hs[j]? = some h) : ∀ x ∈ s.ex, x.1 ≠ h.1 := by
  intro x hx z
  obtain ⟨i, g, hi, eg, en⟩ := hf.fr x hx
  have h1 := (List.getElem?_eq_some_iff.mp eg).1
  have h2 := (List.getElem?_eq_some_iff.mp e).1
  have := nm_inj (wh i g eg).1 (wh j h e).1 (by omega) (by omega) (en.symm.trans z)
  omega
/-- the state's select reads a field of short names -/
theorem nx_sx {hs : List Hd} (wh : WfH hs) (h6 : hs.length ≤ 6) {sr : List Rf} {ns : List Str} {k : Nat} {t : Option Str} {x : Nx} (hsr : sr = [portR] ∨ ∃ t0, sr = [portR] ++ ownRefs hs 0 t0) (h : NxOk (sr ++ ownRefs hs k t) ns x) : ∀ o n rows other, x = .sel o n rows other → Sx o ∧ Sx n := by
  rintro o n rows other rfl
  obtain ⟨⟨w, hw, _⟩, _⟩ := h
  have hp : RfS portR := ⟨sx_port.1, sx_port.2, by decide⟩
  have hall : RfS (o, n, w) := by
    rcases List.mem_append.mp hw with hw | hw
    · rcases hsr with rfl | ⟨t0, rfl⟩
      · rw [List.mem_singleton.mp hw]
        exact hp
      · rcases List.mem_append.mp hw with hw | hw
        · rw [List.mem_singleton.mp hw]
          exact hp
        · exact own_sx wh h6 _ hw
    · exact own_sx wh h6 _ hw
  exact ⟨hall.1, hall.2.1⟩
end Pk
set_option Elab.async false
set_option linter.all false
set_option maxRecDepth 100000
set_option maxHeartbeats 4000000
namespace Pk
open PySem PySem.Spec PyProof.Rows L2 SX GxR Tk
abbrev sParseL : Stmt := topS 66
abbrev NPl : List Str := ["program", "p", "packet", "number", "octet", "left", "name", "state", "header", "field", "width"]
theorem scParseL : FnScope NPl ["program", "p", "packet"] (defScope sParseL) := ⟨rfl, rfl, rfl, by decide +kernel, rfl, by decide +kernel, by decide +kernel⟩
def startS (len : Nat) : Ps := ⟨[], [], 8 * len⟩
/-- what the plain parser finds -/
def parsR (port : Nat) (l : List Nat) (p : Pd) : Option Ps := parsM port (numL l) p.hs p.sts 8 (Str.ofString "start") (startS l.length)
theorem hdsD_eq (hs : List Hd) : hdsD hs = .list ((hs.map hdL).map .tuple) := by
  unfold hdsD
  rw [List.map_map]
  rfl
theorem iteStrEq {a b : Str} {A B : Prop} (h : a = b) (h2 : B) : if (!decide (V.str a = V.str b)) = true then A else B := by
  rw [h, decide_eq_true rfl]
  exact h2
theorem iteStrNe {a b : Str} {A B : Prop} (h : a ≠ b) (h2 : A) : if (!decide (V.str a = V.str b)) = true then A else B := by
  rw [decide_eq_false fun z => h (V.str.inj z)]
  exact h2
theorem fdiv8 (n : Nat) : Int.fdiv ((n : Nat) : Int) 8 = ((n / 8 : Nat) : Int) := by
  rw [Int.fdiv_eq_ediv_of_nonneg _ (by decide)]
  push_cast
  rfl
theorem parsM_acc (port N : Nat) (hs : List Hd) (sts : List Sa) (m : Nat) (s : Ps) : parsM port N hs sts m (Str.ofString "accept") s = some s := by
  cases m with
  | zero => exact if_pos rfl
  | succ k => exact if_pos rfl
theorem parsM_rej (port N : Nat) (hs : List Hd) (sts : List Sa) (m : Nat) (s : Ps) : parsM port N hs sts m (Str.ofString "reject") s = none := by
  cases m with
  | zero => exact if_neg (Ne.symm ne_ar)
  | succ k => exact (if_neg (Ne.symm ne_ar)).trans (if_pos rfl)
theorem parsM_st {port N : Nat} {hs : List Hd} {sts : List Sa} {m : Nat} {s : Ps} {nm : Str} {a : Sa} (h1 : nm ≠ Str.ofString "accept") (h2 : nm ≠ Str.ofString "reject") (hf : sts.find? (fun b => decide (b.name = nm)) = some a) : parsM port N hs sts (m + 1) nm s = match pstep port N hs a s with
    | none => none
    | some (n', s') => parsM port N hs sts m n' s' := by
  show (if nm = Str.ofString "accept" then some s else if nm = Str.ofString "reject" then none else match sts.find? (fun b => decide (b.name = nm)) with
    | none => none
    | some a => match pstep port N hs a s with
      | none => none
      | some (n', s') => parsM port N hs sts m n' s') = _
  rw [if_neg h1, if_neg h2, hf]
section
variable {P : Program} {w : World} {K : PySem.W.Frag} {mg : Str → Option Value} {base : Heap}
def spParseL (K : PySem.W.Frag) : Sp := fun vs H Q _ => ∃ (v : V) (pp pd pv pk : Addr) (port : Nat) (G : Hp) (p : Pd) (l : List Nat), vs = [v, .ref pp, .ref pk] ∧ Pp H pp pd pv port [] [] ∧ Same G H ∧ G pd = none ∧ G pv = none ∧ PgK K G v p ∧ H pk = some (.lst (natsV l)) ∧ pk ≠ pv ∧ Oct l ∧ l.length ≤ 64 ∧
  (parsR port l p = none → ∀ H', (∀ b o, b ≠ pd → b ≠ pv → H b = some o → H' b = some o) → Q .non H') ∧
  ∀ s, parsR port l p = some s → Fr p.hs 8 l.length s → ∀ H' pr, (∀ b o, b ≠ pd → b ≠ pv → H b = some o → H' b = some o) → Pp H' pp pd pv port s.ex s.vs → H pr = none → H' pr = some (.lst (natsV (l.drop (l.length - s.left / 8)))) → Q (.ref pr) H'
theorem ok_parseL {f : Addr} {fd : FuncData} (F : Fun K "_law_parse" "_law_parse" sParseL f fd) (T : Bt14 mg) (D1 : Df P w K mg base CX0 1 "_law_find" ["rows", "name"] (spFind K)) (D2 : Df P w K mg base CX0 1 "_law_extract" ["header", "p", "number", "left"] (spExtract K)) (D3 : Df P w K mg base CX0 2 "_law_target" ["p", "following"] (spTarget K)) : FnOk P w K mg base CX0 3 f fd ["program", "p", "packet"] (spParseL K) := by
  obtain ⟨f1, fd1, G1, g1, k1, b1⟩ := D1.ex
  obtain ⟨f2, fd2, G2, g2, k2, b2⟩ := D2.ex
  obtain ⟨f3, fd3, G3, g3, k3, b3⟩ := D3.ex
  refine F.ok scParseL (fun vs H Q E h => ?_) (fun cdv A outer s H vs Q E hr h => ?_)
  · obtain ⟨v, pp, pd, pv, pk, port, G, p, l, rfl, _⟩ := h
    rfl
  · obtain ⟨v, pp, pd, pv', pk, port, G, p, l, rfl, hp, sG, gd, gv, hP, ek, nkv, hO, hl64, qn, qs⟩ := h
    have nd := scParseL.nd
    have hr1 : Room 1 _ := hr.mono (by omega)
    refine ⟨_, (pss_cons (ps_set (i := 3) nd rfl (.inl rfl) pe_int)
      (pss_cons (ps_for PassesOwn.never rfl (pi_list (pv 2)) (pg_name (i := 4) nd rfl (.inl rfl))
        (pss_one (ps_set (i := 3) nd rfl (.inl rfl) (pe_op op_add (pe_op op_mul (pv 3) pe_int) (pv 4)))))
      (pss_cons (ps_set (i := 5) nd rfl (.inl rfl) (pe_op op_mul pe_int (pe_callB call_len_seq (by rfl) T.zLen PySem.boot_len (pa_cons (pv 2) pa_nil))))
      (pss_cons (ps_set (i := 6) nd rfl (.inl rfl) pe_str)
      (pss_cons (ps_while PassesOwn.never (pt_cmpR op_ne (pv 6) pe_str (nomark _))
        (pss_cons (ps_if (pt_cmpR op_eq (pv 6) pe_str (nomark _)) (pss_one (ps_ret pe_non)) pss_nil)
        (pss_cons (ps_set (i := 7) nd rfl (.inl rfl) (pe_call G1 hr1 (by rfl) g1 k1 b1 .nil pass0 (pa_cons (pe_ix ix_tup (pv 0) pe_int (fun _ _ => rfl)) (pa_cons (pv 6) pa_nil))))
        (C8.pss_cut (ps_if (pt_cmpR op_notN (pe_ix ix_tup (pv 7) pe_int (fun _ _ => rfl)) pe_non (nomark _)) (pss_cons (ps_set (i := 8) nd rfl (.inl rfl) (pe_call G1 hr1 (by rfl) g1 k1 b1 .nil pass0 (pa_cons (pe_ix ix_tup (pv 0) pe_int (fun _ _ => rfl)) (pa_cons (pe_ix ix_tup (pv 7) pe_int (fun _ _ => rfl)) pa_nil))))
          (pss_cons (ps_if (pt_cmpR op_gt (pe_callB (cr_sum rfl) (by rfl) T.zSum (by decide +kernel) (pa_cons (pe_lc (own := [("field", 9), ("width", 10)]) (g := gTup K 2 (gCons (gName 9) (gCons (gName 10) gNil))) (tt := tYes) rfl nd (pi_list (pe_ix ix_tup (pv 8) pe_int (fun _ _ => rfl))) (blkOk_by (N := NPl) (sc := defScope sParseL) (by decide +kernel)) (fun _ _ _ _ _ => (pg_tup rfl (pgs_cons (pg_name (i := 9) nd rfl (Or.inl rfl)) (pgs_cons (pg_name (i := 10) nd rfl (Or.inl rfl)) pgs_nil)))) (fun _ _ _ _ _ => pts_nil) (fun _ _ _ _ _ => (pv 10))) pa_nil)) (pv 5) (nomark _)) (pss_one (ps_ret pe_non)) pss_nil)
          (pss_one (ps_set (i := 5) nd rfl (.inl rfl) (pe_call G2 hr1 (by rfl) g2 k2 b2 .nil pass0 (pa_cons (pv 8) (pa_cons (pv 1) (pa_cons (pv 3) (pa_cons (pv 5) pa_nil))))))))) pss_nil)
        (pss_one (ps_set (i := 6) nd rfl (.inl rfl) (pe_call G3 hr (by rfl) g3 k3 b3 .nil pass0 (pa_cons (pv 1) (pa_cons (pe_ix ix_tup (pv 7) pe_int (fun _ _ => rfl)) pa_nil)))))))))
      (pss_one (ps_ret (pe_slice sl_list (pv 2) (po_some (pe_op op_sub (pe_callB call_len_seq (by rfl) T.zLen PySem.boot_len (pa_cons (pv 2) pa_nil)) (pe_op op_fdivN (pv 5) pe_int))) po_none)))))))), ?_⟩
    have nps := hp.npd
    have nkd : pk ≠ pd := fun z => by rw [z, hp.d] at ek; cases ek
    have hll : (natsV l).length = l.length := List.length_map ..
    have hG : ∀ {H' : Hp}, (∀ b o, b ≠ pd → b ≠ pv' → H b = some o → H' b = some o) → Same G H' := fun k b o e => k b o (ne_of_none e gd) (ne_of_none e gv) (sG _ _ e)
    refine ⟨_, rfl, pk, rfl, ⟨_, SqL.of ek⟩, for_list (K := K) (a := pk) (xs := natsV l) (fun i σ H2 => H2 = H ∧ ∃ o4, σ = [some v, some (.ref pp), some (.ref pk), some (.int (numL (l.take i) : Nat)), o4, none, none, none, none, none, none]) ⟨rfl, none, rfl⟩ (fun i σ H2 _ h => by rw [h.1]; exact SqL.of ek) ?_ ?_⟩
    · rintro i y σ H2 hi ⟨rfl, o4, rfl⟩
      unfold natsV at hi
      rw [List.getElem?_map] at hi
      obtain ⟨b, eb', rfl⟩ := Option.map_eq_some_iff.mp hi
      refine ⟨_, rfl, _, _, rfl, rfl, .inr ⟨by decide, by decide⟩, _, rfl, _, _, rfl, rfl, rfl, some (.int (b : Nat)), ?_⟩
      have e : (((numL (l.take i) : Nat) : Int) * 256 + ((b : Nat) : Int)) = ((numL (l.take (i + 1)) : Nat) : Int) := by
        rw [List.take_add_one, eb', numL_app]
        show _ = ((numL (l.take i) * 256 ^ 1 + (0 * 256 + b) : Nat) : Int)
        push_cast
        omega
      rw [← e]
      rfl
    rintro σ H2 ⟨rfl, o4, rfl⟩
    rw [hll, List.take_length]
    refine ⟨_, rfl, pk, _, rfl, .inl (SqL.of ek), _, _, rfl, rfl, .inl ⟨by decide, by decide⟩, ?_⟩
    obtain ⟨ss, n, hst⟩ := hP.st
    obtain ⟨nns, hns, hnm, hperm, hsa⟩ := hst.names
    have hnd := hst.nodup
    have hss8 : ss.length ≤ 8 := by
      have := hns.2.1
      rw [← hnm, List.length_map] at this
      exact this
    have e8 : (8 : Int) * (((natsV l).length : Nat) : Int) = ((8 * l.length : Nat) : Int) := by rw [hll]; push_cast; rfl
    dsimp only
    rw [e8]
    obtain ⟨pg, gs, rfl, pg1, pg2⟩ := dp_tup hP.D
    obtain ⟨xh, exh, hxh⟩ := dpAll_at pg2 (i := 2) (d := hdsD p.hs) rfl
    obtain ⟨xs, exs, hxs⟩ := dpAll_at pg2 (i := 4) (d := sasD p.sts) rfl
    rw [hdsD_eq] at hxh
    rw [sasD_eq] at hxs
    obtain ⟨W, hW⟩ : ∃ W : Nat → L2.St → Hp → Prop, W = fun m σ H3 => (∀ b o, b ≠ pd → b ≠ pv' → H2 b = some o → H3 b = some o) ∧ ∃ (j : Nat) (s : Ps) (nm : Str) (o7 o8 : Option V), σ = [some (.ref pg), some (.ref pp), some (.ref pk), some (.int (numL l : Nat)), o4, some (.int (s.left : Nat)), some (.str nm), o7, o8, none, none] ∧ parsM port (numL l) p.hs p.sts m nm s = parsR port l p ∧ 8 ≤ m + j ∧ AtN ss j nm ∧ Fr p.hs j l.length s ∧ j ≤ 8 ∧ Pp H3 pp pd pv' port s.ex s.vs := ⟨_, rfl⟩
    refine ⟨W, ⟨8, ?_⟩, ?_⟩
    · rw [hW]
      refine ⟨fun b o _ _ e => e, 0, startS l.length, Str.ofString "start", none, none, rfl, rfl, Nat.le_refl _, ?_, ⟨fun e he => absurd he List.not_mem_nil, Nat.zero_le _, Nat.zero_le _, fun x hx => absurd hx List.not_mem_nil, Nat.le_refl _, by show 8 * l.length % 8 = 0; omega, List.nodup_nil, fun e he => absurd he List.not_mem_nil⟩, by decide, hp⟩
      have := hns.2.2.1
      rw [← hnm, List.getElem?_map] at this
      obtain ⟨a, ea, en⟩ := Option.map_eq_some_iff.mp this
      exact .inr (.inr ⟨0, a, Nat.le_refl _, ea, en⟩)
    intro m σ H3 hw
    rw [hW] at hw
    obtain ⟨kp, j, s, nm, o7, o8, rfl, hpar, hmj, hat, hfr, hj8, hp3⟩ := hw
    have sG3 := hG kp
    have ek3 := kp _ _ nkd nkv ek
    refine ⟨_, rfl, rfl, _, rfl, ?_⟩
    by_cases hacc : nm = Str.ofString "accept"
    · refine iteStrEq hacc ?_
      subst hacc
      rw [parsM_acc] at hpar
      refine ⟨_, rfl, _, rfl, pk, _, rfl, .inl (SqL.of ek3), _, rfl, _, _, rfl, rfl, ⟨by decide, by decide⟩, _, _, rfl, rfl, _, rfl, pk, _, rfl, SqL.of ek3, fun pr hpr => ?_⟩
      have s4 := same_new (o := .lst (natsV (l.drop (l.length - s.left / 8)))) hpr
      have ecut : cutV (natsV l) (some ((((natsV l).length : Nat) : Int) - Int.fdiv ((s.left : Nat) : Int) 8)) none = natsV (l.drop (l.length - s.left / 8)) := by
        have := hfr.ll
        rw [fdiv8, hll, show ((l.length : Nat) : Int) - ((s.left / 8 : Nat) : Int) = ((l.length - s.left / 8 : Nat) : Int) by omega, cut_from _ _ (by rw [hll]; omega)]
        unfold natsV
        rw [List.map_drop]
      dsimp only
      rw [ecut]
      have hn1 : H2 pr = none := by
        cases hh : H2 pr with
        | none => rfl
        | some o =>
          by_cases h1 : pr = pd
          · rw [h1, hp3.d] at hpr
            cases hpr
          · by_cases h2 : pr = pv'
            · rw [h2, hp3.v] at hpr
              cases hpr
            · have := kp _ _ h1 h2 hh
              rw [hpr] at this
              cases this
      exact qs s hpar.symm (hfr.mono hj8) _ pr (fun b o h1 h2 e => s4 _ _ (kp b o h1 h2 e)) (hp3.same s4) hn1 upd_same
    · refine iteStrNe hacc ?_
      cases m with
      | zero =>
        refine ⟨fun _ _ => False, fun _ _ h => h.elim, ?_⟩
        refine ⟨_, rfl, rfl, _, rfl, ?_⟩
        rw [dcStr]
        have hno : parsR port l p = none := by
          rw [← hpar]
          exact if_neg hacc
        refine iteDT ?_ (qn hno _ kp)
        rcases hat with h | h | ⟨i, a, hi, ea, en⟩
        · exact absurd h hacc
        · exact h
        · have := (List.getElem?_eq_some_iff.mp ea).1
          omega
      | succ m' =>
      refine ⟨W m', fun σ' H' h => ⟨m', Nat.lt_succ_self _, h⟩, ?_⟩
      refine ⟨_, rfl, rfl, _, rfl, ?_⟩
      rw [dcStr]
      refine iteD (fun hrej => ?_) fun hrej => ?_
      · subst hrej
        rw [parsM_rej] at hpar
        exact qn hpar.symm _ kp
      obtain ⟨i, a, hji, ea, en⟩ : ∃ i a, j ≤ i ∧ ss[i]? = some a ∧ a.name = nm := by
        rcases hat with h | h | h
        · exact absurd h hacc
        · exact absurd h hrej
        · exact h
      subst en
      obtain ⟨⟨i', ei', hfirst⟩, hfind⟩ := hst.find ea
      rw [parsM_st hacc hrej hfind] at hpar
      have hao := hsa i a ea
      obtain ⟨b1', b2', b3'⟩ := hao
      have hi8 : i < 8 := by have := (List.getElem?_eq_some_iff.mp ea).1; omega
      have hnms : ∀ e ∈ p.sts.map saL, ∃ n, e[1]? = some (PyData.str n) := fun e he => by
        obtain ⟨y, _, rfl⟩ := List.mem_map.mp he
        exact ⟨_, rfl⟩
      have hnmh : ∀ e ∈ p.hs.map hdL, ∃ n, e[1]? = some (PyData.str n) := fun e he => by
        obtain ⟨y, _, rfl⟩ := List.mem_map.mp he
        exact ⟨_, rfl⟩
      refine ⟨_, rfl, pg, _, _, _, rfl, rfl, sqT_sub sG3 pg1, atI_nat (j := 4) exs, _, rfl, xs, G, p.sts.map saL, a.name, i', saL a, rfl, sG3, hxs, by rw [List.length_map]; omega, hnms, by rw [List.getElem?_map, ei']; rfl, rfl, fun j' e' hj' he' z => ?_, fun H4 x4 s4 dx => ?_⟩
      · rw [List.getElem?_map] at he'
        obtain ⟨b, eb, rfl⟩ := Option.map_eq_some_iff.mp he'
        exact hfirst j' b hj' eb (PyData.str.inj (Option.some.inj z))
      obtain ⟨pa, ys, rfl, a1, a2⟩ := dp_tup dx
      obtain ⟨v0, r, rfl, c0, a2⟩ := dpAll_cons a2
      obtain ⟨v1, r, rfl, c1, a2⟩ := dpAll_cons a2
      obtain ⟨v2, r, rfl, c2, a2⟩ := dpAll_cons a2
      obtain ⟨v3, r, rfl, c3, a2⟩ := dpAll_cons a2
      obtain rfl := dpAll_nil a2
      have kp4 : ∀ b o, b ≠ pd → b ≠ pv' → H2 b = some o → H4 b = some o := fun b o h1 h2 e => s4 _ _ (kp b o h1 h2 e)
      have sG4 := sG3.trans s4
      have hp4 := hp3.same s4
      refine ⟨fun σ H5 => (∀ b o, b ≠ pd → b ≠ pv' → H2 b = some o → H5 b = some o) ∧ ∃ (s' : Ps) (o8 : Option V), σ = [some (.ref pg), some (.ref pp), some (.ref pk), some (.int (numL l : Nat)), o4, some (.int (s'.left : Nat)), some (.str a.name), some (.ref pa), o8, none, none] ∧ pstep port (numL l) p.hs a s = some (tgt port s'.ex a.nx, s') ∧ Fr p.hs (i + 1) l.length s' ∧ Pp H5 pp pd pv' port s'.ex s'.vs, ?_, ?_⟩
      · refine ⟨_, rfl, pa, _, _, _, rfl, rfl, sqT_sub sG4 a1, atI_nat (j := 2) rfl, rfl, _, rfl, ?_⟩
        cases htk : a.taken with
        | none =>
          rw [show opS a.taken = PyData.none by rw [htk]; rfl] at c2
          obtain rfl := dp_non c2
          refine iteF ?_
          refine ⟨kp4, s, o8, rfl, ?_, hfr.mono (by omega), hp4⟩
          unfold pstep
          rw [htk]
        | some hn =>
          rw [show opS a.taken = PyData.str hn by rw [htk]; rfl] at c2
          obtain rfl := dp_str c2
          obtain ⟨h, eh, rfl⟩ : ∃ h, p.hs[i]? = some h ∧ hn = h.1 := by
            rcases b2' with h | ⟨h, e1, e2⟩
            · rw [htk] at h
              cases h
            · rw [htk] at e2
              exact ⟨h, e1, Option.some.inj e2⟩
          have wf := (hP.wh i h eh).2
          have hfindh := hd_find hP.wh hP.h6 eh
          have h6 := hP.h6
          have hps : pstep port (numL l) p.hs a s = if total h.2 > s.left then none else some (tgt port (s.ex ++ newX h (numL l) s.left) a.nx, ⟨s.ex ++ newX h (numL l) s.left, s.vs ++ [h.1], s.left - total h.2⟩) := by
            unfold pstep
            rw [htk]
            dsimp only
            rw [hfindh]
          refine iteT ?_
          refine ⟨_, rfl, pg, _, _, _, rfl, rfl, sqT_sub sG4 pg1, atI_nat (j := 2) exh, _, rfl, pa, _, _, _, rfl, rfl, sqT_sub sG4 a1, atI_nat (j := 2) rfl, xh, G, p.hs.map hdL, h.1, i, hdL h, rfl, sG4, hxh, by rw [List.length_map]; omega, hnmh, by rw [List.getElem?_map, eh]; rfl, rfl, fun j' e' hj' he' z => ?_, fun H5 x5 s5 dh => ?_⟩
          · rw [List.getElem?_map] at he'
            obtain ⟨b, eb, rfl⟩ := Option.map_eq_some_iff.mp he'
            refine ahead_ne hP.wh hP.h6 eh (h' := b) ?_ (PyData.str.inj (Option.some.inj z))
            exact List.mem_of_getElem? (i := j') (by rw [List.getElem?_take_of_lt hj']; exact eb)
          obtain ⟨ph, zs, rfl, z1, z2⟩ := dp_tup dh
          obtain ⟨y0, r, rfl, d0, z2⟩ := dpAll_cons z2
          obtain ⟨y1, r, rfl, d1, z2⟩ := dpAll_cons z2
          obtain ⟨y2, r, rfl, d2, z2⟩ := dpAll_cons z2
          obtain rfl := dpAll_nil z2
          obtain ⟨pf, fs, rfl, f1', f2'⟩ := dp_lst d2
          have lf := dpAll_len f2'
          rw [List.length_map] at lf
          have sG5 := sG4.trans s5
          have hf8 : h.2.length ≤ 8 := wf.2.1
          refine ⟨_, rfl, ph, _, _, _, rfl, rfl, sqT_sub sG5 z1, atI_nat (j := 2) rfl, pf, rfl, ⟨_, sqL_sub sG5 f1'⟩, fun D hD1 => lc_list (K := K) (a := pf) (xs := fs) (fun n H6 => Same H5 H6 ∧ H6 D = some (.lst (natsV ((wsOf h).take n)))) ⟨same_new hD1, upd_same⟩ (fun n H6 _ h => h.1.seq (sqL_sub sG5 f1')) ?_ ?_⟩
          · rintro n' y H6 hy ⟨s6, e6⟩
            obtain ⟨d', ed, hd⟩ := dpAll_val f2' hy
            rw [List.getElem?_map] at ed
            obtain ⟨c, ec, ed'⟩ := Option.map_eq_some_iff.mp ed
            subst ed'
            obtain ⟨pt, ts, rfl, u1, u2⟩ := dp_tup hd
            obtain ⟨w0, t, rfl, n0, u2⟩ := dpAll_cons u2
            obtain ⟨w1, t, rfl, n1, u2⟩ := dpAll_cons u2
            obtain rfl := dpAll_nil u2
            obtain rfl := dp_int n1
            have ew : (wsOf h)[n']? = some c.2 := by
              unfold wsOf
              rw [List.getElem?_map, ec]
              rfl
            refine ⟨pt, _, rfl, sqT_sub (sG5.trans s6) u1, rfl, _, _, rfl, _, _, rfl, rfl, rfl, _, rfl, _, e6, ?_, same_set s6 hD1, ?_⟩
            · unfold natsV
              rw [List.length_map, List.length_take]
              have := (List.getElem?_eq_some_iff.mp ec).1
              exact small1000 (by omega)
            · rw [upd_same, List.take_add_one, ew]
              unfold natsV
              rw [List.map_append]
              rfl
          · rintro H6 ⟨s6, e6⟩
            have lw : (wsOf h).length = fs.length := by unfold wsOf; rw [List.length_map, lf]
            rw [← lw, List.take_length] at e6
            have kp6 : ∀ b o, b ≠ pd → b ≠ pv' → H2 b = some o → H6 b = some o := fun b o h1 h2 e => s6 _ _ (s5 _ _ (kp4 b o h1 h2 e))
            have sG6 := sG5.trans s6
            have hp6 := (hp4.same s5).same s6
            refine ⟨D, _, rfl, by rw [natsV_eq] at e6; exact SqL.of e6, _, rfl, _, _, rfl, rfl, _, rfl, ?_⟩
            rw [sum_cast, ws_sum]
            by_cases hgt : total h.2 > s.left
            · refine iteDT (by omega) ?_
              rw [hps, if_pos hgt] at hpar
              exact qn hpar.symm _ kp6
            · refine iteDF (by omega) ?_
              have hle : total h.2 ≤ s.left := by omega
              have hfri := hfr.mono hji
              refine ⟨_, rfl, _, rfl, _, rfl, _, rfl, pp, pd, pv', .ref ph, port, s.ex, s.vs, G, h, numL l, s.left, rfl, hp6, sG6, gd, gv, dh, wf, hle, hfri.fresh hP.wh hP.h6 eh, by have := hfri.el; omega, by have := hfri.vl; omega, fun H7 kp7 hp7 => ?_⟩
              refine ⟨fun b o h1 h2 e => kp7 b o h1 h2 (kp6 b o h1 h2 e), ⟨s.ex ++ newX h (numL l) s.left, s.vs ++ [h.1], s.left - total h.2⟩, _, rfl, ?_, hfri.ext hP.wh hP.h6 eh hle, hp7⟩
              rw [hps, if_neg hgt]
      · rintro σ H5 ⟨kp5, s', o8', rfl, hps, hfr', hp5⟩
        rw [hps] at hpar
        have sG5 := hG kp5
        refine ⟨_, rfl, _, rfl, pa, _, _, _, rfl, rfl, sqT_sub sG5 a1, atI_nat (j := 3) rfl, pp, pd, pv', v3, port, s'.ex, s'.vs, G, a.nx, rfl, hp5, sG5, c3, ?_, fun H6 s6 => ?_⟩
        · refine nx_sx hP.wh hP.h6 ?_ b3'
          by_cases h0 : i = 0
          · exact .inl (if_pos h0)
          · exact .inr ⟨_, if_neg h0⟩
        · rw [hW]
          exact ⟨fun b o h1 h2 e => s6 _ _ (kp5 b o h1 h2 e), i + 1, s', _, _, _, rfl, hpar, by omega, goal_at hnm (tgt_goal b3' port s'.ex), hfr', by omega, hp5.same s6⟩
end
end Pk
set_option Elab.async false
set_option linter.all false
set_option maxRecDepth 100000
set_option maxHeartbeats 4000000
namespace Pk
open PySem PySem.Spec PyProof.Rows L2 SX GxR Tk
def kPort : List L2.Key := keyX (Str.ofString "packet") (Str.ofString "port")
def eS : Str := Str.ofString ""
/-- the dict of cells, as far as the header i, of which j - 1 fields are in -/
structure CDi (hs : List Hd) (kvs : List (List L2.Key × V)) (i j : Nat) : Prop where
  po : valV kvs kPort = some (.int 0)
  hd : ∀ (i' : Nat) (h : Hd), i' < i → hs[i']? = some h → valV kvs (keyX h.1 eS) = some (.int (posOf hs i' : Nat)) ∧ ∀ (j' : Nat) (f : Fl), h.2[j']? = some f → valV kvs (keyX h.1 f.1) = some (.int (posOf hs i' + 1 + j' : Nat))
  cu : 0 < j → ∀ h, hs[i]? = some h → valV kvs (keyX h.1 eS) = some (.int (posOf hs i : Nat)) ∧ ∀ (j' : Nat) (f : Fl), j' + 1 < j → h.2[j']? = some f → valV kvs (keyX h.1 f.1) = some (.int (posOf hs i + 1 + j' : Nat))
theorem kp_ne {hs : List Hd} (wh : WfH hs) {i : Nat} {h : Hd} (e : hs[i]? = some h) (hi : i < 10) (x : Str) : kPort ≠ keyX h.1 x := fun z =>
  nm_ne_str (wh i h e).1 hi _ dg_packet.1 (Prod.mk.inj (keyX_inj.mp z)).1.symm
theorem fl_ne {h : Hd} (wf : WfF h.2) {j : Nat} {f : Fl} (e : h.2[j]? = some f) : f.1 ≠ eS := fun z => by
  have hj := (List.getElem?_eq_some_iff.mp e).1
  have := wf.2.1
  have h1 := (nm_len ((wf.2.2.1 j f e).1 (by omega))).1
  rw [z] at h1
  exact absurd h1 (by decide +kernel)
theorem CDi.next {hs : List Hd} {kvs : List (List L2.Key × V)} {i j : Nat} {h : Hd} (c : CDi hs kvs i j) (e : hs[i]? = some h) (hj : j = h.2.length + 1) : CDi hs kvs (i + 1) 0 := by
  refine ⟨c.po, fun i' h' hi e' => ?_, fun z => absurd z (Nat.lt_irrefl _)⟩
  rcases Nat.lt_or_ge i' i with hl | hg
  · exact c.hd i' h' hl e'
  · obtain rfl : i' = i := by omega
    rw [e] at e'
    cases e'
    obtain ⟨h1, h2⟩ := c.cu (by omega) h e
    refine ⟨h1, fun j' f ef => h2 j' f ?_ ef⟩
    have := (List.getElem?_eq_some_iff.mp ef).1
    omega
theorem CDi.valid {hs : List Hd} (wh : WfH hs) (h6 : hs.length ≤ 6) {kvs : List (List L2.Key × V)} {i : Nat} {h : Hd} (c : CDi hs kvs i 0) (e : hs[i]? = some h) : CDi hs (putK kvs (keyX h.1 eS) (.int (posOf hs i : Nat))) i 1 := by
  have hi := (List.getElem?_eq_some_iff.mp e).1
  have hne : ∀ (i' : Nat) (h' : Hd) (x : Str), i' < i → hs[i']? = some h' → keyX h'.1 x ≠ keyX h.1 eS := fun i' h' x hl e' z => by
    have := nm_inj (wh i' h' e').1 (wh i h e).1 (by omega) (by omega) (Prod.mk.inj (keyX_inj.mp z)).1
    omega
  refine ⟨?_, fun i' h' hl e' => ⟨?_, fun j' f ef => ?_⟩, fun _ h' e' => ?_⟩
  · rw [valV_put, if_neg (kp_ne wh e (by omega) _)]
    exact c.po
  · rw [valV_put, if_neg (hne i' h' _ hl e')]
    exact (c.hd i' h' hl e').1
  · rw [valV_put, if_neg (hne i' h' _ hl e')]
    exact (c.hd i' h' hl e').2 j' f ef
  · rw [e] at e'
    cases e'
    refine ⟨by rw [valV_put, if_pos rfl], fun j' f hj _ => by omega⟩
theorem CDi.field {hs : List Hd} (wh : WfH hs) (h6 : hs.length ≤ 6) {kvs : List (List L2.Key × V)} {i j : Nat} {h : Hd} {f : Fl} (c : CDi hs kvs i (j + 1)) (e : hs[i]? = some h) (ef : h.2[j]? = some f) : CDi hs (putK kvs (keyX h.1 f.1) (.int (posOf hs i + 1 + j : Nat))) i (j + 2) := by
  have hi := (List.getElem?_eq_some_iff.mp e).1
  have wf := (wh i h e).2
  have hne : ∀ (i' : Nat) (h' : Hd) (x : Str), i' < i → hs[i']? = some h' → keyX h'.1 x ≠ keyX h.1 f.1 := fun i' h' x hl e' z => by
    have := nm_inj (wh i' h' e').1 (wh i h e).1 (by omega) (by omega) (Prod.mk.inj (keyX_inj.mp z)).1
    omega
  refine ⟨?_, fun i' h' hl e' => ⟨?_, fun j' f' ef' => ?_⟩, fun _ h' e' => ?_⟩
  · rw [valV_put, if_neg (kp_ne wh e (by omega) _)]
    exact c.po
  · rw [valV_put, if_neg (hne i' h' _ hl e')]
    exact (c.hd i' h' hl e').1
  · rw [valV_put, if_neg (hne i' h' _ hl e')]
    exact (c.hd i' h' hl e').2 j' f' ef'
  · rw [e] at e'
    cases e'
    obtain ⟨h1, h2⟩ := c.cu (by omega) h e
    refine ⟨?_, fun j' f' hj ef' => ?_⟩
    · rw [valV_put, if_neg (fun z => fl_ne wf ef (Prod.mk.inj (keyX_inj.mp z)).2.symm)]
      exact h1
    · rw [valV_put]
      by_cases hjj : j' = j
      · subst hjj
        rw [ef] at ef'
        cases ef'
        rw [if_pos rfl]
      · rw [if_neg (fun z => hjj (fl_first wf.2.2.1 (wfF10 wf) ef' ef (Prod.mk.inj (keyX_inj.mp z)).2))]
        exact h2 j' f' (by omega) ef'
/-- all cells -/
abbrev CDx (hs : List Hd) (kvs : List (List L2.Key × V)) : Prop := CDi hs kvs hs.length 0
def manyC (p : Pd) : Nat := posOf p.hs p.hs.length + p.m.length
section
variable {P : Program} {w : World} {K : PySem.W.Frag} {mg : Str → Option Value} {base : Heap}
def spCellsL (K : PySem.W.Frag) : Sp := fun vs H Q _ => ∃ (v : V) (G : Hp) (p : Pd), vs = [v] ∧ Same G H ∧ PgK K G v p ∧ p.m.length ≤ 2 ∧
  ∀ H' pt pd kvs, Same H H' → H pt = none → H pd = none → H' pt = some (.tup [.ref pd, .int (manyC p : Nat)]) → H' pd = some (.dT kvs) → CDx p.hs kvs → Q (.ref pt) H'
end
end Pk
set_option Elab.async false
set_option linter.all false
set_option maxRecDepth 100000
set_option maxHeartbeats 4000000
namespace Pk
open PySem PySem.Spec PyProof.Rows L2 SX GxR Tk
abbrev NSl : List Str := ["program", "cells", "part", "following", "valid", "parts", "octets", "header", "name", "width", "rows", "value", "mask", "target", "full"]
structure Stp where
  valid : Option Nat
  parts : List (Nat × Nat)
  octs : Nat
  key : Option Nat
  rows : List Gr3
  other : Int
def opN : Option Nat → PyData
  | none => .none
  | some n => .int (n : Nat)
def cwL (c : Nat × Nat) : List PyData := [.int (c.1 : Nat), .int (c.2 : Nat)]
def cwsD (l : List (Nat × Nat)) : PyData := .list (l.map fun c => .tuple (cwL c))
def g3sD (l : List Gr3) : PyData := .list (l.map fun r => .tuple (g3L r))
def stpL (s : Stp) : List PyData := [opN s.valid, cwsD s.parts, .int (s.octs : Nat), opN s.key, g3sD s.rows, .int s.other]
def takenH (p : Pd) (a : Sa) : Option Hd := match a.taken with
  | none => none
  | some x => p.hs.find? fun h => decide (h.1 = x)
def partsOf (p : Pd) (h : Hd) : List (Nat × Nat) := h.2.map fun f => (fix p.hs p.m (prD h.1 f.1), f.2)
def g3Of (p : Pd) (o n : Str) (r : Rw) : Gr3 := (r.2.1.getD (2 ^ wix p.hs p.m (prD o n) - 1), r.1, goalI p.ns r.2.2)
def validOf (p : Pd) (a : Sa) : Option Nat := (takenH p a).map fun h => fix p.hs p.m (.str h.1)
def partsA (p : Pd) (a : Sa) : List (Nat × Nat) := ((takenH p a).map (partsOf p)).getD []
def octsA (p : Pd) (a : Sa) : Nat := ((takenH p a).map fun h => total h.2 / 8).getD 0
def stepOf (p : Pd) (a : Sa) : Stp := match a.nx with
  | .go t => ⟨validOf p a, partsA p a, octsA p a, none, [], goalI p.ns t⟩
  | .sel o n rows other => ⟨validOf p a, partsA p a, octsA p a, some (fix p.hs p.m (prD o n)), rows.map (g3Of p o n), goalI p.ns other⟩
/-- the fields of the headers, and the port -/
def hrefs (hs : List Hd) : List Rf := portR :: hs.flatMap hRefs
structure SaK (p : Pd) (a : Sa) : Prop where
  tk : a.taken = none ∨ ∃ (i : Nat) (h : Hd), p.hs[i]? = some h ∧ a.taken = some h.1
  nx : NxOk (hrefs p.hs) p.ns a.nx
theorem own_hrefs {hs : List Hd} {k : Nat} {t : Option Str} {r : Rf} (h : r ∈ ownRefs hs k t) : r ∈ hrefs hs := by
  unfold ownRefs at h
  split at h
  · rename_i x e
    exact List.mem_cons_of_mem _ (List.mem_flatMap.mpr ⟨x, List.mem_of_getElem? e, h⟩)
  · cases h
theorem goal_up {ns ns' : List Str} {g : Str} (h : ∀ x ∈ ns, x ∈ ns') (hg : Goal ns g) : Goal ns' g := by
  rcases hg with hg | hg | hg
  · exact .inl hg
  · exact .inr (.inl hg)
  · exact .inr (.inr (h _ hg))
theorem nx_up {rs rs' : List Rf} {ns ns' : List Str} {x : Nx} (hr : ∀ r ∈ rs, r ∈ rs') (hn : ∀ y ∈ ns, y ∈ ns') (h : NxOk rs ns x) : NxOk rs' ns' x := by
  cases x with
  | go t => exact goal_up hn h
  | sel o n rows other =>
    obtain ⟨⟨w, hw, hrow⟩, hl, hg⟩ := h
    exact ⟨⟨w, hr _ hw, fun r hm => let ⟨a, b, c, d, e⟩ := hrow r hm; ⟨a, b, c, d, goal_up hn e⟩⟩, hl, goal_up hn hg⟩
theorem StK.sak {p : Pd} {ss : List Sa} {n : Nat} (h : StK p ss n) : ∀ a ∈ p.sts, SaK p a := by
  intro a ha
  obtain ⟨ns, h1, h2, h3, h4⟩ := h.names
  have hm : a ∈ ss := by
    rw [h.e] at ha
    rcases List.mem_append.mp ha with ha | ha
    · exact List.mem_of_mem_drop ha
    · exact List.mem_of_mem_take ha
  obtain ⟨i, ei⟩ := List.mem_iff_getElem?.mp hm
  obtain ⟨b1, b2, b3⟩ := h4 i a ei
  refine ⟨b2.imp id fun ⟨x, e, f⟩ => ⟨i, x, e, f⟩, nx_up (fun r hr => ?_) (fun y hy => h3.mem_iff.mpr (List.mem_of_mem_drop hy)) b3⟩
  rcases List.mem_append.mp hr with hr | hr
  · split at hr
    · rw [List.mem_singleton.mp hr]
      exact List.mem_cons_self
    · rcases List.mem_append.mp hr with hr | hr
      · rw [List.mem_singleton.mp hr]
        exact List.mem_cons_self
      · exact own_hrefs hr
  · exact own_hrefs hr
theorem hrefs_refs {hs : List Hd} {m : List Fl} {r : Rf} (h : r ∈ hrefs hs) : r ∈ refsOf hs m := List.mem_append_left _ h
/-- a field's cell in the law's dict -/
theorem CDi.ref {hs : List Hd} {m : List Fl} (wh : WfH hs) (h6 : hs.length ≤ 6) (wm : WfM m) {kvs : List (List L2.Key × V)} (c : CDx hs kvs) {r : Rf} (hr : r ∈ hrefs hs) : valV kvs (keyX r.1 r.2.1) = some (.int (fix hs m (prD r.1 r.2.1) : Nat)) := by
  rcases List.mem_cons.mp hr with rfl | hr
  · have : fix hs m (prD portR.1 portR.2.1) = 0 := fix_fd (fd_port hs m)
    rw [this]
    exact c.po
  · obtain ⟨h, hh, hf⟩ := List.mem_flatMap.mp hr
    obtain ⟨f, hf2, rfl⟩ := List.mem_map.mp hf
    obtain ⟨i, ei⟩ := List.mem_iff_getElem?.mp hh
    obtain ⟨j, ej⟩ := List.mem_iff_getElem?.mp hf2
    have : fix hs m (prD h.1 f.1) = posOf hs i + 1 + j := fix_fd (fd_field wh h6 ei ej)
    show valV kvs (keyX h.1 f.1) = some (.int (fix hs m (prD h.1 f.1) : Nat))
    rw [this]
    exact (c.hd i h (List.getElem?_eq_some_iff.mp ei).1 ei).2 j f ej
theorem CDi.vld {hs : List Hd} {m : List Fl} (wh : WfH hs) (h6 : hs.length ≤ 6) {kvs : List (List L2.Key × V)} (c : CDx hs kvs) {i : Nat} {h : Hd} (e : hs[i]? = some h) : valV kvs (keyX h.1 eS) = some (.int (fix hs m (.str h.1) : Nat)) := by
  have : fix hs m (.str h.1) = posOf hs i := fix_fd (fd_valid wh h6 e)
  rw [this]
  exact (c.hd i h (List.getElem?_eq_some_iff.mp e).1 e).1
/-- a new tuple joins what stands -/
theorem tup_new {K : PySem.W.Frag} {G H : Hp} {p : Addr} {vs : List V} {ds : List PyData} (sG : Same G H) (hp : H p = none) (hd : DpAll K G vs ds) :
    Same (upd G p (.tup vs)) (upd H p (.tup vs)) ∧ Gr G (upd G p (.tup vs)) H ∧ Dp K (upd G p (.tup vs)) (.ref p) (.tuple ds) := by
  have hG := sG.free hp
  refine ⟨fun b o e => ?_, (Gr.refl G H).put hp hG, .tup (SqT.of upd_same) (dpAll_sub (same_new2 hG) hd)⟩
  by_cases hb : b = p
  · rw [hb, upd_same] at e ⊢
    exact e
  · rw [upd_ne hb] at e ⊢
    exact sG _ _ e
theorem lst_new {K : PySem.W.Frag} {G H : Hp} {p : Addr} {vs : List V} {ds : List PyData} (sG : Same G H) (hp : H p = none) (hd : DpAll K G vs ds) :
    Same (upd G p (.lst vs)) (upd H p (.lst vs)) ∧ Gr G (upd G p (.lst vs)) H ∧ Dp K (upd G p (.lst vs)) (.ref p) (.list ds) := by
  have hG := sG.free hp
  refine ⟨fun b o e => ?_, (Gr.refl G H).put hp hG, .lst (SqL.of upd_same) (dpAll_sub (same_new2 hG) hd)⟩
  by_cases hb : b = p
  · rw [hb, upd_same] at e ⊢
    exact e
  · rw [upd_ne hb] at e ⊢
    exact sG _ _ e
theorem Gr.back {G G' H H0 : Hp} (g : Gr G G' H) (k : Same H0 H) : Gr G G' H0 := ⟨g.sub, fun b h => by
  rcases g.new b h with h | h
  · exact .inl h
  · exact .inr (k.free h)⟩
theorem Gr.then {G G1 G2 H H0 : Hp} (a : Gr G G1 H0) (b : Gr G1 G2 H) (k : Same H0 H) : Gr G G2 H0 := ⟨a.sub.trans b.sub, fun c h => by
  rcases b.new c h with h | h
  · exact a.new c h
  · exact .inr (k.free h)⟩
/-- a list that was under work joins what stands -/
theorem lst_join {K : PySem.W.Frag} {G H H0 : Hp} {p : Addr} {vs : List V} {ds : List PyData} (sG : Same G H) (e : H p = some (.lst vs)) (g : G p = none) (hp : H0 p = none) (hd : DpAll K G vs ds) :
    Same (upd G p (.lst vs)) H ∧ Gr G (upd G p (.lst vs)) H0 ∧ Dp K (upd G p (.lst vs)) (.ref p) (.list ds) :=
  ⟨same_upd sG e, (Gr.refl G H0).put hp g, .lst (SqL.of upd_same) (dpAll_sub (same_new2 g) hd)⟩
end Pk
set_option Elab.async false
set_option linter.all false
set_option maxRecDepth 100000
set_option maxHeartbeats 4000000
/-! the cells' values -/
namespace Pk
open PySem PySem.Spec PyProof.Rows L2 SX GxR Tk
theorem set_map {α : Type} {l : List α} {f g : α → Nat} {j v : Nat} {z : α} (nd : l.Nodup) (e : l[j]? = some z) (h1 : g z = v) (h2 : ∀ x ∈ l, x ≠ z → g x = f x) : (l.map f).set j v = l.map g := by
  have hj := (List.getElem?_eq_some_iff.mp e).1
  refine List.ext_getElem? fun i => ?_
  rw [List.getElem?_set, List.getElem?_map]
  by_cases hij : j = i
  · subst hij
    rw [if_pos rfl, if_pos (by rw [List.length_map]; exact hj), List.getElem?_map, e]
    exact congrArg some h1.symm
  · rw [if_neg hij, List.getElem?_map]
    cases ei : l[i]? with
    | none => rfl
    | some x =>
      have hi := (List.getElem?_eq_some_iff.mp ei).1
      have hx : x ≠ z := by
        rintro rfl
        rcases Nat.lt_or_ge i j with h | h
        · exact (nodup_iff_at.mp nd) i j h hj (ei.trans e.symm)
        · exact (nodup_iff_at.mp nd) j i (by omega) hi (e.trans ei.symm)
      exact congrArg some (h2 x (List.mem_of_getElem? ei) hx).symm
def pvF (port : Nat) (ex : List Xt) (vs : List Str) : PyData → Nat
  | .none => 8
  | .str h => if h ∈ vs then 1 else 0
  | .tuple [.str o, .str n] => look port ex o n
  | _ => 0
theorem pv_pr (port : Nat) (ex : List Xt) (vs : List Str) (o n : Str) : pvF port ex vs (prD o n) = look port ex o n := rfl
theorem pv_str (port : Nat) (ex : List Xt) (vs : List Str) (h : Str) : pvF port ex vs (.str h) = if h ∈ vs then 1 else 0 := rfl
theorem places_cases {hs : List Hd} {m : List Fl} {x : PyData} (hx : x ∈ placesL hs m) : x = .none ∨ (∃ s, x = .str s) ∨ ∃ o n, x = prD o n := by
  rw [placesL_eq] at hx
  rcases List.mem_cons.mp hx with rfl | hx
  · exact .inr (.inr ⟨_, _, rfl⟩)
  rcases List.mem_cons.mp hx with rfl | hx
  · exact .inl rfl
  rcases List.mem_append.mp hx with hx | hx
  · obtain ⟨h, hh, hx⟩ := List.mem_flatMap.mp hx
    rcases List.mem_cons.mp hx with rfl | hx
    · exact .inr (.inl ⟨_, rfl⟩)
    · obtain ⟨f, hf, rfl⟩ := List.mem_map.mp hx
      exact .inr (.inr ⟨_, _, rfl⟩)
  · obtain ⟨f, hf, rfl⟩ := List.mem_map.mp hx
    exact .inr (.inr ⟨_, _, rfl⟩)
theorem prD_inj {a b c d : Str} (h : prD a b = prD c d) : a = c ∧ b = d := by
  unfold prD at h
  injection h with h
  injection h with h1 h2
  injection h1 with h1
  injection h2 with h2
  injection h2 with h2
  exact ⟨h1, h2⟩
theorem nodup_flds {h : Str} {fs : List Fl} (wf : WfG fs) (hl : fs.length ≤ 10) : (fs.map fun f => prD h f.1).Nodup := by
  rw [nodup_iff_at]
  intro i j hij hj e
  rw [List.length_map] at hj
  have ei := List.getElem?_eq_getElem (by omega : i < fs.length)
  have ej := List.getElem?_eq_getElem hj
  rw [List.getElem?_map, List.getElem?_map, ei, ej] at e
  have := fl_first wf hl ei ej (prD_inj (Option.some.inj e)).2
  omega
theorem pl_nodup {hs : List Hd} {m : List Fl} (wh : WfH hs) (h6 : hs.length ≤ 6) (wm : WfM m) : (placesL hs m).Nodup := by
  rw [placesL_eq]
  have hmem : ∀ x ∈ hs.flatMap hPl, ∃ (i : Nat) (h : Hd), hs[i]? = some h ∧ (x = .str h.1 ∨ ∃ f ∈ h.2, x = prD h.1 f.1) := by
    intro x hx
    obtain ⟨h, hh, hx⟩ := List.mem_flatMap.mp hx
    obtain ⟨i, ei⟩ := List.mem_iff_getElem?.mp hh
    rcases List.mem_cons.mp hx with rfl | hx
    · exact ⟨i, h, ei, .inl rfl⟩
    · obtain ⟨f, hf, rfl⟩ := List.mem_map.mp hx
      exact ⟨i, h, ei, .inr ⟨f, hf, rfl⟩⟩
  have hi10 : ∀ {i : Nat} {h : Hd}, hs[i]? = some h → i < 10 := fun e => by
    have := (List.getElem?_eq_some_iff.mp e).1
    omega
  have h1 : (hs.flatMap hPl).Nodup := by
    unfold List.Nodup
    rw [List.pairwise_flatMap]
    refine ⟨fun h hh => ?_, ?_⟩
    · obtain ⟨i, ei⟩ := List.mem_iff_getElem?.mp hh
      have wf := (wh i h ei).2
      refine List.pairwise_cons.mpr ⟨fun x hx => ?_, nodup_flds wf.2.2.1 (wfF10 wf)⟩
      obtain ⟨f, hf, rfl⟩ := List.mem_map.mp hx
      exact fun z => by cases z
    · rw [List.pairwise_iff_getElem]
      intro i j hi hj hij x hx y hy e
      have ei := List.getElem?_eq_getElem hi
      have ej := List.getElem?_eq_getElem hj
      have key : hs[i].1 = hs[j].1 → False := fun z => by
        have := nm_inj (wh i _ ei).1 (wh j _ ej).1 (by omega) (by omega) z
        omega
      rcases List.mem_cons.mp hx with rfl | hx
      · rcases List.mem_cons.mp hy with rfl | hy
        · injection e with e
          exact key e
        · obtain ⟨f, hf, rfl⟩ := List.mem_map.mp hy
          cases e
      · obtain ⟨f, hf, rfl⟩ := List.mem_map.mp hx
        rcases List.mem_cons.mp hy with rfl | hy
        · cases e
        · obtain ⟨g, hg, rfl⟩ := List.mem_map.mp hy
          exact key (prD_inj e).1
  have h2 : (mPl m).Nodup := nodup_flds wm.2 (wfM10 wm)
  have h3 : (hs.flatMap hPl ++ mPl m).Nodup := by
    refine List.nodup_append.mpr ⟨h1, h2, fun x hx y hy e => ?_⟩
    subst e
    obtain ⟨f, _, rfl⟩ := List.mem_map.mp hy
    obtain ⟨i, h, ei, hx | ⟨g, _, hx⟩⟩ := hmem _ hx
    · cases hx
    · exact nm_ne_str (wh i h ei).1 (hi10 ei) _ dg_packet.2 (prD_inj hx).1.symm
  refine List.nodup_cons.mpr ⟨fun hx => ?_, List.nodup_cons.mpr ⟨fun hx => ?_, h3⟩⟩
  · rcases List.mem_cons.mp hx with hx | hx
    · cases hx
    rcases List.mem_append.mp hx with hx | hx
    · obtain ⟨i, h, ei, hx | ⟨g, _, hx⟩⟩ := hmem _ hx
      · cases hx
      · exact nm_ne_str (wh i h ei).1 (hi10 ei) _ dg_packet.1 (prD_inj hx).1.symm
    · obtain ⟨f, _, hx⟩ := List.mem_map.mp hx
      exact pm_ne (prD_inj (a := "meta") (b := f.1) hx).1.symm
  · rcases List.mem_append.mp hx with hx | hx
    · obtain ⟨i, h, ei, hx | ⟨g, _, hx⟩⟩ := hmem _ hx <;> cases hx
    · obtain ⟨f, _, hx⟩ := List.mem_map.mp hx
      cases hx
def cellsOf (p : Pd) (port : Nat) (ex : List Xt) (vs : List Str) : List Nat := (placesL p.hs p.m).map (pvF port ex vs)
theorem pl_len (p : Pd) : (placesL p.hs p.m).length = manyC p := by
  rw [placesL_eq]
  unfold manyC posOf mPl
  rw [List.length_cons, List.length_cons, List.length_append, List.take_length, List.length_map]
  omega
theorem look_app {port : Nat} {ex : List Xt} {a b o n : Str} {v : Nat} (hf : ∀ e ∈ ex, (e.1, e.2.1) ≠ (a, b)) (hp : (a, b) ≠ (Str.ofString "packet", Str.ofString "port")) : look port (ex ++ [(a, b, v)]) o n = if (o, n) = (a, b) then v else look port ex o n := by
  unfold look
  by_cases hpo : (o, n) = (Str.ofString "packet", Str.ofString "port")
  · rw [if_pos hpo, if_pos hpo, if_neg (fun z => hp (z.symm.trans hpo))]
  · rw [if_neg hpo, if_neg hpo, List.find?_append]
    by_cases hab : (o, n) = (a, b)
    · rw [if_pos hab]
      have : ex.find? (fun e => decide ((e.1, e.2.1) = (o, n))) = none := by
        rw [List.find?_eq_none]
        intro e he z
        exact hf e he ((of_decide_eq_true z).trans hab)
      rw [this, List.find?_cons_of_pos (by exact decide_eq_true hab.symm)]
      rfl
    · rw [if_neg hab, List.find?_cons_of_neg (fun z => hab (of_decide_eq_true z).symm)]
      cases ex.find? (fun e => decide ((e.1, e.2.1) = (o, n))) <;> rfl
section
variable {p : Pd} (wh : WfH p.hs) (h6 : p.hs.length ≤ 6) (wm : WfM p.m)
include wh h6 wm
theorem set_valid {i : Nat} {h : Hd} (e : p.hs[i]? = some h) (port : Nat) (ex : List Xt) (vs : List Str) : (cellsOf p port ex vs).set (fix p.hs p.m (.str h.1)) 1 = cellsOf p port ex (vs ++ [h.1]) := by
  refine set_map (pl_nodup wh h6 wm) (loc_valid wh h6 (List.mem_of_getElem? e)).fd.at_ ?_ fun x hx hne => ?_
  · rw [pv_str, if_pos (List.mem_append_right _ List.mem_cons_self)]
  · rcases places_cases hx with rfl | ⟨s, rfl⟩ | ⟨o, n, rfl⟩
    · rfl
    · rw [pv_str, pv_str]
      by_cases hs : s ∈ vs
      · rw [if_pos hs, if_pos (List.mem_append_left _ hs)]
      · rw [if_neg hs, if_neg]
        intro z
        rcases List.mem_append.mp z with z | z
        · exact hs z
        · exact hne (congrArg PyData.str (List.mem_singleton.mp z))
    · rfl
theorem set_field {i j : Nat} {h : Hd} {f : Fl} (e : p.hs[i]? = some h) (ef : h.2[j]? = some f) (port : Nat) (ex : List Xt) (vs : List Str) (v : Nat) (hf : ∀ e ∈ ex, (e.1, e.2.1) ≠ (h.1, f.1)) : (cellsOf p port ex vs).set (fix p.hs p.m (prD h.1 f.1)) v = cellsOf p port (ex ++ [(h.1, f.1, v)]) vs := by
  have hi := (List.getElem?_eq_some_iff.mp e).1
  have hr : (h.1, f.1, f.2) ∈ hrefs p.hs := List.mem_cons_of_mem _ (List.mem_flatMap.mpr ⟨h, List.mem_of_getElem? e, List.mem_map.mpr ⟨f, List.mem_of_getElem? ef, rfl⟩⟩)
  have hp : (h.1, f.1) ≠ (Str.ofString "packet", Str.ofString "port") := fun z => nm_ne_str (wh i h e).1 (by omega) _ dg_packet.1 (Prod.mk.inj z).1
  refine set_map (pl_nodup wh h6 wm) (loc_ref wh h6 wm (hrefs_refs hr)).fd.at_ ?_ fun x hx hne => ?_
  · show look port _ h.1 f.1 = v
    rw [look_app hf hp, if_pos rfl]
  · rcases places_cases hx with rfl | ⟨s, rfl⟩ | ⟨o, n, rfl⟩
    · rfl
    · rfl
    · show look port _ o n = look port _ o n
      rw [look_app hf hp, if_neg fun z => hne (by obtain ⟨z1, z2⟩ := Prod.mk.inj z; rw [z1, z2])]
theorem cells_start (port : Nat) : ((List.replicate (manyC p) 0).set 0 port).set 1 8 = cellsOf p port [] [] := by
  have hl := pl_len p
  unfold cellsOf
  rw [placesL_eq] at hl ⊢
  have hrest : (p.hs.flatMap hPl ++ mPl p.m).map (pvF port [] []) = List.replicate (p.hs.flatMap hPl ++ mPl p.m).length 0 := by
    refine List.eq_replicate_iff.mpr ⟨List.length_map .., fun b hb => ?_⟩
    obtain ⟨x, hx, rfl⟩ := List.mem_map.mp hb
    rcases List.mem_append.mp hx with hx | hx
    · obtain ⟨h, hh, hx⟩ := List.mem_flatMap.mp hx
      obtain ⟨i, ei⟩ := List.mem_iff_getElem?.mp hh
      have hi := (List.getElem?_eq_some_iff.mp ei).1
      rcases List.mem_cons.mp hx with rfl | hx
      · rfl
      · obtain ⟨f, hf, rfl⟩ := List.mem_map.mp hx
        show look port [] h.1 f.1 = 0
        unfold look
        rw [if_neg fun z => nm_ne_str (wh i h ei).1 (by omega) _ dg_packet.1 (Prod.mk.inj z).1]
        rfl
    · obtain ⟨f, hf, rfl⟩ := List.mem_map.mp hx
      show look port [] (Str.ofString "meta") f.1 = 0
      unfold look
      rw [if_neg fun z => pm_ne (Prod.mk.inj z).1.symm]
      rfl
  rw [List.map_cons, List.map_cons, hrest, ← hl, List.length_cons, List.length_cons, List.replicate_succ, List.replicate_succ]
  rfl
end
end Pk
set_option Elab.async false
set_option linter.all false
set_option maxRecDepth 100000
set_option maxHeartbeats 4000000
/-! the cells of a state; what an operation changes in them -/
namespace Pk
open PySem PySem.Spec PyProof.Rows L2 SX GxR Tk
theorem ixN_at {n j : Nat} (h : j < n) : ixN n ((j : Nat) : Int) = some j := by
  unfold ixN
  rw [if_pos (by omega), if_pos (by omega), Int.toNat_natCast]
structure WfP (p : Pd) : Prop where
  wh : WfH p.hs
  h6 : p.hs.length ≤ 6
  wm : WfM p.m
theorem PgK.wf {K : PySem.W.Frag} {G : Hp} {v : V} {p : Pd} (h : PgK K G v p) : WfP p := ⟨h.wh, h.h6, h.wm⟩
def pvG (port : Nat) (s : Ms) : PyData → Nat
  | .none => s.out.getD 8
  | .str h => if h ∈ s.vs then 1 else 0
  | .tuple [.str o, .str n] => rdF port s.F o n
  | _ => 0
theorem pvG_pr (port : Nat) (s : Ms) (o n : Str) : pvG port s (prD o n) = rdF port s.F o n := rfl
theorem pvG_str (port : Nat) (s : Ms) (h : Str) : pvG port s (.str h) = if h ∈ s.vs then 1 else 0 := rfl
theorem pvG_non (port : Nat) (s : Ms) : pvG port s .none = s.out.getD 8 := rfl
def cellsG (p : Pd) (port : Nat) (s : Ms) : List Nat := (placesL p.hs p.m).map (pvG port s)
theorem cellsG_len (p : Pd) (port : Nat) (s : Ms) : (cellsG p port s).length = manyC p := by
  unfold cellsG
  rw [List.length_map, pl_len]
def Pd.W (p : Pd) (o n : Str) : Nat := wix p.hs p.m (prD o n)
def hdOf (p : Pd) (h : Str) : Option Hd := p.hs.find? fun x => decide (x.1 = h)
def flsOf (p : Pd) (h : Str) : List Fl := ((hdOf p h).map (·.2)).getD []
def zerosOf (p : Pd) (h : Str) : List (Nat × Nat) := (flsOf p h).map fun f => (fix p.hs p.m (prD h f.1), 0)
/-- what an operation changes in the cells -/
def chg (p : Pd) (port : Nat) (A : Str → Int) (s : Ms) : Op → List (Nat × Nat)
  | .set o n e => if o = Str.ofString "meta" ∨ o ∈ s.vs then [(fix p.hs p.m (prD o n), (evV port s.F A e % 2 ^ p.W o n).toNat)] else []
  | .drp => [(1, 8)]
  | .snd e => [(1, (portOf (evV port s.F A e)).getD 8)]
  | .add h => if h ∈ s.vs then [] else (fix p.hs p.m (.str h), 1) :: zerosOf p h
  | .rem h => (fix p.hs p.m (.str h), 0) :: zerosOf p h
section
variable {p : Pd} {port : Nat} {A : Str → Int} {s : Ms}
theorem chg_setT {o n : Str} {e : Ex} (c : o = Str.ofString "meta" ∨ o ∈ s.vs) : chg p port A s (.set o n e) = [(fix p.hs p.m (prD o n), (evV port s.F A e % 2 ^ p.W o n).toNat)] := if_pos c
theorem chg_setF {o n : Str} {e : Ex} (c : ¬ (o = Str.ofString "meta" ∨ o ∈ s.vs)) : chg p port A s (.set o n e) = [] := if_neg c
theorem chg_addT {h : Str} (c : h ∈ s.vs) : chg p port A s (.add h) = [] := if_pos c
theorem chg_addF {h : Str} (c : h ∉ s.vs) : chg p port A s (.add h) = (fix p.hs p.m (.str h), 1) :: zerosOf p h := if_neg c
end
abbrev setAll (l : List Nat) (cs : List (Nat × Nat)) : List Nat := cs.foldl (fun l c => l.set c.1 c.2) l
theorem foldZ {p : Pd} (nd : (placesL p.hs p.m).Nodup) (hn : Str) : ∀ (fs : List Fl) (g g2 : PyData → Nat), (∀ f ∈ fs, (placesL p.hs p.m)[fix p.hs p.m (prD hn f.1)]? = some (prD hn f.1)) → (∀ f ∈ fs, g2 (prD hn f.1) = 0) →
    (∀ x ∈ placesL p.hs p.m, (∀ f ∈ fs, x ≠ prD hn f.1) → g2 x = g x) → setAll ((placesL p.hs p.m).map g) (fs.map fun f => (fix p.hs p.m (prD hn f.1), 0)) = (placesL p.hs p.m).map g2
  | [], g, g2, _, _, h => List.map_congr_left fun x hx => (h x hx fun f hf => absurd hf List.not_mem_nil).symm
  | f :: r, g, g2, h1, h2, h3 => by
    classical
    show setAll (((placesL p.hs p.m).map g).set (fix p.hs p.m (prD hn f.1)) 0) _ = _
    rw [set_map (g := fun x => if x = prD hn f.1 then 0 else g x) nd (h1 f List.mem_cons_self) (if_pos rfl) (fun x hx hne => if_neg hne)]
    refine foldZ nd hn r _ g2 (fun f' hf' => h1 f' (List.mem_cons_of_mem _ hf')) (fun f' hf' => h2 f' (List.mem_cons_of_mem _ hf')) fun x hx hne => ?_
    by_cases e : x = prD hn f.1
    · rw [if_pos e, e]
      exact h2 f List.mem_cons_self
    · rw [if_neg e]
      refine h3 x hx fun f' hf' => ?_
      rcases List.mem_cons.mp hf' with rfl | h
      · exact e
      · exact hne f' h
section
variable {p : Pd} (wh : WfH p.hs) (h6 : p.hs.length ≤ 6) (wm : WfM p.m)
include wh h6 wm
theorem hdOf_mem {h : Hd} (hh : h ∈ p.hs) : hdOf p h.1 = some h := by
  obtain ⟨i, ei⟩ := List.mem_iff_getElem?.mp hh
  exact hd_find wh h6 ei
theorem flsOf_mem {h : Hd} (hh : h ∈ p.hs) : flsOf p h.1 = h.2 := by
  unfold flsOf
  rw [hdOf_mem wh h6 wm hh]
  rfl
theorem hd_eq {h h' : Hd} (hh : h ∈ p.hs) (hh' : h' ∈ p.hs) (e : h.1 = h'.1) : h = h' := by
  have h1 := hdOf_mem wh h6 wm hh
  rw [e, hdOf_mem wh h6 wm hh'] at h1
  exact (Option.some.inj h1).symm
theorem hd_ne {h : Hd} (hh : h ∈ p.hs) : h.1 ≠ Str.ofString "packet" ∧ h.1 ≠ Str.ofString "meta" := by
  obtain ⟨i, ei⟩ := List.mem_iff_getElem?.mp hh
  have hi := (List.getElem?_eq_some_iff.mp ei).1
  exact ⟨nm_ne_str (wh i h ei).1 (by omega) _ dg_packet.1, nm_ne_str (wh i h ei).1 (by omega) _ dg_packet.2⟩
theorem place_field {h : Hd} (hh : h ∈ p.hs) {b : Str} (hx : prD h.1 b ∈ placesL p.hs p.m) : ∃ f ∈ h.2, f.1 = b := by
  rw [placesL_eq] at hx
  rcases List.mem_cons.mp hx with hx | hx
  · exact absurd (prD_inj (c := "packet") (d := "port") hx).1 (hd_ne wh h6 wm hh).1
  rcases List.mem_cons.mp hx with hx | hx
  · cases hx
  rcases List.mem_append.mp hx with hx | hx
  · obtain ⟨h', hh', hx⟩ := List.mem_flatMap.mp hx
    rcases List.mem_cons.mp hx with hx | hx
    · cases hx
    · obtain ⟨f, hf, hx⟩ := List.mem_map.mp hx
      obtain ⟨e1, e2⟩ := prD_inj (a := h'.1) (b := f.1) hx
      rw [hd_eq wh h6 wm hh' hh e1] at hf
      exact ⟨f, hf, e2⟩
  · obtain ⟨f, hf, hx⟩ := List.mem_map.mp hx
    exact absurd (prD_inj (a := "meta") (b := f.1) hx).1.symm (hd_ne wh h6 wm hh).2
theorem fld_ref {h : Hd} (hh : h ∈ p.hs) {f : Fl} (hf : f ∈ h.2) : (h.1, f.1, f.2) ∈ refsOf p.hs p.m := hrefs_refs (List.mem_cons_of_mem _ (List.mem_flatMap.mpr ⟨h, hh, List.mem_map.mpr ⟨f, hf, rfl⟩⟩))
theorem zeros_at {h : Hd} (hh : h ∈ p.hs) : ∀ f ∈ h.2, (placesL p.hs p.m)[fix p.hs p.m (prD h.1 f.1)]? = some (prD h.1 f.1) := fun f hf =>
  (loc_ref wh h6 wm (fld_ref wh h6 wm hh hf)).fd.at_
theorem drop_ref {o n : Str} {w : Nat} (hr : (o, n, w) ∈ (refsOf p.hs p.m).drop 1) : (o, n, w) ∈ refsOf p.hs p.m ∧ (o, n) ≠ portK ∧ p.W o n = w := by
  have h1 := List.mem_of_mem_drop hr
  refine ⟨h1, ?_, (loc_ref wh h6 wm h1).w⟩
  have : (refsOf p.hs p.m).drop 1 = (p.hs.flatMap fun h => h.2.map fun f => (h.1, f.1, f.2)) ++ p.m.map fun f => (Str.ofString "meta", f.1, f.2) := rfl
  rw [this] at hr
  rcases List.mem_append.mp hr with hr | hr
  · obtain ⟨h, hh, hr⟩ := List.mem_flatMap.mp hr
    obtain ⟨f, hf, e⟩ := List.mem_map.mp hr
    intro z
    have : h.1 = o := (Prod.mk.inj e).1
    exact (hd_ne wh h6 wm hh).1 (this.trans (Prod.mk.inj z).1)
  · obtain ⟨f, hf, e⟩ := List.mem_map.mp hr
    intro z
    exact pm_ne ((Prod.mk.inj e).1.trans (Prod.mk.inj z).1).symm
theorem out_at : (placesL p.hs p.m)[1]? = some .none := by
  rw [placesL_eq]
  rfl
/-- a list of zeros behind a valid cell -/
theorem zeros_perf {h : Hd} (hh : h ∈ p.hs) (port : Nat) (s s1 s2 : Ms) (v : Nat) (e1 : s1.vs = s2.vs) (e2 : s1.out = s2.out) (e3 : s2.F = zeroF s1.F h.1) (e4 : s1.F = s.F) (e5 : s.out = s1.out) (e6 : (if h.1 ∈ s1.vs then 1 else 0) = v) (e7 : ∀ x, x ≠ h.1 → (x ∈ s.vs ↔ x ∈ s1.vs)) :
    setAll (cellsG p port s) ((fix p.hs p.m (.str h.1), v) :: zerosOf p h.1) = cellsG p port s2 := by
  have nd := pl_nodup wh h6 wm
  show setAll ((cellsG p port s).set (fix p.hs p.m (.str h.1)) v) (zerosOf p h.1) = _
  have st : (cellsG p port s).set (fix p.hs p.m (.str h.1)) v = cellsG p port s1 := by
    refine set_map nd (loc_valid wh h6 hh).fd.at_ (by rw [pvG_str]; exact e6) fun x hx hne => ?_
    rcases places_cases hx with rfl | ⟨y, rfl⟩ | ⟨o, n, rfl⟩
    · rw [pvG_non, pvG_non, e5]
    · rw [pvG_str, pvG_str]
      have := e7 y fun z => hne (congrArg PyData.str z)
      by_cases hy : y ∈ s.vs
      · rw [if_pos hy, if_pos (this.mp hy)]
      · rw [if_neg hy, if_neg fun z => hy (this.mpr z)]
    · rw [pvG_pr, pvG_pr, e4]
  rw [st]
  unfold zerosOf
  rw [flsOf_mem wh h6 wm hh]
  refine foldZ nd h.1 h.2 _ _ (zeros_at wh h6 wm hh) (fun f hf => ?_) fun x hx hne => ?_
  · rw [pvG_pr, e3, rdF_zero _ _ _ _ _ (hd_ne wh h6 wm hh).1, if_pos rfl]
  · rcases places_cases hx with rfl | ⟨y, rfl⟩ | ⟨o, n, rfl⟩
    · rw [pvG_non, pvG_non, e2]
    · rw [pvG_str, pvG_str, e1]
    · rw [pvG_pr, pvG_pr, e3, rdF_zero _ _ _ _ _ (hd_ne wh h6 wm hh).1]
      by_cases e : o = h.1
      · subst e
        obtain ⟨f, hf, rfl⟩ := place_field wh h6 wm hh hx
        exact absurd rfl (hne f hf)
      · rw [if_neg e]
theorem chg_perf {ps : List Fl} {o : Op} (ok : OpOk p.hs (refsOf p.hs p.m) ps o) (port : Nat) (A : Str → Int) (s : Ms) (nd : s.vs.Nodup) : setAll (cellsG p port s) (chg p port A s o) = cellsG p port (perf port p.W A s o) := by
  have ndp := pl_nodup wh h6 wm
  have outset : ∀ v : Option Nat, (cellsG p port s).set 1 (v.getD 8) = cellsG p port { s with out := v } := by
    intro v
    refine set_map ndp (out_at wh h6 wm) rfl fun x hx hne => ?_
    rcases places_cases hx with rfl | ⟨y, rfl⟩ | ⟨a, b, rfl⟩
    · exact absurd rfl hne
    · rfl
    · rfl
  cases o with
  | set o n e =>
    obtain ⟨⟨w, hw⟩, _⟩ := ok
    obtain ⟨hr, hp, hW⟩ := drop_ref wh h6 wm hw
    by_cases c : o = Str.ofString "meta" ∨ o ∈ s.vs
    · rw [perf_setT c]
      rw [chg_setT c]
      refine set_map ndp (loc_ref wh h6 wm hr).fd.at_ ?_ fun x hx hne => ?_
      · rw [pvG_pr, rdF_put _ _ _ _ _ _ _ hp, if_pos rfl]
      · rcases places_cases hx with rfl | ⟨y, rfl⟩ | ⟨a, b, rfl⟩
        · rfl
        · rfl
        · rw [pvG_pr, pvG_pr, rdF_put _ _ _ _ _ _ _ hp, if_neg fun z => hne (by obtain ⟨z1, z2⟩ := Prod.mk.inj z; rw [z1, z2])]
    · rw [perf_setF c, chg_setF c]
      rfl
  | drp => exact outset none
  | snd e => exact outset _
  | add h =>
    obtain ⟨x, hx, rfl⟩ := ok
    by_cases c : x.1 ∈ s.vs
    · rw [perf_addT c, chg_addT c]
      rfl
    · rw [perf_addF c, chg_addF c]
      refine zeros_perf wh h6 wm hx port s { s with vs := s.vs ++ [x.1] } _ 1 rfl rfl rfl rfl rfl (if_pos (List.mem_append_right _ List.mem_cons_self)) fun y hy => ⟨fun z => List.mem_append_left _ z, fun z => ?_⟩
      rcases List.mem_append.mp z with z | z
      · exact z
      · exact absurd (List.mem_singleton.mp z) hy
  | rem h =>
    obtain ⟨x, hx, rfl⟩ := ok
    exact zeros_perf wh h6 wm hx port s { s with vs := s.vs.erase x.1 } _ 0 rfl rfl rfl rfl rfl (if_neg fun z => (List.Nodup.mem_erase_iff nd).mp z |>.1 rfl) fun y hy => (List.mem_erase_of_ne hy).symm
end
theorem many_le {p : Pd} (wh : WfH p.hs) (h6 : p.hs.length ≤ 6) (wm : WfM p.m) : manyC p ≤ 1000 := by
  have key : ∀ i, i ≤ p.hs.length → posOf p.hs i ≤ 2 + 9 * i := by
    intro i
    induction i with
    | zero => intro _; exact Nat.le_refl _
    | succ k ih =>
      intro hk
      have e := List.getElem?_eq_getElem (by omega : k < p.hs.length)
      have := ih (by omega)
      have w := (wh k _ e).2.2.1
      rw [posOf_succ e]
      omega
  have := key _ (Nat.le_refl _)
  have := wm.1
  unfold manyC
  omega
end Pk
set_option Elab.async false
set_option linter.all false
set_option maxRecDepth 100000
set_option maxHeartbeats 4000000
namespace Pk
open PySem PySem.Spec PyProof.Rows L2 SX GxR Tk
abbrev sHeaderCells : Stmt := topS 22
abbrev NHc : List Str := ["program", "header", "name", "_"]
theorem scHeaderCells : FnScope NHc ["program", "header"] (defScope sHeaderCells) := ⟨rfl, rfl, rfl, by decide +kernel, rfl, by decide +kernel, by decide +kernel⟩
section
variable {P : Program} {w : World} {K : PySem.W.Frag} {mg : Str → Option Value} {base : Heap}
def spHc (K : PySem.W.Frag) : Sp := fun vs H Q _ => ∃ (v : V) (G : Hp) (nm : Str) (hs : List Hd) (m : List Fl) (sts : List Sa) (acs : List Ac) (tbs : List Tb) (ct : Ct) (em : List Str) (i : Nat) (h : Hd), vs = [v, .str h.1] ∧ Same G H ∧ Dp K G v (.tuple (pgL nm hs m sts acs tbs ct em)) ∧ WfH hs ∧ hs.length ≤ 6 ∧ WfM m ∧ hs[i]? = some h ∧
  ∀ (H' : Hp) (p : Addr), Same H H' → H p = none → H' p = some (.lst (((List.range h.2.length).map fun j => ((posOf hs i + 1 + j : Nat) : Int)).map V.int)) → Q (.ref p) H'
theorem ok_headerCells {f : Addr} {fd : FuncData} {k : Nat} (F : Fun K "header_cells" "header_cells" sHeaderCells f fd) (D1 : Df P w K mg base CX0 2 "fields_of" ["program", "owner"] (spFieldsOf K)) (D2 : Df P w K mg base CX0 (k + 2) "cell_of" ["program", "field"] (spIndex K)) : FnOk P w K mg base CX0 (k + 3) f fd ["program", "header"] (spHc K) := by
  obtain ⟨f1, fd1, G1, g1, k1, b1⟩ := D1.ex
  obtain ⟨f2, fd2, G2, g2, k2, b2⟩ := D2.ex
  refine F.ok scHeaderCells (fun vs H Q E h => ?_) (fun cdv A outer s H vs Q E hr h => ?_)
  · obtain ⟨v, G, nm, hs, m, sts, acs, tbs, ct, em, i, h, rfl, _⟩ := h
    rfl
  · obtain ⟨v, G, nm, hs, m, sts, acs, tbs, ct, em, i, h, rfl, sG, hD, wf, h6, wm, eh, q⟩ := h
    have nd := scHeaderCells.nd
    have hr1 : Room 2 _ := hr.mono (by omega)
    refine ⟨_, (pss_one (ps_ret (pe_lc (own := [("name", 2), ("_", 3)]) (g := gTup K 2 (gCons (gName 2) (gCons (gName 3) gNil))) (tt := tYes) rfl nd (pi_list (pe_call G1 hr1 (by rfl) g1 k1 b1 .nil pass0 (pa_cons (pv 0) (pa_cons (pv 1) pa_nil)))) (blkOk_by (N := NHc) (sc := defScope sHeaderCells) (by decide +kernel)) (fun _ _ _ _ _ => (pg_tup rfl (pgs_cons (pg_name (i := 2) nd rfl (Or.inl rfl)) (pgs_cons (pg_name (i := 3) nd rfl (Or.inl rfl)) pgs_nil)))) (fun _ _ _ _ _ => pts_nil) (fun _ _ _ _ _ => (pe_call G2 hr (by rfl) g2 k2 b2 .nil pass0 (pa_cons (pv 0) (pa_cons (pe_tup (pa_cons (pv 1) (pa_cons (pv 2) pa_nil))) pa_nil))))))), ?_⟩
    refine ⟨_, rfl, _, rfl, v, G, nm, hs, m, sts, acs, tbs, ct, em, i, h, rfl, sG, hD, wf, h6, eh, fun x hx => ?_⟩
    obtain ⟨p, xs, rfl, h1, h2⟩ := dp_lst hx
    have lx := dpAll_len h2
    rw [List.length_map] at lx
    have hi := (List.getElem?_eq_some_iff.mp eh).1
    have hwf := (wf i h eh).2
    have hsx := hd_sx wf h6 (List.mem_of_getElem? eh)
    refine ⟨p, rfl, ⟨_, sqL_sub sG h1⟩, fun D hD1 => lc_list (K := K) (a := p) (xs := xs) (fun n H2 => Same H H2 ∧ H2 D = some (.lst (((List.range n).map fun j => ((posOf hs i + 1 + j : Nat) : Int)).map V.int))) ⟨same_new hD1, upd_same⟩ (fun n H2 _ h => h.1.seq (sqL_sub sG h1)) ?_ ?_⟩
    · rintro n y' H2 hy ⟨s2, e2⟩
      obtain ⟨d', ed, hd⟩ := dpAll_val h2 hy
      rw [List.getElem?_map] at ed
      obtain ⟨c, ec, ed'⟩ := Option.map_eq_some_iff.mp ed
      subst ed'
      obtain ⟨pt, zs, rfl, u1, u2⟩ := dp_tup hd
      obtain ⟨z0, r, rfl, n0, u2⟩ := dpAll_cons u2
      obtain ⟨z1, r, rfl, n1, u2⟩ := dpAll_cons u2
      obtain rfl := dpAll_nil u2
      obtain rfl := dp_str n0
      have hn8 : n < 8 := by
        have := (List.getElem?_eq_some_iff.mp ec).1
        have := hwf.2.1
        omega
      refine ⟨pt, _, rfl, sqT_sub (sG.trans s2) u1, rfl, _, _, rfl, _, _, rfl, rfl, ?_⟩
      refine ⟨rfl, _, rfl, _, rfl, _, rfl, by show 2 ≤ sizeLine; decide, fun t ht => ?_⟩
      have st := same_new (o := .tup [V.str h.1, .str c.1]) ht
      have cx := fl_sx hwf.2.2.1 (Nat.le_trans hwf.2.1 (by decide)) (List.mem_of_getElem? ec)
      dsimp only [tNil]
      refine idx_call _ (sG.trans (s2.trans st)) hD wf h6 wm (Same.refl _) (.tup (SqT.of upd_same) (.cons (.str _) (.cons (.str _) .nil))) (shp_pr hsx.1 cx.1) (fd_field wf h6 eh ec) fun H3 s3 => ?_
      have e3 := (st.trans s3) _ _ e2
      refine ⟨_, e3, ?_, ?_, ?_⟩
      · rw [List.length_map, List.length_map, List.length_range]
        exact small1000 (by omega)
      · exact same_set ((s2.trans st).trans s3) hD1
      · rw [upd_same, List.range_succ, List.map_append, List.map_append]
        rfl
    · rintro H2 ⟨s2, e2⟩
      rw [lx] at e2
      exact q H2 D s2 hD1 e2
end
end Pk
set_option Elab.async false
set_option linter.all false
set_option maxRecDepth 100000
set_option maxHeartbeats 4000000
/-! compute, operands_of, compile_operand, compile_expression -/
namespace Pk
open PySem PySem.Spec PyProof.Rows L2 SX GxR Tk
abbrev sCompute : Stmt := topS 2
abbrev NCmp : List Str := ["operator", "first", "second"]
theorem scCompute : FnScope NCmp ["operator", "first", "second"] (defScope sCompute) := ⟨rfl, rfl, rfl, by decide +kernel, rfl, by decide +kernel, by decide +kernel⟩
abbrev sOpsOf : Stmt := topS 13
abbrev NOps : List Str := ["expression"]
theorem scOpsOf : FnScope NOps ["expression"] (defScope sOpsOf) := ⟨rfl, rfl, rfl, by decide +kernel, rfl, by decide +kernel, by decide +kernel⟩
abbrev sCoOd : Stmt := topS 31
abbrev NCoOd : List Str := ["program", "params", "operand"]
theorem scCoOd : FnScope NCoOd ["program", "params", "operand"] (defScope sCoOd) := ⟨rfl, rfl, rfl, by decide +kernel, rfl, by decide +kernel, by decide +kernel⟩
abbrev sCoEx : Stmt := topS 30
abbrev NCoEx : List Str := ["program", "params", "expression", "operand", "operands"]
theorem scCoEx : FnScope NCoEx ["program", "params", "expression"] (defScope sCoEx) := ⟨rfl, rfl, rfl, by decide +kernel, rfl, by decide +kernel, by decide +kernel⟩
/-- an operand of a move -/
inductive Mo
  | num (n : Int)
  | arg (i : Nat)
  | cell (c : Nat)
def moL : Mo → List PyData
  | .num n => [.str "num", .int n]
  | .arg i => [.str "arg", .int (i : Nat)]
  | .cell c => [.str "cell", .int (c : Nat)]
structure Ce where
  op : Option Str
  a : Mo
  b : Mo
def ceL (c : Ce) : List PyData := [opS c.op, .tuple (moL c.a), .tuple (moL c.b)]
def coOd (p : Pd) (ps : List Fl) : Od → Mo
  | .num n => .num n
  | .par x => .arg ((ps.map Prod.fst).findIdx fun y => decide (y = x))
  | .fld o n => .cell (fix p.hs p.m (prD o n))
def coEx (p : Pd) (ps : List Fl) : Ex → Ce
  | .one a => ⟨none, coOd p ps a, .num 0⟩
  | .two op a b => ⟨some op, coOd p ps a, coOd p ps b⟩
def opsOf : Ex → List Od
  | .one a => [a]
  | .two _ a b => [a, b]
/-- the names of the module that the actions' code reads -/
structure Ba (K : PySem.W.Frag) (mg : Str → Option Value) : Prop where
  zLen : mg "len" = none
  zList : mg "list" = none
  OPERATORS : ∃ p, mg "OPERATORS" = some (.ref p) ∧ TupK K p [.str "+", .str "-", .str "&", .str "|", .str "^"]
  NOTHING : ∃ p, mg "NOTHING" = some (.ref p) ∧ TupK K p [.str "num", .int 0]
  NO_PORT : ∃ u, mg "NO_PORT" = some u ∧ RelV (.int 8) u
  OUT_CELL : ∃ u, mg "OUT_CELL" = some u ∧ RelV (.int 1) u
theorem sign_in {op : Str} (h : op ∈ signs) : inV (.str op) [.str "+", .str "-", .str "&", .str "|", .str "^"] = true := by
  unfold signs at h
  simp only [List.map_cons, List.map_nil, List.mem_cons, List.not_mem_nil, or_false] at h
  rcases h with rfl | rfl | rfl | rfl | rfl <;> decide +kernel
theorem od_out (a : Od) : ∃ x r, odL a = .str x :: r ∧ inV (.str x) [.str "+", .str "-", .str "&", .str "|", .str "^"] = false := by
  cases a with
  | num n => exact ⟨_, _, rfl, by decide +kernel⟩
  | par x => exact ⟨_, _, rfl, by decide +kernel⟩
  | fld o n => exact ⟨_, _, rfl, by decide +kernel⟩
theorem field_ne : Str.ofString "num" ≠ Str.ofString "field" ∧ Str.ofString "num" ≠ Str.ofString "param" ∧ Str.ofString "param" ≠ Str.ofString "field" := by decide +kernel
section
variable {P : Program} {w : World} {K : PySem.W.Frag} {mg : Str → Option Value} {base : Heap}
theorem dp_nothing {G : Hp} {po : Addr} (tp : TupK K po [.str "num", .int 0]) : Dp K G (.ref po) (.tuple (moL (.num 0))) := .tup (.inr tp) (.cons (.str _) (.cons (.int _) .nil))
def spCompute : Sp := fun vs H Q _ => ∃ (op : Str) (a b : Int), vs = [.str op, .int a, .int b] ∧ Q (.int (cpt op a b)) H
theorem ok_compute {f : Addr} {fd : FuncData} {k : Nat} (F : Fun K "compute" "compute" sCompute f fd)   : FnOk P w K mg base CX0 (k + 1) f fd ["operator", "first", "second"] spCompute := by
  refine F.ok scCompute (fun vs H Q E h => ?_) (fun cdv A outer s0 H vs Q E hr h => ?_)
  · obtain ⟨op, a, b, rfl, _⟩ := h
    rfl
  · obtain ⟨op, a, b, rfl, q⟩ := h
    have nd := scCompute.nd
    refine ⟨_, (pss_cons (ps_if (pt_cmpR op_eq (pv 0) pe_str (nomark _)) (pss_one (ps_ret (pe_op op_add (pv 1) (pv 2)))) pss_nil)
      (pss_cons (ps_if (pt_cmpR op_eq (pv 0) pe_str (nomark _)) (pss_one (ps_ret (pe_op op_sub (pv 1) (pv 2)))) pss_nil)
      (pss_cons (ps_if (pt_cmpR op_eq (pv 0) pe_str (nomark _)) (pss_one (ps_ret (pe_op op_and (pv 1) (pv 2)))) pss_nil)
      (pss_cons (ps_if (pt_cmpR op_eq (pv 0) pe_str (nomark _)) (pss_one (ps_ret (pe_op op_or (pv 1) (pv 2)))) pss_nil)
      (pss_one (ps_ret (pe_op op_xor (pv 1) (pv 2)))))))), ?_⟩
    refine ⟨_, rfl, rfl, _, rfl, ?_⟩
    rw [dcStr]
    unfold cpt at q
    refine iteD (fun e => ?_) fun e => ⟨_, rfl, rfl, _, rfl, ?_⟩
    · rw [if_pos e] at q
      exact ⟨_, rfl, _, rfl, _, _, rfl, rfl, q⟩
    rw [if_neg e] at q
    rw [dcStr]
    refine iteD (fun e => ?_) fun e => ⟨_, rfl, rfl, _, rfl, ?_⟩
    · rw [if_pos e] at q
      exact ⟨_, rfl, _, rfl, _, _, rfl, rfl, q⟩
    rw [if_neg e] at q
    rw [dcStr]
    refine iteD (fun e => ?_) fun e => ⟨_, rfl, rfl, _, rfl, ?_⟩
    · rw [if_pos e] at q
      exact ⟨_, rfl, _, rfl, _, _, rfl, rfl, q⟩
    rw [if_neg e] at q
    rw [dcStr]
    refine iteD (fun e => ?_) fun e => ?_
    · rw [if_pos e] at q
      exact ⟨_, rfl, _, rfl, _, _, rfl, rfl, q⟩
    rw [if_neg e] at q
    exact ⟨_, rfl, _, rfl, _, _, rfl, rfl, q⟩
def spOpsOf (K : PySem.W.Frag) : Sp := fun vs H Q _ => ∃ (y : V) (G : Hp) (e : Ex), vs = [y] ∧ Same G H ∧ Dp K G y (.tuple (exL e)) ∧ (∀ op a b, e = .two op a b → op ∈ signs) ∧
  ∀ H' q ys, Same H H' → H q = none → H' q = some (.lst ys) → DpAll K G ys ((opsOf e).map fun a => .tuple (odL a)) → Q (.ref q) H'
theorem ok_opsOf {f : Addr} {fd : FuncData} {k : Nat} (F : Fun K "operands_of" "operands_of" sOpsOf f fd) (T : Ba K mg)  : FnOk P w K mg base CX0 (k + 1) f fd ["expression"] (spOpsOf K) := by
  obtain ⟨p_OPERATORS, g_OPERATORS, r_OPERATORS⟩ := T.OPERATORS
  refine F.ok scOpsOf (fun vs H Q E h => ?_) (fun cdv A outer s0 H vs Q E hr h => ?_)
  · obtain ⟨y, G, e, rfl, _⟩ := h
    rfl
  · obtain ⟨y, G, e, rfl, sG, hy, hs, q⟩ := h
    have nd := scOpsOf.nd
    refine ⟨_, (pss_cons (ps_if (pt_cmpR op_in_seq (pe_ix ix_tup (pv 0) pe_int (fun _ _ => rfl)) (pe_glob (v := .ref p_OPERATORS) rfl g_OPERATORS rfl) (by rfl)) (pss_one (ps_ret (pe_lst (pa_cons (pe_ix ix_tup (pv 0) pe_int (fun _ _ => rfl)) (pa_cons (pe_ix ix_tup (pv 0) pe_int (fun _ _ => rfl)) pa_nil))))) pss_nil)
      (pss_one (ps_ret (pe_lst (pa_cons (pv 0) pa_nil))))), ?_⟩
    cases e with
    | one a =>
      obtain ⟨x, r, er, ho⟩ := od_out a
      have hy0 := hy
      obtain ⟨py, ys, rfl, y1, y2⟩ := dp_tup hy
      rw [show exL (.one a) = odL a from rfl, er] at y2
      obtain ⟨v0, ys', rfl, a0, y2⟩ := dpAll_cons y2
      obtain rfl := dp_str a0
      refine ⟨_, rfl, py, _, _, _, rfl, rfl, sqT_sub sG y1, atI_nat (j := 0) rfl, p_OPERATORS, _, rfl, .inr (.inr r_OPERATORS), rfl, rfl, _, rfl, ?_⟩
      rw [ho]
      refine iteF ?_
      refine ⟨_, rfl, (by show 1 ≤ sizeLine; decide), fun l hl => ?_⟩
      exact q _ _ _ (same_new hl) hl upd_same (.cons hy0 .nil)
    | two op a b =>
      obtain ⟨py, ys, rfl, y1, y2⟩ := dp_tup hy
      obtain ⟨v0, r, rfl, a0, y2⟩ := dpAll_cons y2
      obtain ⟨v1, r, rfl, a1, y2⟩ := dpAll_cons y2
      obtain ⟨v2, r, rfl, a2, y2⟩ := dpAll_cons y2
      obtain rfl := dpAll_nil y2
      obtain rfl := dp_str a0
      refine ⟨_, rfl, py, _, _, _, rfl, rfl, sqT_sub sG y1, atI_nat (j := 0) rfl, p_OPERATORS, _, rfl, .inr (.inr r_OPERATORS), rfl, rfl, _, rfl, ?_⟩
      rw [sign_in (hs _ _ _ rfl)]
      refine iteT ?_
      refine ⟨_, rfl, py, _, _, _, rfl, rfl, sqT_sub sG y1, atI_nat (j := 1) rfl, _, rfl, py, _, _, _, rfl, rfl, sqT_sub sG y1, atI_nat (j := 2) rfl, (by show 2 ≤ sizeLine; decide), fun l hl => ?_⟩
      exact q _ _ _ (same_new hl) hl upd_same (.cons a1 (.cons a2 .nil))
def spCoOd (K : PySem.W.Frag) : Sp := fun vs H Q _ => ∃ (v y : V) (pn : Addr) (G : Hp) (p : Pd) (ps : List Fl) (a : Od), vs = [v, .ref pn, y] ∧ Same G H ∧ PgK K G v p ∧ H pn = some (.lst ((ps.map Prod.fst).map V.str)) ∧ (ps.map Prod.fst).Nodup ∧ Dp K G y (.tuple (odL a)) ∧ OdOk (refsOf p.hs p.m) ps a ∧
  ∀ H' G' x, Same H H' → Same G' H' → Gr G G' H → Dp K G' x (.tuple (moL (coOd p ps a))) → Q x H'
theorem ok_coOd {f : Addr} {fd : FuncData} (F : Fun K "compile_operand" "compile_operand" sCoOd f fd)  (D1 : Df P w K mg base CX0 4 "cell_of" ["program", "field"] (spIndex K)) : FnOk P w K mg base CX0 5 f fd ["program", "params", "operand"] (spCoOd K) := by
  obtain ⟨f1, fd1, G1, g1, k1, b1⟩ := D1.ex
  refine F.ok scCoOd (fun vs H Q E h => ?_) (fun cdv A outer s0 H vs Q E hr h => ?_)
  · obtain ⟨v, y, pn, G, p, ps, a, rfl, _⟩ := h
    rfl
  · obtain ⟨v, y, pn, G, p, ps, a, rfl, sG, hP, en, hnd, hy, ok, q⟩ := h
    have nd := scCoOd.nd
    refine ⟨_, (pss_cons (ps_if (pt_cmpR op_eq (pe_ix ix_tup (pv 2) pe_int (fun _ _ => rfl)) pe_str (nomark _)) (pss_one (ps_ret (pe_tup (pa_cons pe_str (pa_cons (pe_call G1 (hr.mono (by omega)) (by rfl) g1 k1 b1 .nil pass0 (pa_cons (pv 0) (pa_cons (pe_tup (pa_cons (pe_ix ix_tup (pv 2) pe_int (fun _ _ => rfl)) (pa_cons (pe_ix ix_tup (pv 2) pe_int (fun _ _ => rfl)) pa_nil))) pa_nil))) pa_nil))))) pss_nil)
      (pss_cons (ps_if (pt_cmpR op_eq (pe_ix ix_tup (pv 2) pe_int (fun _ _ => rfl)) pe_str (nomark _)) (pss_one (ps_ret (pe_tup (pa_cons pe_str (pa_cons (pe_bm PySem.F.plainAttrs_list PySem.F.slot_list_index PySem.F.type_list_index mt_index (pv 1) (pa_cons (pe_ix ix_tup (pv 2) pe_int (fun _ _ => rfl)) pa_nil)) pa_nil))))) pss_nil)
      (pss_one (ps_ret (pv 2))))), ?_⟩
    have hy0 := hy
    obtain ⟨py, ys, rfl, y1, y2⟩ := dp_tup hy
    cases a with
    | num n =>
      obtain ⟨v0, r, rfl, a0, y2⟩ := dpAll_cons y2
      obtain rfl := dp_str a0
      refine ⟨_, rfl, py, _, _, _, rfl, rfl, sqT_sub sG y1, atI_nat (j := 0) rfl, rfl, _, rfl, ?_⟩
      rw [dcStr]
      refine iteDF field_ne.1 ⟨_, rfl, py, _, _, _, rfl, rfl, sqT_sub sG y1, atI_nat (j := 0) rfl, rfl, _, rfl, ?_⟩
      rw [dcStr]
      refine iteDF field_ne.2.1 ⟨_, rfl, ?_⟩
      exact q _ _ _ (Same.refl _) sG (Gr.refl _ _) hy0
    | par x =>
      obtain ⟨v0, r, rfl, a0, y2⟩ := dpAll_cons y2
      obtain ⟨v1, r, rfl, a1, y2⟩ := dpAll_cons y2
      obtain rfl := dp_str a0
      obtain rfl := dp_str a1
      refine ⟨_, rfl, py, _, _, _, rfl, rfl, sqT_sub sG y1, atI_nat (j := 0) rfl, rfl, _, rfl, ?_⟩
      rw [dcStr]
      refine iteDF field_ne.2.2 ⟨_, rfl, py, _, _, _, rfl, rfl, sqT_sub sG y1, atI_nat (j := 0) rfl, rfl, _, rfl, ?_⟩
      rw [dcStr]
      refine iteDT rfl ?_
      obtain ⟨wd, hw⟩ := ok
      refine ⟨_, rfl, .inl ⟨rfl, _, SqL.of en⟩, _, rfl, py, _, _, _, rfl, rfl, sqT_sub sG y1, atI_nat (j := 1) rfl, ?_⟩
      dsimp only [tNil, tCons, tC]
      refine index_rd hnd (List.mem_map.mpr ⟨_, hw, rfl⟩) en ?_
      refine ⟨(by show 2 ≤ sizeLine; decide), fun pt hpt => ?_⟩
      obtain ⟨m1, m2, m3⟩ := tup_new (K := K) sG hpt (vs := [.str "arg", .int (((ps.map Prod.fst).findIdx fun y => decide (y = x) : Nat) : Int)]) (.cons (.str _) (.cons (.int _) .nil))
      exact q _ _ _ (same_new hpt) m1 m2 m3
    | fld o n =>
      obtain ⟨v0, r, rfl, a0, y2⟩ := dpAll_cons y2
      obtain ⟨v1, r, rfl, a1, y2⟩ := dpAll_cons y2
      obtain ⟨v2, r, rfl, a2, y2⟩ := dpAll_cons y2
      obtain rfl := dp_str a0
      obtain rfl := dp_str a1
      obtain rfl := dp_str a2
      obtain ⟨wd, hw⟩ := ok
      have hsx := refs_sx hP.wh hP.h6 hP.wm _ hw
      refine ⟨_, rfl, py, _, _, _, rfl, rfl, sqT_sub sG y1, atI_nat (j := 0) rfl, rfl, _, rfl, ?_⟩
      rw [dcStr]
      refine iteDT rfl ?_
      refine ⟨_, rfl, _, rfl, py, _, _, _, rfl, rfl, sqT_sub sG y1, atI_nat (j := 1) rfl, _, rfl, py, _, _, _, rfl, rfl, sqT_sub sG y1, atI_nat (j := 2) rfl, (by show 2 ≤ sizeLine; decide), fun t ht => ?_⟩
      have st := same_new (o := .tup [V.str o, V.str n]) ht
      dsimp only [tNil]
      refine idx_call _ (sG.trans st) hP.D hP.wh hP.h6 hP.wm (Same.refl _) (.tup (SqT.of upd_same) (.cons (.str _) (.cons (.str _) .nil))) (shp_pr hsx.1 hsx.2.1) (loc_ref hP.wh hP.h6 hP.wm hw).fd fun H3 s3 => ?_
      refine ⟨(by show 2 ≤ sizeLine; decide), fun pt hpt => ?_⟩
      obtain ⟨m1, m2, m3⟩ := tup_new (K := K) (sG.trans (st.trans s3)) hpt (vs := [.str "cell", .int (fix p.hs p.m (prD o n) : Nat)]) (.cons (.str _) (.cons (.int _) .nil))
      exact q _ _ _ ((st.trans s3).trans (same_new hpt)) m1 (m2.back (st.trans s3)) m3
def spCoEx (K : PySem.W.Frag) : Sp := fun vs H Q _ => ∃ (v y : V) (pn : Addr) (G : Hp) (p : Pd) (ps : List Fl) (e : Ex), vs = [v, .ref pn, y] ∧ Same G H ∧ PgK K G v p ∧ H pn = some (.lst ((ps.map Prod.fst).map V.str)) ∧ (ps.map Prod.fst).Nodup ∧ Dp K G y (.tuple (exL e)) ∧ ExOk (refsOf p.hs p.m) ps e ∧
  ∀ H' G' x xs, Same H H' → Same G' H' → Gr G G' H → x = .ref xs → (∃ us, SqT K G' xs us ∧ DpAll K G' us (ceL (coEx p ps e))) → Q x H'
theorem ops_ok {rs : List Rf} {ps : List Fl} {e : Ex} (h : ExOk rs ps e) : ∀ a ∈ opsOf e, OdOk rs ps a := by
  intro a ha
  cases e with
  | one b => rw [List.mem_singleton.mp ha]; exact h
  | two op b c =>
    rcases List.mem_cons.mp ha with rfl | ha
    · exact h.2.1
    · rw [List.mem_singleton.mp ha]; exact h.2.2
theorem ok_coEx {f : Addr} {fd : FuncData} (F : Fun K "compile_expression" "compile_expression" sCoEx f fd) (T : Ba K mg) (D1 : Df P w K mg base CX0 1 "operands_of" ["expression"] (spOpsOf K)) (D2 : Df P w K mg base CX0 5 "compile_operand" ["program", "params", "operand"] (spCoOd K)) : FnOk P w K mg base CX0 6 f fd ["program", "params", "expression"] (spCoEx K) := by
  obtain ⟨f1, fd1, G1, g1, k1, b1⟩ := D1.ex
  obtain ⟨f2, fd2, G2, g2, k2, b2⟩ := D2.ex
  obtain ⟨p_NOTHING, g_NOTHING, r_NOTHING⟩ := T.NOTHING
  refine F.ok scCoEx (fun vs H Q E h => ?_) (fun cdv A outer s0 H vs Q E hr h => ?_)
  · obtain ⟨v, y, pn, G, p, ps, e, rfl, _⟩ := h
    rfl
  · obtain ⟨v, y, pn, G, p, ps, e, rfl, sG, hP, en, hnd, hy, ok, q⟩ := h
    have nd := scCoEx.nd
    refine ⟨_, (pss_cons (ps_setLc (i := 4) (own := [("operand", 3)]) (g := gName 3) (tt := tYes) rfl nd rfl rfl (sw_true rfl rfl rfl (by decide +kernel)) (pi_list (pe_call G1 (hr.mono (by omega)) (by rfl) g1 k1 b1 .nil pass0 (pa_cons (pv 2) pa_nil))) (blkOk_by (own := [("operand", 3)]) (N := NCoEx) (sc := defScope sCoEx) (by decide +kernel)) (fun _ _ _ _ _ => (pg_name (i := 3) nd rfl (Or.inl rfl))) (fun _ _ _ _ _ => pts_nil) (fun _ _ _ _ _ => (pe_call G2 (hr.mono (by omega)) (by rfl) g2 k2 b2 .nil pass0 (pa_cons (pv 0) (pa_cons (pv 1) (pa_cons (pv 3) pa_nil))))))
      (pss_cons (ps_if (pt_cmpR op_eq (pe_callB call_len_seq (by rfl) T.zLen PySem.boot_len (pa_cons (pv 4) pa_nil)) pe_int (nomark _)) (pss_one (ps_ret (pe_tup (pa_cons pe_non (pa_cons (pe_ix ix_list (pv 4) pe_int (fun _ _ => rfl)) (pa_cons (pe_glob (v := .ref p_NOTHING) rfl g_NOTHING rfl) pa_nil)))))) pss_nil)
      (pss_one (ps_ret (pe_tup (pa_cons (pe_ix ix_tup (pv 2) pe_int (fun _ _ => rfl)) (pa_cons (pe_ix ix_list (pv 4) pe_int (fun _ _ => rfl)) (pa_cons (pe_ix ix_list (pv 4) pe_int (fun _ _ => rfl)) pa_nil)))))))), ?_⟩
    refine ⟨_, rfl, y, G, e, rfl, sG, hy, (fun op a b h => by subst h; exact ok.1), fun H1 po ys s1 n1 e1 dys => ?_⟩
    have lys := dpAll_len dys
    rw [List.length_map] at lys
    have hl2 : (opsOf e).length ≤ 2 := by
      cases e with
      | one a => exact Nat.le_succ 1
      | two op a b => exact Nat.le_refl 2
    have sG1 := sG.trans s1
    refine ⟨po, rfl, ⟨_, SqL.of e1⟩, fun D hD => lc_list (K := K) (a := po) (xs := ys) (fun j H2 => ∃ (GC : Hp) (xs : List V), Same H1 H2 ∧ Same GC H2 ∧ Gr G GC H ∧ GC D = none ∧ H2 D = some (.lst xs) ∧ DpAll K GC xs (((opsOf e).take j).map fun a => .tuple (moL (coOd p ps a)))) ⟨G, [], same_new hD, sG1.trans (same_new hD), Gr.refl _ _, sG1.free hD, upd_same, .nil⟩ (fun j H2 _ h => by
      obtain ⟨GC, xs, h1, _⟩ := h
      exact SqL.of (h1 _ _ e1)) ?_ ?_⟩
    · rintro j z H2 hz ⟨GC, xs, s2, sGC, grC, gD, eD, dxs⟩
      obtain ⟨d, ed, hd⟩ := dpAll_val dys hz
      rw [List.getElem?_map] at ed
      obtain ⟨a, ea, rfl⟩ := Option.map_eq_some_iff.mp ed
      have hjl := (List.getElem?_eq_some_iff.mp ea).1
      refine ⟨rfl, _, rfl, _, rfl, _, rfl, ?_⟩
      dsimp only [tNil]
      refine ⟨v, z, pn, GC, p, ps, a, rfl, sGC, hP.sub grC.sub, s2 _ _ (s1 _ _ en), hnd, dp_sub grC.sub hd, ops_ok ok a (List.mem_of_getElem? ea), fun H3 G3' x s3 sG3 gr3 dx => ?_⟩
      have eD3 := s3 _ _ eD
      have gD3 : G3' D = none := gr3.free gD (by rw [eD]; exact fun z => nomatch z)
      have lx := dpAll_len dxs
      rw [List.length_map, List.length_take] at lx
      refine ⟨_, eD3, small1000 (by omega), G3', _, same_set (s2.trans s3) hD, same_set sG3 gD3, grC.then gr3 (s1.trans s2), gD3, upd_same, ?_⟩
      rw [List.take_add_one, ea, List.map_append]
      exact dpAll_app (dpAll_sub gr3.sub dxs) (.cons dx .nil)
    rintro H2 ⟨GC, xs, s2, sGC, grC, gD, eD, dxs⟩
    rw [lys, List.take_length] at dxs
    have s12 := s1.trans s2
    have lx := dpAll_len dxs
    rw [List.length_map] at lx
    refine ⟨_, rfl, D, _, rfl, .inl (SqL.of eD), rfl, _, rfl, ?_⟩
    rw [dcInt]
    cases e with
    | one a =>
      obtain ⟨x0, r, rfl, d0, dxs⟩ := dpAll_cons dxs
      obtain rfl := dpAll_nil dxs
      refine iteDT rfl ?_
      refine ⟨_, rfl, D, _, _, _, rfl, rfl, SqL.of eD, atI_nat (j := 0) rfl, (by show 3 ≤ sizeLine; decide), fun pt hpt => ?_⟩
      obtain ⟨m1, m2, m3⟩ := tup_new (K := K) sGC hpt (vs := [.non, x0, .ref p_NOTHING]) (ds := ceL (coEx p ps (.one a))) (.cons .non (.cons d0 (.cons (dp_nothing r_NOTHING) .nil)))
      obtain ⟨_, us, ept, u1, u2⟩ := dp_tup m3
      cases ept
      exact q _ _ _ pt (s12.trans (same_new hpt)) m1 (grC.then m2 s12) rfl ⟨us, u1, u2⟩
    | two op a b =>
      obtain ⟨x0, r, rfl, d0, dxs⟩ := dpAll_cons dxs
      obtain ⟨x1, r, rfl, d1, dxs⟩ := dpAll_cons dxs
      obtain rfl := dpAll_nil dxs
      refine iteDF (by show ¬ (((2 : Nat) : Int) = 1); decide) ?_
      obtain ⟨py, zs, rfl, y1, y2⟩ := dp_tup hy
      obtain ⟨v0, r, rfl, a0, y2⟩ := dpAll_cons y2
      obtain rfl := dp_str a0
      refine ⟨_, rfl, py, _, _, _, rfl, rfl, sqT_sub (sG.trans s12) y1, atI_nat (j := 0) rfl, _, rfl, D, _, _, _, rfl, rfl, SqL.of eD, atI_nat (j := 0) rfl, _, rfl, D, _, _, _, rfl, rfl, SqL.of eD, atI_nat (j := 1) rfl, (by show 3 ≤ sizeLine; decide), fun pt hpt => ?_⟩
      obtain ⟨m1, m2, m3⟩ := tup_new (K := K) sGC hpt (vs := [.str op, x0, x1]) (ds := ceL (coEx p ps (.two op a b))) (.cons (.str _) (.cons d0 (.cons d1 .nil)))
      obtain ⟨_, us, ept, u1, u2⟩ := dp_tup m3
      cases ept
      exact q _ _ _ pt (s12.trans (same_new hpt)) m1 (grC.then m2 s12) rfl ⟨us, u1, u2⟩
end
end Pk
set_option Elab.async false
set_option linter.all false
set_option maxRecDepth 100000
set_option maxHeartbeats 4000000
/-! compile_set, compile_operation, compile_action -/
namespace Pk
open PySem PySem.Spec PyProof.Rows L2 SX GxR Tk
abbrev sCoSet : Stmt := topS 29
abbrev NCoSet : List Str := ["program", "params", "operation", "_", "field", "expression", "valid", "rest"]
theorem scCoSet : FnScope NCoSet ["program", "params", "operation"] (defScope sCoSet) := ⟨rfl, rfl, rfl, by decide +kernel, rfl, by decide +kernel, by decide +kernel⟩
abbrev sCoOp : Stmt := topS 28
abbrev NCoOp : List Str := ["program", "params", "operation", "word", "header"]
theorem scCoOp : FnScope NCoOp ["program", "params", "operation"] (defScope sCoOp) := ⟨rfl, rfl, rfl, by decide +kernel, rfl, by decide +kernel, by decide +kernel⟩
abbrev sCoAct : Stmt := topS 27
abbrev NCoAct : List Str := ["program", "action", "_", "params", "operations", "name", "names", "operation"]
theorem scCoAct : FnScope NCoAct ["program", "action"] (defScope sCoAct) := ⟨rfl, rfl, rfl, by decide +kernel, rfl, by decide +kernel, by decide +kernel⟩
theorem iteDn {p A B : Prop} [Decidable p] (h1 : ¬ p → A) (h2 : p → B) : if (!decide p) = true then A else B := by
  by_cases h : p
  · rw [decide_eq_true h]
    exact h2 h
  · rw [decide_eq_false h]
    exact h1 h
inductive Mv
  | put (cell w : Nat) (valid : Option Nat) (c : Ce)
  | send (c : Ce)
  | hdr (word : Str) (valid : Nat) (cells : List Nat)
def natsD (l : List Nat) : PyData := .list (l.map fun n => PyData.int (n : Nat))
def mvL : Mv → List PyData
  | .put cell w va c => .str "put" :: .int (cell : Nat) :: .int (w : Nat) :: opN va :: ceL c
  | .send c => .str "send" :: ceL c
  | .hdr word va cs => [.str word, .int (va : Nat), natsD cs]
def hcOf (p : Pd) (h : Str) : List Nat := (flsOf p h).map fun f => fix p.hs p.m (prD h f.1)
def coOp (p : Pd) (ps : List Fl) : Op → Mv
  | .set o n e => .put (fix p.hs p.m (prD o n)) (p.W o n) (if o = Str.ofString "meta" then none else some (fix p.hs p.m (.str o))) (coEx p ps e)
  | .drp => .send ⟨none, .num 8, .num 0⟩
  | .add h => .hdr "add" (fix p.hs p.m (.str h)) (hcOf p h)
  | .rem h => .hdr "remove" (fix p.hs p.m (.str h)) (hcOf p h)
  | .snd e => .send (coEx p ps e)
theorem hc_eq {p : Pd} (wh : WfH p.hs) (h6 : p.hs.length ≤ 6) (wm : WfM p.m) {i : Nat} {h : Hd} (eh : p.hs[i]? = some h) : (((List.range h.2.length).map fun j => ((posOf p.hs i + 1 + j : Nat) : Int)).map V.int) = natsV (hcOf p h.1) := by
  unfold hcOf natsV
  rw [flsOf_mem wh h6 wm (List.mem_of_getElem? eh)]
  refine List.ext_getElem ?_ fun j h1 h2 => ?_
  · simp
  · have hj : j < h.2.length := by simpa using h2
    have e := fix_fd (fd_field (m := p.m) wh h6 eh (List.getElem?_eq_getElem hj))
    simp only [List.getElem_map, List.getElem_range]
    show _ = V.int (fix p.hs p.m (.tuple [.str h.1, .str (h.2[j]).1]) : Nat)
    rw [e]
theorem dp_nats {K : PySem.W.Frag} {G : Hp} {q : Addr} {l : List Nat} (e : G q = some (.lst (natsV l))) : Dp K G (.ref q) (natsD l) := by
  refine .lst (SqL.of e) ?_
  unfold natsV
  clear e
  induction l with
  | nil => exact .nil
  | cons a r ih => exact .cons (.int _) ih
theorem op_nes : Str.ofString "set" ≠ Str.ofString "send" ∧ Str.ofString "send" ≠ Str.ofString "set" ∧ Str.ofString "drop" ≠ Str.ofString "set" ∧ Str.ofString "drop" ≠ Str.ofString "send" ∧ Str.ofString "add" ≠ Str.ofString "set" ∧ Str.ofString "add" ≠ Str.ofString "send" ∧ Str.ofString "add" ≠ Str.ofString "drop" ∧ Str.ofString "remove" ≠ Str.ofString "set" ∧ Str.ofString "remove" ≠ Str.ofString "send" ∧ Str.ofString "remove" ≠ Str.ofString "drop" := by decide +kernel
section
variable {P : Program} {w : World} {K : PySem.W.Frag} {mg : Str → Option Value} {base : Heap}
def spCoOp (K : PySem.W.Frag) : Sp := fun vs H Q _ => ∃ (v y : V) (pn : Addr) (G : Hp) (p : Pd) (ps : List Fl) (o : Op), vs = [v, .ref pn, y] ∧ Same G H ∧ PgK K G v p ∧ H pn = some (.lst ((ps.map Prod.fst).map V.str)) ∧ (ps.map Prod.fst).Nodup ∧ Dp K G y (.tuple (opL o)) ∧ OpOk p.hs (refsOf p.hs p.m) ps o ∧
  ∀ H' G' x, Same H H' → Same G' H' → Gr G G' H → Dp K G' x (.tuple (mvL (coOp p ps o))) → Q x H'
def spCoSet (K : PySem.W.Frag) : Sp := fun vs H Q _ => ∃ (v y : V) (pn : Addr) (G : Hp) (p : Pd) (ps : List Fl) (o n : Str) (e : Ex), vs = [v, .ref pn, y] ∧ Same G H ∧ PgK K G v p ∧ H pn = some (.lst ((ps.map Prod.fst).map V.str)) ∧ (ps.map Prod.fst).Nodup ∧ Dp K G y (.tuple (opL (.set o n e))) ∧ OpOk p.hs (refsOf p.hs p.m) ps (.set o n e) ∧
  ∀ H' G' x, Same H H' → Same G' H' → Gr G G' H → Dp K G' x (.tuple (mvL (coOp p ps (.set o n e)))) → Q x H'
theorem ok_coSet {f : Addr} {fd : FuncData} (F : Fun K "compile_set" "compile_set" sCoSet f fd)  (D1 : Df P w K mg base CX0 4 "valid_cell" ["program", "header"] (spIndex K)) (D2 : Df P w K mg base CX0 6 "compile_expression" ["program", "params", "expression"] (spCoEx K)) (D3 : Df P w K mg base CX0 4 "cell_of" ["program", "field"] (spIndex K)) (D4 : Df P w K mg base CX0 4 "width_of" ["program", "field"] (spWid K)) : FnOk P w K mg base CX0 7 f fd ["program", "params", "operation"] (spCoSet K) := by
  obtain ⟨f1, fd1, G1, g1, k1, b1⟩ := D1.ex
  obtain ⟨f2, fd2, G2, g2, k2, b2⟩ := D2.ex
  obtain ⟨f3, fd3, G3, g3, k3, b3⟩ := D3.ex
  obtain ⟨f4, fd4, G4, g4, k4, b4⟩ := D4.ex
  refine F.ok scCoSet (fun vs H Q E h => ?_) (fun cdv A outer s0 H vs Q E hr h => ?_)
  · obtain ⟨v, y, pn, G, p, ps, o, n, e, rfl, _⟩ := h
    rfl
  · obtain ⟨v, y, pn, G, p, ps, o, n, e, rfl, sG, hP, en, hnd, hy, ok, q⟩ := h
    have nd := scCoSet.nd
    refine ⟨_, (pss_cons (ps_asg (pv 2) (pg_tup (by rfl) (pgs_cons (pg_name (i := 3) nd rfl (.inl rfl)) (pgs_cons (pg_name (i := 4) nd rfl (.inl rfl)) (pgs_cons (pg_name (i := 5) nd rfl (.inl rfl)) pgs_nil)))))
      (pss_cons (ps_set (i := 6) nd rfl (.inl rfl) pe_non)
      (C8.pss_cut (ps_if (pt_cmpR op_ne (pe_ix ix_tup (pv 4) pe_int (fun _ _ => rfl)) pe_str (nomark _)) (pss_one (ps_set (i := 6) nd rfl (.inl rfl) (pe_call G1 (hr.mono (by omega)) (by rfl) g1 k1 b1 .nil pass0 (pa_cons (pv 0) (pa_cons (pe_ix ix_tup (pv 4) pe_int (fun _ _ => rfl)) pa_nil))))) pss_nil)
      (pss_cons (ps_set (i := 7) nd rfl (.inl rfl) (pe_call G2 (hr.mono (by omega)) (by rfl) g2 k2 b2 .nil pass0 (pa_cons (pv 0) (pa_cons (pv 1) (pa_cons (pv 5) pa_nil)))))
      (pss_one (ps_ret (pe_tup (pa_cons pe_str (pa_cons (pe_call G3 (hr.mono (by omega)) (by rfl) g3 k3 b3 .nil pass0 (pa_cons (pv 0) (pa_cons (pv 4) pa_nil))) (pa_cons (pe_call G4 (hr.mono (by omega)) (by rfl) g4 k4 b4 .nil pass0 (pa_cons (pv 0) (pa_cons (pv 4) pa_nil))) (pa_cons (pv 6) (StX.pa_star (pv 7) pa_nil)))))))))))), ?_⟩
    obtain ⟨⟨wd, hw⟩, oke⟩ := ok
    obtain ⟨hr', hpk, hW⟩ := drop_ref hP.wh hP.h6 hP.wm hw
    have hsx := refs_sx hP.wh hP.h6 hP.wm _ hr'
    have hloc := loc_ref hP.wh hP.h6 hP.wm hr'
    obtain ⟨py, ys, rfl, y1, y2⟩ := dp_tup hy
    obtain ⟨v0, r, rfl, a0, y2⟩ := dpAll_cons y2
    obtain ⟨v1, r, rfl, a1, y2⟩ := dpAll_cons y2
    obtain ⟨v2, r, rfl, a2, y2⟩ := dpAll_cons y2
    obtain rfl := dpAll_nil y2
    obtain rfl := dp_str a0
    obtain ⟨pf, rfl, pf1⟩ := dp_prD a1
    refine ⟨_, rfl, py, _, rfl, sqT_sub sG y1, rfl, _, _, rfl, _, _, rfl, _, _, rfl, rfl, ?_⟩
    refine ⟨fun σ H2 => Same H H2 ∧ ∃ y6, σ = [some v, some (.ref pn), some (.ref py), some (.str "set"), some (.ref pf), some v2, some y6, none] ∧ Dp K G y6 (opN (if o = Str.ofString "meta" then none else some (fix p.hs p.m (.str o)))), ?_, ?_⟩
    · refine ⟨_, rfl, pf, _, _, _, rfl, rfl, sqT_sub sG pf1, atI_nat (j := 0) rfl, rfl, _, rfl, ?_⟩
      rw [dcStr]
      refine iteDn (fun hm => ?_) fun hm => ?_
      · have hh : ∃ h ∈ p.hs, h.1 = o := by
          rcases ref_cases hr' with z | ⟨i, j, h, f, ei, ej, z⟩ | ⟨j, f, ej, z⟩
          · exact absurd (show (o, n) = portK by cases z; rfl) hpk
          · exact ⟨h, List.mem_of_getElem? ei, (Prod.mk.inj z).1.symm⟩
          · exact absurd (Prod.mk.inj z).1 hm
        obtain ⟨h, hh, rfl⟩ := hh
        refine ⟨_, rfl, _, rfl, pf, _, _, _, rfl, rfl, sqT_sub sG pf1, atI_nat (j := 0) rfl, ?_⟩
        dsimp only [tNil]
        refine idx_call _ sG hP.D hP.wh hP.h6 hP.wm (Same.refl _) (.str _) (shp_str (hd_sx hP.wh hP.h6 hh).1) (loc_valid hP.wh hP.h6 hh).fd fun H3 s3 => ?_
        refine ⟨s3, .int (fix p.hs p.m (.str h.1) : Nat), rfl, ?_⟩
        rw [if_neg hm]
        exact .int _
      · refine ⟨Same.refl _, .non, rfl, ?_⟩
        rw [if_pos hm]
        exact .non
    rintro σ H2 ⟨s2, y6, rfl, d6⟩
    have sG2 := sG.trans s2
    refine ⟨_, rfl, _, rfl, _, rfl, ?_⟩
    dsimp only [tNil]
    refine ⟨v, v2, pn, G, p, ps, e, rfl, sG2, hP, s2 _ _ en, hnd, a2, oke, fun H3 G3 x xs s3 sG3 gr3 ex ⟨us, u1, u2⟩ => ?_⟩
    subst ex
    have sG23 := sG2.trans s3
    refine ⟨_, rfl, _, rfl, ?_⟩
    dsimp only [tNil]
    refine idx_call _ sG23 hP.D hP.wh hP.h6 hP.wm sG23 a1 (shp_pr hsx.1 hsx.2.1) hloc.fd fun H4 s4 => ?_
    have sG4 := sG23.trans s4
    refine ⟨_, rfl, _, rfl, ?_⟩
    dsimp only [tNil]
    refine ⟨v, .ref pf, G, G, p.nm, p.hs, p.m, p.sts, p.acs, p.tbs, p.ct, p.em, (o, n, wd), rfl, sG4, hP.D, hP.wh, hP.h6, hP.wm, sG4, a1, hr', ?_⟩
    have lu := dpAll_len u2
    refine ⟨_, rfl, _, rfl, xs, us, rfl, .inl (sqT_sub (sG3.trans s4) u1), ?_⟩
    refine ⟨?_, fun pt hpt => ?_⟩
    · show (us ++ []).length + 4 ≤ _
      rw [List.append_nil, lu]
      show 3 + 4 ≤ sizeLine
      decide
    obtain ⟨m1, m2, m3⟩ := tup_new (K := K) (sG3.trans s4) hpt (vs := .str "put" :: .int (fix p.hs p.m (prD o n) : Nat) :: .int (wd : Nat) :: y6 :: (us ++ [])) (ds := mvL (coOp p ps (.set o n e))) (by
      rw [List.append_nil]
      show DpAll K G3 _ (.str "put" :: .int (fix p.hs p.m (prD o n) : Nat) :: .int (p.W o n : Nat) :: opN _ :: ceL (coEx p ps e))
      rw [hW]
      exact .cons (.str _) (.cons (.int _) (.cons (.int _) (.cons (dp_sub gr3.sub d6) u2))))
    exact q _ _ _ ((s2.trans (s3.trans s4)).trans (same_new hpt)) m1 ((gr3.back s2).then m2 (s2.trans (s3.trans s4))) m3
theorem ok_coOp {f : Addr} {fd : FuncData} (F : Fun K "compile_operation" "compile_operation" sCoOp f fd) (T : Ba K mg) (D1 : Df P w K mg base CX0 7 "compile_set" ["program", "params", "operation"] (spCoSet K)) (D2 : Df P w K mg base CX0 6 "compile_expression" ["program", "params", "expression"] (spCoEx K)) (D3 : Df P w K mg base CX0 4 "valid_cell" ["program", "header"] (spIndex K)) (D4 : Df P w K mg base CX0 5 "header_cells" ["program", "header"] (spHc K)) : FnOk P w K mg base CX0 8 f fd ["program", "params", "operation"] (spCoOp K) := by
  obtain ⟨f1, fd1, G1, g1, k1, b1⟩ := D1.ex
  obtain ⟨f2, fd2, G2, g2, k2, b2⟩ := D2.ex
  obtain ⟨f3, fd3, G3, g3, k3, b3⟩ := D3.ex
  obtain ⟨f4, fd4, G4, g4, k4, b4⟩ := D4.ex
  obtain ⟨p_NOTHING, g_NOTHING, r_NOTHING⟩ := T.NOTHING
  obtain ⟨u_NO_PORT, g_NO_PORT, r_NO_PORT⟩ := T.NO_PORT
  refine F.ok scCoOp (fun vs H Q E h => ?_) (fun cdv A outer s0 H vs Q E hr h => ?_)
  · obtain ⟨v, y, pn, G, p, ps, o, rfl, _⟩ := h
    rfl
  · obtain ⟨v, y, pn, G, p, ps, o, rfl, sG, hP, en, hnd, hy, ok, q⟩ := h
    have nd := scCoOp.nd
    refine ⟨_, (pss_cons (ps_set (i := 3) nd rfl (.inl rfl) (pe_ix ix_tup (pv 2) pe_int (fun _ _ => rfl)))
      (pss_cons (ps_if (pt_cmpR op_eq (pv 3) pe_str (nomark _)) (pss_one (ps_ret (pe_call G1 (hr.mono (by omega)) (by rfl) g1 k1 b1 .nil pass0 (pa_cons (pv 0) (pa_cons (pv 1) (pa_cons (pv 2) pa_nil)))))) pss_nil)
      (pss_cons (ps_if (pt_cmpR op_eq (pv 3) pe_str (nomark _)) (pss_one (ps_ret (pe_tup (pa_cons pe_str (StX.pa_star (pe_call G2 (hr.mono (by omega)) (by rfl) g2 k2 b2 .nil pass0 (pa_cons (pv 0) (pa_cons (pv 1) (pa_cons (pe_ix ix_tup (pv 2) pe_int (fun _ _ => rfl)) pa_nil)))) pa_nil))))) pss_nil)
      (pss_cons (ps_if (pt_cmpR op_eq (pv 3) pe_str (nomark _)) (pss_one (ps_ret (pe_tup (pa_cons pe_str (pa_cons pe_non (pa_cons (pe_tup (pa_cons pe_str (pa_cons (pe_glob rfl g_NO_PORT r_NO_PORT) pa_nil))) (pa_cons (pe_glob (v := .ref p_NOTHING) rfl g_NOTHING rfl) pa_nil))))))) pss_nil)
      (pss_cons (ps_set (i := 4) nd rfl (.inl rfl) (pe_ix ix_tup (pv 2) pe_int (fun _ _ => rfl)))
      (pss_one (ps_ret (pe_tup (pa_cons (pv 3) (pa_cons (pe_call G3 (hr.mono (by omega)) (by rfl) g3 k3 b3 .nil pass0 (pa_cons (pv 0) (pa_cons (pv 4) pa_nil))) (pa_cons (pe_call G4 (hr.mono (by omega)) (by rfl) g4 k4 b4 .nil pass0 (pa_cons (pv 0) (pa_cons (pv 4) pa_nil))) pa_nil))))))))))), ?_⟩
    have hy0 := hy
    obtain ⟨py, ys, rfl, y1, y2⟩ := dp_tup hy
    have hc : (∃ word h, opL o = [.str word, .str h] ∧ coOp p ps o = .hdr word (fix p.hs p.m (.str h)) (hcOf p h) ∧ (∃ x ∈ p.hs, x.1 = h) ∧ word ≠ Str.ofString "set" ∧ word ≠ Str.ofString "send" ∧ word ≠ Str.ofString "drop") ∨ (∃ o' n e, o = .set o' n e) ∨ o = .drp ∨ ∃ e, o = .snd e := by
      cases o with
      | set o n e => exact .inr (.inl ⟨_, _, _, rfl⟩)
      | drp => exact .inr (.inr (.inl rfl))
      | add h => exact .inl ⟨"add", h, rfl, rfl, ok, op_nes.2.2.2.2.1, op_nes.2.2.2.2.2.1, op_nes.2.2.2.2.2.2.1⟩
      | rem h => exact .inl ⟨"remove", h, rfl, rfl, ok, op_nes.2.2.2.2.2.2.2.1, op_nes.2.2.2.2.2.2.2.2.1, op_nes.2.2.2.2.2.2.2.2.2⟩
      | snd e => exact .inr (.inr (.inr ⟨_, rfl⟩))
    rcases hc with ⟨word, h, eo, ec, hx, n1, n2, n3⟩ | ⟨o', n, e, rfl⟩ | rfl | ⟨e, rfl⟩
    · obtain ⟨x, hx, rfl⟩ := hx
      rw [eo] at y2
      obtain ⟨v0, r, rfl, a0, y2⟩ := dpAll_cons y2
      obtain ⟨v1, r, rfl, a1, y2⟩ := dpAll_cons y2
      obtain rfl := dpAll_nil y2
      obtain rfl := dp_str a0
      obtain rfl := dp_str a1
      obtain ⟨i, ei⟩ := List.mem_iff_getElem?.mp hx
      refine ⟨_, rfl, py, _, _, _, rfl, rfl, sqT_sub sG y1, atI_nat (j := 0) rfl, ?_⟩
      refine ⟨_, rfl, rfl, _, rfl, ?_⟩
      rw [dcStr]
      refine iteDF n1 ⟨_, rfl, rfl, _, rfl, ?_⟩
      rw [dcStr]
      refine iteDF n2 ⟨_, rfl, rfl, _, rfl, ?_⟩
      rw [dcStr]
      refine iteDF n3 ?_
      refine ⟨_, rfl, py, _, _, _, rfl, rfl, sqT_sub sG y1, atI_nat (j := 1) rfl, ?_⟩
      refine ⟨_, rfl, _, rfl, _, rfl, ?_⟩
      dsimp only [tNil]
      refine idx_call _ sG hP.D hP.wh hP.h6 hP.wm (Same.refl _) (.str _) (shp_str (hd_sx hP.wh hP.h6 hx).1) (loc_valid hP.wh hP.h6 hx).fd fun H3 s3 => ?_
      refine ⟨_, rfl, _, rfl, ?_⟩
      dsimp only [tNil]
      refine ⟨v, G, p.nm, p.hs, p.m, p.sts, p.acs, p.tbs, p.ct, p.em, i, x, rfl, sG.trans s3, hP.D, hP.wh, hP.h6, hP.wm, ei, fun H4 pc s4 n4 e4 => ?_⟩
      rw [hc_eq hP.wh hP.h6 hP.wm ei] at e4
      have sG3 := sG.trans s3
      have gp : G pc = none := sG3.free n4
      have sB := same_upd (o := .lst (natsV (hcOf p x.1))) (sG3.trans s4) e4
      have gB := (Gr.refl G H).put (o := .lst (natsV (hcOf p x.1))) (s3.free n4) gp
      refine ⟨(by show 3 ≤ sizeLine; decide), fun pt hpt => ?_⟩
      obtain ⟨m1, m2, m3⟩ := tup_new (K := K) sB hpt (vs := [.str word, .int (fix p.hs p.m (.str x.1) : Nat), .ref pc]) (ds := mvL (coOp p ps o)) (by
        rw [ec]
        exact .cons (.str _) (.cons (.int _) (.cons (dp_nats upd_same) .nil)))
      exact q _ _ _ ((s3.trans s4).trans (same_new hpt)) m1 (gB.then m2 (s3.trans s4)) m3
    · obtain ⟨v0, r, rfl, a0, y2⟩ := dpAll_cons y2
      obtain rfl := dp_str a0
      refine ⟨_, rfl, py, _, _, _, rfl, rfl, sqT_sub sG y1, atI_nat (j := 0) rfl, ?_⟩
      refine ⟨_, rfl, rfl, _, rfl, ?_⟩
      rw [dcStr]
      refine iteDT rfl ?_
      refine ⟨_, rfl, _, rfl, _, rfl, ?_⟩
      dsimp only [tNil]
      exact ⟨v, .ref py, pn, G, p, ps, o', n, e, rfl, sG, hP, en, hnd, hy0, ok, q⟩
    · obtain ⟨v0, r, rfl, a0, y2⟩ := dpAll_cons y2
      obtain rfl := dp_str a0
      refine ⟨_, rfl, py, _, _, _, rfl, rfl, sqT_sub sG y1, atI_nat (j := 0) rfl, ?_⟩
      refine ⟨_, rfl, rfl, _, rfl, ?_⟩
      rw [dcStr]
      refine iteDF op_nes.2.2.1 ⟨_, rfl, rfl, _, rfl, ?_⟩
      rw [dcStr]
      refine iteDF op_nes.2.2.2.1 ⟨_, rfl, rfl, _, rfl, ?_⟩
      rw [dcStr]
      refine iteDT rfl ?_
      refine ⟨(by show 2 ≤ sizeLine; decide), fun p1 hp1 => ?_⟩
      obtain ⟨m1, m2, m3⟩ := tup_new (K := K) sG hp1 (vs := [.str "num", .int 8]) (ds := moL (.num 8)) (.cons (.str _) (.cons (.int _) .nil))
      refine ⟨(by show 4 ≤ sizeLine; decide), fun pt hpt => ?_⟩
      obtain ⟨n1, n2, n3⟩ := tup_new (K := K) m1 hpt (vs := [.str "send", .non, .ref p1, .ref p_NOTHING]) (ds := mvL (coOp p ps .drp)) (.cons (.str _) (.cons .non (.cons m3 (.cons (dp_nothing r_NOTHING) .nil))))
      exact q _ _ _ ((same_new hp1).trans (same_new hpt)) n1 (m2.then n2 (same_new hp1)) n3
    · obtain ⟨v0, r, rfl, a0, y2⟩ := dpAll_cons y2
      obtain ⟨v1, r, rfl, a1, y2⟩ := dpAll_cons y2
      obtain rfl := dp_str a0
      refine ⟨_, rfl, py, _, _, _, rfl, rfl, sqT_sub sG y1, atI_nat (j := 0) rfl, ?_⟩
      refine ⟨_, rfl, rfl, _, rfl, ?_⟩
      rw [dcStr]
      refine iteDF op_nes.2.1 ⟨_, rfl, rfl, _, rfl, ?_⟩
      rw [dcStr]
      refine iteDT rfl ?_
      refine ⟨_, rfl, _, rfl, _, rfl, py, _, _, _, rfl, rfl, sqT_sub sG y1, atI_nat (j := 1) rfl, ?_⟩
      dsimp only [tNil]
      refine ⟨v, v1, pn, G, p, ps, e, rfl, sG, hP, en, hnd, a1, ok, fun H3 G3 x xs s3 sG3 gr3 ex ⟨us, u1, u2⟩ => ?_⟩
      subst ex
      have lu := dpAll_len u2
      refine ⟨xs, us, rfl, .inl (sqT_sub sG3 u1), ?_⟩
      refine ⟨?_, fun pt hpt => ?_⟩
      · show (us ++ []).length + 1 ≤ _
        rw [List.append_nil, lu]
        show 3 + 1 ≤ sizeLine
        decide
      obtain ⟨m1, m2, m3⟩ := tup_new (K := K) sG3 hpt (vs := .str "send" :: (us ++ [])) (ds := mvL (coOp p ps (.snd e))) (by
        rw [List.append_nil]
        exact .cons (.str _) u2)
      exact q _ _ _ (s3.trans (same_new hpt)) m1 (gr3.then m2 s3) m3
/-- the action a is found in the program -/
structure AcIn (p : Pd) (i : Nat) (a : Ac) : Prop where
  at_ : p.acs[i]? = some a
  first : ∀ j b, j < i → p.acs[j]? = some b → b.name ≠ a.name
  nd : (a.ps.map Prod.fst).Nodup
  ops : ∀ o ∈ a.ops, OpOk p.hs (refsOf p.hs p.m) a.ps o
  l1 : a.ps.length ≤ 8
  l2 : a.ops.length ≤ 8
theorem acs_named (p : Pd) : acsD p.acs = .list ((p.acs.map acL).map .tuple) := by
  unfold acsD
  rw [List.map_map]
  rfl
theorem AcIn.part {p : Pd} {i : Nat} {a : Ac} (h : AcIn p i a) : (∀ e ∈ p.acs.map acL, ∃ n, e[1]? = some (PyData.str n)) ∧ (p.acs.map acL)[i]? = some (acL a) ∧ (∀ j e', j < i → (p.acs.map acL)[j]? = some e' → e'[1]? ≠ some (.str a.name)) := by
  refine ⟨fun e he => ?_, by rw [List.getElem?_map, h.at_]; rfl, fun j e' hj he z => ?_⟩
  · obtain ⟨b, _, rfl⟩ := List.mem_map.mp he
    exact ⟨b.name, rfl⟩
  · rw [List.getElem?_map] at he
    obtain ⟨b, eb, rfl⟩ := Option.map_eq_some_iff.mp he
    exact h.first j b hj eb (PyData.str.inj (Option.some.inj z))
def spCoAct (K : PySem.W.Frag) : Sp := fun vs H Q _ => ∃ (v : V) (G : Hp) (p : Pd) (i : Nat) (a : Ac), vs = [v, .str a.name] ∧ Same G H ∧ PgK K G v p ∧ AcIn p i a ∧
  ∀ H' G' x, Same H H' → Same G' H' → Gr G G' H → Dp K G' x (.list (a.ops.map fun o => .tuple (mvL (coOp p a.ps o)))) → Q x H'
theorem ok_coAct {f : Addr} {fd : FuncData} (F : Fun K "compile_action" "compile_action" sCoAct f fd)  (D1 : Df P w K mg base CX0 1 "part_named" ["parts", "name"] (spPart K)) (D2 : Df P w K mg base CX0 1 "actions_of" ["program"] (spAcc K 5)) (D3 : Df P w K mg base CX0 8 "compile_operation" ["program", "params", "operation"] (spCoOp K)) : FnOk P w K mg base CX0 9 f fd ["program", "action"] (spCoAct K) := by
  obtain ⟨f1, fd1, G1, g1, k1, b1⟩ := D1.ex
  obtain ⟨f2, fd2, G2, g2, k2, b2⟩ := D2.ex
  obtain ⟨f3, fd3, G3, g3, k3, b3⟩ := D3.ex
  refine F.ok scCoAct (fun vs H Q E h => ?_) (fun cdv A outer s0 H vs Q E hr h => ?_)
  · obtain ⟨v, G, p, i, a, rfl, _⟩ := h
    rfl
  · obtain ⟨v, G, p, i, a, rfl, sG, hP, ha, q⟩ := h
    have nd := scCoAct.nd
    refine ⟨_, (pss_cons (ps_asg (pe_call G1 (hr.mono (by omega)) (by rfl) g1 k1 b1 .nil pass0 (pa_cons (pe_call G2 (hr.mono (by omega)) (by rfl) g2 k2 b2 .nil pass0 (pa_cons (pv 0) pa_nil)) (pa_cons (pv 1) pa_nil))) (pg_tup (by rfl) (pgs_cons (pg_name (i := 2) nd rfl (.inl rfl)) (pgs_cons (pg_name (i := 2) nd rfl (.inl rfl)) (pgs_cons (pg_name (i := 3) nd rfl (.inl rfl)) (pgs_cons (pg_name (i := 4) nd rfl (.inl rfl)) pgs_nil))))))
      (pss_cons (ps_set (i := 6) nd rfl (.inr rfl) (pe_lc (own := [("name", 5), ("_", 2)]) (g := gTup K 2 (gCons (gName 5) (gCons (gName 2) gNil))) (tt := tYes) rfl nd (pi_list (pv 3)) (blkOk_by (own := [("name", 5), ("_", 2)]) (N := NCoAct) (sc := defScope sCoAct) (by decide +kernel)) (fun _ _ _ _ _ => (pg_tup rfl (pgs_cons (pg_name (i := 5) nd rfl (Or.inl rfl)) (pgs_cons (pg_name (i := 2) nd rfl (Or.inl rfl)) pgs_nil)))) (fun _ _ _ _ _ => pts_nil) (fun _ _ _ _ _ => (pv 5))))
      (pss_one (ps_ret (pe_lc (own := [("operation", 7)]) (g := gName 7) (tt := tYes) rfl nd (pi_list (pv 4)) (blkOk_by (own := [("operation", 7)]) (N := NCoAct) (sc := defScope sCoAct) (by decide +kernel)) (fun _ _ _ _ _ => (pg_name (i := 7) nd rfl (Or.inl rfl))) (fun _ _ _ _ _ => pts_nil) (fun _ _ _ _ _ => (pe_call G3 (hr.mono (by omega)) (by rfl) g3 k3 b3 .nil pass0 (pa_cons (pv 0) (pa_cons (pv 6) (pa_cons (pv 7) pa_nil)))))))))), ?_⟩
    obtain ⟨b1', b2', b3'⟩ := ha.part
    refine ⟨_, rfl, v, G, _, acsD p.acs, rfl, sG, hP.D, rfl, fun x hx => ?_⟩
    rw [acs_named] at hx
    refine ⟨_, rfl, ?_⟩
    dsimp only [tNil]
    refine ⟨x, G, p.acs.map acL, a.name, i, acL a, rfl, sG, hx, b1', b2', rfl, b3', fun y hy => ?_⟩
    obtain ⟨py, ys, rfl, y1, y2⟩ := dp_tup hy
    obtain ⟨v0, r, rfl, a0, y2⟩ := dpAll_cons y2
    obtain ⟨v1, r, rfl, a1, y2⟩ := dpAll_cons y2
    obtain ⟨v2, r, rfl, a2, y2⟩ := dpAll_cons y2
    obtain ⟨v3, r, rfl, a3, y2⟩ := dpAll_cons y2
    obtain rfl := dpAll_nil y2
    obtain ⟨pp, us, rfl, u1, u2⟩ := dp_lst a2
    obtain ⟨po, ws, rfl, w1, w2⟩ := dp_lst a3
    have lu := dpAll_len u2
    have lw := dpAll_len w2
    rw [List.length_map] at lu lw
    have l1 := ha.l1
    have l2 := ha.l2
    refine ⟨py, _, rfl, sqT_sub sG y1, rfl, _, _, rfl, _, _, rfl, _, _, rfl, _, _, rfl, rfl, ?_⟩
    refine ⟨_, rfl, pp, rfl, ⟨_, sqL_sub sG u1⟩, fun D hD => lc_list (K := K) (a := pp) (xs := us) (fun j H2 => Same H H2 ∧ H2 D = some (.lst (((a.ps.map Prod.fst).take j).map V.str))) ⟨same_new hD, upd_same⟩ (fun j H2 _ h => h.1.seq (sqL_sub sG u1)) ?_ ?_⟩
    · rintro j z H2 hz ⟨s2, e2⟩
      obtain ⟨d, ed, hd⟩ := dpAll_val u2 hz
      rw [List.getElem?_map] at ed
      obtain ⟨f, ef, rfl⟩ := Option.map_eq_some_iff.mp ed
      have hj := (List.getElem?_eq_some_iff.mp ef).1
      obtain ⟨pt, ts, rfl, t1, t2⟩ := dp_tup hd
      obtain ⟨x0, t, rfl, n0, t2⟩ := dpAll_cons t2
      obtain ⟨x1, t, rfl, n1, t2⟩ := dpAll_cons t2
      obtain rfl := dpAll_nil t2
      obtain rfl := dp_str n0
      refine ⟨pt, _, rfl, sqT_sub (sG.trans s2) t1, rfl, _, _, rfl, _, _, rfl, rfl, rfl, _, rfl, _, e2, ?_, same_set s2 hD, ?_⟩
      · rw [List.length_map, List.length_take, List.length_map]
        exact small1000 (by omega)
      · rw [upd_same, List.take_add_one, List.getElem?_map, ef, List.map_append]
        rfl
    rintro H2 ⟨s2, e2⟩
    rw [lu, ← List.length_map (f := Prod.fst) (as := a.ps), List.take_length] at e2
    have sG2 := sG.trans s2
    refine ⟨_, rfl, po, rfl, ⟨_, sqL_sub sG2 w1⟩, fun D3 hD3 => lc_list (K := K) (a := po) (xs := ws) (fun j H4 => ∃ (GC : Hp) (xs : List V), Same H2 H4 ∧ Same GC H4 ∧ Gr G GC H ∧ GC D3 = none ∧ H4 D3 = some (.lst xs) ∧ DpAll K GC xs ((a.ops.take j).map fun o => .tuple (mvL (coOp p a.ps o)))) ⟨G, [], same_new hD3, sG2.trans (same_new hD3), Gr.refl _ _, sG2.free hD3, upd_same, .nil⟩ (fun j H4 _ h => by
      obtain ⟨GC, xs, h1, _⟩ := h
      exact sqL_sub (sG2.trans h1) w1) ?_ ?_⟩
    · rintro j z H4 hz ⟨GC, xs, s4, sGC, grC, gD, eD, dxs⟩
      obtain ⟨d, ed, hd⟩ := dpAll_val w2 hz
      rw [List.getElem?_map] at ed
      obtain ⟨o, eo, rfl⟩ := Option.map_eq_some_iff.mp ed
      have hj := (List.getElem?_eq_some_iff.mp eo).1
      refine ⟨rfl, _, rfl, _, rfl, _, rfl, ?_⟩
      dsimp only [tNil]
      refine ⟨v, z, D, GC, p, a.ps, o, rfl, sGC, hP.sub grC.sub, s4 _ _ e2, ha.nd, dp_sub grC.sub hd, ha.ops o (List.mem_of_getElem? eo), fun H5 G5 x s5 sG5 gr5 dx => ?_⟩
      have eD5 := s5 _ _ eD
      have gD5 : G5 D3 = none := gr5.free gD (by rw [eD]; exact fun z => nomatch z)
      have lx := dpAll_len dxs
      rw [List.length_map, List.length_take] at lx
      refine ⟨_, eD5, small1000 (by omega), G5, _, same_set (s4.trans s5) hD3, same_set sG5 gD5, grC.then gr5 (s2.trans s4), gD5, upd_same, ?_⟩
      rw [List.take_add_one, eo, List.map_append]
      exact dpAll_app (dpAll_sub gr5.sub dxs) (.cons dx .nil)
    · rintro H4 ⟨GC, xs, s4, sGC, grC, gD, eD, dxs⟩
      rw [lw, List.take_length] at dxs
      obtain ⟨j1, j2, j3⟩ := lst_join (H0 := H2) sGC eD gD hD3 dxs
      exact q _ _ _ (s2.trans s4) j1 (grC.then j2 s2) j3
end
end Pk
set_option Elab.async false
set_option linter.all false
set_option maxRecDepth 100000
set_option maxHeartbeats 4000000
/-! the plain interpreter: values, expressions, zeros, operations -/
namespace Pk
open PySem PySem.Spec PyProof.Rows L2 SX GxR Tk
abbrev sOdValL : Stmt := topS 67
abbrev NOdValL : List Str := ["p", "operand", "names"]
theorem scOdValL : FnScope NOdValL ["p", "operand", "names"] (defScope sOdValL) := ⟨rfl, rfl, rfl, by decide +kernel, rfl, by decide +kernel, by decide +kernel⟩
abbrev sEvalL : Stmt := topS 68
abbrev NEvalL : List Str := ["p", "e", "names", "a", "b"]
theorem scEvalL : FnScope NEvalL ["p", "e", "names"] (defScope sEvalL) := ⟨rfl, rfl, rfl, by decide +kernel, rfl, by decide +kernel, by decide +kernel⟩
abbrev sZeroL : Stmt := topS 69
abbrev NZeroL : List Str := ["program", "p", "name", "field", "width"]
theorem scZeroL : FnScope NZeroL ["program", "p", "name"] (defScope sZeroL) := ⟨rfl, rfl, rfl, by decide +kernel, rfl, by decide +kernel, by decide +kernel⟩
abbrev sPerfL : Stmt := topS 70
abbrev NPerfL : List Str := ["program", "p", "op", "names", "value"]
theorem scPerfL : FnScope NPerfL ["program", "p", "op", "names"] (defScope sPerfL) := ⟨rfl, rfl, rfl, by decide +kernel, rfl, by decide +kernel, by decide +kernel⟩
/-- a dict with tuples as keys holds the fields' values -/
structure DF (rs : List Rf) (kvs : List (List L2.Key × V)) (F : Fv) : Prop where
  val : ∀ o n, (o, n) ≠ portK → (valV kvs (keyX o n)).getD (.int 0) = .int (F o n : Nat)
  nd : (kvs.map Prod.fst).Nodup
  ks : ∀ k ∈ kvs.map Prod.fst, ∃ r ∈ rs, k = keyX r.1 r.2.1
theorem valV_none {κ : Type} [DecidableEq κ] {kvs : List (κ × V)} {k : κ} (h : k ∉ kvs.map Prod.fst) : valV kvs k = none := by
  unfold valV
  rw [List.find?_eq_none.mpr (fun x hx z => h (by rw [← of_decide_eq_true z]; exact List.mem_map.mpr ⟨x, hx, rfl⟩))]
  rfl
theorem putK_keys {κ : Type} [DecidableEq κ] (kvs : List (κ × V)) (k : κ) (v : V) : (putK kvs k v).map Prod.fst = if k ∈ kvs.map Prod.fst then kvs.map Prod.fst else kvs.map Prod.fst ++ [k] := by
  unfold putK
  by_cases h : k ∈ kvs.map Prod.fst
  · rw [if_pos h]
    have : (kvs.any fun kv => decide (kv.1 = k)) = true := by
      obtain ⟨x, hx, e⟩ := List.mem_map.mp h
      exact List.any_eq_true.mpr ⟨x, hx, decide_eq_true e⟩
    rw [if_pos this, List.map_map]
    refine List.map_congr_left fun x hx => ?_
    show (if x.1 = k then (x.1, v) else x).1 = x.1
    by_cases e : x.1 = k
    · rw [if_pos e]
    · rw [if_neg e]
  · rw [if_neg h]
    have : ¬ (kvs.any fun kv => decide (kv.1 = k)) = true := fun z => by
      obtain ⟨x, hx, e⟩ := List.any_eq_true.mp z
      exact h (List.mem_map.mpr ⟨x, hx, of_decide_eq_true e⟩)
    rw [if_neg this, List.map_append]
    rfl
theorem DF.len {rs : List Rf} {kvs : List (List L2.Key × V)} {F : Fv} (h : DF rs kvs F) : kvs.length ≤ rs.length := by
  have := nodup_len (kvs.map Prod.fst) (rs.map fun r => keyX r.1 r.2.1) h.nd fun k hk => by
    obtain ⟨r, hr, rfl⟩ := h.ks k hk
    exact List.mem_map.mpr ⟨r, hr, rfl⟩
  rwa [List.length_map, List.length_map] at this
theorem DF.out {rs : List Rf} {kvs : List (List L2.Key × V)} {F : Fv} (h : DF rs kvs F) {o n : Str} (hp : (o, n) ≠ portK) (hn : ∀ w, (o, n, w) ∉ rs) : F o n = 0 := by
  have e := h.val o n hp
  rw [valV_none fun hk => by
    obtain ⟨r, hr, e⟩ := h.ks _ hk
    have := Prod.mk.inj (keyX_inj.mp e)
    exact hn r.2.2 (by rw [this.1, this.2]; exact hr)] at e
  have := V.int.inj e
  omega
theorem DF.put {rs : List Rf} {kvs : List (List L2.Key × V)} {F : Fv} (h : DF rs kvs F) {o n : Str} {w : Nat} (hr : (o, n, w) ∈ rs) (v : Nat) : DF rs (putK kvs (keyX o n) (.int (v : Nat))) (putF F o n v) := by
  refine ⟨fun a b hp => ?_, ?_, fun k hk => ?_⟩
  · rw [valV_put]
    unfold putF
    by_cases e : (a, b) = (o, n)
    · rw [if_pos (keyX_inj.mpr e), if_pos e]
      rfl
    · rw [if_neg (fun z => e (keyX_inj.mp z)), if_neg e]
      exact h.val a b hp
  · rw [putK_keys]
    by_cases e : keyX o n ∈ kvs.map Prod.fst
    · rw [if_pos e]; exact h.nd
    · rw [if_neg e]
      exact List.nodup_append.mpr ⟨h.nd, List.nodup_cons.mpr ⟨List.not_mem_nil, List.nodup_nil⟩, fun a ha b hb z => e (by rw [← List.mem_singleton.mp hb, ← z]; exact ha)⟩
  · rw [putK_keys] at hk
    by_cases e : keyX o n ∈ kvs.map Prod.fst
    · rw [if_pos e] at hk
      exact h.ks k hk
    · rw [if_neg e] at hk
      rcases List.mem_append.mp hk with hk | hk
      · exact h.ks k hk
      · rw [List.mem_singleton.mp hk]
        exact ⟨_, hr, rfl⟩
theorem refs_le {p : Pd} (hP : WfP p) : (refsOf p.hs p.m).length ≤ 1000 := by
  unfold refsOf
  rw [List.length_append, List.length_cons, List.length_map, List.length_flatMap]
  have h1 := hP.wm.1
  have : ∀ l : List Hd, (∀ h ∈ l, h.2.length ≤ 8) → (l.map fun h => (h.2.map fun f => (h.1, f.1, f.2)).length).sum ≤ 8 * l.length := by
    intro l
    induction l with
    | nil => intro _; exact Nat.le_refl _
    | cons a r ih =>
      intro h
      rw [List.map_cons, List.sum_cons, List.length_map, List.length_cons]
      have := ih fun x hx => h x (List.mem_cons_of_mem _ hx)
      have := h a List.mem_cons_self
      omega
  have h2 := this p.hs fun h hh => (hd_sx hP.wh hP.h6 hh).2.2.1
  have h6 := hP.h6
  omega
def outV : Option Nat → V
  | none => .non
  | some n => .int (n : Nat)
/-- all but these stands -/
def Cg (l : List Addr) (H H' : Hp) : Prop := ∀ b o, b ∉ l → H b = some o → H' b = some o
theorem Cg.refl (l : List Addr) (H : Hp) : Cg l H H := fun _ _ _ e => e
theorem Cg.of {l : List Addr} {H H' : Hp} (k : Same H H') : Cg l H H' := fun b o _ e => k b o e
theorem Cg.trans {l : List Addr} {H H1 H2 : Hp} (a : Cg l H H1) (b : Cg l H1 H2) : Cg l H H2 := fun c o h e => b c o h (a c o h e)
theorem Cg.set {l : List Addr} {H H' : Hp} {q : Addr} {o : HO} (a : Cg l H H') (h : q ∈ l) : Cg l H (upd H' q o) := fun c u hc e => by
  rw [upd_ne (fun z => hc (by rw [z]; exact h))]
  exact a c u hc e
theorem Cg.sub {l : List Addr} {G H H' : Hp} (a : Cg l H H') (sG : Same G H) (g : ∀ b ∈ l, G b = none) : Same G H' := fun b o e => a b o (fun z => by rw [g b z] at e; cases e) (sG _ _ e)
/-- the state of the plain interpreter -/
structure Pq (H : Hp) (p : Pd) (pp pd pv pz : Addr) (port : Nat) (s : Ms) (zs : List V) : Prop where
  e : H pp = some (.lst [.ref pd, .ref pv, outV s.out, .int (port : Nat), .ref pz])
  d : ∃ kvs, H pd = some (.dT kvs) ∧ DF (refsOf p.hs p.m) kvs s.F
  v : H pv = some (.lst (s.vs.map V.str))
  z : H pz = some (.lst zs)
  n1 : pp ≠ pv
  n2 : pp ≠ pz
  n3 : pv ≠ pz
  vn : s.vs.Nodup
  vh : ∀ x ∈ s.vs, ∃ h ∈ p.hs, h.1 = x
theorem Pq.same {H H' : Hp} {p : Pd} {pp pd pv pz : Addr} {port : Nat} {s : Ms} {zs : List V} (h : Pq H p pp pd pv pz port s zs) (k : Same H H') : Pq H' p pp pd pv pz port s zs := by
  obtain ⟨kvs, e, f⟩ := h.d
  exact ⟨k _ _ h.e, ⟨kvs, k _ _ e, f⟩, k _ _ h.v, k _ _ h.z, h.n1, h.n2, h.n3, h.vn, h.vh⟩
theorem Pq.nd {H : Hp} {p : Pd} {pp pd pv pz : Addr} {port : Nat} {s : Ms} {zs : List V} (h : Pq H p pp pd pv pz port s zs) : pp ≠ pd ∧ pv ≠ pd ∧ pz ≠ pd := by
  obtain ⟨kvs, e, f⟩ := h.d
  refine ⟨fun z => ?_, fun z => ?_, fun z => ?_⟩
  · have := h.e; rw [z, e] at this; cases this
  · have := h.v; rw [z, e] at this; cases this
  · have := h.z; rw [z, e] at this; cases this
theorem Pq.len {H : Hp} {p : Pd} {pp pd pv pz : Addr} {port : Nat} {s : Ms} {zs : List V} (h : Pq H p pp pd pv pz port s zs) (hP : WfP p) : s.vs.length ≤ 6 := by
  have := nodup_len s.vs (p.hs.map Prod.fst) h.vn fun x hx => by
    obtain ⟨y, hy, rfl⟩ := h.vh x hx
    exact List.mem_map.mpr ⟨y, hy, rfl⟩
  rw [List.length_map] at this
  have := hP.h6
  omega
/-- the dict of a new value of a field -/
theorem Pq.setD {H : Hp} {p : Pd} {pp pd pv pz : Addr} {port : Nat} {s : Ms} {zs : List V} (h : Pq H p pp pd pv pz port s zs) {kvs : List (List L2.Key × V)} {F : Fv} (f : DF (refsOf p.hs p.m) kvs F) : Pq (upd H pd (.dT kvs)) p pp pd pv pz port { s with F := F } zs := by
  obtain ⟨n1, n2, n3⟩ := h.nd
  exact ⟨by rw [upd_ne n1]; exact h.e, ⟨kvs, upd_same, f⟩, by rw [upd_ne n2]; exact h.v, by rw [upd_ne n3]; exact h.z, h.n1, h.n2, h.n3, h.vn, h.vh⟩
theorem Pq.setO {H : Hp} {p : Pd} {pp pd pv pz : Addr} {port : Nat} {s : Ms} {zs : List V} (h : Pq H p pp pd pv pz port s zs) (o : Option Nat) : Pq (upd H pp (.lst [.ref pd, .ref pv, outV o, .int (port : Nat), .ref pz])) p pp pd pv pz port { s with out := o } zs := by
  obtain ⟨n1, n2, n3⟩ := h.nd
  obtain ⟨kvs, e, f⟩ := h.d
  exact ⟨upd_same, ⟨kvs, by rw [upd_ne (Ne.symm n1)]; exact e, f⟩, by rw [upd_ne (Ne.symm h.n1)]; exact h.v, by rw [upd_ne (Ne.symm h.n2)]; exact h.z, h.n1, h.n2, h.n3, h.vn, h.vh⟩
theorem Pq.setV {H : Hp} {p : Pd} {pp pd pv pz : Addr} {port : Nat} {s : Ms} {zs : List V} (h : Pq H p pp pd pv pz port s zs) {vs : List Str} (vn : vs.Nodup) (vh : ∀ x ∈ vs, ∃ h ∈ p.hs, h.1 = x) : Pq (upd H pv (.lst (vs.map V.str))) p pp pd pv pz port { s with vs := vs } zs := by
  obtain ⟨n1, n2, n3⟩ := h.nd
  obtain ⟨kvs, e, f⟩ := h.d
  exact ⟨by rw [upd_ne h.n1]; exact h.e, ⟨kvs, by rw [upd_ne (Ne.symm n2)]; exact e, f⟩, upd_same, by rw [upd_ne (Ne.symm h.n3)]; exact h.z, h.n1, h.n2, h.n3, vn, vh⟩
/-- the dict of the arguments -/
structure Nm (H : Hp) (pn : Addr) (ps : List Fl) (A : Str → Int) : Prop where
  e : ∃ kn, H pn = some (.dK kn) ∧ ∀ x ∈ ps.map Prod.fst, valV kn (.inr x) = some (.int (A x))
theorem Nm.same {H H' : Hp} {pn : Addr} {ps : List Fl} {A : Str → Int} (h : Nm H pn ps A) (k : Same H H') : Nm H' pn ps A := by
  obtain ⟨kn, e, f⟩ := h.e
  exact ⟨⟨kn, k _ _ e, f⟩⟩
theorem Nm.cg {H H' : Hp} {p : Pd} {pp pd pv pz pn : Addr} {port : Nat} {s : Ms} {zs : List V} {ps : List Fl} {A : Str → Int} (h : Nm H pn ps A) (q : Pq H p pp pd pv pz port s zs) (k : Cg [pp, pd, pv] H H') : Nm H' pn ps A := by
  obtain ⟨kn, e, f⟩ := h.e
  refine ⟨⟨kn, k _ _ (fun z => ?_) e, f⟩⟩
  obtain ⟨kvs, e2, _⟩ := q.d
  rcases List.mem_cons.mp z with rfl | z
  · rw [q.e] at e; cases e
  rcases List.mem_cons.mp z with rfl | z
  · rw [e2] at e; cases e
  · rw [List.mem_singleton.mp z, q.v] at e; cases e
theorem inV_str (x : Str) (l : List Str) : inV (.str x) (l.map V.str) = decide (x ∈ l) := by
  unfold inV
  by_cases h : x ∈ l
  · rw [decide_eq_true h]
    exact List.any_eq_true.mpr ⟨.str x, List.mem_map.mpr ⟨x, h, rfl⟩, by show (x == x) = true; exact beq_self_eq_true _⟩
  · rw [decide_eq_false h]
    refine List.any_eq_false.mpr fun y hy => ?_
    obtain ⟨z, hz, rfl⟩ := List.mem_map.mp hy
    show ¬ (z == x) = true
    exact fun e => h (by rw [← eq_of_beq e]; exact hz)
section
variable {P : Program} {w : World} {K : PySem.W.Frag} {mg : Str → Option Value} {base : Heap}
def spValueG (K : PySem.W.Frag) : Sp := fun vs H Q _ => ∃ (pp pd pv pz : Addr) (y : V) (p : Pd) (port : Nat) (s : Ms) (zs : List V) (G : Hp) (o n : Str), vs = [.ref pp, y] ∧ Pq H p pp pd pv pz port s zs ∧ Same G H ∧ Dp K G y (prD o n) ∧ Sx o ∧ Sx n ∧ ∀ H', Same H H' → Q (.int (rdF port s.F o n : Nat)) H'
theorem ok_valueG {f : Addr} {fd : FuncData} {k : Nat} (F : Fun K "_law_value" "_law_value" sValueL f fd)   : FnOk P w K mg base CX0 (k + 1) f fd ["p", "field"] (spValueG K) := by
  refine F.ok scValueL (fun vs H Q E h => ?_) (fun cdv A outer s0 H vs Q E hr h => ?_)
  · obtain ⟨pp, pd, pv', pz, y, p, port, s, zs, G, o, n, rfl, _⟩ := h
    rfl
  · obtain ⟨pp, pd, pv', pz, y, p, port, s, zs, G, o, n, rfl, hp, sG, hy, so, sn, q⟩ := h
    have nd := scValueL.nd
    refine ⟨_, (pss_cons (ps_if (pt_cmpR (op_eqD hr.units) (pv 1) (pe_tup (pa_cons pe_str (pa_cons pe_str pa_nil))) (nomark _)) (pss_one (ps_ret (pe_ix ix_list (pv 0) pe_int (fun _ _ => rfl)))) pss_nil)
      (pss_one (ps_ret (pe_dget2Q (hu_of hr) (pe_ix ix_list (pv 0) pe_int (fun _ _ => rfl)) (pv 1) pe_int ⟨rfl, rfl, rfl, rfl⟩)))), ?_⟩
    obtain ⟨py, rfl, y1⟩ := dp_prD hy
    refine ⟨_, rfl, (by show 2 ≤ sizeLine; decide), fun t ht => ?_⟩
    have s1 := same_new (o := .tup [V.str "packet", V.str "port"]) ht
    refine ⟨_, _, dp_sub (sG.trans s1) hy, .tup (SqT.of upd_same) (.cons (.str _) (.cons (.str _) .nil)), prD_shaped so sn, prD_shaped sx_port.1 sx_port.2, _, rfl, ?_⟩
    show if PyData.eqv (prD o n) (prD "packet" "port") = true then _ else _
    rw [prD_eqv]
    generalize upd H t (.tup [V.str "packet", V.str "port"]) = H1 at s1 ⊢
    have hp1 := hp.same s1
    obtain ⟨kvs, ed, df⟩ := hp1.d
    refine iteD (fun e1 => ?_) fun e1 => ?_
    · refine ⟨_, rfl, pp, _, _, _, rfl, rfl, SqL.of hp1.e, atI_nat (j := 3) rfl, ?_⟩
      have := q H1 s1
      unfold rdF at this
      rw [if_pos e1] at this
      exact this
    · refine ⟨_, rfl, pp, _, _, _, rfl, rfl, SqL.of hp1.e, atI_nat (j := 0) rfl, pd, kvs, rfl, ed, _, rfl, py, keyX o n, rfl, ed, sqT_sub (sG.trans s1) y1, ?_⟩
      rw [df.val o n e1]
      have := q H1 s1
      unfold rdF at this
      rw [if_neg e1] at this
      exact this
def spOdValL (K : PySem.W.Frag) : Sp := fun vs H Q _ => ∃ (pp pd pv pz pn : Addr) (y : V) (p : Pd) (port : Nat) (s : Ms) (zs : List V) (G : Hp) (ps : List Fl) (A : Str → Int) (a : Od), vs = [.ref pp, y, .ref pn] ∧ Pq H p pp pd pv pz port s zs ∧ Same G H ∧ WfP p ∧ Dp K G y (.tuple (odL a)) ∧ OdOk (refsOf p.hs p.m) ps a ∧ Nm H pn ps A ∧ ∀ H', Same H H' → Q (.int (odV port s.F A a)) H'
theorem ok_odValL {f : Addr} {fd : FuncData} (F : Fun K "_law_operand_value" "_law_operand_value" sOdValL f fd)  (D1 : Df P w K mg base CX0 1 "_law_value" ["p", "field"] (spValueG K)) : FnOk P w K mg base CX0 2 f fd ["p", "operand", "names"] (spOdValL K) := by
  obtain ⟨f1, fd1, G1, g1, k1, b1⟩ := D1.ex
  refine F.ok scOdValL (fun vs H Q E h => ?_) (fun cdv A outer s0 H vs Q E hr h => ?_)
  · obtain ⟨pp, pd, pv', pz, pn, y, p, port, s, zs, G, ps, A, a, rfl, _⟩ := h
    rfl
  · obtain ⟨pp, pd, pv', pz, pn, y, p, port, s, zs, G, ps, A, a, rfl, hp, sG, hP, hy, ok, hn, q⟩ := h
    have nd := scOdValL.nd
    refine ⟨_, (pss_cons (ps_if (pt_cmpR op_eq (pe_ix ix_tup (pv 1) pe_int (fun _ _ => rfl)) pe_str (nomark _)) (pss_one (ps_ret (pe_ix ix_tup (pv 1) pe_int (fun _ _ => rfl)))) pss_nil)
      (pss_cons (ps_if (pt_cmpR op_eq (pe_ix ix_tup (pv 1) pe_int (fun _ _ => rfl)) pe_str (nomark _)) (pss_one (ps_ret (pe_dget (hu_of hr) (pv 2) (pe_ix ix_tup (pv 1) pe_int (fun _ _ => rfl)) (fun _ _ => rfl)))) pss_nil)
      (pss_one (ps_ret (pe_call G1 (hr.mono (by omega)) (by rfl) g1 k1 b1 .nil pass0 (pa_cons (pv 0) (pa_cons (pe_tup (pa_cons (pe_ix ix_tup (pv 1) pe_int (fun _ _ => rfl)) (pa_cons (pe_ix ix_tup (pv 1) pe_int (fun _ _ => rfl)) pa_nil))) pa_nil))))))), ?_⟩
    obtain ⟨py, ys, rfl, y1, y2⟩ := dp_tup hy
    cases a with
    | num n =>
      obtain ⟨v0, r, rfl, a0, y2⟩ := dpAll_cons y2
      obtain ⟨v1, r, rfl, a1, y2⟩ := dpAll_cons y2
      obtain rfl := dp_str a0
      obtain rfl := dp_int a1
      refine ⟨_, rfl, py, _, _, _, rfl, rfl, sqT_sub sG y1, atI_nat (j := 0) rfl, rfl, _, rfl, ?_⟩
      rw [dcStr]
      refine iteDT rfl ⟨_, rfl, py, _, _, _, rfl, rfl, sqT_sub sG y1, atI_nat (j := 1) rfl, ?_⟩
      exact q H (Same.refl _)
    | par x =>
      obtain ⟨v0, r, rfl, a0, y2⟩ := dpAll_cons y2
      obtain ⟨v1, r, rfl, a1, y2⟩ := dpAll_cons y2
      obtain rfl := dp_str a0
      obtain rfl := dp_str a1
      obtain ⟨wd, hw⟩ := ok
      obtain ⟨kn, ek, hk⟩ := hn.e
      refine ⟨_, rfl, py, _, _, _, rfl, rfl, sqT_sub sG y1, atI_nat (j := 0) rfl, rfl, _, rfl, ?_⟩
      rw [dcStr]
      refine iteDF (Ne.symm field_ne.2.1) ⟨_, rfl, py, _, _, _, rfl, rfl, sqT_sub sG y1, atI_nat (j := 0) rfl, rfl, _, rfl, ?_⟩
      rw [dcStr]
      refine iteDT rfl ⟨_, rfl, _, rfl, py, _, _, _, rfl, rfl, sqT_sub sG y1, atI_nat (j := 1) rfl, pn, _, rfl, ?_, q H (Same.refl _)⟩
      have := DGet.k (k := Sum.inr x) ek
      rw [hk x (List.mem_map.mpr ⟨_, hw, rfl⟩)] at this
      exact this
    | fld o n =>
      obtain ⟨v0, r, rfl, a0, y2⟩ := dpAll_cons y2
      obtain ⟨v1, r, rfl, a1, y2⟩ := dpAll_cons y2
      obtain ⟨v2, r, rfl, a2, y2⟩ := dpAll_cons y2
      obtain rfl := dp_str a0
      obtain rfl := dp_str a1
      obtain rfl := dp_str a2
      obtain ⟨wd, hw⟩ := ok
      have hsx := refs_sx hP.wh hP.h6 hP.wm _ hw
      refine ⟨_, rfl, py, _, _, _, rfl, rfl, sqT_sub sG y1, atI_nat (j := 0) rfl, rfl, _, rfl, ?_⟩
      rw [dcStr]
      refine iteDF (Ne.symm field_ne.1) ⟨_, rfl, py, _, _, _, rfl, rfl, sqT_sub sG y1, atI_nat (j := 0) rfl, rfl, _, rfl, ?_⟩
      rw [dcStr]
      refine iteDF (Ne.symm field_ne.2.2) ?_
      refine ⟨_, rfl, _, rfl, py, _, _, _, rfl, rfl, sqT_sub sG y1, atI_nat (j := 1) rfl, _, rfl, py, _, _, _, rfl, rfl, sqT_sub sG y1, atI_nat (j := 2) rfl, (by show 2 ≤ sizeLine; decide), fun t ht => ?_⟩
      have st := same_new (o := .tup [V.str o, V.str n]) ht
      dsimp only [tNil]
      exact ⟨pp, pd, pv', pz, _, p, port, s, zs, _, o, n, rfl, hp.same st, Same.refl _, .tup (SqT.of upd_same) (.cons (.str _) (.cons (.str _) .nil)), hsx.1, hsx.2.1, fun H' s' => q H' (st.trans s')⟩
def spEvalL (K : PySem.W.Frag) : Sp := fun vs H Q _ => ∃ (pp pd pv pz pn : Addr) (y : V) (p : Pd) (port : Nat) (s : Ms) (zs : List V) (G : Hp) (ps : List Fl) (A : Str → Int) (e : Ex), vs = [.ref pp, y, .ref pn] ∧ Pq H p pp pd pv pz port s zs ∧ Same G H ∧ WfP p ∧ Dp K G y (.tuple (exL e)) ∧ ExOk (refsOf p.hs p.m) ps e ∧ Nm H pn ps A ∧ ∀ H', Same H H' → Q (.int (evV port s.F A e)) H'
theorem sign_out {op : Str} (h : op ∈ signs) : inV (.str op) [.str "num", .str "param", .str "field"] = false := by
  unfold signs at h
  simp only [List.map_cons, List.map_nil, List.mem_cons, List.not_mem_nil, or_false] at h
  rcases h with rfl | rfl | rfl | rfl | rfl <;> decide +kernel
theorem od_in (a : Od) : ∃ x r, odL a = .str x :: r ∧ inV (.str x) [.str "num", .str "param", .str "field"] = true := by
  cases a with
  | num n => exact ⟨_, _, rfl, by decide +kernel⟩
  | par x => exact ⟨_, _, rfl, by decide +kernel⟩
  | fld o n => exact ⟨_, _, rfl, by decide +kernel⟩
theorem ok_evalL {f : Addr} {fd : FuncData} (F : Fun K "_law_evaluate" "_law_evaluate" sEvalL f fd)  (D1 : Df P w K mg base CX0 2 "_law_operand_value" ["p", "operand", "names"] (spOdValL K)) : FnOk P w K mg base CX0 3 f fd ["p", "e", "names"] (spEvalL K) := by
  obtain ⟨f1, fd1, G1, g1, k1, b1⟩ := D1.ex
  refine F.ok scEvalL (fun vs H Q E h => ?_) (fun cdv A outer s0 H vs Q E hr h => ?_)
  · obtain ⟨pp, pd, pv', pz, pn, y, p, port, s, zs, G, ps, A, e, rfl, _⟩ := h
    rfl
  · obtain ⟨pp, pd, pv', pz, pn, y, p, port, s, zs, G, ps, A, e, rfl, hp, sG, hP, hy, ok, hn, q⟩ := h
    have nd := scEvalL.nd
    refine ⟨_, (pss_cons (ps_if (pt_cmpR op_in_seq (pe_ix ix_tup (pv 1) pe_int (fun _ _ => rfl)) (pe_tup (pa_cons pe_str (pa_cons pe_str (pa_cons pe_str pa_nil)))) (by rfl)) (pss_one (ps_ret (pe_call G1 (hr.mono (by omega)) (by rfl) g1 k1 b1 .nil pass0 (pa_cons (pv 0) (pa_cons (pv 1) (pa_cons (pv 2) pa_nil)))))) pss_nil)
      (pss_cons (ps_set (i := 3) nd rfl (.inl rfl) (pe_call G1 (hr.mono (by omega)) (by rfl) g1 k1 b1 .nil pass0 (pa_cons (pv 0) (pa_cons (pe_ix ix_tup (pv 1) pe_int (fun _ _ => rfl)) (pa_cons (pv 2) pa_nil)))))
      (pss_cons (ps_set (i := 4) nd rfl (.inl rfl) (pe_call G1 (hr.mono (by omega)) (by rfl) g1 k1 b1 .nil pass0 (pa_cons (pv 0) (pa_cons (pe_ix ix_tup (pv 1) pe_int (fun _ _ => rfl)) (pa_cons (pv 2) pa_nil)))))
      (pss_cons (ps_if (pt_cmpR op_eq (pe_ix ix_tup (pv 1) pe_int (fun _ _ => rfl)) pe_str (nomark _)) (pss_one (ps_ret (pe_op op_add (pv 3) (pv 4)))) pss_nil)
      (pss_cons (ps_if (pt_cmpR op_eq (pe_ix ix_tup (pv 1) pe_int (fun _ _ => rfl)) pe_str (nomark _)) (pss_one (ps_ret (pe_op op_sub (pv 3) (pv 4)))) pss_nil)
      (pss_cons (ps_if (pt_cmpR op_eq (pe_ix ix_tup (pv 1) pe_int (fun _ _ => rfl)) pe_str (nomark _)) (pss_one (ps_ret (pe_op op_and (pv 3) (pv 4)))) pss_nil)
      (pss_one (ps_ret (pe_ifExp (pt_cmpR op_eq (pe_ix ix_tup (pv 1) pe_int (fun _ _ => rfl)) pe_str (nomark _)) (pe_op op_or (pv 3) (pv 4)) (pe_op op_sub (pe_op op_or (pv 3) (pv 4)) (pe_op op_and (pv 3) (pv 4)))))))))))), ?_⟩
    have hy0 := hy
    obtain ⟨py, ys, rfl, y1, y2⟩ := dp_tup hy
    cases e with
    | one a =>
      obtain ⟨x, r0, er, hi⟩ := od_in a
      rw [show exL (.one a) = odL a from rfl, er] at y2
      obtain ⟨v0, r, rfl, a0, y2⟩ := dpAll_cons y2
      obtain rfl := dp_str a0
      refine ⟨_, rfl, py, _, _, _, rfl, rfl, sqT_sub sG y1, atI_nat (j := 0) rfl, (by show 3 ≤ sizeLine; decide), fun t ht => ?_⟩
      have st := same_new (o := .tup [V.str "num", V.str "param", V.str "field"]) ht
      refine ⟨t, _, rfl, .inr (SqT.of upd_same), rfl, rfl, _, rfl, ?_⟩
      rw [hi]
      refine iteT ?_
      refine ⟨_, rfl, _, rfl, _, rfl, ?_⟩
      dsimp only [tNil]
      exact ⟨pp, pd, pv', pz, pn, .ref py, p, port, s, zs, G, ps, A, a, rfl, hp.same st, sG.trans st, hP, hy0, ok, hn.same st, fun H' s' => q H' (st.trans s')⟩
    | two op a b =>
      obtain ⟨v0, r, rfl, a0, y2⟩ := dpAll_cons y2
      obtain ⟨v1, r, rfl, a1, y2⟩ := dpAll_cons y2
      obtain ⟨v2, r, rfl, a2, y2⟩ := dpAll_cons y2
      obtain rfl := dpAll_nil y2
      obtain rfl := dp_str a0
      refine ⟨_, rfl, py, _, _, _, rfl, rfl, sqT_sub sG y1, atI_nat (j := 0) rfl, (by show 3 ≤ sizeLine; decide), fun t ht => ?_⟩
      have st := same_new (o := .tup [V.str "num", V.str "param", V.str "field"]) ht
      refine ⟨t, _, rfl, .inr (SqT.of upd_same), rfl, rfl, _, rfl, ?_⟩
      rw [sign_out ok.1]
      generalize upd H t (.tup [V.str "num", V.str "param", V.str "field"]) = H1 at st ⊢
      have sG1 := sG.trans st
      refine iteF ?_
      refine ⟨_, rfl, _, rfl, py, _, _, _, rfl, rfl, sqT_sub sG1 y1, atI_nat (j := 1) rfl, _, rfl, ?_⟩
      dsimp only [tNil]
      refine ⟨pp, pd, pv', pz, pn, v1, p, port, s, zs, G, ps, A, a, rfl, hp.same st, sG1, hP, a1, ok.2.1, hn.same st, fun H2 s2 => ?_⟩
      have st2 := st.trans s2
      have sG2 := sG.trans st2
      refine ⟨_, rfl, _, rfl, py, _, _, _, rfl, rfl, sqT_sub sG2 y1, atI_nat (j := 2) rfl, _, rfl, ?_⟩
      dsimp only [tNil]
      refine ⟨pp, pd, pv', pz, pn, v2, p, port, s, zs, G, ps, A, b, rfl, hp.same st2, sG2, hP, a2, ok.2.2, hn.same st2, fun H3 s3 => ?_⟩
      have st3 := st2.trans s3
      have sG3 := sG.trans st3
      have q : Q (.int (cpt op (odV port s.F A a) (odV port s.F A b))) H3 := q H3 st3
      unfold cpt at q
      refine ⟨_, rfl, py, _, _, _, rfl, rfl, sqT_sub sG3 y1, atI_nat (j := 0) rfl, rfl, _, rfl, ?_⟩
      rw [dcStr]
      refine iteD (fun e => ?_) fun e => ⟨_, rfl, py, _, _, _, rfl, rfl, sqT_sub sG3 y1, atI_nat (j := 0) rfl, rfl, _, rfl, ?_⟩
      · rw [if_pos e] at q
        exact ⟨_, rfl, _, rfl, _, _, rfl, rfl, q⟩
      rw [if_neg e] at q
      rw [dcStr]
      refine iteD (fun e => ?_) fun e => ⟨_, rfl, py, _, _, _, rfl, rfl, sqT_sub sG3 y1, atI_nat (j := 0) rfl, rfl, _, rfl, ?_⟩
      · rw [if_pos e] at q
        exact ⟨_, rfl, _, rfl, _, _, rfl, rfl, q⟩
      rw [if_neg e] at q
      rw [dcStr]
      refine iteD (fun e => ?_) fun e => ⟨_, rfl, py, _, _, _, rfl, rfl, sqT_sub sG3 y1, atI_nat (j := 0) rfl, rfl, _, rfl, ?_⟩
      · rw [if_pos e] at q
        exact ⟨_, rfl, _, rfl, _, _, rfl, rfl, q⟩
      rw [if_neg e] at q
      rw [dcStr]
      refine iteD (fun e => ?_) fun e => ?_
      · rw [if_pos e] at q
        exact ⟨_, rfl, _, rfl, _, _, rfl, rfl, q⟩
      · rw [if_neg e] at q
        exact ⟨_, rfl, _, rfl, _, _, rfl, rfl, _, rfl, _, rfl, _, _, rfl, rfl, _, _, rfl, rfl, q⟩
end
end Pk
set_option Elab.async false
set_option linter.all false
set_option maxRecDepth 100000
set_option maxHeartbeats 4000000
/-! the plain interpreter: zeros, operations -/
namespace Pk
open PySem PySem.Spec PyProof.Rows L2 SX GxR Tk
def zeroL (F : Fv) (h : Str) (fs : List Fl) : Fv := fs.foldl (fun F f => putF F h f.1 0) F
theorem zeroL_step {F : Fv} {h : Str} {fs : List Fl} {j : Nat} {f : Fl} (e : fs[j]? = some f) : zeroL F h (fs.take (j + 1)) = putF (zeroL F h (fs.take j)) h f.1 0 := by
  unfold zeroL
  rw [List.take_add_one, e]
  show List.foldl _ _ _ = _
  rw [List.foldl_append]
  rfl
theorem zeroL_in {h : Str} : ∀ (fs : List Fl) (F : Fv) (b : Str), (∃ f ∈ fs, f.1 = b) ∨ F h b = 0 → zeroL F h fs h b = 0
  | [], F, b, k => by
    rcases k with ⟨f, hf, _⟩ | k
    · cases hf
    · exact k
  | f :: r, F, b, k => by
    refine zeroL_in r _ b ?_
    by_cases e : b = f.1
    · refine .inr ?_
      show (if (h, b) = (h, f.1) then 0 else F h b) = 0
      rw [if_pos (by rw [e])]
    · rcases k with ⟨g, hg, rfl⟩ | k
      · rcases List.mem_cons.mp hg with rfl | hg
        · exact absurd rfl e
        · exact .inl ⟨g, hg, rfl⟩
      · refine .inr ?_
        show (if (h, b) = (h, f.1) then 0 else F h b) = 0
        rw [if_neg fun z => e (Prod.mk.inj z).2]
        exact k
theorem zeroL_out {h a : Str} (ha : a ≠ h) (b : Str) : ∀ (fs : List Fl) (F : Fv), zeroL F h fs a b = F a b
  | [], F => rfl
  | f :: r, F => by
    have := zeroL_out ha b r (putF F h f.1 0)
    refine this.trans ?_
    show (if (a, b) = (h, f.1) then 0 else F a b) = F a b
    exact if_neg fun z => ha (Prod.mk.inj z).1
theorem zeroL_all {p : Pd} (hP : WfP p) {kvs : List (List L2.Key × V)} {F : Fv} (df : DF (refsOf p.hs p.m) kvs F) {h : Hd} (hh : h ∈ p.hs) : zeroL F h.1 h.2 = zeroF F h.1 := by
  funext a b
  unfold zeroF
  by_cases e : a = h.1
  · rw [if_pos e, e]
    by_cases k : ∃ f ∈ h.2, f.1 = b
    · exact zeroL_in _ _ _ (.inl k)
    · refine zeroL_in _ _ _ (.inr (df.out (fun z => (hd_ne hP.wh hP.h6 hP.wm hh).1 (Prod.mk.inj z).1) fun w hw => k ?_))
      rcases ref_cases hw with z | ⟨i, j, h', f, ei, ej, z⟩ | ⟨j, f, ej, z⟩
      · exact absurd (Prod.mk.inj z).1 (hd_ne hP.wh hP.h6 hP.wm hh).1
      · obtain ⟨z1, z2⟩ := Prod.mk.inj z
        have := hd_eq hP.wh hP.h6 hP.wm hh (List.mem_of_getElem? ei) z1
        subst this
        exact ⟨f, List.mem_of_getElem? ej, (Prod.mk.inj z2).1.symm⟩
      · exact absurd (Prod.mk.inj z).1 (hd_ne hP.wh hP.h6 hP.wm hh).2
  · rw [if_neg e, zeroL_out e]
theorem hd_at {p : Pd} (hP : WfP p) {h : Hd} (hh : h ∈ p.hs) : ∃ i, p.hs[i]? = some h ∧ (∀ e ∈ p.hs.map hdL, ∃ n, e[1]? = some (PyData.str n)) ∧ (p.hs.map hdL)[i]? = some (hdL h) ∧ ∀ (j' : Nat) (e' : List PyData), j' < i → (p.hs.map hdL)[j']? = some e' → e'[1]? ≠ some (PyData.str h.1) := by
  obtain ⟨i, eh⟩ := List.mem_iff_getElem?.mp hh
  refine ⟨i, eh, fun e he => ?_, by rw [List.getElem?_map, eh]; rfl, fun j' e' hj' he' z => ?_⟩
  · obtain ⟨y, _, rfl⟩ := List.mem_map.mp he
    exact ⟨_, rfl⟩
  · rw [List.getElem?_map] at he'
    obtain ⟨b, eb, rfl⟩ := Option.map_eq_some_iff.mp he'
    refine ahead_ne hP.wh hP.h6 eh (h' := b) ?_ (PyData.str.inj (Option.some.inj z))
    exact List.mem_of_getElem? (i := j') (by rw [List.getElem?_take_of_lt hj']; exact eb)
section
variable {P : Program} {w : World} {K : PySem.W.Frag} {mg : Str → Option Value} {base : Heap}
def spZeroL (K : PySem.W.Frag) : Sp := fun vs H Q _ => ∃ (v : V) (pp pd pv pz : Addr) (p : Pd) (port : Nat) (s : Ms) (zs : List V) (G : Hp) (h : Hd), vs = [v, .ref pp, .str h.1] ∧ Pq H p pp pd pv pz port s zs ∧ Same G H ∧ PgK K G v p ∧ h ∈ p.hs ∧ (∀ b ∈ [pp, pd, pv], G b = none) ∧
  ∀ H', Cg [pp, pd, pv] H H' → Pq H' p pp pd pv pz port { s with F := zeroF s.F h.1 } zs → Q .non H'
theorem ok_zeroL {f : Addr} {fd : FuncData} (F : Fun K "_law_zero" "_law_zero" sZeroL f fd)  (D1 : Df P w K mg base CX0 1 "_law_find" ["rows", "name"] (spFind K)) : FnOk P w K mg base CX0 2 f fd ["program", "p", "name"] (spZeroL K) := by
  obtain ⟨f1, fd1, G1, g1, k1, b1⟩ := D1.ex
  refine F.ok scZeroL (fun vs H Q E h => ?_) (fun cdv A outer s0 H vs Q E hr h => ?_)
  · obtain ⟨v, pp, pd, pv', pz, p, port, s, zs, G, h, rfl, _⟩ := h
    rfl
  · obtain ⟨v, pp, pd, pv', pz, p, port, s, zs, G, h, rfl, hp, sG, hP, hh, hg, q⟩ := h
    have nd := scZeroL.nd
    refine ⟨_, (pss_one (ps_for PassesOwn.never rfl (pi_list (pe_ix ix_tup (pe_call G1 (hr.mono (by omega)) (by rfl) g1 k1 b1 .nil pass0 (pa_cons (pe_ix ix_tup (pv 0) pe_int (fun _ _ => rfl)) (pa_cons (pv 2) pa_nil))) pe_int (fun _ _ => rfl))) (pg_tup (by rfl) (pgs_cons (pg_name (i := 3) nd rfl (.inl rfl)) (pgs_cons (pg_name (i := 4) nd rfl (.inl rfl)) pgs_nil)))
        (pss_one (ps_asg pe_int (pg_sub (pe_ix ix_list (pv 1) pe_int (fun _ _ => rfl)) (pe_tup (pa_cons (pv 2) (pa_cons (pv 3) pa_nil))) (set_dict (hu_of hr))))))), ?_⟩
    obtain ⟨i, eh, f1', f2', f3'⟩ := hd_at hP.wf hh
    obtain ⟨pg, gs, rfl, pg1, pg2⟩ := dp_tup hP.D
    obtain ⟨xh, exh, hxh⟩ := dpAll_at pg2 (i := 2) (d := hdsD p.hs) rfl
    rw [hdsD_eq] at hxh
    have hf8 : h.2.length ≤ 8 := (hd_sx hP.wh hP.h6 hh).2.2.1
    have h6 := hP.h6
    refine ⟨_, rfl, pg, _, _, _, rfl, rfl, sqT_sub sG pg1, atI_nat (j := 2) exh, _, rfl, ?_⟩
    dsimp only [tNil]
    refine ⟨xh, G, p.hs.map hdL, h.1, i, hdL h, rfl, sG, hxh, by rw [List.length_map]; omega, f1', f2', rfl, f3', fun H1 x1 s1 dh => ?_⟩
    obtain ⟨ph, zs', rfl, z1, z2⟩ := dp_tup dh
    obtain ⟨y0, r, rfl, d0, z2⟩ := dpAll_cons z2
    obtain ⟨y1, r, rfl, d1, z2⟩ := dpAll_cons z2
    obtain ⟨y2, r, rfl, d2, z2⟩ := dpAll_cons z2
    obtain rfl := dpAll_nil z2
    obtain ⟨pf, fs, rfl, g1', g2'⟩ := dp_lst d2
    have lf := dpAll_len g2'
    rw [List.length_map] at lf
    have sG1 := sG.trans s1
    refine ⟨ph, _, _, _, rfl, rfl, sqT_sub sG1 z1, atI_nat (j := 2) rfl, pf, rfl, ⟨_, sqL_sub sG1 g1'⟩, for_list (K := K) (D := { nx := fun _ H2 => Q .non H2, rt := Q }) (a := pf) (xs := fs) (fun j σ H2 => Cg [pp, pd, pv'] H H2 ∧ Same G H2 ∧ Pq H2 p pp pd pv' pz port { s with F := zeroL s.F h.1 (h.2.take j) } zs ∧ ∃ o3 o4, σ = [some (.ref pg), some (.ref pp), some (.str h.1), o3, o4]) ⟨Cg.of s1, sG1, hp.same s1, none, none, rfl⟩ (fun j σ H2 _ hh => sqL_sub hh.2.1 g1') ?_ ?_⟩
    · rintro j y σ H2 hy ⟨c2, sG2, hp2, o3, o4, rfl⟩
      obtain ⟨d', ed', hd⟩ := dpAll_val g2' hy
      rw [List.getElem?_map] at ed'
      obtain ⟨c, ec, ed''⟩ := Option.map_eq_some_iff.mp ed'
      subst ed''
      obtain ⟨pt, ts, rfl, u1, u2⟩ := dp_tup hd
      obtain ⟨w0, t, rfl, n0, u2⟩ := dpAll_cons u2
      obtain ⟨w1, t, rfl, n1, u2⟩ := dpAll_cons u2
      obtain rfl := dpAll_nil u2
      obtain rfl := dp_str n0
      refine ⟨pt, _, rfl, sqT_sub sG2 u1, rfl, _, _, rfl, _, _, rfl, rfl, ?_⟩
      refine ⟨_, rfl, pp, _, _, _, rfl, rfl, SqL.of hp2.e, atI_nat (j := 0) rfl, _, rfl, _, rfl, (by show 2 ≤ sizeLine; decide), fun t ht => ?_⟩
      have st := same_new (o := .tup [V.str h.1, .str c.1]) ht
      have et : (upd H2 t (.tup [V.str h.1, .str c.1])) t = some (.tup ((keyX h.1 c.1).map kV)) := upd_same
      generalize upd H2 t (.tup [V.str h.1, .str c.1]) = H3 at st et ⊢
      have hp3 := hp2.same st
      obtain ⟨kvs, ed, df⟩ := hp3.d
      have hr := fld_ref hP.wh hP.h6 hP.wm hh (List.mem_of_getElem? ec)
      have hl := df.len
      have hl2 := refs_le hP.wf
      refine ⟨pd, _, rfl, DPut.t (k := keyX h.1 c.1) ed et (small1000 (by omega)), ?_⟩
      have hp4 := hp3.setD (df.put hr 0)
      refine ⟨((c2.trans (Cg.of st)).set (List.mem_cons_of_mem _ List.mem_cons_self)), same_set (sG2.trans st) (hg pd (List.mem_cons_of_mem _ List.mem_cons_self)), ?_, _, _, rfl⟩
      rw [zeroL_step ec]
      exact hp4
    · rintro σ H2 ⟨c2, sG2, hp2, o3, o4, rfl⟩
      rw [lf, List.take_length] at hp2
      obtain ⟨kvs, _, df0⟩ := hp.d
      rw [zeroL_all hP.wf df0 hh] at hp2
      exact q H2 c2 hp2
/-- one operation -/
def spPerfL (K : PySem.W.Frag) : Sp := fun vs H Q _ => ∃ (v y : V) (pp pd pv pz pn : Addr) (p : Pd) (port : Nat) (s : Ms) (zs : List V) (G : Hp) (ps : List Fl) (A : Str → Int) (o : Op), vs = [v, .ref pp, y, .ref pn] ∧ Pq H p pp pd pv pz port s zs ∧ Same G H ∧ PgK K G v p ∧ Dr G y (.tuple (opL o)) ∧ OpOk p.hs (refsOf p.hs p.m) ps o ∧ Nm H pn ps A ∧ (∀ b ∈ [pp, pd, pv], G b = none) ∧
  ∀ H', Cg [pp, pd, pv] H H' → Pq H' p pp pd pv pz port (perf port p.W A s o) zs → Q .non H'
theorem op_nes2 : Str.ofString "drop" ≠ Str.ofString "add" ∧ Str.ofString "remove" ≠ Str.ofString "add" := by decide +kernel
theorem erase_str (l : List Str) (x : Str) (h : x ∈ l) : ∃ j : Nat, (l.map V.str)[j]? = some (.str x) ∧ (∀ (m : Nat) (z' : V), m < j → (l.map V.str)[m]? = some z' → eqV z' (.str x) = false) ∧ (l.map V.str).eraseIdx j = (l.erase x).map V.str := by
  induction l with
  | nil => cases h
  | cons a r ih =>
    by_cases e : a = x
    · subst e
      exact ⟨0, rfl, fun m z' hm => by omega, by rw [List.erase_cons_head]; rfl⟩
    · rcases List.mem_cons.mp h with h | h
      · exact absurd h.symm e
      · obtain ⟨j, h1, h2, h3⟩ := ih h
        refine ⟨j + 1, h1, fun m z' hm hz => ?_, ?_⟩
        · cases m with
          | zero =>
            cases hz
            show (a == x) = false
            exact beq_eq_false_iff_ne.mpr e
          | succ m => exact h2 m z' (by omega) hz
        · rw [List.erase_cons_tail (by exact fun z => e (eq_of_beq z)), List.map_cons, List.map_cons, List.eraseIdx_cons_succ, h3]
theorem ok_perfL {f : Addr} {fd : FuncData} (F : Fun K "_law_perform" "_law_perform" sPerfL f fd) (zInt : mg "int" = none) (D1 : Df P w K mg base CX0 3 "_law_evaluate" ["p", "e", "names"] (spEvalL K)) (D2 : Df P w K mg base CX0 1 "_law_width" ["program", "field"] (spWidL K)) (D3 : Df P w K mg base CX0 2 "_law_zero" ["program", "p", "name"] (spZeroL K)) : FnOk P w K mg base CX0 4 f fd ["program", "p", "op", "names"] (spPerfL K) := by
  obtain ⟨f1, fd1, G1, g1, k1, b1⟩ := D1.ex
  obtain ⟨f2, fd2, G2, g2, k2, b2⟩ := D2.ex
  obtain ⟨f3, fd3, G3, g3, k3, b3⟩ := D3.ex
  refine F.ok scPerfL (fun vs H Q E h => ?_) (fun cdv A outer s0 H vs Q E hr h => ?_)
  · obtain ⟨v, y, pp, pd, pv', pz, pn, p, port, s, zs, G, ps, A, o, rfl, _⟩ := h
    rfl
  · obtain ⟨v, y, pp, pd, pv', pz, pn, p, port, s, zs, G, ps, A, o, rfl, hp, sG, hP, hy, ok, hn, hg, q⟩ := h
    have nd := scPerfL.nd
    refine ⟨_, (pss_one (ps_if (pt_cmpR op_eq (pe_ix ix_tup (pv 2) pe_int (fun _ _ => rfl)) pe_str (nomark _)) (pss_cons (ps_set (i := 4) nd rfl (.inl rfl) (pe_op op_mod (pe_callTy call_int1 (by rfl) zInt (by decide +kernel) (pa_cons (pe_call G1 (hr.mono (by omega)) (by rfl) g1 k1 b1 .nil pass0 (pa_cons (pv 1) (pa_cons (pe_ix ix_tup (pv 2) pe_int (fun _ _ => rfl)) (pa_cons (pv 3) pa_nil)))) pa_nil)) (pe_op op_shl pe_int (pe_call G2 (hr.mono (by omega)) (by rfl) g2 k2 b2 .nil pass0 (pa_cons (pv 0) (pa_cons (pe_ix ix_tup (pv 2) pe_int (fun _ _ => rfl)) pa_nil))))))
        (pss_one (ps_if (PW.pt (pw_or (pt_cmpR op_eq (pe_ix ix_tup (pe_ix ix_tup (pv 2) pe_int (fun _ _ => rfl)) pe_int (fun _ _ => rfl)) pe_str (nomark _)) (pw_or1 (pt_cmpR op_in_seq (pe_ix ix_tup (pe_ix ix_tup (pv 2) pe_int (fun _ _ => rfl)) pe_int (fun _ _ => rfl)) (pe_ix ix_list (pv 1) pe_int (fun _ _ => rfl)) (by rfl))))) (pss_one (ps_asg (pv 4) (pg_sub (pe_ix ix_list (pv 1) pe_int (fun _ _ => rfl)) (pe_ix ix_tup (pv 2) pe_int (fun _ _ => rfl)) (set_dict (hu_of hr))))) pss_nil))) (pss_one (ps_if (pt_cmpR op_eq (pe_ix ix_tup (pv 2) pe_int (fun _ _ => rfl)) pe_str (nomark _)) (pss_cons (ps_set (i := 4) nd rfl (.inl rfl) (pe_call G1 (hr.mono (by omega)) (by rfl) g1 k1 b1 .nil pass0 (pa_cons (pv 1) (pa_cons (pe_ix ix_tup (pv 2) pe_int (fun _ _ => rfl)) (pa_cons (pv 3) pa_nil)))))
          (pss_one (ps_asg (pe_ifExp (PW.pt (pw_and (pt_cmpR op_le pe_int (pv 4) (nomark _)) (pw_and1 (pt_cmpR op_lt (pv 4) pe_int (nomark _))))) (pv 4) pe_non) (pg_sub (pv 1) pe_int set_list)))) (pss_one (ps_if (pt_cmpR op_eq (pe_ix ix_tup (pv 2) pe_int (fun _ _ => rfl)) pe_str (nomark _)) (pss_one (ps_asg pe_non (pg_sub (pv 1) pe_int set_list))) (pss_one (ps_if (pt_cmpR op_eq (pe_ix ix_tup (pv 2) pe_int (fun _ _ => rfl)) pe_str (nomark _)) (pss_one (ps_if (pt_cmpR op_notIn_seq (pe_ix ix_tup (pv 2) pe_int (fun _ _ => rfl)) (pe_ix ix_list (pv 1) pe_int (fun _ _ => rfl)) (by rfl)) (pss_cons (ps_expr (pe_call G3 (hr.mono (by omega)) (by rfl) g3 k3 b3 .nil pass0 (pa_cons (pv 0) (pa_cons (pv 1) (pa_cons (pe_ix ix_tup (pv 2) pe_int (fun _ _ => rfl)) pa_nil)))))
                (pss_one (ps_expr (pe_bm PySem.F.plainAttrs_list PySem.F.slot_list_append PySem.F.type_list_append mt_append (pe_ix ix_list (pv 1) pe_int (fun _ _ => rfl)) (pa_cons (pe_ix ix_tup (pv 2) pe_int (fun _ _ => rfl)) pa_nil))))) pss_nil)) (pss_cons (ps_expr (pe_call G3 (hr.mono (by omega)) (by rfl) g3 k3 b3 .nil pass0 (pa_cons (pv 0) (pa_cons (pv 1) (pa_cons (pe_ix ix_tup (pv 2) pe_int (fun _ _ => rfl)) pa_nil)))))
              (pss_one (ps_if (pt_cmpR op_in_seq (pe_ix ix_tup (pv 2) pe_int (fun _ _ => rfl)) (pe_ix ix_list (pv 1) pe_int (fun _ _ => rfl)) (by rfl)) (pss_one (ps_expr (pe_bm PySem.F.plainAttrs_list PySem.F.slot_list_remove PySem.F.type_list_remove mt_removeF (pe_ix ix_list (pv 1) pe_int (fun _ _ => rfl)) (pa_cons (pe_ix ix_tup (pv 2) pe_int (fun _ _ => rfl)) pa_nil)))) pss_nil))))))))))), ?_⟩
    have hgd := hg pd (List.mem_cons_of_mem _ List.mem_cons_self)
    have hwf := hP.wf
    have hgp : ∀ {b : Addr}, b ∈ [pp, pd, pv'] → G b = none := fun h => hg _ h
    have hpd : pd ∈ [pp, pd, pv'] := List.mem_cons_of_mem _ List.mem_cons_self
    have hpp : pp ∈ [pp, pd, pv'] := List.mem_cons_self
    have hpv : pv' ∈ [pp, pd, pv'] := List.mem_cons_of_mem _ (List.mem_cons_of_mem _ List.mem_cons_self)
    cases hy with
    | @tup py ys _ y1 y2 =>
    cases o with
    | set o n e =>
      obtain ⟨⟨wd, hw⟩, oke⟩ := ok
      obtain ⟨hr', hpk, hW⟩ := drop_ref hP.wh hP.h6 hP.wm hw
      have hwd : wd ≤ 32 := (refs_sx hP.wh hP.h6 hP.wm _ hr').2.2
      cases y2 with
      | @cons v0 r _ _ a0 y2 =>
      cases y2 with
      | @cons v1 r _ _ a1 y2 =>
      cases y2 with
      | @cons v2 r _ _ a2 y2 =>
      cases y2
      cases a0
      cases a1 with
      | @tup pf fs _ f1' f2' =>
      obtain ⟨x0, r, rfl, b0, f2'⟩ := drAll_cons f2'
      obtain ⟨x1, r, rfl, b1, f2'⟩ := drAll_cons f2'
      obtain rfl := drAll_nil f2'
      obtain rfl := dr_str b0
      obtain rfl := dr_str b1
      refine ⟨_, rfl, py, _, _, _, rfl, rfl, sqT_subz sG y1, atI_nat (j := 0) rfl, rfl, _, rfl, ?_⟩
      rw [dcStr]
      refine iteDT rfl ?_
      refine ⟨_, rfl, _, rfl, py, _, _, _, rfl, rfl, sqT_subz sG y1, atI_nat (j := 2) rfl, _, rfl, ?_⟩
      dsimp only [tNil]
      refine ⟨pp, pd, pv', pz, pn, v2, p, port, s, zs, G, ps, A, e, rfl, hp, sG, hwf, dr_dp a2, oke, hn, fun H1 s1 => ?_⟩
      have sG1 := sG.trans s1
      obtain ⟨z, hz⟩ : ∃ z : Int, z = evV port s.F A e := ⟨_, rfl⟩
      rw [← hz]
      refine .inl ⟨_, rfl, ?_⟩
      refine ⟨_, rfl, _, rfl, py, _, _, _, rfl, rfl, sqT_subz sG1 y1, atI_nat (j := 1) rfl, ?_⟩
      dsimp only [tNil]
      refine ⟨v, .ref pf, G, G, p.nm, p.hs, p.m, p.sts, p.acs, p.tbs, p.ct, p.em, (o, n, wd), rfl, sG1, hP.D, hP.wh, hP.h6, hP.wm, sG1, .tup (SqT.of f1') (.cons (.str _) (.cons (.str _) .nil)), hr', fun H2 s2 => ?_⟩
      have s12 := s1.trans s2
      have sG2 := sG.trans s12
      refine ⟨_, _, rfl, rfl, ⟨show 0 ≤ ((wd : Nat) : Int) by omega, show ((wd : Nat) : Int) ≤ 1000000 by omega, by decide +kernel⟩, ?_⟩
      dsimp only
      rw [Int.toNat_natCast, Int.one_mul]
      refine ⟨_, _, rfl, rfl, Int.pow_pos (by decide), ?_⟩
      have e0 : z % 2 ^ wd = ((z % 2 ^ wd).toNat : Int) := (Int.toNat_of_nonneg (Int.emod_nonneg _ (by have := Int.pow_pos (n := 2) (m := wd) (by decide); omega))).symm
      dsimp only
      rw [e0]
      have hp2 := hp.same s12
      have fin : (o = Str.ofString "meta" ∨ o ∈ s.vs) → ∀ H3, Same H2 H3 → ∃ kvs, H3 pd = some (.dT kvs) ∧ kvs.length < sizeLine ∧ H3 pf = some (.tup ((keyX o n).map kV)) ∧ Q .non (upd H3 pd (.dT (putK kvs (keyX o n) (.int ((z % 2 ^ wd).toNat : Int))))) := fun c H3 s3 => by
        have hp3 := hp2.same s3
        obtain ⟨kvs, ed, df⟩ := hp3.d
        have hl := df.len
        have hl2 := refs_le hwf
        refine ⟨kvs, ed, small1000 (by omega), (sG2.trans s3) _ _ f1', ?_⟩
        refine q _ ((Cg.of (s12.trans s3)).set hpd) ?_
        rw [perf_setT c, ← hz, hW]
        exact hp3.setD (df.put hr' _)
      have fin2 : ¬ (o = Str.ofString "meta" ∨ o ∈ s.vs) → Q .non H2 := fun c => by
        refine q _ (Cg.of s12) ?_
        rw [perf_setF c]
        exact hp2
      refine ⟨_, rfl, py, _, _, _, rfl, rfl, sqT_subz sG2 y1, atI_nat (j := 1) rfl, pf, _, _, _, rfl, rfl, sqT_subz sG2 f1', atI_nat (j := 0) rfl, rfl, _, rfl, ?_⟩
      rw [dcStr]
      by_cases c1 : o = Str.ofString "meta"
      · refine iteDT c1 ?_
        refine iteT ?_
        obtain ⟨kvs, k1', k2', k3', k4'⟩ := fin (.inl c1) H2 (Same.refl _)
        exact ⟨_, rfl, _, rfl, pp, _, _, _, rfl, rfl, SqL.of hp2.e, atI_nat (j := 0) rfl, _, rfl, py, _, _, _, rfl, rfl, sqT_subz sG2 y1, atI_nat (j := 1) rfl, pd, _, rfl, DPut.t (k := keyX o n) k1' k3' k2', k4'⟩
      · refine iteDF c1 ?_
        refine ⟨_, rfl, py, _, _, _, rfl, rfl, sqT_subz sG2 y1, atI_nat (j := 1) rfl, pf, _, _, _, rfl, rfl, sqT_subz sG2 f1', atI_nat (j := 0) rfl, _, rfl, pp, _, _, _, rfl, rfl, SqL.of hp2.e, atI_nat (j := 1) rfl, pv', _, rfl, .inl (SqL.of hp2.v), rfl, flat_strs _, _, rfl, ?_⟩
        rw [inV_str]
        refine iteD (fun c2 => ?_) fun c2 => ?_
        · obtain ⟨kvs, k1', k2', k3', k4'⟩ := fin (.inr c2) H2 (Same.refl _)
          exact ⟨_, rfl, _, rfl, pp, _, _, _, rfl, rfl, SqL.of hp2.e, atI_nat (j := 0) rfl, _, rfl, py, _, _, _, rfl, rfl, sqT_subz sG2 y1, atI_nat (j := 1) rfl, pd, _, rfl, DPut.t (k := keyX o n) k1' k3' k2', k4'⟩
        · exact fin2 fun c => c.elim c1 c2
    | drp =>
      obtain ⟨v0, r, rfl, a0, y2⟩ := drAll_cons y2
      obtain rfl := dr_str a0
      refine ⟨_, rfl, py, _, _, _, rfl, rfl, sqT_subz sG y1, atI_nat (j := 0) rfl, rfl, _, rfl, ?_⟩
      rw [dcStr]
      refine iteDF op_nes.2.2.1 ?_
      refine ⟨_, rfl, py, _, _, _, rfl, rfl, sqT_subz sG y1, atI_nat (j := 0) rfl, rfl, _, rfl, ?_⟩
      rw [dcStr]
      refine iteDF op_nes.2.2.2.1 ?_
      refine ⟨_, rfl, py, _, _, _, rfl, rfl, sqT_subz sG y1, atI_nat (j := 0) rfl, rfl, _, rfl, ?_⟩
      rw [dcStr]
      refine iteDT rfl ?_
      refine ⟨_, rfl, pp, _, _, 2, rfl, rfl, hp.e, ixN_at (j := 2) (by show 2 < 5; decide), ?_⟩
      exact q _ ((Cg.refl _ _).set hpp) (hp.setO none)
    | snd e =>
      obtain ⟨v0, r, rfl, a0, y2⟩ := drAll_cons y2
      obtain ⟨v1, r, rfl, a1, y2⟩ := drAll_cons y2
      obtain rfl := dr_str a0
      refine ⟨_, rfl, py, _, _, _, rfl, rfl, sqT_subz sG y1, atI_nat (j := 0) rfl, rfl, _, rfl, ?_⟩
      rw [dcStr]
      refine iteDF op_nes.2.1 ?_
      refine ⟨_, rfl, py, _, _, _, rfl, rfl, sqT_subz sG y1, atI_nat (j := 0) rfl, rfl, _, rfl, ?_⟩
      rw [dcStr]
      refine iteDT rfl ?_
      refine ⟨_, rfl, _, rfl, py, _, _, _, rfl, rfl, sqT_subz sG y1, atI_nat (j := 1) rfl, _, rfl, ?_⟩
      dsimp only [tNil]
      refine ⟨pp, pd, pv', pz, pn, v1, p, port, s, zs, G, ps, A, e, rfl, hp, sG, hwf, dr_dp a1, ok, hn, fun H1 s1 => ?_⟩
      have hp1 := hp.same s1
      obtain ⟨z, hz⟩ : ∃ z : Int, z = evV port s.F A e := ⟨_, rfl⟩
      rw [← hz]
      have fin : Q .non (upd H1 pp (.lst [.ref pd, .ref pv', outV (portOf z), .int (port : Nat), .ref pz])) := by
        refine q _ ((Cg.of s1).set hpp) ?_
        have := hp1.setO (portOf z)
        rw [hz] at this ⊢
        exact this
      refine ⟨_, rfl, _, _, rfl, rfl, _, rfl, ?_⟩
      refine iteD (fun h0 => ?_) fun h0 => ?_
      · refine ⟨_, rfl, _, _, rfl, rfl, _, rfl, ?_⟩
        refine iteD (fun h1 => ?_) fun h1 => ?_
        · refine ⟨_, rfl, _, rfl, pp, _, _, 2, rfl, rfl, hp1.e, ixN_at (j := 2) (by show 2 < 5; decide), ?_⟩
          unfold portOf at fin
          rw [if_pos ⟨h0, h1⟩] at fin
          have e : outV (some z.toNat) = .int z := by
            show V.int ((z.toNat : Nat) : Int) = _
            rw [Int.toNat_of_nonneg h0]
          rw [e] at fin
          exact fin
        · refine ⟨_, rfl, pp, _, _, 2, rfl, rfl, hp1.e, ixN_at (j := 2) (by show 2 < 5; decide), ?_⟩
          unfold portOf at fin
          rw [if_neg fun c => h1 c.2] at fin
          exact fin
      · refine iteF ?_
        refine ⟨_, rfl, pp, _, _, 2, rfl, rfl, hp1.e, ixN_at (j := 2) (by show 2 < 5; decide), ?_⟩
        unfold portOf at fin
        rw [if_neg fun c => h0 c.1] at fin
        exact fin
    | add h =>
      obtain ⟨hd, hh, rfl⟩ := ok
      obtain ⟨v0, r, rfl, a0, y2⟩ := drAll_cons y2
      obtain ⟨v1, r, rfl, a1, y2⟩ := drAll_cons y2
      obtain rfl := dr_str a0
      obtain rfl := dr_str a1
      refine ⟨_, rfl, py, _, _, _, rfl, rfl, sqT_subz sG y1, atI_nat (j := 0) rfl, rfl, _, rfl, ?_⟩
      rw [dcStr]
      refine iteDF op_nes.2.2.2.2.1 ?_
      refine ⟨_, rfl, py, _, _, _, rfl, rfl, sqT_subz sG y1, atI_nat (j := 0) rfl, rfl, _, rfl, ?_⟩
      rw [dcStr]
      refine iteDF op_nes.2.2.2.2.2.1 ?_
      refine ⟨_, rfl, py, _, _, _, rfl, rfl, sqT_subz sG y1, atI_nat (j := 0) rfl, rfl, _, rfl, ?_⟩
      rw [dcStr]
      refine iteDF op_nes.2.2.2.2.2.2.1 ?_
      refine ⟨_, rfl, py, _, _, _, rfl, rfl, sqT_subz sG y1, atI_nat (j := 0) rfl, rfl, _, rfl, ?_⟩
      rw [dcStr]
      refine iteDT rfl ?_
      refine ⟨_, rfl, py, _, _, _, rfl, rfl, sqT_subz sG y1, atI_nat (j := 1) rfl, _, rfl, pp, _, _, _, rfl, rfl, SqL.of hp.e, atI_nat (j := 1) rfl, pv', _, rfl, .inl (SqL.of hp.v), rfl, flat_strs _, _, rfl, ?_⟩
      dsimp only
      rw [if_pos rfl, inV_str]
      refine iteDn (fun c => ?_) fun c => ?_
      · refine ⟨_, rfl, _, rfl, _, rfl, py, _, _, _, rfl, rfl, sqT_subz sG y1, atI_nat (j := 1) rfl, ?_⟩
        dsimp only [tNil]
        refine ⟨v, pp, pd, pv', pz, p, port, s, zs, G, hd, rfl, hp, sG, hP, hh, hg, fun H1 c1 hp1 => ?_⟩
        have sG1 := c1.sub sG hg
        have l6 := hp1.len hwf
        refine ⟨_, rfl, pp, _, _, _, rfl, rfl, SqL.of hp1.e, atI_nat (j := 1) rfl, .inl ⟨rfl, _, SqL.of hp1.v⟩, _, rfl, py, _, _, _, rfl, rfl, sqT_subz sG1 y1, atI_nat (j := 1) rfl, pv', _, _, rfl, rfl, hp1.v, ?_, ?_⟩
        · rw [List.length_map]
          exact small1000 (by have : s.vs.length ≤ 6 := l6; omega)
        · refine q _ (c1.set hpv) ?_
          rw [perf_addF c]
          have := hp1.setV (vs := s.vs ++ [hd.1]) (List.nodup_append.mpr ⟨hp.vn, List.nodup_cons.mpr ⟨List.not_mem_nil, List.nodup_nil⟩, fun a ha b hb e => c (by rw [← List.mem_singleton.mp hb, ← e]; exact ha)⟩) (fun x hx => by
            rcases List.mem_append.mp hx with hx | hx
            · exact hp.vh x hx
            · exact ⟨hd, hh, (List.mem_singleton.mp hx).symm⟩)
          rw [List.map_append] at this
          exact this
      · refine q _ (Cg.refl _ _) ?_
        rw [perf_addT c]
        exact hp
    | rem h =>
      obtain ⟨hd, hh, rfl⟩ := ok
      obtain ⟨v0, r, rfl, a0, y2⟩ := drAll_cons y2
      obtain ⟨v1, r, rfl, a1, y2⟩ := drAll_cons y2
      obtain rfl := dr_str a0
      obtain rfl := dr_str a1
      refine ⟨_, rfl, py, _, _, _, rfl, rfl, sqT_subz sG y1, atI_nat (j := 0) rfl, rfl, _, rfl, ?_⟩
      rw [dcStr]
      refine iteDF op_nes.2.2.2.2.2.2.2.1 ?_
      refine ⟨_, rfl, py, _, _, _, rfl, rfl, sqT_subz sG y1, atI_nat (j := 0) rfl, rfl, _, rfl, ?_⟩
      rw [dcStr]
      refine iteDF op_nes.2.2.2.2.2.2.2.2.1 ?_
      refine ⟨_, rfl, py, _, _, _, rfl, rfl, sqT_subz sG y1, atI_nat (j := 0) rfl, rfl, _, rfl, ?_⟩
      rw [dcStr]
      refine iteDF op_nes.2.2.2.2.2.2.2.2.2 ?_
      refine ⟨_, rfl, py, _, _, _, rfl, rfl, sqT_subz sG y1, atI_nat (j := 0) rfl, rfl, _, rfl, ?_⟩
      rw [dcStr]
      refine iteDF op_nes2.2 ?_
      refine ⟨_, rfl, _, rfl, _, rfl, py, _, _, _, rfl, rfl, sqT_subz sG y1, atI_nat (j := 1) rfl, ?_⟩
      dsimp only [tNil]
      refine ⟨v, pp, pd, pv', pz, p, port, s, zs, G, hd, rfl, hp, sG, hP, hh, hg, fun H1 c1 hp1 => ?_⟩
      have sG1 := c1.sub sG hg
      refine ⟨_, rfl, py, _, _, _, rfl, rfl, sqT_subz sG1 y1, atI_nat (j := 1) rfl, _, rfl, pp, _, _, _, rfl, rfl, SqL.of hp1.e, atI_nat (j := 1) rfl, pv', _, rfl, .inl (SqL.of hp1.v), rfl, flat_strs _, _, rfl, ?_⟩
      rw [inV_str]
      refine iteD (fun c => ?_) fun c => ?_
      · obtain ⟨j, e1, e2, e3⟩ := erase_str s.vs hd.1 c
        refine ⟨_, rfl, pp, _, _, _, rfl, rfl, SqL.of hp1.e, atI_nat (j := 1) rfl, .inl ⟨rfl, _, SqL.of hp1.v⟩, _, rfl, py, _, _, _, rfl, rfl, sqT_subz sG1 y1, atI_nat (j := 1) rfl, pv', _, _, j, .str hd.1, rfl, rfl, hp1.v, rfl, flat_strs _, e1, beq_self_eq_true hd.1, e2, ?_⟩
        refine q _ (c1.set hpv) ?_
        have := hp1.setV (vs := s.vs.erase hd.1) (hp.vn.erase _) (fun x hx => hp.vh x (List.mem_of_mem_erase hx))
        rw [← e3] at this
        exact this
      · refine q _ c1 ?_
        show Pq H1 p pp pd pv' pz port { s with F := zeroF s.F hd.1, vs := s.vs.erase hd.1 } zs
        rw [List.erase_of_not_mem c]
        exact hp1
end
end Pk
set_option Elab.async false
set_option linter.all false
set_option maxRecDepth 100000
set_option maxHeartbeats 4000000
/-! the law's own list of cells and its moves -/
namespace Pk
open PySem PySem.Spec PyProof.Rows L2 SX GxR Tk
theorem hu65 {A : Around} {k : Nat} (hr : Room k A) : A.units + 65 < cLine := by have := hr.un; omega
abbrev sRowsL : Stmt := topS 78
abbrev NRowsL : List Str := ["program", "cells", "header", "name", "width"]
theorem scRowsL : FnScope NRowsL ["program"] (defScope sRowsL) := ⟨rfl, rfl, rfl, by decide +kernel, rfl, by decide +kernel, by decide +kernel⟩
abbrev sMvOd : Stmt := topS 79
abbrev NMvOd : List Str := ["places", "names", "operand"]
theorem scMvOd : FnScope NMvOd ["places", "names", "operand"] (defScope sMvOd) := ⟨rfl, rfl, rfl, by decide +kernel, rfl, by decide +kernel, by decide +kernel⟩
/-- a place as the law writes it -/
def lz : PyData → PyData
  | .none => prD "out" ""
  | .str h => prD h ""
  | d => d
def rowL (c : PyData × Nat) : List PyData := [lz c.1, .int (c.2 : Nat)]
def rowsD (p : Pd) : PyData := .list ((cellsL p.hs p.m).map fun c => .tuple (rowL c))
def lzL (p : Pd) : List PyData := (placesL p.hs p.m).map lz
theorem dg_out : digOf (Str.ofString "out") = none := by decide +kernel
theorem out_ne : Str.ofString "out" ≠ Str.ofString "packet" ∧ Str.ofString "out" ≠ Str.ofString "meta" ∧ Str.ofString "port" ≠ Str.ofString "" := by decide +kernel
theorem nm_nonempty {k : Nat} {x : Str} (h : NmK k x) : x ≠ Str.ofString "" := fun z => by
  have h1 := (nm_len h).1
  rw [z] at h1
  exact absurd h1 (by decide +kernel)
/-- the places, told apart -/
theorem place_kinds {p : Pd} (hP : WfP p) {z : PyData} (hz : z ∈ placesL p.hs p.m) : z = .none ∨ (∃ h ∈ p.hs, z = .str h.1) ∨ ∃ r ∈ refsOf p.hs p.m, z = prD r.1 r.2.1 := by
  rw [placesL_eq] at hz
  rcases List.mem_cons.mp hz with rfl | hz
  · exact .inr (.inr ⟨(Str.ofString "packet", Str.ofString "port", 3), List.mem_append_left _ List.mem_cons_self, rfl⟩)
  rcases List.mem_cons.mp hz with rfl | hz
  · exact .inl rfl
  rcases List.mem_append.mp hz with hz | hz
  · obtain ⟨h, hh, hz⟩ := List.mem_flatMap.mp hz
    rcases List.mem_cons.mp hz with rfl | hz
    · exact .inr (.inl ⟨h, hh, rfl⟩)
    · obtain ⟨f, hf, rfl⟩ := List.mem_map.mp hz
      exact .inr (.inr ⟨_, fld_ref hP.wh hP.h6 hP.wm hh hf, rfl⟩)
  · obtain ⟨f, hf, rfl⟩ := List.mem_map.mp hz
    exact .inr (.inr ⟨(Str.ofString "meta", f.1, f.2), List.mem_append_right _ (List.mem_map.mpr ⟨f, hf, rfl⟩), rfl⟩)
theorem ref_ne {p : Pd} (hP : WfP p) {r : Rf} (hr : r ∈ refsOf p.hs p.m) : r.1 ≠ Str.ofString "out" ∧ r.2.1 ≠ Str.ofString "" := by
  rcases ref_cases hr with rfl | ⟨i, j, h, f, ei, ej, rfl⟩ | ⟨j, f, ej, rfl⟩
  · exact ⟨Ne.symm out_ne.1, out_ne.2.2⟩
  · have hi := (List.getElem?_eq_some_iff.mp ei).1
    have h6 := hP.h6
    have wf := (hP.wh i h ei).2
    have hj := (List.getElem?_eq_some_iff.mp ej).1
    have := wf.2.1
    exact ⟨nm_ne_str (hP.wh i h ei).1 (by omega) _ dg_out, nm_nonempty ((wf.2.2.1 j f ej).1 (by omega))⟩
  · have hj := (List.getElem?_eq_some_iff.mp ej).1
    have := hP.wm.1
    exact ⟨Ne.symm out_ne.2.1, nm_nonempty ((hP.wm.2 j f ej).1 (by omega))⟩
theorem hd_out {p : Pd} (hP : WfP p) {h : Hd} (hh : h ∈ p.hs) : h.1 ≠ Str.ofString "out" := by
  obtain ⟨i, ei⟩ := List.mem_iff_getElem?.mp hh
  have hi := (List.getElem?_eq_some_iff.mp ei).1
  have h6 := hP.h6
  exact nm_ne_str (hP.wh i h ei).1 (by omega) _ dg_out
theorem lz_pr {p : Pd} (hP : WfP p) {z : PyData} (hz : z ∈ placesL p.hs p.m) : ∃ a b, lz z = prD a b ∧ Sx a ∧ Sx b := by
  have se : Sx (Str.ofString "") := by
    refine ⟨by decide +kernel, by decide +kernel⟩
  have so : Sx (Str.ofString "out") := ⟨by decide +kernel, by decide +kernel⟩
  rcases place_kinds hP hz with rfl | ⟨h, hh, rfl⟩ | ⟨r, hr, rfl⟩
  · exact ⟨_, _, rfl, so, se⟩
  · exact ⟨_, _, rfl, (hd_sx hP.wh hP.h6 hh).1, se⟩
  · have := refs_sx hP.wh hP.h6 hP.wm r hr
    exact ⟨_, _, rfl, this.1, this.2.1⟩
theorem lz_ne {p : Pd} (hP : WfP p) {z z' : PyData} (hz : z ∈ placesL p.hs p.m) (hz' : z' ∈ placesL p.hs p.m) (hne : z' ≠ z) : PyData.eqv (lz z') (lz z) = false := by
  have key : ∀ a b c d : Str, (a, b) ≠ (c, d) → PyData.eqv (prD a b) (prD c d) = false := fun a b c d h => by
    rw [prD_eqv]
    exact decide_eq_false h
  rcases place_kinds hP hz with rfl | ⟨h, hh, rfl⟩ | ⟨r, hr, rfl⟩ <;> rcases place_kinds hP hz' with rfl | ⟨h', hh', rfl⟩ | ⟨r', hr', rfl⟩
  · exact absurd rfl hne
  · exact key _ _ _ _ fun e => hd_out hP hh' (Prod.mk.inj e).1
  · exact key _ _ _ _ fun e => (ref_ne hP hr').1 (Prod.mk.inj e).1
  · exact key _ _ _ _ fun e => hd_out hP hh (Prod.mk.inj e).1.symm
  · exact key _ _ _ _ fun e => hne (by rw [(Prod.mk.inj e).1])
  · exact key _ _ _ _ fun e => (ref_ne hP hr').2 (Prod.mk.inj e).2
  · exact key _ _ _ _ fun e => (ref_ne hP hr).1 (Prod.mk.inj e).1.symm
  · exact key _ _ _ _ fun e => (ref_ne hP hr).2 (Prod.mk.inj e).2.symm
  · exact key _ _ _ _ fun e => hne (by rw [(Prod.mk.inj e).1, (Prod.mk.inj e).2])
theorem prs_shaped {l : List PyData} (h : ∀ d ∈ l, ∃ a b, d = prD a b ∧ Sx a ∧ Sx b) : SeqAt.shaped (.list l) = true := by
  have : PyData.canLayAll0 l = true ∧ PyData.depthAll l ≤ 1 := by
    induction l with
    | nil => exact ⟨rfl, Nat.zero_le _⟩
    | cons d r ih =>
      obtain ⟨h1, h2⟩ := ih fun x hx => h x (List.mem_cons_of_mem _ hx)
      obtain ⟨a, b, rfl, ha, hb⟩ := h d List.mem_cons_self
      refine ⟨?_, ?_⟩
      · show ((PyData.strOk a && (PyData.strOk b && true)) && PyData.canLayAll0 r) = true
        rw [ha.1, hb.1, h1]
        rfl
      · show max (max 0 (max 0 0) + 1) (PyData.depthAll r) ≤ 1
        omega
  obtain ⟨h1, h2⟩ := this
  show (PyData.canLayAll0 l && decide (PyData.depthAll l + 1 ≤ 64)) = true
  rw [h1, decide_eq_true (by omega)]
  rfl
theorem lzL_shaped {p : Pd} (hP : WfP p) : SeqAt.shaped (.list (lzL p)) = true := prs_shaped fun d hd => by
  obtain ⟨z, hz, rfl⟩ := List.mem_map.mp hd
  exact lz_pr hP hz
theorem rows_places (p : Pd) : (cellsL p.hs p.m).map (fun c => lz c.1) = lzL p := by
  unfold lzL placesL
  rw [List.map_map]
  rfl
section
variable {P : Program} {w : World} {K : PySem.W.Frag} {mg : Str → Option Value} {base : Heap}
/-- places.index(place) -/
theorem index_lz {H : Hp} {G : Hp} {pl : Addr} {y : V} {p : Pd} {z : PyData} {wd : Nat} {Q : VK} (hP : WfP p) (hL : Loc p.hs p.m z wd) (sG : Same G H) (dl : Dp K G (.ref pl) (.list (lzL p))) (dy : Dp K H y (lz z)) (q : Q (.int (fix p.hs p.m z : Nat)) H) : rIndexD K (.ref pl) [y] H Q := by
  have hm := List.mem_of_getElem? hL.fd.at_
  obtain ⟨a, b, e, ha, hb⟩ := lz_pr hP hm
  refine ⟨pl, y, lz z, lzL p, fix p.hs p.m z, lz z, rfl, rfl, dp_sub sG dl, dy, lzL_shaped hP, by rw [e]; exact prD_shaped ha hb, by unfold lzL; rw [List.getElem?_map, hL.fd.at_]; rfl, by rw [e, prD_eqv]; exact decide_eq_true rfl, fun n z' hn ez => ?_, q⟩
  unfold lzL at ez
  rw [List.getElem?_map] at ez
  obtain ⟨x, ex, rfl⟩ := Option.map_eq_some_iff.mp ez
  refine lz_ne hP hm (List.mem_of_getElem? ex) fun e' => ?_
  subst e'
  have := hL.fd.no n x hn ex
  rw [hL.fd.re] at this
  cases this
def spRowsL (K : PySem.W.Frag) : Sp := fun vs H Q _ => ∃ (v : V) (G : Hp) (p : Pd), vs = [v] ∧ Same G H ∧ PgK K G v p ∧
  ∀ H' G' x, Same H H' → Same G' H' → Gr G G' H → Dp K G' x (rowsD p) → Q x H'
theorem cellsL_take {p : Pd} : (cellsL p.hs p.m) = ((.tuple [.str "packet", .str "port"], 3) :: (.none, 4) :: p.hs.flatMap hCells) ++ mCells p.m := rfl
theorem ok_rowsL {f : Addr} {fd : FuncData} {k : Nat} (F : Fun K "_law_cells" "_law_cells" sRowsL f fd)   : FnOk P w K mg base CX0 (k + 1) f fd ["program"] (spRowsL K) := by
  refine F.ok scRowsL (fun vs H Q E h => ?_) (fun cdv A outer s0 H vs Q E hr h => ?_)
  · obtain ⟨v, G, p, rfl, _⟩ := h
    rfl
  · obtain ⟨v, G, p, rfl, sG, hP, q⟩ := h
    have nd := scRowsL.nd
    refine ⟨_, (pss_cons (ps_set (i := 1) nd rfl (.inl rfl) (pe_lst (pa_cons (pe_tup (pa_cons (pe_tup (pa_cons pe_str (pa_cons pe_str pa_nil))) (pa_cons pe_int pa_nil))) (pa_cons (pe_tup (pa_cons (pe_tup (pa_cons pe_str (pa_cons pe_str pa_nil))) (pa_cons pe_int pa_nil))) pa_nil))))
      (pss_cons (ps_for PassesOwn.never rfl (pi_list (pe_ix ix_tup (pv 0) pe_int (fun _ _ => rfl))) (pg_name (i := 2) nd rfl (.inr rfl))
        (pss_cons (ps_expr (pe_bm PySem.F.plainAttrs_list PySem.F.slot_list_append PySem.F.type_list_append mt_append (pv 1) (pa_cons (pe_tup (pa_cons (pe_tup (pa_cons (pe_ix ix_tup (pv 2) pe_int (fun _ _ => rfl)) (pa_cons pe_str pa_nil))) (pa_cons pe_int pa_nil))) pa_nil)))
        (pss_one (ps_set (i := 1) nd rfl (.inl rfl) (pe_op op_cat (pv 1) (pe_lc (own := [("name", 3), ("width", 4)]) (g := gTup K 2 (gCons (gName 3) (gCons (gName 4) gNil))) (tt := tYes) rfl nd (pi_list (pe_ix ix_tup (pv 2) pe_int (fun _ _ => rfl))) (blkOk_by (own := [("name", 3), ("width", 4)]) (N := NRowsL) (sc := defScope sRowsL) (by decide +kernel)) (fun _ _ _ _ _ => (pg_tup rfl (pgs_cons (pg_name (i := 3) nd rfl (Or.inl rfl)) (pgs_cons (pg_name (i := 4) nd rfl (Or.inl rfl)) pgs_nil)))) (fun _ _ _ _ _ => pts_nil) (fun _ _ _ _ _ => (pe_tup (pa_cons (pe_tup (pa_cons (pe_ix (r := rIxT K) ix_tup (pv 2) pe_int (fun _ _ => rfl)) (pa_cons (pv 3) pa_nil))) (pa_cons (pv 4) pa_nil))))))))))
      (pss_one (ps_ret (pe_op op_cat (pv 1) (pe_lc (own := [("name", 3), ("width", 4)]) (g := gTup K 2 (gCons (gName 3) (gCons (gName 4) gNil))) (tt := tYes) rfl nd (pi_list (pe_ix ix_tup (pv 0) pe_int (fun _ _ => rfl))) (blkOk_by (own := [("name", 3), ("width", 4)]) (N := NRowsL) (sc := defScope sRowsL) (by decide +kernel)) (fun _ _ _ _ _ => (pg_tup rfl (pgs_cons (pg_name (i := 3) nd rfl (Or.inl rfl)) (pgs_cons (pg_name (i := 4) nd rfl (Or.inl rfl)) pgs_nil)))) (fun _ _ _ _ _ => pts_nil) (fun _ _ _ _ _ => (pe_tup (pa_cons (pe_tup (pa_cons pe_str (pa_cons (pv 3) pa_nil))) (pa_cons (pv 4) pa_nil)))))))))), ?_⟩
    have h6 := hP.h6
    have hwf := hP.wf
    obtain ⟨pg, gs, rfl, pg1, pg2⟩ := dp_tup hP.D
    obtain ⟨xh, exh, hxh⟩ := dpAll_at pg2 (i := 2) (d := hdsD p.hs) rfl
    obtain ⟨xm, exm, hxm⟩ := dpAll_at pg2 (i := 3) (d := flsD p.m) rfl
    obtain ⟨ph, hs', rfl, h1, h2⟩ := dp_lst hxh
    obtain ⟨pm, ms, rfl, m1, m2⟩ := dp_lst hxm
    have lh := dpAll_len h2
    have lm := dpAll_len m2
    rw [List.length_map] at lh lm
    have hm10 := hP.wm.1
    -- the first two rows
    refine ⟨(by show 2 ≤ sizeLine; decide), fun t1 ht1 => ⟨(by show 2 ≤ sizeLine; decide), fun t2 ht2 => ⟨(by show 2 ≤ sizeLine; decide), fun t3 ht3 => ⟨(by show 2 ≤ sizeLine; decide), fun t4 ht4 => ⟨(by show 2 ≤ sizeLine; decide), fun l hl => ?_⟩⟩⟩⟩⟩
    obtain ⟨a1, a2, a3⟩ := tup_new (K := K) sG ht1 (vs := [.str "packet", .str "port"]) (ds := [.str "packet", .str "port"]) (.cons (.str _) (.cons (.str _) .nil))
    obtain ⟨b1, b2, b3⟩ := tup_new (K := K) a1 ht2 (vs := [.ref t1, .int 3]) (ds := rowL (.tuple [.str "packet", .str "port"], 3)) (.cons a3 (.cons (.int _) .nil))
    obtain ⟨c1, c2, c3⟩ := tup_new (K := K) b1 ht3 (vs := [.str "out", .str ""]) (ds := [.str "out", .str ""]) (.cons (.str _) (.cons (.str _) .nil))
    obtain ⟨d1, d2, d3⟩ := tup_new (K := K) c1 ht4 (vs := [.ref t3, .int 4]) (ds := rowL (.none, 4)) (.cons c3 (.cons (.int _) .nil))
    have s1 := same_new (o := .tup [V.str "packet", .str "port"]) ht1
    have s2 := same_new (o := .tup [V.ref t1, .int 3]) ht2
    have s3 := same_new (o := .tup [V.str "out", .str ""]) ht3
    have s4 := same_new (o := .tup [V.ref t3, .int 4]) ht4
    have s14 := ((s1.trans s2).trans s3).trans s4
    have gr4 := ((a2.then b2 s1).then c2 (s1.trans s2)).then d2 ((s1.trans s2).trans s3)
    have b3' := dp_sub (d2.sub) (dp_sub c2.sub b3)
    have hlH := s14.free hl
    have s5 := same_new (o := .lst [V.ref t2, .ref t4]) hl
    have e5 : (upd (upd (upd (upd (upd H t1 (.tup [V.str "packet", .str "port"])) t2 (.tup [V.ref t1, .int 3])) t3 (.tup [V.str "out", .str ""])) t4 (.tup [V.ref t3, .int 4])) l (.lst [V.ref t2, .ref t4])) l = some (.lst [V.ref t2, .ref t4]) := upd_same
    have gl := d1.free hl
    have sGl := d1.trans s5
    have s15 := s14.trans s5
    generalize upd (upd (upd (upd (upd H t1 (.tup [V.str "packet", .str "port"])) t2 (.tup [V.ref t1, .int 3])) t3 (.tup [V.str "out", .str ""])) t4 (.tup [V.ref t3, .int 4])) l (.lst [V.ref t2, .ref t4]) = HA at e5 sGl s15 ⊢
    generalize upd (upd (upd (upd G t1 (.tup [V.str "packet", .str "port"])) t2 (.tup [V.ref t1, .int 3])) t3 (.tup [V.str "out", .str ""])) t4 (.tup [V.ref t3, .int 4]) = GA at gr4 gl sGl b3' d3
    clear a1 a2 a3 b1 b2 b3 c1 c2 c3 d1 d2 s1 s2 s3 s4 s14 s5 hl ht1 ht2 ht3 ht4
    have rowsLen : ∀ i, ((((PyData.tuple [.str "packet", .str "port"], 3) :: (.none, 4) :: (p.hs.take i).flatMap hCells).map fun c => PyData.tuple (rowL c)) : List PyData).length ≤ 2 + 9 * 6 := fun i => by
      rw [List.length_map, List.length_cons, List.length_cons, List.length_flatMap]
      have : ∀ l : List Hd, (∀ h ∈ l, h.2.length ≤ 8) → (l.map fun h => (hCells h).length).sum ≤ 9 * l.length := by
        intro l
        induction l with
        | nil => intro _; exact Nat.le_refl _
        | cons a r ih =>
          intro h
          rw [List.map_cons, List.sum_cons, List.length_cons]
          have h1 := ih fun x hx => h x (List.mem_cons_of_mem _ hx)
          have h2 := h a List.mem_cons_self
          have h3 : (hCells a).length = a.2.length + 1 := by show (_ :: _).length = _; rw [List.length_cons, List.length_map]
          omega
      have h2 := this (p.hs.take i) fun h hh => (hd_sx hP.wh hP.h6 (List.mem_of_mem_take hh)).2.2.1
      have h3 : (p.hs.take i).length ≤ 6 := by rw [List.length_take]; omega
      omega
    -- the headers
    refine ⟨_, rfl, pg, _, _, _, rfl, rfl, sqT_sub (sG.trans s15) pg1, atI_nat (j := 2) exh, ph, rfl, ⟨_, sqL_sub (sG.trans s15) h1⟩, for_list (K := K) (a := ph) (xs := hs') (fun i σ H2 => ∃ (GC : Hp) (xs : List V) (q : Addr) (o2 o3 o4 : Option V), σ = [some (.ref pg), some (.ref q), o2, o3, o4] ∧ Same H H2 ∧ Same GC H2 ∧ Gr G GC H ∧ GC q = none ∧ H q = none ∧ H2 q = some (.lst xs) ∧
      DpAll K GC xs (((PyData.tuple [.str "packet", .str "port"], 3) :: (.none, 4) :: (p.hs.take i).flatMap hCells).map fun c => .tuple (rowL c))) ⟨GA, _, l, none, none, none, rfl, s15, sGl, gr4, gl, hlH, e5, .cons b3' (.cons d3 .nil)⟩ (fun i σ H2 _ h => by
        obtain ⟨GC, xs, q, o2, o3, o4, _, k, _⟩ := h
        exact sqL_sub (sG.trans k) h1) ?_ ?_⟩
    · rintro i y σ H2 hy ⟨GC, xs, q', o2, o3, o4, rfl, s2, sGC, grC, gq, hq, eq, dxs⟩
      obtain ⟨d, ed, hd⟩ := dpAll_val h2 hy
      rw [List.getElem?_map] at ed
      obtain ⟨h, eh, rfl⟩ := Option.map_eq_some_iff.mp ed
      obtain ⟨pt, ts, rfl, t1, t2⟩ := dp_tup hd
      obtain ⟨w0, r, rfl, n0, t2⟩ := dpAll_cons t2
      obtain ⟨w1, r, rfl, n1, t2⟩ := dpAll_cons t2
      obtain ⟨w2, r, rfl, n2, t2⟩ := dpAll_cons t2
      obtain rfl := dpAll_nil t2
      obtain rfl := dp_str n1
      obtain ⟨pf, fs, rfl, f1, f2⟩ := dp_lst n2
      have lf := dpAll_len f2
      rw [List.length_map] at lf
      have hf8 : h.2.length ≤ 8 := (hd_sx hP.wh hP.h6 (List.mem_of_getElem? eh)).2.2.1
      have lx := dpAll_len dxs
      have lrow := rowsLen i
      have sG2 := sG.trans s2
      refine ⟨_, rfl, .inl ⟨rfl, _, SqL.of eq⟩, _, rfl, pt, _, _, _, rfl, rfl, sqT_sub sG2 t1, atI_nat (j := 1) rfl, (by show 2 ≤ sizeLine; decide), fun u1 hu1 => ⟨(by show 2 ≤ sizeLine; decide), fun u2 hu2 => ?_⟩⟩
      obtain ⟨a1, a2, a3⟩ := tup_new (K := K) sGC hu1 (vs := [.str h.1, .str ""]) (ds := [.str h.1, .str ""]) (.cons (.str _) (.cons (.str _) .nil))
      obtain ⟨b1, b2, b3⟩ := tup_new (K := K) a1 hu2 (vs := [.ref u1, .int 1]) (ds := rowL (.str h.1, 1)) (.cons a3 (.cons (.int _) .nil))
      have s3 := same_new (o := .tup [V.str h.1, .str ""]) hu1
      have s4 := same_new (o := .tup [V.ref u1, .int 1]) hu2
      have s34 := s3.trans s4
      have eq4 := s34 _ _ eq
      have gq2 : GC q' = none := gq
      have grB := (a2.then b2 s3)
      have gqB := grB.free gq (by rw [eq]; exact fun z => nomatch z)
      have dxsB := dpAll_app (dpAll_sub grB.sub dxs) (.cons b3 .nil)
      have s24 := s2.trans s34
      have grC2 := grC.then grB s2
      clear a1 a2 a3 b2 b3 s3 s4
      generalize upd (upd H2 u1 (.tup [V.str h.1, .str ""])) u2 (.tup [V.ref u1, .int 1]) = H4 at s34 eq4 s24 b1 ⊢
      generalize upd (upd GC u1 (.tup [V.str h.1, .str ""])) u2 (.tup [V.ref u1, .int 1]) = GB at grB gqB dxsB grC2 b1
      refine ⟨q', _, _, rfl, rfl, eq4, small1000 (by rw [lx]; omega), ?_⟩
      have s5 := same_set (o := .lst (xs ++ [.ref u2])) s24 hq
      have sGB5 := same_set (o := .lst (xs ++ [.ref u2])) b1 gqB
      have eq5 : (upd H4 q' (.lst (xs ++ [.ref u2]))) q' = some (.lst (xs ++ [.ref u2])) := upd_same
      generalize upd H4 q' (.lst (xs ++ [.ref u2])) = H5 at s5 sGB5 eq5 ⊢
      have sG5 := sG.trans s5
      refine ⟨_, rfl, _, rfl, pt, _, _, _, rfl, rfl, sqT_sub sG5 t1, atI_nat (j := 2) rfl, pf, rfl, ⟨_, sqL_sub sG5 f1⟩, fun D hD => lc_list (K := K) (a := pf) (xs := fs) (fun j H6 => ∃ (GE : Hp) (zs : List V), Same H5 H6 ∧ Same GE H6 ∧ Gr GB GE H5 ∧ GE D = none ∧ H6 D = some (.lst zs) ∧ DpAll K GE zs (((h.2.take j).map fun f => (prD h.1 f.1, f.2)).map fun c => .tuple (rowL c))) ⟨GB, [], same_new hD, sGB5.trans (same_new hD), Gr.refl _ _, sGB5.free hD, upd_same, .nil⟩ (fun j H6 _ hh => by
        obtain ⟨GE, zs, k, _⟩ := hh
        exact sqL_sub (sG5.trans k) f1) ?_ ?_⟩
      · rintro j z H6 hz ⟨GE, zs, s6, sGE, grE, gD, eD, dzs⟩
        obtain ⟨d', ed', hd'⟩ := dpAll_val f2 hz
        rw [List.getElem?_map] at ed'
        obtain ⟨f, ef, rfl⟩ := Option.map_eq_some_iff.mp ed'
        have hj := (List.getElem?_eq_some_iff.mp ef).1
        obtain ⟨pu, us, rfl, v1, v2⟩ := dp_tup hd'
        obtain ⟨x0, r, rfl, k0, v2⟩ := dpAll_cons v2
        obtain ⟨x1, r, rfl, k1, v2⟩ := dpAll_cons v2
        obtain rfl := dpAll_nil v2
        obtain rfl := dp_str k0
        obtain rfl := dp_int k1
        have sG6 := sG5.trans s6
        refine ⟨pu, _, rfl, sqT_sub sG6 v1, rfl, _, _, rfl, _, _, rfl, rfl, rfl, _, rfl, pt, _, _, _, rfl, rfl, sqT_sub sG6 t1, atI_nat (j := 1) rfl, _, rfl, (by show 2 ≤ sizeLine; decide), fun u1' hu1' => ⟨_, rfl, (by show 2 ≤ sizeLine; decide), fun u2' hu2' => ?_⟩⟩
        obtain ⟨a1, a2, a3⟩ := tup_new (K := K) sGE hu1' (vs := [.str h.1, .str f.1]) (ds := [.str h.1, .str f.1]) (.cons (.str _) (.cons (.str _) .nil))
        obtain ⟨b1', b2', b3'⟩ := tup_new (K := K) a1 hu2' (vs := [.ref u1', .int (f.2 : Nat)]) (ds := rowL (prD h.1 f.1, f.2)) (.cons a3 (.cons (.int _) .nil))
        have k3 := same_new (o := .tup [V.str h.1, .str f.1]) hu1'
        have k4 := same_new (o := .tup [V.ref u1', .int (f.2 : Nat)]) hu2'
        have grF := (a2.then b2' k3)
        have eD4 := k4 _ _ (k3 _ _ eD)
        have gD4 := grF.free gD (by rw [eD]; exact fun z => nomatch z)
        have lz' := dpAll_len dzs
        rw [List.length_map, List.length_map, List.length_take] at lz'
        refine ⟨_, eD4, small1000 (by omega), _, _, same_set ((s6.trans k3).trans k4) hD, same_set b1' gD4, grE.then grF s6, gD4, upd_same, ?_⟩
        rw [List.take_add_one, ef, List.map_append, List.map_append]
        exact dpAll_app (dpAll_sub grF.sub dzs) (.cons b3' .nil)
      · rintro H6 ⟨GE, zs, s6, sGE, grE, gD, eD, dzs⟩
        rw [lf, List.take_length] at dzs
        have lz' := dpAll_len dzs
        rw [List.length_map, List.length_map] at lz'
        have eq6 := s6 _ _ eq5
        have lxs : (xs ++ [V.ref u2]).length + zs.length ≤ 100 := by
          rw [List.length_append, lz', lx]
          show _ + 1 + _ ≤ _
          omega
        refine ⟨q', D, _, _, rfl, rfl, eq6, eD, Nat.le_of_lt (small1000 (by omega)), fun q2 hq2 => ?_⟩
        have k7 := same_new (o := .lst ((xs ++ [V.ref u2]) ++ zs)) hq2
        have gq2' := sGE.free hq2
        refine ⟨GE, (xs ++ [.ref u2]) ++ zs, q2, _, _, _, rfl, (s5.trans s6).trans k7, sGE.trans k7, grC2.then grE s5, gq2', (s5.trans s6).free hq2, upd_same, ?_⟩
        have e1 : ((PyData.tuple [.str "packet", .str "port"], 3) :: (.none, 4) :: (p.hs.take (i + 1)).flatMap hCells) = (((PyData.tuple [.str "packet", .str "port"], 3) :: (.none, 4) :: (p.hs.take i).flatMap hCells) ++ [(PyData.str h.1, 1)]) ++ h.2.map fun f => (prD h.1 f.1, f.2) := by
          rw [List.take_add_one, eh, List.flatMap_append]
          show _ :: _ :: (_ ++ ([h].flatMap hCells)) = _
          rw [List.flatMap_singleton]
          show _ :: _ :: (_ ++ ((PyData.str h.1, 1) :: h.2.map fun f => (prD h.1 f.1, f.2))) = _
          simp
        rw [e1, List.map_append, List.map_append]
        exact dpAll_app (dpAll_sub grE.sub dxsB) dzs
    -- the meta fields
    rintro σ H2 ⟨GC, xs, q', o2, o3, o4, rfl, s2, sGC, grC, gq, hq, eq, dxs⟩
    rw [lh, List.take_length] at dxs
    have lx := dpAll_len dxs
    have lrow := rowsLen p.hs.length
    rw [List.take_length] at lrow
    have sG2 := sG.trans s2
    refine ⟨_, rfl, _, rfl, pg, _, _, _, rfl, rfl, sqT_sub sG2 pg1, atI_nat (j := 3) exm, pm, rfl, ⟨_, sqL_sub sG2 m1⟩, fun D hD => lc_list (K := K) (a := pm) (xs := ms) (fun j H6 => ∃ (GE : Hp) (zs : List V), Same H2 H6 ∧ Same GE H6 ∧ Gr GC GE H2 ∧ GE D = none ∧ H6 D = some (.lst zs) ∧ DpAll K GE zs ((mCells (p.m.take j)).map fun c => .tuple (rowL c))) ⟨GC, [], same_new hD, sGC.trans (same_new hD), Gr.refl _ _, sGC.free hD, upd_same, .nil⟩ (fun j H6 _ hh => by
      obtain ⟨GE, zs, k, _⟩ := hh
      exact sqL_sub (sG2.trans k) m1) ?_ ?_⟩
    · rintro j z H6 hz ⟨GE, zs, s6, sGE, grE, gD, eD, dzs⟩
      obtain ⟨d', ed', hd'⟩ := dpAll_val m2 hz
      rw [List.getElem?_map] at ed'
      obtain ⟨f, ef, rfl⟩ := Option.map_eq_some_iff.mp ed'
      have hj := (List.getElem?_eq_some_iff.mp ef).1
      obtain ⟨pu, us, rfl, v1, v2⟩ := dp_tup hd'
      obtain ⟨x0, r, rfl, k0, v2⟩ := dpAll_cons v2
      obtain ⟨x1, r, rfl, k1, v2⟩ := dpAll_cons v2
      obtain rfl := dpAll_nil v2
      obtain rfl := dp_str k0
      obtain rfl := dp_int k1
      have sG6 := sG2.trans s6
      refine ⟨pu, _, rfl, sqT_sub sG6 v1, rfl, _, _, rfl, _, _, rfl, rfl, rfl, _, rfl, (by show 2 ≤ sizeLine; decide), fun u1' hu1' => ⟨_, rfl, (by show 2 ≤ sizeLine; decide), fun u2' hu2' => ?_⟩⟩
      obtain ⟨a1, a2, a3⟩ := tup_new (K := K) sGE hu1' (vs := [.str "meta", .str f.1]) (ds := [.str "meta", .str f.1]) (.cons (.str _) (.cons (.str _) .nil))
      obtain ⟨b1', b2', b3'⟩ := tup_new (K := K) a1 hu2' (vs := [.ref u1', .int (f.2 : Nat)]) (ds := rowL (.tuple [.str "meta", .str f.1], f.2)) (.cons a3 (.cons (.int _) .nil))
      have k3 := same_new (o := .tup [V.str "meta", .str f.1]) hu1'
      have k4 := same_new (o := .tup [V.ref u1', .int (f.2 : Nat)]) hu2'
      have grF := (a2.then b2' k3)
      have eD4 := k4 _ _ (k3 _ _ eD)
      have gD4 := grF.free gD (by rw [eD]; exact fun z => nomatch z)
      have lz' := dpAll_len dzs
      unfold mCells at lz'
      rw [List.length_map, List.length_map, List.length_take] at lz'
      refine ⟨_, eD4, small1000 (by omega), _, _, same_set ((s6.trans k3).trans k4) hD, same_set b1' gD4, grE.then grF s6, gD4, upd_same, ?_⟩
      unfold mCells
      rw [List.take_add_one, ef, List.map_append, List.map_append]
      exact dpAll_app (dpAll_sub grF.sub dzs) (.cons b3' .nil)
    · rintro H6 ⟨GE, zs, s6, sGE, grE, gD, eD, dzs⟩
      rw [lm, List.take_length] at dzs
      have lz' := dpAll_len dzs
      unfold mCells at lz'
      rw [List.length_map, List.length_map] at lz'
      have eq6 := s6 _ _ eq
      refine ⟨q', D, _, _, rfl, rfl, eq6, eD, Nat.le_of_lt (small1000 (by omega)), fun q2 hq2 => ?_⟩
      obtain ⟨n1, n2, n3⟩ := lst_new (K := K) sGE hq2 (vs := xs ++ zs) (ds := (cellsL p.hs p.m).map fun c => .tuple (rowL c)) (by
        have := dpAll_app (dpAll_sub grE.sub dxs) dzs
        rw [← List.map_append] at this
        exact this)
      exact q _ _ _ ((s2.trans s6).trans (same_new hq2)) n1 ((grC.then grE s2).then n2 (s2.trans s6)) n3
def spMvOd (K : PySem.W.Frag) : Sp := fun vs H Q _ => ∃ (pl pn : Addr) (y : V) (G : Hp) (p : Pd) (ps : List Fl) (a : Od), vs = [.ref pl, .ref pn, y] ∧ Same G H ∧ WfP p ∧ Dp K G (.ref pl) (.list (lzL p)) ∧ H pn = some (.lst ((ps.map Prod.fst).map V.str)) ∧ (ps.map Prod.fst).Nodup ∧ Dp K G y (.tuple (odL a)) ∧ OdOk (refsOf p.hs p.m) ps a ∧
  ∀ H' G' x, Same H H' → Same G' H' → Gr G G' H → Dp K G' x (.tuple (moL (coOd p ps a))) → Q x H'
theorem ok_mvOd {f : Addr} {fd : FuncData} {k : Nat} (F : Fun K "_law_move_operand" "_law_move_operand" sMvOd f fd)   : FnOk P w K mg base CX0 (k + 1) f fd ["places", "names", "operand"] (spMvOd K) := by
  refine F.ok scMvOd (fun vs H Q E h => ?_) (fun cdv A outer s0 H vs Q E hr h => ?_)
  · obtain ⟨pl, pn, y, G, p, ps, a, rfl, _⟩ := h
    rfl
  · obtain ⟨pl, pn, y, G, p, ps, a, rfl, sG, hP, dl, en, hnd, hy, ok, q⟩ := h
    have nd := scMvOd.nd
    refine ⟨_, (pss_cons (ps_if (pt_cmpR op_eq (pe_ix ix_tup (pv 2) pe_int (fun _ _ => rfl)) pe_str (nomark _)) (pss_one (ps_ret (pv 2))) pss_nil)
      (pss_cons (ps_if (pt_cmpR op_eq (pe_ix ix_tup (pv 2) pe_int (fun _ _ => rfl)) pe_str (nomark _)) (pss_one (ps_ret (pe_tup (pa_cons pe_str (pa_cons (pe_bm PySem.F.plainAttrs_list PySem.F.slot_list_index PySem.F.type_list_index mt_index (pv 1) (pa_cons (pe_ix ix_tup (pv 2) pe_int (fun _ _ => rfl)) pa_nil)) pa_nil))))) pss_nil)
      (pss_one (ps_ret (pe_tup (pa_cons pe_str (pa_cons (pe_bm PySem.F.plainAttrs_list PySem.F.slot_list_index PySem.F.type_list_index (mt_indexD (hu65 hr)) (pv 0) (pa_cons (pe_tup (pa_cons (pe_ix ix_tup (pv 2) pe_int (fun _ _ => rfl)) (pa_cons (pe_ix ix_tup (pv 2) pe_int (fun _ _ => rfl)) pa_nil))) pa_nil)) pa_nil))))))), ?_⟩
    have hy0 := hy
    obtain ⟨py, ys, rfl, y1, y2⟩ := dp_tup hy
    cases a with
    | num n =>
      obtain ⟨v0, r, rfl, a0, y2⟩ := dpAll_cons y2
      obtain rfl := dp_str a0
      refine ⟨_, rfl, py, _, _, _, rfl, rfl, sqT_sub sG y1, atI_nat (j := 0) rfl, rfl, _, rfl, ?_⟩
      rw [dcStr]
      refine iteDT rfl ⟨_, rfl, ?_⟩
      exact q _ _ _ (Same.refl _) sG (Gr.refl _ _) hy0
    | par x =>
      obtain ⟨v0, r, rfl, a0, y2⟩ := dpAll_cons y2
      obtain ⟨v1, r, rfl, a1, y2⟩ := dpAll_cons y2
      obtain rfl := dp_str a0
      obtain rfl := dp_str a1
      refine ⟨_, rfl, py, _, _, _, rfl, rfl, sqT_sub sG y1, atI_nat (j := 0) rfl, rfl, _, rfl, ?_⟩
      rw [dcStr]
      refine iteDF (Ne.symm field_ne.2.1) ⟨_, rfl, py, _, _, _, rfl, rfl, sqT_sub sG y1, atI_nat (j := 0) rfl, rfl, _, rfl, ?_⟩
      rw [dcStr]
      refine iteDT rfl ?_
      obtain ⟨wd, hw⟩ := ok
      refine ⟨_, rfl, .inl ⟨rfl, _, SqL.of en⟩, _, rfl, py, _, _, _, rfl, rfl, sqT_sub sG y1, atI_nat (j := 1) rfl, ?_⟩
      dsimp only [tNil, tCons, tC]
      refine index_rd hnd (List.mem_map.mpr ⟨_, hw, rfl⟩) en ?_
      refine ⟨(by show 2 ≤ sizeLine; decide), fun pt hpt => ?_⟩
      obtain ⟨m1, m2, m3⟩ := tup_new (K := K) sG hpt (vs := [.str "arg", .int (((ps.map Prod.fst).findIdx fun y => decide (y = x) : Nat) : Int)]) (.cons (.str _) (.cons (.int _) .nil))
      exact q _ _ _ (same_new hpt) m1 m2 m3
    | fld o n =>
      obtain ⟨v0, r, rfl, a0, y2⟩ := dpAll_cons y2
      obtain ⟨v1, r, rfl, a1, y2⟩ := dpAll_cons y2
      obtain ⟨v2, r, rfl, a2, y2⟩ := dpAll_cons y2
      obtain rfl := dp_str a0
      obtain rfl := dp_str a1
      obtain rfl := dp_str a2
      obtain ⟨wd, hw⟩ := ok
      have hloc := loc_ref hP.wh hP.h6 hP.wm hw
      obtain ⟨_, ls, epl, l1, l2⟩ := dp_lst dl
      cases epl
      refine ⟨_, rfl, py, _, _, _, rfl, rfl, sqT_sub sG y1, atI_nat (j := 0) rfl, rfl, _, rfl, ?_⟩
      rw [dcStr]
      refine iteDF (Ne.symm field_ne.1) ⟨_, rfl, py, _, _, _, rfl, rfl, sqT_sub sG y1, atI_nat (j := 0) rfl, rfl, _, rfl, ?_⟩
      rw [dcStr]
      refine iteDF (Ne.symm field_ne.2.2) ?_
      refine ⟨_, rfl, .inl ⟨rfl, _, sqL_sub sG l1⟩, _, rfl, py, _, _, _, rfl, rfl, sqT_sub sG y1, atI_nat (j := 1) rfl, _, rfl, py, _, _, _, rfl, rfl, sqT_sub sG y1, atI_nat (j := 2) rfl, (by show 2 ≤ sizeLine; decide), fun t ht => ?_⟩
      have st := same_new (o := .tup [V.str o, V.str n]) ht
      dsimp only [tNil, tCons, tC]
      refine index_lz hP hloc (sG.trans st) dl (show Dp K _ _ (prD o n) from .tup (SqT.of upd_same) (.cons (.str _) (.cons (.str _) .nil))) ?_
      refine ⟨(by show 2 ≤ sizeLine; decide), fun pt hpt => ?_⟩
      obtain ⟨m1, m2, m3⟩ := tup_new (K := K) (sG.trans st) hpt (vs := [.str "cell", .int (fix p.hs p.m (prD o n) : Nat)]) (.cons (.str _) (.cons (.int _) .nil))
      exact q _ _ _ (st.trans (same_new hpt)) m1 (m2.back st) m3
end
end Pk
set_option Elab.async false
set_option linter.all false
set_option maxRecDepth 100000
set_option maxHeartbeats 4000000
/-! data that can be laid (for comparisons); no row -/
namespace Pk
open PySem PySem.Spec PyProof.Rows L2
theorem tyx_tup {K : PySem.W.Frag} {H : Hp} {p : Addr} {xs : List V} (h : SqT K H p xs) : TyX K H (.ref p) (.type "tuple") := by
  rcases h with (h | ⟨o, h⟩) | ⟨o, its, n, h, hc, _⟩
  · exact .base (.tup h)
  · exact .fTuple h
  · exact .kTuple h hc
/-- data that can be laid, of a small depth -/
def Lay (n : Nat) (d : PyData) : Prop := PyData.canLay0 d = true ∧ d.depth ≤ n
theorem Lay.up {n m : Nat} {d : PyData} (h : Lay n d) (hnm : n ≤ m) : Lay m d := ⟨h.1, Nat.le_trans h.2 hnm⟩
theorem lay_all {n : Nat} {l : List PyData} (h : ∀ d ∈ l, Lay n d) : PyData.canLayAll0 l = true ∧ PyData.depthAll l ≤ n := by
  induction l with
  | nil => exact ⟨rfl, Nat.zero_le _⟩
  | cons a l ih =>
    obtain ⟨h1, h2⟩ := h a List.mem_cons_self
    obtain ⟨h3, h4⟩ := ih fun x hx => h x (List.mem_cons_of_mem _ hx)
    refine ⟨?_, ?_⟩
    · show (PyData.canLay0 a && PyData.canLayAll0 l) = true
      rw [h1, h3]
      rfl
    · show max a.depth (PyData.depthAll l) ≤ n
      omega
theorem Lay.lst {n : Nat} {l : List PyData} (h : ∀ d ∈ l, Lay n d) : Lay (n + 1) (.list l) := by
  obtain ⟨h1, h2⟩ := lay_all h
  exact ⟨h1, by show PyData.depthAll l + 1 ≤ _; omega⟩
theorem Lay.tup {n : Nat} {l : List PyData} (h : ∀ d ∈ l, Lay n d) : Lay (n + 1) (.tuple l) := by
  obtain ⟨h1, h2⟩ := lay_all h
  exact ⟨h1, by show PyData.depthAll l + 1 ≤ _; omega⟩
theorem Lay.int (i : Int) (n : Nat) : Lay n (.int i) := ⟨rfl, Nat.zero_le _⟩
theorem Lay.non (n : Nat) : Lay n .none := ⟨rfl, Nat.zero_le _⟩
theorem Lay.shaped {n : Nat} {l : List PyData} (h : Lay n (.tuple l)) (hn : n ≤ 64) : SeqAt.shaped (.tuple l) = true := by
  obtain ⟨h1, h2⟩ := h
  have h1' : PyData.canLayAll0 l = true := h1
  have h2' : PyData.depthAll l + 1 ≤ n := h2
  show (PyData.canLayAll0 l && decide (PyData.depthAll l + 1 ≤ 64)) = true
  rw [h1', decide_eq_true (by omega)]
  rfl
theorem Lay.shapedL {n : Nat} {l : List PyData} (h : Lay n (.list l)) (hn : n ≤ 64) : SeqAt.shaped (.list l) = true := by
  obtain ⟨h1, h2⟩ := h
  have h1' : PyData.canLayAll0 l = true := h1
  have h2' : PyData.depthAll l + 1 ≤ n := h2
  show (PyData.canLayAll0 l && decide (PyData.depthAll l + 1 ≤ 64)) = true
  rw [h1', decide_eq_true (by omega)]
  rfl
theorem Lay.str {x : Str} (h : PyData.strOk x = true) (n : Nat) : Lay n (.str x) := ⟨h, Nat.zero_le _⟩
theorem Lay.tups {n : Nat} {l : List PyData} (h : ∀ d ∈ l, Lay n d) : Lay (n + 1) (.tuple l) := Lay.tup h
theorem Lay.cons {n : Nat} {a : PyData} {l : List PyData} (h : Lay n a) (r : ∀ d ∈ l, Lay n d) : ∀ d ∈ a :: l, Lay n d := fun d hd => by
  rcases List.mem_cons.mp hd with rfl | hd
  · exact h
  · exact r d hd
theorem Lay.nil {n : Nat} : ∀ d ∈ ([] : List PyData), Lay n d := fun d hd => absurd hd List.not_mem_nil
end Pk
set_option Elab.async false
set_option linter.all false
set_option maxRecDepth 100000
set_option maxHeartbeats 4000000
/-! the law's moves, and the cells that it shows -/
namespace Pk
open PySem PySem.Spec PyProof.Rows L2 SX GxR Tk
abbrev sMoveL : Stmt := topS 80
abbrev NMoveL : List Str := ["program", "places", "names", "op", "e", "parts", "valid", "name", "width", "fields"]
theorem scMoveL : FnScope NMoveL ["program", "places", "names", "op"] (defScope sMoveL) := ⟨rfl, rfl, rfl, by decide +kernel, rfl, by decide +kernel, by decide +kernel⟩
abbrev sShownL : Stmt := topS 81
abbrev NShownL : List Str := ["p", "rows", "cells", "field", "width"]
theorem scShownL : FnScope NShownL ["p", "rows"] (defScope sShownL) := ⟨rfl, rfl, rfl, by decide +kernel, rfl, by decide +kernel, by decide +kernel⟩
theorem in_words : inV (.str "set") [.str "set", .str "send"] = true ∧ inV (.str "send") [.str "set", .str "send"] = true ∧ inV (.str "drop") [.str "set", .str "send"] = false ∧ inV (.str "add") [.str "set", .str "send"] = false ∧ inV (.str "remove") [.str "set", .str "send"] = false := by decide +kernel
theorem mid_rdG {te : TE} {σ : L2.St} {H : Hp} {Q : VK} (C : V → Hp → Prop) (h : ∀ R : VK, (∀ x H', C x H' → R x H') → te σ H R) (k : ∀ x H', C x H' → Q x H') : te σ H Q := h Q k
section
variable {P : Program} {w : World} {K : PySem.W.Frag} {mg : Str → Option Value} {base : Heap}
def spMoveL (K : PySem.W.Frag) : Sp := fun vs H Q _ => ∃ (v y : V) (pl pn : Addr) (G : Hp) (p : Pd) (ps : List Fl) (o : Op), vs = [v, .ref pl, .ref pn, y] ∧ Same G H ∧ PgK K G v p ∧ Dp K G (.ref pl) (.list (lzL p)) ∧ H pn = some (.lst ((ps.map Prod.fst).map V.str)) ∧ (ps.map Prod.fst).Nodup ∧ Dp K G y (.tuple (opL o)) ∧ OpOk p.hs (refsOf p.hs p.m) ps o ∧
  ∀ H' G' x, Same H H' → Same G' H' → Gr G G' H → Dp K G' x (.tuple (mvL (coOp p ps o))) → Q x H'
theorem ok_moveL {f : Addr} {fd : FuncData} (F : Fun K "_law_move" "_law_move" sMoveL f fd)  (D1 : Df P w K mg base CX0 1 "_law_move_operand" ["places", "names", "operand"] (spMvOd K)) (D2 : Df P w K mg base CX0 1 "_law_width" ["program", "field"] (spWidL K)) (D3 : Df P w K mg base CX0 1 "_law_find" ["rows", "name"] (spFind K)) : FnOk P w K mg base CX0 3 f fd ["program", "places", "names", "op"] (spMoveL K) := by
  obtain ⟨f1, fd1, G1, g1, k1, b1⟩ := D1.ex
  obtain ⟨f2, fd2, G2, g2, k2, b2⟩ := D2.ex
  obtain ⟨f3, fd3, G3, g3, k3, b3⟩ := D3.ex
  refine F.ok scMoveL (fun vs H Q E h => ?_) (fun cdv A outer s0 H vs Q E hr h => ?_)
  · obtain ⟨v, y, pl, pn, G, p, ps, o, rfl, _⟩ := h
    rfl
  · obtain ⟨v, y, pl, pn, G, p, ps, o, rfl, sG, hP, dl, en, hnd, hy, ok, q⟩ := h
    have nd := scMoveL.nd
    refine ⟨_, (pss_cons (ps_set (i := 4) nd rfl (.inl rfl) (pe_ix ix_tup (pv 3) (pe_un un_neg pe_int) (fun _ _ => rfl)))
      (pss_cons (ps_if (pt_cmpR op_in_seq (pe_ix ix_tup (pv 3) pe_int (fun _ _ => rfl)) (pe_tup (pa_cons pe_str (pa_cons pe_str pa_nil))) (by rfl)) (pss_cons (ps_set (i := 5) nd rfl (.inl rfl) (pe_ifExp (pt_cmpR op_in_seq (pe_ix ix_tup (pv 4) pe_int (fun _ _ => rfl)) (pe_tup (pa_cons pe_str (pa_cons pe_str (pa_cons pe_str pa_nil)))) (by rfl)) (pe_tup (pa_cons pe_non (pa_cons (pe_call G1 (hr.mono (by omega)) (by rfl) g1 k1 b1 .nil pass0 (pa_cons (pv 1) (pa_cons (pv 2) (pa_cons (pv 4) pa_nil)))) (pa_cons (pe_tup (pa_cons pe_str (pa_cons pe_int pa_nil))) pa_nil)))) pe_non))
        (C8.pss_cut (ps_if (pt_cmpR op_isN (pv 5) pe_non (nomark _)) (pss_one (ps_set (i := 5) nd rfl (.inl rfl) (pe_tup (pa_cons (pe_ix ix_tup (pv 4) pe_int (fun _ _ => rfl)) (pa_cons (pe_call G1 (hr.mono (by omega)) (by rfl) g1 k1 b1 .nil pass0 (pa_cons (pv 1) (pa_cons (pv 2) (pa_cons (pe_ix ix_tup (pv 4) pe_int (fun _ _ => rfl)) pa_nil)))) (pa_cons (pe_call G1 (hr.mono (by omega)) (by rfl) g1 k1 b1 .nil pass0 (pa_cons (pv 1) (pa_cons (pv 2) (pa_cons (pe_ix ix_tup (pv 4) pe_int (fun _ _ => rfl)) pa_nil)))) pa_nil)))))) pss_nil)
        (pss_cons (ps_if (pt_cmpR op_eq (pe_ix ix_tup (pv 3) pe_int (fun _ _ => rfl)) pe_str (nomark _)) (pss_one (ps_ret (pe_op op_catT (pe_tup (pa_cons pe_str pa_nil)) (pv 5)))) pss_nil)
        (pss_cons (ps_set (i := 6) nd rfl (.inl rfl) (pe_ifExp (pt_cmpR op_eq (pe_ix ix_tup (pe_ix ix_tup (pv 3) pe_int (fun _ _ => rfl)) pe_int (fun _ _ => rfl)) pe_str (nomark _)) pe_non (pe_bm PySem.F.plainAttrs_list PySem.F.slot_list_index PySem.F.type_list_index (mt_indexD (hu65 hr)) (pv 1) (pa_cons (pe_tup (pa_cons (pe_ix ix_tup (pe_ix ix_tup (pv 3) pe_int (fun _ _ => rfl)) pe_int (fun _ _ => rfl)) (pa_cons pe_str pa_nil))) pa_nil))))
        (pss_one (ps_ret (pe_op op_catT (pe_tup (pa_cons pe_str (pa_cons (pe_bm PySem.F.plainAttrs_list PySem.F.slot_list_index PySem.F.type_list_index (mt_indexD (hu65 hr)) (pv 1) (pa_cons (pe_ix ix_tup (pv 3) pe_int (fun _ _ => rfl)) pa_nil)) (pa_cons (pe_call G2 (hr.mono (by omega)) (by rfl) g2 k2 b2 .nil pass0 (pa_cons (pv 0) (pa_cons (pe_ix ix_tup (pv 3) pe_int (fun _ _ => rfl)) pa_nil))) (pa_cons (pv 6) pa_nil))))) (pv 5)))))))) pss_nil)
      (pss_cons (ps_if (pt_cmpR op_eq (pe_ix ix_tup (pv 3) pe_int (fun _ _ => rfl)) pe_str (nomark _)) (pss_one (ps_ret (pe_tup (pa_cons pe_str (pa_cons pe_non (pa_cons (pe_tup (pa_cons pe_str (pa_cons pe_int pa_nil))) (pa_cons (pe_tup (pa_cons pe_str (pa_cons pe_int pa_nil))) pa_nil))))))) pss_nil)
      (pss_cons (ps_setLc (i := 9) (own := [("name", 7), ("width", 8)]) (g := gTup K 2 (gCons (gName 7) (gCons (gName 8) gNil))) (tt := tYes) rfl nd rfl rfl (sw_true rfl rfl rfl (by decide +kernel)) (pi_list (pe_ix ix_tup (pe_call G3 (hr.mono (by omega)) (by rfl) g3 k3 b3 .nil pass0 (pa_cons (pe_ix ix_tup (pv 0) pe_int (fun _ _ => rfl)) (pa_cons (pe_ix ix_tup (pv 3) pe_int (fun _ _ => rfl)) pa_nil))) pe_int (fun _ _ => rfl))) (blkOk_by (own := [("name", 7), ("width", 8)]) (N := NMoveL) (sc := defScope sMoveL) (by decide +kernel)) (fun _ _ _ _ _ => (pg_tup rfl (pgs_cons (pg_name (i := 7) nd rfl (Or.inl rfl)) (pgs_cons (pg_name (i := 8) nd rfl (Or.inl rfl)) pgs_nil)))) (fun _ _ _ _ _ => pts_nil) (fun _ _ _ _ _ => (@id (PE _ _ (tBM K _ (rIndexD K) _ _)) (pe_bm PySem.F.plainAttrs_list PySem.F.slot_list_index PySem.F.type_list_index (mt_indexD (hu65 hr)) (pv 1) (pa_cons (pe_tup (pa_cons (pe_ix (r := rIxT K) ix_tup (pv 3) pe_int (fun _ _ => rfl)) (pa_cons (pv 7) pa_nil))) pa_nil)))))
      (pss_one (ps_ret (pe_tup (pa_cons (pe_ix ix_tup (pv 3) pe_int (fun _ _ => rfl)) (pa_cons (pe_bm PySem.F.plainAttrs_list PySem.F.slot_list_index PySem.F.type_list_index (mt_indexD (hu65 hr)) (pv 1) (pa_cons (pe_tup (pa_cons (pe_ix ix_tup (pv 3) pe_int (fun _ _ => rfl)) (pa_cons pe_str pa_nil))) pa_nil)) (pa_cons (pv 9) pa_nil)))))))))), ?_⟩
    have hwf := hP.wf
    have hy0 := hy
    have h6 := hP.h6
    obtain ⟨pg, gs, rfl, pg1, pg2⟩ := dp_tup hP.D
    obtain ⟨py, ys, rfl, y1, y2⟩ := dp_tup hy
    have hc : (∃ word h, opL o = [.str word, .str h] ∧ coOp p ps o = .hdr word (fix p.hs p.m (.str h)) (hcOf p h) ∧ (∃ x ∈ p.hs, x.1 = h) ∧ word ≠ Str.ofString "drop" ∧ inV (.str word) [.str "set", .str "send"] = false) ∨ (∃ o' n e, o = .set o' n e) ∨ o = .drp ∨ ∃ e, o = .snd e := by
      cases o with
      | set o n e => exact .inr (.inl ⟨_, _, _, rfl⟩)
      | drp => exact .inr (.inr (.inl rfl))
      | add h => exact .inl ⟨"add", h, rfl, rfl, ok, op_nes.2.2.2.2.2.2.1, in_words.2.2.2.1⟩
      | rem h => exact .inl ⟨"remove", h, rfl, rfl, ok, op_nes.2.2.2.2.2.2.2.2.2, in_words.2.2.2.2⟩
      | snd e => exact .inr (.inr (.inr ⟨_, rfl⟩))
    rcases hc with ⟨word, h, eo, ec, hx, n3, hi⟩ | ⟨o', n, e, rfl⟩ | rfl | ⟨e, rfl⟩
    · obtain ⟨hd, hh, rfl⟩ := hx
      rw [eo] at y2
      obtain ⟨v0, r, rfl, a0, y2⟩ := dpAll_cons y2
      obtain ⟨v1, r, rfl, a1, y2⟩ := dpAll_cons y2
      obtain rfl := dpAll_nil y2
      obtain rfl := dp_str a0
      obtain rfl := dp_str a1
      obtain ⟨_, ls, epl, l1, l2⟩ := dp_lst dl
      cases epl
      refine ⟨_, rfl, _, rfl, py, _, _, _, rfl, rfl, sqT_sub sG y1, rfl, ?_⟩
      refine ⟨_, rfl, py, _, _, _, rfl, rfl, sqT_sub sG y1, atI_nat (j := 0) rfl, (by show 2 ≤ sizeLine; decide), fun t0 ht0 => ?_⟩
      have st := same_new (o := .tup [V.str "set", V.str "send"]) ht0
      refine ⟨t0, _, rfl, .inr (SqT.of upd_same), rfl, rfl, _, rfl, ?_⟩
      rw [hi]
      generalize upd H t0 (.tup [V.str "set", V.str "send"]) = H1 at st ⊢
      have sG1 := sG.trans st
      have en1 := st _ _ en
      refine iteF ?_
      refine ⟨_, rfl, py, _, _, _, rfl, rfl, sqT_sub sG1 y1, atI_nat (j := 0) rfl, rfl, _, rfl, ?_⟩
      rw [dcStr]
      refine iteDF n3 ?_
      obtain ⟨i, eh, f1', f2', f3'⟩ := hd_at hwf hh
      obtain ⟨xh, exh, hxh⟩ := dpAll_at pg2 (i := 2) (d := hdsD p.hs) rfl
      rw [hdsD_eq] at hxh
      have hf8 : hd.2.length ≤ 8 := (hd_sx hP.wh hP.h6 hh).2.2.1
      refine ⟨_, rfl, pg, _, _, _, rfl, rfl, sqT_sub sG1 pg1, atI_nat (j := 2) exh, _, rfl, py, _, _, _, rfl, rfl, sqT_sub sG1 y1, atI_nat (j := 1) rfl, ?_⟩
      dsimp only [tNil]
      refine ⟨xh, G, p.hs.map hdL, hd.1, i, hdL hd, rfl, sG1, hxh, by rw [List.length_map]; omega, f1', f2', rfl, f3', fun H2 x2 s2 dh => ?_⟩
      obtain ⟨ph, zs', rfl, z1, z2⟩ := dp_tup dh
      obtain ⟨y0, r, rfl, d0, z2⟩ := dpAll_cons z2
      obtain ⟨y1', r, rfl, d1, z2⟩ := dpAll_cons z2
      obtain ⟨y2', r, rfl, d2, z2⟩ := dpAll_cons z2
      obtain rfl := dpAll_nil z2
      obtain ⟨pf, fs, rfl, g1', g2'⟩ := dp_lst d2
      have lf := dpAll_len g2'
      rw [List.length_map] at lf
      have sG2 := sG1.trans s2
      have s02 := st.trans s2
      refine ⟨ph, _, _, _, rfl, rfl, sqT_sub sG2 z1, atI_nat (j := 2) rfl, pf, rfl, ⟨_, sqL_sub sG2 g1'⟩, fun D hD => lc_list (K := K) (a := pf) (xs := fs) (fun j H3 => Same H2 H3 ∧ H3 D = some (.lst (natsV ((hcOf p hd.1).take j)))) ⟨same_new hD, upd_same⟩ (fun j H3 _ hh => sqL_sub (sG2.trans hh.1) g1') ?_ ?_⟩
      · rintro j z H3 hz ⟨s3, e3⟩
        obtain ⟨d', ed', hd'⟩ := dpAll_val g2' hz
        rw [List.getElem?_map] at ed'
        obtain ⟨c, ec', ed''⟩ := Option.map_eq_some_iff.mp ed'
        subst ed''
        have hj := (List.getElem?_eq_some_iff.mp ec').1
        obtain ⟨pt, ts, rfl, u1, u2⟩ := dp_tup hd'
        obtain ⟨w0, t, rfl, m0, u2⟩ := dpAll_cons u2
        obtain ⟨w1, t, rfl, m1, u2⟩ := dpAll_cons u2
        obtain rfl := dpAll_nil u2
        obtain rfl := dp_str m0
        have sG3 := sG2.trans s3
        refine ⟨pt, _, rfl, sqT_sub sG3 u1, rfl, _, _, rfl, _, _, rfl, rfl, rfl, _, rfl, .inl ⟨rfl, _, sqL_sub sG3 l1⟩, _, rfl, py, _, _, _, rfl, rfl, sqT_sub sG3 y1, atI_nat (j := 1) rfl, _, rfl, (by show 2 ≤ sizeLine; decide), fun t ht => ?_⟩
        have s4 := same_new (o := .tup [V.str hd.1, V.str c.1]) ht
        dsimp only [tNil, tCons, tC]
        refine index_lz hwf (loc_ref hP.wh hP.h6 hP.wm (fld_ref hP.wh hP.h6 hP.wm hh (List.mem_of_getElem? ec'))) (sG3.trans s4) dl (show Dp K _ _ (prD hd.1 c.1) from .tup (SqT.of upd_same) (.cons (.str _) (.cons (.str _) .nil))) ?_
        have ehc : (hcOf p hd.1)[j]? = some (fix p.hs p.m (prD hd.1 c.1)) := by
          unfold hcOf
          rw [flsOf_mem hP.wh hP.h6 hP.wm hh, List.getElem?_map, ec']
          rfl
        refine ⟨_, s4 _ _ e3, ?_, same_set (s3.trans s4) hD, ?_⟩
        · unfold natsV
          rw [List.length_map, List.length_take]
          exact small1000 (by omega)
        · rw [upd_same, List.take_add_one, ehc]
          unfold natsV
          rw [List.map_append]
          rfl
      rintro H3 ⟨s3, e3⟩
      have lhc : fs.length = (hcOf p hd.1).length := by
        unfold hcOf
        rw [flsOf_mem hP.wh hP.h6 hP.wm hh, List.length_map, lf]
      rw [lhc, List.take_length] at e3
      have sG3 := sG2.trans s3
      refine ⟨_, rfl, py, _, _, _, rfl, rfl, sqT_sub sG3 y1, atI_nat (j := 0) rfl, _, rfl, .inl ⟨rfl, _, sqL_sub sG3 l1⟩, _, rfl, py, _, _, _, rfl, rfl, sqT_sub sG3 y1, atI_nat (j := 1) rfl, (by show 2 ≤ sizeLine; decide), fun t ht => ?_⟩
      have s4 := same_new (o := .tup [V.str hd.1, V.str ""]) ht
      dsimp only [tNil, tCons, tC]
      refine index_lz hwf (loc_valid hP.wh hP.h6 hh) (sG3.trans s4) dl (show Dp K _ _ (prD hd.1 "") from .tup (SqT.of upd_same) (.cons (.str _) (.cons (.str _) .nil))) ?_
      refine ⟨_, rfl, (by show 3 ≤ sizeLine; decide), fun pt hpt => ?_⟩
      have e4 := s4 _ _ e3
      have gD : G D = none := sG2.free hD
      have sB := same_upd (o := .lst (natsV (hcOf p hd.1))) (sG3.trans s4) e4
      have gB := (Gr.refl G H).put (o := .lst (natsV (hcOf p hd.1))) (s02.free hD) gD
      obtain ⟨m1, m2, m3⟩ := tup_new (K := K) sB hpt (vs := [.str word, .int (fix p.hs p.m (.str hd.1) : Nat), .ref D]) (ds := mvL (coOp p ps o)) (by
        rw [ec]
        exact .cons (.str _) (.cons (.int _) (.cons (dp_nats upd_same) .nil)))
      exact q _ _ _ (((s02.trans s3).trans s4).trans (same_new hpt)) m1 (gB.then m2 ((s02.trans s3).trans s4)) m3
    · obtain ⟨⟨wd, hw⟩, oke⟩ := ok
      have ok := oke
      obtain ⟨hr', hpk, hW⟩ := drop_ref hP.wh hP.h6 hP.wm hw
      have hloc := loc_ref hP.wh hP.h6 hP.wm hr'
      obtain ⟨v0, r, rfl, a0, y2⟩ := dpAll_cons y2
      obtain ⟨v1, r, rfl, a1, y2⟩ := dpAll_cons y2
      obtain ⟨v2, r, rfl, de, y2⟩ := dpAll_cons y2
      obtain rfl := dpAll_nil y2
      obtain rfl := dp_str a0
      obtain ⟨pf, rfl, pf1⟩ := dp_prD a1
      refine ⟨_, rfl, _, rfl, py, _, _, _, rfl, rfl, sqT_sub sG y1, rfl, ?_⟩
      refine ⟨_, rfl, py, _, _, _, rfl, rfl, sqT_sub sG y1, atI_nat (j := 0) rfl, (by show 2 ≤ sizeLine; decide), fun t0 ht0 => ?_⟩
      have st := same_new (o := .tup [V.str "set", V.str "send"]) ht0
      refine ⟨t0, _, rfl, .inr (SqT.of upd_same), rfl, rfl, _, rfl, ?_⟩
      rw [in_words.1]
      generalize upd H t0 (.tup [V.str "set", V.str "send"]) = H1 at st ⊢
      have sG1 := sG.trans st
      have en1 := st _ _ en
      refine iteT ?_
      obtain ⟨pe, es, rfl, e1, e2⟩ := dp_tup de
      obtain ⟨_, ls, epl, l1, l2⟩ := dp_lst dl
      cases epl
      cases e with
      | one a =>
        obtain ⟨x, r0, er, hi⟩ := od_in a
        have e2' := e2
        rw [show exL (.one a) = odL a from rfl, er] at e2'
        obtain ⟨u0, r, rfl, b0, e2'⟩ := dpAll_cons e2'
        obtain rfl := dp_str b0
        refine ⟨_, rfl, pe, _, _, _, rfl, rfl, sqT_sub sG1 e1, atI_nat (j := 0) rfl, (by show 3 ≤ sizeLine; decide), fun t ht => ?_⟩
        have st2 := same_new (o := .tup [V.str "num", V.str "param", V.str "field"]) ht
        refine ⟨t, _, rfl, .inr (SqT.of upd_same), rfl, rfl, _, rfl, ?_⟩
        rw [hi]
        generalize upd H1 t (.tup [V.str "num", V.str "param", V.str "field"]) = H2 at st2 ⊢
        have sG2 := sG1.trans st2
        refine iteT ?_
        refine ⟨_, rfl, _, rfl, _, rfl, ?_⟩
        dsimp only [tNil]
        refine ⟨pl, pn, .ref pe, G, p, ps, a, rfl, sG2, hwf, dl, st2 _ _ en1, hnd, de, oke, fun H3 G3 x3 s3 sG3 gr3 d3 => ⟨(by show 2 ≤ sizeLine; decide), fun t1 ht1 => ⟨(by show 3 ≤ sizeLine; decide), fun pr hpr => ?_⟩⟩⟩
        obtain ⟨a1', a2', a3'⟩ := tup_new (K := K) sG3 ht1 (vs := [.str "num", .int 0]) (ds := moL (.num 0)) (.cons (.str _) (.cons (.int _) .nil))
        obtain ⟨c1, c2, c3⟩ := tup_new (K := K) a1' hpr (vs := [.non, x3, .ref t1]) (ds := ceL (coEx p ps (.one a))) (.cons .non (.cons (dp_sub a2'.sub d3) (.cons a3' .nil)))
        have s4 := same_new (o := .tup [V.str "num", V.int 0]) ht1
        have s5 := same_new (o := .tup [V.non, x3, .ref t1]) hpr
        have s05 := (((st.trans st2).trans s3).trans s4).trans s5
        have gr5 := ((gr3.back (st.trans st2)).then a2' ((st.trans st2).trans s3)).then c2 (((st.trans st2).trans s3).trans s4)
        generalize upd (upd H3 t1 (.tup [V.str "num", V.int 0])) pr (.tup [V.non, x3, .ref t1]) = H6 at s05 c1 ⊢
        generalize upd (upd G3 t1 (.tup [V.str "num", V.int 0])) pr (.tup [V.non, x3, .ref t1]) = G6 at gr5 c1 c3
        obtain ⟨_, us, epr, u1', u2'⟩ := dp_tup c3
        cases epr
        have sG6 := sG.trans s05
        refine ⟨fun σ H2 => H6 = H2 ∧ σ = [some (.ref pg), some (.ref pl), some (.ref pn), some (.ref py), some (.ref pe), some (.ref pr), none, none, none, none], ?_, ?_⟩
        · refine ⟨_, rfl, rfl, _, rfl, ?_⟩
          exact iteF ⟨rfl, rfl⟩
        rintro σ H7 ⟨rfl, rfl⟩
        obtain ⟨e0, he0⟩ : ∃ e0, e0 = Ex.one a := ⟨_, rfl⟩
        rw [← he0] at u2' ok q
        refine ⟨_, rfl, py, _, _, _, rfl, rfl, sqT_sub sG6 y1, atI_nat (j := 0) rfl, rfl, _, rfl, ?_⟩
        rw [dcStr]
        refine iteDF op_nes.1 ?_
        refine ⟨_, rfl, py, _, _, _, rfl, rfl, sqT_sub sG6 y1, atI_nat (j := 1) rfl, pf, _, _, _, rfl, rfl, sqT_sub sG6 pf1, atI_nat (j := 0) rfl, rfl, _, rfl, ?_⟩
        rw [dcStr]
        refine iteD (fun hm => ?_) fun hm => ?_
        · have sG8 := sG6
          have c8 := c1
          have s8 := Same.refl H6
          refine ⟨_, rfl, .inl ⟨rfl, _, sqL_sub sG8 l1⟩, _, rfl, py, _, _, _, rfl, rfl, sqT_sub sG8 y1, atI_nat (j := 1) rfl, ?_⟩
          dsimp only [tNil, tCons, tC]
          refine index_lz hwf hloc sG8 dl (dp_sub sG8 a1) ?_
          refine ⟨_, rfl, _, rfl, py, _, _, _, rfl, rfl, sqT_sub sG8 y1, atI_nat (j := 1) rfl, ?_⟩
          dsimp only [tNil]
          refine ⟨.ref pg, .ref pf, G, G, p.nm, p.hs, p.m, p.sts, p.acs, p.tbs, p.ct, p.em, (o', n, wd), rfl, sG8, hP.D, hP.wh, hP.h6, hP.wm, sG8, a1, hr', fun H9 s9 => ?_⟩
          refine ⟨_, rfl, (by show 4 ≤ sizeLine; decide), fun t2 ht2 => ?_⟩
          have s10 := same_new (o := .tup [V.str "put", .int (fix p.hs p.m (prD o' n) : Nat), .int (wd : Nat), .non]) ht2
          have lu := dpAll_len u2'
          have c9 := (c8.trans s9).trans s10
          refine ⟨_, rfl, t2, pr, _, us, rfl, rfl, SqT.of upd_same, sqT_sub c9 u1', (fun z => nomatch z), ?_, (fun z => by rw [z] at lu; cases lu), fun _ pt hpt => ?_⟩
          · rw [lu]
            show 4 + 3 ≤ sizeLine
            decide
          obtain ⟨n1, n2, n3⟩ := tup_new (K := K) c9 hpt (vs := [.str "put", .int (fix p.hs p.m (prD o' n) : Nat), .int (wd : Nat), .non] ++ us) (ds := mvL (coOp p ps (.set o' n e0))) (by
            show DpAll K G6 _ (.str "put" :: .int (fix p.hs p.m (prD o' n) : Nat) :: .int (p.W o' n : Nat) :: opN _ :: ceL (coEx p ps e0))
            rw [hW, if_pos hm]
            exact .cons (.str _) (.cons (.int _) (.cons (.int _) (.cons .non u2'))))
          exact q _ _ _ ((((s05.trans s8).trans s9).trans s10).trans (same_new hpt)) n1 (gr5.then n2 (((s05.trans s8).trans s9).trans s10)) n3
        · obtain ⟨hd, hh, rfl⟩ : ∃ h ∈ p.hs, h.1 = o' := by
            rcases ref_cases hr' with z | ⟨i, j, h, f, ei, ej, z⟩ | ⟨j, f, ej, z⟩
            · exact absurd (show (o', n) = portK by cases z; rfl) hpk
            · exact ⟨h, List.mem_of_getElem? ei, (Prod.mk.inj z).1.symm⟩
            · exact absurd (Prod.mk.inj z).1 hm
          have o' := hd.1
          refine ⟨_, rfl, .inl ⟨rfl, _, sqL_sub sG6 l1⟩, _, rfl, py, _, _, _, rfl, rfl, sqT_sub sG6 y1, atI_nat (j := 1) rfl, pf, _, _, _, rfl, rfl, sqT_sub sG6 pf1, atI_nat (j := 0) rfl, (by show 2 ≤ sizeLine; decide), fun t3 ht3 => ?_⟩
          have s8 := same_new (o := .tup [V.str hd.1, V.str ""]) ht3
          have sG8 := sG6.trans s8
          have c8 := c1.trans s8
          dsimp only [tNil, tCons, tC]
          refine index_lz hwf (loc_valid hP.wh hP.h6 hh) sG8 dl (show Dp K _ _ (prD hd.1 "") from .tup (SqT.of upd_same) (.cons (.str _) (.cons (.str _) .nil))) ?_
          generalize upd H6 t3 (.tup [V.str hd.1, V.str ""]) = H8 at s8 sG8 c8 ⊢
          refine ⟨_, rfl, .inl ⟨rfl, _, sqL_sub sG8 l1⟩, _, rfl, py, _, _, _, rfl, rfl, sqT_sub sG8 y1, atI_nat (j := 1) rfl, ?_⟩
          dsimp only [tNil, tCons, tC]
          refine index_lz hwf hloc sG8 dl (dp_sub sG8 a1) ?_
          refine ⟨_, rfl, _, rfl, py, _, _, _, rfl, rfl, sqT_sub sG8 y1, atI_nat (j := 1) rfl, ?_⟩
          dsimp only [tNil]
          refine ⟨.ref pg, .ref pf, G, G, p.nm, p.hs, p.m, p.sts, p.acs, p.tbs, p.ct, p.em, (hd.1, n, wd), rfl, sG8, hP.D, hP.wh, hP.h6, hP.wm, sG8, a1, hr', fun H9 s9 => ?_⟩
          refine ⟨_, rfl, (by show 4 ≤ sizeLine; decide), fun t2 ht2 => ?_⟩
          have s10 := same_new (o := .tup [V.str "put", .int (fix p.hs p.m (prD hd.1 n) : Nat), .int (wd : Nat), .int (fix p.hs p.m (.str hd.1) : Nat)]) ht2
          have lu := dpAll_len u2'
          have c9 := (c8.trans s9).trans s10
          refine ⟨_, rfl, t2, pr, _, us, rfl, rfl, SqT.of upd_same, sqT_sub c9 u1', (fun z => nomatch z), ?_, (fun z => by rw [z] at lu; cases lu), fun _ pt hpt => ?_⟩
          · rw [lu]
            show 4 + 3 ≤ sizeLine
            decide
          obtain ⟨n1, n2, n3⟩ := tup_new (K := K) c9 hpt (vs := [.str "put", .int (fix p.hs p.m (prD hd.1 n) : Nat), .int (wd : Nat), .int (fix p.hs p.m (.str hd.1) : Nat)] ++ us) (ds := mvL (coOp p ps (.set hd.1 n e0))) (by
            show DpAll K G6 _ (.str "put" :: .int (fix p.hs p.m (prD hd.1 n) : Nat) :: .int (p.W hd.1 n : Nat) :: opN _ :: ceL (coEx p ps e0))
            rw [hW, if_neg hm]
            exact .cons (.str _) (.cons (.int _) (.cons (.int _) (.cons (.int _) u2'))))
          exact q _ _ _ ((((s05.trans s8).trans s9).trans s10).trans (same_new hpt)) n1 (gr5.then n2 (((s05.trans s8).trans s9).trans s10)) n3
      | two op a b =>
        obtain ⟨v0', r, rfl, b0, e2⟩ := dpAll_cons e2
        obtain ⟨v1', r, rfl, b1, e2⟩ := dpAll_cons e2
        obtain ⟨v2', r, rfl, b2, e2⟩ := dpAll_cons e2
        obtain rfl := dpAll_nil e2
        obtain rfl := dp_str b0
        refine ⟨_, rfl, pe, _, _, _, rfl, rfl, sqT_sub sG1 e1, atI_nat (j := 0) rfl, (by show 3 ≤ sizeLine; decide), fun t ht => ?_⟩
        have st2 := same_new (o := .tup [V.str "num", V.str "param", V.str "field"]) ht
        refine ⟨t, _, rfl, .inr (SqT.of upd_same), rfl, rfl, _, rfl, ?_⟩
        rw [sign_out oke.1]
        generalize upd H1 t (.tup [V.str "num", V.str "param", V.str "field"]) = H2 at st2 ⊢
        have sG2 := sG1.trans st2
        refine iteF ?_
        refine ⟨fun σ H6 => ∃ (G6 : Hp) (pr : Addr) (us : List V), Same H H6 ∧ Same G6 H6 ∧ Gr G G6 H ∧ SqT K G6 pr us ∧ DpAll K G6 us (ceL (coEx p ps (.two op a b))) ∧ σ = [some (.ref pg), some (.ref pl), some (.ref pn), some (.ref py), some (.ref pe), some (.ref pr), none, none, none, none], ?_, ?_⟩
        · refine ⟨_, rfl, rfl, _, rfl, ?_⟩
          refine iteT ?_
          refine ⟨_, rfl, pe, _, _, _, rfl, rfl, sqT_sub sG2 e1, atI_nat (j := 0) rfl, _, rfl, _, rfl, _, rfl, pe, _, _, _, rfl, rfl, sqT_sub sG2 e1, atI_nat (j := 1) rfl, ?_⟩
          dsimp only [tNil]
          refine ⟨pl, pn, v1', G, p, ps, a, rfl, sG2, hwf, dl, st2 _ _ en1, hnd, b1, oke.2.1, fun H3 G3 x3 s3 sG3 gr3 d3 => ?_⟩
          have sG23 := sG2.trans s3
          refine ⟨_, rfl, _, rfl, _, rfl, pe, _, _, _, rfl, rfl, sqT_sub sG23 e1, atI_nat (j := 2) rfl, ?_⟩
          dsimp only [tNil]
          refine ⟨pl, pn, v2', G3, p, ps, b, rfl, sG3, hwf, dp_sub gr3.sub dl, s3 _ _ (st2 _ _ en1), hnd, dp_sub gr3.sub b2, oke.2.2, fun H4 G4 x4 s4 sG4 gr4 d4 => ⟨(by show 3 ≤ sizeLine; decide), fun pr hpr => ?_⟩⟩
          obtain ⟨c1, c2, c3⟩ := tup_new (K := K) sG4 hpr (vs := [.str op, x3, x4]) (ds := ceL (coEx p ps (.two op a b))) (.cons (.str _) (.cons (dp_sub gr4.sub d3) (.cons d4 .nil)))
          obtain ⟨_, us, epr, u1', u2'⟩ := dp_tup c3
          cases epr
          have st22 := st.trans st2
          exact ⟨_, pr, us, ((st22.trans s3).trans s4).trans (same_new hpr), c1, ((gr3.back st22).then gr4 (st22.trans s3)).then c2 ((st22.trans s3).trans s4), u1', u2', rfl⟩
        rintro σ H6 ⟨G6, pr, us, s05, c1, gr5, u1', u2', rfl⟩
        have sG6 := sG.trans s05
        obtain ⟨e0, he0⟩ : ∃ e0, e0 = Ex.two op a b := ⟨_, rfl⟩
        rw [← he0] at u2' ok q
        refine ⟨_, rfl, py, _, _, _, rfl, rfl, sqT_sub sG6 y1, atI_nat (j := 0) rfl, rfl, _, rfl, ?_⟩
        rw [dcStr]
        refine iteDF op_nes.1 ?_
        refine ⟨_, rfl, py, _, _, _, rfl, rfl, sqT_sub sG6 y1, atI_nat (j := 1) rfl, pf, _, _, _, rfl, rfl, sqT_sub sG6 pf1, atI_nat (j := 0) rfl, rfl, _, rfl, ?_⟩
        rw [dcStr]
        refine iteD (fun hm => ?_) fun hm => ?_
        · have sG8 := sG6
          have c8 := c1
          have s8 := Same.refl H6
          refine ⟨_, rfl, .inl ⟨rfl, _, sqL_sub sG8 l1⟩, _, rfl, py, _, _, _, rfl, rfl, sqT_sub sG8 y1, atI_nat (j := 1) rfl, ?_⟩
          dsimp only [tNil, tCons, tC]
          refine index_lz hwf hloc sG8 dl (dp_sub sG8 a1) ?_
          refine ⟨_, rfl, _, rfl, py, _, _, _, rfl, rfl, sqT_sub sG8 y1, atI_nat (j := 1) rfl, ?_⟩
          dsimp only [tNil]
          refine ⟨.ref pg, .ref pf, G, G, p.nm, p.hs, p.m, p.sts, p.acs, p.tbs, p.ct, p.em, (o', n, wd), rfl, sG8, hP.D, hP.wh, hP.h6, hP.wm, sG8, a1, hr', fun H9 s9 => ?_⟩
          refine ⟨_, rfl, (by show 4 ≤ sizeLine; decide), fun t2 ht2 => ?_⟩
          have s10 := same_new (o := .tup [V.str "put", .int (fix p.hs p.m (prD o' n) : Nat), .int (wd : Nat), .non]) ht2
          have lu := dpAll_len u2'
          have c9 := (c8.trans s9).trans s10
          refine ⟨_, rfl, t2, pr, _, us, rfl, rfl, SqT.of upd_same, sqT_sub c9 u1', (fun z => nomatch z), ?_, (fun z => by rw [z] at lu; cases lu), fun _ pt hpt => ?_⟩
          · rw [lu]
            show 4 + 3 ≤ sizeLine
            decide
          obtain ⟨n1, n2, n3⟩ := tup_new (K := K) c9 hpt (vs := [.str "put", .int (fix p.hs p.m (prD o' n) : Nat), .int (wd : Nat), .non] ++ us) (ds := mvL (coOp p ps (.set o' n e0))) (by
            show DpAll K G6 _ (.str "put" :: .int (fix p.hs p.m (prD o' n) : Nat) :: .int (p.W o' n : Nat) :: opN _ :: ceL (coEx p ps e0))
            rw [hW, if_pos hm]
            exact .cons (.str _) (.cons (.int _) (.cons (.int _) (.cons .non u2'))))
          exact q _ _ _ ((((s05.trans s8).trans s9).trans s10).trans (same_new hpt)) n1 (gr5.then n2 (((s05.trans s8).trans s9).trans s10)) n3
        · obtain ⟨hd, hh, rfl⟩ : ∃ h ∈ p.hs, h.1 = o' := by
            rcases ref_cases hr' with z | ⟨i, j, h, f, ei, ej, z⟩ | ⟨j, f, ej, z⟩
            · exact absurd (show (o', n) = portK by cases z; rfl) hpk
            · exact ⟨h, List.mem_of_getElem? ei, (Prod.mk.inj z).1.symm⟩
            · exact absurd (Prod.mk.inj z).1 hm
          have o' := hd.1
          refine ⟨_, rfl, .inl ⟨rfl, _, sqL_sub sG6 l1⟩, _, rfl, py, _, _, _, rfl, rfl, sqT_sub sG6 y1, atI_nat (j := 1) rfl, pf, _, _, _, rfl, rfl, sqT_sub sG6 pf1, atI_nat (j := 0) rfl, (by show 2 ≤ sizeLine; decide), fun t3 ht3 => ?_⟩
          have s8 := same_new (o := .tup [V.str hd.1, V.str ""]) ht3
          have sG8 := sG6.trans s8
          have c8 := c1.trans s8
          dsimp only [tNil, tCons, tC]
          refine index_lz hwf (loc_valid hP.wh hP.h6 hh) sG8 dl (show Dp K _ _ (prD hd.1 "") from .tup (SqT.of upd_same) (.cons (.str _) (.cons (.str _) .nil))) ?_
          generalize upd H6 t3 (.tup [V.str hd.1, V.str ""]) = H8 at s8 sG8 c8 ⊢
          refine ⟨_, rfl, .inl ⟨rfl, _, sqL_sub sG8 l1⟩, _, rfl, py, _, _, _, rfl, rfl, sqT_sub sG8 y1, atI_nat (j := 1) rfl, ?_⟩
          dsimp only [tNil, tCons, tC]
          refine index_lz hwf hloc sG8 dl (dp_sub sG8 a1) ?_
          refine ⟨_, rfl, _, rfl, py, _, _, _, rfl, rfl, sqT_sub sG8 y1, atI_nat (j := 1) rfl, ?_⟩
          dsimp only [tNil]
          refine ⟨.ref pg, .ref pf, G, G, p.nm, p.hs, p.m, p.sts, p.acs, p.tbs, p.ct, p.em, (hd.1, n, wd), rfl, sG8, hP.D, hP.wh, hP.h6, hP.wm, sG8, a1, hr', fun H9 s9 => ?_⟩
          refine ⟨_, rfl, (by show 4 ≤ sizeLine; decide), fun t2 ht2 => ?_⟩
          have s10 := same_new (o := .tup [V.str "put", .int (fix p.hs p.m (prD hd.1 n) : Nat), .int (wd : Nat), .int (fix p.hs p.m (.str hd.1) : Nat)]) ht2
          have lu := dpAll_len u2'
          have c9 := (c8.trans s9).trans s10
          refine ⟨_, rfl, t2, pr, _, us, rfl, rfl, SqT.of upd_same, sqT_sub c9 u1', (fun z => nomatch z), ?_, (fun z => by rw [z] at lu; cases lu), fun _ pt hpt => ?_⟩
          · rw [lu]
            show 4 + 3 ≤ sizeLine
            decide
          obtain ⟨n1, n2, n3⟩ := tup_new (K := K) c9 hpt (vs := [.str "put", .int (fix p.hs p.m (prD hd.1 n) : Nat), .int (wd : Nat), .int (fix p.hs p.m (.str hd.1) : Nat)] ++ us) (ds := mvL (coOp p ps (.set hd.1 n e0))) (by
            show DpAll K G6 _ (.str "put" :: .int (fix p.hs p.m (prD hd.1 n) : Nat) :: .int (p.W hd.1 n : Nat) :: opN _ :: ceL (coEx p ps e0))
            rw [hW, if_neg hm]
            exact .cons (.str _) (.cons (.int _) (.cons (.int _) (.cons (.int _) u2'))))
          exact q _ _ _ ((((s05.trans s8).trans s9).trans s10).trans (same_new hpt)) n1 (gr5.then n2 (((s05.trans s8).trans s9).trans s10)) n3
    · obtain ⟨v0, r, rfl, a0, y2⟩ := dpAll_cons y2
      obtain rfl := dpAll_nil y2
      obtain rfl := dp_str a0
      refine ⟨_, rfl, _, rfl, py, _, _, _, rfl, rfl, sqT_sub sG y1, rfl, ?_⟩
      refine ⟨_, rfl, py, _, _, _, rfl, rfl, sqT_sub sG y1, atI_nat (j := 0) rfl, (by show 2 ≤ sizeLine; decide), fun t0 ht0 => ?_⟩
      have st := same_new (o := .tup [V.str "set", V.str "send"]) ht0
      refine ⟨t0, _, rfl, .inr (SqT.of upd_same), rfl, rfl, _, rfl, ?_⟩
      rw [in_words.2.2.1]
      generalize upd H t0 (.tup [V.str "set", V.str "send"]) = H1 at st ⊢
      have sG1 := sG.trans st
      have en1 := st _ _ en
      refine iteF ?_
      refine ⟨_, rfl, py, _, _, _, rfl, rfl, sqT_sub sG1 y1, atI_nat (j := 0) rfl, rfl, _, rfl, ?_⟩
      rw [dcStr]
      refine iteDT rfl ?_
      refine ⟨(by show 2 ≤ sizeLine; decide), fun p1 hp1 => ⟨(by show 2 ≤ sizeLine; decide), fun p2 hp2 => ⟨(by show 4 ≤ sizeLine; decide), fun pt hpt => ?_⟩⟩⟩
      obtain ⟨m1, m2, m3⟩ := tup_new (K := K) sG1 hp1 (vs := [.str "num", .int 8]) (ds := moL (.num 8)) (.cons (.str _) (.cons (.int _) .nil))
      obtain ⟨o1, o2, o3⟩ := tup_new (K := K) m1 hp2 (vs := [.str "num", .int 0]) (ds := moL (.num 0)) (.cons (.str _) (.cons (.int _) .nil))
      obtain ⟨n1, n2, n3⟩ := tup_new (K := K) o1 hpt (vs := [.str "send", .non, .ref p1, .ref p2]) (ds := mvL (coOp p ps .drp)) (.cons (.str _) (.cons .non (.cons (dp_sub o2.sub m3) (.cons o3 .nil))))
      exact q _ _ _ (((st.trans (same_new hp1)).trans (same_new hp2)).trans (same_new hpt)) n1 (((m2.back st).then o2 (st.trans (same_new hp1))).then n2 ((st.trans (same_new hp1)).trans (same_new hp2))) n3
    · obtain ⟨v0, r, rfl, a0, y2⟩ := dpAll_cons y2
      obtain ⟨v1, r, rfl, de, y2⟩ := dpAll_cons y2
      obtain rfl := dpAll_nil y2
      obtain rfl := dp_str a0
      have oke := ok
      refine ⟨_, rfl, _, rfl, py, _, _, _, rfl, rfl, sqT_sub sG y1, rfl, ?_⟩
      refine ⟨_, rfl, py, _, _, _, rfl, rfl, sqT_sub sG y1, atI_nat (j := 0) rfl, (by show 2 ≤ sizeLine; decide), fun t0 ht0 => ?_⟩
      have st := same_new (o := .tup [V.str "set", V.str "send"]) ht0
      refine ⟨t0, _, rfl, .inr (SqT.of upd_same), rfl, rfl, _, rfl, ?_⟩
      rw [in_words.2.1]
      generalize upd H t0 (.tup [V.str "set", V.str "send"]) = H1 at st ⊢
      have sG1 := sG.trans st
      have en1 := st _ _ en
      refine iteT ?_
      obtain ⟨pe, es, rfl, e1, e2⟩ := dp_tup de
      obtain ⟨_, ls, epl, l1, l2⟩ := dp_lst dl
      cases epl
      cases e with
      | one a =>
        obtain ⟨x, r0, er, hi⟩ := od_in a
        have e2' := e2
        rw [show exL (.one a) = odL a from rfl, er] at e2'
        obtain ⟨u0, r, rfl, b0, e2'⟩ := dpAll_cons e2'
        obtain rfl := dp_str b0
        refine ⟨_, rfl, pe, _, _, _, rfl, rfl, sqT_sub sG1 e1, atI_nat (j := 0) rfl, (by show 3 ≤ sizeLine; decide), fun t ht => ?_⟩
        have st2 := same_new (o := .tup [V.str "num", V.str "param", V.str "field"]) ht
        refine ⟨t, _, rfl, .inr (SqT.of upd_same), rfl, rfl, _, rfl, ?_⟩
        rw [hi]
        generalize upd H1 t (.tup [V.str "num", V.str "param", V.str "field"]) = H2 at st2 ⊢
        have sG2 := sG1.trans st2
        refine iteT ?_
        refine ⟨_, rfl, _, rfl, _, rfl, ?_⟩
        dsimp only [tNil]
        refine ⟨pl, pn, .ref pe, G, p, ps, a, rfl, sG2, hwf, dl, st2 _ _ en1, hnd, de, oke, fun H3 G3 x3 s3 sG3 gr3 d3 => ⟨(by show 2 ≤ sizeLine; decide), fun t1 ht1 => ⟨(by show 3 ≤ sizeLine; decide), fun pr hpr => ?_⟩⟩⟩
        obtain ⟨a1', a2', a3'⟩ := tup_new (K := K) sG3 ht1 (vs := [.str "num", .int 0]) (ds := moL (.num 0)) (.cons (.str _) (.cons (.int _) .nil))
        obtain ⟨c1, c2, c3⟩ := tup_new (K := K) a1' hpr (vs := [.non, x3, .ref t1]) (ds := ceL (coEx p ps (.one a))) (.cons .non (.cons (dp_sub a2'.sub d3) (.cons a3' .nil)))
        have s4 := same_new (o := .tup [V.str "num", V.int 0]) ht1
        have s5 := same_new (o := .tup [V.non, x3, .ref t1]) hpr
        have s05 := (((st.trans st2).trans s3).trans s4).trans s5
        have gr5 := ((gr3.back (st.trans st2)).then a2' ((st.trans st2).trans s3)).then c2 (((st.trans st2).trans s3).trans s4)
        generalize upd (upd H3 t1 (.tup [V.str "num", V.int 0])) pr (.tup [V.non, x3, .ref t1]) = H6 at s05 c1 ⊢
        generalize upd (upd G3 t1 (.tup [V.str "num", V.int 0])) pr (.tup [V.non, x3, .ref t1]) = G6 at gr5 c1 c3
        obtain ⟨_, us, epr, u1', u2'⟩ := dp_tup c3
        cases epr
        have sG6 := sG.trans s05
        refine ⟨fun σ H2 => H6 = H2 ∧ σ = [some (.ref pg), some (.ref pl), some (.ref pn), some (.ref py), some (.ref pe), some (.ref pr), none, none, none, none], ?_, ?_⟩
        · refine ⟨_, rfl, rfl, _, rfl, ?_⟩
          exact iteF ⟨rfl, rfl⟩
        rintro σ H7 ⟨rfl, rfl⟩
        obtain ⟨e0, he0⟩ : ∃ e0, e0 = Ex.one a := ⟨_, rfl⟩
        rw [← he0] at u2' ok q
        refine ⟨_, rfl, py, _, _, _, rfl, rfl, sqT_sub sG6 y1, atI_nat (j := 0) rfl, rfl, _, rfl, ?_⟩
        rw [dcStr]
        refine iteDT rfl ?_
        refine ⟨(by show 1 ≤ sizeLine; decide), fun t2 ht2 => ?_⟩
        have s7 := same_new (o := .tup [V.str "send"]) ht2
        have lu := dpAll_len u2'
        refine ⟨_, rfl, t2, pr, _, us, rfl, rfl, SqT.of upd_same, sqT_sub (c1.trans s7) u1', (fun z => nomatch z), ?_, (fun z => by rw [z] at lu; cases lu), fun _ pt hpt => ?_⟩
        · rw [lu]
          show 1 + 3 ≤ sizeLine
          decide
        obtain ⟨n1, n2, n3⟩ := tup_new (K := K) (c1.trans s7) hpt (vs := [.str "send"] ++ us) (ds := mvL (coOp p ps (.snd e0))) (.cons (.str _) u2')
        exact q _ _ _ ((s05.trans s7).trans (same_new hpt)) n1 (gr5.then n2 (s05.trans s7)) n3
      | two op a b =>
        obtain ⟨v0', r, rfl, b0, e2⟩ := dpAll_cons e2
        obtain ⟨v1', r, rfl, b1, e2⟩ := dpAll_cons e2
        obtain ⟨v2', r, rfl, b2, e2⟩ := dpAll_cons e2
        obtain rfl := dpAll_nil e2
        obtain rfl := dp_str b0
        refine ⟨_, rfl, pe, _, _, _, rfl, rfl, sqT_sub sG1 e1, atI_nat (j := 0) rfl, (by show 3 ≤ sizeLine; decide), fun t ht => ?_⟩
        have st2 := same_new (o := .tup [V.str "num", V.str "param", V.str "field"]) ht
        refine ⟨t, _, rfl, .inr (SqT.of upd_same), rfl, rfl, _, rfl, ?_⟩
        rw [sign_out oke.1]
        generalize upd H1 t (.tup [V.str "num", V.str "param", V.str "field"]) = H2 at st2 ⊢
        have sG2 := sG1.trans st2
        refine iteF ?_
        refine ⟨fun σ H6 => ∃ (G6 : Hp) (pr : Addr) (us : List V), Same H H6 ∧ Same G6 H6 ∧ Gr G G6 H ∧ SqT K G6 pr us ∧ DpAll K G6 us (ceL (coEx p ps (.two op a b))) ∧ σ = [some (.ref pg), some (.ref pl), some (.ref pn), some (.ref py), some (.ref pe), some (.ref pr), none, none, none, none], ?_, ?_⟩
        · refine ⟨_, rfl, rfl, _, rfl, ?_⟩
          refine iteT ?_
          refine ⟨_, rfl, pe, _, _, _, rfl, rfl, sqT_sub sG2 e1, atI_nat (j := 0) rfl, _, rfl, _, rfl, _, rfl, pe, _, _, _, rfl, rfl, sqT_sub sG2 e1, atI_nat (j := 1) rfl, ?_⟩
          dsimp only [tNil]
          refine ⟨pl, pn, v1', G, p, ps, a, rfl, sG2, hwf, dl, st2 _ _ en1, hnd, b1, oke.2.1, fun H3 G3 x3 s3 sG3 gr3 d3 => ?_⟩
          have sG23 := sG2.trans s3
          refine ⟨_, rfl, _, rfl, _, rfl, pe, _, _, _, rfl, rfl, sqT_sub sG23 e1, atI_nat (j := 2) rfl, ?_⟩
          dsimp only [tNil]
          refine ⟨pl, pn, v2', G3, p, ps, b, rfl, sG3, hwf, dp_sub gr3.sub dl, s3 _ _ (st2 _ _ en1), hnd, dp_sub gr3.sub b2, oke.2.2, fun H4 G4 x4 s4 sG4 gr4 d4 => ⟨(by show 3 ≤ sizeLine; decide), fun pr hpr => ?_⟩⟩
          obtain ⟨c1, c2, c3⟩ := tup_new (K := K) sG4 hpr (vs := [.str op, x3, x4]) (ds := ceL (coEx p ps (.two op a b))) (.cons (.str _) (.cons (dp_sub gr4.sub d3) (.cons d4 .nil)))
          obtain ⟨_, us, epr, u1', u2'⟩ := dp_tup c3
          cases epr
          have st22 := st.trans st2
          exact ⟨_, pr, us, ((st22.trans s3).trans s4).trans (same_new hpr), c1, ((gr3.back st22).then gr4 (st22.trans s3)).then c2 ((st22.trans s3).trans s4), u1', u2', rfl⟩
        rintro σ H6 ⟨G6, pr, us, s05, c1, gr5, u1', u2', rfl⟩
        have sG6 := sG.trans s05
        obtain ⟨e0, he0⟩ : ∃ e0, e0 = Ex.two op a b := ⟨_, rfl⟩
        rw [← he0] at u2' ok q
        refine ⟨_, rfl, py, _, _, _, rfl, rfl, sqT_sub sG6 y1, atI_nat (j := 0) rfl, rfl, _, rfl, ?_⟩
        rw [dcStr]
        refine iteDT rfl ?_
        refine ⟨(by show 1 ≤ sizeLine; decide), fun t2 ht2 => ?_⟩
        have s7 := same_new (o := .tup [V.str "send"]) ht2
        have lu := dpAll_len u2'
        refine ⟨_, rfl, t2, pr, _, us, rfl, rfl, SqT.of upd_same, sqT_sub (c1.trans s7) u1', (fun z => nomatch z), ?_, (fun z => by rw [z] at lu; cases lu), fun _ pt hpt => ?_⟩
        · rw [lu]
          show 1 + 3 ≤ sizeLine
          decide
        obtain ⟨n1, n2, n3⟩ := tup_new (K := K) (c1.trans s7) hpt (vs := [.str "send"] ++ us) (ds := mvL (coOp p ps (.snd e0))) (.cons (.str _) u2')
        exact q _ _ _ ((s05.trans s7).trans (same_new hpt)) n1 (gr5.then n2 (s05.trans s7)) n3
/-- the cells as the law shows them -/
def spShownL (K : PySem.W.Frag) : Sp := fun vs H Q _ => ∃ (pp pd pv pz : Addr) (y : V) (p : Pd) (port : Nat) (s : Ms) (zs : List V) (G : Hp), vs = [.ref pp, y] ∧ Pq H p pp pd pv pz port s zs ∧ Same G H ∧ WfP p ∧ Dp K G y (rowsD p) ∧
  ∀ H' q, Same H H' → H q = none → H' q = some (.lst (natsV (cellsG p port s))) → Q (.ref q) H'
theorem ok_shownL {f : Addr} {fd : FuncData} (F : Fun K "_law_shown" "_law_shown" sShownL f fd) (zInt : mg "int" = none) (D1 : Df P w K mg base CX0 1 "_law_value" ["p", "field"] (spValueG K)) : FnOk P w K mg base CX0 2 f fd ["p", "rows"] (spShownL K) := by
  obtain ⟨f1, fd1, G1, g1, k1, b1⟩ := D1.ex
  refine F.ok scShownL (fun vs H Q E h => ?_) (fun cdv A outer s0 H vs Q E hr h => ?_)
  · obtain ⟨pp, pd, pv', pz, y, p, port, s, zs, G, rfl, _⟩ := h
    rfl
  · obtain ⟨pp, pd, pv', pz, y, p, port, s, zs, G, rfl, hp, sG, hP, hy, q⟩ := h
    have nd := scShownL.nd
    refine ⟨_, (pss_cons (ps_set (i := 2) nd rfl (.inl rfl) (pe_lst (pa_cons (pe_ix ix_list (pv 0) pe_int (fun _ _ => rfl)) (pa_cons (pe_ifExp (pt_cmpR op_isN (pe_ix ix_list (pv 0) pe_int (fun _ _ => rfl)) pe_non (nomark _)) pe_int (pe_ix ix_list (pv 0) pe_int (fun _ _ => rfl))) pa_nil))))
      (pss_cons (ps_for PassesOwn.never rfl (pi_list (pe_slice sl_list (pv 1) (po_some pe_int) po_none)) (pg_tup (by rfl) (pgs_cons (pg_name (i := 3) nd rfl (.inl rfl)) (pgs_cons (pg_name (i := 4) nd rfl (.inl rfl)) pgs_nil)))
        (pss_one (ps_if (pt_cmpR op_eq (pe_ix ix_tup (pv 3) pe_int (fun _ _ => rfl)) pe_str (nomark _)) (pss_one (ps_expr (pe_bm PySem.F.plainAttrs_list PySem.F.slot_list_append PySem.F.type_list_append mt_append (pv 2) (pa_cons (pe_callTy call_int1 (by rfl) zInt (by decide +kernel) (pa_cons (pe_cmpR op_in_seq (pe_ix ix_tup (pv 3) pe_int (fun _ _ => rfl)) (pe_ix ix_list (pv 0) pe_int (fun _ _ => rfl)) (by rfl)) pa_nil)) pa_nil)))) (pss_one (ps_expr (pe_bm PySem.F.plainAttrs_list PySem.F.slot_list_append PySem.F.type_list_append mt_append (pv 2) (pa_cons (pe_call G1 (hr.mono (by omega)) (by rfl) g1 k1 b1 .nil pass0 (pa_cons (pv 0) (pa_cons (pv 3) pa_nil))) pa_nil)))))))
      (pss_one (ps_ret (pv 2))))), ?_⟩
    have ext0 : ∃ d1 d2, cellsL p.hs p.m = d1 :: d2 :: (p.hs.flatMap hCells ++ mCells p.m) ∧ pvG port s d1.1 = port ∧ pvG port s d2.1 = s.out.getD 8 := by
      refine ⟨_, _, rfl, ?_, rfl⟩
      show rdF port s.F "packet" "port" = port
      exact if_pos rfl
    obtain ⟨d1, d2, ec, ev1, ev2⟩ := ext0
    obtain ⟨vals, hv⟩ : ∃ vals, vals = (p.hs.flatMap hCells ++ mCells p.m).map fun c => pvG port s c.1 := ⟨_, rfl⟩
    have ecell : cellsG p port s = port :: s.out.getD 8 :: vals := by
      unfold cellsG placesL
      rw [ec, List.map_map, List.map_cons, List.map_cons, hv]
      show _ :: _ :: _ = _
      congr 1
      congr 1
    have hmany : (cellsG p port s).length ≤ 1000 := by
      rw [cellsG_len]
      exact many_le hP.wh hP.h6 hP.wm
    obtain ⟨pr, rs, rfl, r1, r2⟩ := dp_lst hy
    have lr := dpAll_len r2
    rw [List.length_map, ec, List.length_cons, List.length_cons] at lr
    have lv : vals.length = (p.hs.flatMap hCells ++ mCells p.m).length := by rw [hv, List.length_map]
    rw [ecell, List.length_cons, List.length_cons] at hmany
    refine ⟨_, rfl, pp, _, _, _, rfl, rfl, SqL.of hp.e, atI_nat (j := 3) rfl, ?_⟩
    refine mid_rdG (fun x H2 => H2 = H ∧ x = .int (s.out.getD 8 : Nat)) (fun R hR => ?_) (fun x H2 hC => ?_)
    · refine ⟨_, rfl, pp, _, _, _, rfl, rfl, SqL.of hp.e, atI_nat (j := 2) rfl, rfl, _, rfl, ?_⟩
      cases ho : s.out with
      | none => exact iteT (hR _ _ ⟨rfl, by rw [ho]; rfl⟩)
      | some n => exact iteF ⟨_, rfl, pp, _, _, _, rfl, rfl, SqL.of hp.e, atI_nat (j := 2) rfl, hR _ _ ⟨rfl, by rw [ho]; rfl⟩⟩
    obtain ⟨rfl, rfl⟩ := hC
    refine ⟨(by show 2 ≤ sizeLine; decide), fun l hl => ?_⟩
    have s1 := same_new (o := .lst [V.int (port : Nat), .int (s.out.getD 8 : Nat)]) hl
    have e1 : (upd H2 l (.lst [V.int (port : Nat), .int (s.out.getD 8 : Nat)])) l = some (.lst (natsV (port :: s.out.getD 8 :: vals.take 0))) := upd_same
    generalize upd H2 l (.lst [V.int (port : Nat), .int (s.out.getD 8 : Nat)]) = H1 at s1 e1 ⊢
    refine ⟨_, rfl, _, rfl, pr, rs, rfl, sqL_sub (sG.trans s1) r1, fun ps hps => ?_⟩
    rw [show (2 : Int) = ((2 : Nat) : Int) from rfl, cut_from _ _ (by omega)]
    have s2 := same_new (o := .lst (rs.drop 2)) hps
    have e2 := s2 _ _ e1
    have ep : (upd H1 ps (.lst (rs.drop 2))) ps = some (.lst (rs.drop 2)) := upd_same
    have npl : ps ≠ l := Ne.symm (ne_of_none e1 hps)
    have s12 := s1.trans s2
    generalize upd H1 ps (.lst (rs.drop 2)) = H3 at s12 e2 ep ⊢
    refine ⟨ps, rfl, ⟨_, SqL.of ep⟩, for_list (K := K) (a := ps) (xs := rs.drop 2) (fun j σ H4 => Same H2 H4 ∧ H4 l = some (.lst (natsV (port :: s.out.getD 8 :: vals.take j))) ∧ H4 ps = some (.lst (rs.drop 2)) ∧ ∃ o3 o4, σ = [some (.ref pp), some (.ref pr), some (.ref l), o3, o4]) ⟨s12, e2, ep, none, none, rfl⟩ (fun j σ H4 _ h => SqL.of h.2.2.1) ?_ ?_⟩
    · rintro j y σ H4 hy' ⟨s4, e4, ep4, o3, o4, rfl⟩
      rw [List.getElem?_drop] at hy'
      obtain ⟨d, ed, hd⟩ := dpAll_val r2 hy'
      rw [List.getElem?_map, ec, Nat.add_comm 2 j, List.getElem?_cons_succ, List.getElem?_cons_succ] at ed
      obtain ⟨c, ecj, rfl⟩ := Option.map_eq_some_iff.mp ed
      have hj := (List.getElem?_eq_some_iff.mp ecj).1
      have evj : vals[j]? = some (pvG port s c.1) := by rw [hv, List.getElem?_map, ecj]; rfl
      have hcm : c.1 ∈ placesL p.hs p.m := by
        unfold placesL
        rw [ec]
        exact List.mem_map.mpr ⟨c, List.mem_cons_of_mem _ (List.mem_cons_of_mem _ (List.mem_of_getElem? ecj)), rfl⟩
      have hnon : c.1 ≠ .none := fun z => by
        have hm := List.mem_of_getElem? ecj
        rcases List.mem_append.mp hm with hm | hm
        · obtain ⟨h, _, hm⟩ := List.mem_flatMap.mp hm
          rcases List.mem_cons.mp hm with e | hm
          · rw [e] at z; cases z
          · obtain ⟨f, _, e⟩ := List.mem_map.mp hm
            rw [← e] at z; cases z
        · obtain ⟨f, _, e⟩ := List.mem_map.mp hm
          rw [← e] at z; cases z
      obtain ⟨pt, ts, rfl, t1, t2⟩ := dp_tup hd
      obtain ⟨w0, r, rfl, n0, t2⟩ := dpAll_cons t2
      obtain ⟨w1, r, rfl, n1, t2⟩ := dpAll_cons t2
      obtain rfl := dpAll_nil t2
      obtain rfl := dp_int n1
      have sG4 := sG.trans s4
      have hp4 := hp.same s4
      have lsz : (natsV (port :: s.out.getD 8 :: vals.take j)).length < sizeLine := by
        unfold natsV
        rw [List.length_map, List.length_cons, List.length_cons, List.length_take]
        exact small1000 (by omega)
      have fin : ∀ H5, Same H4 H5 → ∀ v : V, v = .int (pvG port s c.1 : Nat) → Same H2 (upd H5 l (.lst (natsV (port :: s.out.getD 8 :: vals.take j) ++ [v]))) ∧ (upd H5 l (.lst (natsV (port :: s.out.getD 8 :: vals.take j) ++ [v]))) l = some (.lst (natsV (port :: s.out.getD 8 :: vals.take (j + 1)))) ∧ (upd H5 l (.lst (natsV (port :: s.out.getD 8 :: vals.take j) ++ [v]))) ps = some (.lst (rs.drop 2)) := fun H5 s5 v ev => by
        refine ⟨same_set (s4.trans s5) hl, ?_, by rw [upd_ne npl]; exact s5 _ _ ep4⟩
        rw [upd_same, List.take_add_one, evj, ev]
        unfold natsV
        rw [List.map_cons, List.map_cons, List.map_cons, List.map_cons, List.map_append]
        rfl
      rcases place_kinds hP hcm with e | ⟨h, hh, e⟩ | ⟨r, hr', e⟩
      · exact absurd e hnon
      · rw [e] at n0
        obtain ⟨pf, rfl, pf1⟩ := dp_prD (o := h.1) (n := "") n0
        refine ⟨pt, _, rfl, sqT_sub sG4 t1, rfl, _, _, rfl, _, _, rfl, rfl, ?_⟩
        refine ⟨_, rfl, pf, _, _, _, rfl, rfl, sqT_sub sG4 pf1, atI_nat (j := 1) rfl, rfl, _, rfl, ?_⟩
        rw [dcStr]
        refine iteDT rfl ?_
        refine ⟨_, rfl, .inl ⟨rfl, _, SqL.of e4⟩, _, rfl, pf, _, _, _, rfl, rfl, sqT_sub sG4 pf1, atI_nat (j := 0) rfl, _, rfl, pp, _, _, _, rfl, rfl, SqL.of hp4.e, atI_nat (j := 1) rfl, pv', _, rfl, .inl (SqL.of hp4.v), rfl, flat_strs _, .inr ⟨_, rfl, l, _, _, rfl, rfl, e4, lsz, ?_⟩⟩
        obtain ⟨f1', f2', f3'⟩ := fin H4 (Same.refl _) (.int (if inV (.str h.1) (s.vs.map V.str) = true then 1 else 0)) (by
          rw [e, pvG_str, inV_str]
          by_cases k : h.1 ∈ s.vs
          · rw [if_pos k, if_pos (decide_eq_true k)]
            rfl
          · rw [if_neg k, if_neg (by rw [decide_eq_false k]; exact Bool.false_ne_true)]
            rfl)
        exact ⟨f1', f2', f3', _, _, rfl⟩
      · rw [e] at n0
        obtain ⟨pf, rfl, pf1⟩ := dp_prD n0
        have hsx := refs_sx hP.wh hP.h6 hP.wm r hr'
        refine ⟨pt, _, rfl, sqT_sub sG4 t1, rfl, _, _, rfl, _, _, rfl, rfl, ?_⟩
        refine ⟨_, rfl, pf, _, _, _, rfl, rfl, sqT_sub sG4 pf1, atI_nat (j := 1) rfl, rfl, _, rfl, ?_⟩
        rw [dcStr]
        refine iteDF (ref_ne hP hr').2 ?_
        refine ⟨_, rfl, .inl ⟨rfl, _, SqL.of e4⟩, _, rfl, _, rfl, ?_⟩
        dsimp only [tNil]
        refine ⟨pp, pd, pv', pz, .ref pf, p, port, s, zs, G, r.1, r.2.1, rfl, hp4, sG4, n0, hsx.1, hsx.2.1, fun H5 s5 => ?_⟩
        obtain ⟨f1', f2', f3'⟩ := fin H5 s5 _ rfl
        rw [e, pvG_pr] at f1' f2' f3'
        exact ⟨l, _, _, rfl, rfl, s5 _ _ e4, lsz, f1', f2', f3', _, _, rfl⟩
    · rintro σ H4 ⟨s4, e4, ep4, o3, o4, rfl⟩
      have lx : (rs.drop 2).length = vals.length := by rw [List.length_drop, lv]; omega
      rw [lx, List.take_length, ← ecell] at e4
      exact ⟨_, rfl, q H4 l s4 hl e4⟩
end
end Pk
set_option Elab.async false
set_option linter.all false
set_option maxRecDepth 100000
set_option maxHeartbeats 4000000
/-! operand_value, value_of, put_changes, changes_of, execute -/
namespace Pk
open PySem PySem.Spec PyProof.Rows L2 SX GxR Tk
abbrev sOdVal : Stmt := topS 36
abbrev NOdVal : List Str := ["operand", "cells", "args", "kind", "number"]
theorem scOdVal : FnScope NOdVal ["operand", "cells", "args"] (defScope sOdVal) := ⟨rfl, rfl, rfl, by decide +kernel, rfl, by decide +kernel, by decide +kernel⟩
abbrev sValOf : Stmt := topS 35
abbrev NValOf : List Str := ["operator", "first", "second", "cells", "args", "value"]
theorem scValOf : FnScope NValOf ["operator", "first", "second", "cells", "args"] (defScope sValOf) := ⟨rfl, rfl, rfl, by decide +kernel, rfl, by decide +kernel, by decide +kernel⟩
abbrev sPutCh : Stmt := topS 34
abbrev NPutCh : List Str := ["move", "cells", "args", "_", "cell", "width", "valid", "operator", "first", "second", "value"]
theorem scPutCh : FnScope NPutCh ["move", "cells", "args"] (defScope sPutCh) := ⟨rfl, rfl, rfl, by decide +kernel, rfl, by decide +kernel, by decide +kernel⟩
abbrev sChOf : Stmt := topS 33
abbrev NChOf : List Str := ["move", "cells", "args", "word", "_", "operator", "first", "second", "value", "valid", "emptied", "cell"]
theorem scChOf : FnScope NChOf ["move", "cells", "args"] (defScope sChOf) := ⟨rfl, rfl, rfl, by decide +kernel, rfl, by decide +kernel, by decide +kernel⟩
abbrev sExec : Stmt := topS 32
abbrev NExec : List Str := ["moves", "cells", "args", "move", "changes", "cell", "value"]
theorem scExec : FnScope NExec ["moves", "cells", "args"] (defScope sExec) := ⟨rfl, rfl, rfl, by decide +kernel, rfl, by decide +kernel, by decide +kernel⟩
/-- the cells and the arguments stand -/
structure Cn (K : PySem.W.Frag) (H : Hp) (pc pa : Addr) (p : Pd) (port : Nat) (s : Ms) (ps : List Fl) (ns : List Int) : Prop where
  cs : SqL K H pc (natsV (cellsG p port s))
  as : SqL K H pa (ns.map V.int)
  ln : ns.length = ps.length
theorem Cn.same {K : PySem.W.Frag} {H H' : Hp} {pc pa : Addr} {p : Pd} {port : Nat} {s : Ms} {ps : List Fl} {ns : List Int} (h : Cn K H pc pa p port s ps ns) (k : Same H H') : Cn K H' pc pa p port s ps ns := ⟨sqL_sub k h.cs, sqL_sub k h.as, h.ln⟩
theorem cell_at {p : Pd} {z : PyData} {w port : Nat} {s : Ms} (h : Loc p.hs p.m z w) : (natsV (cellsG p port s))[fix p.hs p.m z]? = some (V.int (pvG port s z : Nat)) := by
  unfold natsV cellsG
  rw [List.getElem?_map, List.getElem?_map, h.fd.at_]
  rfl
theorem arg_at {ps : List Fl} {ns : List Int} (h : ns.length = ps.length) {x : Str} {w : Nat} (hx : (x, w) ∈ ps) : (ns.map V.int)[(ps.map Prod.fst).findIdx fun y => decide (y = x)]? = some (V.int (argV (ps.map Prod.fst) ns x)) := by
  have hlt : ((ps.map Prod.fst).findIdx fun y => decide (y = x)) < ps.length := by
    have := List.findIdx_lt_length_of_exists (xs := ps.map Prod.fst) (p := fun y => decide (y = x)) ⟨x, List.mem_map.mpr ⟨_, hx, rfl⟩, decide_eq_true rfl⟩
    rwa [List.length_map] at this
  unfold argV
  rw [List.getElem?_map, List.getElem?_eq_getElem (by omega)]
  rfl
theorem mo_ne : Str.ofString "num" ≠ Str.ofString "cell" ∧ Str.ofString "num" ≠ Str.ofString "arg" ∧ Str.ofString "arg" ≠ Str.ofString "cell" ∧ Str.ofString "send" ≠ Str.ofString "put" ∧ Str.ofString "add" ≠ Str.ofString "put" ∧ Str.ofString "remove" ≠ Str.ofString "put" ∧ Str.ofString "add" ≠ Str.ofString "send" ∧ Str.ofString "remove" ≠ Str.ofString "send" ∧ Str.ofString "add" ≠ Str.ofString "remove" := by decide +kernel
section
variable {P : Program} {w : World} {K : PySem.W.Frag} {mg : Str → Option Value} {base : Heap}
def spOdVal (K : PySem.W.Frag) : Sp := fun vs H Q _ => ∃ (x : V) (pc pa : Addr) (G : Hp) (p : Pd) (port : Nat) (s : Ms) (ps : List Fl) (ns : List Int) (a : Od), vs = [x, .ref pc, .ref pa] ∧ Same G H ∧ WfP p ∧ Dp K G x (.tuple (moL (coOd p ps a))) ∧ OdOk (refsOf p.hs p.m) ps a ∧ Cn K H pc pa p port s ps ns ∧
  Q (.int (odV port s.F (argV (ps.map Prod.fst) ns) a)) H
theorem ok_odVal {f : Addr} {fd : FuncData} {k : Nat} (F : Fun K "operand_value" "operand_value" sOdVal f fd)   : FnOk P w K mg base CX0 (k + 1) f fd ["operand", "cells", "args"] (spOdVal K) := by
  refine F.ok scOdVal (fun vs H Q E h => ?_) (fun cdv A outer s0 H vs Q E hr h => ?_)
  · obtain ⟨x, pc, pa, G, p, port, s, ps, ns, a, rfl, _⟩ := h
    rfl
  · obtain ⟨x, pc, pa, G, p, port, s, ps, ns, a, rfl, sG, hP, hx, ok, C, q⟩ := h
    have nd := scOdVal.nd
    refine ⟨_, (pss_cons (ps_asg (pv 0) (pg_tup (by rfl) (pgs_cons (pg_name (i := 3) nd rfl (.inl rfl)) (pgs_cons (pg_name (i := 4) nd rfl (.inl rfl)) pgs_nil))))
      (pss_cons (ps_if (pt_cmpR op_eq (pv 3) pe_str (nomark _)) (pss_one (ps_ret (pe_ix ix_list (pv 1) (pv 4) (fun _ _ => rfl)))) pss_nil)
      (pss_cons (ps_if (pt_cmpR op_eq (pv 3) pe_str (nomark _)) (pss_one (ps_ret (pe_ix ix_list (pv 2) (pv 4) (fun _ _ => rfl)))) pss_nil)
      (pss_one (ps_ret (pv 4)))))), ?_⟩
    obtain ⟨px, xs, rfl, x1, x2⟩ := dp_tup hx
    cases a with
    | num n =>
      obtain ⟨v0, r, rfl, a0, x2⟩ := dpAll_cons x2
      obtain ⟨v1, r, rfl, a1, x2⟩ := dpAll_cons x2
      obtain rfl := dpAll_nil x2
      obtain rfl := dp_str a0
      obtain rfl := dp_int a1
      refine ⟨_, rfl, px, _, rfl, sqT_sub sG x1, rfl, _, _, rfl, _, _, rfl, rfl, ?_⟩
      refine ⟨_, rfl, rfl, _, rfl, ?_⟩
      rw [dcStr]
      refine iteDF mo_ne.1 ⟨_, rfl, rfl, _, rfl, ?_⟩
      rw [dcStr]
      exact iteDF mo_ne.2.1 ⟨_, rfl, q⟩
    | par y =>
      obtain ⟨v0, r, rfl, a0, x2⟩ := dpAll_cons x2
      obtain ⟨v1, r, rfl, a1, x2⟩ := dpAll_cons x2
      obtain rfl := dpAll_nil x2
      obtain rfl := dp_str a0
      obtain rfl := dp_int a1
      obtain ⟨wd, hw⟩ := ok
      refine ⟨_, rfl, px, _, rfl, sqT_sub sG x1, rfl, _, _, rfl, _, _, rfl, rfl, ?_⟩
      refine ⟨_, rfl, rfl, _, rfl, ?_⟩
      rw [dcStr]
      refine iteDF mo_ne.2.2.1 ⟨_, rfl, rfl, _, rfl, ?_⟩
      rw [dcStr]
      exact iteDT rfl ⟨_, rfl, _, rfl, pa, _, _, _, rfl, rfl, C.as, atI_nat (arg_at C.ln hw), q⟩
    | fld o n =>
      obtain ⟨v0, r, rfl, a0, x2⟩ := dpAll_cons x2
      obtain ⟨v1, r, rfl, a1, x2⟩ := dpAll_cons x2
      obtain rfl := dpAll_nil x2
      obtain rfl := dp_str a0
      obtain rfl := dp_int a1
      obtain ⟨wd, hw⟩ := ok
      refine ⟨_, rfl, px, _, rfl, sqT_sub sG x1, rfl, _, _, rfl, _, _, rfl, rfl, ?_⟩
      refine ⟨_, rfl, rfl, _, rfl, ?_⟩
      rw [dcStr]
      exact iteDT rfl ⟨_, rfl, _, rfl, pc, _, _, _, rfl, rfl, C.cs, atI_nat (cell_at (loc_ref hP.wh hP.h6 hP.wm hw)), q⟩
def spValOf (K : PySem.W.Frag) : Sp := fun vs H Q _ => ∃ (o x y : V) (pc pa : Addr) (G : Hp) (p : Pd) (port : Nat) (s : Ms) (ps : List Fl) (ns : List Int) (e : Ex), vs = [o, x, y, .ref pc, .ref pa] ∧ Same G H ∧ WfP p ∧ DpAll K G [o, x, y] (ceL (coEx p ps e)) ∧ ExOk (refsOf p.hs p.m) ps e ∧ Cn K H pc pa p port s ps ns ∧
  Q (.int (evV port s.F (argV (ps.map Prod.fst) ns) e)) H
theorem ok_valOf {f : Addr} {fd : FuncData} (F : Fun K "value_of" "value_of" sValOf f fd)  (D1 : Df P w K mg base CX0 1 "operand_value" ["operand", "cells", "args"] (spOdVal K)) (D2 : Df P w K mg base CX0 1 "compute" ["operator", "first", "second"] spCompute) : FnOk P w K mg base CX0 2 f fd ["operator", "first", "second", "cells", "args"] (spValOf K) := by
  obtain ⟨f1, fd1, G1, g1, k1, b1⟩ := D1.ex
  obtain ⟨f2, fd2, G2, g2, k2, b2⟩ := D2.ex
  refine F.ok scValOf (fun vs H Q E h => ?_) (fun cdv A outer s0 H vs Q E hr h => ?_)
  · obtain ⟨o, x, y, pc, pa, G, p, port, s, ps, ns, e, rfl, _⟩ := h
    rfl
  · obtain ⟨o, x, y, pc, pa, G, p, port, s, ps, ns, e, rfl, sG, hP, hd, ok, C, q⟩ := h
    have nd := scValOf.nd
    refine ⟨_, (pss_cons (ps_set (i := 5) nd rfl (.inl rfl) (pe_call G1 (hr.mono (by omega)) (by rfl) g1 k1 b1 .nil pass0 (pa_cons (pv 1) (pa_cons (pv 3) (pa_cons (pv 4) pa_nil)))))
      (pss_cons (ps_if (pt_cmpR op_isN (pv 0) pe_non (nomark _)) (pss_one (ps_ret (pv 5))) pss_nil)
      (pss_one (ps_ret (pe_call G2 (hr.mono (by omega)) (by rfl) g2 k2 b2 .nil pass0 (pa_cons (pv 0) (pa_cons (pv 5) (pa_cons (pe_call G1 (hr.mono (by omega)) (by rfl) g1 k1 b1 .nil pass0 (pa_cons (pv 2) (pa_cons (pv 3) (pa_cons (pv 4) pa_nil)))) pa_nil)))))))), ?_⟩
    cases hd with
    | cons h0 hd =>
    cases hd with
    | cons h1 hd =>
    cases hd with
    | cons h2 _ =>
    cases e with
    | one a =>
      obtain rfl := dp_non h0
      refine ⟨_, rfl, _, rfl, _, rfl, ?_⟩
      dsimp only [tNil]
      refine ⟨x, pc, pa, G, p, port, s, ps, ns, a, rfl, sG, hP, h1, ok, C, ?_⟩
      refine ⟨_, rfl, rfl, _, rfl, ?_⟩
      exact iteT ⟨_, rfl, q⟩
    | two op a b =>
      obtain rfl := dp_str h0
      refine ⟨_, rfl, _, rfl, _, rfl, ?_⟩
      dsimp only [tNil]
      refine ⟨x, pc, pa, G, p, port, s, ps, ns, a, rfl, sG, hP, h1, ok.2.1, C, ?_⟩
      refine ⟨_, rfl, rfl, _, rfl, ?_⟩
      refine iteF ?_
      refine ⟨_, rfl, _, rfl, _, rfl, _, rfl, _, rfl, ?_⟩
      dsimp only [tNil]
      exact ⟨y, pc, pa, G, p, port, s, ps, ns, b, rfl, sG, hP, h2, ok.2.2, C, op, _, _, rfl, q⟩
/-- the changes of an operation, as a new list -/
def spChOf (K : PySem.W.Frag) : Sp := fun vs H Q _ => ∃ (x : V) (pc pa : Addr) (G : Hp) (p : Pd) (port : Nat) (s : Ms) (ps : List Fl) (ns : List Int) (o : Op), vs = [x, .ref pc, .ref pa] ∧ Same G H ∧ WfP p ∧ Dp K G x (.tuple (mvL (coOp p ps o))) ∧ OpOk p.hs (refsOf p.hs p.m) ps o ∧ Cn K H pc pa p port s ps ns ∧
  ∀ H' G' y, Same H H' → Same G' H' → Gr G G' H → Dp K G' y (cwsD (chg p port (argV (ps.map Prod.fst) ns) s o)) → Q y H'
def spPutCh (K : PySem.W.Frag) : Sp := fun vs H Q _ => ∃ (x : V) (pc pa : Addr) (G : Hp) (p : Pd) (port : Nat) (s : Ms) (ps : List Fl) (ns : List Int) (o n : Str) (e : Ex), vs = [x, .ref pc, .ref pa] ∧ Same G H ∧ WfP p ∧ Dp K G x (.tuple (mvL (coOp p ps (.set o n e)))) ∧ OpOk p.hs (refsOf p.hs p.m) ps (.set o n e) ∧ Cn K H pc pa p port s ps ns ∧
  ∀ H' G' y, Same H H' → Same G' H' → Gr G G' H → Dp K G' y (cwsD (chg p port (argV (ps.map Prod.fst) ns) s (.set o n e))) → Q y H'
/-- a new list of one new pair -/
theorem pair_new {G H : Hp} {t l : Addr} {c v : Nat} (sG : Same G H) (ht : H t = none) (hl : (upd H t (.tup [.int (c : Nat), .int (v : Nat)])) l = none) :
    ∃ G', Same G' (upd (upd H t (.tup [.int (c : Nat), .int (v : Nat)])) l (.lst [.ref t])) ∧ Gr G G' H ∧ Dp K G' (.ref l) (cwsD [(c, v)]) := by
  obtain ⟨m1, m2, m3⟩ := tup_new (K := K) sG ht (vs := [.int (c : Nat), .int (v : Nat)]) (ds := cwL (c, v)) (.cons (.int _) (.cons (.int _) .nil))
  obtain ⟨n1, n2, n3⟩ := lst_new (K := K) m1 hl (vs := [.ref t]) (ds := [.tuple (cwL (c, v))]) (.cons m3 .nil)
  exact ⟨_, n1, m2.then n2 (same_new ht), n3⟩
theorem ok_putCh {f : Addr} {fd : FuncData} (F : Fun K "put_changes" "put_changes" sPutCh f fd)  (D1 : Df P w K mg base CX0 2 "value_of" ["operator", "first", "second", "cells", "args"] (spValOf K)) (D2 : Df P w K mg base CX0 1 "ones" ["width"] spOnes) : FnOk P w K mg base CX0 3 f fd ["move", "cells", "args"] (spPutCh K) := by
  obtain ⟨f1, fd1, G1, g1, k1, b1⟩ := D1.ex
  obtain ⟨f2, fd2, G2, g2, k2, b2⟩ := D2.ex
  refine F.ok scPutCh (fun vs H Q E h => ?_) (fun cdv A outer s0 H vs Q E hr h => ?_)
  · obtain ⟨x, pc, pa, G, p, port, s, ps, ns, o, n, e, rfl, _⟩ := h
    rfl
  · obtain ⟨x, pc, pa, G, p, port, s, ps, ns, o, n, e, rfl, sG, hP, hx, ok, C, q⟩ := h
    have nd := scPutCh.nd
    refine ⟨_, (pss_cons (ps_asg (pv 0) (pg_tup (by rfl) (pgs_cons (pg_name (i := 3) nd rfl (.inl rfl)) (pgs_cons (pg_name (i := 4) nd rfl (.inl rfl)) (pgs_cons (pg_name (i := 5) nd rfl (.inl rfl)) (pgs_cons (pg_name (i := 6) nd rfl (.inl rfl)) (pgs_cons (pg_name (i := 7) nd rfl (.inl rfl)) (pgs_cons (pg_name (i := 8) nd rfl (.inl rfl)) (pgs_cons (pg_name (i := 9) nd rfl (.inl rfl)) pgs_nil)))))))))
      (C8.pss_cut (ps_if (PW.pt (pw_and (pt_cmpR op_notN (pv 6) pe_non (nomark _)) (pw_and1 (pt_cmpR op_eq (pe_ix ix_list (pv 1) (pv 6) (fun _ _ => rfl)) pe_int (nomark _))))) (pss_one (ps_ret (pe_lst pa_nil))) pss_nil)
      (pss_cons (ps_set (i := 10) nd rfl (.inl rfl) (pe_call G1 (hr.mono (by omega)) (by rfl) g1 k1 b1 .nil pass0 (pa_cons (pv 7) (pa_cons (pv 8) (pa_cons (pv 9) (pa_cons (pv 1) (pa_cons (pv 2) pa_nil)))))))
      (pss_one (ps_ret (pe_lst (pa_cons (pe_tup (pa_cons (pv 4) (pa_cons (pe_op op_andM (pv 10) (pe_call G2 (hr.mono (by omega)) (by rfl) g2 k2 b2 .nil pass0 (pa_cons (pv 5) pa_nil))) pa_nil))) pa_nil))))))), ?_⟩
    obtain ⟨⟨wd, hw⟩, oke⟩ := ok
    obtain ⟨hr', hpk, hW⟩ := drop_ref hP.wh hP.h6 hP.wm hw
    have hwd : wd ≤ 32 := (refs_sx hP.wh hP.h6 hP.wm _ hr').2.2
    obtain ⟨px, xs, rfl, x1, x2⟩ := dp_tup hx
    obtain ⟨v0, r, rfl, a0, x2⟩ := dpAll_cons x2
    obtain ⟨v1, r, rfl, a1, x2⟩ := dpAll_cons x2
    obtain ⟨v2, r, rfl, a2, x2⟩ := dpAll_cons x2
    obtain ⟨v3, r, rfl, a3, x2⟩ := dpAll_cons x2
    have xc := x2
    obtain ⟨v4, r, rfl, a4, x2⟩ := dpAll_cons x2
    obtain ⟨v5, r, rfl, a5, x2⟩ := dpAll_cons x2
    obtain ⟨v6, r, rfl, a6, x2⟩ := dpAll_cons x2
    obtain rfl := dpAll_nil x2
    obtain rfl := dp_str a0
    obtain rfl := dp_int a1
    obtain rfl := dp_int a2
    refine ⟨_, rfl, px, _, rfl, sqT_sub sG x1, rfl, _, _, rfl, _, _, rfl, _, _, rfl, _, _, rfl, _, _, rfl, _, _, rfl, _, _, rfl, rfl, ?_⟩
    have nothing : ¬ (o = Str.ofString "meta" ∨ o ∈ s.vs) → ∀ l, H l = none → Q (.ref l) (upd H l (.lst [])) := fun c l hl => by
      obtain ⟨l1, l2, l3⟩ := lst_new (K := K) (vs := []) (ds := []) sG hl .nil
      refine q _ _ _ (same_new hl) l1 l2 ?_
      rw [chg_setF c]
      exact l3
    refine ⟨fun σ H2 => H2 = H ∧ (o = Str.ofString "meta" ∨ o ∈ s.vs) ∧ σ = [some (.ref px), some (.ref pc), some (.ref pa), some (.str "put"), some (.int (fix p.hs p.m (prD o n) : Nat)), some (.int (p.W o n : Nat)), some v3, some v4, some v5, some v6, none], ?_, ?_⟩
    · by_cases hm : o = Str.ofString "meta"
      · rw [if_pos hm] at a3
        obtain rfl := dp_non a3
        refine ⟨_, rfl, rfl, _, rfl, ?_⟩
        refine iteF ?_
        exact iteF ⟨rfl, .inl hm, rfl⟩
      · rw [if_neg hm] at a3
        obtain rfl := dp_int a3
        obtain ⟨h, hh, rfl⟩ : ∃ h ∈ p.hs, h.1 = o := by
          rcases ref_cases hr' with z | ⟨i, j, h, f, ei, ej, z⟩ | ⟨j, f, ej, z⟩
          · exact absurd (show (o, n) = portK by cases z; rfl) hpk
          · exact ⟨h, List.mem_of_getElem? ei, (Prod.mk.inj z).1.symm⟩
          · exact absurd (Prod.mk.inj z).1 hm
        refine ⟨_, rfl, rfl, _, rfl, ?_⟩
        refine iteT ?_
        refine ⟨_, rfl, _, rfl, pc, _, _, _, rfl, rfl, C.cs, atI_nat (cell_at (loc_valid hP.wh hP.h6 hh)), rfl, _, rfl, ?_⟩
        rw [dcInt, pvG_str]
        by_cases c : h.1 ∈ s.vs
        · rw [if_pos c]
          exact iteDF (by decide) ⟨rfl, .inr c, rfl⟩
        · rw [if_neg c]
          refine iteDT rfl ?_
          exact ⟨Nat.zero_le _, fun l hl => nothing (fun z => z.elim hm c) l hl⟩
    rintro σ H2 ⟨rfl, c, rfl⟩
    refine ⟨_, rfl, _, rfl, _, rfl, _, rfl, _, rfl, ?_⟩
    dsimp only [tNil]
    refine ⟨v4, v5, v6, pc, pa, G, p, port, s, ps, ns, e, rfl, sG, hP, xc, oke, C, ?_⟩
    refine ⟨_, rfl, _, rfl, _, rfl, ?_⟩
    dsimp only [tNil]
    refine ⟨p.W o n, rfl, by omega, _, p.W o n, rfl, rfl, ?_⟩
    refine ⟨(by show 2 ≤ sizeLine; decide), fun t ht => ⟨(by show 1 ≤ sizeLine; decide), fun l hl => ?_⟩⟩
    have e0 : evV port s.F (argV (ps.map Prod.fst) ns) e % 2 ^ p.W o n = ((evV port s.F (argV (ps.map Prod.fst) ns) e % 2 ^ p.W o n).toNat : Int) := (Int.toNat_of_nonneg (Int.emod_nonneg _ (by have := Int.pow_pos (n := 2) (m := p.W o n) (by decide); omega))).symm
    rw [e0] at hl ⊢
    obtain ⟨G', g1', g2', g3'⟩ := pair_new (K := K) sG ht hl
    refine q _ _ _ ((same_new ht).trans (same_new hl)) g1' g2' ?_
    rw [chg_setT c]
    exact g3'
/-- a list of pairs with 0 behind a first pair -/
theorem prs_new {G H1 : Hp} {t l : Addr} {c v : Nat} {zs : List (Nat × Nat)} {xs : List V} (sG : Same G H1) (e : H1 t = some (.tup [.int (c : Nat), .int (v : Nat)])) (gt : G t = none) (hx : DpAll K G xs (zs.map fun c => .tuple (cwL c))) (hl : H1 l = none) :
    ∃ G', Same G' (upd H1 l (.lst (.ref t :: xs))) ∧ (∀ H0 : Hp, H0 t = none → Same H0 H1 → Gr G G' H0) ∧ Dp K G' (.ref l) (cwsD ((c, v) :: zs)) := by
  have s1 := same_new2 (o := .tup [V.int (c : Nat), .int (v : Nat)]) gt
  have sG1 := same_upd sG e
  obtain ⟨n1, n2, n3⟩ := lst_new (K := K) sG1 hl (vs := .ref t :: xs) (ds := .tuple (cwL (c, v)) :: zs.map fun c => .tuple (cwL c)) (.cons (.tup (SqT.of upd_same) (.cons (.int _) (.cons (.int _) .nil))) (dpAll_sub s1 hx))
  exact ⟨_, n1, fun H0 h0 k => ((Gr.refl G H0).put h0 gt).then n2 k, n3⟩
theorem ok_chOf {f : Addr} {fd : FuncData} (F : Fun K "changes_of" "changes_of" sChOf f fd) (T : Ba K mg) (D1 : Df P w K mg base CX0 3 "put_changes" ["move", "cells", "args"] (spPutCh K)) (D2 : Df P w K mg base CX0 2 "value_of" ["operator", "first", "second", "cells", "args"] (spValOf K)) : FnOk P w K mg base CX0 4 f fd ["move", "cells", "args"] (spChOf K) := by
  obtain ⟨f1, fd1, G1, g1, k1, b1⟩ := D1.ex
  obtain ⟨f2, fd2, G2, g2, k2, b2⟩ := D2.ex
  obtain ⟨u_NO_PORT, g_NO_PORT, r_NO_PORT⟩ := T.NO_PORT
  obtain ⟨u_OUT_CELL, g_OUT_CELL, r_OUT_CELL⟩ := T.OUT_CELL
  refine F.ok scChOf (fun vs H Q E h => ?_) (fun cdv A outer s0 H vs Q E hr h => ?_)
  · obtain ⟨x, pc, pa, G, p, port, s, ps, ns, o, rfl, _⟩ := h
    rfl
  · obtain ⟨x, pc, pa, G, p, port, s, ps, ns, o, rfl, sG, hP, hx, ok, C, q⟩ := h
    have nd := scChOf.nd
    refine ⟨_, (pss_cons (ps_set (i := 3) nd rfl (.inl rfl) (pe_ix ix_tup (pv 0) pe_int (fun _ _ => rfl)))
      (pss_cons (ps_if (pt_cmpR op_eq (pv 3) pe_str (nomark _)) (pss_one (ps_ret (pe_call G1 (hr.mono (by omega)) (by rfl) g1 k1 b1 .nil pass0 (pa_cons (pv 0) (pa_cons (pv 1) (pa_cons (pv 2) pa_nil)))))) pss_nil)
      (pss_cons (ps_if (pt_cmpR op_eq (pv 3) pe_str (nomark _)) (pss_cons (ps_asg (pv 0) (pg_tup (by rfl) (pgs_cons (pg_name (i := 4) nd rfl (.inl rfl)) (pgs_cons (pg_name (i := 5) nd rfl (.inl rfl)) (pgs_cons (pg_name (i := 6) nd rfl (.inl rfl)) (pgs_cons (pg_name (i := 7) nd rfl (.inl rfl)) pgs_nil))))))
        (pss_cons (ps_set (i := 8) nd rfl (.inl rfl) (pe_call G2 (hr.mono (by omega)) (by rfl) g2 k2 b2 .nil pass0 (pa_cons (pv 5) (pa_cons (pv 6) (pa_cons (pv 7) (pa_cons (pv 1) (pa_cons (pv 2) pa_nil)))))))
        (C8.pss_cut (ps_if (pt_not (pt_chain op_le op_lt pe_int (pv 8) (pe_glob rfl g_NO_PORT r_NO_PORT))) (pss_one (ps_set (i := 8) nd rfl (.inl rfl) (pe_glob rfl g_NO_PORT r_NO_PORT))) pss_nil)
        (pss_one (ps_ret (pe_lst (pa_cons (pe_tup (pa_cons (pe_glob rfl g_OUT_CELL r_OUT_CELL) (pa_cons (pv 8) pa_nil))) pa_nil))))))) pss_nil)
      (pss_cons (ps_asg (pv 0) (pg_tup (by rfl) (pgs_cons (pg_name (i := 4) nd rfl (.inl rfl)) (pgs_cons (pg_name (i := 9) nd rfl (.inl rfl)) (pgs_cons (pg_name (i := 10) nd rfl (.inl rfl)) pgs_nil)))))
      (pss_cons (ps_if (pt_cmpR op_eq (pv 3) pe_str (nomark _)) (pss_one (ps_ret (pe_lst (pa_cons (pe_tup (pa_cons (pv 9) (pa_cons pe_int pa_nil))) (StX.pa_star (pe_lc (own := [("cell", 11)]) (g := gName 11) (tt := tYes) rfl nd (pi_list (pv 10)) (blkOk_by (own := [("cell", 11)]) (N := NChOf) (sc := defScope sChOf) (by decide +kernel)) (fun _ _ _ _ _ => (pg_name (i := 11) nd rfl (Or.inl rfl))) (fun _ _ _ _ _ => pts_nil) (fun _ _ _ _ _ => (pe_tup (pa_cons (pv 11) (pa_cons pe_int pa_nil))))) pa_nil))))) pss_nil)
      (pss_cons (ps_if (pt_cmpR op_eq (pe_ix ix_list (pv 1) (pv 9) (fun _ _ => rfl)) pe_int (nomark _)) (pss_one (ps_ret (pe_lst pa_nil))) pss_nil)
      (pss_one (ps_ret (pe_lst (pa_cons (pe_tup (pa_cons (pv 9) (pa_cons pe_int pa_nil))) (StX.pa_star (pe_lc (own := [("cell", 11)]) (g := gName 11) (tt := tYes) rfl nd (pi_list (pv 10)) (blkOk_by (own := [("cell", 11)]) (N := NChOf) (sc := defScope sChOf) (by decide +kernel)) (fun _ _ _ _ _ => (pg_name (i := 11) nd rfl (Or.inl rfl))) (fun _ _ _ _ _ => pts_nil) (fun _ _ _ _ _ => (pe_tup (pa_cons (pv 11) (pa_cons pe_int pa_nil))))) pa_nil))))))))))), ?_⟩
    have hx0 := hx
    have hc : (∃ o' n e, o = .set o' n e) ∨ (∃ e, ExOk (refsOf p.hs p.m) ps e ∧ coOp p ps o = .send (coEx p ps e) ∧ chg p port (argV (ps.map Prod.fst) ns) s o = [(1, (portOf (evV port s.F (argV (ps.map Prod.fst) ns) e)).getD 8)]) ∨ (∃ h, o = .rem h) ∨ ∃ h, o = .add h := by
      cases o with
      | set o n e => exact .inl ⟨_, _, _, rfl⟩
      | drp => exact .inr (.inl ⟨.one (.num 8), ⟨by decide, by decide⟩, rfl, rfl⟩)
      | add h => exact .inr (.inr (.inr ⟨_, rfl⟩))
      | rem h => exact .inr (.inr (.inl ⟨_, rfl⟩))
      | snd e => exact .inr (.inl ⟨e, ok, rfl, rfl⟩)
    obtain ⟨px, xs, rfl, x1, x2⟩ := dp_tup hx
    rcases hc with ⟨o', n, e, rfl⟩ | ⟨e, oke, ec, ech⟩ | ⟨h, rfl⟩ | ⟨h, rfl⟩
    · obtain ⟨v0, r, rfl, a0, x2⟩ := dpAll_cons x2
      obtain rfl := dp_str a0
      refine ⟨_, rfl, px, _, _, _, rfl, rfl, sqT_sub sG x1, atI_nat (j := 0) rfl, ?_⟩
      refine ⟨_, rfl, rfl, _, rfl, ?_⟩
      rw [dcStr]
      refine iteDT rfl ?_
      refine ⟨_, rfl, _, rfl, _, rfl, ?_⟩
      dsimp only [tNil]
      exact ⟨.ref px, pc, pa, G, p, port, s, ps, ns, o', n, e, rfl, sG, hP, hx0, ok, C, q⟩
    · rw [ec] at x2
      obtain ⟨v0, r, rfl, a0, x2⟩ := dpAll_cons x2
      have xc := x2
      obtain ⟨v1, r, rfl, a1, x2⟩ := dpAll_cons x2
      obtain ⟨v2, r, rfl, a2, x2⟩ := dpAll_cons x2
      obtain ⟨v3, r, rfl, a3, x2⟩ := dpAll_cons x2
      obtain rfl := dpAll_nil x2
      obtain rfl := dp_str a0
      refine ⟨_, rfl, px, _, _, _, rfl, rfl, sqT_sub sG x1, atI_nat (j := 0) rfl, ?_⟩
      refine ⟨_, rfl, rfl, _, rfl, ?_⟩
      rw [dcStr]
      refine iteDF mo_ne.2.2.2.1 ⟨_, rfl, rfl, _, rfl, ?_⟩
      rw [dcStr]
      refine iteDT rfl ?_
      refine ⟨_, rfl, px, _, rfl, sqT_sub sG x1, rfl, _, _, rfl, _, _, rfl, _, _, rfl, _, _, rfl, rfl, ?_⟩
      refine ⟨_, rfl, _, rfl, _, rfl, _, rfl, _, rfl, ?_⟩
      dsimp only [tNil]
      refine ⟨v1, v2, v3, pc, pa, G, p, port, s, ps, ns, e, rfl, sG, hP, xc, oke, C, ?_⟩
      obtain ⟨z, hz⟩ : ∃ z : Int, z = evV port s.F (argV (ps.map Prod.fst) ns) e := ⟨_, rfl⟩
      rw [← hz] at ech ⊢
      refine ⟨fun σ H2 => H2 = H ∧ σ = [some (.ref px), some (.ref pc), some (.ref pa), some (.str "send"), some (.str "send"), some v1, some v2, some v3, some (.int ((portOf z).getD 8 : Nat)), none, none, none], ?_, ?_⟩
      · refine ⟨_, rfl, _, _, rfl, rfl, _, rfl, ?_⟩
        refine iteD (fun h0 => ?_) fun h0 => ?_
        · refine ⟨_, _, rfl, rfl, _, rfl, ?_⟩
          refine iteDn (fun h1 => ?_) fun h1 => ?_
          · refine ⟨rfl, ?_⟩
            unfold portOf
            rw [if_neg fun z => h1 z.2]
            rfl
          · refine ⟨rfl, ?_⟩
            unfold portOf
            rw [if_pos ⟨h0, h1⟩]
            show _ = [_, _, _, _, _, _, _, _, some (V.int ((z.toNat : Nat) : Int)), _, _, _]
            rw [Int.toNat_of_nonneg h0]
            rfl
        · refine ⟨_, rfl, ?_⟩
          refine iteT ⟨rfl, ?_⟩
          unfold portOf
          rw [if_neg fun z => h0 z.1]
          rfl
      rintro σ H2 ⟨rfl, rfl⟩
      refine ⟨_, rfl, (by show 2 ≤ sizeLine; decide), fun t ht => ⟨(by show 1 ≤ sizeLine; decide), fun l hl => ?_⟩⟩
      obtain ⟨G', g1', g2', g3'⟩ := pair_new (K := K) (c := 1) sG ht hl
      refine q _ _ _ ((same_new ht).trans (same_new hl)) g1' g2' ?_
      rw [ech]
      exact g3'
    · obtain ⟨v0, r, rfl, a0, x2⟩ := dpAll_cons x2
      obtain ⟨v1, r, rfl, a1, x2⟩ := dpAll_cons x2
      obtain ⟨v2, r, rfl, a2, x2⟩ := dpAll_cons x2
      obtain rfl := dpAll_nil x2
      obtain rfl := dp_str a0
      obtain rfl := dp_int a1
      obtain ⟨pe, ws, rfl, w1, w2⟩ := dp_lst a2
      have lw := dpAll_len w2
      rw [List.length_map] at lw
      obtain ⟨hd, hh, rfl⟩ := ok
      have hl8 : (hcOf p hd.1).length ≤ 8 := by
        unfold hcOf
        rw [List.length_map, flsOf_mem hP.wh hP.h6 hP.wm hh]
        exact (hd_sx hP.wh hP.h6 hh).2.2.1
      have ech : chg p port (argV (ps.map Prod.fst) ns) s (.rem hd.1) = (fix p.hs p.m (.str hd.1), 0) :: zerosOf p hd.1 := rfl
      refine ⟨_, rfl, px, _, _, _, rfl, rfl, sqT_sub sG x1, atI_nat (j := 0) rfl, ?_⟩
      refine ⟨_, rfl, rfl, _, rfl, ?_⟩
      rw [dcStr]
      refine iteDF mo_ne.2.2.2.2.2.1 ⟨_, rfl, rfl, _, rfl, ?_⟩
      rw [dcStr]
      refine iteDF mo_ne.2.2.2.2.2.2.2.1 ?_
      refine ⟨_, rfl, px, _, rfl, sqT_sub sG x1, rfl, _, _, rfl, _, _, rfl, _, _, rfl, rfl, ?_⟩
      refine ⟨_, rfl, rfl, _, rfl, ?_⟩
      rw [dcStr]
      refine iteDT rfl ?_
      · refine ⟨_, rfl, (by show 2 ≤ sizeLine; decide), fun t ht => ?_⟩
        have s1 := same_new (o := .tup [V.int (fix p.hs p.m (.str hd.1) : Nat), .int 0]) ht
        have e1 : (upd H t (.tup [V.int (fix p.hs p.m (.str hd.1) : Nat), .int 0])) t = some (.tup [V.int (fix p.hs p.m (.str hd.1) : Nat), .int ((0 : Nat) : Int)]) := upd_same
        have gt : G t = none := sG.free ht
        generalize upd H t (.tup [V.int (fix p.hs p.m (.str hd.1) : Nat), .int 0]) = H1 at s1 e1 ⊢
        have sG1 := sG.trans s1
        refine ⟨_, rfl, pe, rfl, ⟨_, sqL_sub sG1 w1⟩, fun D hD => lc_list (K := K) (a := pe) (xs := ws) (fun j H2 => ∃ (GC : Hp) (xs : List V), Same H1 H2 ∧ Same GC H2 ∧ Gr G GC H1 ∧ GC D = none ∧ H2 D = some (.lst xs) ∧ DpAll K GC xs (((zerosOf p hd.1).take j).map fun c => .tuple (cwL c))) ⟨G, [], same_new hD, sG1.trans (same_new hD), Gr.refl _ _, sG1.free hD, upd_same, .nil⟩ (fun j H2 _ h => by
          obtain ⟨GC, xs, h1, _⟩ := h
          exact sqL_sub (sG1.trans h1) w1) ?_ ?_⟩
        · rintro j z H2 hz ⟨GC, xs, s2, sGC, grC, gD, eD, dxs⟩
          obtain ⟨d, ed, hde⟩ := dpAll_val w2 hz
          rw [List.getElem?_map] at ed
          obtain ⟨c, ec, rfl⟩ := Option.map_eq_some_iff.mp ed
          obtain rfl := dp_int hde
          have hj := (List.getElem?_eq_some_iff.mp ec).1
          have ez : (zerosOf p hd.1)[j]? = some (c, 0) := by
            unfold hcOf at ec
            unfold zerosOf
            rw [List.getElem?_map] at ec ⊢
            obtain ⟨f, ef, rfl⟩ := Option.map_eq_some_iff.mp ec
            rw [ef]
            rfl
          refine ⟨rfl, _, rfl, (by show 2 ≤ sizeLine; decide), fun t2 ht2 => ?_⟩
          obtain ⟨m1, m2, m3⟩ := tup_new (K := K) sGC ht2 (vs := [.int (c : Nat), .int 0]) (ds := cwL (c, 0)) (.cons (.int _) (.cons (.int _) .nil))
          have ntD : D ≠ t2 := ne_of_none eD ht2
          have lx := dpAll_len dxs
          rw [List.length_map, List.length_take] at lx
          refine ⟨_, by rw [upd_ne ntD]; exact eD, small1000 (by omega), _, _, same_set (s2.trans (same_new ht2)) hD, same_set m1 (by rw [upd_ne ntD]; exact gD), grC.then m2 s2, by rw [upd_ne ntD]; exact gD, upd_same, ?_⟩
          rw [List.take_add_one, ez, List.map_append]
          exact dpAll_app (dpAll_sub m2.sub dxs) (.cons m3 .nil)
        rintro H2 ⟨GC, xs, s2, sGC, grC, gD, eD, dxs⟩
        have lz : ws.length = (zerosOf p hd.1).length := by rw [lw]; unfold hcOf zerosOf; rw [List.length_map, List.length_map]
        rw [lz, List.take_length] at dxs
        have lx := dpAll_len dxs
        rw [List.length_map] at lx
        refine ⟨D, xs, rfl, .inr (SqL.of eD), ?_, fun l hl => ?_⟩
        · show (xs ++ []).length + 1 ≤ _
          rw [List.append_nil, lx, ← lz]
          rw [sizeLine_eq]
          omega
        show Q (.ref l) (upd H2 l (.lst (.ref t :: (xs ++ []))))
        rw [List.append_nil]
        obtain ⟨G', b1', b2', b3'⟩ := prs_new (K := K) (c := fix p.hs p.m (.str hd.1)) (v := 0) sGC (s2 _ _ e1) (grC.free gt (by rw [e1]; exact fun z => nomatch z)) dxs hl
        refine q _ _ _ ((s1.trans s2).trans (same_new hl)) b1' ((grC.back s1).then (b2' H ht (s1.trans s2)) (Same.refl _)) ?_
        rw [ech]
        exact b3'
    · obtain ⟨v0, r, rfl, a0, x2⟩ := dpAll_cons x2
      obtain ⟨v1, r, rfl, a1, x2⟩ := dpAll_cons x2
      obtain ⟨v2, r, rfl, a2, x2⟩ := dpAll_cons x2
      obtain rfl := dpAll_nil x2
      obtain rfl := dp_str a0
      obtain rfl := dp_int a1
      obtain ⟨pe, ws, rfl, w1, w2⟩ := dp_lst a2
      have lw := dpAll_len w2
      rw [List.length_map] at lw
      obtain ⟨hd, hh, rfl⟩ := ok
      have hl8 : (hcOf p hd.1).length ≤ 8 := by
        unfold hcOf
        rw [List.length_map, flsOf_mem hP.wh hP.h6 hP.wm hh]
        exact (hd_sx hP.wh hP.h6 hh).2.2.1
      have hat := cell_at (port := port) (s := s) (loc_valid (m := p.m) hP.wh hP.h6 hh)
      refine ⟨_, rfl, px, _, _, _, rfl, rfl, sqT_sub sG x1, atI_nat (j := 0) rfl, ?_⟩
      refine ⟨_, rfl, rfl, _, rfl, ?_⟩
      rw [dcStr]
      refine iteDF mo_ne.2.2.2.2.1 ⟨_, rfl, rfl, _, rfl, ?_⟩
      rw [dcStr]
      refine iteDF mo_ne.2.2.2.2.2.2.1 ?_
      refine ⟨_, rfl, px, _, rfl, sqT_sub sG x1, rfl, _, _, rfl, _, _, rfl, _, _, rfl, rfl, ?_⟩
      refine ⟨_, rfl, rfl, _, rfl, ?_⟩
      rw [dcStr]
      refine iteDF mo_ne.2.2.2.2.2.2.2.2 ?_
      refine ⟨_, rfl, _, rfl, pc, _, _, _, rfl, rfl, C.cs, atI_nat hat, rfl, _, rfl, ?_⟩
      rw [dcInt, pvG_str]
      by_cases c : hd.1 ∈ s.vs
      · rw [if_pos c]
        refine iteDT rfl ⟨Nat.zero_le _, fun l hl => ?_⟩
        obtain ⟨l1, l2, l3⟩ := lst_new (K := K) (vs := []) (ds := []) sG hl .nil
        refine q _ _ _ (same_new hl) l1 l2 ?_
        rw [chg_addT c]
        exact l3
      · rw [if_neg c]
        refine iteDF (by decide) ?_
        have ech : chg p port (argV (ps.map Prod.fst) ns) s (.add hd.1) = (fix p.hs p.m (.str hd.1), 1) :: zerosOf p hd.1 := chg_addF c
        refine ⟨_, rfl, (by show 2 ≤ sizeLine; decide), fun t ht => ?_⟩
        have s1 := same_new (o := .tup [V.int (fix p.hs p.m (.str hd.1) : Nat), .int 1]) ht
        have e1 : (upd H t (.tup [V.int (fix p.hs p.m (.str hd.1) : Nat), .int 1])) t = some (.tup [V.int (fix p.hs p.m (.str hd.1) : Nat), .int ((1 : Nat) : Int)]) := upd_same
        have gt : G t = none := sG.free ht
        generalize upd H t (.tup [V.int (fix p.hs p.m (.str hd.1) : Nat), .int 1]) = H1 at s1 e1 ⊢
        have sG1 := sG.trans s1
        refine ⟨_, rfl, pe, rfl, ⟨_, sqL_sub sG1 w1⟩, fun D hD => lc_list (K := K) (a := pe) (xs := ws) (fun j H2 => ∃ (GC : Hp) (xs : List V), Same H1 H2 ∧ Same GC H2 ∧ Gr G GC H1 ∧ GC D = none ∧ H2 D = some (.lst xs) ∧ DpAll K GC xs (((zerosOf p hd.1).take j).map fun c => .tuple (cwL c))) ⟨G, [], same_new hD, sG1.trans (same_new hD), Gr.refl _ _, sG1.free hD, upd_same, .nil⟩ (fun j H2 _ h => by
          obtain ⟨GC, xs, h1, _⟩ := h
          exact sqL_sub (sG1.trans h1) w1) ?_ ?_⟩
        · rintro j z H2 hz ⟨GC, xs, s2, sGC, grC, gD, eD, dxs⟩
          obtain ⟨d, ed, hde⟩ := dpAll_val w2 hz
          rw [List.getElem?_map] at ed
          obtain ⟨c, ec, rfl⟩ := Option.map_eq_some_iff.mp ed
          obtain rfl := dp_int hde
          have hj := (List.getElem?_eq_some_iff.mp ec).1
          have ez : (zerosOf p hd.1)[j]? = some (c, 0) := by
            unfold hcOf at ec
            unfold zerosOf
            rw [List.getElem?_map] at ec ⊢
            obtain ⟨f, ef, rfl⟩ := Option.map_eq_some_iff.mp ec
            rw [ef]
            rfl
          refine ⟨rfl, _, rfl, (by show 2 ≤ sizeLine; decide), fun t2 ht2 => ?_⟩
          obtain ⟨m1, m2, m3⟩ := tup_new (K := K) sGC ht2 (vs := [.int (c : Nat), .int 0]) (ds := cwL (c, 0)) (.cons (.int _) (.cons (.int _) .nil))
          have ntD : D ≠ t2 := ne_of_none eD ht2
          have lx := dpAll_len dxs
          rw [List.length_map, List.length_take] at lx
          refine ⟨_, by rw [upd_ne ntD]; exact eD, small1000 (by omega), _, _, same_set (s2.trans (same_new ht2)) hD, same_set m1 (by rw [upd_ne ntD]; exact gD), grC.then m2 s2, by rw [upd_ne ntD]; exact gD, upd_same, ?_⟩
          rw [List.take_add_one, ez, List.map_append]
          exact dpAll_app (dpAll_sub m2.sub dxs) (.cons m3 .nil)
        rintro H2 ⟨GC, xs, s2, sGC, grC, gD, eD, dxs⟩
        have lz : ws.length = (zerosOf p hd.1).length := by rw [lw]; unfold hcOf zerosOf; rw [List.length_map, List.length_map]
        rw [lz, List.take_length] at dxs
        have lx := dpAll_len dxs
        rw [List.length_map] at lx
        refine ⟨D, xs, rfl, .inr (SqL.of eD), ?_, fun l hl => ?_⟩
        · show (xs ++ []).length + 1 ≤ _
          rw [List.append_nil, lx, ← lz]
          rw [sizeLine_eq]
          omega
        show Q (.ref l) (upd H2 l (.lst (.ref t :: (xs ++ []))))
        rw [List.append_nil]
        obtain ⟨G', b1', b2', b3'⟩ := prs_new (K := K) (c := fix p.hs p.m (.str hd.1)) (v := 1) sGC (s2 _ _ e1) (grC.free gt (by rw [e1]; exact fun z => nomatch z)) dxs hl
        refine q _ _ _ ((s1.trans s2).trans (same_new hl)) b1' ((grC.back s1).then (b2' H ht (s1.trans s2)) (Same.refl _)) ?_
        rw [ech]
        exact b3'
theorem fix_lt {p : Pd} {z : PyData} {w : Nat} (h : Loc p.hs p.m z w) : fix p.hs p.m z < manyC p := by
  have := (List.getElem?_eq_some_iff.mp h.fd.at_).1
  rwa [pl_len] at this
theorem zeros_lt {p : Pd} (hP : WfP p) {h : Hd} (hh : h ∈ p.hs) : ∀ c ∈ zerosOf p h.1, c.1 < manyC p := by
  intro c hc
  unfold zerosOf at hc
  rw [flsOf_mem hP.wh hP.h6 hP.wm hh] at hc
  obtain ⟨f, hf, rfl⟩ := List.mem_map.mp hc
  exact fix_lt (loc_ref hP.wh hP.h6 hP.wm (fld_ref hP.wh hP.h6 hP.wm hh hf))
theorem chg_lt {p : Pd} (hP : WfP p) {ps : List Fl} {o : Op} (ok : OpOk p.hs (refsOf p.hs p.m) ps o) (port : Nat) (A : Str → Int) (s : Ms) : ∀ c ∈ chg p port A s o, c.1 < manyC p := by
  have h2 : 1 < manyC p := by unfold manyC posOf; omega
  intro c hc
  cases o with
  | set o n e =>
    obtain ⟨⟨w, hw⟩, _⟩ := ok
    obtain ⟨hr, hp, hW⟩ := drop_ref hP.wh hP.h6 hP.wm hw
    by_cases k : o = Str.ofString "meta" ∨ o ∈ s.vs
    · rw [chg_setT k] at hc
      rw [List.mem_singleton.mp hc]
      exact fix_lt (loc_ref hP.wh hP.h6 hP.wm hr)
    · rw [chg_setF k] at hc
      cases hc
  | drp => rw [List.mem_singleton.mp hc]; exact h2
  | snd e => rw [List.mem_singleton.mp hc]; exact h2
  | add h =>
    obtain ⟨x, hx, rfl⟩ := ok
    by_cases k : x.1 ∈ s.vs
    · rw [chg_addT k] at hc
      cases hc
    · rw [chg_addF k] at hc
      rcases List.mem_cons.mp hc with rfl | hc
      · exact fix_lt (loc_valid hP.wh hP.h6 hx)
      · exact zeros_lt hP hx c hc
  | rem h =>
    obtain ⟨x, hx, rfl⟩ := ok
    rcases List.mem_cons.mp hc with rfl | hc
    · exact fix_lt (loc_valid hP.wh hP.h6 hx)
    · exact zeros_lt hP hx c hc
theorem setAll_len : ∀ (cs : List (Nat × Nat)) (l : List Nat), (setAll l cs).length = l.length
  | [], _ => rfl
  | c :: r, l => by
    show (setAll (l.set c.1 c.2) r).length = _
    rw [setAll_len r, List.length_set]
theorem setAll_take {cs : List (Nat × Nat)} {j : Nat} {c : Nat × Nat} (e : cs[j]? = some c) (l : List Nat) : setAll l (cs.take (j + 1)) = (setAll l (cs.take j)).set c.1 c.2 := by
  rw [List.take_add_one, e]
  show List.foldl _ _ _ = _
  rw [List.foldl_append]
  rfl
/-- the cells behind the moves -/
def spExec (K : PySem.W.Frag) : Sp := fun vs H Q _ => ∃ (x : V) (pc pa : Addr) (G : Hp) (p : Pd) (port : Nat) (s : Ms) (ps : List Fl) (ns : List Int) (os : List Op), vs = [x, .ref pc, .ref pa] ∧ Same G H ∧ WfP p ∧ Dp K G x (.list (os.map fun o => .tuple (mvL (coOp p ps o)))) ∧ (∀ o ∈ os, OpOk p.hs (refsOf p.hs p.m) ps o) ∧ Cn K H pc pa p port s ps ns ∧ s.vs.Nodup ∧
  ∀ H' q, Same H H' → H q = none → H' q = some (.lst (natsV (cellsG p port (os.foldl (perf port p.W (argV (ps.map Prod.fst) ns)) s)))) → Q (.ref q) H'
theorem natsV_set' (l : List Nat) (i v : Nat) : (natsV l).set i (.int (v : Nat)) = natsV (l.set i v) := by
  unfold natsV
  rw [List.map_set]
theorem ok_exec {f : Addr} {fd : FuncData} (F : Fun K "execute" "execute" sExec f fd) (T : Ba K mg) (D1 : Df P w K mg base CX0 4 "changes_of" ["move", "cells", "args"] (spChOf K)) : FnOk P w K mg base CX0 5 f fd ["moves", "cells", "args"] (spExec K) := by
  obtain ⟨f1, fd1, G1, g1, k1, b1⟩ := D1.ex
  refine F.ok scExec (fun vs H Q E h => ?_) (fun cdv A outer s0 H vs Q E hr h => ?_)
  · obtain ⟨x, pc, pa, G, p, port, s, ps, ns, os, rfl, _⟩ := h
    rfl
  · obtain ⟨x, pc, pa, G, p, port, s, ps, ns, os, rfl, sG, hP, hx, ok, C, ndv, q⟩ := h
    have nd := scExec.nd
    refine ⟨_, (pss_cons (ps_set (i := 1) nd rfl (.inl rfl) (pe_callTy call_list_of (by rfl) T.zList (by decide +kernel) (pa_cons (pv 1) pa_nil)))
      (pss_cons (ps_for PassesOwn.never rfl (pi_list (pv 0)) (pg_name (i := 3) nd rfl (.inl rfl))
        (pss_cons (ps_set (i := 4) nd rfl (.inl rfl) (pe_call G1 (hr.mono (by omega)) (by rfl) g1 k1 b1 .nil pass0 (pa_cons (pv 3) (pa_cons (pv 1) (pa_cons (pv 2) pa_nil)))))
        (pss_one (ps_for PassesOwn.never rfl (pi_list (pv 4)) (pg_tup (by rfl) (pgs_cons (pg_name (i := 5) nd rfl (.inl rfl)) (pgs_cons (pg_name (i := 6) nd rfl (.inl rfl)) pgs_nil)))
          (pss_one (ps_asg (pv 6) (pg_sub (pv 1) (pv 5) set_list)))))))
      (pss_one (ps_ret (pv 1))))), ?_⟩
    obtain ⟨A, hA⟩ : ∃ A, A = argV (ps.map Prod.fst) ns := ⟨_, rfl⟩
    rw [← hA] at q
    obtain ⟨St, hS⟩ : ∃ St : Nat → Ms, St = fun i => (os.take i).foldl (perf port p.W A) s := ⟨_, rfl⟩
    have hStep : ∀ i o, os[i]? = some o → St (i + 1) = perf port p.W A (St i) o := fun i o e => by
      rw [hS]
      dsimp only
      rw [List.take_add_one, e]
      show List.foldl _ _ _ = _
      rw [List.foldl_append]
      rfl
    have hNd : ∀ i, (St i).vs.Nodup := fun i => by
      rw [hS]
      dsimp only
      have : ∀ (l : List Op) (s : Ms), s.vs.Nodup → (l.foldl (perf port p.W A) s).vs.Nodup := by
        intro l
        induction l with
        | nil => intro s h; exact h
        | cons o r ih => intro s h; exact ih _ (perf_nodup h o)
      exact this _ _ ndv
    have hm2 : 2 ≤ manyC p := by unfold manyC posOf; omega
    obtain ⟨px, xs, rfl, x1, x2⟩ := dp_lst hx
    have lx := dpAll_len x2
    rw [List.length_map] at lx
    refine ⟨_, rfl, pc, _, rfl, .inl C.cs, fun q1 hq1 => ?_⟩
    have s1 := same_new (o := .lst (natsV (cellsG p port s))) hq1
    have e1 : (upd H q1 (.lst (natsV (cellsG p port s)))) q1 = some (.lst (natsV (cellsG p port (St 0)))) := by
      rw [upd_same, hS]
      rfl
    generalize upd H q1 (.lst (natsV (cellsG p port s))) = H1 at s1 e1 ⊢
    have gq : G q1 = none := sG.free hq1
    refine ⟨_, rfl, px, rfl, ⟨_, sqL_sub (sG.trans s1) x1⟩, for_list (K := K) (a := px) (xs := xs) (fun i σ H2 => Same H H2 ∧ H2 q1 = some (.lst (natsV (cellsG p port (St i)))) ∧ ∃ o3 o4 o5 o6, σ = [some (.ref px), some (.ref q1), some (.ref pa), o3, o4, o5, o6]) ⟨s1, e1, none, none, none, none, rfl⟩ (fun i σ H2 _ h => sqL_sub (sG.trans h.1) x1) ?_ ?_⟩
    · rintro i y σ H2 hy ⟨s2, e2, o3, o4, o5, o6, rfl⟩
      obtain ⟨d, ed, hd⟩ := dpAll_val x2 hy
      rw [List.getElem?_map] at ed
      obtain ⟨o, eo, rfl⟩ := Option.map_eq_some_iff.mp ed
      have ok1 := ok o (List.mem_of_getElem? eo)
      have sG2 := sG.trans s2
      refine ⟨_, rfl, _, rfl, _, rfl, ?_⟩
      dsimp only [tNil]
      refine ⟨y, q1, pa, G, p, port, St i, ps, ns, o, rfl, sG2, hP, hd, ok1, ⟨SqL.of e2, sqL_sub s2 C.as, C.ln⟩, fun H3 G3 z s3 sG3 gr3 dz => ?_⟩
      rw [← hA] at dz
      obtain ⟨pz, zs, rfl, z1, z2⟩ := dp_lst dz
      have lz := dpAll_len z2
      rw [List.length_map] at lz
      have e3 := s3 _ _ e2
      have g3 : G3 q1 = none := gr3.free gq (by rw [e2]; exact fun z => nomatch z)
      have s13 := s2.trans s3
      refine ⟨_, rfl, pz, rfl, ⟨_, sqL_sub sG3 z1⟩, for_list (K := K) (a := pz) (xs := zs) (fun j σ H4 => Same H H4 ∧ Same G3 H4 ∧ H4 q1 = some (.lst (natsV (setAll (cellsG p port (St i)) ((chg p port A (St i) o).take j)))) ∧ ∃ o5 o6, σ = [some (.ref px), some (.ref q1), some (.ref pa), some y, some (.ref pz), o5, o6]) ⟨s13, sG3, e3, _, _, rfl⟩ (fun j σ H4 _ h => sqL_sub h.2.1 z1) ?_ ?_⟩
      · rintro j u σ H4 hu ⟨s4, sG4, e4, o5, o6, rfl⟩
        obtain ⟨d, ed, hd⟩ := dpAll_val z2 hu
        rw [List.getElem?_map] at ed
        obtain ⟨c, ec, rfl⟩ := Option.map_eq_some_iff.mp ed
        obtain ⟨pt, ts, rfl, t1, t2⟩ := dp_tup hd
        obtain ⟨w0, r, rfl, b0, t2⟩ := dpAll_cons t2
        obtain ⟨w1, r, rfl, b1, t2⟩ := dpAll_cons t2
        obtain rfl := dpAll_nil t2
        obtain rfl := dp_int b0
        obtain rfl := dp_int b1
        have hlt := chg_lt hP ok1 port A (St i) c (List.mem_of_getElem? ec)
        refine ⟨pt, _, rfl, sqT_sub sG4 t1, rfl, _, _, rfl, _, _, rfl, rfl, ?_⟩
        refine ⟨_, rfl, _, rfl, _, rfl, q1, _, _, c.1, rfl, rfl, e4, ixN_at (by unfold natsV; rw [List.length_map, setAll_len, cellsG_len]; exact hlt), ?_⟩
        rw [natsV_set', ← setAll_take ec]
        exact ⟨same_set s4 hq1, same_set sG4 g3, upd_same, _, _, rfl⟩
      · rintro σ H4 ⟨s4, sG4, e4, o5, o6, rfl⟩
        rw [lz, List.take_length, chg_perf hP.wh hP.h6 hP.wm ok1 port A (St i) (hNd i), ← hStep i o eo] at e4
        exact ⟨s4, e4, _, _, _, _, rfl⟩
    · rintro σ H2 ⟨s2, e2, o3, o4, o5, o6, rfl⟩
      rw [lx, hS] at e2
      dsimp only at e2
      rw [List.take_length] at e2
      exact ⟨_, rfl, q H2 q1 s2 hq1 e2⟩
end
end Pk
set_option Elab.async false
set_option linter.all false
set_option maxRecDepth 100000
set_option maxHeartbeats 4000000
namespace Pk
open PySem PySem.Spec PyProof.Rows L2 SX GxR Tk
abbrev sLaw : Stmt := topS 82
abbrev NLw : List Str := ["script", "state", "program", "k", "params", "refs", "ops", "rows", "field", "width", "places", "moves", "op", "param", "p", "header", "name", "names", "args", "cells", "given", "told"]
theorem scLaw : FnScope NLw ["script"] (defScope sLaw) := ⟨rfl, rfl, rfl, by decide +kernel, rfl, by decide +kernel, by decide +kernel⟩
/-- a comprehension in a comprehension that reads no name from outside -/
def blkI (N : List Str) (scope : Scope) (own : List (Str × Nat)) : Bool := blkC N scope scope own && scope.names.all fun y => match y.2 with
  | .free => false
  | _ => true
theorem blkOk_in {N : List Str} {sc scope : Scope} {own : List (Str × Nat)} (h : blkI N scope own = true) : BlkOk N sc scope own := by
  unfold blkI at h
  rw [Bool.and_eq_true] at h
  have b := blkOk_by h.1
  refine ⟨b.kind, b.uniq, b.ix, fun y hy e => ?_, b.own⟩
  have := List.all_eq_true.mp h.2 y hy
  rw [e] at this
  cases this
structure Bk (mg : Str → Option Value) : Prop where
  zRange : mg "range" = none
  zStr : mg "str" = none
  zList : mg "list" = none
  zIsi : mg "isinstance" = none
theorem Sg.gr {G G' H H' : Hp} {s c : Addr} (C : Sg G H s c) (g : Gr G G' H) (k : Same H H') (sG : Same G' H') : Sg G' H' s c := by
  have h2 : H s ≠ none ∧ H c ≠ none := by
    obtain ⟨_, _, h, h', _⟩ := C.st
    rw [h, h']
    exact And.intro (fun z => nomatch z) (fun z => nomatch z)
  exact ⟨sG, C.st.same k, g.free C.gs h2.1, g.free C.gc h2.2⟩
/-- data that was known only in G joins a part -/
theorem Pq.kp {H H' : Hp} {p : Pd} {pp pd pv pz s' c : Addr} {port : Nat} {s : Ms} {zs : List V} (h : Pq H p pp pd pv pz port s zs) (k : Kp s' c H H') (n : ∀ b ∈ [pp, pd, pv, pz], b ≠ s' ∧ b ≠ c) : Pq H' p pp pd pv pz port s zs := by
  obtain ⟨kvs, e, f⟩ := h.d
  have m1 := n pp List.mem_cons_self
  have m2 := n pd (List.mem_cons_of_mem _ List.mem_cons_self)
  have m3 := n pv (List.mem_cons_of_mem _ (List.mem_cons_of_mem _ List.mem_cons_self))
  have m4 := n pz (List.mem_cons_of_mem _ (List.mem_cons_of_mem _ (List.mem_cons_of_mem _ List.mem_cons_self)))
  exact ⟨k _ _ m1.1 m1.2 h.e, ⟨kvs, k _ _ m2.1 m2.2 e, f⟩, k _ _ m3.1 m3.2 h.v, k _ _ m4.1 m4.2 h.z, h.n1, h.n2, h.n3, h.vn, h.vh⟩
theorem Sg.cg {G H H' : Hp} {l : List Addr} {s c : Addr} (C : Sg G H s c) (k : Cg l H H') (g : ∀ b ∈ l, G b = none) (n : ∀ b ∈ l, b ≠ s ∧ b ≠ c) : Sg G H' s c := by
  refine ⟨k.sub C.sub g, ?_, C.gs, C.gc⟩
  obtain ⟨cells, seed, h1, h2, h3⟩ := C.st
  exact ⟨cells, seed, k _ _ (fun z => (n _ z).1 rfl) h1, k _ _ (fun z => (n _ z).2 rfl) h2, h3⟩
theorem a_nm {k : Nat} (h : k < 10) : NmK k (Str.ofString "a" ++ (toString ((k : Nat) : Int) : Str)) := by
  rw [num_one k h]
  exact ⟨97, [], [], by show Str.ofString "a" ++ S [48 + k] = S ([97] ++ [48 + k]); rw [← S_cat]; congr 1, by decide +kernel, (fun c h => nomatch h), (fun c h => nomatch h), by decide, by decide⟩
theorem sign_ok {op : Str} (h : op ∈ signs) : PyData.strOk op = true := by
  unfold signs at h
  simp only [List.map_cons, List.map_nil, List.mem_cons, List.not_mem_nil, or_false] at h
  rcases h with rfl | rfl | rfl | rfl | rfl <;> decide +kernel
theorem words_ok : PyData.strOk (Str.ofString "put") = true ∧ PyData.strOk (Str.ofString "send") = true ∧ PyData.strOk (Str.ofString "add") = true ∧ PyData.strOk (Str.ofString "remove") = true ∧ PyData.strOk (Str.ofString "num") = true ∧ PyData.strOk (Str.ofString "arg") = true ∧ PyData.strOk (Str.ofString "cell") = true := by decide +kernel
theorem mo_lay (m : Mo) : Lay 1 (.tuple (moL m)) := by
  cases m with
  | num n => exact Lay.tup (Lay.cons (Lay.str words_ok.2.2.2.2.1 _) (Lay.cons (Lay.int _ _) Lay.nil))
  | arg n => exact Lay.tup (Lay.cons (Lay.str words_ok.2.2.2.2.2.1 _) (Lay.cons (Lay.int _ _) Lay.nil))
  | cell n => exact Lay.tup (Lay.cons (Lay.str words_ok.2.2.2.2.2.2 _) (Lay.cons (Lay.int _ _) Lay.nil))
theorem nats_lay (l : List Nat) : Lay 1 (natsD l) := Lay.lst fun d hd => by
  obtain ⟨n, _, rfl⟩ := List.mem_map.mp hd
  exact Lay.int _ _
theorem opN_lay' (o : Option Nat) (n : Nat) : Lay n (opN o) := by
  cases o with
  | none => exact Lay.non _
  | some i => exact Lay.int _ _
theorem ce_lay {p : Pd} {ps : List Fl} {rs : List Rf} {e : Ex} (ok : ExOk rs ps e) : ∀ d ∈ ceL (coEx p ps e), Lay 1 d := by
  cases e with
  | one a => exact Lay.cons (Lay.non _) (Lay.cons (mo_lay _) (Lay.cons (mo_lay _) Lay.nil))
  | two op a b => exact Lay.cons (Lay.str (sign_ok ok.1) _) (Lay.cons (mo_lay _) (Lay.cons (mo_lay _) Lay.nil))
theorem mv_lay {p : Pd} {ps : List Fl} {o : Op} (ok : OpOk p.hs (refsOf p.hs p.m) ps o) : Lay 2 (.tuple (mvL (coOp p ps o))) := by
  cases o with
  | set o n e => exact Lay.tup (Lay.cons (Lay.str words_ok.1 _) (Lay.cons (Lay.int _ _) (Lay.cons (Lay.int _ _) (Lay.cons (opN_lay' _ _) (ce_lay ok.2)))))
  | drp => exact Lay.tup (Lay.cons (Lay.str words_ok.2.1 _) (Lay.cons (Lay.non _) (Lay.cons (mo_lay _) (Lay.cons (mo_lay _) Lay.nil))))
  | add h => exact Lay.tup (Lay.cons (Lay.str words_ok.2.2.1 _) (Lay.cons (Lay.int _ _) (Lay.cons (nats_lay _) Lay.nil)))
  | rem h => exact Lay.tup (Lay.cons (Lay.str words_ok.2.2.2.1 _) (Lay.cons (Lay.int _ _) (Lay.cons (nats_lay _) Lay.nil)))
  | snd e => exact Lay.tup (Lay.cons (Lay.str words_ok.2.1 _) (ce_lay ok))
theorem atI_last {l : List V} {v : V} : atI (l ++ [v]) (-1) = some v := by
  unfold atI ixN
  rw [if_neg (by decide), if_pos (by rw [List.length_append, List.length_singleton]; omega), List.length_append, List.length_singleton]
  show (l ++ [v])[((-1 : Int) + ((l.length + 1 : Nat) : Int)).toNat]? = some v
  rw [show ((-1 : Int) + ((l.length + 1 : Nat) : Int)).toNat = l.length by omega, List.getElem?_append_right (Nat.le_refl _), Nat.sub_self]
  rfl
theorem pow32' {w : Nat} (h : w ≤ 32) : (0 : Int) < 2 ^ w ∧ (2 : Int) ^ w ≤ 1099511627776 := by
  have h1 : (2 : Nat) ^ w ≤ 2 ^ 32 := Nat.pow_le_pow_right (by decide) h
  have h2 : ((2 : Int) ^ w) = ((2 ^ w : Nat) : Int) := by push_cast; rfl
  have h3 : 0 < 2 ^ w := Nat.pow_pos (by decide)
  have h4 : (2 : Nat) ^ 32 = 4294967296 := by decide
  rw [h2]
  omega
theorem Pq.nin {H : Hp} {p : Pd} {pp pd pv pz q : Addr} {port : Nat} {s : Ms} {zs : List V} (h : Pq H p pp pd pv pz port s zs) (hq : H q = none) : q ∉ [pp, pd, pv, pz] := fun z => by
  obtain ⟨kvs, e, _⟩ := h.d
  rcases List.mem_cons.mp z with rfl | z
  · rw [h.e] at hq; cases hq
  rcases List.mem_cons.mp z with rfl | z
  · rw [e] at hq; cases hq
  rcases List.mem_cons.mp z with rfl | z
  · rw [h.v] at hq; cases hq
  · rw [List.mem_singleton.mp z, h.z] at hq; cases hq
theorem nin3 {pp pd pv pz q : Addr} (h : q ∉ [pp, pd, pv, pz]) : q ∉ [pp, pd, pv] := fun z => h (by
  rcases List.mem_cons.mp z with rfl | z
  · exact List.mem_cons_self
  rcases List.mem_cons.mp z with rfl | z
  · exact List.mem_cons_of_mem _ List.mem_cons_self
  · rw [List.mem_singleton.mp z]
    exact List.mem_cons_of_mem _ (List.mem_cons_of_mem _ List.mem_cons_self))
theorem dp_ints {K : PySem.W.Frag} {G : Hp} {q : Addr} {l : List Int} (e : G q = some (.lst (l.map V.int))) : Dp K G (.ref q) (.list (l.map .int)) := .lst (SqL.of e) (dpAll_of_ints l)
theorem ints_lay (l : List Int) : Lay 1 (.list (l.map .int)) := Lay.lst fun d hd => by
  obtain ⟨n, _, rfl⟩ := List.mem_map.mp hd
  exact Lay.int _ _
theorem cut5 {g0 g1 g2 g3 g4 g5 g6 g7 g8 : V} : cutV [g0, g1, g2, g3, g4, g5, g6, g7, g8] none (some 5) = [g0, g1, g2, g3, g4] ∧ cutV [g0, g1, g2, g3, g4, g5, g6, g7, g8] (some 6) none = [g6, g7, g8] := ⟨rfl, rfl⟩
section
variable {P : Program} {w : World} {K : PySem.W.Frag} {mg : Str → Option Value} {base : Heap}
def spLaw (K : PySem.W.Frag) : Sp := fun vs H Q _ => ∃ (a : Addr) (ns : List Int), vs = [.ref a] ∧ SqL K H a (ns.map V.int) ∧ ns.length ≤ 63 ∧ ∀ H', Q (.bl true) H'
theorem ok_law {f : Addr} {fd : FuncData} (F : Fun K "law" "law" sLaw f fd) (T : Bk mg) (D1 : Df P w K mg base CX0 1 "_law_state" ["script"] (spState K)) (D2 : Df P w K mg base CX0 15 "_law_program" ["state"] (spPg K)) (D3 : Df P w K mg base CX0 2 "_law_pick" ["state", "row"] (spPick K)) (D4 : Df P w K mg base CX0 1 "_law_draw" ["state", "many"] spDraw) (D5 : Df P w K mg base CX0 1 "_law_refs" ["headers", "meta"] (spRs K)) (D6 : Df P w K mg base CX0 5 "_law_operation" ["state", "headers", "refs", "params"] (spOp K)) (D7 : Df P w K mg base CX0 1 "_law_cells" ["program"] (spRowsL K)) (D8 : Df P w K mg base CX0 9 "compile_action" ["program", "action"] (spCoAct K)) (D9 : Df P w K mg base CX0 3 "_law_move" ["program", "places", "names", "op"] (spMoveL K)) (D10 : Df P w K mg base CX0 2 "_law_shown" ["p", "rows"] (spShownL K)) (D11 : Df P w K mg base CX0 5 "execute" ["moves", "cells", "args"] (spExec K)) (D12 : Df P w K mg base CX0 4 "_law_perform" ["program", "p", "op", "names"] (spPerfL K)) : FnOk P w K mg base CX0 16 f fd ["script"] (spLaw K) := by
  obtain ⟨f1, fd1, G1, g1, k1, b1⟩ := D1.ex
  obtain ⟨f2, fd2, G2, g2, k2, b2⟩ := D2.ex
  obtain ⟨f3, fd3, G3, g3, k3, b3⟩ := D3.ex
  obtain ⟨f4, fd4, G4, g4, k4, b4⟩ := D4.ex
  obtain ⟨f5, fd5, G5, g5, k5, b5⟩ := D5.ex
  obtain ⟨f6, fd6, G6, g6, k6, b6⟩ := D6.ex
  obtain ⟨f7, fd7, G7, g7, k7, b7⟩ := D7.ex
  obtain ⟨f8, fd8, G8, g8, k8, b8⟩ := D8.ex
  obtain ⟨f9, fd9, G9, g9, k9, b9⟩ := D9.ex
  obtain ⟨f10, fd10, G10, g10, k10, b10⟩ := D10.ex
  obtain ⟨f11, fd11, G11, g11, k11, b11⟩ := D11.ex
  obtain ⟨f12, fd12, G12, g12, k12, b12⟩ := D12.ex
  refine F.ok scLaw (fun vs H Q E h => ?_) (fun cdv A outer s0 H vs Q E hr h => ?_)
  · obtain ⟨a, ns, rfl, _⟩ := h
    rfl
  · obtain ⟨a, ns, rfl, hS, hn, qq⟩ := h
    have nd := scLaw.nd
    refine ⟨_, (pss_cons (ps_set (i := 1) nd rfl (.inr rfl) (pe_call G1 (hr.mono (by omega)) (by rfl) g1 k1 b1 .nil pass0 (pa_cons (pv 0) pa_nil)))
      (pss_cons (ps_set (i := 2) nd rfl (.inr rfl) (pe_call G2 (hr.mono (by omega)) (by rfl) g2 k2 b2 .nil pass0 (pa_cons (pv 1) pa_nil)))
      (pss_cons (ps_set (i := 4) nd rfl (.inr rfl) (pe_lc (own := [("k", 3)]) (g := gName 3) (tt := tYes) rfl nd (pi_range1 (by rfl) T.zRange (pa_cons (pe_call G4 (hr.mono (by omega)) (by rfl) g4 k4 b4 .nil pass0 (pa_cons (pv 1) (pa_cons pe_int pa_nil))) pa_nil)) (blkOk_by (own := [("k", 3)]) (N := NLw) (sc := defScope sLaw) (by decide +kernel)) (fun _ _ _ _ _ => (pg_name (i := 3) nd rfl (Or.inl rfl))) (fun _ _ _ _ _ => pts_nil) (fun _ _ _ _ _ => (pe_tup (pa_cons (pe_op op_add_str pe_str (pe_callTy call_str_int (by rfl) T.zStr (by decide +kernel) (pa_cons (pv 3) pa_nil))) (pa_cons (pe_call G3 (hr.mono (by omega)) (by rfl) g3 k3 b3 .nil pass0 (pa_cons (pv 1) (pa_cons (pe_lst (pa_cons pe_int (pa_cons pe_int (pa_cons pe_int (pa_cons pe_int pa_nil))))) pa_nil))) pa_nil))))))
      (pss_cons (ps_set (i := 5) nd rfl (.inr rfl) (pe_call G5 (hr.mono (by omega)) (by rfl) g5 k5 b5 .nil pass0 (pa_cons (pe_ix ix_tup (pv 2) pe_int (fun _ _ => rfl)) (pa_cons (pe_ix ix_tup (pv 2) pe_int (fun _ _ => rfl)) pa_nil))))
      (pss_cons (ps_setLc (i := 6) (own := [("k", 3)]) (g := gName 3) (tt := tYes) rfl nd rfl rfl (sw_true rfl rfl rfl (by decide +kernel)) (pi_range1 (by rfl) T.zRange (pa_cons (pe_call G4 (hr.mono (by omega)) (by rfl) g4 k4 b4 .nil pass0 (pa_cons (pv 1) (pa_cons pe_int pa_nil))) pa_nil)) (blkOk_by (own := [("k", 3)]) (N := NLw) (sc := defScope sLaw) (by decide +kernel)) (fun _ _ _ _ _ => (pg_name (i := 3) nd rfl (Or.inl rfl))) (fun _ _ _ _ _ => pts_nil) (fun _ _ _ _ _ => (pe_call G6 (hr.mono (by omega)) (by rfl) g6 k6 b6 .nil pass0 (pa_cons (pv 1) (pa_cons (pe_ix (r := rIxT K) ix_tup (pv 2) pe_int (fun _ _ => rfl)) (pa_cons (pv 5) (pa_cons (pv 4) pa_nil)))))))
      (pss_cons (ps_set (i := 2) nd rfl (.inr rfl) (pe_op op_catT (pe_op op_catT (pe_slice sl_tup (pv 2) po_none (po_some pe_int)) (pe_tup (pa_cons (pe_lst (pa_cons (pe_tup (pa_cons pe_str (pa_cons pe_str (pa_cons (pv 4) (pa_cons (pv 6) pa_nil))))) pa_nil)) pa_nil))) (pe_slice sl_tup (pv 2) (po_some pe_int) po_none)))
      (pss_cons (ps_set (i := 7) nd rfl (.inl rfl) (pe_call G7 (hr.mono (by omega)) (by rfl) g7 k7 b7 .nil pass0 (pa_cons (pv 2) pa_nil)))
      (pss_cons (ps_set (i := 10) nd rfl (.inr rfl) (pe_lc (own := [("field", 8), ("width", 9)]) (g := gTup K 2 (gCons (gName 8) (gCons (gName 9) gNil))) (tt := tYes) rfl nd (pi_list (pv 7)) (blkOk_by (own := [("field", 8), ("width", 9)]) (N := NLw) (sc := defScope sLaw) (by decide +kernel)) (fun _ _ _ _ _ => (pg_tup rfl (pgs_cons (pg_name (i := 8) nd rfl (Or.inl rfl)) (pgs_cons (pg_name (i := 9) nd rfl (Or.inl rfl)) pgs_nil)))) (fun _ _ _ _ _ => pts_nil) (fun _ _ _ _ _ => (pv 8))))
      (pss_cons (ps_set (i := 11) nd rfl (.inl rfl) (pe_call G8 (hr.mono (by omega)) (by rfl) g8 k8 b8 .nil pass0 (pa_cons (pv 2) (pa_cons pe_str pa_nil))))
      (pss_cons (ps_if (pt_cmpR (op_neD hr.units) (pv 11) (pe_lc (own := [("op", 12)]) (g := gName 12) (tt := tYes) rfl nd (pi_list (pv 6)) (blkOk_by (own := [("op", 12)]) (N := NLw) (sc := defScope sLaw) (by decide +kernel)) (fun _ _ _ _ _ => (pg_name (i := 12) nd rfl (Or.inl rfl))) (fun _ _ _ _ _ => pts_nil) (fun _ _ _ _ _ => (pe_call G9 (hr.mono (by omega)) (by rfl) g9 k9 b9 .nil pass0 (pa_cons (pv 2) (pa_cons (pv 10) (pa_cons (by refine pe_lc (own := [("param", 13)]) (g := gName 13) (tt := tYes) (wi := iList K (tVar 4)) (te := tOp (rIxT K) (tVar 13) (tC (.int 0))) rfl nd ?_ ?_ ?_ ?_ ?_; exact (pi_list (pv 4)); exact (blkOk_in (own := [("param", 13)]) (N := NLw) (by decide +kernel)); exact (fun _ _ _ _ _ => (pg_name (i := 13) nd rfl (Or.inl rfl))); exact (fun _ _ _ _ _ => pts_nil); exact (fun _ _ _ _ _ => (pe_ix (r := rIxT K) ix_tup (pv 13) pe_int (fun _ _ => rfl)))) (pa_cons (pv 12) pa_nil))))))) (nomark _)) (pss_one (ps_ret pe_bl)) pss_nil)
      (pss_cons (ps_set (i := 14) nd rfl (.inl rfl) (pe_lst (pa_cons pe_dnewT (pa_cons (pe_lst pa_nil) (pa_cons (pe_call G3 (hr.mono (by omega)) (by rfl) g3 k3 b3 .nil pass0 (pa_cons (pv 1) (pa_cons (pe_lst (pa_cons pe_non (pa_cons (pe_call G4 (hr.mono (by omega)) (by rfl) g4 k4 b4 .nil pass0 (pa_cons (pv 1) (pa_cons pe_int pa_nil))) pa_nil))) pa_nil))) (pa_cons (pe_call G4 (hr.mono (by omega)) (by rfl) g4 k4 b4 .nil pass0 (pa_cons (pv 1) (pa_cons pe_int pa_nil))) (pa_cons (pe_lst pa_nil) pa_nil)))))))
      (pss_cons (ps_for PassesOwn.never rfl (pi_list (pe_ix ix_tup (pv 2) pe_int (fun _ _ => rfl))) (pg_name (i := 15) nd rfl (.inl rfl))
        (pss_one (ps_if (pt_cmpR op_gt (pe_call G4 (hr.mono (by omega)) (by rfl) g4 k4 b4 .nil pass0 (pa_cons (pv 1) (pa_cons pe_int pa_nil))) pe_int (nomark _)) (pss_cons (ps_expr (pe_bm PySem.F.plainAttrs_list PySem.F.slot_list_append PySem.F.type_list_append mt_append (pe_ix ix_list (pv 14) pe_int (fun _ _ => rfl)) (pa_cons (pe_ix ix_tup (pv 15) pe_int (fun _ _ => rfl)) pa_nil)))
          (pss_one (ps_for PassesOwn.never rfl (pi_list (pe_ix ix_tup (pv 15) pe_int (fun _ _ => rfl))) (pg_tup (by rfl) (pgs_cons (pg_name (i := 16) nd rfl (.inl rfl)) (pgs_cons (pg_name (i := 9) nd rfl (.inl rfl)) pgs_nil)))
            (pss_one (ps_asg (pe_call G4 (hr.mono (by omega)) (by rfl) g4 k4 b4 .nil pass0 (pa_cons (pv 1) (pa_cons (pe_op op_shl pe_int (pv 9)) pa_nil))) (pg_sub (pe_ix ix_list (pv 14) pe_int (fun _ _ => rfl)) (pe_tup (pa_cons (pe_ix ix_tup (pv 15) pe_int (fun _ _ => rfl)) (pa_cons (pv 16) pa_nil))) (set_dict (hu_of hr)))))))) pss_nil)))
      (pss_cons (ps_for PassesOwn.never rfl (pi_list (pe_ix ix_tup (pv 2) pe_int (fun _ _ => rfl))) (pg_tup (by rfl) (pgs_cons (pg_name (i := 16) nd rfl (.inl rfl)) (pgs_cons (pg_name (i := 9) nd rfl (.inl rfl)) pgs_nil)))
        (pss_one (ps_asg (pe_call G4 (hr.mono (by omega)) (by rfl) g4 k4 b4 .nil pass0 (pa_cons (pv 1) (pa_cons (pe_op op_shl pe_int (pv 9)) pa_nil))) (pg_sub (pe_ix ix_list (pv 14) pe_int (fun _ _ => rfl)) (pe_tup (pa_cons pe_str (pa_cons (pv 16) pa_nil))) (set_dict (hu_of hr))))))
      (pss_cons (ps_set (i := 17) nd rfl (.inl rfl) (pe_dnewK))
      (pss_cons (ps_set (i := 18) nd rfl (.inl rfl) (pe_lst pa_nil))
      (pss_cons (ps_for PassesOwn.never rfl (pi_list (pv 4)) (pg_tup (by rfl) (pgs_cons (pg_name (i := 16) nd rfl (.inl rfl)) (pgs_cons (pg_name (i := 9) nd rfl (.inl rfl)) pgs_nil)))
        (pss_cons (ps_expr (pe_bm PySem.F.plainAttrs_list PySem.F.slot_list_append PySem.F.type_list_append mt_append (pv 18) (pa_cons (pe_call G4 (hr.mono (by omega)) (by rfl) g4 k4 b4 .nil pass0 (pa_cons (pv 1) (pa_cons (pe_op op_shl pe_int (pv 9)) pa_nil))) pa_nil)))
        (pss_one (ps_asg (pe_ix ix_list (pv 18) (pe_un un_neg pe_int) (fun _ _ => rfl)) (pg_sub (pv 17) (pv 16) (set_dict (hu_of hr)))))))
      (pss_cons (ps_set (i := 19) nd rfl (.inl rfl) (pe_call G10 (hr.mono (by omega)) (by rfl) g10 k10 b10 .nil pass0 (pa_cons (pv 14) (pa_cons (pv 7) pa_nil))))
      (pss_cons (ps_set (i := 20) nd rfl (.inl rfl) (pe_lst (pa_cons (pe_callTy call_list_of (by rfl) T.zList (by decide +kernel) (pa_cons (pv 19) pa_nil)) (pa_cons (pe_callTy call_list_of (by rfl) T.zList (by decide +kernel) (pa_cons (pv 18) pa_nil)) pa_nil))))
      (pss_cons (ps_set (i := 21) nd rfl (.inl rfl) (pe_call G11 (hr.mono (by omega)) (by rfl) g11 k11 b11 .nil pass0 (pa_cons (pv 11) (pa_cons (pe_ix ix_list (pv 20) pe_int (fun _ _ => rfl)) (pa_cons (pe_ix ix_list (pv 20) pe_int (fun _ _ => rfl)) pa_nil)))))
      (pss_cons (ps_for PassesOwn.never rfl (pi_list (pv 6)) (pg_name (i := 12) nd rfl (.inl rfl))
        (pss_one (ps_expr (pe_call G12 (hr.mono (by omega)) (by rfl) g12 k12 b12 .nil pass0 (pa_cons (pv 2) (pa_cons (pv 14) (pa_cons (pv 12) (pa_cons (pv 17) pa_nil))))))))
      (pss_one (ps_ret (pe_and (pe_callB call_isi (by rfl) T.zIsi PyProof.Rows.boot_isinstance (pa_cons (pv 21) (pa_cons (pe_bltn (v := .ty "list") (u := .type "list") rfl T.zList (by decide +kernel) rfl) pa_nil))) (pe_and (pe_cmpR (op_eqD hr.units) (pv 21) (pe_call G10 (hr.mono (by omega)) (by rfl) g10 k10 b10 .nil pass0 (pa_cons (pv 14) (pa_cons (pv 7) pa_nil))) (nomark _)) (pe_one (pe_cmpR (op_eqD hr.units) (pv 20) (pe_lst (pa_cons (pv 19) (pa_cons (pv 18) pa_nil))) (nomark _))))))))))))))))))))))))))), ?_⟩
    refine ⟨_, rfl, a, ns, rfl, hS, hn, fun H1 s c s1 _ _ st1 => ?_⟩
    refine ⟨_, rfl, s, c, rfl, st1, fun H2 G x nm hs m sts n acs tbs ct em n2 rest C2 kp2 hDp p1 p2 p3 p4 p5 p6 p7 p8 p9 p10 p11 p12 p13 p14 p15 p16 p17 p18 => ?_⟩
    clear p1 p8 p9 p10 p11 p12 p13 p14 p15 p16 p17 p18
    -- params
    refine ⟨_, rfl, s, c, 5, rfl, C2.st, by decide, by decide, fun H3 r r0 r1 st3 kp3 => ⟨r, rfl, by omega, by omega, fun D hD => ?_⟩⟩
    have C3 := C2.kp kp3 st3
    have nD := C3.st.neS hD
    have gD : G D = none := C3.sub.free hD
    refine lc_range (lo := 0) (n := r.toNat) (fun j H4 => ∃ (fs : List Fl) (zs : List V) (G4 : Hp), Sg G4 H4 s c ∧ Same G G4 ∧ G4 D = none ∧ H4 D = some (.lst zs) ∧ DrAll G4 zs (fs.map fun f => .tuple (flL f)) ∧ fs.length = j ∧ (∀ k f, fs[k]? = some f → NmK k f.1 ∧ 1 ≤ f.2 ∧ f.2 ≤ 32)) ⟨[], [], G, C3.same (same_new hD), Same.refl _, gD, upd_same, .nil, rfl, fun k f h => by cases h⟩ ?_ ?_
    · rintro j H4 hj ⟨fs, zs, G4, C4, gs4, gD4, eD4, hz, hfl, hnm⟩
      have hzl := drAll_len hz
      rw [List.length_map] at hzl
      refine ⟨rfl, _, rfl, _, rfl, ?_, _, _, rfl, rfl, ?_, _, rfl, (by show 4 ≤ sizeLine; decide), fun p7 hp7 => ?_⟩
      · rw [Int.zero_add, Int.natAbs_natCast]
        exact log_ok j (by omega)
      · rw [Int.zero_add, num_one j (by omega)]
        have e1 : (Str.ofString "a").length = 1 := by decide +kernel
        have e2 : (S [48 + j]).length = 1 := S_len _
        rw [e1, e2, sizeLine_eq]
        decide
      have n7 := C4.st.neS hp7
      refine ⟨s, c, p7, _, rfl, C4.st.new hp7, SqL.of upd_same, n7.1, n7.2, (by show 0 < 4; decide), (by show 4 ≤ 1000; decide), fun H8 i8 x8 hx8 st8 kp8 => ⟨by show 2 ≤ sizeLine; decide, fun t ht => ?_⟩⟩
      obtain ⟨wd, hwd, rfl⟩ := pick_ints (ns := [1, 3, 8, 32]) hx8
      have hwb : 1 ≤ wd ∧ wd ≤ 32 := by
        simp only [List.mem_cons, List.not_mem_nil, or_false] at hwd
        omega
      obtain ⟨wn, rfl⟩ : ∃ wn : Nat, wd = (wn : Int) := ⟨wd.toNat, by omega⟩
      have kq8 := (Kp.new hp7).trans kp8
      have C8 := C4.kp kq8 st8
      have eD8 := kq8 _ _ nD.1 nD.2 eD4
      rw [Int.zero_add]
      have ntD : D ≠ t := ne_of_none eD8 ht
      have gt : G4 t = none := C8.sub.free ht
      have C9 := C8.new (o := .tup [V.str (Str.ofString "a" ++ (toString ((j : Nat) : Int) : Str)), V.int (wn : Nat)]) ht
      have s9 := same_new2 (o := .tup [V.str (Str.ofString "a" ++ (toString ((j : Nat) : Int) : Str)), V.int (wn : Nat)]) gt
      refine ⟨_, by rw [upd_ne ntD]; exact eD8, small1000 (by omega), fs ++ [(Str.ofString "a" ++ (toString ((j : Nat) : Int) : Str), wn)], zs ++ [.ref t], _, C9.set (by rw [upd_ne ntD]; exact gD4) nD, gs4.trans s9, by rw [upd_ne ntD]; exact gD4, upd_same, ?_, by rw [List.length_append, hfl]; rfl, ?_⟩
      · rw [List.map_append]
        exact drAll_app (drAll_sub s9 hz) (.cons (.tup upd_same (.cons (.str _) (.cons (.int _) .nil))) .nil)
      · intro k f e
        rw [List.getElem?_append] at e
        by_cases hk : k < fs.length
        · rw [if_pos hk] at e
          exact hnm k f e
        · rw [if_neg hk] at e
          have : k - fs.length = 0 := by
            rcases Nat.eq_zero_or_pos (k - fs.length) with h | h
            · exact h
            · rw [List.getElem?_eq_none (by show 1 ≤ _; omega)] at e
              cases e
          rw [this] at e
          cases e
          obtain rfl : k = j := by omega
          exact ⟨a_nm (by omega), by show 1 ≤ wn; omega, by show wn ≤ 32; omega⟩
    rintro H4 ⟨fs, zs, G4, C4, gs4, gD4, eD4, hz, hfl, hnm⟩
    have hfl4 : fs.length ≤ 4 := by omega
    have C5 := C4.frz eD4 nD
    have s45 := same_new2 (o := .lst zs) gD4
    have dps : Dr (upd G4 D (.lst zs)) (.ref D) (flsD fs) := .lst upd_same (drAll_sub s45 hz)
    have hD5 := dr_sub (gs4.trans s45) hDp
    generalize upd G4 D (.lst zs) = G5 at C5 dps hD5
    clear C2 C3 C4 gs4 s45 hz eD4 gD4 gD hD hDp kp2 kp3 st3 st1 s1
    have hnd5 : (fs.map Prod.fst).Nodup := by
      rw [nodup_iff_at]
      intro i j hij hj e
      rw [List.length_map] at hj
      have ei := List.getElem?_eq_getElem (by omega : i < fs.length)
      have ej := List.getElem?_eq_getElem hj
      rw [List.getElem?_map, List.getElem?_map, ei, ej] at e
      have := nm_inj (hnm i _ ei).1 (hnm j _ ej).1 (by omega) (by omega) (Option.some.inj e)
      omega
    -- refs
    cases hD5 with
    | @tup pg gs _ pg1 pg2 =>
    obtain ⟨g0, r', rfl, q0, pg2⟩ := drAll_cons pg2
    obtain ⟨g1', r', rfl, q1, pg2⟩ := drAll_cons pg2
    obtain ⟨g2', r', rfl, q2, pg2⟩ := drAll_cons pg2
    obtain ⟨g3', r', rfl, q3, pg2⟩ := drAll_cons pg2
    obtain ⟨g4', r', rfl, q4, pg2⟩ := drAll_cons pg2
    obtain ⟨g5', r', rfl, q5, pg2⟩ := drAll_cons pg2
    obtain ⟨g6', r', rfl, q6, pg2⟩ := drAll_cons pg2
    obtain ⟨g7', r', rfl, q7, pg2⟩ := drAll_cons pg2
    obtain ⟨g8', r', rfl, q8, pg2⟩ := drAll_cons pg2
    obtain rfl := drAll_nil pg2
    have hf8 : ∀ h ∈ hs, h.2.length ≤ 8 := fun h hh => (hd_sx p2 p4 hh).2.2.1
    refine ⟨_, rfl, pg, _, _, _, rfl, rfl, sqT_subz C5.sub pg1, atI_nat (j := 2) rfl, _, rfl, pg, _, _, _, rfl, rfl, sqT_subz C5.sub pg1, atI_nat (j := 3) rfl, ?_⟩
    dsimp only [tNil]
    refine ⟨g2', g3', s, c, G5, hs, m, rfl, C5, q2, q3, p4, hf8, Nat.le_trans p5.1 (by decide), fun H6 G6 pr C6 gs6 s6 dr6 => ?_⟩
    -- ops
    refine ⟨_, rfl, s, c, 9, rfl, C6.st, by decide, by decide, fun H7 r r0 r1 st7 kp7 => ⟨r, rfl, by omega, by omega, fun D2 hD2 => ?_⟩⟩
    have C7 := C6.kp kp7 st7
    have nD2 := C7.st.neS hD2
    have gD2 : G6 D2 = none := C7.sub.free hD2
    have rp6 : Rp G6 (.ref pr) (.ref D) (refsOf hs m) fs := ⟨dr6, dr_sub gs6 dps, by show 0 < (refsOf hs m).length; unfold refsOf; rw [List.length_append, List.length_cons]; omega, by
      have := refs_len hs hf8
      unfold refsOf
      rw [List.length_append, List.length_cons, List.length_map]
      have e : (hs.flatMap fun h => h.2.map fun f => (h.1, f.1, f.2)) = hs.flatMap hRefs := rfl
      rw [e]
      have := p5.1
      omega, by omega⟩
    refine lc_range (lo := 0) (n := r.toNat) (fun j H8 => ∃ (os : List Op) (zs : List V) (G8 : Hp), Sg G8 H8 s c ∧ Same G6 G8 ∧ G8 D2 = none ∧ H8 D2 = some (.lst zs) ∧ DrAll G8 zs (os.map fun o => .tuple (opL o)) ∧ (∀ o ∈ os, OpOk hs (refsOf hs m) fs o) ∧ os.length = j) ⟨[], [], G6, C7.same (same_new hD2), Same.refl _, gD2, upd_same, .nil, (fun o h => nomatch h), rfl⟩ ?_ ?_
    · rintro j H8 hj ⟨os, zs, G8, C8, gs8, gD8, eD8, hz, hok, hfl'⟩
      have hzl := drAll_len hz
      rw [List.length_map] at hzl
      refine ⟨rfl, _, rfl, _, rfl, pg, _, _, _, rfl, rfl, sqT_subz C8.sub ((gs6.trans gs8) _ _ pg1), atI_nat (j := 2) rfl, _, rfl, _, rfl, ?_⟩
      dsimp only [tNil]
      refine ⟨s, c, G8, g2', .ref pr, .ref D, hs, refsOf hs m, fs, rfl, C8, dr_sub (gs6.trans gs8) q2, p3, p4, rp6.up gs8, rfl, fun H10 G10 x o ho C10 gr10 kp10 d10 => ?_⟩
      have eD10 := kp10 _ _ nD2.1 nD2.2 eD8
      have gD10 := gr10.free gD8 (by rw [eD8]; exact fun z => nomatch z)
      refine ⟨_, eD10, small1000 (by omega), os ++ [o], zs ++ [x], G10, C10.set gD10 nD2, gs8.trans gr10.sub, gD10, upd_same, ?_, ?_, by rw [List.length_append, hfl']; rfl⟩
      · rw [List.map_append]
        exact drAll_app (drAll_sub gr10.sub hz) (.cons d10 .nil)
      · intro y hy
        rcases List.mem_append.mp hy with h | h
        · exact hok y h
        · rw [List.mem_singleton.mp h]
          exact ho
    rintro H8 ⟨os, zs8, G8, C8, gs8, gD8, eD8, hz8, hok, hol⟩
    have hol9 : os.length ≤ 8 := by omega
    have C9 := C8.frz eD8 nD2
    have s89 := same_new2 (o := .lst zs8) gD8
    have dos : Dr (upd G8 D2 (.lst zs8)) (.ref D2) (.list (os.map fun o => .tuple (opL o))) := .lst upd_same (drAll_sub s89 hz8)
    have gs59 := (gs6.trans gs8).trans s89
    have dps9 := dr_sub gs59 dps
    have pg19 := gs59 _ _ pg1
    generalize upd G8 D2 (.lst zs8) = G9 at C9 dos gs59 dps9 pg19
    clear C5 C6 C7 C8 gs6 gs8 s89 hz8 eD8 gD8 gD2 kp7 st7 rp6 dr6 s6 dps
    -- the program with one action
    refine ⟨_, rfl, _, rfl, pg, _, rfl, sqT_subz C9.sub pg19, (by show ¬ (HT.sIx 9 0 none = 0 ∧ HT.sIx 9 9 (some 5) = 9); decide), fun t1 ht1 => ?_⟩
    rw [cut5.1]
    have Ca := C9.same (same_new (o := .tup [g0, g1', g2', g3', g4']) ht1)
    have e1 : (upd H8 t1 (.tup [g0, g1', g2', g3', g4'])) t1 = some (.tup [g0, g1', g2', g3', g4']) := upd_same
    generalize upd H8 t1 (.tup [g0, g1', g2', g3', g4']) = Ha at Ca e1 ⊢
    refine ⟨_, rfl, _, rfl, (by show 4 ≤ sizeLine; decide), fun t2 ht2 => ⟨(by show 1 ≤ sizeLine; decide), fun l2 hl2 => ⟨(by show 1 ≤ sizeLine; decide), fun t3 ht3 => ?_⟩⟩⟩
    have g2n : G9 t2 = none := Ca.sub.free ht2
    have sg2 := same_new2 (o := .tup [V.str "action", .str "act", .ref D, .ref D2]) g2n
    have Cb := Ca.new (o := .tup [V.str "action", .str "act", .ref D, .ref D2]) ht2
    have db : Dr (upd G9 t2 (.tup [V.str "action", .str "act", .ref D, .ref D2])) (.ref t2) (.tuple (acL ⟨"act", fs, os⟩)) := .tup upd_same (.cons (.str _) (.cons (.str _) (.cons (dr_sub sg2 dps9) (.cons (dr_sub sg2 dos) .nil))))
    have e1b := (same_new (o := .tup [V.str "action", .str "act", .ref D, .ref D2]) ht2) _ _ e1
    generalize upd G9 t2 (.tup [V.str "action", .str "act", .ref D, .ref D2]) = Gb at sg2 Cb db
    generalize upd Ha t2 (.tup [V.str "action", .str "act", .ref D, .ref D2]) = Hb at Cb e1b hl2 ht3 ⊢
    have g3n : Gb l2 = none := Cb.sub.free hl2
    have sg3 := same_new2 (o := .lst [V.ref t2]) g3n
    have Cc := Cb.new (o := .lst [V.ref t2]) hl2
    have dc : Dr (upd Gb l2 (.lst [V.ref t2])) (.ref l2) (acsD [⟨"act", fs, os⟩]) := .lst upd_same (.cons (dr_sub sg3 db) .nil)
    have e1c := (same_new (o := .lst [V.ref t2]) hl2) _ _ e1b
    generalize upd Gb l2 (.lst [V.ref t2]) = Gc at sg3 Cc dc
    generalize upd Hb l2 (.lst [V.ref t2]) = Hc at Cc e1c ht3 ⊢
    have Cd := Cc.same (same_new (o := .tup [V.ref l2]) ht3)
    have e1d := (same_new (o := .tup [V.ref l2]) ht3) _ _ e1c
    have e3d : (upd Hc t3 (.tup [V.ref l2])) t3 = some (.tup [V.ref l2]) := upd_same
    generalize upd Hc t3 (.tup [V.ref l2]) = Hd at Cd e1d e3d ⊢
    refine ⟨t1, t3, _, _, rfl, rfl, SqT.of e1d, SqT.of e3d, (fun z => nomatch z), by show 5 + 1 ≤ sizeLine; decide, (fun z => nomatch z), fun _ t4 ht4 => ?_⟩
    have Ce := Cd.same (same_new (o := .tup ([g0, g1', g2', g3', g4'] ++ [V.ref l2])) ht4)
    have e4e : (upd Hd t4 (.tup ([g0, g1', g2', g3', g4'] ++ [V.ref l2]))) t4 = some (.tup ([g0, g1', g2', g3', g4'] ++ [V.ref l2])) := upd_same
    generalize upd Hd t4 (.tup ([g0, g1', g2', g3', g4'] ++ [V.ref l2])) = He at Ce e4e ⊢
    have gs9c := sg2.trans sg3
    have gs5c := gs59.trans gs9c
    refine ⟨_, rfl, _, rfl, pg, _, rfl, sqT_subz Ce.sub (gs9c _ _ pg19), (by show ¬ (HT.sIx 9 0 (some 6) = 0 ∧ HT.sIx 9 9 none = 9); decide), fun t5 ht5 => ?_⟩
    rw [cut5.2]
    have Cf := Ce.same (same_new (o := .tup [g6', g7', g8']) ht5)
    have e4f := (same_new (o := .tup [g6', g7', g8']) ht5) _ _ e4e
    have e5f : (upd He t5 (.tup [g6', g7', g8'])) t5 = some (.tup [g6', g7', g8']) := upd_same
    generalize upd He t5 (.tup [g6', g7', g8']) = Hf at Cf e4f e5f ⊢
    refine ⟨t4, t5, _, _, rfl, rfl, SqT.of e4f, SqT.of e5f, (fun z => nomatch z), by show 6 + 3 ≤ sizeLine; decide, (fun z => nomatch z), fun _ t6 ht6 => ?_⟩
    obtain ⟨pq, hpq⟩ : ∃ pq : Pd, pq = ⟨nm, hs, m, sts.drop n ++ sts.take n, [⟨"act", fs, os⟩], tbs, ct, em.drop n2 ++ em.take n2⟩ := ⟨_, rfl⟩
    have g6n : Gc t6 = none := Cf.sub.free ht6
    have sg6 := same_new2 (o := .tup (([g0, g1', g2', g3', g4'] ++ [V.ref l2]) ++ [g6', g7', g8'])) g6n
    have Cg' := Cf.new (o := .tup (([g0, g1', g2', g3', g4'] ++ [V.ref l2]) ++ [g6', g7', g8'])) ht6
    have k56 := gs5c.trans sg6
    have dP : Dr (upd Gc t6 (.tup (([g0, g1', g2', g3', g4'] ++ [V.ref l2]) ++ [g6', g7', g8']))) (.ref t6) (.tuple pq.L) := by
      subst hpq
      exact .tup upd_same (.cons (dr_sub k56 q0) (.cons (dr_sub k56 q1) (.cons (dr_sub k56 q2) (.cons (dr_sub k56 q3) (.cons (dr_sub k56 q4) (.cons (dr_sub sg6 dc) (.cons (dr_sub k56 q6) (.cons (dr_sub k56 q7) (.cons (dr_sub k56 q8) .nil)))))))))
    have dps6 := dr_sub (gs9c.trans sg6) dps9
    have dos6 := dr_sub (gs9c.trans sg6) dos
    generalize upd Gc t6 (.tup (([g0, g1', g2', g3', g4'] ++ [V.ref l2]) ++ [g6', g7', g8'])) = Gg at Cg' dP dps6 dos6 k56
    generalize upd Hf t6 (.tup (([g0, g1', g2', g3', g4'] ++ [V.ref l2]) ++ [g6', g7', g8'])) = Hg at Cg' ⊢
    have hP : PgK K Gg (.ref t6) pq := by
      refine ⟨dr_dp dP, ?_, ?_, ?_, sts, n, ?_, p7, ?_⟩ <;> subst hpq
      · exact p2
      · exact p4
      · exact p5
      · rfl
      · exact p6
    have ehs : pq.hs = hs := by rw [hpq]
    have em' : pq.m = m := by rw [hpq]
    have eac : pq.acs = [⟨"act", fs, os⟩] := by rw [hpq]
    rw [← ehs, ← em'] at hok
    rw [← ehs] at p2 p3 p4
    rw [← em'] at p5
    clear Ca Cb Cc Cd Ce Cf e1 e1b e1c e1d e3d e4e e4f e5f sg2 sg3 sg6 gs9c gs5c gs59 db dc g2n g3n g6n C9 dos dps9 pg19 hpq q0 q1 q2 q3 q4 q5 q6 q7 q8 k56 ht1 ht2 ht3 ht4 ht5 ht6 hl2 p6 hf8
    have hwf := hP.wf
    have hAc : AcIn pq 0 ⟨"act", fs, os⟩ := ⟨by rw [eac]; rfl, (fun j b hj => by omega), hnd5, hok, by show fs.length ≤ 8; omega, hol9⟩
    -- rows, places
    refine ⟨_, rfl, .ref t6, Gg, pq, rfl, Cg'.sub, hP, fun Hh Gh xr sh sGh grh drh => ?_⟩
    have Ch := Cg'.gr grh sh sGh
    have hPh := hP.sub grh.sub
    have dPh := dr_sub grh.sub dP
    have dpsh := dr_sub grh.sub dps6
    have dosh := dr_sub grh.sub dos6
    obtain ⟨prw, rws, rfl, w1, w2⟩ := dp_lst drh
    have lw := dpAll_len w2
    rw [List.length_map] at lw
    have hcl : (cellsL pq.hs pq.m).length ≤ 1000 := by
      have := pl_len pq
      unfold placesL at this
      rw [List.length_map] at this
      rw [this]
      exact many_le hwf.wh hwf.h6 hwf.wm
    refine ⟨_, rfl, prw, rfl, ⟨_, sqL_sub sGh w1⟩, fun D4 hD4 => lc_list (K := K) (a := prw) (xs := rws) (fun j Hi => Same Hh Hi ∧ ∃ xs, Hi D4 = some (.lst xs) ∧ DpAll K Gh xs (((cellsL pq.hs pq.m).take j).map fun c => lz c.1)) ⟨same_new hD4, [], upd_same, .nil⟩ (fun j Hi _ h => sqL_sub (sGh.trans h.1) w1) ?_ ?_⟩
    · rintro j z Hi hz ⟨si, xs, ei, dxs⟩
      obtain ⟨d, ed, hd⟩ := dpAll_val w2 hz
      rw [List.getElem?_map] at ed
      obtain ⟨cc, ec, rfl⟩ := Option.map_eq_some_iff.mp ed
      have hj := (List.getElem?_eq_some_iff.mp ec).1
      obtain ⟨pt, ts, rfl, u1, u2⟩ := dp_tup hd
      obtain ⟨w0, r', rfl, n0, u2⟩ := dpAll_cons u2
      obtain ⟨w1', r', rfl, n1, u2⟩ := dpAll_cons u2
      obtain rfl := dpAll_nil u2
      have lx := dpAll_len dxs
      rw [List.length_map, List.length_take] at lx
      refine ⟨pt, _, rfl, sqT_sub (sGh.trans si) u1, rfl, _, _, rfl, _, _, rfl, rfl, rfl, _, rfl, _, ei, small1000 (by omega), same_set si hD4, _, upd_same, ?_⟩
      rw [List.take_add_one, ec, List.map_append]
      exact dpAll_app dxs (.cons n0 .nil)
    rintro Hi ⟨si, xs4, ei, dxs4⟩
    rw [lw, List.take_length, rows_places] at dxs4
    have Ci := Ch.same si
    have nD4 := Ch.st.neS hD4
    have Cj := Ci.frz ei nD4
    have gD4 : Gh D4 = none := sGh.free hD4
    have sgj := same_new2 (o := .lst xs4) gD4
    have dlz : Dp K (upd Gh D4 (.lst xs4)) (.ref D4) (.list (lzL pq)) := .lst (SqL.of upd_same) (dpAll_sub sgj dxs4)
    have hPj := hPh.sub sgj
    have dPj := dr_sub sgj dPh
    have dpsj := dr_sub sgj dpsh
    have dosj := dr_sub sgj dosh
    have drj := dp_sub sgj drh
    generalize upd Gh D4 (.lst xs4) = Gj at Cj dlz hPj dPj dpsj dosj drj
    clear Ch Ci sgj gD4 ei dxs4 hPh dPh dpsh dosh drh hP dP dps6 dos6 Cg' w1 w2 lw grh sGh sh
    -- moves
    refine ⟨_, rfl, .ref t6, Gj, pq, 0, ⟨"act", fs, os⟩, rfl, Cj.sub, hPj, hAc, fun Hk Gk xm sk sGk grk dmv => ?_⟩
    have Ck := Cj.gr grk sk sGk
    have hPk := hPj.sub grk.sub
    have dlzk := dp_sub grk.sub dlz
    have dosk := dr_sub grk.sub dosj
    have dpsk := dr_sub grk.sub dpsj
    have drk := dp_sub grk.sub drj
    obtain ⟨_, zo, ezo, o1, o2⟩ : ∃ p xs, V.ref D2 = .ref p ∧ Gk p = some (.lst xs) ∧ DrAll Gk xs (os.map fun o => .tuple (opL o)) := dr_lst dosk
    cases ezo
    obtain ⟨_, zf, ezf, f1', f2'⟩ : ∃ p xs, V.ref D = .ref p ∧ Gk p = some (.lst xs) ∧ DrAll Gk xs (fs.map fun f => .tuple (flL f)) := dr_lst dpsk
    cases ezf
    have lzo := drAll_len o2
    have lzf := drAll_len f2'
    rw [List.length_map] at lzo lzf
    have dmvl := dmv
    refine ⟨_, rfl, _, rfl, D2, rfl, ⟨_, SqL.of (sGk _ _ o1)⟩, fun D5 hD5 => lc_list (K := K) (a := D2) (xs := zo) (fun j Hl => ∃ (GC : Hp) (xs : List V), Same Hk Hl ∧ Same GC Hl ∧ Gr Gk GC Hk ∧ GC D5 = none ∧ Hl D5 = some (.lst xs) ∧ DpAll K GC xs ((os.take j).map fun o => .tuple (mvL (coOp pq fs o)))) ⟨Gk, [], same_new hD5, sGk.trans (same_new hD5), Gr.refl _ _, sGk.free hD5, upd_same, .nil⟩ (fun j Hl _ h => by
      obtain ⟨GC, xs, h1, _⟩ := h
      exact SqL.of ((sGk.trans h1) _ _ o1)) ?_ ?_⟩
    · rintro j z Hl hz ⟨GC, xs, sl, sGC, grC, gD, eD, dxs⟩
      obtain ⟨d, ed, hd⟩ := dpAll_val (drAll_dp (K := K) o2) hz
      rw [List.getElem?_map] at ed
      obtain ⟨o, eo, rfl⟩ := Option.map_eq_some_iff.mp ed
      have hj := (List.getElem?_eq_some_iff.mp eo).1
      refine ⟨rfl, _, rfl, _, rfl, ?_⟩
      have sGl := sGk.trans sl
      refine ⟨_, rfl, D, rfl, ⟨_, SqL.of (sGl _ _ f1')⟩, fun D6 hD6 => lc_list (K := K) (a := D) (xs := zf) (fun i Hm => Same Hl Hm ∧ Hm D6 = some (.lst (((fs.map Prod.fst).take i).map V.str))) ⟨same_new hD6, upd_same⟩ (fun i Hm _ h => SqL.of ((sGl.trans h.1) _ _ f1')) ?_ ?_⟩
      · rintro i y Hm hy ⟨sm, em⟩
        obtain ⟨d', ed', hd'⟩ := dpAll_val (drAll_dp (K := K) f2') hy
        rw [List.getElem?_map] at ed'
        obtain ⟨f, ef, rfl⟩ := Option.map_eq_some_iff.mp ed'
        have hi := (List.getElem?_eq_some_iff.mp ef).1
        obtain ⟨pt, ts, rfl, t1', t2'⟩ := dp_tup hd'
        obtain ⟨x0, r', rfl, n0, t2'⟩ := dpAll_cons t2'
        obtain rfl := dp_str n0
        refine ⟨rfl, _, rfl, pt, _, _, _, rfl, rfl, sqT_sub (sGl.trans sm) t1', atI_nat (j := 0) rfl, _, em, ?_, same_set sm hD6, ?_⟩
        · rw [List.length_map, List.length_take, List.length_map]
          exact small1000 (by omega)
        · rw [upd_same, List.take_add_one, List.getElem?_map, ef, List.map_append]
          rfl
      rintro Hm ⟨sm, em⟩
      rw [lzf, ← List.length_map (f := Prod.fst) (as := fs), List.take_length] at em
      refine ⟨_, rfl, ?_⟩
      dsimp only [tNil]
      refine ⟨.ref t6, z, D4, D6, GC, pq, fs, o, rfl, sGC.trans sm, hPk.sub grC.sub, dp_sub grC.sub dlzk, em, hnd5, dp_sub grC.sub hd, hok o (List.mem_of_getElem? eo), fun Hn Gn x sn sGn grn dx => ?_⟩
      have eDn := sn _ _ (sm _ _ eD)
      have grn' := grn.back sm
      have gDn : Gn D5 = none := grn'.free gD (by rw [eD]; exact fun z => nomatch z)
      have lx := dpAll_len dxs
      rw [List.length_map, List.length_take] at lx
      refine ⟨_, eDn, small1000 (by omega), Gn, _, same_set ((sl.trans sm).trans sn) hD5, same_set sGn gDn, grC.then grn' sl, gDn, upd_same, ?_⟩
      rw [List.take_add_one, eo, List.map_append]
      exact dpAll_app (dpAll_sub grn.sub dxs) (.cons dx .nil)
    rintro Hl ⟨GC, xs5, sl, sGC, grC, gD5, eD5, dxs5⟩
    rw [lzo, List.take_length] at dxs5
    have mlay : Lay 3 (.list (os.map fun o => .tuple (mvL (coOp pq fs o)))) := Lay.lst fun d hd => by
      obtain ⟨o, ho, rfl⟩ := List.mem_map.mp hd
      exact mv_lay (hok o ho)
    refine ⟨_, _, dp_sub (sGk.trans sl) dmv, .lst (SqL.of eD5) (dpAll_sub sGC dxs5), mlay.shapedL (by decide), mlay.shapedL (by decide), _, rfl, ?_⟩
    rw [SeqAt.eqv_refl _ mlay.1]
    refine iteF ?_
    have Cl := Ck.same sl
    clear eD5 dxs5 gD5 grC sGC dlzk dlz dosj dpsj drj hPj dPj Cj grk sGk sk
    -- the state of the plain interpreter
    refine fun pd1 hpd1 => ⟨Nat.zero_le _, fun pv1 hpv1 => ?_⟩
    have Cm1 := (Cl.same (same_new (o := .dT []) hpd1)).same (same_new (o := .lst []) hpv1)
    have npd1 := Cl.st.neS hpd1
    have npv1 := (Cl.same (same_new (o := .dT []) hpd1)).st.neS hpv1
    have gpd1 : Gk pd1 = none := Cl.sub.free hpd1
    have gpv1 : Gk pv1 = none := (Cl.same (same_new (o := .dT []) hpd1)).sub.free hpv1
    have epd1 : (upd (upd Hl pd1 (.dT [])) pv1 (.lst [])) pd1 = some (.dT []) := (same_new (o := .lst []) hpv1) _ _ upd_same
    have epv1 : (upd (upd Hl pd1 (.dT [])) pv1 (.lst [])) pv1 = some (.lst []) := upd_same
    generalize upd (upd Hl pd1 (.dT [])) pv1 (.lst []) = Hm at Cm1 epd1 epv1 ⊢
    refine ⟨_, rfl, _, rfl, s, c, 8, rfl, Cm1.st, by decide, by decide, fun Hn rr rr0 rr1 stn kpn => ⟨(by show 2 ≤ sizeLine; decide), fun p7 hp7 => ?_⟩⟩
    have Cn1 := Cm1.kp kpn stn
    have n7 := Cn1.st.neS hp7
    have epd2 := kpn _ _ npd1.1 npd1.2 epd1
    have epv2 := kpn _ _ npv1.1 npv1.2 epv1
    refine ⟨s, c, p7, _, rfl, Cn1.st.new hp7, SqL.of upd_same, n7.1, n7.2, (by show 0 < 2; decide), (by show 2 ≤ 1000; decide), fun Ho i8 x8 hx8 st8 kp8 => ?_⟩
    have kq8 := (Kp.new hp7).trans kp8
    have Co := Cn1.kp kq8 st8
    have epd3 := kq8 _ _ npd1.1 npd1.2 epd2
    have epv3 := kq8 _ _ npv1.1 npv1.2 epv2
    obtain ⟨oo, hoo, rfl⟩ : ∃ oo : Option Nat, (∀ k, oo = some k → k < 8) ∧ x8 = outV oo := by
      match i8, hx8 with
      | 0, hx8 =>
        cases hx8
        exact ⟨none, (fun k e => by cases e), rfl⟩
      | 1, hx8 =>
        cases hx8
        refine ⟨some rr.toNat, (fun k e => by cases e; omega), ?_⟩
        show V.int rr = V.int ((rr.toNat : Nat) : Int)
        rw [Int.toNat_of_nonneg rr0]
      | k + 2, hx8 => cases hx8
    refine ⟨_, rfl, s, c, 8, rfl, Co.st, by decide, by decide, fun Hp' rp rp0 rp1 stp kpp => ⟨Nat.zero_le _, fun pz1 hpz1 => ⟨(by show 5 ≤ sizeLine; decide), fun pp1 hpp1 => ?_⟩⟩⟩
    obtain ⟨port, rfl⟩ : ∃ port : Nat, rp = (port : Int) := ⟨rp.toNat, by omega⟩
    have Cp := Co.kp kpp stp
    have epd4 := kpp _ _ npd1.1 npd1.2 epd3
    have epv4 := kpp _ _ npv1.1 npv1.2 epv3
    have npz1 := Cp.st.neS hpz1
    have gpz1 : Gk pz1 = none := Cp.sub.free hpz1
    have sz1 := same_new (o := .lst []) hpz1
    have Cq1 := Cp.same sz1
    have epz1 : (upd Hp' pz1 (.lst [])) pz1 = some (.lst []) := upd_same
    have epd5 := sz1 _ _ epd4
    have epv5 := sz1 _ _ epv4
    have nvz : pv1 ≠ pz1 := ne_of_none epv4 hpz1
    generalize upd Hp' pz1 (.lst []) = Hq at Cq1 epz1 epd5 epv5 hpp1 ⊢
    have npp1 := Cq1.st.neS hpp1
    have gpp1 : Gk pp1 = none := Cq1.sub.free hpp1
    have sp1 := same_new (o := .lst [.ref pd1, .ref pv1, outV oo, .int (port : Nat), .ref pz1]) hpp1
    have Cr := Cq1.same sp1
    obtain ⟨s0, hs0⟩ : ∃ s0 : Ms, s0 = ⟨fun _ _ => 0, [], oo⟩ := ⟨_, rfl⟩
    have hq0 : Pq (upd Hq pp1 (.lst [.ref pd1, .ref pv1, outV oo, .int (port : Nat), .ref pz1])) pq pp1 pd1 pv1 pz1 port s0 [] := by
      subst hs0
      exact ⟨upd_same, ⟨[], sp1 _ _ epd5, ⟨fun o n _ => rfl, List.nodup_nil, fun k hk => absurd hk List.not_mem_nil⟩⟩, sp1 _ _ epv5, sp1 _ _ epz1, (fun z => by rw [z, epv5] at hpp1; cases hpp1), (fun z => by rw [z, epz1] at hpp1; cases hpp1), nvz, List.nodup_nil, fun x hx => absurd hx List.not_mem_nil⟩
    have hg3 : ∀ b ∈ [pp1, pd1, pv1], Gk b = none := fun b hb => by
      rcases List.mem_cons.mp hb with rfl | hb
      · exact gpp1
      rcases List.mem_cons.mp hb with rfl | hb
      · exact gpd1
      · rw [List.mem_singleton.mp hb]; exact gpv1
    have hn3 : ∀ b ∈ [pp1, pd1, pv1], b ≠ s ∧ b ≠ c := fun b hb => by
      rcases List.mem_cons.mp hb with rfl | hb
      · exact npp1
      rcases List.mem_cons.mp hb with rfl | hb
      · exact npd1
      · rw [List.mem_singleton.mp hb]; exact npv1
    have hn4 : ∀ b ∈ [pp1, pd1, pv1, pz1], b ≠ s ∧ b ≠ c := fun b hb => by
      rcases List.mem_cons.mp hb with rfl | hb
      · exact npp1
      rcases List.mem_cons.mp hb with rfl | hb
      · exact npd1
      rcases List.mem_cons.mp hb with rfl | hb
      · exact npv1
      · rw [List.mem_singleton.mp hb]; exact npz1
    generalize upd Hq pp1 (.lst [.ref pd1, .ref pv1, outV oo, .int (port : Nat), .ref pz1]) = Hr at Cr hq0 ⊢
    clear Cl Cm1 Cn1 Co Cp Cq1 epd1 epd2 epd3 epd4 epd5 epv1 epv2 epv3 epv4 epv5 epz1 kq8 kp8 kpn kpp stn st8 stp hpd1 hpv1 hp7 hpz1 hpp1 sz1 sp1 n7 nvz
    have hpd3 : pd1 ∈ [pp1, pd1, pv1] := List.mem_cons_of_mem _ List.mem_cons_self
    have hpv3 : pv1 ∈ [pp1, pd1, pv1] := List.mem_cons_of_mem _ (List.mem_cons_of_mem _ List.mem_cons_self)
    obtain ⟨_, gt, egt, pt1, pt2⟩ := dp_tup hPk.D
    cases egt
    obtain ⟨xh, exh, hxh⟩ := dpAll_at pt2 (i := 2) (d := hdsD pq.hs) rfl
    obtain ⟨xm', exm, hxm⟩ := dpAll_at pt2 (i := 3) (d := flsD pq.m) rfl
    obtain ⟨ph, hs', rfl, h1, h2⟩ := dp_lst hxh
    obtain ⟨pm, ms, rfl, m1, m2⟩ := dp_lst hxm
    have lh := dpAll_len h2
    have lm := dpAll_len m2
    rw [List.length_map] at lh lm
    have wrf := refs_le hwf
    -- a draw for a field's value and its store
    have store : ∀ {Hx : Hp} {s1 : Ms} {o n : Str} {wd : Nat} {t : Addr} {v : Nat}, Sg Gk Hx s c → Pq Hx pq pp1 pd1 pv1 pz1 port s1 [] → (o, n, wd) ∈ refsOf pq.hs pq.m → Hx t = some (.tup [.str o, .str n]) → ∃ kvs, Hx pd1 = some (.dT kvs) ∧ DPut Hx pd1 (.ref t) (.int (v : Nat)) (upd Hx pd1 (.dT (putK kvs (keyX o n) (.int (v : Nat))))) ∧ Sg Gk (upd Hx pd1 (.dT (putK kvs (keyX o n) (.int (v : Nat))))) s c ∧ Pq (upd Hx pd1 (.dT (putK kvs (keyX o n) (.int (v : Nat))))) pq pp1 pd1 pv1 pz1 port { s1 with F := putF s1.F o n v } [] := fun {Hx s1 o n wd t v} Cx hx hr' et => by
      obtain ⟨kvs, ed, df⟩ := hx.d
      have hl := df.len
      exact ⟨kvs, ed, DPut.t (k := keyX o n) ed et (small1000 (by omega)), Cx.set gpd1 npd1, hx.setD (df.put hr' v)⟩
    -- the headers
    refine ⟨_, rfl, t6, _, _, _, rfl, rfl, sqT_sub Cr.sub pt1, atI_nat (j := 2) exh, ph, rfl, ⟨_, sqL_sub Cr.sub h1⟩, for_list (K := K) (a := ph) (xs := hs') (fun i σ Ha => ∃ (s1 : Ms) (o9 o15 o16 : Option V), σ = [some (.ref a), some (.ref s), some (.ref t6), none, some (.ref D), some (.ref pr), some (.ref D2), some (.ref prw), none, o9, some (.ref D4), some xm, none, none, some (.ref pp1), o15, o16, none, none, none, none, none] ∧ Sg Gk Ha s c ∧ Pq Ha pq pp1 pd1 pv1 pz1 port s1 [] ∧ s1.out = oo ∧ ∀ x ∈ s1.vs, ∃ h ∈ pq.hs.take i, h.1 = x) ⟨s0, none, none, none, rfl, Cr, hq0, by rw [hs0], by rw [hs0]; exact fun x hx => absurd hx List.not_mem_nil⟩ (fun i σ Ha _ h => by
      obtain ⟨s1, o9, o15, o16, _, k, _⟩ := h
      exact sqL_sub k.sub h1) ?_ ?_⟩
    · rintro i y σ Ha hy ⟨s1, o9, o15, o16, rfl, Ca, hqa, hout, hvs⟩
      obtain ⟨d, ed, hd⟩ := dpAll_val h2 hy
      rw [List.getElem?_map] at ed
      obtain ⟨h, eh, rfl⟩ := Option.map_eq_some_iff.mp ed
      have hh := List.mem_of_getElem? eh
      obtain ⟨pt, ts, rfl, u1, u2⟩ := dp_tup hd
      obtain ⟨w0, r', rfl, n0, u2⟩ := dpAll_cons u2
      obtain ⟨w1, r', rfl, n1, u2⟩ := dpAll_cons u2
      obtain ⟨w2, r', rfl, n2', u2⟩ := dpAll_cons u2
      obtain rfl := dpAll_nil u2
      obtain rfl := dp_str n1
      obtain ⟨pf, ff, rfl, v1, v2⟩ := dp_lst n2'
      have lff := dpAll_len v2
      rw [List.length_map] at lff
      refine ⟨_, rfl, s, c, 3, rfl, Ca.st, by decide, by decide, fun Hb rb rb0 rb1 stb kpb => ?_⟩
      have Cb := Ca.kp kpb stb
      have hqb := hqa.kp kpb hn4
      refine ⟨_, _, rfl, rfl, _, rfl, ?_⟩
      refine iteD (fun _ => ?_) fun _ => ?_
      · have hnew : h.1 ∉ s1.vs := fun z => by
          obtain ⟨h', hh', e⟩ := hvs _ z
          exact ahead_ne hwf.wh hwf.h6 eh hh' e
        have l6 := hqb.len hwf
        refine ⟨_, rfl, pp1, _, _, _, rfl, rfl, SqL.of hqb.e, atI_nat (j := 1) rfl, .inl ⟨rfl, _, SqL.of hqb.v⟩, _, rfl, pt, _, _, _, rfl, rfl, sqT_sub Cb.sub u1, atI_nat (j := 1) rfl, pv1, _, _, rfl, rfl, hqb.v, by rw [List.length_map]; exact small1000 (by omega), ?_⟩
        have Cc := Cb.set (o := .lst ((s1.vs.map V.str) ++ [.str h.1])) gpv1 npv1
        have hqc := hqb.setV (vs := s1.vs ++ [h.1]) (List.nodup_append.mpr ⟨hqb.vn, List.nodup_cons.mpr ⟨List.not_mem_nil, List.nodup_nil⟩, fun a' ha b hb e => hnew (by rw [← List.mem_singleton.mp hb, ← e]; exact ha)⟩) (fun x hx => by
          rcases List.mem_append.mp hx with hx | hx
          · exact hqb.vh x hx
          · exact ⟨h, hh, (List.mem_singleton.mp hx).symm⟩)
        rw [List.map_append] at hqc
        change Pq (upd Hb pv1 (.lst ((s1.vs.map V.str) ++ [.str h.1]))) _ _ _ _ _ _ _ _ at hqc
        generalize upd Hb pv1 (.lst ((s1.vs.map V.str) ++ [.str h.1])) = Hc at Cc hqc ⊢
        have hvs' : ∀ x ∈ s1.vs ++ [h.1], ∃ h' ∈ pq.hs.take (i + 1), h'.1 = x := fun x hx => by
          rw [List.take_add_one, eh]
          rcases List.mem_append.mp hx with hx | hx
          · obtain ⟨h', hh', e⟩ := hvs x hx
            exact ⟨h', List.mem_append_left _ hh', e⟩
          · exact ⟨h, List.mem_append_right _ List.mem_cons_self, (List.mem_singleton.mp hx).symm⟩
        refine ⟨_, rfl, pt, _, _, _, rfl, rfl, sqT_sub Cc.sub u1, atI_nat (j := 2) rfl, pf, rfl, ⟨_, sqL_sub Cc.sub v1⟩, for_list (K := K) (a := pf) (xs := ff) (fun j σ Hd => ∃ (s2 : Ms) (o9 o16 : Option V), σ = [some (.ref a), some (.ref s), some (.ref t6), none, some (.ref D), some (.ref pr), some (.ref D2), some (.ref prw), none, o9, some (.ref D4), some xm, none, none, some (.ref pp1), some (.ref pt), o16, none, none, none, none, none] ∧ Sg Gk Hd s c ∧ Pq Hd pq pp1 pd1 pv1 pz1 port s2 [] ∧ s2.out = oo ∧ s2.vs = s1.vs ++ [h.1]) ⟨_, o9, o16, rfl, Cc, hqc, hout, rfl⟩ (fun j σ Hd _ hh => by
          obtain ⟨s2, o9, o16, _, k, _⟩ := hh
          exact sqL_sub k.sub v1) ?_ ?_⟩
        · rintro j z σ Hd hz ⟨s2, o9, o16, rfl, Cd, hqd, hout2, hvs2⟩
          obtain ⟨d', ed', hd'⟩ := dpAll_val v2 hz
          rw [List.getElem?_map] at ed'
          obtain ⟨f, ef, rfl⟩ := Option.map_eq_some_iff.mp ed'
          obtain ⟨pu, us, rfl, x1, x2⟩ := dp_tup hd'
          obtain ⟨y0, r', rfl, k0, x2⟩ := dpAll_cons x2
          obtain ⟨y1, r', rfl, k1', x2⟩ := dpAll_cons x2
          obtain rfl := dpAll_nil x2
          obtain rfl := dp_str k0
          obtain rfl := dp_int k1'
          have hr' := fld_ref hwf.wh hwf.h6 hwf.wm hh (List.mem_of_getElem? ef)
          have hw32 : f.2 ≤ 32 := (refs_sx hwf.wh hwf.h6 hwf.wm _ hr').2.2
          have hpow : (0 : Int) < 2 ^ f.2 ∧ (2 : Int) ^ f.2 ≤ 1099511627776 := pow32' hw32
          refine ⟨pu, _, rfl, sqT_sub Cd.sub x1, rfl, _, _, rfl, _, _, rfl, rfl, ?_⟩
          refine ⟨_, rfl, _, rfl, _, _, rfl, rfl, ⟨show 0 ≤ ((f.2 : Nat) : Int) by omega, show ((f.2 : Nat) : Int) ≤ 1000000 by omega, by decide +kernel⟩, ?_⟩
          dsimp only [tNil]
          rw [Int.toNat_natCast, Int.one_mul]
          refine ⟨s, c, 2 ^ f.2, rfl, Cd.st, hpow.1, hpow.2, fun He re re0 re1 ste kpe => ?_⟩
          have Ce := Cd.kp kpe ste
          have hqe := hqd.kp kpe hn4
          obtain ⟨rv, rfl⟩ : ∃ rv : Nat, re = (rv : Int) := ⟨re.toNat, by omega⟩
          refine ⟨_, rfl, pp1, _, _, _, rfl, rfl, SqL.of hqe.e, atI_nat (j := 0) rfl, _, rfl, pt, _, _, _, rfl, rfl, sqT_sub Ce.sub u1, atI_nat (j := 1) rfl, _, rfl, (by show 2 ≤ sizeLine; decide), fun t ht => ?_⟩
          have sf := same_new (o := .tup [V.str h.1, .str f.1]) ht
          have et : (upd He t (.tup [V.str h.1, .str f.1])) t = some (.tup [.str h.1, .str f.1]) := upd_same
          generalize upd He t (.tup [V.str h.1, .str f.1]) = Hf at sf et ⊢
          obtain ⟨kvs, z1, z2, z3, z4⟩ := store (v := rv) (Ce.same sf) (hqe.same sf) hr' et
          exact ⟨pd1, _, rfl, z2, _, _, _, rfl, z3, z4, hout2, hvs2⟩
        · rintro σ Hd ⟨s2, o9, o16, rfl, Cd, hqd, hout2, hvs2⟩
          exact ⟨s2, _, _, _, rfl, Cd, hqd, hout2, by rw [hvs2]; exact hvs'⟩
      · refine ⟨s1, _, _, _, rfl, Cb, hqb, hout, fun x hx => ?_⟩
        obtain ⟨h', hh', e⟩ := hvs x hx
        exact ⟨h', by rw [List.take_add_one]; exact List.mem_append_left _ hh', e⟩
    rintro σ Ha ⟨s1, o9, o15, o16, rfl, Ca, hqa, hout, hvs⟩
    clear hvs Cr hq0 hs0
    -- the meta fields
    refine ⟨_, rfl, t6, _, _, _, rfl, rfl, sqT_sub Ca.sub pt1, atI_nat (j := 3) exm, pm, rfl, ⟨_, sqL_sub Ca.sub m1⟩, for_list (K := K) (a := pm) (xs := ms) (fun j σ Hd => ∃ (s2 : Ms) (o9 o16 : Option V), σ = [some (.ref a), some (.ref s), some (.ref t6), none, some (.ref D), some (.ref pr), some (.ref D2), some (.ref prw), none, o9, some (.ref D4), some xm, none, none, some (.ref pp1), o15, o16, none, none, none, none, none] ∧ Sg Gk Hd s c ∧ Pq Hd pq pp1 pd1 pv1 pz1 port s2 []) ⟨_, o9, o16, rfl, Ca, hqa⟩ (fun j σ Hd _ hh => by
      obtain ⟨s2, o9, o16, _, k, _⟩ := hh
      exact sqL_sub k.sub m1) ?_ ?_⟩
    · rintro j z σ Hd hz ⟨s2, o9, o16, rfl, Cd, hqd⟩
      obtain ⟨d', ed', hd'⟩ := dpAll_val m2 hz
      rw [List.getElem?_map] at ed'
      obtain ⟨f, ef, rfl⟩ := Option.map_eq_some_iff.mp ed'
      obtain ⟨pu, us, rfl, x1, x2⟩ := dp_tup hd'
      obtain ⟨y0, r', rfl, k0, x2⟩ := dpAll_cons x2
      obtain ⟨y1, r', rfl, k1', x2⟩ := dpAll_cons x2
      obtain rfl := dpAll_nil x2
      obtain rfl := dp_str k0
      obtain rfl := dp_int k1'
      have hr' : (Str.ofString "meta", f.1, f.2) ∈ refsOf pq.hs pq.m := List.mem_append_right _ (List.mem_map.mpr ⟨f, List.mem_of_getElem? ef, rfl⟩)
      have hw32 : f.2 ≤ 32 := (refs_sx hwf.wh hwf.h6 hwf.wm _ hr').2.2
      have hpow : (0 : Int) < 2 ^ f.2 ∧ (2 : Int) ^ f.2 ≤ 1099511627776 := pow32' hw32
      refine ⟨pu, _, rfl, sqT_sub Cd.sub x1, rfl, _, _, rfl, _, _, rfl, rfl, ?_⟩
      refine ⟨_, rfl, _, rfl, _, _, rfl, rfl, ⟨show 0 ≤ ((f.2 : Nat) : Int) by omega, show ((f.2 : Nat) : Int) ≤ 1000000 by omega, by decide +kernel⟩, ?_⟩
      dsimp only [tNil]
      rw [Int.toNat_natCast, Int.one_mul]
      refine ⟨s, c, 2 ^ f.2, rfl, Cd.st, hpow.1, hpow.2, fun He re re0 re1 ste kpe => ?_⟩
      have Ce := Cd.kp kpe ste
      have hqe := hqd.kp kpe hn4
      obtain ⟨rv, rfl⟩ : ∃ rv : Nat, re = (rv : Int) := ⟨re.toNat, by omega⟩
      refine ⟨_, rfl, pp1, _, _, _, rfl, rfl, SqL.of hqe.e, atI_nat (j := 0) rfl, _, rfl, (by show 2 ≤ sizeLine; decide), fun t ht => ?_⟩
      have sf := same_new (o := .tup [V.str "meta", .str f.1]) ht
      have et : (upd He t (.tup [V.str "meta", .str f.1])) t = some (.tup [.str "meta", .str f.1]) := upd_same
      generalize upd He t (.tup [V.str "meta", .str f.1]) = Hf at sf et ⊢
      obtain ⟨kvs, z1, z2, z3, z4⟩ := store (v := rv) (Ce.same sf) (hqe.same sf) hr' et
      exact ⟨pd1, _, rfl, z2, _, _, _, rfl, z3, z4⟩
    rintro σ Hb ⟨s2, o9', o16', rfl, Cb, hqb⟩
    clear Ca hqa hout
    -- the arguments
    refine fun pn1 hpn1 => ?_
    have Cc := Cb.same (same_new (o := .dK []) hpn1)
    have hqc := hqb.same (same_new (o := .dK []) hpn1)
    have npn1 := Cb.st.neS hpn1
    have gpn1 : Gk pn1 = none := Cb.sub.free hpn1
    have epn1 : (upd Hb pn1 (.dK [])) pn1 = some (.dK []) := upd_same
    generalize upd Hb pn1 (.dK []) = Hc at Cc hqc epn1 ⊢
    refine ⟨Nat.zero_le _, fun pa1 hpa1 => ?_⟩
    have sd1 := same_new (o := .lst []) hpa1
    have Cd := Cc.same sd1
    have hqd := hqc.same sd1
    have npa1 := Cc.st.neS hpa1
    have gpa1 : Gk pa1 = none := Cc.sub.free hpa1
    have epa1 : (upd Hc pa1 (.lst [])) pa1 = some (.lst []) := upd_same
    have epn2 := sd1 _ _ epn1
    have npan : pn1 ≠ pa1 := ne_of_none epn1 hpa1
    have npa3 : pa1 ∉ [pp1, pd1, pv1, pz1] := fun z => by
      obtain ⟨kvs, e, _⟩ := hqc.d
      rcases List.mem_cons.mp z with rfl | z
      · rw [hqc.e] at hpa1; cases hpa1
      rcases List.mem_cons.mp z with rfl | z
      · rw [e] at hpa1; cases hpa1
      rcases List.mem_cons.mp z with rfl | z
      · rw [hqc.v] at hpa1; cases hpa1
      · rw [List.mem_singleton.mp z, hqc.z] at hpa1; cases hpa1
    have npn3 : pn1 ∉ [pp1, pd1, pv1, pz1] := fun z => by
      obtain ⟨kvs, e, _⟩ := hqc.d
      rcases List.mem_cons.mp z with rfl | z
      · rw [hqc.e] at epn1; cases epn1
      rcases List.mem_cons.mp z with rfl | z
      · rw [e] at epn1; cases epn1
      rcases List.mem_cons.mp z with rfl | z
      · rw [hqc.v] at epn1; cases epn1
      · rw [List.mem_singleton.mp z, hqc.z] at epn1; cases epn1
    have keep : ∀ {Hx : Hp} {s3 : Ms} {q : Addr} {o : HO}, q ∉ [pp1, pd1, pv1, pz1] → Pq Hx pq pp1 pd1 pv1 pz1 port s3 [] → Pq (upd Hx q o) pq pp1 pd1 pv1 pz1 port s3 [] := fun {Hx s3 q o} hq' hx => by
      obtain ⟨kvs, e, f⟩ := hx.d
      have ne : ∀ b ∈ [pp1, pd1, pv1, pz1], b ≠ q := fun b hb z => hq' (by rw [← z]; exact hb)
      exact ⟨by rw [upd_ne (ne _ List.mem_cons_self)]; exact hx.e, ⟨kvs, by rw [upd_ne (ne _ (List.mem_cons_of_mem _ List.mem_cons_self))]; exact e, f⟩, by rw [upd_ne (ne _ (List.mem_cons_of_mem _ (List.mem_cons_of_mem _ List.mem_cons_self)))]; exact hx.v, by rw [upd_ne (ne _ (List.mem_cons_of_mem _ (List.mem_cons_of_mem _ (List.mem_cons_of_mem _ List.mem_cons_self))))]; exact hx.z, hx.n1, hx.n2, hx.n3, hx.vn, hx.vh⟩
    generalize upd Hc pa1 (.lst []) = Hd at Cd hqd epa1 epn2 ⊢
    clear Cc hqc epn1 sd1 hpn1 hpa1 Cb hqb
    refine ⟨_, rfl, D, rfl, ⟨_, SqL.of (Cd.sub _ _ f1')⟩, for_list (K := K) (a := D) (xs := zf) (fun j σ He => ∃ (o9 o16 : Option V) (kn : List (L2.Key × V)) (ns : List Int), σ = [some (.ref a), some (.ref s), some (.ref t6), none, some (.ref D), some (.ref pr), some (.ref D2), some (.ref prw), none, o9, some (.ref D4), some xm, none, none, some (.ref pp1), o15, o16, some (.ref pn1), some (.ref pa1), none, none, none] ∧ Sg Gk He s c ∧ Pq He pq pp1 pd1 pv1 pz1 port s2 [] ∧ He pn1 = some (.dK kn) ∧ He pa1 = some (.lst (ns.map V.int)) ∧ ns.length = j ∧ kn.length ≤ j ∧ ∀ k f, k < j → fs[k]? = some f → ∃ v, ns[k]? = some v ∧ valV kn (.inr f.1) = some (.int v)) ⟨_, _, [], [], rfl, Cd, hqd, epn2, epa1, rfl, Nat.le_refl _, fun k f hk => by omega⟩ (fun j σ He _ hh => by
      obtain ⟨o9, o16, kn, ns, _, k, _⟩ := hh
      exact SqL.of (k.sub _ _ f1')) ?_ ?_⟩
    · rintro j z σ He hz ⟨o9, o16, kn, ns1, rfl, Ce, hqe, en, ea, ln, lkn, hval⟩
      obtain ⟨d', ed', hd'⟩ := dpAll_val (drAll_dp (K := K) f2') hz
      rw [List.getElem?_map] at ed'
      obtain ⟨f, ef, rfl⟩ := Option.map_eq_some_iff.mp ed'
      have hj := (List.getElem?_eq_some_iff.mp ef).1
      obtain ⟨pu, us, rfl, x1, x2⟩ := dp_tup hd'
      obtain ⟨y0, r', rfl, k0, x2⟩ := dpAll_cons x2
      obtain ⟨y1, r', rfl, k1', x2⟩ := dpAll_cons x2
      obtain rfl := dpAll_nil x2
      obtain rfl := dp_str k0
      obtain rfl := dp_int k1'
      have hw32 : f.2 ≤ 32 := (hnm j f ef).2.2
      have hpow : (0 : Int) < 2 ^ f.2 ∧ (2 : Int) ^ f.2 ≤ 1099511627776 := pow32' hw32
      refine ⟨pu, _, rfl, sqT_sub Ce.sub x1, rfl, _, _, rfl, _, _, rfl, rfl, ?_⟩
      refine ⟨_, rfl, .inl ⟨rfl, _, SqL.of ea⟩, _, rfl, _, rfl, _, _, rfl, rfl, ⟨show 0 ≤ ((f.2 : Nat) : Int) by omega, show ((f.2 : Nat) : Int) ≤ 1000000 by omega, by decide +kernel⟩, ?_⟩
      dsimp only [tNil]
      rw [Int.toNat_natCast, Int.one_mul]
      refine ⟨s, c, 2 ^ f.2, rfl, Ce.st, hpow.1, hpow.2, fun Hf re re0 re1 stf kpf => ?_⟩
      have Cf := Ce.kp kpf stf
      have hqf := hqe.kp kpf hn4
      have en2 := kpf _ _ npn1.1 npn1.2 en
      have ea2 := kpf _ _ npa1.1 npa1.2 ea
      refine ⟨pa1, _, _, rfl, rfl, ea2, small1000 (by rw [List.length_map]; omega), ?_⟩
      have Cg2 := Cf.set (o := .lst (ns1.map V.int ++ [.int re])) gpa1 npa1
      have hqg := keep (o := .lst (ns1.map V.int ++ [.int re])) npa3 hqf
      have en3 : (upd Hf pa1 (.lst (ns1.map V.int ++ [.int re]))) pn1 = some (.dK kn) := by rw [upd_ne npan]; exact en2
      have ea3 : (upd Hf pa1 (.lst (ns1.map V.int ++ [.int re]))) pa1 = some (.lst (ns1.map V.int ++ [.int re])) := upd_same
      generalize upd Hf pa1 (.lst (ns1.map V.int ++ [.int re])) = Hg2 at Cg2 hqg en3 ea3 ⊢
      refine ⟨_, rfl, _, rfl, pa1, _, _, _, rfl, rfl, SqL.of ea3, atI_last, _, rfl, _, rfl, pn1, _, rfl, DPut.k (k := .inr f.1) en3 (small1000 (by omega)), ?_⟩
      refine ⟨_, _, _, ns1 ++ [re], rfl, Cg2.set gpn1 npn1, keep npn3 hqg, upd_same, by rw [upd_ne (Ne.symm npan), List.map_append]; exact ea3, by rw [List.length_append, ln]; rfl, (by have := length_putK kn (Sum.inr f.1) (V.int re); omega), fun k g hk eg => ?_⟩
      rw [valV_put]
      by_cases hkj : k = j
      · subst hkj
        rw [ef] at eg
        cases eg
        refine ⟨re, ?_, by rw [if_pos rfl]⟩
        rw [List.getElem?_append_right (by omega), ln, Nat.sub_self]
        rfl
      · obtain ⟨v, hv1, hv2⟩ := hval k g (by omega) eg
        refine ⟨v, ?_, ?_⟩
        · rw [List.getElem?_append_left (by omega)]
          exact hv1
        · rw [if_neg fun z => hkj ?_]
          · exact hv2
          · have := nm_inj (hnm k g eg).1 (hnm j f ef).1 (by omega) (by omega) (Sum.inr.inj z)
            exact this
    rintro σ He ⟨o9x, o16x, kn, ns1, rfl, Ce, hqe, en, ea, ln, lkn, hval⟩
    rw [lzf] at ln hval
    have hargs : Nm He pn1 fs (argV (fs.map Prod.fst) ns1) := by
      refine ⟨⟨kn, en, fun x hx => ?_⟩⟩
      obtain ⟨f, hf, rfl⟩ := List.mem_map.mp hx
      obtain ⟨k, ek⟩ := List.mem_iff_getElem?.mp hf
      have hk := (List.getElem?_eq_some_iff.mp ek).1
      obtain ⟨v, hv1, hv2⟩ := hval k f hk ek
      rw [hv2]
      have e1 : (fs.map Prod.fst)[k]? = some f.1 := by rw [List.getElem?_map, ek]; rfl
      have := idx_nodup hnd5 e1
      show _ = some (V.int ((ns1[(fs.map Prod.fst).findIdx fun y => decide (y = f.1)]?).getD 0))
      rw [this, hv1]
      rfl
    clear hval Cd hqd epa1 epn2
    -- cells, given
    refine ⟨_, rfl, _, rfl, ?_⟩
    dsimp only [tNil]
    refine ⟨pp1, pd1, pv1, pz1, .ref prw, pq, port, s2, [], Gk, rfl, hqe, Ce.sub, hwf, drk, fun Hf qc sf nqc eqc => ?_⟩
    have Cf := Ce.same sf
    have hqf := hqe.same sf
    have nqc3 := nin3 (hqe.nin nqc)
    have npa4 := nin3 npa3
    have ea2 := sf _ _ ea
    have hargs2 := hargs.same sf
    refine ⟨_, rfl, qc, _, rfl, .inl (SqL.of eqc), fun l1' hl1' => ?_⟩
    have sg1 := same_new (o := .lst (natsV (cellsG pq port s2))) hl1'
    refine ⟨_, rfl, pa1, _, rfl, .inl (SqL.of (sg1 _ _ ea2)), fun l2' hl2' => ⟨(by show 2 ≤ sizeLine; decide), fun lg hlg => ?_⟩⟩
    have sg2 := same_new (o := .lst (ns1.map V.int)) hl2'
    have sg3 := same_new (o := .lst [V.ref l1', .ref l2']) hlg
    have sg := (sg1.trans sg2).trans sg3
    have nl1 := nin3 (hqf.nin hl1')
    have nl2 := nin3 ((hqf.same sg1).nin hl2')
    have nlg := nin3 (((hqf.same sg1).same sg2).nin hlg)
    have Cg3 := Cf.same sg
    have hqg := hqf.same sg
    have e1' := sg3 _ _ (sg2 _ _ (upd_same (H := Hf) (a := l1') (o := .lst (natsV (cellsG pq port s2)))))
    have e2' := sg3 _ _ (upd_same (H := upd Hf l1' (.lst (natsV (cellsG pq port s2)))) (a := l2') (o := .lst (ns1.map V.int)))
    have eg' : (upd (upd (upd Hf l1' (.lst (natsV (cellsG pq port s2)))) l2' (.lst (ns1.map V.int))) lg (.lst [V.ref l1', .ref l2'])) lg = some (.lst [V.ref l1', .ref l2']) := upd_same
    have eqc' := sg _ _ eqc
    have ea3 := sg _ _ ea2
    have hargs3 := hargs2.same sg
    generalize upd (upd (upd Hf l1' (.lst (natsV (cellsG pq port s2)))) l2' (.lst (ns1.map V.int))) lg (.lst [V.ref l1', .ref l2']) = Hg3 at Cg3 hqg e1' e2' eg' eqc' ea3 hargs3 ⊢
    clear sg sg1 sg2 sg3 hl1' hl2' hlg Cf hqf ea2 hargs2 hargs Ce hqe ea en sf nqc eqc
    -- told
    refine ⟨_, rfl, _, rfl, lg, _, _, _, rfl, rfl, SqL.of eg', atI_nat (j := 0) rfl, _, rfl, lg, _, _, _, rfl, rfl, SqL.of eg', atI_nat (j := 1) rfl, ?_⟩
    dsimp only [tNil]
    refine ⟨xm, l1', l2', Gk, pq, port, s2, fs, ns1, os, rfl, Cg3.sub, hwf, dmvl, hok, ⟨SqL.of e1', SqL.of e2', ln⟩, hqg.vn, fun Hh2 qt sh2 nqt eqt => ?_⟩
    have Ch2 := Cg3.same sh2
    have hqh := hqg.same sh2
    have e1h := sh2 _ _ e1'
    have e2h := sh2 _ _ e2'
    have egh := sh2 _ _ eg'
    have eqch := sh2 _ _ eqc'
    have eah := sh2 _ _ ea3
    have hargsh := hargs3.same sh2
    have nqt3 := nin3 (hqg.nin nqt)
    clear Cg3 hqg e1' e2' eg' eqc' ea3 hargs3 sh2 nqt
    obtain ⟨A', hA'⟩ : ∃ A', A' = argV (fs.map Prod.fst) ns1 := ⟨_, rfl⟩
    rw [← hA'] at eqt hargsh
    obtain ⟨St, hSt⟩ : ∃ St : Nat → Ms, St = fun i => (os.take i).foldl (perf port pq.W A') s2 := ⟨_, rfl⟩
    have hStep : ∀ i o, os[i]? = some o → St (i + 1) = perf port pq.W A' (St i) o := fun i o e => by
      rw [hSt]
      dsimp only
      rw [List.take_add_one, e]
      show List.foldl _ _ _ = _
      rw [List.foldl_append]
      rfl
    have hSt0 : St 0 = s2 := by rw [hSt]; rfl
    have hStN : St os.length = os.foldl (perf port pq.W A') s2 := by rw [hSt]; dsimp only; rw [List.take_length]
    rw [← hStN] at eqt
    clear hStN
    refine ⟨_, rfl, D2, rfl, ⟨_, SqL.of (Ch2.sub _ _ o1)⟩, for_list (K := K) (a := D2) (xs := zo) (fun i σ Hx => ∃ (o12 : Option V), σ = [some (.ref a), some (.ref s), some (.ref t6), none, some (.ref D), some (.ref pr), some (.ref D2), some (.ref prw), none, o9x, some (.ref D4), some xm, o12, none, some (.ref pp1), o15, o16x, some (.ref pn1), some (.ref pa1), some (.ref qc), some (.ref lg), some (.ref qt)] ∧ Sg Gk Hx s c ∧ Pq Hx pq pp1 pd1 pv1 pz1 port (St i) [] ∧ Nm Hx pn1 fs A' ∧ Hx l1' = some (.lst (natsV (cellsG pq port s2))) ∧ Hx l2' = some (.lst (ns1.map V.int)) ∧ Hx lg = some (.lst [V.ref l1', .ref l2']) ∧ Hx qc = some (.lst (natsV (cellsG pq port s2))) ∧ Hx pa1 = some (.lst (ns1.map V.int)) ∧ Hx qt = some (.lst (natsV (cellsG pq port (St os.length))))) ⟨none, rfl, Ch2, by rw [hSt0]; exact hqh, hargsh, e1h, e2h, egh, eqch, eah, eqt⟩ (fun i σ Hx _ h => by
      obtain ⟨o12, _, k, _⟩ := h
      exact SqL.of (k.sub _ _ o1)) ?_ ?_⟩
    · rintro i y σ Hx hy ⟨o12, rfl, Cx, hqx, hnx, x1, x2, x3, x4, x5, x6⟩
      obtain ⟨d, ed, hd⟩ := drAll_val o2 hy
      rw [List.getElem?_map] at ed
      obtain ⟨o, eo, rfl⟩ := Option.map_eq_some_iff.mp ed
      refine ⟨_, rfl, _, rfl, _, rfl, _, rfl, ?_⟩
      dsimp only [tNil]
      refine ⟨.ref t6, y, pp1, pd1, pv1, pz1, pn1, pq, port, St i, [], Gk, fs, A', o, rfl, hqx, Cx.sub, hPk, hd, hok o (List.mem_of_getElem? eo), hnx, hg3, fun Hy cy hqy => ?_⟩
      rw [← hStep i o eo] at hqy
      exact ⟨_, rfl, Cx.cg cy hg3 hn3, hqy, hnx.cg hqx cy, cy _ _ nl1 x1, cy _ _ nl2 x2, cy _ _ nlg x3, cy _ _ nqc3 x4, cy _ _ npa4 x5, cy _ _ nqt3 x6⟩
    rintro σ Hx ⟨o12, rfl, Cx, hqx, hnx, x1, x2, x3, x4, x5, x6⟩
    rw [lzo] at hqx
    refine ⟨_, rfl, _, _, _, _, true, rfl, .ty _, .base (.lst x6), kit_ty (by decide +kernel), _, rfl, iteT ?_⟩
    refine ⟨_, rfl, _, rfl, _, rfl, ?_⟩
    dsimp only [tNil]
    refine ⟨pp1, pd1, pv1, pz1, .ref prw, pq, port, St os.length, [], Gk, rfl, hqx, Cx.sub, hwf, drk, fun Hy qs sy nqs eqs => ?_⟩
    have nl := nats_lay (cellsG pq port (St os.length))
    have il := ints_lay ns1
    refine ⟨natsD (cellsG pq port (St os.length)), natsD (cellsG pq port (St os.length)), dp_nats (sy _ _ x6), dp_nats eqs, nl.shapedL (by decide), nl.shapedL (by decide), ?_⟩
    rw [SeqAt.eqv_refl _ nl.1]
    refine ⟨_, rfl, iteT ?_⟩
    have nl2' := nats_lay (cellsG pq port s2)
    have gl : Lay 2 (.list [natsD (cellsG pq port s2), .list (ns1.map .int)]) := Lay.lst (Lay.cons nl2' (Lay.cons il Lay.nil))
    refine ⟨_, rfl, _, rfl, _, rfl, (by show 2 ≤ sizeLine; decide), fun lz1 hlz1 => ?_⟩
    have sz1 := same_new (o := .lst [V.ref qc, .ref pa1]) hlz1
    have sz2 := sy.trans sz1
    refine ⟨.list [natsD (cellsG pq port s2), .list (ns1.map .int)], .list [natsD (cellsG pq port s2), .list (ns1.map .int)], .lst (SqL.of (sz2 _ _ x3)) (.cons (dp_nats (sz2 _ _ x1)) (.cons (dp_ints (sz2 _ _ x2)) .nil)), .lst (SqL.of upd_same) (.cons (dp_nats (sz2 _ _ x4)) (.cons (dp_ints (sz2 _ _ x5)) .nil)), gl.shapedL (by decide), gl.shapedL (by decide), ?_⟩
    rw [SeqAt.eqv_refl _ gl.1]
    exact qq _
end
end Pk
set_option Elab.async false
set_option linter.all false
set_option maxRecDepth 100000
set_option maxHeartbeats 4000000
namespace Pk
open PySem PySem.Spec PyProof.Rows L2 SX GxR Tk
abbrev sActionsOf : Stmt := topS 9
theorem sc_actionsOf : FnScope ["program"] ["program"] (defScope sActionsOf) := ⟨rfl, rfl, rfl, by decide +kernel, rfl, by decide +kernel, by decide +kernel⟩
section
variable {P : Program} {w : World} {K : PySem.W.Frag} {mg : Str → Option Value} {base : Heap}
theorem ok_actionsOf {f : Addr} {fd : FuncData} {k : Nat} (F : Fun K "actions_of" "actions_of" sActionsOf f fd) : FnOk P w K mg base CX0 (k + 1) f fd ["program"] (spAcc K 5) := by
  refine F.ok sc_actionsOf (fun vs H Q E h => ?_) (fun cdv A outer s H vs Q E hr h => ?_)
  · obtain ⟨v, G, ds, d, rfl, _⟩ := h
    rfl
  · obtain ⟨v, G, ds, d, rfl, sG, hD, e, q⟩ := h
    obtain ⟨p, xs, rfl, h1, x, e1, e2, hq⟩ := acc13 sG hD e q
    refine ⟨_, pss_one (ps_ret (pe_ix ix_tup (pv 0) pe_int (fun _ _ => rfl))), _, rfl, p, _, _, _, rfl, rfl, h1, atI_nat (j := 5) e1, hq⟩
end
end Pk
set_option Elab.async false
set_option linter.all false
set_option maxRecDepth 100000
set_option maxHeartbeats 8000000
namespace Pk
open PySem PySem.Spec PyProof.Rows L2 SX GxR Tk
theorem at_of_name {K : PySem.W.Frag} {h : Heap} {mg : Str → Option Value} {x : Str} {st : Stmt} {ps : List Str} {f : Addr} {oc : Value} {od an : Option Addr} {osl : Array (Option Value)} {kV doc pm cdv ct : Value} (X : K.In h) (G : h.Ns mainGlobals mg)
    (a : PySem.W.nsIn K mainGlobals x = some (some (.ref f))) (l : K.lookup f = some ⟨oc, od, .func (PySem.W.fnOf x x (defArgs st) (defBody st) (defScope st) .none kV doc pm an cdv ct), osl⟩)
    (c : PySem.W.codeIn K cdv x = true) (k : PySem.W.keepIn K (.ref f) = true)
    (hb : ∀ (kV doc pm : Value) (an : Option Addr) (cdv ct : Value) (us : List Value), us.length = ps.length → bindArgs (PySem.W.fnOf x x (defArgs st) (defBody st) (defScope st) .none kV doc pm an cdv ct) ⟨us, []⟩ = pure (ps.zip us)) : AtD K mg x st ps :=
  ⟨f, _, fun_mk l c k, PySem.W.mg_of X G a, (fun_mk l c k).binds hb⟩
theorem Df.up {P : Program} {w : World} {K : PySem.W.Frag} {mg : Str → Option Value} {base : Heap} {CX : CXT} {j k : Nat} {x : Str} {ps : List Str} {sp : Sp} (D : Df P w K mg base CX j x ps sp) (h : j ≤ k) : Df P w K mg base CX k x ps sp := by
  obtain ⟨f, fd, g, a, b, c⟩ := D.ex
  exact ⟨f, fd, g.mono h, a, b, c⟩
theorem all_mk {P : Program} {w : World} {K : PySem.W.Frag} {h : Heap} {mg : Str → Option Value} {fa : Addr}
    {f0 : Addr} {oc0 : Value} {od0 an0 : Option Addr} {osl0 : Array (Option Value)} {kV0 doc0 pm0 cd0 ct0 : Value}
    {f1 : Addr} {oc1 : Value} {od1 an1 : Option Addr} {osl1 : Array (Option Value)} {kV1 doc1 pm1 cd1 ct1 : Value}
    {f2 : Addr} {oc2 : Value} {od2 an2 : Option Addr} {osl2 : Array (Option Value)} {kV2 doc2 pm2 cd2 ct2 : Value}
    {f3 : Addr} {oc3 : Value} {od3 an3 : Option Addr} {osl3 : Array (Option Value)} {kV3 doc3 pm3 cd3 ct3 : Value}
    {f4 : Addr} {oc4 : Value} {od4 an4 : Option Addr} {osl4 : Array (Option Value)} {kV4 doc4 pm4 cd4 ct4 : Value}
    {f5 : Addr} {oc5 : Value} {od5 an5 : Option Addr} {osl5 : Array (Option Value)} {kV5 doc5 pm5 cd5 ct5 : Value}
    {f6 : Addr} {oc6 : Value} {od6 an6 : Option Addr} {osl6 : Array (Option Value)} {kV6 doc6 pm6 cd6 ct6 : Value}
    {f7 : Addr} {oc7 : Value} {od7 an7 : Option Addr} {osl7 : Array (Option Value)} {kV7 doc7 pm7 cd7 ct7 : Value}
    {f8 : Addr} {oc8 : Value} {od8 an8 : Option Addr} {osl8 : Array (Option Value)} {kV8 doc8 pm8 cd8 ct8 : Value}
    {f9 : Addr} {oc9 : Value} {od9 an9 : Option Addr} {osl9 : Array (Option Value)} {kV9 doc9 pm9 cd9 ct9 : Value}
    {f10 : Addr} {oc10 : Value} {od10 an10 : Option Addr} {osl10 : Array (Option Value)} {kV10 doc10 pm10 cd10 ct10 : Value}
    {f11 : Addr} {oc11 : Value} {od11 an11 : Option Addr} {osl11 : Array (Option Value)} {kV11 doc11 pm11 cd11 ct11 : Value}
    {f12 : Addr} {oc12 : Value} {od12 an12 : Option Addr} {osl12 : Array (Option Value)} {kV12 doc12 pm12 cd12 ct12 : Value}
    {f13 : Addr} {oc13 : Value} {od13 an13 : Option Addr} {osl13 : Array (Option Value)} {kV13 doc13 pm13 cd13 ct13 : Value}
    {f14 : Addr} {oc14 : Value} {od14 an14 : Option Addr} {osl14 : Array (Option Value)} {kV14 doc14 pm14 cd14 ct14 : Value}
    {f15 : Addr} {oc15 : Value} {od15 an15 : Option Addr} {osl15 : Array (Option Value)} {kV15 doc15 pm15 cd15 ct15 : Value}
    {f16 : Addr} {oc16 : Value} {od16 an16 : Option Addr} {osl16 : Array (Option Value)} {kV16 doc16 pm16 cd16 ct16 : Value}
    {f17 : Addr} {oc17 : Value} {od17 an17 : Option Addr} {osl17 : Array (Option Value)} {kV17 doc17 pm17 cd17 ct17 : Value}
    {f18 : Addr} {oc18 : Value} {od18 an18 : Option Addr} {osl18 : Array (Option Value)} {kV18 doc18 pm18 cd18 ct18 : Value}
    {f19 : Addr} {oc19 : Value} {od19 an19 : Option Addr} {osl19 : Array (Option Value)} {kV19 doc19 pm19 cd19 ct19 : Value}
    {f20 : Addr} {oc20 : Value} {od20 an20 : Option Addr} {osl20 : Array (Option Value)} {kV20 doc20 pm20 cd20 ct20 : Value}
    {f21 : Addr} {oc21 : Value} {od21 an21 : Option Addr} {osl21 : Array (Option Value)} {kV21 doc21 pm21 cd21 ct21 : Value}
    {f22 : Addr} {oc22 : Value} {od22 an22 : Option Addr} {osl22 : Array (Option Value)} {kV22 doc22 pm22 cd22 ct22 : Value}
    {f23 : Addr} {oc23 : Value} {od23 an23 : Option Addr} {osl23 : Array (Option Value)} {kV23 doc23 pm23 cd23 ct23 : Value}
    {f24 : Addr} {oc24 : Value} {od24 an24 : Option Addr} {osl24 : Array (Option Value)} {kV24 doc24 pm24 cd24 ct24 : Value}
    {f25 : Addr} {oc25 : Value} {od25 an25 : Option Addr} {osl25 : Array (Option Value)} {kV25 doc25 pm25 cd25 ct25 : Value}
    {f26 : Addr} {oc26 : Value} {od26 an26 : Option Addr} {osl26 : Array (Option Value)} {kV26 doc26 pm26 cd26 ct26 : Value}
    {f27 : Addr} {oc27 : Value} {od27 an27 : Option Addr} {osl27 : Array (Option Value)} {kV27 doc27 pm27 cd27 ct27 : Value}
    {f28 : Addr} {oc28 : Value} {od28 an28 : Option Addr} {osl28 : Array (Option Value)} {kV28 doc28 pm28 cd28 ct28 : Value}
    {f29 : Addr} {oc29 : Value} {od29 an29 : Option Addr} {osl29 : Array (Option Value)} {kV29 doc29 pm29 cd29 ct29 : Value}
    {f30 : Addr} {oc30 : Value} {od30 an30 : Option Addr} {osl30 : Array (Option Value)} {kV30 doc30 pm30 cd30 ct30 : Value}
    {f31 : Addr} {oc31 : Value} {od31 an31 : Option Addr} {osl31 : Array (Option Value)} {kV31 doc31 pm31 cd31 ct31 : Value}
    {f32 : Addr} {oc32 : Value} {od32 an32 : Option Addr} {osl32 : Array (Option Value)} {kV32 doc32 pm32 cd32 ct32 : Value}
    {f33 : Addr} {oc33 : Value} {od33 an33 : Option Addr} {osl33 : Array (Option Value)} {kV33 doc33 pm33 cd33 ct33 : Value}
    {f34 : Addr} {oc34 : Value} {od34 an34 : Option Addr} {osl34 : Array (Option Value)} {kV34 doc34 pm34 cd34 ct34 : Value}
    {f35 : Addr} {oc35 : Value} {od35 an35 : Option Addr} {osl35 : Array (Option Value)} {kV35 doc35 pm35 cd35 ct35 : Value}
    {f36 : Addr} {oc36 : Value} {od36 an36 : Option Addr} {osl36 : Array (Option Value)} {kV36 doc36 pm36 cd36 ct36 : Value}
    {f37 : Addr} {oc37 : Value} {od37 an37 : Option Addr} {osl37 : Array (Option Value)} {kV37 doc37 pm37 cd37 ct37 : Value}
    {f38 : Addr} {oc38 : Value} {od38 an38 : Option Addr} {osl38 : Array (Option Value)} {kV38 doc38 pm38 cd38 ct38 : Value}
    {f39 : Addr} {oc39 : Value} {od39 an39 : Option Addr} {osl39 : Array (Option Value)} {kV39 doc39 pm39 cd39 ct39 : Value}
    {f40 : Addr} {oc40 : Value} {od40 an40 : Option Addr} {osl40 : Array (Option Value)} {kV40 doc40 pm40 cd40 ct40 : Value}
    {f41 : Addr} {oc41 : Value} {od41 an41 : Option Addr} {osl41 : Array (Option Value)} {kV41 doc41 pm41 cd41 ct41 : Value}
    {f42 : Addr} {oc42 : Value} {od42 an42 : Option Addr} {osl42 : Array (Option Value)} {kV42 doc42 pm42 cd42 ct42 : Value}
    {f43 : Addr} {oc43 : Value} {od43 an43 : Option Addr} {osl43 : Array (Option Value)} {kV43 doc43 pm43 cd43 ct43 : Value}
    {f44 : Addr} {oc44 : Value} {od44 an44 : Option Addr} {osl44 : Array (Option Value)} {kV44 doc44 pm44 cd44 ct44 : Value}
    {f45 : Addr} {oc45 : Value} {od45 an45 : Option Addr} {osl45 : Array (Option Value)} {kV45 doc45 pm45 cd45 ct45 : Value}
    {f46 : Addr} {oc46 : Value} {od46 an46 : Option Addr} {osl46 : Array (Option Value)} {kV46 doc46 pm46 cd46 ct46 : Value}
    {f47 : Addr} {oc47 : Value} {od47 an47 : Option Addr} {osl47 : Array (Option Value)} {kV47 doc47 pm47 cd47 ct47 : Value}
    {f48 : Addr} {oc48 : Value} {od48 an48 : Option Addr} {osl48 : Array (Option Value)} {kV48 doc48 pm48 cd48 ct48 : Value}
    {f49 : Addr} {oc49 : Value} {od49 an49 : Option Addr} {osl49 : Array (Option Value)} {kV49 doc49 pm49 cd49 ct49 : Value}
    {f50 : Addr} {oc50 : Value} {od50 an50 : Option Addr} {osl50 : Array (Option Value)} {kV50 doc50 pm50 cd50 ct50 : Value}
    {f51 : Addr} {oc51 : Value} {od51 an51 : Option Addr} {osl51 : Array (Option Value)} {kV51 doc51 pm51 cd51 ct51 : Value}
    {f52 : Addr} {oc52 : Value} {od52 an52 : Option Addr} {osl52 : Array (Option Value)} {kV52 doc52 pm52 cd52 ct52 : Value}
    {f53 : Addr} {oc53 : Value} {od53 an53 : Option Addr} {osl53 : Array (Option Value)} {kV53 doc53 pm53 cd53 ct53 : Value}
    {f54 : Addr} {oc54 : Value} {od54 an54 : Option Addr} {osl54 : Array (Option Value)} {kV54 doc54 pm54 cd54 ct54 : Value}
    {f55 : Addr} {oc55 : Value} {od55 an55 : Option Addr} {osl55 : Array (Option Value)} {kV55 doc55 pm55 cd55 ct55 : Value}
    {uPW : Value}
    {uOW : Value}
    {uNP : Value}
    {uUC : Value}
    {pPORT : Addr} {oPORT : Option Addr} {iPORT : Array Value} {nPORT : Nat} {sPORT : Array (Option Value)}
    {pOPS : Addr} {oOPS : Option Addr} {iOPS : Array Value} {nOPS : Nat} {sOPS : Array (Option Value)}
    {pNOTH : Addr} {oNOTH : Option Addr} {iNOTH : Array Value} {nNOTH : Nat} {sNOTH : Array (Option Value)}
    (X : K.In h) (G : h.Ns mainGlobals mg) (hfa : mg "law" = some (.ref fa))
    (a0 : PySem.W.nsIn K mainGlobals "ones" = some (some (.ref f0)))
    (l0 : K.lookup f0 = some ⟨oc0, od0, .func (PySem.W.fnOf "ones" "ones" (defArgs sOnes) (defBody sOnes) (defScope sOnes) .none kV0 doc0 pm0 an0 cd0 ct0), osl0⟩)
    (c0 : PySem.W.codeIn K cd0 "ones" = true)
    (k0 : PySem.W.keepIn K (.ref f0) = true)
    (a1 : PySem.W.nsIn K mainGlobals "compute" = some (some (.ref f1)))
    (l1 : K.lookup f1 = some ⟨oc1, od1, .func (PySem.W.fnOf "compute" "compute" (defArgs sCompute) (defBody sCompute) (defScope sCompute) .none kV1 doc1 pm1 an1 cd1 ct1), osl1⟩)
    (c1 : PySem.W.codeIn K cd1 "compute" = true)
    (k1 : PySem.W.keepIn K (.ref f1) = true)
    (a2 : PySem.W.nsIn K mainGlobals "headers_of" = some (some (.ref f2)))
    (l2 : K.lookup f2 = some ⟨oc2, od2, .func (PySem.W.fnOf "headers_of" "headers_of" (defArgs sHeadersOf) (defBody sHeadersOf) (defScope sHeadersOf) .none kV2 doc2 pm2 an2 cd2 ct2), osl2⟩)
    (c2 : PySem.W.codeIn K cd2 "headers_of" = true)
    (k2 : PySem.W.keepIn K (.ref f2) = true)
    (a3 : PySem.W.nsIn K mainGlobals "meta_of" = some (some (.ref f3)))
    (l3 : K.lookup f3 = some ⟨oc3, od3, .func (PySem.W.fnOf "meta_of" "meta_of" (defArgs sMetaOf) (defBody sMetaOf) (defScope sMetaOf) .none kV3 doc3 pm3 an3 cd3 ct3), osl3⟩)
    (c3 : PySem.W.codeIn K cd3 "meta_of" = true)
    (k3 : PySem.W.keepIn K (.ref f3) = true)
    (a4 : PySem.W.nsIn K mainGlobals "actions_of" = some (some (.ref f4)))
    (l4 : K.lookup f4 = some ⟨oc4, od4, .func (PySem.W.fnOf "actions_of" "actions_of" (defArgs sActionsOf) (defBody sActionsOf) (defScope sActionsOf) .none kV4 doc4 pm4 an4 cd4 ct4), osl4⟩)
    (c4 : PySem.W.codeIn K cd4 "actions_of" = true)
    (k4 : PySem.W.keepIn K (.ref f4) = true)
    (a5 : PySem.W.nsIn K mainGlobals "part_named" = some (some (.ref f5)))
    (l5 : K.lookup f5 = some ⟨oc5, od5, .func (PySem.W.fnOf "part_named" "part_named" (defArgs sPart) (defBody sPart) (defScope sPart) .none kV5 doc5 pm5 an5 cd5 ct5), osl5⟩)
    (c5 : PySem.W.codeIn K cd5 "part_named" = true)
    (k5 : PySem.W.keepIn K (.ref f5) = true)
    (a6 : PySem.W.nsIn K mainGlobals "fields_of" = some (some (.ref f6)))
    (l6 : K.lookup f6 = some ⟨oc6, od6, .func (PySem.W.fnOf "fields_of" "fields_of" (defArgs sFieldsOf) (defBody sFieldsOf) (defScope sFieldsOf) .none kV6 doc6 pm6 an6 cd6 ct6), osl6⟩)
    (c6 : PySem.W.codeIn K cd6 "fields_of" = true)
    (k6 : PySem.W.keepIn K (.ref f6) = true)
    (a7 : PySem.W.nsIn K mainGlobals "field_width" = some (some (.ref f7)))
    (l7 : K.lookup f7 = some ⟨oc7, od7, .func (PySem.W.fnOf "field_width" "field_width" (defArgs sFieldWidth) (defBody sFieldWidth) (defScope sFieldWidth) .none kV7 doc7 pm7 an7 cd7 ct7), osl7⟩)
    (c7 : PySem.W.codeIn K cd7 "field_width" = true)
    (k7 : PySem.W.keepIn K (.ref f7) = true)
    (a8 : PySem.W.nsIn K mainGlobals "operands_of" = some (some (.ref f8)))
    (l8 : K.lookup f8 = some ⟨oc8, od8, .func (PySem.W.fnOf "operands_of" "operands_of" (defArgs sOpsOf) (defBody sOpsOf) (defScope sOpsOf) .none kV8 doc8 pm8 an8 cd8 ct8), osl8⟩)
    (c8 : PySem.W.codeIn K cd8 "operands_of" = true)
    (k8 : PySem.W.keepIn K (.ref f8) = true)
    (a9 : PySem.W.nsIn K mainGlobals "cells_of" = some (some (.ref f9)))
    (l9 : K.lookup f9 = some ⟨oc9, od9, .func (PySem.W.fnOf "cells_of" "cells_of" (defArgs sCells) (defBody sCells) (defScope sCells) .none kV9 doc9 pm9 an9 cd9 ct9), osl9⟩)
    (c9 : PySem.W.codeIn K cd9 "cells_of" = true)
    (k9 : PySem.W.keepIn K (.ref f9) = true)
    (a10 : PySem.W.nsIn K mainGlobals "index_of" = some (some (.ref f10)))
    (l10 : K.lookup f10 = some ⟨oc10, od10, .func (PySem.W.fnOf "index_of" "index_of" (defArgs sIndex) (defBody sIndex) (defScope sIndex) .none kV10 doc10 pm10 an10 cd10 ct10), osl10⟩)
    (c10 : PySem.W.codeIn K cd10 "index_of" = true)
    (k10 : PySem.W.keepIn K (.ref f10) = true)
    (a11 : PySem.W.nsIn K mainGlobals "cell_of" = some (some (.ref f11)))
    (l11 : K.lookup f11 = some ⟨oc11, od11, .func (PySem.W.fnOf "cell_of" "cell_of" (defArgs sCellOf) (defBody sCellOf) (defScope sCellOf) .none kV11 doc11 pm11 an11 cd11 ct11), osl11⟩)
    (c11 : PySem.W.codeIn K cd11 "cell_of" = true)
    (k11 : PySem.W.keepIn K (.ref f11) = true)
    (a12 : PySem.W.nsIn K mainGlobals "valid_cell" = some (some (.ref f12)))
    (l12 : K.lookup f12 = some ⟨oc12, od12, .func (PySem.W.fnOf "valid_cell" "valid_cell" (defArgs sValidCell) (defBody sValidCell) (defScope sValidCell) .none kV12 doc12 pm12 an12 cd12 ct12), osl12⟩)
    (c12 : PySem.W.codeIn K cd12 "valid_cell" = true)
    (k12 : PySem.W.keepIn K (.ref f12) = true)
    (a13 : PySem.W.nsIn K mainGlobals "header_cells" = some (some (.ref f13)))
    (l13 : K.lookup f13 = some ⟨oc13, od13, .func (PySem.W.fnOf "header_cells" "header_cells" (defArgs sHeaderCells) (defBody sHeaderCells) (defScope sHeaderCells) .none kV13 doc13 pm13 an13 cd13 ct13), osl13⟩)
    (c13 : PySem.W.codeIn K cd13 "header_cells" = true)
    (k13 : PySem.W.keepIn K (.ref f13) = true)
    (a14 : PySem.W.nsIn K mainGlobals "width_of" = some (some (.ref f14)))
    (l14 : K.lookup f14 = some ⟨oc14, od14, .func (PySem.W.fnOf "width_of" "width_of" (defArgs sWidthOf) (defBody sWidthOf) (defScope sWidthOf) .none kV14 doc14 pm14 an14 cd14 ct14), osl14⟩)
    (c14 : PySem.W.codeIn K cd14 "width_of" = true)
    (k14 : PySem.W.keepIn K (.ref f14) = true)
    (a15 : PySem.W.nsIn K mainGlobals "compile_action" = some (some (.ref f15)))
    (l15 : K.lookup f15 = some ⟨oc15, od15, .func (PySem.W.fnOf "compile_action" "compile_action" (defArgs sCoAct) (defBody sCoAct) (defScope sCoAct) .none kV15 doc15 pm15 an15 cd15 ct15), osl15⟩)
    (c15 : PySem.W.codeIn K cd15 "compile_action" = true)
    (k15 : PySem.W.keepIn K (.ref f15) = true)
    (a16 : PySem.W.nsIn K mainGlobals "compile_operation" = some (some (.ref f16)))
    (l16 : K.lookup f16 = some ⟨oc16, od16, .func (PySem.W.fnOf "compile_operation" "compile_operation" (defArgs sCoOp) (defBody sCoOp) (defScope sCoOp) .none kV16 doc16 pm16 an16 cd16 ct16), osl16⟩)
    (c16 : PySem.W.codeIn K cd16 "compile_operation" = true)
    (k16 : PySem.W.keepIn K (.ref f16) = true)
    (a17 : PySem.W.nsIn K mainGlobals "compile_set" = some (some (.ref f17)))
    (l17 : K.lookup f17 = some ⟨oc17, od17, .func (PySem.W.fnOf "compile_set" "compile_set" (defArgs sCoSet) (defBody sCoSet) (defScope sCoSet) .none kV17 doc17 pm17 an17 cd17 ct17), osl17⟩)
    (c17 : PySem.W.codeIn K cd17 "compile_set" = true)
    (k17 : PySem.W.keepIn K (.ref f17) = true)
    (a18 : PySem.W.nsIn K mainGlobals "compile_expression" = some (some (.ref f18)))
    (l18 : K.lookup f18 = some ⟨oc18, od18, .func (PySem.W.fnOf "compile_expression" "compile_expression" (defArgs sCoEx) (defBody sCoEx) (defScope sCoEx) .none kV18 doc18 pm18 an18 cd18 ct18), osl18⟩)
    (c18 : PySem.W.codeIn K cd18 "compile_expression" = true)
    (k18 : PySem.W.keepIn K (.ref f18) = true)
    (a19 : PySem.W.nsIn K mainGlobals "compile_operand" = some (some (.ref f19)))
    (l19 : K.lookup f19 = some ⟨oc19, od19, .func (PySem.W.fnOf "compile_operand" "compile_operand" (defArgs sCoOd) (defBody sCoOd) (defScope sCoOd) .none kV19 doc19 pm19 an19 cd19 ct19), osl19⟩)
    (c19 : PySem.W.codeIn K cd19 "compile_operand" = true)
    (k19 : PySem.W.keepIn K (.ref f19) = true)
    (a20 : PySem.W.nsIn K mainGlobals "execute" = some (some (.ref f20)))
    (l20 : K.lookup f20 = some ⟨oc20, od20, .func (PySem.W.fnOf "execute" "execute" (defArgs sExec) (defBody sExec) (defScope sExec) .none kV20 doc20 pm20 an20 cd20 ct20), osl20⟩)
    (c20 : PySem.W.codeIn K cd20 "execute" = true)
    (k20 : PySem.W.keepIn K (.ref f20) = true)
    (a21 : PySem.W.nsIn K mainGlobals "changes_of" = some (some (.ref f21)))
    (l21 : K.lookup f21 = some ⟨oc21, od21, .func (PySem.W.fnOf "changes_of" "changes_of" (defArgs sChOf) (defBody sChOf) (defScope sChOf) .none kV21 doc21 pm21 an21 cd21 ct21), osl21⟩)
    (c21 : PySem.W.codeIn K cd21 "changes_of" = true)
    (k21 : PySem.W.keepIn K (.ref f21) = true)
    (a22 : PySem.W.nsIn K mainGlobals "put_changes" = some (some (.ref f22)))
    (l22 : K.lookup f22 = some ⟨oc22, od22, .func (PySem.W.fnOf "put_changes" "put_changes" (defArgs sPutCh) (defBody sPutCh) (defScope sPutCh) .none kV22 doc22 pm22 an22 cd22 ct22), osl22⟩)
    (c22 : PySem.W.codeIn K cd22 "put_changes" = true)
    (k22 : PySem.W.keepIn K (.ref f22) = true)
    (a23 : PySem.W.nsIn K mainGlobals "value_of" = some (some (.ref f23)))
    (l23 : K.lookup f23 = some ⟨oc23, od23, .func (PySem.W.fnOf "value_of" "value_of" (defArgs sValOf) (defBody sValOf) (defScope sValOf) .none kV23 doc23 pm23 an23 cd23 ct23), osl23⟩)
    (c23 : PySem.W.codeIn K cd23 "value_of" = true)
    (k23 : PySem.W.keepIn K (.ref f23) = true)
    (a24 : PySem.W.nsIn K mainGlobals "operand_value" = some (some (.ref f24)))
    (l24 : K.lookup f24 = some ⟨oc24, od24, .func (PySem.W.fnOf "operand_value" "operand_value" (defArgs sOdVal) (defBody sOdVal) (defScope sOdVal) .none kV24 doc24 pm24 an24 cd24 ct24), osl24⟩)
    (c24 : PySem.W.codeIn K cd24 "operand_value" = true)
    (k24 : PySem.W.keepIn K (.ref f24) = true)
    (a25 : PySem.W.nsIn K mainGlobals "_law_state" = some (some (.ref f25)))
    (l25 : K.lookup f25 = some ⟨oc25, od25, .func (PySem.W.fnOf "_law_state" "_law_state" (defArgs sState) (defBody sState) (defScope sState) .none kV25 doc25 pm25 an25 cd25 ct25), osl25⟩)
    (c25 : PySem.W.codeIn K cd25 "_law_state" = true)
    (k25 : PySem.W.keepIn K (.ref f25) = true)
    (a26 : PySem.W.nsIn K mainGlobals "_law_draw" = some (some (.ref f26)))
    (l26 : K.lookup f26 = some ⟨oc26, od26, .func (PySem.W.fnOf "_law_draw" "_law_draw" (defArgs sDraw) (defBody sDraw) (defScope sDraw) .none kV26 doc26 pm26 an26 cd26 ct26), osl26⟩)
    (c26 : PySem.W.codeIn K cd26 "_law_draw" = true)
    (k26 : PySem.W.keepIn K (.ref f26) = true)
    (a27 : PySem.W.nsIn K mainGlobals "_law_pick" = some (some (.ref f27)))
    (l27 : K.lookup f27 = some ⟨oc27, od27, .func (PySem.W.fnOf "_law_pick" "_law_pick" (defArgs sPick) (defBody sPick) (defScope sPick) .none kV27 doc27 pm27 an27 cd27 ct27), osl27⟩)
    (c27 : PySem.W.codeIn K cd27 "_law_pick" = true)
    (k27 : PySem.W.keepIn K (.ref f27) = true)
    (a28 : PySem.W.nsIn K mainGlobals "_law_name" = some (some (.ref f28)))
    (l28 : K.lookup f28 = some ⟨oc28, od28, .func (PySem.W.fnOf "_law_name" "_law_name" (defArgs sName) (defBody sName) (defScope sName) .none kV28 doc28 pm28 an28 cd28 ct28), osl28⟩)
    (c28 : PySem.W.codeIn K cd28 "_law_name" = true)
    (k28 : PySem.W.keepIn K (.ref f28) = true)
    (a29 : PySem.W.nsIn K mainGlobals "_law_fields" = some (some (.ref f29)))
    (l29 : K.lookup f29 = some ⟨oc29, od29, .func (PySem.W.fnOf "_law_fields" "_law_fields" (defArgs sFields) (defBody sFields) (defScope sFields) .none kV29 doc29 pm29 an29 cd29 ct29), osl29⟩)
    (c29 : PySem.W.codeIn K cd29 "_law_fields" = true)
    (k29 : PySem.W.keepIn K (.ref f29) = true)
    (a30 : PySem.W.nsIn K mainGlobals "_law_headers" = some (some (.ref f30)))
    (l30 : K.lookup f30 = some ⟨oc30, od30, .func (PySem.W.fnOf "_law_headers" "_law_headers" (defArgs sHds) (defBody sHds) (defScope sHds) .none kV30 doc30 pm30 an30 cd30 ct30), osl30⟩)
    (c30 : PySem.W.codeIn K cd30 "_law_headers" = true)
    (k30 : PySem.W.keepIn K (.ref f30) = true)
    (a31 : PySem.W.nsIn K mainGlobals "_law_refs" = some (some (.ref f31)))
    (l31 : K.lookup f31 = some ⟨oc31, od31, .func (PySem.W.fnOf "_law_refs" "_law_refs" (defArgs sRefs) (defBody sRefs) (defScope sRefs) .none kV31 doc31 pm31 an31 cd31 ct31), osl31⟩)
    (c31 : PySem.W.codeIn K cd31 "_law_refs" = true)
    (k31 : PySem.W.keepIn K (.ref f31) = true)
    (a32 : PySem.W.nsIn K mainGlobals "_law_goal" = some (some (.ref f32)))
    (l32 : K.lookup f32 = some ⟨oc32, od32, .func (PySem.W.fnOf "_law_goal" "_law_goal" (defArgs sGoal) (defBody sGoal) (defScope sGoal) .none kV32 doc32 pm32 an32 cd32 ct32), osl32⟩)
    (c32 : PySem.W.codeIn K cd32 "_law_goal" = true)
    (k32 : PySem.W.keepIn K (.ref f32) = true)
    (a33 : PySem.W.nsIn K mainGlobals "_law_select" = some (some (.ref f33)))
    (l33 : K.lookup f33 = some ⟨oc33, od33, .func (PySem.W.fnOf "_law_select" "_law_select" (defArgs sSelect) (defBody sSelect) (defScope sSelect) .none kV33 doc33 pm33 an33 cd33 ct33), osl33⟩)
    (c33 : PySem.W.codeIn K cd33 "_law_select" = true)
    (k33 : PySem.W.keepIn K (.ref f33) = true)
    (a34 : PySem.W.nsIn K mainGlobals "_law_states" = some (some (.ref f34)))
    (l34 : K.lookup f34 = some ⟨oc34, od34, .func (PySem.W.fnOf "_law_states" "_law_states" (defArgs sStates) (defBody sStates) (defScope sStates) .none kV34 doc34 pm34 an34 cd34 ct34), osl34⟩)
    (c34 : PySem.W.codeIn K cd34 "_law_states" = true)
    (k34 : PySem.W.keepIn K (.ref f34) = true)
    (a35 : PySem.W.nsIn K mainGlobals "_law_operand" = some (some (.ref f35)))
    (l35 : K.lookup f35 = some ⟨oc35, od35, .func (PySem.W.fnOf "_law_operand" "_law_operand" (defArgs sOperand) (defBody sOperand) (defScope sOperand) .none kV35 doc35 pm35 an35 cd35 ct35), osl35⟩)
    (c35 : PySem.W.codeIn K cd35 "_law_operand" = true)
    (k35 : PySem.W.keepIn K (.ref f35) = true)
    (a36 : PySem.W.nsIn K mainGlobals "_law_expression" = some (some (.ref f36)))
    (l36 : K.lookup f36 = some ⟨oc36, od36, .func (PySem.W.fnOf "_law_expression" "_law_expression" (defArgs sExpr) (defBody sExpr) (defScope sExpr) .none kV36 doc36 pm36 an36 cd36 ct36), osl36⟩)
    (c36 : PySem.W.codeIn K cd36 "_law_expression" = true)
    (k36 : PySem.W.keepIn K (.ref f36) = true)
    (a37 : PySem.W.nsIn K mainGlobals "_law_operation" = some (some (.ref f37)))
    (l37 : K.lookup f37 = some ⟨oc37, od37, .func (PySem.W.fnOf "_law_operation" "_law_operation" (defArgs sOper) (defBody sOper) (defScope sOper) .none kV37 doc37 pm37 an37 cd37 ct37), osl37⟩)
    (c37 : PySem.W.codeIn K cd37 "_law_operation" = true)
    (k37 : PySem.W.keepIn K (.ref f37) = true)
    (a38 : PySem.W.nsIn K mainGlobals "_law_actions" = some (some (.ref f38)))
    (l38 : K.lookup f38 = some ⟨oc38, od38, .func (PySem.W.fnOf "_law_actions" "_law_actions" (defArgs sActs) (defBody sActs) (defScope sActs) .none kV38 doc38 pm38 an38 cd38 ct38), osl38⟩)
    (c38 : PySem.W.codeIn K cd38 "_law_actions" = true)
    (k38 : PySem.W.keepIn K (.ref f38) = true)
    (a39 : PySem.W.nsIn K mainGlobals "_law_args" = some (some (.ref f39)))
    (l39 : K.lookup f39 = some ⟨oc39, od39, .func (PySem.W.fnOf "_law_args" "_law_args" (defArgs sArgs) (defBody sArgs) (defScope sArgs) .none kV39 doc39 pm39 an39 cd39 ct39), osl39⟩)
    (c39 : PySem.W.codeIn K cd39 "_law_args" = true)
    (k39 : PySem.W.keepIn K (.ref f39) = true)
    (a40 : PySem.W.nsIn K mainGlobals "_law_table" = some (some (.ref f40)))
    (l40 : K.lookup f40 = some ⟨oc40, od40, .func (PySem.W.fnOf "_law_table" "_law_table" (defArgs sTable) (defBody sTable) (defScope sTable) .none kV40 doc40 pm40 an40 cd40 ct40), osl40⟩)
    (c40 : PySem.W.codeIn K cd40 "_law_table" = true)
    (k40 : PySem.W.keepIn K (.ref f40) = true)
    (a41 : PySem.W.nsIn K mainGlobals "_law_test" = some (some (.ref f41)))
    (l41 : K.lookup f41 = some ⟨oc41, od41, .func (PySem.W.fnOf "_law_test" "_law_test" (defArgs sTest) (defBody sTest) (defScope sTest) .none kV41 doc41 pm41 an41 cd41 ct41), osl41⟩)
    (c41 : PySem.W.codeIn K cd41 "_law_test" = true)
    (k41 : PySem.W.keepIn K (.ref f41) = true)
    (a42 : PySem.W.nsIn K mainGlobals "_law_control" = some (some (.ref f42)))
    (l42 : K.lookup f42 = some ⟨oc42, od42, .func (PySem.W.fnOf "_law_control" "_law_control" (defArgs sCtl) (defBody sCtl) (defScope sCtl) .none kV42 doc42 pm42 an42 cd42 ct42), osl42⟩)
    (c42 : PySem.W.codeIn K cd42 "_law_control" = true)
    (k42 : PySem.W.keepIn K (.ref f42) = true)
    (a43 : PySem.W.nsIn K mainGlobals "_law_program" = some (some (.ref f43)))
    (l43 : K.lookup f43 = some ⟨oc43, od43, .func (PySem.W.fnOf "_law_program" "_law_program" (defArgs sProg) (defBody sProg) (defScope sProg) .none kV43 doc43 pm43 an43 cd43 ct43), osl43⟩)
    (c43 : PySem.W.codeIn K cd43 "_law_program" = true)
    (k43 : PySem.W.keepIn K (.ref f43) = true)
    (a44 : PySem.W.nsIn K mainGlobals "_law_width" = some (some (.ref f44)))
    (l44 : K.lookup f44 = some ⟨oc44, od44, .func (PySem.W.fnOf "_law_width" "_law_width" (defArgs sWidthL) (defBody sWidthL) (defScope sWidthL) .none kV44 doc44 pm44 an44 cd44 ct44), osl44⟩)
    (c44 : PySem.W.codeIn K cd44 "_law_width" = true)
    (k44 : PySem.W.keepIn K (.ref f44) = true)
    (a45 : PySem.W.nsIn K mainGlobals "_law_find" = some (some (.ref f45)))
    (l45 : K.lookup f45 = some ⟨oc45, od45, .func (PySem.W.fnOf "_law_find" "_law_find" (defArgs sFind) (defBody sFind) (defScope sFind) .none kV45 doc45 pm45 an45 cd45 ct45), osl45⟩)
    (c45 : PySem.W.codeIn K cd45 "_law_find" = true)
    (k45 : PySem.W.keepIn K (.ref f45) = true)
    (a46 : PySem.W.nsIn K mainGlobals "_law_value" = some (some (.ref f46)))
    (l46 : K.lookup f46 = some ⟨oc46, od46, .func (PySem.W.fnOf "_law_value" "_law_value" (defArgs sValueL) (defBody sValueL) (defScope sValueL) .none kV46 doc46 pm46 an46 cd46 ct46), osl46⟩)
    (c46 : PySem.W.codeIn K cd46 "_law_value" = true)
    (k46 : PySem.W.keepIn K (.ref f46) = true)
    (a47 : PySem.W.nsIn K mainGlobals "_law_operand_value" = some (some (.ref f47)))
    (l47 : K.lookup f47 = some ⟨oc47, od47, .func (PySem.W.fnOf "_law_operand_value" "_law_operand_value" (defArgs sOdValL) (defBody sOdValL) (defScope sOdValL) .none kV47 doc47 pm47 an47 cd47 ct47), osl47⟩)
    (c47 : PySem.W.codeIn K cd47 "_law_operand_value" = true)
    (k47 : PySem.W.keepIn K (.ref f47) = true)
    (a48 : PySem.W.nsIn K mainGlobals "_law_evaluate" = some (some (.ref f48)))
    (l48 : K.lookup f48 = some ⟨oc48, od48, .func (PySem.W.fnOf "_law_evaluate" "_law_evaluate" (defArgs sEvalL) (defBody sEvalL) (defScope sEvalL) .none kV48 doc48 pm48 an48 cd48 ct48), osl48⟩)
    (c48 : PySem.W.codeIn K cd48 "_law_evaluate" = true)
    (k48 : PySem.W.keepIn K (.ref f48) = true)
    (a49 : PySem.W.nsIn K mainGlobals "_law_zero" = some (some (.ref f49)))
    (l49 : K.lookup f49 = some ⟨oc49, od49, .func (PySem.W.fnOf "_law_zero" "_law_zero" (defArgs sZeroL) (defBody sZeroL) (defScope sZeroL) .none kV49 doc49 pm49 an49 cd49 ct49), osl49⟩)
    (c49 : PySem.W.codeIn K cd49 "_law_zero" = true)
    (k49 : PySem.W.keepIn K (.ref f49) = true)
    (a50 : PySem.W.nsIn K mainGlobals "_law_perform" = some (some (.ref f50)))
    (l50 : K.lookup f50 = some ⟨oc50, od50, .func (PySem.W.fnOf "_law_perform" "_law_perform" (defArgs sPerfL) (defBody sPerfL) (defScope sPerfL) .none kV50 doc50 pm50 an50 cd50 ct50), osl50⟩)
    (c50 : PySem.W.codeIn K cd50 "_law_perform" = true)
    (k50 : PySem.W.keepIn K (.ref f50) = true)
    (a51 : PySem.W.nsIn K mainGlobals "_law_cells" = some (some (.ref f51)))
    (l51 : K.lookup f51 = some ⟨oc51, od51, .func (PySem.W.fnOf "_law_cells" "_law_cells" (defArgs sRowsL) (defBody sRowsL) (defScope sRowsL) .none kV51 doc51 pm51 an51 cd51 ct51), osl51⟩)
    (c51 : PySem.W.codeIn K cd51 "_law_cells" = true)
    (k51 : PySem.W.keepIn K (.ref f51) = true)
    (a52 : PySem.W.nsIn K mainGlobals "_law_move_operand" = some (some (.ref f52)))
    (l52 : K.lookup f52 = some ⟨oc52, od52, .func (PySem.W.fnOf "_law_move_operand" "_law_move_operand" (defArgs sMvOd) (defBody sMvOd) (defScope sMvOd) .none kV52 doc52 pm52 an52 cd52 ct52), osl52⟩)
    (c52 : PySem.W.codeIn K cd52 "_law_move_operand" = true)
    (k52 : PySem.W.keepIn K (.ref f52) = true)
    (a53 : PySem.W.nsIn K mainGlobals "_law_move" = some (some (.ref f53)))
    (l53 : K.lookup f53 = some ⟨oc53, od53, .func (PySem.W.fnOf "_law_move" "_law_move" (defArgs sMoveL) (defBody sMoveL) (defScope sMoveL) .none kV53 doc53 pm53 an53 cd53 ct53), osl53⟩)
    (c53 : PySem.W.codeIn K cd53 "_law_move" = true)
    (k53 : PySem.W.keepIn K (.ref f53) = true)
    (a54 : PySem.W.nsIn K mainGlobals "_law_shown" = some (some (.ref f54)))
    (l54 : K.lookup f54 = some ⟨oc54, od54, .func (PySem.W.fnOf "_law_shown" "_law_shown" (defArgs sShownL) (defBody sShownL) (defScope sShownL) .none kV54 doc54 pm54 an54 cd54 ct54), osl54⟩)
    (c54 : PySem.W.codeIn K cd54 "_law_shown" = true)
    (k54 : PySem.W.keepIn K (.ref f54) = true)
    (a55 : PySem.W.nsIn K mainGlobals "law" = some (some (.ref f55)))
    (l55 : K.lookup f55 = some ⟨oc55, od55, .func (PySem.W.fnOf "law" "law" (defArgs sLaw) (defBody sLaw) (defScope sLaw) .none kV55 doc55 pm55 an55 cd55 ct55), osl55⟩)
    (c55 : PySem.W.codeIn K cd55 "law" = true)
    (k55 : PySem.W.keepIn K (.ref f55) = true)
    (aPW : PySem.W.nsIn K mainGlobals "PORT_WIDTH" = some (some uPW))
    (rPW : L2.RelV (.int 3) uPW)
    (aOW : PySem.W.nsIn K mainGlobals "OUT_WIDTH" = some (some uOW))
    (rOW : L2.RelV (.int 4) uOW)
    (aNP : PySem.W.nsIn K mainGlobals "NO_PORT" = some (some uNP))
    (rNP : L2.RelV (.int 8) uNP)
    (aUC : PySem.W.nsIn K mainGlobals "OUT_CELL" = some (some uUC))
    (rUC : L2.RelV (.int 1) uUC)
    (aPORT : PySem.W.nsIn K mainGlobals "PORT" = some (some (.ref pPORT)))
    (lPORT : K.lookup pPORT = some ⟨.type "tuple", oPORT, .seq iPORT nPORT, sPORT⟩)
    (vPORT : L2.Vals ([V.str "packet", .str "port"]) iPORT.toList)
    (aOPS : PySem.W.nsIn K mainGlobals "OPERATORS" = some (some (.ref pOPS)))
    (lOPS : K.lookup pOPS = some ⟨.type "tuple", oOPS, .seq iOPS nOPS, sOPS⟩)
    (vOPS : L2.Vals ([V.str "+", .str "-", .str "&", .str "|", .str "^"]) iOPS.toList)
    (aNOTH : PySem.W.nsIn K mainGlobals "NOTHING" = some (some (.ref pNOTH)))
    (lNOTH : K.lookup pNOTH = some ⟨.type "tuple", oNOTH, .seq iNOTH nNOTH, sNOTH⟩)
    (vNOTH : L2.Vals ([V.str "num", .int 0]) iNOTH.toList)
    (zRange : PySem.W.nsIn K mainGlobals "range" = some none)
    (zStr : PySem.W.nsIn K mainGlobals "str" = some none)
    (zMin : PySem.W.nsIn K mainGlobals "min" = some none)
    (zLen : PySem.W.nsIn K mainGlobals "len" = some none)
    (zList : PySem.W.nsIn K mainGlobals "list" = some none)
    (zInt : PySem.W.nsIn K mainGlobals "int" = some none)
    (zAbs : PySem.W.nsIn K mainGlobals "abs" = some none)
    (zIsi : PySem.W.nsIn K mainGlobals "isinstance" = some none)
    : ∃ fd : FuncData, (∀ (s : Shared) (u : Value), BindsTo s fd ⟨[u], []⟩ [("script", u)]) ∧ ∀ base : Heap, K.In base → base.Ns mainGlobals mg → FnOk P w K mg base CX0 16 fa fd ["script"] (spLaw K) := by
  have e := hfa.symm.trans (PySem.W.mg_of X G a55)
  cases e
  have A0 : AtD K mg "ones" sOnes ["width"] := at_of_name X G a0 l0 c0 k0 fun _ _ _ _ _ _ us hl => match us, hl with | [_], _ => rfl
  have A1 : AtD K mg "compute" sCompute ["operator", "first", "second"] := at_of_name X G a1 l1 c1 k1 fun _ _ _ _ _ _ us hl => match us, hl with | [_, _, _], _ => rfl
  have A2 : AtD K mg "headers_of" sHeadersOf ["program"] := at_of_name X G a2 l2 c2 k2 fun _ _ _ _ _ _ us hl => match us, hl with | [_], _ => rfl
  have A3 : AtD K mg "meta_of" sMetaOf ["program"] := at_of_name X G a3 l3 c3 k3 fun _ _ _ _ _ _ us hl => match us, hl with | [_], _ => rfl
  have A4 : AtD K mg "actions_of" sActionsOf ["program"] := at_of_name X G a4 l4 c4 k4 fun _ _ _ _ _ _ us hl => match us, hl with | [_], _ => rfl
  have A5 : AtD K mg "part_named" sPart ["parts", "name"] := at_of_name X G a5 l5 c5 k5 fun _ _ _ _ _ _ us hl => match us, hl with | [_, _], _ => rfl
  have A6 : AtD K mg "fields_of" sFieldsOf ["program", "owner"] := at_of_name X G a6 l6 c6 k6 fun _ _ _ _ _ _ us hl => match us, hl with | [_, _], _ => rfl
  have A7 : AtD K mg "field_width" sFieldWidth ["program", "field"] := at_of_name X G a7 l7 c7 k7 fun _ _ _ _ _ _ us hl => match us, hl with | [_, _], _ => rfl
  have A8 : AtD K mg "operands_of" sOpsOf ["expression"] := at_of_name X G a8 l8 c8 k8 fun _ _ _ _ _ _ us hl => match us, hl with | [_], _ => rfl
  have A9 : AtD K mg "cells_of" sCells ["program"] := at_of_name X G a9 l9 c9 k9 fun _ _ _ _ _ _ us hl => match us, hl with | [_], _ => rfl
  have A10 : AtD K mg "index_of" sIndex ["program", "place"] := at_of_name X G a10 l10 c10 k10 fun _ _ _ _ _ _ us hl => match us, hl with | [_, _], _ => rfl
  have A11 : AtD K mg "cell_of" sCellOf ["program", "field"] := at_of_name X G a11 l11 c11 k11 fun _ _ _ _ _ _ us hl => match us, hl with | [_, _], _ => rfl
  have A12 : AtD K mg "valid_cell" sValidCell ["program", "header"] := at_of_name X G a12 l12 c12 k12 fun _ _ _ _ _ _ us hl => match us, hl with | [_, _], _ => rfl
  have A13 : AtD K mg "header_cells" sHeaderCells ["program", "header"] := at_of_name X G a13 l13 c13 k13 fun _ _ _ _ _ _ us hl => match us, hl with | [_, _], _ => rfl
  have A14 : AtD K mg "width_of" sWidthOf ["program", "field"] := at_of_name X G a14 l14 c14 k14 fun _ _ _ _ _ _ us hl => match us, hl with | [_, _], _ => rfl
  have A15 : AtD K mg "compile_action" sCoAct ["program", "action"] := at_of_name X G a15 l15 c15 k15 fun _ _ _ _ _ _ us hl => match us, hl with | [_, _], _ => rfl
  have A16 : AtD K mg "compile_operation" sCoOp ["program", "params", "operation"] := at_of_name X G a16 l16 c16 k16 fun _ _ _ _ _ _ us hl => match us, hl with | [_, _, _], _ => rfl
  have A17 : AtD K mg "compile_set" sCoSet ["program", "params", "operation"] := at_of_name X G a17 l17 c17 k17 fun _ _ _ _ _ _ us hl => match us, hl with | [_, _, _], _ => rfl
  have A18 : AtD K mg "compile_expression" sCoEx ["program", "params", "expression"] := at_of_name X G a18 l18 c18 k18 fun _ _ _ _ _ _ us hl => match us, hl with | [_, _, _], _ => rfl
  have A19 : AtD K mg "compile_operand" sCoOd ["program", "params", "operand"] := at_of_name X G a19 l19 c19 k19 fun _ _ _ _ _ _ us hl => match us, hl with | [_, _, _], _ => rfl
  have A20 : AtD K mg "execute" sExec ["moves", "cells", "args"] := at_of_name X G a20 l20 c20 k20 fun _ _ _ _ _ _ us hl => match us, hl with | [_, _, _], _ => rfl
  have A21 : AtD K mg "changes_of" sChOf ["move", "cells", "args"] := at_of_name X G a21 l21 c21 k21 fun _ _ _ _ _ _ us hl => match us, hl with | [_, _, _], _ => rfl
  have A22 : AtD K mg "put_changes" sPutCh ["move", "cells", "args"] := at_of_name X G a22 l22 c22 k22 fun _ _ _ _ _ _ us hl => match us, hl with | [_, _, _], _ => rfl
  have A23 : AtD K mg "value_of" sValOf ["operator", "first", "second", "cells", "args"] := at_of_name X G a23 l23 c23 k23 fun _ _ _ _ _ _ us hl => match us, hl with | [_, _, _, _, _], _ => rfl
  have A24 : AtD K mg "operand_value" sOdVal ["operand", "cells", "args"] := at_of_name X G a24 l24 c24 k24 fun _ _ _ _ _ _ us hl => match us, hl with | [_, _, _], _ => rfl
  have A25 : AtD K mg "_law_state" sState ["script"] := at_of_name X G a25 l25 c25 k25 fun _ _ _ _ _ _ us hl => match us, hl with | [_], _ => rfl
  have A26 : AtD K mg "_law_draw" sDraw ["state", "many"] := at_of_name X G a26 l26 c26 k26 fun _ _ _ _ _ _ us hl => match us, hl with | [_, _], _ => rfl
  have A27 : AtD K mg "_law_pick" sPick ["state", "row"] := at_of_name X G a27 l27 c27 k27 fun _ _ _ _ _ _ us hl => match us, hl with | [_, _], _ => rfl
  have A28 : AtD K mg "_law_name" sName ["state", "k"] := at_of_name X G a28 l28 c28 k28 fun _ _ _ _ _ _ us hl => match us, hl with | [_, _], _ => rfl
  have A29 : AtD K mg "_law_fields" sFields ["state", "bits"] := at_of_name X G a29 l29 c29 k29 fun _ _ _ _ _ _ us hl => match us, hl with | [_, _], _ => rfl
  have A30 : AtD K mg "_law_headers" sHds ["state"] := at_of_name X G a30 l30 c30 k30 fun _ _ _ _ _ _ us hl => match us, hl with | [_], _ => rfl
  have A31 : AtD K mg "_law_refs" sRefs ["headers", "meta"] := at_of_name X G a31 l31 c31 k31 fun _ _ _ _ _ _ us hl => match us, hl with | [_, _], _ => rfl
  have A32 : AtD K mg "_law_goal" sGoal ["state", "names"] := at_of_name X G a32 l32 c32 k32 fun _ _ _ _ _ _ us hl => match us, hl with | [_, _], _ => rfl
  have A33 : AtD K mg "_law_select" sSelect ["state", "refs", "names"] := at_of_name X G a33 l33 c33 k33 fun _ _ _ _ _ _ us hl => match us, hl with | [_, _, _], _ => rfl
  have A34 : AtD K mg "_law_states" sStates ["state", "headers"] := at_of_name X G a34 l34 c34 k34 fun _ _ _ _ _ _ us hl => match us, hl with | [_, _], _ => rfl
  have A35 : AtD K mg "_law_operand" sOperand ["state", "refs", "params"] := at_of_name X G a35 l35 c35 k35 fun _ _ _ _ _ _ us hl => match us, hl with | [_, _, _], _ => rfl
  have A36 : AtD K mg "_law_expression" sExpr ["state", "refs", "params"] := at_of_name X G a36 l36 c36 k36 fun _ _ _ _ _ _ us hl => match us, hl with | [_, _, _], _ => rfl
  have A37 : AtD K mg "_law_operation" sOper ["state", "headers", "refs", "params"] := at_of_name X G a37 l37 c37 k37 fun _ _ _ _ _ _ us hl => match us, hl with | [_, _, _, _], _ => rfl
  have A38 : AtD K mg "_law_actions" sActs ["state", "headers", "refs"] := at_of_name X G a38 l38 c38 k38 fun _ _ _ _ _ _ us hl => match us, hl with | [_, _, _], _ => rfl
  have A39 : AtD K mg "_law_args" sArgs ["state", "actions", "name"] := at_of_name X G a39 l39 c39 k39 fun _ _ _ _ _ _ us hl => match us, hl with | [_, _, _], _ => rfl
  have A40 : AtD K mg "_law_table" sTable ["state", "k", "actions", "refs"] := at_of_name X G a40 l40 c40 k40 fun _ _ _ _ _ _ us hl => match us, hl with | [_, _, _, _], _ => rfl
  have A41 : AtD K mg "_law_test" sTest ["state", "headers", "refs", "deep"] := at_of_name X G a41 l41 c41 k41 fun _ _ _ _ _ _ us hl => match us, hl with | [_, _, _, _], _ => rfl
  have A42 : AtD K mg "_law_control" sCtl ["state", "headers", "refs", "names", "nested", "left"] := at_of_name X G a42 l42 c42 k42 fun _ _ _ _ _ _ us hl => match us, hl with | [_, _, _, _, _, _], _ => rfl
  have A43 : AtD K mg "_law_program" sProg ["state"] := at_of_name X G a43 l43 c43 k43 fun _ _ _ _ _ _ us hl => match us, hl with | [_], _ => rfl
  have A44 : AtD K mg "_law_width" sWidthL ["program", "field"] := at_of_name X G a44 l44 c44 k44 fun _ _ _ _ _ _ us hl => match us, hl with | [_, _], _ => rfl
  have A45 : AtD K mg "_law_find" sFind ["rows", "name"] := at_of_name X G a45 l45 c45 k45 fun _ _ _ _ _ _ us hl => match us, hl with | [_, _], _ => rfl
  have A46 : AtD K mg "_law_value" sValueL ["p", "field"] := at_of_name X G a46 l46 c46 k46 fun _ _ _ _ _ _ us hl => match us, hl with | [_, _], _ => rfl
  have A47 : AtD K mg "_law_operand_value" sOdValL ["p", "operand", "names"] := at_of_name X G a47 l47 c47 k47 fun _ _ _ _ _ _ us hl => match us, hl with | [_, _, _], _ => rfl
  have A48 : AtD K mg "_law_evaluate" sEvalL ["p", "e", "names"] := at_of_name X G a48 l48 c48 k48 fun _ _ _ _ _ _ us hl => match us, hl with | [_, _, _], _ => rfl
  have A49 : AtD K mg "_law_zero" sZeroL ["program", "p", "name"] := at_of_name X G a49 l49 c49 k49 fun _ _ _ _ _ _ us hl => match us, hl with | [_, _, _], _ => rfl
  have A50 : AtD K mg "_law_perform" sPerfL ["program", "p", "op", "names"] := at_of_name X G a50 l50 c50 k50 fun _ _ _ _ _ _ us hl => match us, hl with | [_, _, _, _], _ => rfl
  have A51 : AtD K mg "_law_cells" sRowsL ["program"] := at_of_name X G a51 l51 c51 k51 fun _ _ _ _ _ _ us hl => match us, hl with | [_], _ => rfl
  have A52 : AtD K mg "_law_move_operand" sMvOd ["places", "names", "operand"] := at_of_name X G a52 l52 c52 k52 fun _ _ _ _ _ _ us hl => match us, hl with | [_, _, _], _ => rfl
  have A53 : AtD K mg "_law_move" sMoveL ["program", "places", "names", "op"] := at_of_name X G a53 l53 c53 k53 fun _ _ _ _ _ _ us hl => match us, hl with | [_, _, _, _], _ => rfl
  have A54 : AtD K mg "_law_shown" sShownL ["p", "rows"] := at_of_name X G a54 l54 c54 k54 fun _ _ _ _ _ _ us hl => match us, hl with | [_, _], _ => rfl
  refine ⟨PySem.W.fnOf "law" "law" (defArgs sLaw) (defBody sLaw) (defScope sLaw) .none kV55 doc55 pm55 an55 cd55 ct55, fun s u => .of_eq rfl, fun base _ _ => ?_⟩
  have T : Gc13 K mg := ⟨⟨_, PySem.W.mg_of X G aPORT, ⟨_, _, _, lPORT, rfl, rfl, by rw [← Array.length_toList, ← vPORT.length]; decide +kernel, vPORT⟩⟩, ⟨_, PySem.W.mg_of X G aPW, rPW⟩, ⟨_, PySem.W.mg_of X G aOW, rOW⟩⟩
  have Ta : Ba K mg := ⟨PySem.W.mg_none_of X G zLen, PySem.W.mg_none_of X G zList, ⟨_, PySem.W.mg_of X G aOPS, ⟨_, _, _, lOPS, rfl, rfl, by rw [← Array.length_toList, ← vOPS.length]; decide +kernel, vOPS⟩⟩, ⟨_, PySem.W.mg_of X G aNOTH, ⟨_, _, _, lNOTH, rfl, rfl, by rw [← Array.length_toList, ← vNOTH.length]; decide +kernel, vNOTH⟩⟩, ⟨_, PySem.W.mg_of X G aNP, rNP⟩, ⟨_, PySem.W.mg_of X G aUC, rUC⟩⟩
  have Tk : Bk mg := ⟨PySem.W.mg_none_of X G zRange, PySem.W.mg_none_of X G zStr, PySem.W.mg_none_of X G zList, PySem.W.mg_none_of X G zIsi⟩
  have Tb : Bl mg := ⟨PySem.W.mg_none_of X G zRange, PySem.W.mg_none_of X G zStr, PySem.W.mg_none_of X G zMin, PySem.W.mg_none_of X G zLen⟩
  have Bt : Blt mg := ⟨PySem.W.mg_none_of X G zInt, PySem.W.mg_none_of X G zAbs, PySem.W.mg_none_of X G zLen⟩
  have L1 : Df P w K mg base CX0 1 "_law_state" ["script"] (spState K) := A25.df fun f fd F => ok_state (k := 0) F Bt
  have L2 : Df P w K mg base CX0 1 "_law_draw" ["state", "many"] (spDraw) := A26.df fun f fd F => ok_draw (k := 0) F Bt
  obtain ⟨fdr, fddr, Gdr, gdr, kdr, bdr⟩ := L2.ex
  have L3 : Df P w K mg base CX0 2 "_law_pick" ["state", "row"] (spPick K) := A27.df fun f fd F => ok_pick (k := 0) F Bt Gdr gdr kdr bdr
  have L3k : Df P w K mg base CX0 2 "_law_pick" ["state", "row"] (spPickK K) := A27.df fun f fd F => ok_pickK F Tb L2
  have Lnm : Df P w K mg base CX0 3 "_law_name" ["state", "k"] (spNm) := A28.df fun f fd F => ok_nm F Tb L2 L3
  have Lfs : Df P w K mg base CX0 4 "_law_fields" ["state", "bits"] (spFs K) := A29.df fun f fd F => ok_fs F Tb L3 Lnm
  have Lhs : Df P w K mg base CX0 5 "_law_headers" ["state"] (spHs K) := A30.df fun f fd F => ok_hs F Tb L2 L3 Lnm Lfs
  have Lrs : Df P w K mg base CX0 1 "_law_refs" ["headers", "meta"] (spRs K) := A31.df fun f fd F => ok_rs F
  have Lgl : Df P w K mg base CX0 3 "_law_goal" ["state", "names"] (spGl K) := A32.df fun f fd F => ok_gl F Tb L2 L3k
  have Lsl : Df P w K mg base CX0 4 "_law_select" ["state", "refs", "names"] (spSl K) := A33.df fun f fd F => ok_sl F Tb L2 L3k L3 Lgl
  have Lst : Df P w K mg base CX0 5 "_law_states" ["state", "headers"] (spSt K) := A34.df fun f fd F => ok_sts F Tb (PySem.W.mg_none_of X G zList) L2 L3 Lnm Lgl Lsl
  have Lod : Df P w K mg base CX0 3 "_law_operand" ["state", "refs", "params"] (spOd K) := A35.df fun f fd F => ok_od F Tb L2 L3 L3k
  have Lex : Df P w K mg base CX0 4 "_law_expression" ["state", "refs", "params"] (spEx K) := A36.df fun f fd F => ok_ex F L2 L3 Lod
  have Lop : Df P w K mg base CX0 5 "_law_operation" ["state", "headers", "refs", "params"] (spOp K) := A37.df fun f fd F => ok_op F Tb L2 L3k Lex
  have Las : Df P w K mg base CX0 6 "_law_actions" ["state", "headers", "refs"] (spAs K) := A38.df fun f fd F => ok_as F Tb L2 L3 Lnm Lop
  have Lar : Df P w K mg base CX0 3 "_law_args" ["state", "actions", "name"] (spAr K) := A39.df fun f fd F => ok_ar F Tb L2 L3
  have Ltb : Df P w K mg base CX0 4 "_law_table" ["state", "k", "actions", "refs"] (spTb K) := A40.df fun f fd F => ok_tb F Tb L2 L3 L3k Lnm Lar
  have Lt0 : Df P w K mg base CX0 2 "_law_test" ["state", "headers", "refs", "deep"] (spTt K 0) := A41.df fun f fd F => ok_tt0 (k := 1) F
  have Lt1 : Df P w K mg base CX0 3 "_law_test" ["state", "headers", "refs", "deep"] (spTt K 1) := A41.df fun f fd F => ok_ttS (m := 0) F Tb L2 L3 L3k Lt0
  have Lt2 : Df P w K mg base CX0 4 "_law_test" ["state", "headers", "refs", "deep"] (spTt K 2) := A41.df fun f fd F => ok_ttS (m := 1) F Tb L2 L3 L3k Lt1
  have Lt3 : Df P w K mg base CX0 5 "_law_test" ["state", "headers", "refs", "deep"] (spTt K 3) := A41.df fun f fd F => ok_ttS (m := 2) F Tb L2 L3 L3k Lt2
  have Lt4 : Df P w K mg base CX0 6 "_law_test" ["state", "headers", "refs", "deep"] (spTt K 4) := A41.df fun f fd F => ok_ttS (m := 3) F Tb L2 L3 L3k Lt3
  have Lc0 : Df P w K mg base CX0 7 "_law_control" ["state", "headers", "refs", "names", "nested", "left"] (spCl K 0) := A42.df fun f fd F => ok_cl0 (k := 6) F
  have Lc1 : Df P w K mg base CX0 8 "_law_control" ["state", "headers", "refs", "names", "nested", "left"] (spCl K 1) := A42.df fun f fd F => ok_clS (m := 0) F Tb L2 Lt4 Lc0
  have Lc2 : Df P w K mg base CX0 9 "_law_control" ["state", "headers", "refs", "names", "nested", "left"] (spCl K 2) := A42.df fun f fd F => ok_clS (m := 1) F Tb L2 Lt4 Lc1
  have Lc3 : Df P w K mg base CX0 10 "_law_control" ["state", "headers", "refs", "names", "nested", "left"] (spCl K 3) := A42.df fun f fd F => ok_clS (m := 2) F Tb L2 Lt4 Lc2
  have Lc4 : Df P w K mg base CX0 11 "_law_control" ["state", "headers", "refs", "names", "nested", "left"] (spCl K 4) := A42.df fun f fd F => ok_clS (m := 3) F Tb L2 Lt4 Lc3
  have Lc5 : Df P w K mg base CX0 12 "_law_control" ["state", "headers", "refs", "names", "nested", "left"] (spCl K 5) := A42.df fun f fd F => ok_clS (m := 4) F Tb L2 Lt4 Lc4
  have Lc6 : Df P w K mg base CX0 13 "_law_control" ["state", "headers", "refs", "names", "nested", "left"] (spCl K 6) := A42.df fun f fd F => ok_clS (m := 5) F Tb L2 Lt4 Lc5
  have Lc7 : Df P w K mg base CX0 14 "_law_control" ["state", "headers", "refs", "names", "nested", "left"] (spCl K 7) := A42.df fun f fd F => ok_clS (m := 6) F Tb L2 Lt4 Lc6
  have Lpg : Df P w K mg base CX0 15 "_law_program" ["state"] (spPg K) := A43.df fun f fd F => ok_pg F Tb L2 L3 Lnm Lhs Lrs Las Ltb Lc7 Lst
  have Don : Df P w K mg base CX0 1 "ones" ["width"] (spOnes) := A0.df fun f fd F => ok_ones (k := 0) F
  have Dcm : Df P w K mg base CX0 1 "compute" ["operator", "first", "second"] (spCompute) := A1.df fun f fd F => ok_compute (k := 0) F
  have Dh : Df P w K mg base CX0 1 "headers_of" ["program"] (spAcc K 2) := A2.df fun f fd F => ok_headersOf (k := 0) F
  have Dm : Df P w K mg base CX0 1 "meta_of" ["program"] (spAcc K 3) := A3.df fun f fd F => ok_metaOf (k := 0) F
  have Da : Df P w K mg base CX0 1 "actions_of" ["program"] (spAcc K 5) := A4.df fun f fd F => ok_actionsOf (k := 0) F
  have Dp : Df P w K mg base CX0 1 "part_named" ["parts", "name"] (spPart K) := A5.df fun f fd F => ok_part (k := 0) F
  have Dfh : Df P w K mg base CX0 2 "fields_of" ["program", "owner"] (spFieldsOf K) := A6.df fun f fd F => ok_fieldsOf F Dh Dm Dp
  have Dfo : Df P w K mg base CX0 2 "fields_of" ["program", "owner"] (spFieldsAny K) := A6.df fun f fd F => fnok_or (ok_fieldsOf F Dh Dm Dp) (ok_fieldsM F Dh Dm Dp)
  have Dfw : Df P w K mg base CX0 3 "field_width" ["program", "field"] (spWid K) := A7.df fun f fd F => ok_fieldWidth F T Dfo
  have Dwo : Df P w K mg base CX0 4 "width_of" ["program", "field"] (spWid K) := A14.df fun f fd F => ok_widthOf F Dfw
  have Dce : Df P w K mg base CX0 2 "cells_of" ["program"] (spCells K) := A9.df fun f fd F => ok_cells (k := 0) F T Dh Dm
  have Dix : Df P w K mg base CX0 3 "index_of" ["program", "place"] (spIndex K) := A10.df fun f fd F => ok_index (k := 1) F Dce
  have Dcl : Df P w K mg base CX0 4 "cell_of" ["program", "field"] (spIndex K) := A11.df fun f fd F => ok_cellOf (k := 2) F Dix
  have Dvc : Df P w K mg base CX0 4 "valid_cell" ["program", "header"] (spIndex K) := A12.df fun f fd F => ok_validCell (k := 2) F Dix
  have Dhc : Df P w K mg base CX0 5 "header_cells" ["program", "header"] (spHc K) := A13.df fun f fd F => ok_headerCells (k := 2) F Dfh Dcl
  have Dos : Df P w K mg base CX0 1 "operands_of" ["expression"] (spOpsOf K) := A8.df fun f fd F => ok_opsOf (k := 0) F Ta
  have Dco : Df P w K mg base CX0 5 "compile_operand" ["program", "params", "operand"] (spCoOd K) := A19.df fun f fd F => ok_coOd F Dcl
  have Dcx : Df P w K mg base CX0 6 "compile_expression" ["program", "params", "expression"] (spCoEx K) := A18.df fun f fd F => ok_coEx F Ta Dos Dco
  have Dcs : Df P w K mg base CX0 7 "compile_set" ["program", "params", "operation"] (spCoSet K) := A17.df fun f fd F => ok_coSet F Dvc Dcx Dcl Dwo
  have Dcp : Df P w K mg base CX0 8 "compile_operation" ["program", "params", "operation"] (spCoOp K) := A16.df fun f fd F => ok_coOp F Ta Dcs Dcx Dvc Dhc
  have Dca : Df P w K mg base CX0 9 "compile_action" ["program", "action"] (spCoAct K) := A15.df fun f fd F => ok_coAct F Dp Da Dcp
  have Dov : Df P w K mg base CX0 1 "operand_value" ["operand", "cells", "args"] (spOdVal K) := A24.df fun f fd F => ok_odVal (k := 0) F
  have Dvo : Df P w K mg base CX0 2 "value_of" ["operator", "first", "second", "cells", "args"] (spValOf K) := A23.df fun f fd F => ok_valOf F Dov Dcm
  have Dpc : Df P w K mg base CX0 3 "put_changes" ["move", "cells", "args"] (spPutCh K) := A22.df fun f fd F => ok_putCh F Dvo Don
  have Dch : Df P w K mg base CX0 4 "changes_of" ["move", "cells", "args"] (spChOf K) := A21.df fun f fd F => ok_chOf F Ta Dpc Dvo
  have Dxe : Df P w K mg base CX0 5 "execute" ["moves", "cells", "args"] (spExec K) := A20.df fun f fd F => ok_exec F Ta Dch
  have DwL : Df P w K mg base CX0 1 "_law_width" ["program", "field"] (spWidL K) := A44.df fun f fd F => ok_widthL (k := 0) F
  have Dfn : Df P w K mg base CX0 1 "_law_find" ["rows", "name"] (spFind K) := A45.df fun f fd F => ok_find (k := 0) F
  have Dvl : Df P w K mg base CX0 1 "_law_value" ["p", "field"] (spValueG K) := A46.df fun f fd F => ok_valueG (k := 0) F
  have Dol : Df P w K mg base CX0 2 "_law_operand_value" ["p", "operand", "names"] (spOdValL K) := A47.df fun f fd F => ok_odValL F Dvl
  have Del : Df P w K mg base CX0 3 "_law_evaluate" ["p", "e", "names"] (spEvalL K) := A48.df fun f fd F => ok_evalL F Dol
  have Dzl : Df P w K mg base CX0 2 "_law_zero" ["program", "p", "name"] (spZeroL K) := A49.df fun f fd F => ok_zeroL F Dfn
  have Dpl : Df P w K mg base CX0 4 "_law_perform" ["program", "p", "op", "names"] (spPerfL K) := A50.df fun f fd F => ok_perfL F (PySem.W.mg_none_of X G zInt) Del DwL Dzl
  have Drl : Df P w K mg base CX0 1 "_law_cells" ["program"] (spRowsL K) := A51.df fun f fd F => ok_rowsL (k := 0) F
  have Dmo : Df P w K mg base CX0 1 "_law_move_operand" ["places", "names", "operand"] (spMvOd K) := A52.df fun f fd F => ok_mvOd (k := 0) F
  have Dmv : Df P w K mg base CX0 3 "_law_move" ["program", "places", "names", "op"] (spMoveL K) := A53.df fun f fd F => ok_moveL F Dmo DwL Dfn
  have Dsh : Df P w K mg base CX0 2 "_law_shown" ["p", "rows"] (spShownL K) := A54.df fun f fd F => ok_shownL F (PySem.W.mg_none_of X G zInt) Dvl
  exact ok_law (fun_mk (st := sLaw) l55 c55 k55) Tk L1 Lpg L3 L2 Lrs Lop Drl Dca Dmv Dsh Dxe Dpl
theorem walk {l : PySem.W.OpenLaw} {q : Program} {loose : List Str} {XP : (Str → Option Value) → Heap → Prop} {YP : World → Heap → Prop} {d : DefRec} {K : Params → PySem.W.Frag} (hn : l.most = some 63) (hdf : d.params.defaults = [])
    (hY : ∀ (w : World) (h : Heap), YP w h → (K w.params).In h)
    (F : ∀ (w : World) (mg : Str → Option Value) (fa : Addr) (h : Heap), (K w.params).In h → h.Ns mainGlobals mg → mg d.name = some (.ref fa) →
      ∃ fd : FuncData, (∀ (s : Shared) (u : Value), BindsTo s fd ⟨[u], []⟩ [("script", u)]) ∧ ∀ base : Heap, (K w.params).In base → base.Ns mainGlobals mg → FnOk l.prog w (K w.params) mg base CX0 16 fa fd ["script"] (spLaw (K w.params))) :
    PySem.W.WalkO q loose XP YP l.row.toRowW d [] (fun f vs => PySem.call f vs) :=
  L2.walk_of (n := 63) (k := 16) (x := "script") (CX := fun _ => CX0) (sp := fun w => spLaw (K w.params)) hn (by decide) hdf ⟨rfl, by decide, by decide⟩ hY F (fun _ _ a ns hl _ hS => ⟨a, ns, rfl, hS, hl, fun _ => rfl⟩) fun _ _ _ _ _ z => z
end Pk
open PySem PySem.W PyProof.Rows
set_option maxRecDepth 100000 in
set_option maxHeartbeats 0 in
theorem PySem.Challenge.cw_wholepackets_k17_compiled_actions_holds : PySem.Challenge.rw_wholepackets_k17_compiled_actions.Holds := by
  w_on; o_law; k_head; (case hw => w_witness2)
  k_fill
  refine Pk.walk (l := PySem.Challenge.rw_wholepackets_k17_compiled_actions) rfl rfl (fun w h Y => PySem.W.kIn_of Y) ?F
  case F =>
    intro w mg fa h KX G hmg
    refine' Pk.all_mk KX G hmg ?a0 ?l0 ?c0 ?k0 ?a1 ?l1 ?c1 ?k1 ?a2 ?l2 ?c2 ?k2 ?a3 ?l3 ?c3 ?k3 ?a4 ?l4 ?c4 ?k4 ?a5 ?l5 ?c5 ?k5 ?a6 ?l6 ?c6 ?k6 ?a7 ?l7 ?c7 ?k7 ?a8 ?l8 ?c8 ?k8 ?a9 ?l9 ?c9 ?k9 ?a10 ?l10 ?c10 ?k10 ?a11 ?l11 ?c11 ?k11 ?a12 ?l12 ?c12 ?k12 ?a13 ?l13 ?c13 ?k13 ?a14 ?l14 ?c14 ?k14 ?a15 ?l15 ?c15 ?k15 ?a16 ?l16 ?c16 ?k16 ?a17 ?l17 ?c17 ?k17 ?a18 ?l18 ?c18 ?k18 ?a19 ?l19 ?c19 ?k19 ?a20 ?l20 ?c20 ?k20 ?a21 ?l21 ?c21 ?k21 ?a22 ?l22 ?c22 ?k22 ?a23 ?l23 ?c23 ?k23 ?a24 ?l24 ?c24 ?k24 ?a25 ?l25 ?c25 ?k25 ?a26 ?l26 ?c26 ?k26 ?a27 ?l27 ?c27 ?k27 ?a28 ?l28 ?c28 ?k28 ?a29 ?l29 ?c29 ?k29 ?a30 ?l30 ?c30 ?k30 ?a31 ?l31 ?c31 ?k31 ?a32 ?l32 ?c32 ?k32 ?a33 ?l33 ?c33 ?k33 ?a34 ?l34 ?c34 ?k34 ?a35 ?l35 ?c35 ?k35 ?a36 ?l36 ?c36 ?k36 ?a37 ?l37 ?c37 ?k37 ?a38 ?l38 ?c38 ?k38 ?a39 ?l39 ?c39 ?k39 ?a40 ?l40 ?c40 ?k40 ?a41 ?l41 ?c41 ?k41 ?a42 ?l42 ?c42 ?k42 ?a43 ?l43 ?c43 ?k43 ?a44 ?l44 ?c44 ?k44 ?a45 ?l45 ?c45 ?k45 ?a46 ?l46 ?c46 ?k46 ?a47 ?l47 ?c47 ?k47 ?a48 ?l48 ?c48 ?k48 ?a49 ?l49 ?c49 ?k49 ?a50 ?l50 ?c50 ?k50 ?a51 ?l51 ?c51 ?k51 ?a52 ?l52 ?c52 ?k52 ?a53 ?l53 ?c53 ?k53 ?a54 ?l54 ?c54 ?k54 ?a55 ?l55 ?c55 ?k55 ?aPW ?rPW ?aOW ?rOW ?aNP ?rNP ?aUC ?rUC ?aPORT ?lPORT ?vPORT ?aOPS ?lOPS ?vOPS ?aNOTH ?lNOTH ?vNOTH ?zRange ?zStr ?zMin ?zLen ?zList ?zInt ?zAbs ?zIsi
    (case a0 => k_is)
    (case l0 => k_is)
    (case c0 => k_is)
    (case k0 => k_is)
    (case a1 => k_is)
    (case l1 => k_is)
    (case c1 => k_is)
    (case k1 => k_is)
    (case a2 => k_is)
    (case l2 => k_is)
    (case c2 => k_is)
    (case k2 => k_is)
    (case a3 => k_is)
    (case l3 => k_is)
    (case c3 => k_is)
    (case k3 => k_is)
    (case a4 => k_is)
    (case l4 => k_is)
    (case c4 => k_is)
    (case k4 => k_is)
    (case a5 => k_is)
    (case l5 => k_is)
    (case c5 => k_is)
    (case k5 => k_is)
    (case a6 => k_is)
    (case l6 => k_is)
    (case c6 => k_is)
    (case k6 => k_is)
    (case a7 => k_is)
    (case l7 => k_is)
    (case c7 => k_is)
    (case k7 => k_is)
    (case a8 => k_is)
    (case l8 => k_is)
    (case c8 => k_is)
    (case k8 => k_is)
    (case a9 => k_is)
    (case l9 => k_is)
    (case c9 => k_is)
    (case k9 => k_is)
    (case a10 => k_is)
    (case l10 => k_is)
    (case c10 => k_is)
    (case k10 => k_is)
    (case a11 => k_is)
    (case l11 => k_is)
    (case c11 => k_is)
    (case k11 => k_is)
    (case a12 => k_is)
    (case l12 => k_is)
    (case c12 => k_is)
    (case k12 => k_is)
    (case a13 => k_is)
    (case l13 => k_is)
    (case c13 => k_is)
    (case k13 => k_is)
    (case a14 => k_is)
    (case l14 => k_is)
    (case c14 => k_is)
    (case k14 => k_is)
    (case a15 => k_is)
    (case l15 => k_is)
    (case c15 => k_is)
    (case k15 => k_is)
    (case a16 => k_is)
    (case l16 => k_is)
    (case c16 => k_is)
    (case k16 => k_is)
    (case a17 => k_is)
    (case l17 => k_is)
    (case c17 => k_is)
    (case k17 => k_is)
    (case a18 => k_is)
    (case l18 => k_is)
    (case c18 => k_is)
    (case k18 => k_is)
    (case a19 => k_is)
    (case l19 => k_is)
    (case c19 => k_is)
    (case k19 => k_is)
    (case a20 => k_is)
    (case l20 => k_is)
    (case c20 => k_is)
    (case k20 => k_is)
    (case a21 => k_is)
    (case l21 => k_is)
    (case c21 => k_is)
    (case k21 => k_is)
    (case a22 => k_is)
    (case l22 => k_is)
    (case c22 => k_is)
    (case k22 => k_is)
    (case a23 => k_is)
    (case l23 => k_is)
    (case c23 => k_is)
    (case k23 => k_is)
    (case a24 => k_is)
    (case l24 => k_is)
    (case c24 => k_is)
    (case k24 => k_is)
    (case a25 => k_is)
    (case l25 => k_is)
    (case c25 => k_is)
    (case k25 => k_is)
    (case a26 => k_is)
    (case l26 => k_is)
    (case c26 => k_is)
    (case k26 => k_is)
    (case a27 => k_is)
    (case l27 => k_is)
    (case c27 => k_is)
    (case k27 => k_is)
    (case a28 => k_is)
    (case l28 => k_is)
    (case c28 => k_is)
    (case k28 => k_is)
    (case a29 => k_is)
    (case l29 => k_is)
    (case c29 => k_is)
    (case k29 => k_is)
    (case a30 => k_is)
    (case l30 => k_is)
    (case c30 => k_is)
    (case k30 => k_is)
    (case a31 => k_is)
    (case l31 => k_is)
    (case c31 => k_is)
    (case k31 => k_is)
    (case a32 => k_is)
    (case l32 => k_is)
    (case c32 => k_is)
    (case k32 => k_is)
    (case a33 => k_is)
    (case l33 => k_is)
    (case c33 => k_is)
    (case k33 => k_is)
    (case a34 => k_is)
    (case l34 => k_is)
    (case c34 => k_is)
    (case k34 => k_is)
    (case a35 => k_is)
    (case l35 => k_is)
    (case c35 => k_is)
    (case k35 => k_is)
    (case a36 => k_is)
    (case l36 => k_is)
    (case c36 => k_is)
    (case k36 => k_is)
    (case a37 => k_is)
    (case l37 => k_is)
    (case c37 => k_is)
    (case k37 => k_is)
    (case a38 => k_is)
    (case l38 => k_is)
    (case c38 => k_is)
    (case k38 => k_is)
    (case a39 => k_is)
    (case l39 => k_is)
    (case c39 => k_is)
    (case k39 => k_is)
    (case a40 => k_is)
    (case l40 => k_is)
    (case c40 => k_is)
    (case k40 => k_is)
    (case a41 => k_is)
    (case l41 => k_is)
    (case c41 => k_is)
    (case k41 => k_is)
    (case a42 => k_is)
    (case l42 => k_is)
    (case c42 => k_is)
    (case k42 => k_is)
    (case a43 => k_is)
    (case l43 => k_is)
    (case c43 => k_is)
    (case k43 => k_is)
    (case a44 => k_is)
    (case l44 => k_is)
    (case c44 => k_is)
    (case k44 => k_is)
    (case a45 => k_is)
    (case l45 => k_is)
    (case c45 => k_is)
    (case k45 => k_is)
    (case a46 => k_is)
    (case l46 => k_is)
    (case c46 => k_is)
    (case k46 => k_is)
    (case a47 => k_is)
    (case l47 => k_is)
    (case c47 => k_is)
    (case k47 => k_is)
    (case a48 => k_is)
    (case l48 => k_is)
    (case c48 => k_is)
    (case k48 => k_is)
    (case a49 => k_is)
    (case l49 => k_is)
    (case c49 => k_is)
    (case k49 => k_is)
    (case a50 => k_is)
    (case l50 => k_is)
    (case c50 => k_is)
    (case k50 => k_is)
    (case a51 => k_is)
    (case l51 => k_is)
    (case c51 => k_is)
    (case k51 => k_is)
    (case a52 => k_is)
    (case l52 => k_is)
    (case c52 => k_is)
    (case k52 => k_is)
    (case a53 => k_is)
    (case l53 => k_is)
    (case c53 => k_is)
    (case k53 => k_is)
    (case a54 => k_is)
    (case l54 => k_is)
    (case c54 => k_is)
    (case k54 => k_is)
    (case a55 => k_is)
    (case l55 => k_is)
    (case c55 => k_is)
    (case k55 => k_is)
    (case aPW => k_is)
    (case rPW => exact ⟨_, rfl⟩)
    (case aOW => k_is)
    (case rOW => exact ⟨_, rfl⟩)
    (case aNP => k_is)
    (case rNP => exact ⟨_, rfl⟩)
    (case aUC => k_is)
    (case rUC => exact ⟨_, rfl⟩)
    (case aPORT => k_is)
    (case lPORT => k_is)
    (case vPORT => repeat (first | exact .nil | refine .cons ⟨_, rfl⟩ ?_))
    (case aOPS => k_is)
    (case lOPS => k_is)
    (case vOPS => repeat (first | exact .nil | refine .cons ⟨_, rfl⟩ ?_))
    (case aNOTH => k_is)
    (case lNOTH => k_is)
    (case vNOTH => repeat (first | exact .nil | refine .cons ⟨_, rfl⟩ ?_))
    (case zRange => k_is)
    (case zStr => k_is)
    (case zMin => k_is)
    (case zLen => k_is)
    (case zList => k_is)
    (case zInt => k_is)
    (case zAbs => k_is)
    (case zIsi => k_is)
