import PyProof.Rows.All
import Wide.All
import OpenK.AllK
import Wide.FinOn
import HandS.ForMost
import HandS.Wide
import HandS.Codes
import HandS.IsInst
import HandS.IntHex
import HandS.AnyAll
import HandS.Walk
import HandS.Flow
import HandS.StrMore
import HandS.EndTab
import PySem.Challenge.RW_wholepackets_k01_tokens_of_a_text
set_option Elab.async false
set_option linter.all false
set_option maxRecDepth 100000
set_option maxHeartbeats 4000000
namespace Pk
open PySem PySem.Spec PyProof.Rows L2

/-! ### the drawing state of the law: at s the list [cells, seed], at c the cells -/
def StAt (H : Hp) (s c : Addr) : Prop := ∃ (cells : List Int) (seed : Int), H s = some (.lst [.ref c, .int seed]) ∧ H c = some (.lst (cells.map V.int)) ∧
  (∀ z ∈ cells, 0 ≤ z) ∧ 0 ≤ seed ∧ seed < 2147483648
theorem StAt.ne {H : Hp} {s c : Addr} (h : StAt H s c) : s ≠ c := by
  obtain ⟨cells, seed, h1, h2, _⟩ := h
  refine ne_of h1 h2 fun z => ?_
  have z' := HO.lst.inj z
  cases cells with
  | nil => cases z'
  | cons a r =>
    have e : V.ref c = V.int a := (List.cons.inj z').1
    cases e
/-- what stood beside s and c stands -/
def Kp (s c : Addr) (H H' : Hp) : Prop := ∀ b o, b ≠ s → b ≠ c → H b = some o → H' b = some o
theorem Kp.refl (s c : Addr) (H : Hp) : Kp s c H H := fun _ _ _ _ e => e
theorem Kp.trans {s c : Addr} {H H1 H2 : Hp} (a : Kp s c H H1) (b : Kp s c H1 H2) : Kp s c H H2 := fun x o h1 h2 e => b x o h1 h2 (a x o h1 h2 e)
theorem Kp.same {s c : Addr} {H H1 : Hp} (a : Same H H1) : Kp s c H H1 := fun x o _ _ e => a x o e
theorem Kp.new {s c p : Addr} {H : Hp} {o : HO} (h : H p = none) : Kp s c H (upd H p o) := fun b u _ _ e => by
  rw [upd_ne (ne_of_none e h)]
  exact e
theorem same_new {p : Addr} {H : Hp} {o : HO} (h : H p = none) : Same H (upd H p o) := fun b u e => by
  rw [upd_ne (ne_of_none e h)]
  exact e
theorem StAt.same {H H' : Hp} {s c : Addr} (h : StAt H s c) (k : Same H H') : StAt H' s c := by
  obtain ⟨cells, seed, h1, h2, h3⟩ := h
  exact ⟨cells, seed, k _ _ h1, k _ _ h2, h3⟩
theorem StAt.upd {H : Hp} {s c p : Addr} {o : HO} (h : StAt H s c) (n1 : p ≠ s) (n2 : p ≠ c) : StAt (upd H p o) s c := by
  obtain ⟨cells, seed, h1, h2, h3⟩ := h
  exact ⟨cells, seed, by rw [upd_ne (Ne.symm n1)]; exact h1, by rw [upd_ne (Ne.symm n2)]; exact h2, h3⟩
theorem StAt.new {H : Hp} {s c p : Addr} {o : HO} (h : StAt H s c) (n : H p = none) : StAt (L2.upd H p o) s c := h.same (same_new n)

/-! ### promises of the drawing defs -/
def spState (K : PySem.W.Frag) : Sp := fun vs H Q _ => ∃ (a : Addr) (ns : List Int), vs = [.ref a] ∧ SqL K H a (ns.map V.int) ∧ ns.length ≤ 63 ∧
  ∀ (H' : Hp) (s c : Addr), Same H H' → H s = none → H c = none → StAt H' s c → Q (.ref s) H'
def spDraw : Sp := fun vs H Q _ => ∃ (s c : Addr) (many : Int), vs = [.ref s, .int many] ∧ StAt H s c ∧ 0 < many ∧ many ≤ 1099511627776 ∧
  ∀ (H' : Hp) (r : Int), 0 ≤ r → r < many → StAt H' s c → Kp s c H H' → Q (.int r) H'
def spPick (K : PySem.W.Frag) : Sp := fun vs H Q _ => ∃ (s c p : Addr) (xs : List V), vs = [.ref s, .ref p] ∧ StAt H s c ∧ SqL K H p xs ∧ p ≠ s ∧ p ≠ c ∧ 0 < xs.length ∧ xs.length ≤ 1000 ∧
  ∀ (H' : Hp) (i : Nat) (x : V), xs[i]? = some x → StAt H' s c → Kp s c H H' → Q x H'
theorem Kp.seq {K : PySem.W.Frag} {s c p : Addr} {H H' : Hp} {xs : List V} (k : Kp s c H H') (h : SqL K H p xs) (n1 : p ≠ s) (n2 : p ≠ c) : SqL K H' p xs := by
  rcases h with (h | ⟨o, h⟩) | h
  · exact .inl (.inl (k _ _ n1 n2 h))
  · exact .inl (.inr ⟨o, k _ _ n1 n2 h⟩)
  · exact .inr h
theorem iteD {p A B : Prop} [Decidable p] (h1 : p → A) (h2 : ¬ p → B) : if decide p = true then A else B := by
  by_cases h : p
  · rw [if_pos (decide_eq_true h)]
    exact h1 h
  · rw [decide_eq_false h, if_neg Bool.false_ne_true]
    exact h2 h
theorem iteDT {p A B : Prop} [Decidable p] (h : p) (h1 : A) : if decide p = true then A else B := by
  rw [if_pos (decide_eq_true h)]
  exact h1
theorem iteDF {p A B : Prop} [Decidable p] (h : ¬ p) (h1 : B) : if decide p = true then A else B := by
  rw [decide_eq_false h, if_neg Bool.false_ne_true]
  exact h1
theorem dcInt {i j : Int} : decide (V.int i = V.int j) = decide (i = j) := by
  by_cases h : i = j
  · rw [h, decide_eq_true rfl, decide_eq_true rfl]
  · rw [decide_eq_false h, decide_eq_false fun z => h (V.int.inj z)]
/-- built-ins that the law's own text does not name anew -/
structure Blt (mg : Str → Option Value) : Prop where
  zInt : mg "int" = none
  zAbs : mg "abs" = none
  zLen : mg "len" = none
end Pk
set_option Elab.async false
set_option linter.all false
set_option maxRecDepth 100000
set_option maxHeartbeats 4000000
namespace Tk
open PySem L2 SX
/-! ### the signs and words of the document, as code points -/
def lettersS : Str := Str.ofString "abcdefghijklmnopqrstuvwxyzABCDEFGHIJKLMNOPQRSTUVWXYZ"
def digitsS : Str := Str.ofString "0123456789"
def hexS : Str := Str.ofString "0123456789abcdef"
abbrev letters : List Nat := lettersS.cps.toList
abbrev digits : List Nat := digitsS.cps.toList
abbrev hexes : List Nat := hexS.cps.toList
def words : List Str := ["accept", "action", "add", "apply", "control", "default", "drop", "else", "emit", "exact", "extract", "go", "header", "if", "key", "mask", "meta", "not", "packet", "parser", "prefix", "program", "reject", "remove", "select", "send", "size", "state", "table", "use", "valid"].map Str.ofString
def longs : List Str := [Str.ofString "==", Str.ofString "->"]
def shorts : List Str := ["{", "}", "(", ")", ":", ";", ",", ".", "=", "<", "+", "-", "&", "|", "^"].map Str.ofString
def inRun (c : Nat) : Bool := decide (c ∈ letters) || decide (c ∈ digits) || decide (c = 95)
def isHexed (p : List Nat) : Bool := decide (p.take 2 = [48, 120])
def allIn (p l : List Nat) : Bool := p.all fun c => decide (c ∈ l)
def isNum (p : List Nat) : Bool :=
  if isHexed p = true then decide (1 ≤ (p.drop 2).length) && decide ((p.drop 2).length ≤ 8) && allIn (p.drop 2) hexes
  else if p.take 1 = [48] then decide (p = [48])
  else if 10 < p.length then false else allIn p digits && decide (NumText.digitsVal p ≤ 4294967295)
def numVal (p : List Nat) : Nat := if isHexed p = true then Hx.hexNum (p.drop 2) else NumText.digitsVal p
def headIn (l p : List Nat) : Bool := match p with
  | [] => false
  | c :: _ => decide (c ∈ l)
/-- a run's or a sign's token: its kind and value -/
def tokOf (p : List Nat) : Option (Str × V) :=
  if headIn letters p = true ∧ p.length ≤ 16 then
    (if S p ∈ words then some (Str.ofString "word", .str (S p)) else some (Str.ofString "name", .str (S p)))
  else if isNum p = true then some (Str.ofString "number", .int (numVal p))
  else if S p ∈ longs ∨ S p ∈ shorts then some (Str.ofString "sign", .str (S p)) else none
/-- how long the run or the sign is that stands at the head -/
def partLen (t : List Nat) : Nat :=
  if headIn (letters ++ digits ++ [95]) t = true then (t.takeWhile inRun).length
  else if S (t.take 2) ∈ longs then 2 else 1
abbrev Tok := Str × V × Nat
def endTok (l : Nat) : Tok := (Str.ofString "end", .str (Str.ofString ""), l)
/-- a token ahead of the others -/
def ahead (kv : Option (Str × V)) (l : Nat) (rest : Except Nat (List Tok)) : Except Nat (List Tok) := match kv with
  | none => .error l
  | some (k, v) => match rest with
    | .error e => .error e
    | .ok ts => .ok ((k, v, l) :: ts)
/-- the tokens of a text that begins in line l; .error: the line of the first part that is none -/
def toks : Nat → Nat → List Nat → Except Nat (List Tok)
  | _, l, [] => .ok [endTok l]
  | 0, l, _ :: _ => .error l
  | f + 1, l, c :: r =>
    if c = 35 then toks f l (r.dropWhile (· ≠ 10))
    else if c = 32 then toks f l r
    else if c = 10 then toks f (l + 1) r
    else ahead (tokOf ((c :: r).take (partLen (c :: r)))) l (toks f l ((c :: r).drop (partLen (c :: r))))
theorem toks_cons (f l c : Nat) (r : List Nat) : toks (f + 1) l (c :: r) = if c = 35 then toks f l (r.dropWhile (· ≠ 10))
    else if c = 32 then toks f l r
    else if c = 10 then toks f (l + 1) r
    else ahead (tokOf ((c :: r).take (partLen (c :: r)))) l (toks f l ((c :: r).drop (partLen (c :: r)))) := by rw [toks]
theorem dropWhile_le {α : Type} (p : α → Bool) : ∀ l : List α, (l.dropWhile p).length ≤ l.length
  | [] => Nat.le_refl _
  | a :: l => by
    rw [List.dropWhile_cons]
    split
    · exact Nat.le_succ_of_le (dropWhile_le p l)
    · exact Nat.le_refl _
theorem inRun_iff (c : Nat) : inRun c = headIn (letters ++ digits ++ [95]) (c :: r) := by
  unfold inRun headIn
  rw [Bool.eq_iff_iff]
  simp [List.mem_append, or_assoc]
theorem partLen_pos (c : Nat) (r : List Nat) : 1 ≤ partLen (c :: r) := by
  unfold partLen
  split
  · rename_i h
    rw [← inRun_iff (r := r)] at h
    rw [List.takeWhile_cons, if_pos h]
    simp
  · split <;> omega
/-- more fuel than signs changes nothing -/
theorem toks_fuel : ∀ (n f : Nat) (l : Nat) (t : List Nat), t.length ≤ n → n ≤ f → toks f l t = toks n l t := by
  intro n
  induction n with
  | zero =>
    intro f l t h1 h2
    cases t with
    | nil => cases f <;> rfl
    | cons c r => simp at h1
  | succ n ih =>
    intro f l t h1 h2
    cases t with
    | nil => cases f <;> rfl
    | cons c r =>
      obtain ⟨g, rfl⟩ : ∃ g, f = g + 1 := ⟨f - 1, by omega⟩
      have hr : r.length ≤ n := by simpa using h1
      have hd : (r.dropWhile (· ≠ 10)).length ≤ n := Nat.le_trans (dropWhile_le _ _) hr
      have hp : ((c :: r).drop (partLen (c :: r))).length ≤ n := by
        have := partLen_pos c r
        rw [List.length_drop, List.length_cons]
        omega
      rw [toks_cons, toks_cons, ih g l _ hd (by omega), ih g l r hr (by omega), ih g (l + 1) r hr (by omega), ih g l _ hp (by omega)]
/-- the tokens of a text that begins in line l -/
def toksT (l : Nat) (t : List Nat) : Except Nat (List Tok) := toks t.length l t
theorem toksT_nil (l : Nat) : toksT l [] = .ok [endTok l] := rfl
theorem toksT_of {f l : Nat} {t : List Nat} (h : t.length ≤ f) : toks f l t = toksT l t := toks_fuel _ f l t (Nat.le_refl _) h
theorem toksT_hash (l : Nat) (r : List Nat) : toksT l (35 :: r) = toksT l (r.dropWhile (· ≠ 10)) := by
  rw [← toksT_of (f := r.length) (dropWhile_le _ _)]
  show toks (r.length + 1) l (35 :: r) = _
  rw [toks_cons, if_pos rfl]
theorem toksT_space (l : Nat) (r : List Nat) : toksT l (32 :: r) = toksT l r := by
  show toks (r.length + 1) l (32 :: r) = _
  rw [toks_cons, if_neg (by decide), if_pos rfl]
  rfl
theorem toksT_nl (l : Nat) (r : List Nat) : toksT l (10 :: r) = toksT (l + 1) r := by
  show toks (r.length + 1) l (10 :: r) = _
  rw [toks_cons, if_neg (by decide), if_neg (by decide), if_pos rfl]
  rfl
theorem toksT_part {l c : Nat} {r : List Nat} (h1 : c ≠ 35) (h2 : c ≠ 32) (h3 : c ≠ 10) :
    toksT l (c :: r) = ahead (tokOf ((c :: r).take (partLen (c :: r)))) l (toksT l ((c :: r).drop (partLen (c :: r)))) := by
  have hp : ((c :: r).drop (partLen (c :: r))).length ≤ r.length := by
    have := partLen_pos c r
    rw [List.length_drop, List.length_cons]
    omega
  show toks (r.length + 1) l (c :: r) = _
  rw [toks_cons, if_neg h1, if_neg h2, if_neg h3, toksT_of hp]
end Tk
set_option Elab.async false
set_option linter.all false
set_option maxRecDepth 100000
set_option maxHeartbeats 4000000
namespace Pk
open PySem PySem.Spec PyProof.Rows L2 SX
/-- a tuple of the written part -/
def TupK (K : PySem.W.Frag) (p : Addr) (xs : List V) : Prop := ∃ (o : Obj) (its : Array Value) (n : Nat), K.lookup p = some o ∧ o.cls = .type "tuple" ∧ o.data = .seq its n ∧ its.size ≤ sizeLine ∧ Vals xs its.toList
theorem TupK.at {K : PySem.W.Frag} {p : Addr} {xs : List V} (h : TupK K p xs) (H : Hp) : SqT K H p xs := .inr h
/-- a def, under its name, that keeps its promise -/
structure Df (P : Program) (w : World) (K : PySem.W.Frag) (mg : Str → Option Value) (base : Heap) (CX : CXT) (k : Nat) (x : Str) (ps : List Str) (sp : Sp) : Prop where
  ex : ∃ (f : Addr) (fd : FuncData), FnOk P w K mg base CX k f fd ps sp ∧ mg x = some (.ref f) ∧ PySem.W.keepIn K (.ref f) = true ∧ Binds K fd ps []
/-- a def of the text as it stands under its name -/
structure AtD (K : PySem.W.Frag) (mg : Str → Option Value) (x : Str) (st : Stmt) (ps : List Str) : Prop where
  ex : ∃ (f : Addr) (fd : FuncData), Fun K x x st f fd ∧ mg x = some (.ref f) ∧ Binds K fd ps []
theorem AtD.df {P : Program} {w : World} {K : PySem.W.Frag} {mg : Str → Option Value} {base : Heap} {CX : CXT} {k : Nat} {x : Str} {st : Stmt} {ps : List Str} {sp : Sp} (A : AtD K mg x st ps)
    (h : ∀ (f : Addr) (fd : FuncData), Fun K x x st f fd → FnOk P w K mg base CX k f fd ps sp) : Df P w K mg base CX k x ps sp := by
  obtain ⟨f, fd, F, g, b⟩ := A.ex
  exact ⟨f, fd, h f fd F, g, F.kp, b⟩
/-! ### values -/
theorem inV_strs {x : Str} : ∀ ws : List Str, inV (.str x) (ws.map V.str) = decide (x ∈ ws)
  | [] => by simp [inV]
  | w :: ws => by
    have ih := inV_strs (x := x) ws
    unfold inV at ih ⊢
    rw [List.map_cons, List.any_cons, ih]
    show ((w == x) || decide (x ∈ ws)) = _
    rw [Bool.eq_iff_iff, Bool.or_eq_true, beq_iff_eq, decide_eq_true_eq, decide_eq_true_eq, List.mem_cons]
    constructor
    · rintro (h | h)
      · exact .inl h.symm
      · exact .inr h
    · rintro (h | h)
      · exact .inl h.symm
      · exact .inr h
theorem inV_int {n : Int} : ∀ ws : List Str, inV (.int n) (ws.map V.str) = false
  | [] => by simp [inV]
  | w :: ws => by
    have ih := inV_int (n := n) ws
    unfold inV at ih ⊢
    rw [List.map_cons, List.any_cons, ih]
    rfl
theorem flat_strs (ws : List Str) : (ws.map V.str).all flatV = true := by
  rw [List.all_eq_true]
  intro x hx
  obtain ⟨y, _, rfl⟩ := List.mem_map.mp hx
  rfl
theorem dcStr {x y : Str} : decide (V.str x = V.str y) = decide (x = y) := by
  by_cases h : x = y
  · rw [h, decide_eq_true rfl, decide_eq_true rfl]
  · rw [decide_eq_false h, decide_eq_false fun z => h (V.str.inj z)]
theorem dcS {a b : List Nat} : decide (S a = S b) = decide (a = b) := by
  by_cases h : a = b
  · rw [h, decide_eq_true rfl, decide_eq_true rfl]
  · rw [decide_eq_false h, decide_eq_false fun z => h (S_inj z)]
/-- s[i:j], s[i:] -/
theorem cut2 (t : List Nat) (i j : Nat) : cutS (S t) (some (i : Int)) (some (j : Int)) = S ((t.drop i).take (j - i)) := by
  have hl : (S t).length = t.length := S_len t
  unfold cutS
  rw [HT.sIx_nat, HT.sIx_nat, hl]
  show S _ = S _
  congr 1
  show ((t.drop (min i t.length)).take (min j t.length - min i t.length)) = _
  by_cases hi : i ≤ t.length
  · rw [Nat.min_eq_left hi]
    by_cases hj : j ≤ t.length
    · rw [Nat.min_eq_left hj]
    · have e : min j t.length = t.length := by omega
      rw [e, List.take_of_length_le (by rw [List.length_drop]; exact Nat.le_refl _), List.take_of_length_le (by rw [List.length_drop]; omega)]
  · have e : min i t.length = t.length := by omega
    rw [e, List.drop_of_length_le (Nat.le_refl _), List.drop_of_length_le (show t.length ≤ i by omega), List.take_nil, List.take_nil]
theorem cut1f (t : List Nat) (i : Nat) : cutS (S t) (some (i : Int)) none = S (t.drop i) := by
  have hl : (S t).length = t.length := S_len t
  unfold cutS
  rw [HT.sIx_nat, HT.sIx_none, hl]
  show S _ = S _
  congr 1
  show ((t.drop (min i t.length)).take (t.length - min i t.length)) = _
  by_cases hi : i ≤ t.length
  · rw [Nat.min_eq_left hi, List.take_of_length_le (by rw [List.length_drop]; exact Nat.le_refl _)]
  · have e : min i t.length = t.length := by omega
    rw [e, List.drop_of_length_le (Nat.le_refl _), List.drop_of_length_le (show t.length ≤ i by omega), List.take_nil]
theorem starts2 (p q : List Nat) : Txt.startswith (S p) (S q) = decide (p.take q.length = q) := by
  unfold Txt.startswith
  rw [S_len, S_len, Nat.zero_add]
  have e : Builtin.Str.subAt (S p) (S q) 0 = decide (p.take q.length = q) := by
    unfold Builtin.Str.subAt
    rw [S_len, Nat.zero_add]
    show (p.toArray.extract 0 q.length == q.toArray) = _
    rw [Bool.eq_iff_iff, beq_iff_eq, decide_eq_true_eq]
    constructor
    · intro h
      have h2 := congrArg Array.toList h
      simpa using h2
    · intro h
      rw [List.extract_toArray]
      simp [h]
  rw [e]
  by_cases h : p.take q.length = q
  · have : q.length ≤ p.length := by
      have := congrArg List.length h
      rw [List.length_take] at this
      omega
    rw [decide_eq_true h, decide_eq_true this]
    rfl
  · rw [decide_eq_false h, Bool.and_false]
theorem takeWhile_self {α : Type} {p : α → Bool} : ∀ {l : List α}, (∀ x ∈ l, p x = true) → l.takeWhile p = l
  | [], _ => rfl
  | a :: l, h => by
    rw [List.takeWhile_cons, if_pos (h a List.mem_cons_self), takeWhile_self fun x hx => h x (List.mem_cons_of_mem _ hx)]
/-- where a sign is found from i on -/
theorem find_sign {t : List Nat} {i : Nat} (c : Nat) (hi : i ≤ t.length) :
    (Txt.find3 (S t) (S [c]) (i : Int) = -1 ∧ (t.drop i).takeWhile (· ≠ c) = t.drop i) ∨
    Txt.find3 (S t) (S [c]) (i : Int) = ((i + ((t.drop i).takeWhile (· ≠ c)).length : Nat) : Int) ∧ i + ((t.drop i).takeWhile (· ≠ c)).length < t.length := by
  have fi : fromIndex (S t).length (i : Int) = i := by
    unfold fromIndex
    rw [if_neg (by omega)]
    omega
  have gd : ∀ v, v < t.length → (S t).cps.getD v 0 = t[v]?.getD 0 := fun v hv => by
    simp [S, Array.getD, hv]
  rcases StrLaws.find3_spec (S t) c (i : Int) with ⟨h1, h2⟩ | ⟨k, h1, h2, h3, h4, h5⟩
  · refine .inl ⟨h1, ?_⟩
    refine takeWhile_self fun x hx => ?_
    obtain ⟨j, hj, rfl⟩ := List.getElem_of_mem hx
    rw [List.length_drop] at hj
    have := h2 (i + j) (by rw [fi]; omega) (by rw [S_len]; omega)
    rw [gd _ (by omega), List.getElem?_eq_getElem (by omega)] at this
    rw [List.getElem_drop]
    exact decide_eq_true this
  · rw [fi] at h2
    rw [S_len] at h3
    have key : ((t.drop i).takeWhile (· ≠ c)).length = k - i := by
      have hk : t.drop i = (t.drop i).take (k - i) ++ t.drop k := by
        have e := (List.take_append_drop (k - i) (t.drop i)).symm
        rw [List.drop_drop, show i + (k - i) = k by omega] at e
        exact e
      rw [hk, List.takeWhile_append_of_pos]
      · rw [List.drop_eq_getElem_cons h3, List.takeWhile_cons]
        have hc : t[k] = c := by
          have := h4
          rw [gd _ h3, List.getElem?_eq_getElem h3] at this
          exact this
        rw [if_neg (by simp [hc]), List.append_nil, List.length_take, List.length_drop]
        omega
      · intro x hx
        obtain ⟨j, hj, rfl⟩ := List.getElem_of_mem hx
        rw [List.length_take, List.length_drop] at hj
        have := h5 (i + j) (by rw [fi]; omega) (by omega)
        rw [gd _ (by omega), List.getElem?_eq_getElem (by omega)] at this
        rw [List.getElem_take, List.getElem_drop]
        exact decide_eq_true this
    refine .inr ⟨?_, ?_⟩
    · rw [h1, key, show i + (k - i) = k by omega]
    · rw [key]
      omega
end Pk
set_option Elab.async false
set_option linter.all false
set_option maxRecDepth 100000
set_option maxHeartbeats 4000000
namespace Pk
open PySem PySem.Spec PyProof.Rows L2 SX GxR
/-! ### all(x in y for x in e), y a captured text -/
/-- the reading: y stands in slot j; behind it the def's table may have grown -/
def tAllC (P : Addr) (j : Nat) (te : TE) : TE := fun σ H Q => te σ H fun v H1 => ∃ a z : Str, v = .str a ∧ σ[j]? = some (some (.str z)) ∧ TabG H1 P ∧
  ∀ H2, Tabbed P H1 H2 → Q (.bl (a.cps.toList.all fun c => decide (c ∈ z.cps.toList))) H2
/-- x in y within the generator: x a sign at the generator's own name, y read off its cell -/
theorem elt_in {prog : Program} {w : World} {A : Around} {E : Value → Shared → Prop} {env : Env} {x y : Str} {q1 q2 q3 : Pos} {s : Shared} {m : Str → Option Value} {c : Nat} {t u : Tok} {z : Str} {ca : Addr}
    (hk : env.scope.kind = .function) (hx : env.scope.names.lookup x = some .local) (hy : env.scope.names.lookup y = some .free) (dx : (x == ("__debug__" : Str)) = false) (dy : (y == ("__debug__" : Str)) = false) (ey : (y == ("__classdict__" : Str)) = false)
    (hn : s.heap.Ns env.locals m) (hm : m x = some (.str ⟨#[c]⟩ t)) (hc : env.cells.lookup y = some ca) (ho : s.heap.IsCell ca (some (.str z u))) :
    wpAny (model prog w) A (eval (.Compare (.Name x q1) [.In] [.Name y q2] q3) env) (fun v s' => v = .bool (decide (c ∈ z.cps.toList)) ∧ Keeps s s') E s := by
  refine wpAny_Compare1 ?_
  refine wpAny_Name (wpAny_loadName_local hk hx hn hm ?_) dx
  refine wpAny_Name (wpAny_loadName_free hk hy hc ho ?_ ey) dy
  refine in_str ⟨?_, keeps_refl s⟩
  have e := in_one z.cps.toList c
  rw [S_tl] at e
  exact congrArg Value.bool e
variable {X : Cx}
/-- the code object of a generator expression: found in the def's table, or made and put there -/
theorem gen_code {pins : List (Addr × Obj)} {σ : L2.St} {H1 : Hp} {s1 : Shared} {c P : Addr} {gpos : Pos} {scope : Scope} {o : Obj} {ps : Array Value} {Q3 : Value → Shared → Prop} {E : Value → Shared → Prop}
    (TB : TabB X.base X.mg c P) (hcode : X.env.code = .ref c) (I1 : L2.Inv X pins σ H1 s1) (hP : H1 P = some (.tbl ps)) (tri : TriplesOk ps.toList)
    (h : ∀ (code : Value) (h3 : Heap) (k3 : Nat) (more : Array Value), Heap.ExtBut P (s1.heap.push o) h3 → s1.heap.objs.size + 1 ≤ h3.objs.size →
      h3.get? P = some { cls := .none, data := .fields (ps ++ more) } → TriplesOk (ps ++ more).toList → Q3 code { s1 with heap := h3, toks := k3 }) :
    wpAny (model X.prog X.w) X.A (genexprCode X.env gpos (X.env.qual ++ "<genexpr>") scope) Q3 E { s1 with heap := s1.heap.push o } := by
  have atP : s1.heap.get? P = some { cls := .none, data := .fields ps } := I1.hok P _ hP
  have atP2 : (s1.heap.push o).get? P = some { cls := .none, data := .fields ps } := Heap.get?_push_of_some _ atP
  have hd2 : PySem.W.CodeHd (s1.heap.push o) c P := TB.code.keeps fun b u e => Heap.get?_push_of_some _ (I1.bk b u e)
  have sz2 : (s1.heap.push o).objs.size = s1.heap.objs.size + 1 := Heap.size_push ..
  cases found : codeAmong gpos ps.toList with
  | some cv =>
    apply wpAny_genexprCode_hit hcode (hd2.code atP2 tri) found
    refine h cv (s1.heap.push o) s1.toks #[] (Heap.ExtBut.refl _ _) (Nat.le_of_eq sz2.symm) ?_ ?_
    · rw [Array.append_empty]
      exact atP2
    · rw [Array.append_empty]
      exact tri
  | none =>
    apply wpAny_genexprCodeX hcode (hd2.code atP2 tri) (hd2.tab atP2) found
    intro c' h' tk hx hge hlt hco' _ htab' _
    obtain ⟨o1, vs, f1, tf, fl, tg, inF, tx, tt, op, _, _, _, _, _, _, _, _, _, htr, _⟩ := hco'
    refine h _ h' tk _ hx ?_ htab'.2 htr
    have l1 : (s1.heap.push o).objs.size ≤ h'.objs.size := Nat.le_trans hge (Nat.le_of_lt hlt)
    rw [sz2] at l1
    exact l1
theorem pe_allC {c P : Addr} {part : Expr} {x y : Str} {j k : Nat} {q1 q2 q3 px pa gpos pos : Pos} {scope : Scope} {te : TE}
    (hr : Room k X.A) (hg : Gl X "all") (zAll : X.mg "all" = none) (bAll : bootBuiltins "all" = some (.builtin "all")) (TB : TabB X.base X.mg c P) (hcode : X.env.code = .ref c) (S : GenS X.env scope x)
    (hi : PE X part te) (hN : X.N[j]? = some y) (hy : X.env.scope.names.lookup y = some .cell) (fy : scope.names.lookup y = some .free)
    (clo : ∀ (cells : List (Str × Addr)) (ca : Addr), cells.lookup y = some ca → (cloFrom cells scope.names []).lookup y = some ca)
    (dx : (x == ("__debug__" : Str)) = false) (dy : (y == ("__debug__" : Str)) = false) (ey : (y == ("__classdict__" : Str)) = false) (hf : ∀ v, genFold part X.env v = pure v)
    (he : starEach [.GeneratorExp (.Compare (.Name x q1) [.In] [.Name y q2] q3) [⟨.Name x px, part, [], 0⟩] scope gpos] X.env =
      (false, eval (.GeneratorExp (.Compare (.Name x q1) [.In] [.Name y q2] q3) [⟨.Name x px, part, [], 0⟩] scope gpos) X.env) :: starEach [] X.env := by rfl) :
    PE X (.Call (.Name "all" pa) [.GeneratorExp (.Compare (.Name x q1) [.In] [.Name y q2] q3) [⟨.Name x px, part, [], 0⟩] scope gpos] [] pos) (tAllC P j te) := by
  constructor
  intro pins s σ H Q I hQ
  have dep := hr.dp
  apply wpAny_Call_Name_kw
  apply ld_blt I hg zAll bAll
  · apply PyProof.Rows.callWith_builtin1 _ he (by rfl)
    rw [he]
    show wpAny _ _ (spliced ((false, eval (.GeneratorExp _ _ scope gpos) X.env) :: backTo pos (starEach [] X.env))) _ _ s
    apply Calls.spliced_cons
    apply wpAny_GeneratorExp_walksQ hr.hd S.co (closure_ok S.free) S.cell S.dot S.loc S.kind (by omega) _ hf
    refine wpAny_mono (hi.run pins s σ H _ I hQ) (fun pv s1 w1 => ?_) fun _ _ e => e
    obtain ⟨v, H1, I1, r1, a, z, ev, hz, ⟨ps, hP, tri⟩, q1⟩ := w1
    subst ev
    obtain ⟨ta, ea⟩ : ∃ t, pv = Value.str a t := r1
    subst ea
    -- the cell of y, and what is in it
    obtain ⟨mL, nsL, look⟩ := I1.loc
    obtain ⟨uz, rz, lk⟩ := look j y (.str z) hN hz (.inr (.inl hy))
    obtain ⟨tz, euz⟩ : ∃ t, uz = Value.str z t := rz
    subst euz
    have cellY : ∃ ca, X.env.cells.lookup y = some ca ∧ s1.heap.IsCell ca (some (.str z tz)) := by
      cases lk with
      | inl l =>
        have l1 : X.env.scope.names.lookup y = some .local := l.1
        rw [hy] at l1
        cases l1
      | inr l => exact l.2
    obtain ⟨ca, hca, isC⟩ := cellY
    apply wpAny_pyIter_str
    intro o St W hst
    refine ⟨I1.nolimit.push o, gen_code TB hcode I1 hP tri fun code h3 k3 more ext le3 atP3 tri3 => ?_⟩
    have atP : s1.heap.get? P = some { cls := .none, data := .fields ps } := I1.hok P _ hP
    have notP : ∀ b, s1.heap.objs.size ≤ b → b ≠ P := fun b hb e => by
      have := Heap.lt_size atP
      rw [← e] at this
      exact absurd (Nat.lt_of_lt_of_le this hb) (Nat.lt_irrefl _)
    have keep3 : ∀ b u, b ≠ P → s1.heap.get? b = some u → h3.get? b = some u := fun b u n e => ext b u n (Heap.get?_push_of_some _ e)
    have stat : cStatics < s1.heap.objs.size ∧ cStatics ≠ P := by
      obtain ⟨_, ns1, _⟩ := I1.nolimit
      refine ⟨ns1.lt, fun e => ?_⟩
      obtain ⟨o', es, ep, ho, hd, _⟩ := ns1
      rw [e, atP] at ho
      cases ho
      cases hd
    have cellP : ca ≠ P := fun e => by
      obtain ⟨oc, h1, h2⟩ := isC
      rw [e, atP] at h1
      cases h1
      cases h2
    obtain ⟨bm, ob, b1, b2, b3, b4, b5, b6, b7, b8⟩ := TB.bm
    have glob2 := (I1.mod.glob.keeps I1.bk).push o
    rw [← I1.ok.glob] at glob2
    refine wpAny_builtinsFor (m := X.mg) (glob2.extBut ext (by rw [I1.ok.glob]; exact TB.gP)) b1 b2 (keep3 _ _ b4 (I1.bk _ _ b5)) b6 b7 b8 ?_
    let it := s1.heap.objs.size
    refine ⟨it, [it], [it], a.cps.size, SignAt a, St, fun _ => true, fun i v => ∃ cc, a.cps[i]? = some cc ∧ v = .bool (decide (cc ∈ z.cps.toList)), rfl, W, ?_, ?_, (I1.nolimit.push o).extBut ext stat.2, ?_, ?_, ?_⟩
    · refine (W X.A hr.hd).frame _ _ _ hst fun b hb u e => ext b u ?_ e
      obtain rfl : b = it := List.mem_singleton.mp hb
      exact notP _ (Nat.le_refl _)
    · intro b hb
      obtain rfl : b = it := List.mem_singleton.mp hb
      exact le3
    · intro hb
      have e : cStatics = it := List.mem_singleton.mp hb
      have := stat.1
      rw [e] at this
      exact Nat.lt_irrefl _ this
    · intro href hhref
      have cell3 : href.get? ca = h3.get? ca ∧ ca < h3.objs.size ∧ ca ∉ [it] := by
        obtain ⟨oc, h1, h2⟩ := isC
        have l1 := Heap.lt_size h1
        have e3 := keep3 ca oc cellP h1
        refine ⟨(hhref ca oc e3).trans e3.symm, Nat.lt_of_lt_of_le l1 (Nat.le_of_succ_le le3), fun hm => ?_⟩
        have e : ca = it := List.mem_singleton.mp hm
        rw [e] at l1
        exact Nat.lt_irrefl _ l1
      refine ⟨fun A' E' i v s₂ m₂ hA hPv hn hm hk => ?_, fun A' E' i v s₂ m₂ hA hPv hp hn hm hk => ?_⟩
      · simp only [List.forIn_nil]
        exact wpAny_pure ⟨rfl, keeps_refl _⟩
      · obtain ⟨cc, u, hcc, rfl⟩ := hPv
        have isC2 : s₂.heap.IsCell ca (some (.str z tz)) := by
          obtain ⟨oc, h1, h2⟩ := isC
          exact ⟨oc, hk ca (List.mem_range.mpr cell3.2.1) cell3.2.2 oc (by rw [cell3.1]; exact keep3 ca oc cellP h1), h2⟩
        refine wpAny_mono (elt_in (s := s₂) (m := m₂) (c := cc) (t := u) (u := tz) (z := z) (ca := ca) S.kind S.loc fy dx dy ey hn hm (clo _ _ hca) isC2) (fun v s3 r => ⟨⟨cc, hcc, r.1⟩, r.2⟩) fun _ _ e => e
    · intro g h5 tk5 gs hgb hag hsz5 hk5 W5 hat
      simp only [GxR.passing_true, List.length_range] at W5
      have WS := W5.in4_1
      refine Calls.spliced_nil (call_all_walkS (WS.self 0 _ _ _ hat ⟨g, _, _, _, _, _, _, trF (fun c => decide (c ∈ z.cps.toList)) a.cps.toList, rfl, WS, hat, ?_, fun s' hmv => ?_⟩))
      · intro i v si Qi Ei hv hQi
        obtain ⟨i', hi', cc, hcc, rfl⟩ := hv
        obtain ⟨hlt, ei⟩ := List.getElem?_eq_some_iff.mp hi'
        rw [List.getElem_range] at ei
        subst ei
        have hQ2 : Qi (trF (fun c => decide (c ∈ z.cps.toList)) a.cps.toList i) si := hQi
        rw [trF_some (show a.cps.toList[i]? = some cc by rw [Array.getElem?_toList]; exact hcc)] at hQ2
        exact wpAny_truthy_bool hQ2
      · have fresh : ∀ b u, s1.heap.get? b = some u → b ∉ h3.objs.size :: [it] := fun b u e hb => by
          have hl : b < it := Heap.lt_size e
          rcases List.mem_cons.mp hb with z1 | z1
          · have le4 : it + 1 ≤ h3.objs.size := le3
            rw [z1] at hl
            exact absurd (Nat.lt_of_lt_of_le hl (Nat.le_of_succ_le le4)) (Nat.lt_irrefl _)
          · have e1 : b = it := List.mem_singleton.mp z1
            rw [e1] at hl
            exact Nat.lt_irrefl _ hl
        have J := inv_tab (more := more) (h' := s'.heap) (g' := s'.gens) (d' := s'.drawn) (t' := s'.toks) I1 hP (fun b u n e => hmv.heap b u (fresh b u e) (hk5 b u (keep3 b u n e)))
          (hmv.heap P _ (fresh P _ atP) (hk5 P _ atP3)) (AllBare.movedS (I1.bare.push hgb) hmv)
        rw [sh_eta s1 s' hmv.os] at J
        have fin := q1 (upd H1 P (.tbl (ps ++ more))) ⟨⟨_, upd_same, tri3⟩, fun b hb => upd_ne hb⟩
        rw [← all_signs a (fun c => decide (c ∈ z.cps.toList))] at fin
        exact ⟨.bl _, _, J, rfl, fin⟩
end Pk
set_option Elab.async false
set_option linter.all false
set_option maxRecDepth 100000
set_option maxHeartbeats 4000000
namespace Pk
open PySem PySem.Spec PyProof.Rows L2
def topS (i : Nat) : Stmt := PySem.Challenge.pw_wholepackets_k01_tokens_of_a_text.main.body.getD i (.Pass ⟨0, 0, 0, 0⟩)
abbrev sState : Stmt := topS 25
abbrev sDraw : Stmt := topS 26
abbrev sPick : Stmt := topS 27
theorem scState : FnScope ["script", "seed", "cell"] ["script"] (defScope sState) := ⟨rfl, rfl, rfl, by decide +kernel, rfl, by decide +kernel, by decide +kernel⟩
theorem scDraw : FnScope ["state", "many", "cells", "value", "mixed"] ["state", "many"] (defScope sDraw) := ⟨rfl, rfl, rfl, by decide +kernel, rfl, by decide +kernel, by decide +kernel⟩
theorem scPick : FnScope ["state", "row"] ["state", "row"] (defScope sPick) := ⟨rfl, rfl, rfl, by decide +kernel, rfl, by decide +kernel, by decide +kernel⟩
section
variable {P : Program} {w : World} {K : PySem.W.Frag} {mg : Str → Option Value} {base : Heap}
theorem map_at {ns : List Int} {i : Nat} {y : V} (h : (ns.map V.int)[i]? = some y) : ∃ z, ns[i]? = some z ∧ y = V.int z := by
  rw [List.getElem?_map] at h
  cases e : ns[i]? with
  | none => rw [e] at h; cases h
  | some z => rw [e] at h; exact ⟨z, rfl, (Option.some.inj h).symm⟩
def absI (z : Int) : Int := if z < 0 then -z else z
theorem ok_state {f : Addr} {fd : FuncData} {k : Nat} (F : Fun K "_law_state" "_law_state" sState f fd) (T : Blt mg) : FnOk P w K mg base CX0 (k + 1) f fd ["script"] (spState K) := by
  refine F.ok scState (fun vs H Q E h => ?_) (fun cdv A outer s H vs Q E hr h => ?_)
  · obtain ⟨a, ns, rfl, _⟩ := h
    rfl
  · obtain ⟨a, ns, rfl, hS, hn, q⟩ := h
    refine ⟨_, pss_cons (ps_set (i := 1) scState.nd rfl (.inl rfl) pe_int)
      (pss_cons (ps_for PassesOwn.never rfl (pi_list (pv 0)) (pg_name (i := 2) scState.nd rfl (.inl rfl))
        (pss_one (ps_set (i := 1) scState.nd rfl (.inl rfl) (pe_op op_mod (pe_callTy call_int1 (by rfl) T.zInt (by decide +kernel) (pa_cons (pe_op op_add (pe_op op_mul (pv 1) pe_int) (pv 2)) pa_nil)) pe_int))))
      (pss_one (ps_ret (pe_lst (pa_cons (pe_lc (own := [("cell", 2)]) (g := gName 2) (tt := tYes) rfl scState.nd (pi_list (pv 0)) (blkOk_by (N := ["script", "seed", "cell"]) (sc := defScope sState) (by decide +kernel))
        (fun _ _ _ _ _ => pg_name (i := 2) scState.nd rfl (Or.inl rfl)) (fun _ _ _ _ _ => pts_nil) (fun _ _ _ _ _ => pe_callB call_abs (by rfl) T.zAbs (by decide +kernel) (pa_cons (pv 2) pa_nil)))
        (pa_cons (pe_op op_add (pv 1) pe_int) pa_nil)))))), ?_⟩
    refine ⟨_, rfl, a, rfl, ⟨_, hS⟩, for_list (K := K) (a := a) (xs := ns.map V.int) (fun i σ H' => ∃ (sd : Int) (v : Option V), σ = [some (.ref a), some (.int sd), v] ∧ H' = H ∧ 0 ≤ sd ∧ sd < 1000003)
      ⟨7, none, rfl, rfl, by decide, by decide⟩ (fun i σ H' _ ⟨_, _, _, e, _⟩ => by subst e; exact hS) ?_ ?_⟩
    · rintro i y σ H' hi ⟨sd, v, rfl, rfl, h0, h1⟩
      obtain ⟨z, _, rfl⟩ := map_at hi
      refine ⟨_, rfl, _, _, rfl, rfl, .inl ⟨by omega, by omega⟩, _, rfl, _, _, rfl, rfl, .inl ⟨_, rfl, _, _, rfl, rfl, (by show (0 : Int) < 1000003; decide), ?_⟩⟩
      exact ⟨_, _, rfl, rfl, Int.emod_nonneg _ (by decide), Int.emod_lt_of_pos _ (by decide)⟩
    · rintro σ H' ⟨sd, v, rfl, rfl, h0, h1⟩
      refine ⟨_, rfl, a, rfl, ⟨_, hS⟩, fun D hD => lc_list (K := K) (a := a) (xs := ns.map V.int) (fun i H2 => Same H' H2 ∧ H2 D = some (.lst ((ns.take i).map fun z => V.int (absI z))))
        ⟨same_new hD, upd_same⟩ (fun i H2 _ h => h.1.seq hS) ?_ ?_⟩
      · rintro i y H2 hi ⟨k1, k2⟩
        obtain ⟨z, hz, rfl⟩ := map_at hi
        refine ⟨rfl, ⟨_, rfl, _, rfl, _, k2, ?_, fun b o e => ?_, ?_⟩⟩
        · rw [List.length_map, List.length_take]
          exact Nat.lt_of_le_of_lt (Nat.min_le_right _ _) (small1000 (by omega))
        · rw [upd_ne (ne_of_none e hD)]
          exact k1 b o e
        · rw [upd_same, List.take_add_one, hz, List.map_append]
          rfl
      · rintro H2 ⟨k1, k2⟩
        refine ⟨_, rfl, _, _, rfl, rfl, (by show 2 ≤ sizeLine; decide), fun p hp => ?_⟩
        have e : (ns.map V.int).length = ns.length := List.length_map ..
        rw [e, List.take_length] at k2
        have npD : D ≠ p := ne_of_none k2 hp
        refine q _ p D (k1.trans (same_new hp)) (k1.free hp) hD ⟨ns.map absI, sd + 1, upd_same, ?_, ?_, by omega, by omega⟩
        · rw [upd_ne npD, k2, List.map_map]
          rfl
        · intro z hz
          obtain ⟨y, _, rfl⟩ := List.mem_map.mp hz
          unfold absI
          split <;> omega
theorem ok_draw {f : Addr} {fd : FuncData} {k : Nat} (F : Fun K "_law_draw" "_law_draw" sDraw f fd) (T : Blt mg) : FnOk P w K mg base CX0 (k + 1) f fd ["state", "many"] spDraw := by
  refine F.ok scDraw (fun vs H Q E h => ?_) (fun cdv A outer s H vs Q E hr h => ?_)
  · obtain ⟨s, c, many, rfl, _⟩ := h
    rfl
  · obtain ⟨s, c, many, rfl, hS, hm0, hm1, q⟩ := h
    refine ⟨_, pss_cons (ps_set (i := 2) scDraw.nd rfl (.inl rfl) (pe_ix ix_list (pv 0) pe_int (fun _ _ => rfl)))
      (pss_cons (ps_while PassesOwn.never (PW.pt (pw_and (pt_cmpR op_gt (pe_callB call_len_seq (by rfl) T.zLen PySem.boot_len (pa_cons (pv 2) pa_nil)) pe_int (nomark _)) (pw_and1 (pt_cmpR op_eq (pe_ix ix_list (pv 2) pe_int (fun _ _ => rfl)) pe_int (nomark _)))))
        (pss_one (ps_expr (pe_bm PySem.F.plainAttrs_list PySem.F.slot_list_pop PySem.F.type_list_pop mt_popAt (pv 2) (pa_cons pe_int pa_nil)))))
      (pss_cons (ps_if (pt_cmpR op_gt (pe_callB call_len_seq (by rfl) T.zLen PySem.boot_len (pa_cons (pv 2) pa_nil)) pe_int (nomark _))
        (pss_cons (ps_set (i := 3) scDraw.nd rfl (.inl rfl) (pe_ix ix_list (pv 2) pe_int (fun _ _ => rfl)))
        (pss_cons (ps_asg (pe_op op_fdivW (pv 3) (pv 1)) (pg_sub (pv 2) pe_int set_list))
        (pss_one (ps_ret (pe_op op_mod (pe_callTy call_int1 (by rfl) T.zInt (by decide +kernel) (pa_cons (pv 3) pa_nil)) (pv 1)))))) pss_nil)
      (pss_cons (ps_set (i := 4) scDraw.nd rfl (.inl rfl) (pe_op op_mod (pe_callTy call_int1 (by rfl) T.zInt (by decide +kernel) (pa_cons (pe_op op_add (pe_op op_mul (pe_ix ix_list (pv 0) pe_int (fun _ _ => rfl)) pe_int) pe_int) pa_nil)) pe_int))
      (pss_cons (ps_asg (pv 4) (pg_sub (pv 0) pe_int set_list))
      (pss_one (ps_ret (pe_op op_mod (pe_callTy call_int1 (by rfl) T.zInt (by decide +kernel) (pa_cons (pe_op op_fdivW (pv 4) pe_int) pa_nil)) (pv 1)))))))), ?_⟩
    have hSC := hS
    have hne := hS.ne
    obtain ⟨cells, seed, h1, h2, h3, h4, h5⟩ := hS
    refine ⟨.ref s, rfl, s, _, _, _, rfl, rfl, SqL.of h1, atI_nat (j := 0) rfl, ?_⟩
    -- the while: cells lose their zeros
    refine ⟨fun m σ H' => ∃ cs : List Int, m = cs.length ∧ σ = [some (.ref s), some (.int many), some (.ref c), none, none] ∧ H' s = some (.lst [.ref c, .int seed]) ∧ H' c = some (.lst (cs.map V.int)) ∧ (∀ z ∈ cs, 0 ≤ z) ∧ Kp s c H H',
      ⟨cells.length, cells, rfl, rfl, h1, h2, h3, Kp.refl _ _ _⟩, ?_⟩
    rintro m σ H' ⟨cs, rfl, rfl, g1, g2, g3, g4⟩
    refine ⟨.ref c, rfl, c, _, rfl, .inl (SqL.of g2), _, _, rfl, rfl, _, rfl, ?_⟩
    cases cs with
    | nil =>
      refine iteDF (by decide) (iteF ?_)
      -- no cell is left: mixed
      refine ⟨.ref c, rfl, c, _, rfl, .inl (SqL.of g2), _, _, rfl, rfl, _, rfl, iteDF (by decide) ?_⟩
      refine ⟨.ref s, rfl, s, _, _, _, rfl, rfl, SqL.of g1, atI_nat (j := 1) rfl, _, _, rfl, rfl, .inl ⟨by omega, by omega⟩, _, _, rfl, rfl, .inl ⟨_, rfl, _, _, rfl, rfl, (by show (0 : Int) < 2147483647; decide), ?_⟩⟩
      have b0 : 0 ≤ (seed * 48271 + 12345) % 2147483647 := Int.emod_nonneg _ (by decide)
      have b1 : (seed * 48271 + 12345) % 2147483647 < 2147483647 := Int.emod_lt_of_pos _ (by decide)
      refine ⟨_, rfl, .ref s, rfl, s, _, _, 1, rfl, rfl, g1, rfl, ?_⟩
      refine ⟨_, rfl, _, _, rfl, rfl, ⟨by decide, by decide⟩, .inl ⟨_, rfl, _, rfl, _, _, rfl, rfl, hm0, ?_⟩⟩
      refine q _ _ (Int.emod_nonneg _ (by omega)) (Int.emod_lt_of_pos _ hm0) ⟨[], _, upd_same, ?_, fun z hz => absurd hz (by simp), b0, by omega⟩ fun b o n1 n2 e => ?_
      · rw [upd_ne (Ne.symm hne)]
        exact g2
      · rw [upd_ne n1]
        exact g4 b o n1 n2 e
    | cons z r =>
      refine iteDT (by rw [List.length_map, List.length_cons]; omega) ?_
      refine ⟨.ref c, rfl, c, _, _, _, rfl, rfl, SqL.of g2, atI_nat (j := 0) rfl, rfl, _, rfl, ?_⟩
      rw [dcInt]
      refine iteD (fun hz => ?_) fun hz => ?_
      · -- a zero is dropped
        refine ⟨fun σ' H' => ∃ m', m' < (z :: r).length ∧ ∃ cs : List Int, m' = cs.length ∧ σ' = [some (.ref s), some (.int many), some (.ref c), none, none] ∧ H' s = some (.lst [.ref c, .int seed]) ∧ H' c = some (.lst (cs.map V.int)) ∧ (∀ z ∈ cs, 0 ≤ z) ∧ Kp s c H H',
          fun _ _ h => h, ?_⟩
        refine ⟨.ref c, rfl, .inl ⟨rfl, _, SqL.of g2⟩, c, _, _, 0, _, rfl, rfl, g2, by decide, by decide, ?_, rfl, r.length, by rw [List.length_cons]; omega, r, rfl, rfl, ?_, ?_, fun y hy => g3 y (List.mem_cons_of_mem _ hy), fun b o n1 n2 e => ?_⟩
        · exact PySem.StrLaws.seqIndex_nonneg (Int.le_refl 0) (by rw [List.length_map, List.length_cons]; omega)
        · rw [upd_ne hne]
          exact g1
        · rw [upd_same]
          rfl
        · rw [upd_ne n2]
          exact g4 b o n1 n2 e
      · -- the first cell is drawn from
        refine ⟨.ref c, rfl, c, _, rfl, .inl (SqL.of g2), _, _, rfl, rfl, _, rfl, iteDT (by rw [List.length_map, List.length_cons]; omega) ?_⟩
        have z0 := g3 z List.mem_cons_self
        refine ⟨.ref c, rfl, c, _, _, _, rfl, rfl, SqL.of g2, atI_nat (j := 0) rfl, ?_⟩
        refine ⟨_, rfl, _, rfl, _, _, rfl, rfl, wide_div (b := 41) hm0 (by omega) (by decide) (by decide), .ref c, rfl, c, _, _, 0, rfl, rfl, g2, ?_, ?_⟩
        · rw [List.length_map, List.length_cons]
          unfold ixN
          rw [if_pos (Int.le_refl 0), if_pos (by omega)]
          rfl
        refine ⟨_, rfl, .inl ⟨_, rfl, _, rfl, _, _, rfl, rfl, hm0, ?_⟩⟩
        refine q _ _ (Int.emod_nonneg _ (by omega)) (Int.emod_lt_of_pos _ hm0) ⟨z / many :: r, seed, ?_, ?_, ?_, h4, h5⟩ fun b o n1 n2 e => ?_
        · rw [upd_ne hne]
          exact g1
        · rw [upd_same]
          rfl
        · intro y hy
          rcases List.mem_cons.mp hy with rfl | hy
          · exact Int.ediv_nonneg z0 (by omega)
          · exact g3 y (List.mem_cons_of_mem _ hy)
        · rw [upd_ne n2]
          exact g4 b o n1 n2 e
theorem ok_pick {f fD : Addr} {fd fdD : FuncData} {k : Nat} (F : Fun K "_law_pick" "_law_pick" sPick f fd) (T : Blt mg) (G : FnOk P w K mg base CX0 (k + 1) fD fdD ["state", "many"] spDraw)
    (gD : mg "_law_draw" = some (.ref fD)) (kD : PySem.W.keepIn K (.ref fD) = true) (bD : Binds K fdD ["state", "many"] []) : FnOk P w K mg base CX0 (k + 2) f fd ["state", "row"] (spPick K) := by
  refine F.ok scPick (fun vs H Q E h => ?_) (fun cdv A outer s H vs Q E hr h => ?_)
  · obtain ⟨s, c, p, xs, rfl, _⟩ := h
    rfl
  · obtain ⟨s, c, p, xs, rfl, hS, hL, n1, n2, l0, l1, q⟩ := h
    refine ⟨_, pss_one (ps_ret (pe_ix ix_list (pv 1) (pe_call G hr (by rfl) gD kD bD .nil pass0 (pa_cons (pv 0) (pa_cons (pe_callB call_len_seq (by rfl) T.zLen PySem.boot_len (pa_cons (pv 1) pa_nil)) pa_nil))) (fun _ _ => rfl))), ?_⟩
    refine ⟨.ref p, rfl, .ref s, rfl, .ref p, rfl, p, xs, rfl, .inl hL, s, c, xs.length, rfl, hS, by omega, by omega, fun H' r r0 r1 hS' k' => ?_⟩
    obtain ⟨j, rfl⟩ : ∃ j : Nat, r = (j : Int) := ⟨r.toNat, by omega⟩
    have hj : j < xs.length := by omega
    have e : xs[j]? = some xs[j] := List.getElem?_eq_getElem hj
    exact ⟨p, xs, _, _, rfl, rfl, k'.seq hL n1 n2, atI_nat e, q H' j _ e hS' k'⟩
end
end Pk
set_option Elab.async false
set_option linter.all false
set_option maxRecDepth 100000
set_option maxHeartbeats 4000000
namespace Pk
open PySem PySem.Spec PyProof.Rows L2 SX GxR Tk
abbrev sIsRes : Stmt := topS 14
abbrev sTokenize : Stmt := topS 15
abbrev sComEnd : Stmt := topS 16
abbrev sPartEnd : Stmt := topS 17
abbrev sInRun : Stmt := topS 18
abbrev sTokenOf : Stmt := topS 19
abbrev sIsNum : Stmt := topS 20
abbrev sIsDec : Stmt := topS 21
abbrev sNumVal : Stmt := topS 22
abbrev sCons : Stmt := topS 23
theorem scIsRes : FnScope ["name"] ["name"] (defScope sIsRes) := ⟨rfl, rfl, rfl, by decide +kernel, rfl, by decide +kernel, by decide +kernel⟩
theorem scTokenize : FnScope ["text", "tokens", "line", "at", "char", "end"] ["text"] (defScope sTokenize) := ⟨rfl, rfl, rfl, by decide +kernel, rfl, by decide +kernel, by decide +kernel⟩
theorem scComEnd : FnScope ["text", "at", "end"] ["text", "at"] (defScope sComEnd) := ⟨rfl, rfl, rfl, by decide +kernel, rfl, by decide +kernel, by decide +kernel⟩
theorem scPartEnd : FnScope ["text", "at", "end"] ["text", "at"] (defScope sPartEnd) := ⟨rfl, rfl, rfl, by decide +kernel, rfl, by decide +kernel, by decide +kernel⟩
theorem scInRun : FnScope ["char"] ["char"] (defScope sInRun) := ⟨rfl, rfl, rfl, by decide +kernel, rfl, by decide +kernel, by decide +kernel⟩
theorem scTokenOf : FnScope ["part", "line"] ["part", "line"] (defScope sTokenOf) := ⟨rfl, rfl, rfl, by decide +kernel, rfl, by decide +kernel, by decide +kernel⟩
theorem scIsNum : FnScope ["part", "digits"] ["part"] (defScope sIsNum) := ⟨rfl, rfl, rfl, by decide +kernel, rfl, by decide +kernel, by decide +kernel⟩
theorem scIsDec : FnScope ["part"] ["part"] (defScope sIsDec) := ⟨rfl, rfl, rfl, by decide +kernel, rfl, by decide +kernel, by decide +kernel⟩
theorem scNumVal : FnScope ["part"] ["part"] (defScope sNumVal) := ⟨rfl, rfl, rfl, by decide +kernel, rfl, by decide +kernel, by decide +kernel⟩
theorem scCons : FnScope ["part", "chars"] ["part", "chars"] (defScope sCons) := ⟨rfl, rfl, rfl, by decide +kernel, rfl, by decide +kernel, by decide +kernel⟩
/-- the constants of the program's top -/
structure Tx (K : PySem.W.Frag) (mg : Str → Option Value) : Prop where
  zInt : mg "int" = none
  zLen : mg "len" = none
  zAll : mg "all" = none
  RES : ∃ p, mg "RESERVED" = some (.ref p) ∧ TupK K p (words.map V.str)
  LNG : ∃ p, mg "LONG_SIGNS" = some (.ref p) ∧ TupK K p (longs.map V.str)
  SHT : ∃ p, mg "SHORT_SIGNS" = some (.ref p) ∧ TupK K p (shorts.map V.str)
  LET : ∃ u, mg "LETTERS" = some u ∧ RelV (.str lettersS) u
  DIG : ∃ u, mg "DIGITS" = some u ∧ RelV (.str digitsS) u
  HEX : ∃ u, mg "HEX_DIGITS" = some u ∧ RelV (.str hexS) u
  LNM : ∃ u, mg "LONGEST_NAME" = some u ∧ RelV (.int 16) u
  MDG : ∃ u, mg "MOST_DIGITS" = some u ∧ RelV (.int 10) u
  MHX : ∃ u, mg "MOST_HEX_DIGITS" = some u ∧ RelV (.int 8) u
  GRT : ∃ u, mg "GREATEST_NUMBER" = some u ∧ RelV (.int 4294967295) u
/-! ### promises -/
def spIsRes : Sp := fun vs H Q _ => ∃ x : Str, vs = [.str x] ∧ Q (.bl (decide (x ∈ words))) H
def spInRun : Sp := fun vs H Q _ => ∃ c : Nat, vs = [.str (S [c])] ∧ Q (.bl (inRun c)) H
/-- where the comment ends that begins at i -/
def comLen (t : List Nat) : Nat := (t.takeWhile (· ≠ 10)).length
def spComEnd : Sp := fun vs H Q _ => ∃ (t : List Nat) (i : Nat), vs = [.str (S t), .int i] ∧ i ≤ t.length ∧ t.length ≤ 16000000 ∧ Q (.int ((i + comLen (t.drop i) : Nat) : Int)) H
def spPartEnd : Sp := fun vs H Q _ => ∃ (t : List Nat) (i : Nat), vs = [.str (S t), .int i] ∧ i < t.length ∧ t.length ≤ 16000000 ∧ Q (.int ((i + partLen (t.drop i) : Nat) : Int)) H
def spCons (P : Addr) : Sp := fun vs H Q _ => ∃ (p : List Nat) (z : Str), vs = [.str (S p), .str z] ∧ TabG H P ∧ ∀ H', Tabbed P H H' → Q (.bl (allIn p z.cps.toList)) H'
def spIsNum (P : Addr) : Sp := fun vs H Q _ => ∃ p : List Nat, vs = [.str (S p)] ∧ p ≠ [] ∧ p.length ≤ 16000000 ∧ TabG H P ∧ ∀ H', Tabbed P H H' → Q (.bl (isNum p)) H'
/-- a number in decimal digits that is not too great -/
def isDec (p : List Nat) : Bool :=
  if p.take 1 = [48] then decide (p = [48])
  else if 1 ≤ p.length ∧ p.length ≤ 10 then allIn p digits && decide (NumText.digitsVal p ≤ 4294967295) else false
def spIsDec (P : Addr) : Sp := fun vs H Q _ => ∃ p : List Nat, vs = [.str (S p)] ∧ p.length ≤ 16000000 ∧ TabG H P ∧ ∀ H', Tabbed P H H' → Q (.bl (isDec p)) H'
theorem isDec_num {p : List Nat} (hne : p ≠ []) (hx : ¬ isHexed p = true) : isNum p = isDec p := by
  have h0 : 1 ≤ p.length := by
    cases p with
    | nil => exact absurd rfl hne
    | cons a r => rw [List.length_cons]; omega
  unfold isNum isDec
  rw [if_neg hx]
  by_cases h1 : p.take 1 = [48]
  · rw [if_pos h1, if_pos h1]
  · rw [if_neg h1, if_neg h1]
    by_cases h2 : 10 < p.length
    · rw [if_pos h2, if_neg (by omega)]
    · rw [if_neg h2, if_pos ⟨h0, by omega⟩]
def spNumVal : Sp := fun vs H Q _ => ∃ p : List Nat, vs = [.str (S p)] ∧ p ≠ [] ∧ isNum p = true ∧ Q (.int (numVal p)) H
section
variable {P : Program} {w : World} {K : PySem.W.Frag} {mg : Str → Option Value} {base : Heap}
theorem ok_isres {f : Addr} {fd : FuncData} {k : Nat} (F : Fun K "is_reserved" "is_reserved" sIsRes f fd) (T : Tx K mg) : FnOk P w K mg base CX0 (k + 1) f fd ["name"] spIsRes := by
  obtain ⟨p, gp, tp⟩ := T.RES
  refine F.ok scIsRes (fun vs H Q E h => ?_) (fun cdv A outer s H vs Q E hr h => ?_)
  · obtain ⟨x, rfl, _⟩ := h
    rfl
  · obtain ⟨x, rfl, q⟩ := h
    refine ⟨_, pss_one (ps_ret (pe_cmpR op_in_seq (pv 0) (pe_glob (v := .ref p) rfl gp rfl) (by rfl))), ?_⟩
    refine ⟨_, rfl, p, _, rfl, .inr (tp.at H), rfl, flat_strs _, ?_⟩
    show Q (.bl (inV (.str x) (words.map V.str))) H
    rw [inV_strs]
    exact q
theorem us_code : Str.ofString "_" = S [95] := by decide +kernel
theorem ok_inrun {f : Addr} {fd : FuncData} {k : Nat} (F : Fun K "in_run" "in_run" sInRun f fd) (T : Tx K mg) : FnOk P w K mg base CX0 (k + 1) f fd ["char"] spInRun := by
  obtain ⟨uL, gL, rL⟩ := T.LET
  obtain ⟨uD, gD, rD⟩ := T.DIG
  refine F.ok scInRun (fun vs H Q E h => ?_) (fun cdv A outer s H vs Q E hr h => ?_)
  · obtain ⟨x, rfl, _⟩ := h
    rfl
  · obtain ⟨c, rfl, q⟩ := h
    refine ⟨_, pss_one (ps_ret (pe_or (pe_cmpR op_in_sign (pv 0) (pe_glob rfl gL rL) (by rfl)) (pe_or (pe_cmpR op_in_sign (pv 0) (pe_glob rfl gD rD) (by rfl)) (pe_one (pe_cmpR op_eq (pv 0) pe_str (nomark _)))))), ?_⟩
    have e : inRun c = (decide (c ∈ letters) || decide (c ∈ digits) || decide (c = 95)) := rfl
    refine ⟨_, rfl, c, lettersS, rfl, rfl, _, rfl, iteD (fun h1 => ?_) fun h1 => ?_⟩
    · rw [e, decide_eq_true h1] at q
      exact q
    · refine ⟨_, rfl, c, digitsS, rfl, rfl, _, rfl, iteD (fun h2 => ?_) fun h2 => ?_⟩
      · rw [e, decide_eq_true h2, Bool.or_true] at q
        exact q
      · refine ⟨_, rfl, rfl, ?_⟩
        rw [e, decide_eq_false h1, decide_eq_false h2] at q
        rw [us_code, dcStr, dcS]
        have e2 : decide ([c] = [95]) = decide (c = 95) := by
          by_cases h : c = 95
          · rw [h]; rfl
          · rw [decide_eq_false h, decide_eq_false fun z => h (List.cons.inj z).1]
        rw [e2]
        exact q
theorem nl_code : Str.ofString "\n" = S [10] := by decide +kernel
theorem ok_comend {f : Addr} {fd : FuncData} {k : Nat} (F : Fun K "comment_end" "comment_end" sComEnd f fd) (T : Tx K mg) : FnOk P w K mg base CX0 (k + 1) f fd ["text", "at"] spComEnd := by
  refine F.ok scComEnd (fun vs H Q E h => ?_) (fun cdv A outer s H vs Q E hr h => ?_)
  · obtain ⟨t, i, rfl, _⟩ := h
    rfl
  · obtain ⟨t, i, rfl, hi, hz, q⟩ := h
    refine ⟨_, pss_cons (ps_set (i := 2) scComEnd.nd rfl (.inl rfl) (pe_bm PySem.F.plainAttrs_str PySem.F.slot_str_find PySem.F.type_str_find mt_find3 (pv 0) (pa_cons pe_str (pa_cons (pv 1) pa_nil))))
      (pss_cons (ps_if (pt_cmpR op_eq (pv 2) (pe_un un_neg pe_int) (nomark _)) (pss_one (ps_ret (pe_callB call_len_str (by rfl) T.zLen PySem.boot_len (pa_cons (pv 0) pa_nil)))) pss_nil)
      (pss_one (ps_ret (pv 2)))), ?_⟩
    refine ⟨_, rfl, rfl, _, rfl, _, _, _, rfl, rfl, ?_⟩
    rw [nl_code]
    have hl : (S t).length = t.length := S_len t
    rcases find_sign 10 hi with ⟨e1, e2⟩ | ⟨e1, e2⟩
    · rw [e1]
      refine ⟨_, rfl, 1, rfl, rfl, _, rfl, iteT ?_⟩
      refine ⟨_, rfl, _, rfl, ?_, ?_⟩
      · rw [hl, sizeLine_eq]
        omega
      · have : i + comLen (t.drop i) = t.length := by
          unfold comLen
          rw [e2, List.length_drop]
          omega
        rw [this] at q
        rw [hl]
        exact q
    · rw [e1]
      refine ⟨_, rfl, 1, rfl, rfl, _, rfl, ?_⟩
      rw [dcInt]
      exact iteDF (by omega) ⟨_, rfl, q⟩
end
end Pk
set_option Elab.async false
set_option linter.all false
set_option maxRecDepth 100000
set_option maxHeartbeats 4000000
namespace Pk
open PySem PySem.Spec PyProof.Rows L2 SX GxR Tk
section
variable {P : Program} {w : World} {K : PySem.W.Frag} {mg : Str → Option Value} {base : Heap}
theorem at_S {t : List Nat} {i : Nat} (h : i < t.length) : atI (S t).cps.toList (i : Int) = some t[i] := atI_nat (by show t[i]? = some t[i]; exact List.getElem?_eq_getElem h)
theorem drop_run (t : List Nat) (i : Nat) (h : i < t.length) : (t.drop i).takeWhile inRun = if inRun t[i] = true then t[i] :: (t.drop (i + 1)).takeWhile inRun else [] := by
  rw [List.drop_eq_getElem_cons h, List.takeWhile_cons]
theorem runLen_at {t : List Nat} {i : Nat} (h : i < t.length) (hr : inRun t[i] = true) : partLen (t.drop i) = ((t.drop i).takeWhile inRun).length := by
  unfold partLen
  rw [List.drop_eq_getElem_cons h, ← inRun_iff (r := t.drop (i + 1)), if_pos hr]
theorem ok_partend {f : Addr} {fd : FuncData} {k : Nat} (F : Fun K "part_end" "part_end" sPartEnd f fd) (T : Tx K mg) (DR : Df P w K mg base CX0 (k + 1) "in_run" ["char"] spInRun) : FnOk P w K mg base CX0 (k + 2) f fd ["text", "at"] spPartEnd := by
  obtain ⟨pl, gl, tl⟩ := T.LNG
  obtain ⟨fR, fdR, GR, gR, kR, bR⟩ := DR.ex
  refine F.ok scPartEnd (fun vs H Q E h => ?_) (fun cdv A outer s H vs Q E hr h => ?_)
  · obtain ⟨t, i, rfl, _⟩ := h
    rfl
  · obtain ⟨t, i, rfl, hi, hz, q⟩ := h
    have hl : (S t).length = t.length := S_len t
    have hsz : (S t).length ≤ sizeLine := by rw [hl, sizeLine_eq]; omega
    refine ⟨_, pss_cons (ps_if (pt_not (pt_val (pe_call GR hr (by rfl) gR kR bR .nil pass0 (pa_cons (pe_ix ix_str (pv 0) (pv 1) (fun _ _ => rfl)) pa_nil)) (by intro _; rfl)))
        (pss_cons (ps_if (pt_cmpR op_in_seq (pe_slice sl_str (pv 0) (po_some (pv 1)) (po_some (pe_op op_add (pv 1) pe_int))) (pe_glob (v := .ref pl) rfl gl rfl) (by rfl)) (pss_one (ps_ret (pe_op op_add (pv 1) pe_int))) pss_nil)
        (pss_one (ps_ret (pe_op op_add (pv 1) pe_int)))) pss_nil)
      (pss_cons (ps_set (i := 2) scPartEnd.nd rfl (.inl rfl) (pv 1))
      (pss_cons (ps_while PassesOwn.never (PW.pt (pw_and (pt_cmpR op_lt (pv 2) (pe_callB call_len_str (by rfl) T.zLen PySem.boot_len (pa_cons (pv 0) pa_nil)) (nomark _))
          (pw_and1 (pt_val (pe_call GR hr (by rfl) gR kR bR .nil pass0 (pa_cons (pe_ix ix_str (pv 0) (pv 2) (fun _ _ => rfl)) pa_nil)) (by intro _; rfl)))))
        (pss_one (ps_aug (i := 2) scPartEnd.nd rfl (.inl rfl) pe_int ip_add)))
      (pss_one (ps_ret (pv 2))))), ?_⟩
    refine ⟨_, rfl, _, rfl, _, _, _, rfl, rfl, hsz, at_S hi, _, rfl, _, rfl, ?_⟩
    cases hrun : inRun t[i] with
    | false =>
      refine iteT ?_
      refine ⟨_, rfl, _, rfl, _, rfl, _, rfl, _, _, rfl, rfl, _, rfl, _, rfl, hsz, pl, _, rfl, .inr (tl.at H), rfl, flat_strs _, ?_⟩
      have e2 : cutS (S t) (some (i : Int)) (some ((i : Int) + 2)) = S ((t.drop i).take 2) := by
        have := cut2 t i (i + 2)
        rw [show i + 2 - i = 2 by omega] at this
        exact this
      show ∃ k, V.bl (inV (.str (cutS (S t) (some (i : Int)) (some ((i : Int) + 2)))) (longs.map V.str)) = .bl k ∧ _
      rw [e2, inV_strs]
      have hp : partLen (t.drop i) = if S ((t.drop i).take 2) ∈ longs then 2 else 1 := by
        unfold partLen
        rw [List.drop_eq_getElem_cons hi, ← inRun_iff (r := t.drop (i + 1)), if_neg (by rw [hrun]; exact Bool.false_ne_true)]
      refine ⟨_, rfl, iteD (fun h => ?_) fun h => ?_⟩
      · rw [hp, if_pos h] at q
        exact ⟨_, rfl, _, _, rfl, rfl, q⟩
      · rw [hp, if_neg h] at q
        exact ⟨_, rfl, _, _, rfl, rfl, q⟩
    | true =>
      refine iteF ?_
      rw [runLen_at hi hrun] at q
      -- end: i and a part of the run
      refine ⟨_, rfl, ⟨fun m σ H' => ∃ j : Nat, m = t.length - j ∧ σ = [some (.str (S t)), some (.int i), some (.int j)] ∧ H' = H ∧ j ≤ t.length ∧ i + ((t.drop i).takeWhile inRun).length = j + ((t.drop j).takeWhile inRun).length,
        ⟨t.length - i, i, rfl, rfl, rfl, by omega, rfl⟩, ?_⟩⟩
      rintro m σ H' ⟨j, rfl, rfl, rfl, hj, ej⟩
      refine ⟨_, rfl, _, rfl, _, rfl, hsz, _, _, rfl, rfl, _, rfl, iteD (fun h => ?_) fun h => ?_⟩
      · have hj2 : j < t.length := by rw [hl] at h; omega
        refine ⟨_, rfl, _, rfl, _, _, _, rfl, rfl, hsz, at_S hj2, _, rfl, _, rfl, ?_⟩
        cases hrj : inRun t[j] with
        | true =>
          refine iteT ⟨fun σ' H'' => ∃ m', m' < t.length - j ∧ ∃ j : Nat, m' = t.length - j ∧ σ' = [some (.str (S t)), some (.int i), some (.int j)] ∧ H'' = H' ∧ j ≤ t.length ∧ i + ((t.drop i).takeWhile inRun).length = j + ((t.drop j).takeWhile inRun).length,
            fun _ _ h => h, ?_⟩
          refine ⟨_, rfl, _, _, rfl, rfl, t.length - (j + 1), by omega, j + 1, rfl, rfl, rfl, by omega, ?_⟩
          rw [ej, drop_run t j hj2, if_pos hrj, List.length_cons]
          omega
        | false =>
          refine iteF ⟨_, rfl, ?_⟩
          rw [drop_run t j hj2, if_neg (by rw [hrj]; exact Bool.false_ne_true)] at ej
          rw [ej] at q
          exact q
      · have hj2 : j = t.length := by rw [hl] at h; omega
        refine iteF ⟨_, rfl, ?_⟩
        rw [hj2, List.drop_of_length_le (Nat.le_refl _)] at ej
        rw [ej, ← hj2] at q
        exact q
/-! ### all of a text's signs among others -/
theorem ok_cons {f c Pt : Addr} {oc : Value} {od an : Option Addr} {osl : Array (Option Value)} {kV doc pm ct : Value} {k : Nat}
    (l : K.lookup f = some ⟨oc, od, .func (PySem.W.fnOf "consists_of" "consists_of" (defArgs sCons) (defBody sCons) (defScope sCons) .none kV doc pm an (.ref c) ct), osl⟩)
    (hcd : PySem.W.codeIn K (.ref c) "consists_of" = true) (T : Tx K mg) (TB : TabB base mg c Pt) :
    FnOk P w K mg base CX0 (k + 1) f (PySem.W.fnOf "consists_of" "consists_of" (defArgs sCons) (defBody sCons) (defScope sCons) .none kV doc pm an (.ref c) ct) ["part", "chars"] (spCons Pt) := by
  refine fn_of l hcd scCons (fun vs H Q E h => ?_) fun A outer s H vs Q E hr h => ?_
  · obtain ⟨p, z, rfl, _⟩ := h
    rfl
  · obtain ⟨p, z, rfl, tg, q⟩ := h
    refine ⟨_, (PSs.nox (pss_one (ps_ret (pe_allC (P := Pt) (c := c) (j := 1) hr (by rfl) T.zAll (by decide +kernel) TB rfl ⟨rfl, rfl, by decide +kernel, rfl, rfl, fun y hy e => ?fr⟩ (pv 0) rfl rfl rfl (fun cells ca h => ?clo) (by decide +kernel) (by decide +kernel) (by decide +kernel) (fun _ => rfl))))), ?_⟩
    case fr =>
      have key : ∀ y ∈ ([(Str.ofString ".0", NameKind.local), (Str.ofString "char", NameKind.local), (Str.ofString "chars", NameKind.free)] : List (Str × NameKind)), y.2 = .free → y.1 = Str.ofString "chars" := by decide +kernel
      rw [key y hy e]
      exact cell_has (sc := defScope sCons) rfl
    case clo =>
      show List.lookup (Str.ofString "chars") [(Str.ofString "chars", (List.lookup (Str.ofString "chars") cells).getD 0)] = some ca
      rw [h, List.lookup_cons, beq_self_eq_true]
      rfl
    exact ⟨_, rfl, S p, z, rfl, rfl, tg, fun H2 h2 => q H2 h2⟩
/-! ### numbers -/
theorem zx_code : Str.ofString "0x" = S [48, 120] := by decide +kernel
theorem zero_code : Str.ofString "0" = S [48] := by decide +kernel
theorem head_one {p : List Nat} (h : p ≠ []) : ∃ c r, p = c :: r := by
  cases p with
  | nil => exact absurd rfl h
  | cons c r => exact ⟨c, r, rfl⟩
theorem digit_of {c : Nat} (h : c ∈ digits) : 48 ≤ c ∧ c ≤ 57 := by
  have key : ∀ d ∈ digits, 48 ≤ d ∧ d ≤ 57 := by decide +kernel
  exact key c h
theorem all_digits {p : List Nat} (h : allIn p digits = true) : NumText.AllDigits p := fun c hc => digit_of (of_decide_eq_true (List.all_eq_true.mp h c hc))
theorem hex_of {c : Nat} (h : c ∈ hexes) : Hx.IsHex c := by
  have key : ∀ d ∈ hexes, (48 ≤ d ∧ d ≤ 57) ∨ (97 ≤ d ∧ d ≤ 102) := by decide +kernel
  rcases key c h with h | h
  · exact .inl h
  · exact .inr (.inl h)
theorem ok_numval {f : Addr} {fd : FuncData} {k : Nat} (F : Fun K "number_value" "number_value" sNumVal f fd) (T : Tx K mg) : FnOk P w K mg base CX0 (k + 1) f fd ["part"] spNumVal := by
  refine F.ok scNumVal (fun vs H Q E h => ?_) (fun cdv A outer s H vs Q E hr h => ?_)
  · obtain ⟨p, rfl, _⟩ := h
    rfl
  · obtain ⟨p, rfl, hne, hn, q⟩ := h
    refine ⟨_, pss_cons (ps_if (pt_val (pe_bm PySem.F.plainAttrs_str PySem.F.slot_str_startswith PySem.F.type_str_startswith mt_startswith (pv 0) (pa_cons pe_str pa_nil)) (by intro _; rfl))
        (pss_one (ps_ret (pe_callTy call_int_hex (by rfl) T.zInt (by decide +kernel) (pa_cons (pe_slice sl_str (pv 0) (po_some pe_int) po_none) (pa_cons pe_int pa_nil))))) pss_nil)
      (pss_one (ps_ret (pe_callTy call_int_str (by rfl) T.zInt (by decide +kernel) (pa_cons (pv 0) pa_nil)))), ?_⟩
    refine ⟨_, rfl, rfl, _, _, rfl, rfl, ?_⟩
    rw [zx_code, starts2]
    have hb : isHexed p = decide (p.take [48, 120].length = [48, 120]) := rfl
    refine ⟨_, rfl, iteD (fun h => ?_) fun h => ?_⟩
    · have hx : isHexed p = true := by rw [hb]; exact decide_eq_true h
      unfold isNum at hn
      rw [if_pos hx, Bool.and_eq_true, Bool.and_eq_true, decide_eq_true_eq, decide_eq_true_eq] at hn
      obtain ⟨⟨h1, h2⟩, h3⟩ := hn
      have hlen : p.length ≤ 10 := by rw [List.length_drop] at h2; omega
      unfold numVal at q
      rw [if_pos hx] at q
      refine ⟨_, rfl, 2, rfl, _, rfl, by rw [S_len, sizeLine_eq]; omega, p.drop 2, ?_, ?_, by omega, fun c hc => hex_of (of_decide_eq_true (List.all_eq_true.mp h3 c hc)), q⟩
      · have e := cut1f p 2
        show [V.str (cutS (S p) (some ((2 : Nat) : Int)) none), V.int 16] = _
        rw [e]
      · intro z
        rw [z] at h1
        simp at h1
    · have hx : ¬ isHexed p = true := by rw [hb, decide_eq_true_eq]; exact h
      unfold isNum at hn
      unfold numVal at q
      rw [if_neg hx] at hn q
      have hd : NumText.AllDigits p ∧ p.length ≤ 10 := by
        by_cases h0 : p.take 1 = [48]
        · rw [if_pos h0] at hn
          have e := of_decide_eq_true hn
          subst e
          exact ⟨fun c hc => by obtain rfl := List.mem_singleton.mp hc; omega, by decide⟩
        · rw [if_neg h0] at hn
          by_cases h1 : 10 < p.length
          · rw [if_pos h1] at hn
            cases hn
          · rw [if_neg h1, Bool.and_eq_true] at hn
            exact ⟨all_digits hn.1, by omega⟩
      refine ⟨_, rfl, S p, _, rfl, PySem.intText_digits (x := S p) hd.1 hne (by rw [S_len]; omega), by rw [S_len]; omega, q⟩
theorem Tabbed.refl {Pt : Addr} {H : Hp} (h : TabG H Pt) : Tabbed Pt H H := ⟨h, fun _ _ => rfl⟩
theorem iteNF {p A B : Prop} [Decidable p] (h : p) (b : B) : if (!decide p) = true then A else B := by
  rw [decide_eq_true h]
  exact b
theorem iteNT {p A B : Prop} [Decidable p] (h : ¬ p) (a : A) : if (!decide p) = true then A else B := by
  rw [decide_eq_false h]
  exact a
theorem ok_isdec {f Pt : Addr} {fd : FuncData} {k : Nat} (F : Fun K "is_decimal" "is_decimal" sIsDec f fd) (T : Tx K mg) (DC : Df P w K mg base CX0 (k + 1) "consists_of" ["part", "chars"] (spCons Pt)) : FnOk P w K mg base CX0 (k + 2) f fd ["part"] (spIsDec Pt) := by
  obtain ⟨fC, fdC, GC, gC, kC, bC⟩ := DC.ex
  obtain ⟨uD, gD, rD⟩ := T.DIG
  obtain ⟨uM, gM, rM⟩ := T.MDG
  obtain ⟨uG, gG, rG⟩ := T.GRT
  refine F.ok scIsDec (fun vs H Q E h => ?_) (fun cdv A outer s H vs Q E hr h => ?_)
  · obtain ⟨p, rfl, _⟩ := h
    rfl
  · obtain ⟨p, rfl, hz, tg, q⟩ := h
    have hsz : (S p).length ≤ sizeLine := by rw [S_len, sizeLine_eq]; omega
    refine ⟨_, pss_cons (ps_if (pt_val (pe_bm PySem.F.plainAttrs_str PySem.F.slot_str_startswith PySem.F.type_str_startswith mt_startswith (pv 0) (pa_cons pe_str pa_nil)) (by intro _; rfl)) (pss_one (ps_ret (pe_cmpR op_eq (pv 0) pe_str (nomark _)))) pss_nil)
      (pss_cons (ps_if (PW.pt (pw_or (pt_not (pt_chain op_le op_le pe_int (pe_callB call_len_str (by rfl) T.zLen PySem.boot_len (pa_cons (pv 0) pa_nil)) (pe_glob rfl gM rM)))
          (pw_or1 (pt_not (pt_val (pe_call GC hr (by rfl) gC kC bC .nil pass0 (pa_cons (pv 0) (pa_cons (pe_glob rfl gD rD) pa_nil))) (by intro _; rfl))))))
        (pss_one (ps_ret pe_bl)) pss_nil)
      (pss_one (ps_ret (pe_cmpR op_le (pe_callTy call_int_str (by rfl) T.zInt (by decide +kernel) (pa_cons (pv 0) pa_nil)) (pe_glob rfl gG rG) (nomark _))))), ?_⟩
    refine ⟨_, rfl, rfl, _, _, rfl, rfl, ?_⟩
    rw [zero_code, starts2]
    refine ⟨_, rfl, iteD (fun h0 => ?_) fun h0 => ?_⟩
    · have := q H (Tabbed.refl tg)
      have h0' : p.take 1 = [48] := h0
      unfold isDec at this
      rw [if_pos h0'] at this
      refine ⟨_, rfl, rfl, ?_⟩
      rw [dcStr, dcS]
      exact this
    · have h0' : ¬ p.take 1 = [48] := h0
      have e1 : isDec p = if 1 ≤ p.length ∧ p.length ≤ 10 then allIn p digits && decide (NumText.digitsVal p ≤ 4294967295) else false := if_neg h0'
      refine ⟨_, rfl, _, rfl, hsz, _, _, rfl, rfl, _, rfl, ?_⟩
      have hlI : (((S p).length : Nat) : Int) = (p.length : Int) := by rw [S_len]
      rw [hlI]
      by_cases h1 : 1 ≤ p.length
      · refine iteDT (by omega) ⟨_, _, rfl, rfl, _, rfl, ?_⟩
        by_cases h2 : p.length ≤ 10
        · have e2 := e1.trans (if_pos ⟨h1, h2⟩)
          refine iteNF (show ((p.length : Nat) : Int) ≤ 10 by omega) ⟨_, rfl, p, digitsS, rfl, tg, fun H' hH => ⟨_, rfl, ?_⟩⟩
          have q2 := q H' hH
          cases ha : allIn p digits with
          | false =>
            refine iteT ?_
            rw [e2, ha] at q2
            exact q2
          | true =>
            refine iteF ?_
            rw [e2, ha, Bool.true_and] at q2
            refine ⟨_, rfl, S p, _, rfl, PySem.intText_digits (x := S p) (all_digits ha) (by rintro rfl; exact absurd h1 (by decide)) (by rw [S_len]; omega), by rw [S_len]; omega, _, _, rfl, rfl, ?_⟩
            have e4 : decide (((NumText.digitsVal p : Nat) : Int) ≤ 4294967295) = decide (NumText.digitsVal p ≤ 4294967295) := by
              rw [Bool.eq_iff_iff, decide_eq_true_eq, decide_eq_true_eq]
              omega
            show Q (.bl (decide (((NumText.digitsVal p : Nat) : Int) ≤ 4294967295))) H'
            rw [e4]
            exact q2
        · have e2 := e1.trans (if_neg fun z => h2 z.2)
          refine iteNT (show ¬ ((p.length : Nat) : Int) ≤ 10 by omega) ?_
          have := q H (Tabbed.refl tg)
          rw [e2] at this
          exact this
      · have e2 := e1.trans (if_neg fun z => h1 z.1)
        refine iteDF (by omega) ⟨_, rfl, iteT ?_⟩
        have := q H (Tabbed.refl tg)
        rw [e2] at this
        exact this
theorem ok_isnum {f Pt : Addr} {fd : FuncData} {k : Nat} (F : Fun K "is_number" "is_number" sIsNum f fd) (T : Tx K mg) (DC : Df P w K mg base CX0 (k + 1) "consists_of" ["part", "chars"] (spCons Pt)) (DD : Df P w K mg base CX0 (k + 2) "is_decimal" ["part"] (spIsDec Pt)) : FnOk P w K mg base CX0 (k + 3) f fd ["part"] (spIsNum Pt) := by
  obtain ⟨fC, fdC, GC, gC, kC, bC⟩ := DC.ex
  obtain ⟨fD, fdD, GD, gD, kD, bD⟩ := DD.ex
  obtain ⟨uH, gH, rH⟩ := T.HEX
  obtain ⟨uX, gX, rX⟩ := T.MHX
  refine F.ok scIsNum (fun vs H Q E h => ?_) (fun cdv A outer s H vs Q E hr h => ?_)
  · obtain ⟨p, rfl, _⟩ := h
    rfl
  · obtain ⟨p, rfl, hne, hz, tg, q⟩ := h
    have hsz : ∀ l : List Nat, l.length ≤ p.length → (S l).length ≤ sizeLine := fun l hl => by rw [S_len, sizeLine_eq]; omega
    have hrC : Room (k + 1) _ := hr.mono (by omega)
    refine ⟨_, pss_cons (ps_if (pt_val (pe_bm PySem.F.plainAttrs_str PySem.F.slot_str_startswith PySem.F.type_str_startswith mt_startswith (pv 0) (pa_cons pe_str pa_nil)) (by intro _; rfl))
        (pss_cons (ps_set (i := 1) scIsNum.nd rfl (.inl rfl) (pe_slice sl_str (pv 0) (po_some pe_int) po_none))
        (pss_one (ps_ret (pe_and (pe_chain op_le op_le pe_int (pe_callB call_len_str (by rfl) T.zLen PySem.boot_len (pa_cons (pv 1) pa_nil)) (pe_glob rfl gX rX))
          (pe_one (pe_call GC hrC (by rfl) gC kC bC .nil pass0 (pa_cons (pv 1) (pa_cons (pe_glob rfl gH rH) pa_nil)))))))) pss_nil)
      (pss_one (ps_ret (pe_call GD hr (by rfl) gD kD bD .nil pass0 (pa_cons (pv 0) pa_nil)))), ?_⟩
    refine ⟨_, rfl, rfl, _, _, rfl, rfl, ?_⟩
    rw [zx_code, starts2]
    have hb : isHexed p = decide (p.take [48, 120].length = [48, 120]) := rfl
    refine ⟨_, rfl, iteD (fun h => ?_) fun h => ?_⟩
    · have hx : isHexed p = true := by rw [hb]; exact decide_eq_true h
      have e : isNum p = (decide (1 ≤ (p.drop 2).length) && decide ((p.drop 2).length ≤ 8) && allIn (p.drop 2) hexes) := if_pos hx
      have e2 : cutS (S p) (some (2 : Int)) none = S (p.drop 2) := cut1f p 2
      have hl2 : (p.drop 2).length ≤ p.length := by rw [List.length_drop]; omega
      refine ⟨_, rfl, 2, rfl, _, rfl, hsz p (Nat.le_refl _), ?_⟩
      rw [e2]
      refine ⟨_, rfl, _, rfl, hsz _ hl2, _, _, rfl, rfl, _, rfl, ?_⟩
      have hlI : (((S (p.drop 2)).length : Nat) : Int) = ((p.drop 2).length : Int) := by rw [S_len]
      rw [hlI]
      by_cases h1 : 1 ≤ (p.drop 2).length
      · refine iteDT (by omega) ⟨_, _, rfl, rfl, _, rfl, ?_⟩
        by_cases h2 : (p.drop 2).length ≤ 8
        · refine iteDT (by omega) ⟨_, rfl, p.drop 2, hexS, rfl, tg, fun H' hH => ?_⟩
          have := q H' hH
          rw [e, decide_eq_true h1, decide_eq_true h2] at this
          exact this
        · refine iteDF (by omega) ?_
          have := q H (Tabbed.refl tg)
          rw [e, decide_eq_true h1, decide_eq_false h2] at this
          exact this
      · refine iteDF (by omega) ⟨_, rfl, iteF ?_⟩
        have := q H (Tabbed.refl tg)
        rw [e, decide_eq_false h1] at this
        exact this
    · have hx : ¬ isHexed p = true := by rw [hb, decide_eq_true_eq]; exact h
      refine ⟨_, rfl, p, rfl, hz, tg, fun H' hH => ?_⟩
      have := q H' hH
      rw [isDec_num hne hx] at this
      exact this
end
end Pk
set_option Elab.async false
set_option linter.all false
set_option maxRecDepth 100000
set_option maxHeartbeats 4000000
namespace Pk
open PySem PySem.Spec PyProof.Rows L2 SX GxR Tk
/-- all but the tables of code objects stands as it stood -/
def Sm (H H' : Hp) : Prop := ∀ b o, (∀ ps, o ≠ .tbl ps) → H b = some o → H' b = some o
theorem Sm.refl (H : Hp) : Sm H H := fun _ _ _ e => e
theorem Sm.trans {H H1 H2 : Hp} (a : Sm H H1) (b : Sm H1 H2) : Sm H H2 := fun x o n e => b x o n (a x o n e)
theorem Sm.same {H H1 : Hp} (a : Same H H1) : Sm H H1 := fun x o _ e => a x o e
theorem Tabbed.sm {Pt : Addr} {H H' : Hp} (tg : TabG H Pt) (h : Tabbed Pt H H') : Sm H H' := fun b o n e => by
  obtain ⟨ps, e1, _⟩ := tg
  by_cases hb : b = Pt
  · rw [hb, e1] at e
    exact absurd (Option.some.inj e).symm (n ps)
  · rw [h.2 b hb]
    exact e
theorem TabG.upd {Pt p : Addr} {H : Hp} {o : HO} (tg : TabG H Pt) (h : H p = none ∨ ∃ u, H p = some u ∧ ∀ ps, u ≠ .tbl ps) : TabG (L2.upd H p o) Pt := by
  obtain ⟨ps, e1, e2⟩ := tg
  refine ⟨ps, ?_, e2⟩
  rw [upd_ne ?_]
  · exact e1
  · rintro rfl
    rcases h with h | ⟨u, h, n⟩
    · rw [e1] at h
      cases h
    · rw [e1] at h
      exact n ps (Option.some.inj h).symm
/-- at each of the addresses stands the tuple of a token -/
def TokAt (H : Hp) (r : V) (t : Tk.Tok) : Prop := ∃ q : Addr, r = .ref q ∧ H q = some (.tup [.str t.1, t.2.1, .int (t.2.2 : Nat)])
abbrev ToksAt (H : Hp) : List V → List Tk.Tok → Prop := Paired (TokAt H)
theorem ToksAt.sm {H H' : Hp} (k : Sm H H') : ∀ {rs : List V} {ts : List Tk.Tok}, ToksAt H rs ts → ToksAt H' rs ts
  | _, _, .nil => .nil
  | _, _, .cons ⟨q, e1, e2⟩ r => .cons ⟨q, e1, k _ _ (fun _ z => nomatch z) e2⟩ (ToksAt.sm k r)
theorem ToksAt.lst {H : Hp} {T : Addr} {xs ys : List V} (h : H T = some (.lst xs)) : ∀ {rs : List V} {ts : List Tk.Tok}, ToksAt H rs ts → ToksAt (upd H T (.lst ys)) rs ts
  | _, _, .nil => .nil
  | _, _, .cons ⟨q, e1, e2⟩ r => .cons ⟨q, e1, by rw [upd_ne (ne_of e2 h fun z => nomatch z)]; exact e2⟩ (ToksAt.lst h r)
theorem ToksAt.app {H : Hp} : ∀ {rs qs : List V} {ts us : List Tk.Tok}, ToksAt H rs ts → ToksAt H qs us → ToksAt H (rs ++ qs) (ts ++ us)
  | _, _, _, _, .nil, h => h
  | _, _, _, _, .cons a r, h => .cons a (ToksAt.app r h)
def spTokOf (Pt : Addr) : Sp := fun vs H Q _ => ∃ (p : List Nat) (l : Nat) (k : Str) (v : V), vs = [.str (S p), .int l] ∧ p ≠ [] ∧ p.length ≤ 16000000 ∧ TabG H Pt ∧ tokOf p = some (k, v) ∧
  ∀ H' t, Tabbed Pt H H' → H' t = none → Q (.ref t) (upd H' t (.tup [.str k, v, .int l]))
def spTokenize (Pt : Addr) : Sp := fun vs H Q _ => ∃ (t : List Nat) (ts : List Tk.Tok), vs = [.str (S t)] ∧ t.length ≤ 1000000 ∧ TabG H Pt ∧ toksT 1 t = .ok ts ∧
  ∀ H' p rs, Sm H H' → TabG H' Pt → H p = none → H' p = some (.lst rs) → ToksAt H' rs ts → Q (.ref p) H'
section
variable {P : Program} {w : World} {K : PySem.W.Frag} {mg : Str → Option Value} {base : Heap}
theorem pick_false {p A B : Prop} [Decidable p] (h : p → B → A) (b : B) : if decide p = true then A else B := by
  by_cases hp : p
  · rw [if_pos (decide_eq_true hp)]
    exact h hp b
  · rw [decide_eq_false hp, if_neg Bool.false_ne_true]
    exact b
theorem len3 : (3 : Nat) ≤ sizeLine := by decide
theorem ok_tokof {f Pt : Addr} {fd : FuncData} {k : Nat} (F : Fun K "token_of" "token_of" sTokenOf f fd) (T : Tx K mg) (DR : Df P w K mg base CX0 (k + 1) "is_reserved" ["name"] spIsRes)
    (DN : Df P w K mg base CX0 (k + 3) "is_number" ["part"] (spIsNum Pt)) (DV : Df P w K mg base CX0 (k + 1) "number_value" ["part"] spNumVal) : FnOk P w K mg base CX0 (k + 4) f fd ["part", "line"] (spTokOf Pt) := by
  obtain ⟨fR, fdR, GR, gR, kR, bR⟩ := DR.ex
  obtain ⟨fN, fdN, GN, gN, kN, bN⟩ := DN.ex
  obtain ⟨fV, fdV, GV, gV, kV, bV⟩ := DV.ex
  obtain ⟨uL, gL, rL⟩ := T.LET
  obtain ⟨uM, gM, rM⟩ := T.LNM
  obtain ⟨pl, gl, tl⟩ := T.LNG
  obtain ⟨ps, gs, tsh⟩ := T.SHT
  refine F.ok scTokenOf (fun vs H Q E h => ?_) (fun cdv A outer s H vs Q E hr h => ?_)
  · obtain ⟨p, l, k, v, rfl, _⟩ := h
    rfl
  · obtain ⟨p, l, kd, v, rfl, hne, hz, tg, hk, q⟩ := h
    have hr1 : Room (k + 1) _ := hr.mono (by omega)
    have hsz : (S p).length ≤ sizeLine := by rw [S_len, sizeLine_eq]; omega
    refine ⟨_, pss_cons (ps_if (PW.pt (pw_and (pt_cmpR op_in_sign (pe_ix ix_str (pv 0) pe_int (fun _ _ => rfl)) (pe_glob rfl gL rL) (by rfl)) (pw_and1 (pt_cmpR op_le (pe_callB call_len_str (by rfl) T.zLen PySem.boot_len (pa_cons (pv 0) pa_nil)) (pe_glob rfl gM rM) (nomark _)))))
        (pss_cons (ps_if (pt_val (pe_call GR hr1 (by rfl) gR kR bR .nil pass0 (pa_cons (pv 0) pa_nil)) (by intro _; rfl)) (pss_one (ps_ret (pe_tup (pa_cons pe_str (pa_cons (pv 0) (pa_cons (pv 1) pa_nil)))))) pss_nil)
        (pss_one (ps_ret (pe_tup (pa_cons pe_str (pa_cons (pv 0) (pa_cons (pv 1) pa_nil))))))) pss_nil)
      (pss_cons (ps_if (pt_val (pe_call GN hr (by rfl) gN kN bN .nil pass0 (pa_cons (pv 0) pa_nil)) (by intro _; rfl))
        (pss_one (ps_ret (pe_tup (pa_cons pe_str (pa_cons (pe_call GV hr1 (by rfl) gV kV bV .nil pass0 (pa_cons (pv 0) pa_nil)) (pa_cons (pv 1) pa_nil)))))) pss_nil)
      (pss_cons (ps_if (PW.pt (pw_or (pt_cmpR op_in_seq (pv 0) (pe_glob (v := .ref pl) rfl gl rfl) (by rfl)) (pw_or1 (pt_cmpR op_in_seq (pv 0) (pe_glob (v := .ref ps) rfl gs rfl) (by rfl)))))
        (pss_one (ps_ret (pe_tup (pa_cons pe_str (pa_cons (pv 0) (pa_cons (pv 1) pa_nil)))))) pss_nil)
      (pss_one ps_never))), ?_⟩
    obtain ⟨c, r, rfl⟩ := head_one hne
    have e0 : tokOf (c :: r) = if decide (c ∈ letters) = true ∧ (c :: r).length ≤ 16 then
        (if S (c :: r) ∈ words then some (Str.ofString "word", .str (S (c :: r))) else some (Str.ofString "name", .str (S (c :: r))))
      else if isNum (c :: r) = true then some (Str.ofString "number", .int (numVal (c :: r)))
      else if S (c :: r) ∈ longs ∨ S (c :: r) ∈ shorts then some (Str.ofString "sign", .str (S (c :: r))) else none := rfl
    have hlI : (((S (c :: r)).length : Nat) : Int) = ((c :: r).length : Int) := by rw [S_len]
    refine ⟨_, rfl, _, _, _, rfl, rfl, hsz, atI_nat (j := 0) rfl, c, lettersS, rfl, rfl, _, rfl, ?_⟩
    by_cases hn : decide (c ∈ letters) = true ∧ (c :: r).length ≤ 16
    · refine iteDT (of_decide_eq_true hn.1) ⟨_, rfl, _, rfl, hsz, _, _, rfl, rfl, _, rfl, ?_⟩
      rw [hlI]
      refine iteDT (by have := hn.2; omega) ⟨_, rfl, S (c :: r), rfl, _, rfl, ?_⟩
      rw [if_pos hn, hk] at e0
      by_cases h3 : S (c :: r) ∈ words
      · rw [if_pos h3] at e0
        cases e0
        exact iteDT h3 ⟨_, rfl, _, rfl, len3, fun t ht => q H t (Tabbed.refl tg) ht⟩
      · rw [if_neg h3] at e0
        cases e0
        exact iteDF h3 ⟨_, rfl, _, rfl, len3, fun t ht => q H t (Tabbed.refl tg) ht⟩
    · refine pick_false (fun h1 hB => ⟨_, rfl, _, rfl, hsz, _, _, rfl, rfl, _, rfl, iteDF (fun z => hn ⟨decide_eq_true h1, ?_⟩) hB⟩) (iteF ?_)
      · have z' : (((S (c :: r)).length : Nat) : Int) ≤ 16 := z
        rw [hlI] at z'
        omega
      rw [if_neg hn] at e0
      refine ⟨_, rfl, c :: r, rfl, hne, hz, tg, fun H' hH => ⟨_, rfl, ?_⟩⟩
      cases hnum : isNum (c :: r) with
      | true =>
        rw [if_pos hnum, hk] at e0
        cases e0
        exact iteT ⟨_, rfl, c :: r, rfl, hne, hnum, _, rfl, len3, fun t ht => q H' t hH ht⟩
      | false =>
        rw [if_neg (by rw [hnum]; exact Bool.false_ne_true)] at e0
        refine iteF ⟨_, rfl, pl, _, rfl, .inr (tl.at H'), rfl, flat_strs _, ?_⟩
        show ∃ k, V.bl (inV (.str (S (c :: r))) (longs.map V.str)) = .bl k ∧ _
        rw [inV_strs]
        refine ⟨_, rfl, ?_⟩
        by_cases h1 : S (c :: r) ∈ longs
        · rw [if_pos (.inl h1), hk] at e0
          cases e0
          exact iteDT h1 (iteT ⟨_, rfl, _, rfl, len3, fun t ht => q H' t hH ht⟩)
        · refine iteDF h1 ⟨_, rfl, ps, _, rfl, .inr (tsh.at H'), rfl, flat_strs _, ?_⟩
          show ∃ k, V.bl (inV (.str (S (c :: r))) (shorts.map V.str)) = .bl k ∧ _
          rw [inV_strs]
          refine ⟨_, rfl, ?_⟩
          by_cases h2 : S (c :: r) ∈ shorts
          · rw [if_pos (.inr h2), hk] at e0
            cases e0
            exact iteDT h2 ⟨_, rfl, _, rfl, len3, fun t ht => q H' t hH ht⟩
          · rw [if_neg (fun z => z.elim h1 h2), hk] at e0
            cases e0
end
end Pk
set_option Elab.async false
set_option linter.all false
set_option maxRecDepth 100000
set_option maxHeartbeats 4000000
namespace Pk
open PySem PySem.Spec PyProof.Rows L2 SX GxR Tk
theorem hash_code : Str.ofString "#" = S [35] := by decide +kernel
theorem sp_code : Str.ofString " " = S [32] := by decide +kernel
theorem drop_tw {α : Type} (p : α → Bool) : ∀ l : List α, l.drop (l.takeWhile p).length = l.dropWhile p
  | [] => rfl
  | a :: l => by
    rw [List.takeWhile_cons, List.dropWhile_cons]
    split
    · rw [List.length_cons, List.drop_succ_cons]
      exact drop_tw p l
    · rfl
theorem tw_le {α : Type} (p : α → Bool) : ∀ l : List α, (l.takeWhile p).length ≤ l.length
  | [] => Nat.le_refl _
  | a :: l => by
    rw [List.takeWhile_cons]
    split
    · exact Nat.succ_le_succ (tw_le p l)
    · exact Nat.zero_le _
theorem partLen_le (t : List Nat) (h : t ≠ []) : partLen t ≤ t.length + 1 := by
  unfold partLen
  split
  · exact Nat.le_succ_of_le (tw_le _ _)
  · obtain ⟨c, r, rfl⟩ := head_one h
    rw [List.length_cons]
    split <;> omega
theorem ahead_ok {kv : Option (Str × V)} {l : Nat} {rest : Except Nat (List Tk.Tok)} {ts : List Tk.Tok} (h : ahead kv l rest = .ok ts) : ∃ k v us, kv = some (k, v) ∧ rest = .ok us ∧ ts = (k, v, l) :: us := by
  cases kv with
  | none => cases h
  | some kv =>
    obtain ⟨k, v⟩ := kv
    cases rest with
    | error e => cases h
    | ok us =>
      cases h
      exact ⟨k, v, us, rfl, rfl, rfl⟩
theorem part_fits {t : List Nat} {c : Nat} {r : List Nat} (e : t = c :: r) {k : Str} {v : V} (h : tokOf (t.take (partLen t)) = some (k, v)) : partLen t ≤ t.length := by
  subst e
  unfold partLen at h ⊢
  split
  · exact tw_le _ _
  · rename_i hh
    split
    · rename_i h2
      rw [if_neg hh, if_pos h2] at h
      have key : ∀ x ∈ longs, x.length = 2 := by decide +kernel
      have := key _ h2
      rw [S_len, List.length_take] at this
      omega
    · rw [List.length_cons]
      omega
theorem ntL {xs : List V} : ∀ ps, HO.lst xs ≠ .tbl ps := fun _ z => nomatch z
theorem ntT {xs : List V} : ∀ ps, HO.tup xs ≠ .tbl ps := fun _ z => nomatch z
theorem tup_lst {xs ys : List V} : HO.tup xs ≠ .lst ys := fun z => nomatch z
theorem small_len {n : Nat} (h : n ≤ 1000000) : n < sizeLine := by rw [sizeLine_eq]; omega
section
variable {P : Program} {w : World} {K : PySem.W.Frag} {mg : Str → Option Value} {base : Heap}
/-- between two turns of tokenize's loop -/
def TokW (Pt : Addr) (t : List Nat) (all : List Tk.Tok) (T : Addr) (H : Hp) (m : Nat) (σ : L2.St) (H' : Hp) : Prop :=
  ∃ (i l : Nat) (rs : List V) (done ts : List Tk.Tok) (c4 c5 : Option V), m = t.length - i ∧ σ = [some (.str (S t)), some (.ref T), some (.int (l : Nat)), some (.int (i : Nat)), c4, c5] ∧ i ≤ t.length ∧ TabG H' Pt ∧ Sm H H' ∧
    H' T = some (.lst rs) ∧ ToksAt H' rs done ∧ rs.length ≤ i ∧ toksT l (t.drop i) = .ok ts ∧ all = done ++ ts
theorem ok_tokenize {f Pt : Addr} {fd : FuncData} {k : Nat} (F : Fun K "tokenize" "tokenize" sTokenize f fd) (T : Tx K mg) (DC : Df P w K mg base CX0 (k + 1) "comment_end" ["text", "at"] spComEnd)
    (DP : Df P w K mg base CX0 (k + 2) "part_end" ["text", "at"] spPartEnd) (DO : Df P w K mg base CX0 (k + 4) "token_of" ["part", "line"] (spTokOf Pt)) : FnOk P w K mg base CX0 (k + 5) f fd ["text"] (spTokenize Pt) := by
  obtain ⟨fC, fdC, GC, gC, kC, bC⟩ := DC.ex
  obtain ⟨fP, fdP, GP, gP, kP, bP⟩ := DP.ex
  obtain ⟨fO, fdO, GO, gO, kO, bO⟩ := DO.ex
  refine F.ok scTokenize (fun vs H Q E h => ?_) (fun cdv A outer s H vs Q E hr h => ?_)
  · obtain ⟨t, ts, rfl, _⟩ := h
    rfl
  · obtain ⟨t, all, rfl, hz, tg, htk, q⟩ := h
    have hr2 : Room (k + 2) _ := hr.mono (by omega)
    have hr1 : Room (k + 1) _ := hr2.mono (Nat.le_succ _)
    have hl : (S t).length = t.length := S_len t
    have hsz : (S t).length ≤ sizeLine := by rw [hl, sizeLine_eq]; omega
    have nd := scTokenize.nd
    refine ⟨_, pss_cons (ps_set (i := 1) nd rfl (.inl rfl) (pe_lst pa_nil))
      (pss_cons (ps_set (i := 2) nd rfl (.inl rfl) pe_int)
      (pss_cons (ps_set (i := 3) nd rfl (.inl rfl) pe_int)
      (pss_cons (ps_while PassesOwn.never (pt_cmpR op_lt (pv 3) (pe_callB call_len_str (by rfl) T.zLen PySem.boot_len (pa_cons (pv 0) pa_nil)) (nomark _))
        (pss_cons (ps_set (i := 4) nd rfl (.inl rfl) (pe_ix ix_str (pv 0) (pv 3) (fun _ _ => rfl)))
        (pss_one (ps_if (pt_cmpR op_eq (pv 4) pe_str (nomark _)) (pss_one (ps_set (i := 3) nd rfl (.inl rfl) (pe_call GC hr1 (by rfl) gC kC bC .nil pass0 (pa_cons (pv 0) (pa_cons (pv 3) pa_nil)))))
          (pss_one (ps_if (pt_cmpR op_eq (pv 4) pe_str (nomark _)) (pss_one (ps_aug (i := 3) nd rfl (.inl rfl) pe_int ip_add))
          (pss_one (ps_if (pt_cmpR op_eq (pv 4) pe_str (nomark _)) (pss_cons (ps_aug (i := 2) nd rfl (.inl rfl) pe_int ip_add) (pss_one (ps_aug (i := 3) nd rfl (.inl rfl) pe_int ip_add)))
            (pss_cons (ps_set (i := 5) nd rfl (.inl rfl) (pe_call GP hr2 (by rfl) gP kP bP .nil pass0 (pa_cons (pv 0) (pa_cons (pv 3) pa_nil))))
            (pss_cons (ps_expr (pe_bm PySem.F.plainAttrs_list PySem.F.slot_list_append PySem.F.type_list_append mt_append (pv 1) (pa_cons
              (pe_call GO hr (by rfl) gO kO bO .nil pass0 (pa_cons (pe_slice sl_str (pv 0) (po_some (pv 3)) (po_some (pv 5))) (pa_cons (pv 2) pa_nil))) pa_nil)))
            (pss_one (ps_set (i := 3) nd rfl (.inl rfl) (pv 5)))))))))))))
      (pss_cons (ps_expr (pe_bm PySem.F.plainAttrs_list PySem.F.slot_list_append PySem.F.type_list_append mt_append (pv 1) (pa_cons (pe_tup (pa_cons pe_str (pa_cons pe_str (pa_cons (pv 2) pa_nil)))) pa_nil)))
      (pss_one (ps_ret (pv 1))))))), ?_⟩
    refine ⟨Nat.zero_le _, fun p hp => ?_⟩
    have s0 : Same H (upd H p (.lst [])) := same_new hp
    refine ⟨TokW Pt t all p H, ⟨t.length, 0, 1, [], [], all, none, none, rfl, rfl, Nat.zero_le _, TabG.upd tg (.inl hp), Sm.same s0, upd_same, .nil, Nat.le_refl _, htk, rfl⟩, ?_⟩
    rintro m σ H' ⟨i, l, rs, done, ts, c4, c5, rfl, rfl, hi, tg', sm, hT, hD, hrs, hts, hall⟩
    refine ⟨_, rfl, _, rfl, _, rfl, hsz, _, _, rfl, rfl, _, rfl, iteD (fun h => ?_) fun h => ?_⟩
    · have hi2 : i < t.length := by rw [hl] at h; omega
      have hd : t.drop i = t[i] :: t.drop (i + 1) := List.drop_eq_getElem_cons hi2
      refine ⟨fun σ' H'' => ∃ m', m' < t.length - i ∧ TokW Pt t all p H m' σ' H'', fun _ _ h => h, ?_⟩
      refine ⟨_, rfl, _, rfl, _, _, _, rfl, rfl, hsz, at_S hi2, ?_⟩
      refine ⟨_, rfl, rfl, ?_⟩
      rw [hash_code, dcStr, dcS]
      refine ⟨_, rfl, ?_⟩
      by_cases h1 : t[i] = 35
      · refine iteDT (by rw [h1]) ⟨_, rfl, _, rfl, t, i, rfl, hi, by omega, ?_⟩
        have e1 : comLen (t.drop i) = 1 + ((t.drop (i + 1)).takeWhile (· ≠ 10)).length := by
          unfold comLen
          rw [hd, List.takeWhile_cons, h1, if_pos (by decide), List.length_cons]
          omega
        have e2 : t.drop (i + comLen (t.drop i)) = (t.drop (i + 1)).dropWhile (· ≠ 10) := by
          rw [e1, ← Nat.add_assoc, ← List.drop_drop, drop_tw]
        have e3 := tw_le (· ≠ 10) (t.drop (i + 1))
        rw [List.length_drop] at e3
        rw [hd, h1, toksT_hash, ← e2] at hts
        exact ⟨t.length - (i + comLen (t.drop i)), by omega, i + comLen (t.drop i), l, rs, done, ts, _, c5, rfl, rfl, by omega, tg', sm, hT, hD, by omega, hts, hall⟩
      · refine iteDF (fun z => h1 (List.cons.inj z).1) ⟨_, rfl, rfl, ?_⟩
        rw [sp_code, dcStr, dcS]
        refine ⟨_, rfl, ?_⟩
        by_cases h2 : t[i] = 32
        · refine iteDT (by rw [h2]) ⟨_, rfl, _, _, rfl, rfl, ?_⟩
          rw [hd, h2, toksT_space] at hts
          exact ⟨t.length - (i + 1), by omega, i + 1, l, rs, done, ts, _, c5, rfl, rfl, by omega, tg', sm, hT, hD, by omega, hts, hall⟩
        · refine iteDF (fun z => h2 (List.cons.inj z).1) ⟨_, rfl, rfl, ?_⟩
          rw [nl_code, dcStr, dcS]
          refine ⟨_, rfl, ?_⟩
          by_cases h3 : t[i] = 10
          · refine iteDT (by rw [h3]) ⟨_, rfl, _, _, rfl, rfl, _, rfl, _, _, rfl, rfl, ?_⟩
            rw [hd, h3, toksT_nl] at hts
            exact ⟨t.length - (i + 1), by omega, i + 1, l + 1, rs, done, ts, _, c5, rfl, rfl, by omega, tg', sm, hT, hD, by omega, hts, hall⟩
          · refine iteDF (fun z => h3 (List.cons.inj z).1) ⟨_, rfl, _, rfl, t, i, rfl, hi2, by omega, ?_⟩
            rw [hd, toksT_part h1 h2 h3, ← hd] at hts
            obtain ⟨kd, v, us, hk, hus, rfl⟩ := ahead_ok hts
            have hp1 := partLen_pos t[i] (t.drop (i + 1))
            rw [← hd] at hp1
            have hp2 := part_fits hd hk
            rw [List.length_drop] at hp2
            have ecut : cutS (S t) (some (i : Int)) (some ((i + partLen (t.drop i) : Nat) : Int)) = S ((t.drop i).take (partLen (t.drop i))) := by
              have := cut2 t i (i + partLen (t.drop i))
              rw [show i + partLen (t.drop i) - i = partLen (t.drop i) by omega] at this
              exact this
            refine ⟨_, rfl, .inl ⟨rfl, _, SqL.of hT⟩, _, rfl, _, rfl, _, rfl, _, rfl, _, rfl, _, rfl, hsz, ?_⟩
            rw [ecut]
            refine ⟨_, rfl, (t.drop i).take (partLen (t.drop i)), l, kd, v, rfl, ?_, ?_, tg', hk, fun H2 q2 ht2 hn2 => ?_⟩
            · intro z
              have := congrArg List.length z
              rw [List.length_take, List.length_drop, List.length_nil] at this
              omega
            · rw [List.length_take, List.length_drop]
              omega
            · have sm2 := Tabbed.sm tg' ht2
              have hT2 := sm2 _ _ ntL hT
              have s3 : Same H2 (upd H2 q2 (.tup [.str kd, v, .int l])) := same_new hn2
              have hT3 := s3 _ _ hT2
              refine ⟨p, rs, _, rfl, rfl, hT3, small_len (by omega), _, rfl, ?_⟩
              have hnn : ∀ b o, H b = some o → b ≠ p := fun b o e => ne_of_none e hp
              refine ⟨t.length - (i + partLen (t.drop i)), by omega, i + partLen (t.drop i), l, rs ++ [.ref q2], done ++ [(kd, v, l)], us, _, _, rfl, rfl, by omega, ?_, ?_, upd_same, ?_, ?_, ?_, ?_⟩
              · exact TabG.upd (TabG.upd ht2.1 (.inl hn2)) (.inr ⟨_, hT3, ntL⟩)
              · intro b o n e
                rw [upd_ne (hnn b o e)]
                exact s3 _ _ (sm2 _ _ n (sm _ _ n e))
              · refine (ToksAt.lst hT3 ((hD.sm sm2).sm (Sm.same s3))).app (.cons ⟨q2, rfl, ?_⟩ .nil)
                rw [upd_ne (ne_of upd_same hT3 tup_lst), upd_same]
              · rw [List.length_append, List.length_singleton]
                omega
              · rw [← List.drop_drop]
                exact hus
              · rw [hall, List.append_assoc]
                rfl
    · have hi2 : i = t.length := by rw [hl] at h; omega
      rw [hi2, List.drop_of_length_le (Nat.le_refl _), toksT_nil] at hts
      cases hts
      refine ⟨_, rfl, .inl ⟨rfl, _, SqL.of hT⟩, _, rfl, len3, fun q2 hq2 => ?_⟩
      have s3 : Same H' (upd H' q2 (.tup [.str (Str.ofString "end"), .str (Str.ofString ""), .int l])) := same_new hq2
      have hT3 := s3 _ _ hT
      refine ⟨p, rs, _, rfl, rfl, hT3, small_len (by omega), _, rfl, ?_⟩
      refine q _ p _ ?_ ?_ hp upd_same ?_
      · intro b o n e
        rw [upd_ne (ne_of_none e hp)]
        exact s3 _ _ (sm _ _ n e)
      · exact TabG.upd (TabG.upd tg' (.inl hq2)) (.inr ⟨_, hT3, ntL⟩)
      · rw [hall]
        refine (ToksAt.lst hT3 (hD.sm (Sm.same s3))).app (.cons ⟨q2, rfl, ?_⟩ .nil)
        rw [upd_ne (ne_of upd_same hT3 tup_lst), upd_same]
        rfl
end
end Pk
set_option Elab.async false
set_option linter.all false
set_option maxRecDepth 100000
set_option maxHeartbeats 4000000
namespace Pk
open PySem PySem.Spec PyProof.Rows L2 SX Tk
theorem tooLong_small {n : Nat} (h : n ≤ 1000000) : Builtin.Str.tooLong n = false := by
  unfold Builtin.Str.tooLong
  rw [decide_eq_false_iff_not, sizeLine_eq]
  omega
/-- s * n, n from 1 on -/
theorem op_mulS {X : Cx} : OpR X (binaryOp .Mult) (fun x y H Q => ∃ (l : List Nat) (n : Nat), x = .str (S l) ∧ y = .int n ∧ 1 ≤ n ∧ n ≤ 1000 ∧ l.length ≤ 1000 ∧ Q (.str (S (List.replicate n l).flatten)) H) := by
  intro pins s σ H x y v u Q I rx ry h
  obtain ⟨l, n, rfl, rfl, h1, h2, h3, q⟩ := h
  obtain ⟨t, rfl⟩ := rx
  obtain ⟨t', rfl⟩ := ry
  have hl : (S l).length = l.length := S_len l
  have hle : (S l).length * n ≤ 1000000 := by
    rw [hl]
    exact Nat.le_trans (Nat.mul_le_mul h3 h2) (by decide)
  have fin : ∀ z tk k, z = S (List.replicate n l).flatten → EP X pins σ Q (.str z tk) { s with toks := k } := fun z tk k e => by
    subst e
    exact ⟨.str _, H, I.tok _, ⟨_, rfl⟩, q⟩
  refine P.mul_str ?_ (fun _ hx => ?_) (fun _ _ => ?_) ?_
  · rw [decide_eq_false (by omega), decide_eq_false (by omega)]
    rfl
  · rw [hl]
    have h0 : (0 : Int) < n := by omega
    have : (1000 : Int) ≤ (2 ^ 63 - 1) / (n : Int) := by
      refine (Int.le_ediv_iff_mul_le h0).mpr ?_
      omega
    omega
  · rw [Int.toNat_natCast]
    exact tooLong_small hle
  · rw [if_neg (by omega)]
    by_cases hc : ((n : Int) == 1 || (S l).length == 0) = true
    · rw [if_pos hc]
      have e : (List.replicate n l).flatten = l := by
        rw [Bool.or_eq_true, beq_iff_eq, beq_iff_eq, hl] at hc
        rcases hc with hc | hc
        · obtain rfl : n = 1 := by omega
          simp
        · obtain rfl : l = [] := List.length_eq_zero_iff.mp hc
          simp
      rw [e] at q
      exact ⟨.str _, H, I, ⟨_, rfl⟩, q⟩
    · rw [if_neg hc]
      have e : ∀ (k : Nat) (acc : Array Nat), ((List.replicate k (S l).cps).foldl (· ++ ·) acc).toList = acc.toList ++ (List.replicate k l).flatten := by
        intro k
        induction k with
        | zero => intro acc; simp
        | succ k ih =>
          intro acc
          rw [List.replicate_succ, List.foldl_cons, ih, Array.toList_append, List.replicate_succ, List.flatten_cons, List.append_assoc]
      have e2 : (⟨(List.replicate (n : Int).toNat (S l).cps).foldl (· ++ ·) #[]⟩ : Str) = S (List.replicate n l).flatten := by
        refine TL.ext_tl ?_
        rw [Int.toNat_natCast]
        show ((List.replicate n (S l).cps).foldl (· ++ ·) #[]).toList = _
        rw [e]
        rfl
      rw [e2]
      refine ⟨?_, fin _ _ _ rfl⟩
      have hf : (List.replicate n l).flatten.length = n * l.length := by simp
      have hm : n * l.length ≤ 1000000 := Nat.le_trans (Nat.mul_le_mul h2 h3) (by decide)
      show (S (List.replicate n l).flatten).length ≤ sizeLine
      rw [S_len, hf, sizeLine_eq]
      omega
/-! ### pieces of a text -/
def signsL : List Str := ["{", "}", "(", ")", ":", ";", ",", ".", "=", "==", "<", "+", "-", "&", "|", "^", "->"].map Str.ofString
def kSign : Str := Str.ofString "sign"
/-- a piece: its kind, its value, its signs -/
structure PieceOk (k : Str) (v : V) (p : List Nat) : Prop where
  tok : tokOf p = some (k, v)
  ne : p ≠ []
  len : p.length ≤ 20
  nl : 10 ∉ p
  alt : (k ≠ kSign ∧ p.all inRun = true) ∨ (k = kSign ∧ S p ∈ signsL ∧ v = .str (S p))
/-- what may stand behind a piece -/
def after (k : Str) (v : V) (r : List Nat) : Prop := match r with
  | [] => True
  | c :: _ => if k = kSign then (v = .str (S [61]) → c ≠ 61) ∧ (v = .str (S [45]) → c ≠ 62) else inRun c = false
/-- what stands for a list of tokens ahead of others -/
def pre (ds : List Tk.Tok) (x : Except Nat (List Tk.Tok)) : Except Nat (List Tk.Tok) := match x with
  | .error e => .error e
  | .ok ts => .ok (ds ++ ts)
theorem pre_nil (x : Except Nat (List Tk.Tok)) : pre [] x = x := by cases x <;> rfl
theorem pre_app (a b : List Tk.Tok) (x : Except Nat (List Tk.Tok)) : pre a (pre b x) = pre (a ++ b) x := by
  cases x with
  | error e => rfl
  | ok ts => exact congrArg Except.ok (List.append_assoc a b ts).symm
theorem ahead_pre {k : Str} {v : V} {l : Nat} (x : Except Nat (List Tk.Tok)) : ahead (some (k, v)) l x = pre [(k, v, l)] x := by cases x <;> rfl
theorem sign_facts : ∀ x ∈ signsL, ∃ c r, x = S (c :: r) ∧ inRun c = false ∧ c ≠ 35 ∧ c ≠ 32 ∧ c ≠ 10 := by
  have key : ∀ x ∈ signsL, (match x.cps.toList with | [] => false | c :: _ => !inRun c && decide (c ≠ 35) && decide (c ≠ 32) && decide (c ≠ 10)) = true := by decide +kernel
  intro x hx
  have h := key x hx
  have e := S_tl x
  cases hc : x.cps.toList with
  | nil => rw [hc] at h; cases h
  | cons c r =>
    rw [hc] at h e
    simp only [Bool.and_eq_true, decide_eq_true_eq, Bool.not_eq_true'] at h
    exact ⟨c, r, e.symm, h.1.1.1, h.1.1.2, h.1.2, h.2⟩
theorem inRun_ne {c : Nat} (h : inRun c = true) : c ≠ 35 ∧ c ≠ 32 ∧ c ≠ 10 := by
  have k1 : inRun 35 = false := by decide +kernel
  have k2 : inRun 32 = false := by decide +kernel
  have k3 : inRun 10 = false := by decide +kernel
  refine ⟨?_, ?_, ?_⟩ <;> rintro rfl
  · rw [k1] at h; cases h
  · rw [k2] at h; cases h
  · rw [k3] at h; cases h
theorem tw_app {p : List Nat} (h : p.all inRun = true) (r : List Nat) (hr : ∀ c r', r = c :: r' → inRun c = false) : (p ++ r).takeWhile inRun = p := by
  induction p with
  | nil =>
    cases r with
    | nil => rfl
    | cons c r =>
      rw [List.nil_append, List.takeWhile_cons, if_neg (by rw [hr c r rfl]; exact Bool.false_ne_true)]
  | cons a p ih =>
    rw [List.all_cons, Bool.and_eq_true] at h
    rw [List.cons_append, List.takeWhile_cons, if_pos h.1, ih h.2]
/-- the run or sign at the head of p ++ r is p -/
theorem partLen_piece {k : Str} {v : V} {p r : List Nat} (h : PieceOk k v p) (ha : after k v r) : partLen (p ++ r) = p.length := by
  obtain ⟨c, q, rfl⟩ : ∃ c q, p = c :: q := by
    cases hp : p with
    | nil => exact absurd hp h.ne
    | cons c q => exact ⟨c, q, rfl⟩
  unfold partLen
  rw [List.cons_append, ← inRun_iff (r := q ++ r)]
  rcases h.alt with ⟨hk, hall⟩ | ⟨hk, hs, hv⟩
  · have hc := (Bool.and_eq_true_iff.mp (List.all_cons ▸ hall)).1
    rw [if_pos hc, ← List.cons_append, tw_app hall r]
    intro d r' e
    subst e
    have : if k = kSign then _ else inRun d = false := ha
    rw [if_neg hk] at this
    exact this
  · obtain ⟨c', r', e, hc, _⟩ := sign_facts _ hs
    have e' := S_inj e
    cases e'
    rw [if_neg (by rw [hc]; exact Bool.false_ne_true)]
    have ha' : match r with | [] => True | d :: _ => (V.str (S (c :: q)) = .str (S [61]) → d ≠ 61) ∧ (V.str (S (c :: q)) = .str (S [45]) → d ≠ 62) := by
      cases r with
      | nil => trivial
      | cons d r =>
        have : if k = kSign then (v = .str (S [61]) → d ≠ 61) ∧ (v = .str (S [45]) → d ≠ 62) else inRun d = false := ha
        rw [if_pos hk, hv] at this
        exact this
    have key : ∀ x ∈ signsL, (match x.cps.toList with | [] => false | [a] => (List.range 200).all (fun b => (decide (a = 61) && decide (b = 61)) || (decide (a = 45) && decide (b = 62)) || decide (S [a, b] ∉ longs)) && decide (S [a] ∉ longs) | [a, b] => decide (S [a, b] ∈ longs) | _ => false) = true := by decide +kernel
    have hx := key _ hs
    match q, hx, ha', hs with
    | [], hx, ha', hs =>
      have hx' : ((List.range 200).all (fun b => (decide (c = 61) && decide (b = 61)) || (decide (c = 45) && decide (b = 62)) || decide (S [c, b] ∉ longs)) && decide (S [c] ∉ longs)) = true := hx
      rw [Bool.and_eq_true, decide_eq_true_eq] at hx'
      cases r with
      | nil =>
        rw [if_neg]
        · rfl
        · exact hx'.2
      | cons d r =>
        rw [if_neg]
        · rfl
        · show S [c, d] ∉ longs
          by_cases hd : d < 200
          · have hq := List.all_eq_true.mp hx'.1 d (List.mem_range.mpr hd)
            simp only [Bool.or_eq_true, Bool.and_eq_true, decide_eq_true_eq] at hq
            rcases hq with (hq | hq) | hq
            · exact absurd hq.2 (ha'.1 (by rw [hq.1]))
            · exact absurd hq.2 (ha'.2 (by rw [hq.1]))
            · exact hq
          · intro z
            have kl : ∀ x ∈ longs, x.cps.toList.all (· < 200) = true := by decide +kernel
            have := kl _ z
            have h2 : (decide (c < 200) && (decide (d < 200) && true)) = true := this
            rw [Bool.and_eq_true, Bool.and_eq_true, decide_eq_true_eq, decide_eq_true_eq] at h2
            exact hd h2.2.1
    | [b], hx, ha', hs =>
      have hx' : decide (S [c, b] ∈ longs) = true := hx
      rw [if_pos (show S ((c :: ([b] ++ r)).take 2) ∈ longs from of_decide_eq_true hx')]
      rfl
    | a :: b :: q, hx, _, _ => cases hx
/-- the tokens of a piece and of what follows it -/
theorem toks_piece {k : Str} {v : V} {p r : List Nat} (l : Nat) (h : PieceOk k v p) (ha : after k v r) : toksT l (p ++ r) = pre [(k, v, l)] (toksT l r) := by
  have hp := partLen_piece h ha
  obtain ⟨c, q, e⟩ : ∃ c q, p = c :: q := by
    cases hp : p with
    | nil => exact absurd hp h.ne
    | cons c q => exact ⟨c, q, rfl⟩
  have hc : c ≠ 35 ∧ c ≠ 32 ∧ c ≠ 10 := by
    rcases h.alt with ⟨_, hall⟩ | ⟨_, hs, _⟩
    · rw [e] at hall
      exact inRun_ne (Bool.and_eq_true_iff.mp (List.all_cons ▸ hall)).1
    · obtain ⟨c', r', e', _, h1, h2, h3⟩ := sign_facts _ hs
      have := S_inj e'
      rw [e] at this
      cases this
      exact ⟨h1, h2, h3⟩
  have e2 : p ++ r = c :: (q ++ r) := by rw [e, List.cons_append]
  rw [e2, toksT_part hc.1 hc.2.1 hc.2.2, ← e2, hp, List.take_left, List.drop_left, h.tok, ahead_pre]
end Pk
set_option Elab.async false
set_option linter.all false
set_option maxRecDepth 100000
set_option maxHeartbeats 4000000
namespace Pk
open PySem PySem.Spec PyProof.Rows L2 SX GxR Tk
abbrev sWords : Stmt := topS 28
abbrev sSigns : Stmt := topS 29
abbrev sName : Stmt := topS 30
abbrev sHex : Stmt := topS 31
abbrev sPiece : Stmt := topS 32
abbrev sGap : Stmt := topS 33
theorem scWords : FnScope ["text"] [] (defScope sWords) := ⟨rfl, rfl, rfl, by decide +kernel, rfl, by decide +kernel, by decide +kernel⟩
theorem scSigns : FnScope [] [] (defScope sSigns) := ⟨rfl, rfl, rfl, by decide +kernel, rfl, by decide +kernel, by decide +kernel⟩
theorem scName : FnScope ["state", "letters", "name", "k"] ["state"] (defScope sName) := ⟨rfl, rfl, rfl, by decide +kernel, rfl, by decide +kernel, by decide +kernel⟩
theorem scHex : FnScope ["n", "size", "digits"] ["n", "size"] (defScope sHex) := ⟨rfl, rfl, rfl, by decide +kernel, rfl, by decide +kernel, by decide +kernel⟩
theorem scPiece : FnScope ["state", "kind", "word", "n", "name", "sign"] ["state"] (defScope sPiece) := ⟨rfl, rfl, rfl, by decide +kernel, rfl, by decide +kernel, by decide +kernel⟩
theorem scGap : FnScope ["state", "kind"] ["state"] (defScope sGap) := ⟨rfl, rfl, rfl, by decide +kernel, rfl, by decide +kernel, by decide +kernel⟩
def spWords : Sp := fun vs H Q _ => vs = [] ∧ ∀ p, H p = none → Q (.ref p) (upd H p (.lst (words.map V.str)))
def spSigns : Sp := fun vs H Q _ => vs = [] ∧ ∀ p, H p = none → Q (.ref p) (upd H p (.lst (signsL.map V.str)))
structure NameOk (n : List Nat) : Prop where
  head : headIn letters n = true
  run : n.all inRun = true
  len : n.length ≤ 16
  free : S n ∉ words
def spName : Sp := fun vs H Q _ => ∃ s c : Addr, vs = [.ref s] ∧ StAt H s c ∧ ∀ H' n, NameOk n → StAt H' s c → Kp s c H H' → Q (.str (S n)) H'
def spHex : Sp := fun vs H Q _ => ∃ n z : Nat, vs = [.int n, .int z] ∧ n ≤ 4294967295 ∧ 1 ≤ z ∧ z ≤ 8 ∧
  ∀ d : List Nat, 1 ≤ d.length → d.length ≤ 8 → allIn d hexes = true → Hx.hexNum d = n → Q (.str (S ([48, 120] ++ d))) H
section
variable {P : Program} {w : World} {K : PySem.W.Frag} {mg : Str → Option Value} {base : Heap}
theorem split_words : Txt.split (Str.ofString "accept action add apply control default drop else emit exact extract go header if key mask meta not packet" ++ Str.ofString " parser prefix program reject remove select send size state table use valid") (Str.ofString " ") = words := by decide +kernel
theorem split_signs : Txt.split (Str.ofString "{ } ( ) : ; , . = == < + - & | ^ ->") (Str.ofString " ") = signsL := by decide +kernel
theorem ok_words {f : Addr} {fd : FuncData} {k : Nat} (F : Fun K "_law_words" "_law_words" sWords f fd) : FnOk P w K mg base CX0 (k + 1) f fd [] spWords := by
  refine F.ok scWords (fun vs H Q E h => ?_) (fun cdv A outer s H vs Q E hr h => ?_)
  · obtain ⟨rfl, _⟩ := h
    rfl
  · obtain ⟨rfl, q⟩ := h
    refine ⟨_, pss_cons (ps_set (i := 0) scWords.nd rfl (.inl rfl) pe_str) (pss_one (ps_ret (pe_split (pe_op op_add_str (pv 0) pe_str) pe_str))), ?_⟩
    refine ⟨_, rfl, _, _, rfl, rfl, by decide +kernel, ⟨_, rfl⟩, _, _, rfl, rfl, by decide +kernel, by decide +kernel, ?_⟩
    rw [split_words]
    exact q
theorem ok_signs {f : Addr} {fd : FuncData} {k : Nat} (F : Fun K "_law_signs" "_law_signs" sSigns f fd) : FnOk P w K mg base CX0 (k + 1) f fd [] spSigns := by
  refine F.ok scSigns (fun vs H Q E h => ?_) (fun cdv A outer s H vs Q E hr h => ?_)
  · obtain ⟨rfl, _⟩ := h
    rfl
  · obtain ⟨rfl, q⟩ := h
    refine ⟨_, pss_one (ps_ret (pe_split pe_str pe_str)), ?_⟩
    refine ⟨⟨_, rfl⟩, _, _, rfl, rfl, by decide +kernel, by decide +kernel, ?_⟩
    rw [split_signs]
    exact q
theorem letS : lettersS = S letters := (S_tl lettersS).symm
theorem let_cat : lettersS ++ Str.ofString "0123456789_" = S (letters ++ digits ++ [95]) := by decide +kernel
theorem at_list {t : List Nat} {r : Int} (h0 : 0 ≤ r) (h1 : r < t.length) : ∃ c ∈ t, atI (S t).cps.toList r = some c := by
  obtain ⟨j, rfl⟩ : ∃ j : Nat, r = (j : Int) := ⟨r.toNat, by omega⟩
  have hj : j < t.length := by omega
  exact ⟨t[j], List.getElem_mem hj, at_S hj⟩
theorem run_mem {c : Nat} (h : c ∈ letters ++ digits ++ [95]) : inRun c = true := by
  have key : ∀ c ∈ letters ++ digits ++ [95], inRun c = true := by decide +kernel
  exact key c h
theorem let_run {c : Nat} (h : c ∈ letters) : inRun c = true := run_mem (List.mem_append_left _ (List.mem_append_left _ h))
theorem us_free {n : List Nat} (h : S n ∈ words) : n.length ≤ 7 ∧ S (n ++ [95]) ∉ words := by
  have k1 : ∀ x ∈ words, x.cps.toList.length ≤ 7 := by decide +kernel
  have k2 : ∀ x ∈ words, x.cps.toList.getLast? ≠ some 95 := by decide +kernel
  refine ⟨k1 _ h, fun z => k2 _ z ?_⟩
  show (n ++ [95]).getLast? = some 95
  simp
theorem len52 : letters.length = 52 := by decide +kernel
theorem len63 : (letters ++ digits ++ [95]).length = 63 := by decide +kernel
theorem ok_name {f : Addr} {fd : FuncData} {k : Nat} (F : Fun K "_law_name" "_law_name" sName f fd) (zR : mg "range" = none) (DD : Df P w K mg base CX0 (k + 1) "_law_draw" ["state", "many"] spDraw)
    (DW : Df P w K mg base CX0 (k + 1) "_law_words" [] spWords) : FnOk P w K mg base CX0 (k + 2) f fd ["state"] spName := by
  obtain ⟨fD, fdD, GD, gD, kD, bD⟩ := DD.ex
  obtain ⟨fW, fdW, GW, gW, kW, bW⟩ := DW.ex
  refine F.ok scName (fun vs H Q E h => ?_) (fun cdv A outer s0 H vs Q E hr h => ?_)
  · obtain ⟨s, c, rfl, _⟩ := h
    rfl
  · obtain ⟨s, c, rfl, hS, q⟩ := h
    have nd := scName.nd
    refine ⟨_, pss_cons (ps_set (i := 1) nd rfl (.inl rfl) pe_str)
      (pss_cons (ps_set (i := 2) nd rfl (.inl rfl) (pe_ix ix_str (pv 1) (pe_call GD hr (by rfl) gD kD bD .nil pass0 (pa_cons (pv 0) (pa_cons pe_int pa_nil))) (fun _ _ => rfl)))
      (pss_cons (ps_for PassesOwn.never rfl (pi_range1 (by rfl) zR (pa_cons (pe_call GD hr (by rfl) gD kD bD .nil pass0 (pa_cons (pv 0) (pa_cons pe_int pa_nil))) pa_nil)) (pg_name (i := 3) nd rfl (.inl rfl))
        (pss_one (ps_set (i := 2) nd rfl (.inl rfl) (pe_op op_add_str (pv 2) (pe_ix ix_str (pe_op op_add_str (pv 1) pe_str) (pe_call GD hr (by rfl) gD kD bD .nil pass0 (pa_cons (pv 0) (pa_cons pe_int pa_nil))) (fun _ _ => rfl))))))
      (pss_one (ps_ret (pe_ifExp (pt_cmpR op_in_seq (pv 2) (pe_call0 GW hr (by rfl) gW kW bW .nil pass0) (by rfl)) (pe_op op_add_str (pv 2) pe_str) (pv 2)))))), ?_⟩
    refine ⟨_, rfl, _, rfl, s, c, 52, rfl, hS, by decide, by decide, fun H1 r r0 r1 hS1 k1 => ?_⟩
    obtain ⟨c0, hc0, e0⟩ := at_list (t := letters) r0 (by rw [len52]; omega)
    refine ⟨_, _, _, rfl, rfl, by decide +kernel, e0, ?_⟩
    refine ⟨_, rfl, s, c, 16, rfl, hS1, by decide, by decide, fun H2 r2 r20 r21 hS2 k2 => ⟨r2, rfl, by omega, by omega, ?_⟩⟩
    refine for_range (lo := 0) (n := r2.toNat) (fun i σ H' => ∃ (n : List Nat) (v3 : Option V), σ = [some (.ref s), some (.str lettersS), some (.str (S n)), v3] ∧ headIn letters n = true ∧ n.all inRun = true ∧ n.length = i + 1 ∧ StAt H' s c ∧ Kp s c H H')
      ⟨[c0], none, rfl, decide_eq_true hc0, by rw [List.all_cons, let_run hc0]; rfl, rfl, hS2, k1.trans k2⟩ ?_ ?_
    · rintro i σ H' hi ⟨n, v3, rfl, h1, h2, h3, hS', k'⟩
      refine ⟨_, rfl, _, rfl, _, _, rfl, rfl, by decide +kernel, ?_⟩
      refine ⟨_, rfl, s, c, 63, rfl, hS', by decide, by decide, fun H3 r3 r30 r31 hS3 k3 => ?_⟩
      obtain ⟨c3, hc3, e3⟩ := at_list (t := letters ++ digits ++ [95]) r30 (by rw [len63]; omega)
      refine ⟨_, _, _, rfl, rfl, by decide +kernel, (by rw [show lettersS ++ Str.ofString "0123456789_" = _ from let_cat]; exact e3), _, _, rfl, rfl, ?_, n ++ [c3], some (.int (0 + (i : Int))), ?_, ?_, ?_, ?_, hS3, k'.trans k3⟩
      · rw [S_len, sizeLine_eq]
        show n.length + 1 ≤ _
        omega
      · show ([_, _, some (V.str (S n ++ S [c3])), _] : L2.St) = _
        rw [S_cat]
      · cases n with
        | nil => cases h1
        | cons a n => exact h1
      · rw [List.all_append, h2, List.all_cons, run_mem hc3]
        rfl
      · rw [List.length_append, h3]
        rfl
    · rintro σ H' ⟨n, v3, rfl, h1, h2, h3, hS', k'⟩
      have hln : n.length ≤ 16 := by omega
      refine ⟨_, rfl, rfl, fun p hp => ?_⟩
      refine ⟨p, _, rfl, .inl (SqL.of upd_same), rfl, flat_strs _, ?_⟩
      show ∃ k, V.bl (inV (.str (S n)) (words.map V.str)) = .bl k ∧ _
      rw [inV_strs]
      refine ⟨_, rfl, iteD (fun hw => ?_) fun hw => ?_⟩
      · have hu := us_free hw
        refine ⟨_, rfl, _, _, rfl, rfl, ?_, ?_⟩
        · rw [S_len, us_code, S_len, sizeLine_eq]
          show n.length + 1 ≤ _
          omega
        · rw [us_code, S_cat]
          refine q _ (n ++ [95]) ⟨?_, ?_, ?_, hu.2⟩ (hS'.new hp) (k'.trans (Kp.new hp))
          · cases n with
            | nil => cases h1
            | cons a n => exact h1
          · rw [List.all_append, h2]
            exact Bool.and_true _ ▸ (by decide +kernel)
          · rw [List.length_append]
            show n.length + 1 ≤ 16
            omega
      · exact ⟨_, rfl, q _ n ⟨h1, h2, hln, hw⟩ (hS'.new hp) (k'.trans (Kp.new hp))⟩
end
end Pk
set_option Elab.async false
set_option linter.all false
set_option maxRecDepth 100000
set_option maxHeartbeats 4000000
namespace Pk
open PySem PySem.Spec PyProof.Rows L2 SX GxR Tk
theorem hexfold : ∀ (d : List Nat) (a : Nat), d.foldl (fun a c => a * 16 + Hx.hv c) a = a * 16 ^ d.length + Hx.hexNum d
  | [], a => by simp [Hx.hexNum]
  | c :: d, a => by
    show d.foldl _ (a * 16 + Hx.hv c) = _
    rw [hexfold d (a * 16 + Hx.hv c)]
    show _ = a * 16 ^ (d.length + 1) + d.foldl (fun a c => a * 16 + Hx.hv c) (0 * 16 + Hx.hv c)
    rw [hexfold d (0 * 16 + Hx.hv c), Nat.pow_succ, Nat.zero_mul, Nat.zero_add, Nat.add_mul, ← Nat.add_assoc, Nat.mul_assoc a, Nat.mul_comm 16]
theorem hexNum_cons (c : Nat) (d : List Nat) : Hx.hexNum (c :: d) = Hx.hv c * 16 ^ d.length + Hx.hexNum d := by
  have := hexfold d (0 * 16 + Hx.hv c)
  rw [Nat.zero_mul, Nat.zero_add] at this
  show d.foldl _ (0 * 16 + Hx.hv c) = _
  rw [Nat.zero_mul, Nat.zero_add]
  exact this
theorem hex16 : ∀ j, j < 16 → Hx.hv (hexes.getD j 0) = j ∧ hexes.getD j 0 ∈ hexes := by decide +kernel
theorem lenH : hexes.length = 16 := by decide +kernel
section
variable {P : Program} {w : World} {K : PySem.W.Frag} {mg : Str → Option Value} {base : Heap}
theorem ok_hex {f : Addr} {fd : FuncData} {k : Nat} (F : Fun K "_law_hex" "_law_hex" sHex f fd) (T : Tx K mg) : FnOk P w K mg base CX0 (k + 1) f fd ["n", "size"] spHex := by
  refine F.ok scHex (fun vs H Q E h => ?_) (fun cdv A outer s0 H vs Q E hr h => ?_)
  · obtain ⟨n, z, rfl, _⟩ := h
    rfl
  · obtain ⟨n, z, rfl, hn, hz1, hz8, q⟩ := h
    have nd := scHex.nd
    refine ⟨_, pss_cons (ps_set (i := 2) nd rfl (.inl rfl) pe_str)
      (pss_cons (ps_while PassesOwn.never (PW.pt (pw_or (pt_cmpR op_gt (pv 0) pe_int (nomark _)) (pw_or1 (pt_cmpR op_lt (pe_callB call_len_str (by rfl) T.zLen PySem.boot_len (pa_cons (pv 2) pa_nil)) (pv 1) (nomark _)))))
        (pss_cons (ps_set (i := 2) nd rfl (.inl rfl) (pe_op op_add_str (pe_ix ix_str pe_str (pe_op op_mod (pe_callTy call_int1 (by rfl) T.zInt (by decide +kernel) (pa_cons (pv 0) pa_nil)) pe_int) (fun _ _ => rfl)) (pv 2)))
        (pss_one (ps_set (i := 0) nd rfl (.inl rfl) (pe_op op_fdiv (pv 0) pe_int)))))
      (pss_one (ps_ret (pe_op op_add_str pe_str (pv 2))))), ?_⟩
    refine ⟨fun m σ H' => ∃ (a : Nat) (d : List Nat), m = a + (z - d.length) ∧ σ = [some (.int (a : Nat)), some (.int (z : Nat)), some (.str (S d))] ∧ H' = H ∧ a * 16 ^ d.length + Hx.hexNum d = n ∧ d.length ≤ 8 ∧ allIn d hexes = true,
      ⟨n + z, n, [], rfl, rfl, rfl, by simp [Hx.hexNum], by simp, rfl⟩, ?_⟩
    rintro m σ H' ⟨a, d, rfl, rfl, rfl, h1, h2, h3⟩
    have hl : (((S d).length : Nat) : Int) = (d.length : Int) := by rw [S_len]
    have hsz : (S d).length ≤ sizeLine := by rw [S_len, sizeLine_eq]; omega
    -- one more sign
    have turn : (0 < a ∨ d.length < z) → tSeq (tAsg (tOp (fun x y H Q => ∃ i j, x = .str i ∧ y = .str j ∧ i.length + j.length ≤ sizeLine ∧ Q (.str (i ++ j)) H) (tOp rIxS (tC (.str (Str.ofString "0123456789abcdef"))) (tOp (rI (fun _ j => 0 < j) fun i j => .int (i % j)) (tCB (fun xs H Q => (∃ i, xs = [V.int i] ∧ Q (.int i) H) ∨ ∃ k, xs = [V.bl k] ∧ Q (.int (if k then 1 else 0)) H) (tCons (tVar 0) tNil)) (tC (.int 16)))) (tVar 2)) (gName 2)) (tAsg (tOp (rI CDiv fun i j => .int (i / j)) (tVar 0) (tC (.int 16))) (gName 0))
        { nx := fun σ' H'' => ∃ m', m' < a + (z - d.length) ∧ ∃ (a : Nat) (d : List Nat), m' = a + (z - d.length) ∧ σ' = [some (.int (a : Nat)), some (.int (z : Nat)), some (.str (S d))] ∧ H'' = H' ∧ a * 16 ^ d.length + Hx.hexNum d = n ∧ d.length ≤ 8 ∧ allIn d hexes = true, rt := Q }
        [some (.int (a : Nat)), some (.int (z : Nat)), some (.str (S d))] H' := fun hm => by
      have hd8 : d.length < 8 := by
        rcases hm with ha | hd
        · refine Nat.lt_of_not_le fun h8 => ?_
          have p8 : 16 ^ 8 ≤ 16 ^ d.length := Nat.pow_le_pow_right (by decide) h8
          have p1 : 16 ^ d.length ≤ a * 16 ^ d.length := Nat.le_mul_of_pos_left _ ha
          have : (16 : Nat) ^ 8 = 4294967296 := by decide
          omega
        · omega
      have hj : a % 16 < 16 := Nat.mod_lt _ (by decide)
      have hx := hex16 (a % 16) hj
      have hat : atI (Str.ofString "0123456789abcdef").cps.toList (((a % 16 : Nat)) : Int) = some (hexes.getD (a % 16) 0) := by
        refine atI_nat ?_
        show hexes[a % 16]? = _
        rw [List.getD_eq_getElem?_getD, List.getElem?_eq_getElem (by rw [lenH]; exact hj)]
        rfl
      have em : ((a : Nat) : Int) % 16 = ((a % 16 : Nat) : Int) := by omega
      rw [← em] at hat
      refine ⟨_, rfl, .inl ⟨_, rfl, _, _, rfl, rfl, (by show (0 : Int) < 16; decide), ?_⟩⟩
      refine ⟨_, _, _, rfl, rfl, by decide +kernel, hat, _, rfl, _, _, rfl, rfl, ?_, ?_⟩
      · rw [S_len, sizeLine_eq]
        show 1 + d.length ≤ _
        omega
      · refine ⟨_, rfl, _, _, rfl, rfl, ⟨by decide, by decide⟩, (a / 16) + (z - (d.length + 1)), ?_, a / 16, hexes.getD (a % 16) 0 :: d, rfl, ?_, rfl, ?_, ?_, ?_⟩
        · rcases hm with ha | hd
          · have := Nat.div_lt_self ha (by decide : 1 < 16)
            omega
          · have := Nat.div_le_self a 16
            omega
        · show ([some (V.int (((a : Nat) : Int) / 16)), _, some (V.str (S [hexes.getD (a % 16) 0] ++ S d))] : L2.St) = _
          rw [S_cat, show ((a : Nat) : Int) / 16 = ((a / 16 : Nat) : Int) by omega]
          rfl
        · rw [hexNum_cons, hx.1, List.length_cons, Nat.pow_succ, ← h1]
          have : a = a / 16 * 16 + a % 16 := by omega
          generalize 16 ^ d.length = X
          generalize Hx.hexNum d = Y
          have e : a * X = a / 16 * 16 * X + a % 16 * X := by rw [← Nat.add_mul, ← this]
          rw [e, Nat.mul_comm X 16, ← Nat.mul_assoc]
          omega
        · rw [List.length_cons]
          omega
        · show (decide (hexes.getD (a % 16) 0 ∈ hexes) && allIn d hexes) = true
          rw [h3, decide_eq_true hx.2]
          rfl
    refine ⟨_, rfl, _, _, rfl, rfl, _, rfl, iteD (fun ha => ?_) fun ha => ?_⟩
    · exact iteT ⟨_, fun _ _ h => h, turn (.inl (by omega))⟩
    · refine ⟨_, rfl, _, rfl, hsz, _, rfl, _, _, rfl, rfl, _, rfl, ?_⟩
      rw [hl]
      refine iteD (fun hb => ⟨_, fun _ _ h => h, turn (.inr (by omega))⟩) fun hb => ?_
      have a0 : a = 0 := by omega
      subst a0
      rw [Nat.zero_mul, Nat.zero_add] at h1
      refine ⟨_, rfl, _, _, rfl, rfl, ?_, ?_⟩
      · rw [zx_code, S_len, S_len, sizeLine_eq]
        show 2 + d.length ≤ _
        omega
      · rw [zx_code, S_cat]
        exact q d (by omega) h2 h3 h1
end
end Pk
set_option Elab.async false
set_option linter.all false
set_option maxRecDepth 100000
set_option maxHeartbeats 4000000
namespace Pk
open PySem PySem.Spec PyProof.Rows L2 SX GxR Tk
theorem StAt.neS {H : Hp} {s c p : Addr} (h : StAt H s c) (hp : H p = none) : p ≠ s ∧ p ≠ c := by
  obtain ⟨cells, seed, h1, h2, _⟩ := h
  exact ⟨Ne.symm (ne_of_none h1 hp), Ne.symm (ne_of_none h2 hp)⟩
/-! ### the pieces -/
theorem S_of (x : Str) : ∃ l, x = S l := ⟨x.cps.toList, (S_tl x).symm⟩
theorem word_piece {x : Str} (h : x ∈ words) : ∃ p, x = S p ∧ PieceOk (Str.ofString "word") (.str x) p := by
  have key : ∀ x ∈ words, tokOf x.cps.toList = some (Str.ofString "word", .str x) ∧ x.cps.toList ≠ [] ∧ x.cps.toList.length ≤ 20 ∧ 10 ∉ x.cps.toList ∧ x.cps.toList.all inRun = true := by decide +kernel
  obtain ⟨k1, k2, k3, k4, k5⟩ := key x h
  exact ⟨x.cps.toList, (S_tl x).symm, k1, k2, k3, k4, .inl ⟨by decide +kernel, k5⟩⟩
theorem sign_piece {x : Str} (h : x ∈ signsL) : ∃ p, x = S p ∧ PieceOk kSign (.str x) p := by
  have key : ∀ x ∈ signsL, tokOf x.cps.toList = some (kSign, .str x) ∧ x.cps.toList ≠ [] ∧ x.cps.toList.length ≤ 20 ∧ 10 ∉ x.cps.toList := by decide +kernel
  obtain ⟨k1, k2, k3, k4⟩ := key x h
  refine ⟨x.cps.toList, (S_tl x).symm, k1, k2, k3, k4, .inr ⟨rfl, ?_, ?_⟩⟩
  · rw [S_tl]
    exact h
  · rw [S_tl]
theorem nl_run {p : List Nat} (h : p.all inRun = true) : 10 ∉ p := fun hm => (inRun_ne (List.all_eq_true.mp h 10 hm)).2.2 rfl
theorem name_piece {n : List Nat} (h : NameOk n) : PieceOk (Str.ofString "name") (.str (S n)) n := by
  refine ⟨?_, ?_, by have := h.len; omega, nl_run h.run, .inl ⟨by decide +kernel, h.run⟩⟩
  · unfold Tk.tokOf
    rw [if_pos ⟨h.head, h.len⟩, if_neg h.free]
  · intro e
    have := h.head
    rw [e] at this
    cases this
theorem dig_run {c : Nat} (h : c ∈ digits) : inRun c = true := run_mem (List.mem_append_left _ (List.mem_append_right _ h))
theorem hex_run {c : Nat} (h : c ∈ hexes) : inRun c = true := by
  have key : ∀ c ∈ hexes, inRun c = true := by decide +kernel
  exact key c h
theorem hex_piece {d : List Nat} {n : Nat} (h1 : 1 ≤ d.length) (h2 : d.length ≤ 8) (h3 : allIn d hexes = true) (h4 : Hx.hexNum d = n) : PieceOk (Str.ofString "number") (.int n) ([48, 120] ++ d) := by
  have hx : isHexed ([48, 120] ++ d) = true := rfl
  have hn : isNum ([48, 120] ++ d) = true := by
    unfold isNum
    rw [if_pos hx]
    show (decide (1 ≤ d.length) && decide (d.length ≤ 8) && allIn d hexes) = true
    rw [decide_eq_true h1, decide_eq_true h2, h3]
    rfl
  have hl : headIn letters ([48, 120] ++ d) = false := by
    show decide (48 ∈ letters) = false
    decide +kernel
  have hr : ([48, 120] ++ d).all inRun = true := by
    rw [List.all_append, Bool.and_eq_true]
    refine ⟨by decide +kernel, List.all_eq_true.mpr fun c hc => hex_run (of_decide_eq_true (List.all_eq_true.mp h3 c hc))⟩
  refine ⟨?_, List.cons_ne_nil _ _, ?_, nl_run hr, .inl ⟨by decide +kernel, hr⟩⟩
  · unfold Tk.tokOf
    rw [if_neg (by rw [hl]; exact fun z => Bool.false_ne_true z.1), if_pos hn]
    unfold numVal
    rw [if_pos hx]
    show some (_, V.int ((Hx.hexNum d : Nat) : Int)) = _
    rw [h4]
  · rw [List.length_append]
    show 2 + d.length ≤ 20
    omega
theorem numL_head (n : Nat) : (TL.numL n).take 1 = [48] → TL.numL n = [48] := by
  induction n using Nat.strongRecOn with
  | ind n ih =>
    intro h
    by_cases hn : n < 10
    · rw [TL.numL_lt hn] at h ⊢
      exact h
    · have e := TL.numL_step (n := n) (by omega)
      have hne := TL.numL_ne (n / 10)
      obtain ⟨c, r, ec⟩ := head_one hne
      rw [e, ec] at h
      have h2 := ih (n / 10) (by omega) (by rw [ec]; exact h)
      have h3 := TL.numL_val (n / 10)
      rw [h2] at h3
      have h4 : n / 10 = 0 := h3.symm
      omega
theorem digs_all {p : List Nat} (h : NumText.AllDigits p) : allIn p digits = true := by
  have key : ∀ c, c < 58 → 48 ≤ c → c ∈ digits := by decide +kernel
  refine List.all_eq_true.mpr fun c hc => decide_eq_true ?_
  have := h c hc
  exact key c (by omega) this.1
theorem dec_piece {n : Nat} (h : n ≤ 4294967295) : PieceOk (Str.ofString "number") (.int n) (TL.numL n) := by
  have hd := TL.numL_digits n
  have hne := TL.numL_ne n
  have hlen : (TL.numL n).length ≤ 10 := TL.numL_len (by decide) (by omega)
  have ha := digs_all hd
  have hv := TL.numL_val n
  have hx : ¬ isHexed (TL.numL n) = true := by
    intro z
    have z' : (TL.numL n).take 2 = [48, 120] := of_decide_eq_true z
    have : 120 ∈ TL.numL n := List.mem_of_mem_take (by rw [z']; exact List.mem_cons_of_mem _ List.mem_cons_self : (120 : Nat) ∈ (TL.numL n).take 2)
    have := hd 120 this
    omega
  have hn : isNum (TL.numL n) = true := by
    unfold isNum
    rw [if_neg hx]
    by_cases h0 : (TL.numL n).take 1 = [48]
    · rw [if_pos h0]
      exact decide_eq_true (numL_head n h0)
    · rw [if_neg h0, if_neg (by omega), ha, hv, Bool.true_and]
      exact decide_eq_true h
  have hr : (TL.numL n).all inRun = true := List.all_eq_true.mpr fun c hc => dig_run (of_decide_eq_true (List.all_eq_true.mp ha c hc))
  refine ⟨?_, hne, by omega, nl_run hr, .inl ⟨by decide +kernel, hr⟩⟩
  obtain ⟨c, r, e⟩ := head_one hne
  unfold Tk.tokOf
  have hl : headIn letters (TL.numL n) = false := by
    rw [e]
    refine decide_eq_false fun hc => ?_
    have k : ∀ c ∈ letters, ¬ (48 ≤ c ∧ c ≤ 57) := by decide +kernel
    exact k c hc (hd c (by rw [e]; exact List.mem_cons_self))
  rw [if_neg (by rw [hl]; exact fun z => Bool.false_ne_true z.1), if_pos hn]
  unfold numVal
  rw [if_neg hx, hv]
def spPiece : Sp := fun vs H Q _ => ∃ s c : Addr, vs = [.ref s] ∧ StAt H s c ∧ ∀ H' p k v x, PieceOk k v x → StAt H' s c → Kp s c H H' → H' p = some (.tup [.str k, v, .str (S x)]) → Q (.ref p) H'
section
variable {P : Program} {w : World} {K : PySem.W.Frag} {mg : Str → Option Value} {base : Heap}
theorem ok_piece {f : Addr} {fd : FuncData} {k : Nat} (F : Fun K "_law_piece" "_law_piece" sPiece f fd) (zStr : mg "str" = none) (DD : Df P w K mg base CX0 (k + 1) "_law_draw" ["state", "many"] spDraw) (DP : Df P w K mg base CX0 (k + 2) "_law_pick" ["state", "row"] (spPick K))
    (DW : Df P w K mg base CX0 (k + 1) "_law_words" [] spWords) (DS : Df P w K mg base CX0 (k + 1) "_law_signs" [] spSigns) (DN : Df P w K mg base CX0 (k + 2) "_law_name" ["state"] spName) (DH : Df P w K mg base CX0 (k + 1) "_law_hex" ["n", "size"] spHex) :
    FnOk P w K mg base CX0 (k + 3) f fd ["state"] spPiece := by
  obtain ⟨fD, fdD, GD, gD, kD, bD⟩ := DD.ex
  obtain ⟨fP, fdP, GP, gP, kP, bP⟩ := DP.ex
  obtain ⟨fW, fdW, GW, gW, kW, bW⟩ := DW.ex
  obtain ⟨fS, fdS, GS, gS, kS, bS⟩ := DS.ex
  obtain ⟨fN, fdN, GN, gN, kN, bN⟩ := DN.ex
  obtain ⟨fH, fdH, GH, gH, kH, bH⟩ := DH.ex
  refine F.ok scPiece (fun vs H Q E h => ?_) (fun cdv A outer s0 H vs Q E hr h => ?_)
  · obtain ⟨s, c, rfl, _⟩ := h
    rfl
  · obtain ⟨s, c, rfl, hS, q⟩ := h
    have nd := scPiece.nd
    have hr1 : Room (k + 1) _ := hr.mono (Nat.le_succ _)
    refine ⟨_, pss_cons (ps_set (i := 1) nd rfl (.inl rfl) (pe_call GD hr1 (by rfl) gD kD bD .nil pass0 (pa_cons (pv 0) (pa_cons pe_int pa_nil))))
      (pss_cons (ps_if (pt_cmpR op_eq (pv 1) pe_int (nomark _))
        (pss_cons (ps_set (i := 2) nd rfl (.inl rfl) (pe_call GP hr (by rfl) gP kP bP .nil pass0 (pa_cons (pv 0) (pa_cons (pe_call0 GW hr1 (by rfl) gW kW bW .nil pass0) pa_nil))))
        (pss_one (ps_ret (pe_tup (pa_cons pe_str (pa_cons (pv 2) (pa_cons (pv 2) pa_nil))))))) pss_nil)
      (pss_cons (ps_if (pt_cmpR op_eq (pv 1) pe_int (nomark _))
        (pss_cons (ps_set (i := 3) nd rfl (.inl rfl) (pe_call GP hr (by rfl) gP kP bP .nil pass0 (pa_cons (pv 0) (pa_cons (pe_lst
            (pa_cons (pe_call GD hr1 (by rfl) gD kD bD .nil pass0 (pa_cons (pv 0) (pa_cons pe_int pa_nil)))
            (pa_cons (pe_op op_sub pe_int (pe_call GD hr1 (by rfl) gD kD bD .nil pass0 (pa_cons (pv 0) (pa_cons pe_int pa_nil))))
            (pa_cons (pe_call GD hr1 (by rfl) gD kD bD .nil pass0 (pa_cons (pv 0) (pa_cons pe_int pa_nil))) pa_nil)))) pa_nil))))
        (pss_cons (ps_if (pt_cmpR op_eq (pe_call GD hr1 (by rfl) gD kD bD .nil pass0 (pa_cons (pv 0) (pa_cons pe_int pa_nil))) pe_int (nomark _))
          (pss_one (ps_ret (pe_tup (pa_cons pe_str (pa_cons (pv 3) (pa_cons (pe_call GH hr1 (by rfl) gH kH bH .nil pass0 (pa_cons (pv 3)
            (pa_cons (pe_op op_add pe_int (pe_call GD hr1 (by rfl) gD kD bD .nil pass0 (pa_cons (pv 0) (pa_cons pe_int pa_nil)))) pa_nil))) pa_nil)))))) pss_nil)
        (pss_one (ps_ret (pe_tup (pa_cons pe_str (pa_cons (pv 3) (pa_cons (pe_callTy call_str_int (by rfl) zStr (by decide +kernel) (pa_cons (pv 3) pa_nil)) pa_nil)))))))) pss_nil)
      (pss_cons (ps_if (pt_cmpR op_lt (pv 1) pe_int (nomark _))
        (pss_cons (ps_set (i := 4) nd rfl (.inl rfl) (pe_call GN hr (by rfl) gN kN bN .nil pass0 (pa_cons (pv 0) pa_nil)))
        (pss_one (ps_ret (pe_tup (pa_cons pe_str (pa_cons (pv 4) (pa_cons (pv 4) pa_nil))))))) pss_nil)
      (pss_cons (ps_set (i := 5) nd rfl (.inl rfl) (pe_call GP hr (by rfl) gP kP bP .nil pass0 (pa_cons (pv 0) (pa_cons (pe_call0 GS hr1 (by rfl) gS kS bS .nil pass0) pa_nil))))
      (pss_one (ps_ret (pe_tup (pa_cons pe_str (pa_cons (pv 5) (pa_cons (pv 5) pa_nil)))))))))), ?_⟩
    have hs := hS
    refine ⟨_, rfl, s, c, 6, rfl, hS, by decide, by decide, fun H1 r r0 r1 hS1 k1 => ?_⟩
    have fin : ∀ (H2 : Hp) (p : Addr) (kd : Str) (v : V) (x : List Nat), PieceOk kd v x → StAt H2 s c → Kp s c H H2 → H2 p = none → Q (.ref p) (upd H2 p (.tup [.str kd, v, .str (S x)])) := fun H2 p kd v x hp h2 k2 h3 =>
      q _ p kd v x hp (h2.new h3) (k2.trans (Kp.new h3)) upd_same
    obtain ⟨kd, rfl⟩ : ∃ j : Nat, r = (j : Int) := ⟨r.toNat, by omega⟩
    refine ⟨_, rfl, rfl, _, rfl, ?_⟩
    rw [dcInt]
    refine iteD (fun h0 => ?_) fun h0 => ?_
    · -- a reserved word
      refine ⟨_, rfl, rfl, fun p hp => ?_⟩
      have hn := hS1.neS hp
      refine ⟨s, c, p, _, rfl, hS1.new hp, SqL.of upd_same, hn.1, hn.2, by decide, by decide, fun H2 i x hx hS2 k2 => ?_⟩
      obtain ⟨w0, hw, rfl⟩ := List.mem_map.mp (List.mem_of_getElem? hx)
      obtain ⟨x, rfl, hpc⟩ := word_piece hw
      exact ⟨_, rfl, _, rfl, len3, fun t ht => fin _ t _ _ x hpc hS2 ((k1.trans (Kp.new hp)).trans k2) ht⟩
    · refine ⟨_, rfl, rfl, _, rfl, ?_⟩
      rw [dcInt]
      refine iteD (fun h1 => ?_) fun h1 => ?_
      · -- a number
        refine ⟨_, rfl, _, rfl, s, c, 12, rfl, hS1, by decide, by decide, fun H2 a a0 a1 hS2 k2 => ?_⟩
        refine ⟨_, rfl, s, c, 3, rfl, hS2, by decide, by decide, fun H3 b b0 b1 hS3 k3 => ⟨_, _, rfl, rfl, ?_⟩⟩
        refine ⟨_, rfl, s, c, 4294967296, rfl, hS3, by decide, by decide, fun H4 d d0 d1 hS4 k4 => ⟨len3, fun p hp => ?_⟩⟩
        have hn := hS4.neS hp
        refine ⟨s, c, p, _, rfl, hS4.new hp, SqL.of upd_same, hn.1, hn.2, Nat.zero_lt_succ _, (by show 3 ≤ 1000; decide), fun H5 i x hx hS5 k5 => ?_⟩
        obtain ⟨n, rfl, hn9⟩ : ∃ n : Nat, x = .int n ∧ n ≤ 4294967295 := by
          have hm := List.mem_of_getElem? hx
          rcases List.mem_cons.mp hm with rfl | hm
          · exact ⟨a.toNat, by rw [show ((a.toNat : Nat) : Int) = a by omega], by omega⟩
          · rcases List.mem_cons.mp hm with rfl | hm
            · exact ⟨(4294967295 - b).toNat, by rw [show (((4294967295 - b).toNat : Nat) : Int) = 4294967295 - b by omega], by omega⟩
            · obtain rfl := List.mem_singleton.mp hm
              exact ⟨d.toNat, by rw [show ((d.toNat : Nat) : Int) = d by omega], by omega⟩
        have kk := ((((k1.trans k2).trans k3).trans k4).trans (Kp.new hp)).trans k5
        refine ⟨_, rfl, s, c, 3, rfl, hS5, by decide, by decide, fun H6 e e0 e1 hS6 k6 => ⟨rfl, _, rfl, ?_⟩⟩
        rw [dcInt]
        refine iteD (fun he => ?_) fun he => ?_
        · refine ⟨_, rfl, _, rfl, _, rfl, s, c, 8, rfl, hS6, by decide, by decide, fun H7 g g0 g1 hS7 k7 => ⟨_, _, rfl, rfl, ?_⟩⟩
          refine ⟨n, (1 + g).toNat, ?_, hn9, by omega, by omega, fun dd x1 x2 x3 x4 => ⟨len3, fun t ht => ?_⟩⟩
          · rw [show (((1 + g).toNat : Nat) : Int) = 1 + g by omega]
            rfl
          · exact fin _ t _ _ _ (hex_piece x1 x2 x3 x4) hS7 ((kk.trans k6).trans k7) ht
        · refine ⟨_, rfl, _, rfl, _, rfl, ?_, len3, fun t ht => ?_⟩
          · have : ((n : Nat) : Int).natAbs = n := Int.natAbs_natCast n
            rw [this]
            refine Nat.lt_of_le_of_lt (Nat.log2_le_self n |> fun _ => ?_) (by decide : 32 < 1920)
            by_cases hz : n = 0
            · subst hz
              decide
            · exact Nat.le_of_lt_succ ((Nat.log2_lt hz).mpr (by omega))
          · rw [num_S n]
            exact fin _ t _ _ _ (dec_piece hn9) hS6 (kk.trans k6) ht
      · refine ⟨_, rfl, _, _, rfl, rfl, _, rfl, iteD (fun h4 => ?_) fun h4 => ?_⟩
        · refine ⟨_, rfl, s, c, rfl, hS1, fun H2 n hn hS2 k2 => ?_⟩
          exact ⟨_, rfl, _, rfl, len3, fun t ht => fin _ t _ _ n (name_piece hn) hS2 (k1.trans k2) ht⟩
        · refine ⟨_, rfl, rfl, fun p hp => ?_⟩
          have hn := hS1.neS hp
          refine ⟨s, c, p, _, rfl, hS1.new hp, SqL.of upd_same, hn.1, hn.2, by decide, by decide, fun H2 i x hx hS2 k2 => ?_⟩
          obtain ⟨w0, hw, rfl⟩ := List.mem_map.mp (List.mem_of_getElem? hx)
          obtain ⟨x, rfl, hpc⟩ := sign_piece hw
          exact ⟨_, rfl, _, rfl, len3, fun t ht => fin _ t _ _ x hpc hS2 ((k1.trans (Kp.new hp)).trans k2) ht⟩
end
end Pk
set_option Elab.async false
set_option linter.all false
set_option maxRecDepth 100000
set_option maxHeartbeats 4000000
namespace Pk
open PySem PySem.Spec PyProof.Rows L2 SX GxR Tk
abbrev sApart : Stmt := topS 34
abbrev sLine : Stmt := topS 35
abbrev sSame : Stmt := topS 36
theorem scApart : FnScope ["before", "behind"] ["before", "behind"] (defScope sApart) := ⟨rfl, rfl, rfl, by decide +kernel, rfl, by decide +kernel, by decide +kernel⟩
theorem scLine : FnScope ["text", "char"] ["text"] (defScope sLine) := ⟨rfl, rfl, rfl, by decide +kernel, rfl, by decide +kernel, by decide +kernel⟩
theorem scSame : FnScope ["actual", "due", "k", "token"] ["actual", "due"] (defScope sSame) := ⟨rfl, rfl, rfl, by decide +kernel, rfl, by decide +kernel, by decide +kernel⟩
/-! ### gaps -/
structure GapOk (g : List Nat) : Prop where
  toks : ∀ l r, toksT l (g ++ r) = toksT (l + g.count 10) r
  len : g.length ≤ 20
  head : ∃ c r, g = c :: r ∧ (c = 32 ∨ c = 10 ∨ c = 35)
theorem gap_sp : ∀ n l r, toksT l (List.replicate n 32 ++ r) = toksT l r
  | 0, _, _ => rfl
  | n + 1, l, r => by
    rw [List.replicate_succ, List.cons_append, toksT_space, gap_sp n l r]
theorem gap_nl : ∀ n l r, toksT l (List.replicate n 10 ++ r) = toksT (l + n) r
  | 0, _, _ => rfl
  | n + 1, l, r => by
    rw [List.replicate_succ, List.cons_append, toksT_nl, gap_nl n (l + 1) r, Nat.add_assoc, Nat.add_comm 1 n]
theorem count_rep (n : Nat) : (List.replicate n 10).count 10 = n := by simp
theorem count_rep32 (n : Nat) : (List.replicate n 32).count 10 = 0 := by
  rw [List.count_replicate]
  rfl
theorem flat1 (n c : Nat) : (List.replicate n [c]).flatten = List.replicate n c := by
  induction n with
  | zero => rfl
  | succ n ih => rw [List.replicate_succ, List.flatten_cons, ih, List.replicate_succ]; rfl
theorem gap1 {n : Nat} (h1 : 1 ≤ n) (h2 : n ≤ 2) : GapOk (List.replicate n 32) := by
  refine ⟨fun l r => ?_, by rw [List.length_replicate]; omega, ?_⟩
  · rw [gap_sp, count_rep32]
    rfl
  · obtain ⟨m, rfl⟩ : ∃ m, n = m + 1 := ⟨n - 1, by omega⟩
    exact ⟨32, _, List.replicate_succ, .inl rfl⟩
theorem gap2 : GapOk [10] := ⟨fun l r => toksT_nl l r, by decide, 10, [], rfl, .inr (.inl rfl)⟩
theorem gap3 {n : Nat} (h1 : 1 ≤ n) (h2 : n ≤ 8) : GapOk ([32] ++ List.replicate n 10 ++ [32, 32]) := by
  refine ⟨fun l r => ?_, ?_, 32, _, rfl, .inl rfl⟩
  · rw [List.append_assoc, List.append_assoc]
    show toksT l (32 :: (List.replicate n 10 ++ (32 :: 32 :: r))) = _
    rw [toksT_space, gap_nl, toksT_space, toksT_space, List.count_append, List.count_append, count_rep]
    show _ = toksT (l + (0 + n + 0)) r
    rw [Nat.zero_add, Nat.add_zero]
  · rw [List.length_append, List.length_append, List.length_replicate]
    show 1 + n + 2 ≤ 20
    omega
theorem drop_nl : ∀ (x : List Nat) (r : List Nat), 10 ∉ x → (x ++ 10 :: r).dropWhile (· ≠ 10) = 10 :: r
  | [], _, _ => rfl
  | c :: x, r, h => by
    have hc : c ≠ 10 := fun z => h (by rw [z]; exact List.mem_cons_self)
    rw [List.cons_append, List.dropWhile_cons, if_pos (decide_eq_true hc), drop_nl x r fun z => h (List.mem_cons_of_mem _ z)]
theorem gap4 {x : List Nat} (h : 10 ∉ x) (hl : x.length ≤ 10) : GapOk ([35] ++ x ++ [10]) := by
  refine ⟨fun l r => ?_, ?_, 35, _, rfl, .inr (.inr rfl)⟩
  · rw [List.append_assoc, List.append_assoc]
    show toksT l (35 :: (x ++ 10 :: r)) = _
    rw [toksT_hash, drop_nl x r h, toksT_nl, List.count_append, List.count_append, List.count_eq_zero.mpr h]
    rfl
  · rw [List.length_append, List.length_append]
    show 1 + x.length + 1 ≤ 20
    omega
def spGap : Sp := fun vs H Q _ => ∃ s c : Addr, vs = [.ref s] ∧ StAt H s c ∧ ∀ H' g, GapOk g → StAt H' s c → Kp s c H H' → Q (.str (S g)) H'
def comms : List Str := ["", " x ->", "$@!", "# 07"].map Str.ofString
section
variable {P : Program} {w : World} {K : PySem.W.Frag} {mg : Str → Option Value} {base : Heap}
theorem sp2_code : Str.ofString "  " = S [32, 32] := by decide +kernel
theorem ok_gap {f : Addr} {fd : FuncData} {k : Nat} (F : Fun K "_law_gap" "_law_gap" sGap f fd) (DD : Df P w K mg base CX0 (k + 1) "_law_draw" ["state", "many"] spDraw) (DP : Df P w K mg base CX0 (k + 2) "_law_pick" ["state", "row"] (spPick K)) :
    FnOk P w K mg base CX0 (k + 3) f fd ["state"] spGap := by
  obtain ⟨fD, fdD, GD, gD, kD, bD⟩ := DD.ex
  obtain ⟨fP, fdP, GP, gP, kP, bP⟩ := DP.ex
  refine F.ok scGap (fun vs H Q E h => ?_) (fun cdv A outer s0 H vs Q E hr h => ?_)
  · obtain ⟨s, c, rfl, _⟩ := h
    rfl
  · obtain ⟨s, c, rfl, hS, q⟩ := h
    have nd := scGap.nd
    have hr1 : Room (k + 1) _ := hr.mono (Nat.le_succ _)
    refine ⟨_, pss_cons (ps_set (i := 1) nd rfl (.inl rfl) (pe_call GD hr1 (by rfl) gD kD bD .nil pass0 (pa_cons (pv 0) (pa_cons pe_int pa_nil))))
      (pss_cons (ps_if (pt_cmpR op_lt (pv 1) pe_int (nomark _)) (pss_one (ps_ret (pe_op op_mulS pe_str (pe_op op_add pe_int (pe_call GD hr1 (by rfl) gD kD bD .nil pass0 (pa_cons (pv 0) (pa_cons pe_int pa_nil))))))) pss_nil)
      (pss_cons (ps_if (pt_cmpR op_eq (pv 1) pe_int (nomark _)) (pss_one (ps_ret pe_str)) pss_nil)
      (pss_cons (ps_if (pt_cmpR op_eq (pv 1) pe_int (nomark _)) (pss_one (ps_ret (pe_op op_add_str (pe_op op_add_str pe_str (pe_op op_mulS pe_str (pe_op op_add pe_int (pe_call GD hr1 (by rfl) gD kD bD .nil pass0 (pa_cons (pv 0) (pa_cons pe_int pa_nil)))))) pe_str))) pss_nil)
      (pss_one (ps_ret (pe_op op_add_str (pe_op op_add_str pe_str (pe_call GP hr (by rfl) gP kP bP .nil pass0 (pa_cons (pv 0) (pa_cons (pe_lst (pa_cons pe_str (pa_cons pe_str (pa_cons pe_str (pa_cons pe_str pa_nil))))) pa_nil)))) pe_str)))))), ?_⟩
    refine ⟨_, rfl, s, c, 6, rfl, hS, by decide, by decide, fun H1 r r0 r1 hS1 k1 => ?_⟩
    refine ⟨_, rfl, _, _, rfl, rfl, _, rfl, iteD (fun h0 => ?_) fun h0 => ?_⟩
    · refine ⟨_, rfl, s, c, 2, rfl, hS1, by decide, by decide, fun H2 n n0 n1 hS2 k2 => ⟨_, _, rfl, rfl, [32], (1 + n).toNat, congrArg V.str sp_code, ?_, by omega, by omega, by decide, ?_⟩⟩
      · rw [show (((1 + n).toNat : Nat) : Int) = 1 + n by omega]
      · rw [flat1]
        exact q H2 _ (gap1 (by omega) (by omega)) hS2 (k1.trans k2)
    · refine ⟨_, rfl, rfl, _, rfl, ?_⟩
      rw [dcInt]
      refine iteD (fun h1 => ?_) fun h1 => ?_
      · show Q (.str (Str.ofString "\n")) H1
        rw [nl_code]
        exact q H1 _ gap2 hS1 k1
      · refine ⟨_, rfl, rfl, _, rfl, ?_⟩
        rw [dcInt]
        refine iteD (fun h2 => ?_) fun h2 => ?_
        · refine ⟨_, rfl, s, c, 8, rfl, hS1, by decide, by decide, fun H2 n n0 n1 hS2 k2 => ⟨_, _, rfl, rfl, [10], (1 + n).toNat, congrArg V.str nl_code, ?_, by omega, by omega, by decide, ?_⟩⟩
          · rw [show (((1 + n).toNat : Nat) : Int) = 1 + n by omega]
          · rw [flat1, sp_code, sp2_code]
            refine ⟨_, _, rfl, rfl, ?_, _, _, rfl, rfl, ?_, ?_⟩
            · rw [S_len, S_len, List.length_replicate, sizeLine_eq]
              show 1 + _ ≤ _
              omega
            · rw [S_cat, S_len, S_len, List.length_append, List.length_replicate, sizeLine_eq]
              show 1 + _ + 2 ≤ _
              omega
            · rw [S_cat, S_cat]
              exact q H2 _ (gap3 (by omega) (by omega)) hS2 (k1.trans k2)
        · refine ⟨_, rfl, by decide, fun p hp => ?_⟩
          have hn := hS1.neS hp
          refine ⟨s, c, p, comms.map V.str, rfl, hS1.new hp, SqL.of upd_same, hn.1, hn.2, by decide, by decide, fun H2 i x hx hS2 k2 => ?_⟩
          obtain ⟨w0, hw, rfl⟩ := List.mem_map.mp (List.mem_of_getElem? hx)
          have key : ∀ w ∈ comms, 10 ∉ w.cps.toList ∧ w.cps.toList.length ≤ 10 := by decide +kernel
          obtain ⟨x1, x2⟩ := key w0 hw
          obtain ⟨x, rfl⟩ := S_of w0
          have x2' : x.length ≤ 10 := x2
          rw [hash_code, nl_code]
          refine ⟨_, _, rfl, rfl, ?_, _, _, rfl, rfl, ?_, ?_⟩
          · rw [S_len, S_len, sizeLine_eq]
            show 1 + _ ≤ _
            omega
          · rw [S_cat, S_len, S_len, List.length_append, sizeLine_eq]
            show 1 + _ + 1 ≤ _
            omega
          · rw [S_cat, S_cat]
            exact q H2 _ (gap4 x1 x2') hS2 ((k1.trans (Kp.new hp)).trans k2)
def apartB (k1 k2 : Str) (v : V) : Bool := if k1 ≠ kSign ∧ k2 ≠ kSign then true else decide (v = .str (S [61])) || decide (v = .str (S [45]))
def okS (x : Str) : Bool := x.cps.all (· < 0x110000)
def TokV (v : V) : Prop := (∃ x, v = .str x ∧ okS x = true) ∨ ∃ n : Nat, v = .int n
def spApart : Sp := fun vs H Q _ => ∃ (a b : Addr) (k1 k2 : Str) (v1 v2 t1 t2 : V), vs = [.ref a, .ref b] ∧ H a = some (.tup [.str k1, v1, t1]) ∧ H b = some (.tup [.str k2, v2, t2]) ∧ TokV v1 ∧
  ∀ H', Same H H' → Q (.bl (apartB k1 k2 v1)) H'
theorem eqm_code : Str.ofString "=" = S [61] := by decide +kernel
theorem min_code : Str.ofString "-" = S [45] := by decide +kernel
theorem ok_apart {f : Addr} {fd : FuncData} {k : Nat} (F : Fun K "_law_apart" "_law_apart" sApart f fd) : FnOk P w K mg base CX0 (k + 1) f fd ["before", "behind"] spApart := by
  refine F.ok scApart (fun vs H Q E h => ?_) (fun cdv A outer s0 H vs Q E hr h => ?_)
  · obtain ⟨a, b, k1, k2, v1, v2, t1, t2, rfl, _⟩ := h
    rfl
  · obtain ⟨a, b, k1, k2, v1, v2, t1, t2, rfl, ha, hb, hv, q⟩ := h
    refine ⟨_, pss_cons (ps_if (PW.pt (pw_and (pt_cmpR op_ne (pe_ix ix_tup (pv 0) pe_int (fun _ _ => rfl)) pe_str (nomark _)) (pw_and1 (pt_cmpR op_ne (pe_ix ix_tup (pv 1) pe_int (fun _ _ => rfl)) pe_str (nomark _))))) (pss_one (ps_ret pe_bl)) pss_nil)
      (pss_one (ps_ret (pe_cmpR op_in_seq (pe_ix ix_tup (pv 0) pe_int (fun _ _ => rfl)) (pe_tup (pa_cons pe_str (pa_cons pe_str pa_nil))) (by rfl)))), ?_⟩
    refine ⟨_, rfl, a, _, _, _, rfl, rfl, SqT.of ha, atI_nat (j := 0) rfl, rfl, _, rfl, ?_⟩
    rw [dcStr]
    -- the second return
    by_cases hc : k1 ≠ kSign ∧ k2 ≠ kSign
    · have e : apartB k1 k2 v1 = true := if_pos hc
      have n1 : decide (k1 = Str.ofString "sign") = false := decide_eq_false hc.1
      have n2 : decide (k2 = Str.ofString "sign") = false := decide_eq_false hc.2
      rw [n1]
      refine iteT ⟨_, rfl, b, _, _, _, rfl, rfl, SqT.of hb, atI_nat (j := 0) rfl, rfl, _, rfl, ?_⟩
      rw [dcStr, n2]
      refine iteT ?_
      have := q H (Same.refl H)
      rw [e] at this
      exact this
    · have e : apartB k1 k2 v1 = (decide (v1 = .str (S [61])) || decide (v1 = .str (S [45]))) := if_neg hc
      have key : ∀ H', Same H H' → ∀ p, H' p = some (.tup [.str (Str.ofString "="), .str (Str.ofString "-")]) → rIn K false v1 (.ref p) H' Q := fun H' hs p hp => by
        refine ⟨p, [Str.ofString "=", Str.ofString "-"].map V.str, rfl, .inr (SqT.of hp), ?_, flat_strs _, ?_⟩
        · rcases hv with ⟨x, rfl, _⟩ | ⟨n, rfl⟩ <;> rfl
        · show Q (.bl (inV v1 ([Str.ofString "=", Str.ofString "-"].map V.str))) H'
          have q1 := q H' hs
          rw [e] at q1
          rcases hv with ⟨x, rfl, _⟩ | ⟨n, rfl⟩
          · rw [inV_strs]
            have e2 : decide (x ∈ [Str.ofString "=", Str.ofString "-"]) = (decide (V.str x = .str (S [61])) || decide (V.str x = .str (S [45]))) := by
              rw [dcStr, dcStr, eqm_code, min_code, Bool.eq_iff_iff, Bool.or_eq_true, decide_eq_true_eq, decide_eq_true_eq, decide_eq_true_eq, List.mem_cons, List.mem_singleton]
            rw [e2]
            exact q1
          · rw [inV_int]
            exact q1
      have tail : ∀ H', Same H H' → tRet (tOp (rIn K false) (tOp (rIxT K) (tVar 0) (tC (.int 1))) (tTup (tCons (tC (.str (Str.ofString "="))) (tCons (tC (.str (Str.ofString "-"))) tNil)))) { nx := fun _ H' => Q .non H', rt := Q } [some (.ref a), some (.ref b)] H' := fun H' hs =>
        ⟨_, rfl, a, _, _, _, rfl, rfl, SqT.of (hs _ _ ha), atI_nat (j := 1) rfl, by decide, fun p hp => key _ (hs.trans (same_new hp)) p upd_same⟩
      by_cases h1 : k1 = kSign
      · have n1 : decide (k1 = Str.ofString "sign") = true := decide_eq_true h1
        rw [n1]
        exact iteF (iteF (tail H (Same.refl H)))
      · have h2 : k2 = kSign := Classical.byContradiction fun z => hc ⟨h1, z⟩
        have n1 : decide (k1 = Str.ofString "sign") = false := decide_eq_false h1
        have n2 : decide (k2 = Str.ofString "sign") = true := decide_eq_true h2
        rw [n1]
        refine iteT ⟨_, rfl, b, _, _, _, rfl, rfl, SqT.of hb, atI_nat (j := 0) rfl, rfl, _, rfl, ?_⟩
        rw [dcStr, n2]
        exact iteF (tail H (Same.refl H))
def spLine : Sp := fun vs H Q _ => ∃ t : List Nat, vs = [.str (S t)] ∧ t.length ≤ 1000000 ∧ ∀ H', Same H H' → Q (.int ((1 + t.count 10 : Nat) : Int)) H'
theorem take_more {α : Type} {l : List α} {i : Nat} {x : α} (h : l[i]? = some x) : l.take (i + 1) = l.take i ++ [x] := by
  rw [List.take_add_one, h]
  rfl
theorem ok_line {f : Addr} {fd : FuncData} {k : Nat} (F : Fun K "_law_line" "_law_line" sLine f fd) (zLen : mg "len" = none) : FnOk P w K mg base CX0 (k + 1) f fd ["text"] spLine := by
  refine F.ok scLine (fun vs H Q E h => ?_) (fun cdv A outer s0 H vs Q E hr h => ?_)
  · obtain ⟨t, rfl, _⟩ := h
    rfl
  · obtain ⟨t, rfl, hz, q⟩ := h
    refine ⟨_, pss_one (ps_ret (pe_op op_add pe_int (pe_callB call_len_seq (by rfl) zLen PySem.boot_len (pa_cons
      (pe_lc (own := [("char", 1)]) (g := gName 1) rfl scLine.nd (pi_str (pv 0)) (blkOk_by (N := ["text", "char"]) (sc := defScope sLine) (by decide +kernel)) (fun _ _ _ _ _ => pg_name (i := 1) scLine.nd rfl (Or.inl rfl))
        (fun _ _ _ _ _ => pts_one (pt_cmpR op_eq (pv 1) pe_str (nomark _))) (fun _ _ _ _ _ => pv 1)) pa_nil)))), ?_⟩
    refine ⟨_, rfl, S t, rfl, fun D hD => lc_it (walk_str (z := S t)) (fun i H2 => Same H H2 ∧ ∃ xs : List V, H2 D = some (.lst xs) ∧ xs.length = (t.take i).count 10) ⟨same_new hD, [], upd_same, rfl⟩ (fun _ _ _ _ => trivial) ?_ ?_⟩
    · rintro i y H2 H3 hi ⟨k1, xs, k2, k3⟩ ⟨rfl, c, hc, rfl⟩
      have hc' : t[i]? = some c := by
        rw [← List.getElem?_toArray]
        exact hc
      refine ⟨rfl, _, rfl, rfl, _, rfl, ?_⟩
      rw [nl_code, show (V.str ⟨#[c]⟩) = V.str (S [c]) from rfl, dcStr, dcS]
      have e : (t.take (i + 1)).count 10 = (t.take i).count 10 + (if c = 10 then 1 else 0) := by
        rw [take_more hc', List.count_append]
        congr 1
        rw [List.count_singleton]
        by_cases h : c = 10
        · rw [h]; rfl
        · rw [if_neg h, if_neg (by rw [beq_iff_eq]; exact h)]
      refine iteD (fun h => ?_) fun h => ?_
      · have hc10 : c = 10 := (List.cons.inj h).1
        refine ⟨_, rfl, xs, k2, ?_, fun b o eb => ?_, _, upd_same, ?_⟩
        · refine small_len ?_
          have h1 := List.count_le_length (a := 10) (l := t.take i)
          rw [List.length_take] at h1
          omega
        · rw [upd_ne (ne_of_none eb hD)]
          exact k1 b o eb
        · rw [List.length_append, k3, e, if_pos hc10]
          rfl
      · have hc10 : ¬ c = 10 := fun z => h (by rw [z])
        exact ⟨k1, xs, k2, by rw [k3, e, if_neg hc10]; rfl⟩
    · rintro H2 ⟨k1, xs, k2, k3⟩
      have hs : (S t).cps.size = t.length := S_len t
      rw [hs, List.take_length] at k3
      refine ⟨D, xs, rfl, .inl (SqL.of k2), _, _, rfl, rfl, ?_⟩
      rw [k3]
      exact q H2 k1
end
end Pk
set_option Elab.async false
set_option linter.all false
set_option maxRecDepth 100000
set_option maxHeartbeats 4000000
namespace Pk
open PySem PySem.Spec PyProof.Rows L2 SX GxR Tk
def spSame : Sp := fun vs H Q _ => ∃ (a d : Addr) (rs ds : List V) (ts : List Tk.Tok), vs = [.ref a, .ref d] ∧ H a = some (.lst rs) ∧ H d = some (.lst ds) ∧ ToksAt H rs ts ∧ ToksAt H ds ts ∧ (∀ t ∈ ts, TokV t.2.1 ∧ okS t.1 = true) ∧ ts.length ≤ 1000 ∧ Q (.bl true) H
theorem ToksAt.get {H : Hp} : ∀ {rs : List V} {ts : List Tk.Tok} {i : Nat} {r : V}, ToksAt H rs ts → rs[i]? = some r → ∃ t, ts[i]? = some t ∧ TokAt H r t
  | _, _, _, _, .nil, e => by cases e
  | _, _, 0, _, .cons (b := t) h _, e => by
    cases e
    exact ⟨t, rfl, h⟩
  | _, _, i + 1, _, .cons _ r, e => ToksAt.get (i := i) r e
/-- the built-ins' names that the law names -/
structure Bl2 (mg : Str → Option Value) : Prop where
  zIsi : mg "isinstance" = none
  zList : mg "list" = none
  zTuple : mg "tuple" = none
  zBool : mg "bool" = none
  zStr : mg "str" = none
  zRange : mg "range" = none
  zLen : mg "len" = none
section
variable {P : Program} {w : World} {K : PySem.W.Frag} {mg : Str → Option Value} {base : Heap}
/-- the type of a token's value -/
theorem tokv_ty {H : Hp} {v : V} (h : TokV v) : ∃ (t : String) (b : Bool), TyX K H v (.type t) ∧ kitB t "bool" = some false ∧ kitB t "str" = some b := by
  rcases h with ⟨x, rfl, _⟩ | ⟨n, rfl⟩
  · exact ⟨"str", true, .base (.str x), by decide +kernel, by decide +kernel⟩
  · exact ⟨"int", false, .base (.int n), by decide +kernel, by decide +kernel⟩
theorem tok_data {H : Hp} {v : V} (h : TokV v) : ∃ d, Dp K H v d ∧ d.canLay0 = true ∧ d.depth = 0 := by
  rcases h with ⟨x, rfl, hx⟩ | ⟨n, rfl⟩
  · exact ⟨.str x, .str x, hx, rfl⟩
  · exact ⟨.int n, .int n, rfl, rfl⟩
theorem ok_same {f : Addr} {fd : FuncData} {k : Nat} (F : Fun K "_law_same" "_law_same" sSame f fd) (B : Bl2 mg) : FnOk P w K mg base CX0 (k + 1) f fd ["actual", "due"] spSame := by
  refine F.ok scSame (fun vs H Q E h => ?_) (fun cdv A outer s0 H vs Q E hr h => ?_)
  · obtain ⟨a, d, rs, ds, ts, rfl, _⟩ := h
    rfl
  · obtain ⟨a, d, rs, ds, ts, rfl, ha, hd, hra, hda, htv, hz, q⟩ := h
    have nd := scSame.nd
    have ela := hra.length
    have eld := hda.length
    refine ⟨_, pss_cons (ps_if (PW.pt (pw_or (pt_not (pt_val (pe_callB call_isi (by rfl) B.zIsi (by decide +kernel) (pa_cons (pv 0) (pa_cons (pe_bltn (v := .ty "list") (u := .type "list") (by rfl) B.zList (by decide +kernel) rfl) pa_nil))) (by intro _; rfl)))
          (pw_or1 (pt_cmpR op_ne (pe_callB call_len_seq (by rfl) B.zLen PySem.boot_len (pa_cons (pv 0) pa_nil)) (pe_callB call_len_seq (by rfl) B.zLen PySem.boot_len (pa_cons (pv 1) pa_nil)) (nomark _))))) (pss_one (ps_ret pe_bl)) pss_nil)
      (pss_cons (ps_for PassesOwn.never rfl (pi_range1 (by rfl) B.zRange (pa_cons (pe_callB call_len_seq (by rfl) B.zLen PySem.boot_len (pa_cons (pv 1) pa_nil)) pa_nil)) (pg_name (i := 2) nd rfl (.inl rfl))
        (pss_cons (ps_set (i := 3) nd rfl (.inl rfl) (pe_ix ix_list (pv 0) (pv 2) (fun _ _ => rfl)))
        (pss_cons (ps_if (PW.pt (pw_or (pt_not (pt_val (pe_callB call_isi (by rfl) B.zIsi (by decide +kernel) (pa_cons (pv 3) (pa_cons (pe_bltn (v := .ty "tuple") (u := .type "tuple") (by rfl) B.zTuple (by decide +kernel) rfl) pa_nil))) (by intro _; rfl)))
            (pw_or (pt_cmpR op_ne (pe_callB call_len_seq (by rfl) B.zLen PySem.boot_len (pa_cons (pv 3) pa_nil)) pe_int (nomark _))
            (pw_or (pt_val (pe_callB call_isi (by rfl) B.zIsi (by decide +kernel) (pa_cons (pe_ix ix_tup (pv 3) pe_int (fun _ _ => rfl)) (pa_cons (pe_bltn (v := .ty "bool") (u := .type "bool") (by rfl) B.zBool (by decide +kernel) rfl) pa_nil))) (by intro _; rfl))
            (pw_or1 (pt_val (pe_callB call_isi (by rfl) B.zIsi (by decide +kernel) (pa_cons (pe_ix ix_tup (pv 3) pe_int (fun _ _ => rfl)) (pa_cons (pe_bltn (v := .ty "bool") (u := .type "bool") (by rfl) B.zBool (by decide +kernel) rfl) pa_nil))) (by intro _; rfl))))))) (pss_one (ps_ret pe_bl)) pss_nil)
        (pss_one (ps_if (PW.pt (pw_or (pt_cmpR op_ne (pe_callB call_isi (by rfl) B.zIsi (by decide +kernel) (pa_cons (pe_ix ix_tup (pv 3) pe_int (fun _ _ => rfl)) (pa_cons (pe_bltn (v := .ty "str") (u := .type "str") (by rfl) B.zStr (by decide +kernel) rfl) pa_nil)))
            (pe_callB call_isi (by rfl) B.zIsi (by decide +kernel) (pa_cons (pe_ix ix_tup (pe_ix ix_list (pv 1) (pv 2) (fun _ _ => rfl)) pe_int (fun _ _ => rfl)) (pa_cons (pe_bltn (v := .ty "str") (u := .type "str") (by rfl) B.zStr (by decide +kernel) rfl) pa_nil))) (nomark _))
            (pw_or1 (pt_cmpR (op_neD hr.units) (pv 3) (pe_ix ix_list (pv 1) (pv 2) (fun _ _ => rfl)) (nomark _))))) (pss_one (ps_ret pe_bl)) pss_nil)))))
      (pss_one (ps_ret pe_bl))), ?_⟩
    refine ⟨_, rfl, _, _, _, _, true, rfl, .ty _, .base (.lst ha), kit_ty (by decide +kernel), _, rfl, iteF ?_⟩
    refine ⟨_, rfl, a, _, rfl, .inl (SqL.of ha), _, rfl, d, _, rfl, .inl (SqL.of hd), rfl, _, rfl, ?_⟩
    rw [dcInt, decide_eq_true (by rw [ela, eld])]
    refine iteF ?_
    refine ⟨_, rfl, d, _, rfl, .inl (SqL.of hd), (ds.length : Int), rfl, by omega, by omega, ?_⟩
    refine for_range (lo := 0) (n := (ds.length : Int).toNat) (fun i σ H' => H' = H ∧ ∃ v2 v3, σ = [some (.ref a), some (.ref d), v2, v3]) ⟨rfl, none, none, rfl⟩ ?_ ?_
    · rintro i σ H' hi ⟨rfl, v2, v3, rfl⟩
      have hi' : i < ds.length := by omega
      have hir : i < rs.length := by rw [ela, ← eld]; exact hi'
      obtain ⟨t, ht, pa, ea, ha2⟩ := hra.get (List.getElem?_eq_getElem hir)
      obtain ⟨t', ht', pd, ed, hd2⟩ := hda.get (List.getElem?_eq_getElem hi')
      rw [ht] at ht'
      cases ht'
      obtain ⟨kd, v, l⟩ := t
      obtain ⟨hv, hkd⟩ := htv _ (List.mem_of_getElem? ht)
      obtain ⟨ty, b, y1, y2, y3⟩ := tokv_ty (K := K) (H := H') hv
      have e0 : (0 : Int) + (i : Int) = (i : Int) := Int.zero_add _
      refine ⟨_, rfl, _, rfl, a, _, _, _, rfl, rfl, SqL.of ha, (by rw [e0]; exact atI_nat (List.getElem?_eq_getElem hir)), ?_⟩
      rw [ea]
      refine ⟨_, rfl, _, _, _, _, true, rfl, .ty _, .base (.tup ha2), kit_ty (by decide +kernel), _, rfl, iteF ?_⟩
      refine ⟨_, rfl, pa, _, rfl, .inr (SqT.of ha2), rfl, _, rfl, iteF ?_⟩
      refine ⟨_, rfl, pa, _, _, _, rfl, rfl, SqT.of ha2, atI_nat (j := 1) rfl, _, _, _, _, false, rfl, .ty _, y1, kit_ty y2, _, rfl, iteF ?_⟩
      refine ⟨_, rfl, pa, _, _, _, rfl, rfl, SqT.of ha2, atI_nat (j := 2) rfl, _, _, _, _, false, rfl, .ty _, .base (.int _), kit_ty (by decide +kernel), _, rfl, iteF ?_⟩
      refine ⟨_, rfl, pa, _, _, _, rfl, rfl, SqT.of ha2, atI_nat (j := 1) rfl, _, _, _, _, b, rfl, .ty _, y1, kit_ty y3, ?_⟩
      refine ⟨_, rfl, _, rfl, d, _, _, _, rfl, rfl, SqL.of hd, (by rw [e0]; exact atI_nat (List.getElem?_eq_getElem hi')), ?_⟩
      rw [ed]
      refine ⟨pd, _, _, _, rfl, rfl, SqT.of hd2, atI_nat (j := 1) rfl, _, _, _, _, b, rfl, .ty _, y1, kit_ty y3, rfl, _, rfl, ?_⟩
      rw [decide_eq_true rfl]
      refine iteF ?_
      obtain ⟨dv, d1, d2, d3⟩ := tok_data (K := K) (H := H') hv
      have all : DpAll K H' [.str kd, v, .int l] [.str kd, dv, .int l] := .cons (.str _) (.cons d1 (.cons (.int _) .nil))
      have lay : (PyData.tuple [.str kd, dv, .int (l : Nat)]).canLay0 = true := by
        show (okS kd && (PyData.canLay0 dv && (true && true))) = true
        have hkd' : okS kd = true := hkd
        rw [hkd', d2]
        rfl
      have dep : (PyData.tuple [.str kd, dv, .int (l : Nat)]).depth ≤ 64 := by
        show max 0 (max (PyData.depth dv) (max 0 0)) + 1 ≤ 64
        rw [d3]
        decide
      have shp : SeqAt.shaped (PyData.tuple [.str kd, dv, .int (l : Nat)]) = true := by
        unfold SeqAt.shaped
        rw [lay, decide_eq_true dep]
        rfl
      refine ⟨_, rfl, _, rfl, _, rfl, d, _, _, _, rfl, rfl, SqL.of hd, (by rw [e0]; exact atI_nat (List.getElem?_eq_getElem hi')), ?_⟩
      rw [ed]
      refine ⟨_, _, .tup (SqT.of ha2) all, .tup (SqT.of hd2) all, shp, shp, _, rfl, ?_⟩
      rw [SeqAt.eqv_refl _ lay]
      exact iteF ⟨rfl, _, _, rfl⟩
    · rintro σ H' ⟨rfl, v2, v3, rfl⟩
      exact q
end
end Pk
set_option Elab.async false
set_option linter.all false
set_option maxRecDepth 100000
set_option maxHeartbeats 4000000
namespace Pk
open PySem PySem.Spec PyProof.Rows L2 SX GxR Tk C8
abbrev sLaw : Stmt := topS 37
theorem scLaw : FnScope ["script", "state", "text", "due", "pieces", "k", "piece", "told"] ["script"] (defScope sLaw) := ⟨rfl, rfl, rfl, by decide +kernel, rfl, by decide +kernel, by decide +kernel⟩
/-- the tokens of t and of what follows it, where C holds of that -/
def Gd (t : List Nat) (ds : List Tk.Tok) (C : List Nat → Prop) : Prop := ∀ r, C r → toksT 1 (t ++ r) = pre ds (toksT (1 + t.count 10) r)
theorem gd_nil : Gd [] [] fun _ => True := fun r _ => (pre_nil _).symm
theorem gd_gap {t g : List Nat} {ds : List Tk.Tok} {C : List Nat → Prop} (h : Gd t ds C) (hg : GapOk g) (hc : ∀ r, C (g ++ r)) : Gd (t ++ g) ds fun _ => True := fun r _ => by
  rw [List.append_assoc, h _ (hc r), hg.toks, List.count_append, Nat.add_assoc]
theorem gd_piece {t p : List Nat} {ds : List Tk.Tok} {C : List Nat → Prop} {k : Str} {v : V} (h : Gd t ds C) (hp : PieceOk k v p) (hc : ∀ r, after k v r → C (p ++ r)) : Gd (t ++ p) (ds ++ [(k, v, 1 + t.count 10)]) (after k v) := fun r ha => by
  rw [List.append_assoc, h _ (hc r ha), toks_piece _ hp ha, pre_app, List.count_append, List.count_eq_zero.mpr hp.nl]
  rfl
theorem not_run {c : Nat} (h : c = 32 ∨ c = 10 ∨ c = 35) : inRun c = false ∧ c ≠ 61 ∧ c ≠ 62 := by
  rcases h with rfl | rfl | rfl <;> exact ⟨by decide +kernel, by decide, by decide⟩
theorem after_gap {k : Str} {v : V} {g : List Nat} (hg : GapOk g) (r : List Nat) : after k v (g ++ r) := by
  obtain ⟨c, g', rfl, hc⟩ := hg.head
  obtain ⟨h1, h2, h3⟩ := not_run hc
  show if k = kSign then _ else inRun c = false
  by_cases hk : k = kSign
  · rw [if_pos hk]
    exact ⟨fun _ => h2, fun _ => h3⟩
  · rw [if_neg hk]
    exact h1
theorem after_sp {k : Str} {v : V} (r : List Nat) : after k v (32 :: r) := by
  obtain ⟨h1, h2, h3⟩ := not_run (c := 32) (.inl rfl)
  show if k = kSign then _ else inRun 32 = false
  by_cases hk : k = kSign
  · rw [if_pos hk]
    exact ⟨fun _ => h2, fun _ => h3⟩
  · rw [if_neg hk]
    exact h1
theorem after_apart {k1 k2 : Str} {v1 v2 : V} {p r : List Nat} (h : apartB k1 k2 v1 = false) (hp : PieceOk k2 v2 p) : after k1 v1 (p ++ r) := by
  have hc : ¬ (k1 ≠ kSign ∧ k2 ≠ kSign) := fun z => by
    have e : apartB k1 k2 v1 = true := if_pos z
    rw [h] at e
    cases e
  have e : apartB k1 k2 v1 = (decide (v1 = .str (S [61])) || decide (v1 = .str (S [45]))) := if_neg hc
  rw [h, eq_comm, Bool.or_eq_false_iff, decide_eq_false_iff_not, decide_eq_false_iff_not] at e
  obtain ⟨c, q, rfl⟩ := head_one hp.ne
  show if k1 = kSign then _ else inRun c = false
  by_cases hk : k1 = kSign
  · rw [if_pos hk]
    exact ⟨fun z => absurd z e.1, fun z => absurd z e.2⟩
  · rw [if_neg hk]
    have h2 : k2 = kSign := Classical.byContradiction fun z => hc ⟨hk, z⟩
    rcases hp.alt with ⟨h3, _⟩ | ⟨_, h4, _⟩
    · exact absurd h2 h3
    · obtain ⟨c', r', e', h5, _⟩ := sign_facts _ h4
      cases S_inj e'
      exact h5
theorem okS_run {p : List Nat} (h : p.all inRun = true) : okS (S p) = true := by
  have key : ∀ c ∈ letters ++ digits ++ [95], c < 1114112 := by decide +kernel
  show p.toArray.all (· < 0x110000) = true
  rw [List.all_toArray]
  refine List.all_eq_true.mpr fun c hc => decide_eq_true (key c ?_)
  have := List.all_eq_true.mp h c hc
  rw [inRun_iff (r := [])] at this
  exact of_decide_eq_true this
theorem okS_sign : ∀ x ∈ signsL, okS x = true := by decide +kernel
theorem tokOf_v {p : List Nat} {k : Str} {v : V} (h : tokOf p = some (k, v)) : (v = .str (S p) ∨ ∃ n : Nat, v = .int n) ∧ okS k = true ∧ (k = Str.ofString "word" ∨ k = Str.ofString "name" ∨ k = Str.ofString "number" ∨ k = kSign) ∧
    ((k = Str.ofString "word" ∨ k = Str.ofString "name") → v = .str (S p) ∧ (k = Str.ofString "word" ↔ S p ∈ words)) := by
  have n1 : ¬ Str.ofString "name" = Str.ofString "word" := by decide +kernel
  have n2 : ¬ (Str.ofString "number" = Str.ofString "word" ∨ Str.ofString "number" = Str.ofString "name") := by decide +kernel
  have n3 : ¬ (Str.ofString "sign" = Str.ofString "word" ∨ Str.ofString "sign" = Str.ofString "name") := by decide +kernel
  unfold Tk.tokOf at h
  split at h
  · split at h
    · rename_i hw
      cases h
      exact ⟨.inl rfl, by decide +kernel, .inl rfl, fun _ => ⟨rfl, fun _ => hw, fun _ => rfl⟩⟩
    · rename_i hw
      cases h
      exact ⟨.inl rfl, by decide +kernel, .inr (.inl rfl), fun _ => ⟨rfl, fun z => absurd z n1, fun z => absurd z hw⟩⟩
  · split at h
    · cases h
      exact ⟨.inr ⟨_, rfl⟩, by decide +kernel, .inr (.inr (.inl rfl)), fun z => absurd z n2⟩
    · split at h
      · cases h
        exact ⟨.inl rfl, by decide +kernel, .inr (.inr (.inr rfl)), fun z => absurd z n3⟩
      · cases h
theorem piece_tokv {k : Str} {v : V} {p : List Nat} (h : PieceOk k v p) : TokV v ∧ okS k = true := by
  obtain ⟨h1, h2, _⟩ := tokOf_v h.tok
  refine ⟨?_, h2⟩
  rcases h1 with rfl | ⟨n, rfl⟩
  · refine .inl ⟨_, rfl, ?_⟩
    rcases h.alt with ⟨_, h3⟩ | ⟨_, h3, _⟩
    · exact okS_run h3
    · exact okS_sign _ h3
  · exact .inr ⟨n, rfl⟩
/-- a piece's tuple -/
def PcAt (H : Hp) (q : V) : Prop := ∃ (a : Addr) (k : Str) (v : V) (x : List Nat), q = .ref a ∧ H a = some (.tup [.str k, v, .str (S x)]) ∧ PieceOk k v x
theorem PcAt.keep {H H' : Hp} {q : V} (h : PcAt H q) (k : ∀ b xs, H b = some (.tup xs) → H' b = some (.tup xs)) : PcAt H' q := by
  obtain ⟨a, kd, v, x, e, h1, h2⟩ := h
  exact ⟨a, kd, v, x, e, k _ _ h1, h2⟩
theorem ToksAt.keep {H H' : Hp} (k : ∀ b xs, H b = some (.tup xs) → H' b = some (.tup xs)) : ∀ {rs : List V} {ts : List Tk.Tok}, ToksAt H rs ts → ToksAt H' rs ts
  | _, _, .nil => .nil
  | _, _, .cons ⟨q, e1, e2⟩ r => .cons ⟨q, e1, k _ _ e2⟩ (ToksAt.keep k r)
/-- tuples stand aside of the state and of lists -/
theorem kp_tup {H H' : Hp} {s c : Addr} (hS : StAt H s c) (k : Kp s c H H') : ∀ b xs, H b = some (.tup xs) → H' b = some (.tup xs) := fun b xs e => by
  obtain ⟨cells, seed, h1, h2, _⟩ := hS
  exact k _ _ (ne_of e h1 tup_lst) (ne_of e h2 tup_lst) e
theorem upd_tup {H : Hp} {p : Addr} {xs : List V} {o : HO} (h : H p = some (.lst xs)) : ∀ b ys, H b = some (.tup ys) → upd H p o b = some (.tup ys) := fun b ys e => by
  rw [upd_ne (ne_of e h tup_lst)]
  exact e
theorem TabG.kp {H H' : Hp} {s c Pt : Addr} (hS : StAt H s c) (k : Kp s c H H') (tg : TabG H Pt) : TabG H' Pt := by
  obtain ⟨cells, seed, h1, h2, _⟩ := hS
  obtain ⟨ps, e1, e2⟩ := tg
  exact ⟨ps, k _ _ (ne_of e1 h1 fun z => nomatch z) (ne_of e1 h2 fun z => nomatch z) e1, e2⟩
/-- the law's state between its steps: the text so far, the tokens due, the pieces -/
structure Mid (Pt s c D Pp : Addr) (H : Hp) (t : List Nat) (rs qs : List V) (ds : List Tk.Tok) : Prop where
  st : StAt H s c
  tg : TabG H Pt
  du : H D = some (.lst rs)
  pc : H Pp = some (.lst qs)
  tk : ToksAt H rs ds
  tv : ∀ t ∈ ds, TokV t.2.1 ∧ okS t.1 = true
  ps : ∀ q ∈ qs, PcAt H q
  n1 : D ≠ s ∧ D ≠ c ∧ Pp ≠ s ∧ Pp ≠ c ∧ D ≠ Pp
theorem Mid.kp {Pt s c D Pp : Addr} {H H' : Hp} {t : List Nat} {rs qs : List V} {ds : List Tk.Tok} (m : Mid Pt s c D Pp H t rs qs ds) (k : Kp s c H H') (hS : StAt H' s c) (t' : List Nat) : Mid Pt s c D Pp H' t' rs qs ds :=
  ⟨hS, TabG.kp m.st k m.tg, k _ _ m.n1.1 m.n1.2.1 m.du, k _ _ m.n1.2.2.1 m.n1.2.2.2.1 m.pc, m.tk.keep (kp_tup m.st k), m.tv, fun q hq => (m.ps q hq).keep (kp_tup m.st k), m.n1⟩
theorem Mid.same {Pt s c D Pp : Addr} {H H' : Hp} {t : List Nat} {rs qs : List V} {ds : List Tk.Tok} (m : Mid Pt s c D Pp H t rs qs ds) (k : Same H H') (t' : List Nat) : Mid Pt s c D Pp H' t' rs qs ds :=
  m.kp (Kp.same k) (m.st.same k) t'
end Pk
set_option Elab.async false
set_option linter.all false
set_option maxRecDepth 100000
set_option maxHeartbeats 8000000
namespace Pk
open PySem PySem.Spec PyProof.Rows L2 SX GxR Tk
def spLaw (K : PySem.W.Frag) (Pt : Addr) : Sp := fun vs H Q _ => ∃ (a : Addr) (ns : List Int), vs = [.ref a] ∧ SqL K H a (ns.map V.int) ∧ ns.length ≤ 63 ∧ TabG H Pt ∧ ∀ H', Q (.bl true) H'
def LastOk (H : Hp) (t : List Nat) (qs : List V) (ds : List Tk.Tok) : Prop := (qs = [] ∧ Gd t ds fun _ => True) ∨
  ∃ (qs' : List V) (a : Addr) (k : Str) (v : V) (x : List Nat), qs = qs' ++ [.ref a] ∧ H a = some (.tup [.str k, v, .str (S x)]) ∧ PieceOk k v x ∧ Gd t ds (after k v)
theorem gd_any {t : List Nat} {ds : List Tk.Tok} {C C' : List Nat → Prop} (h : Gd t ds C) (hc : ∀ r, C' r → C r) : Gd t ds C' := fun r hr => h r (hc r hr)
section
variable {P : Program} {w : World} {K : PySem.W.Frag} {mg : Str → Option Value} {base : Heap}
theorem end_code : Str.ofString " # end" = S [32, 35, 32, 101, 110, 100] := by decide +kernel
theorem emp_code : Str.ofString "" = S [] := by decide +kernel
theorem gd_end {t : List Nat} {ds : List Tk.Tok} {C : List Nat → Prop} (h : Gd t ds C) (hc : C [32, 35, 32, 101, 110, 100]) : Gd (t ++ [32, 35, 32, 101, 110, 100]) ds fun r => r = [] := fun r hr => by
  subst hr
  rw [List.append_nil, h _ hc, toksT_space, toksT_hash, List.count_append]
  rfl
theorem gd_fin {t : List Nat} {ds : List Tk.Tok} {C : List Nat → Prop} (h : Gd t ds C) (hc : C []) : toksT 1 t = .ok (ds ++ [endTok (1 + t.count 10)]) := by
  have := h [] hc
  rw [List.append_nil] at this
  rw [this, toksT_nil]
  rfl
/-- behind the gap ahead of a piece: the piece stands at p; t' is the text -/
def AftGap (Pt s c D Pp a p : Addr) (v5 : Option V) (kd : Str) (v : V) (x : List Nat) (rs qs : List V) (ds : List Tk.Tok) (m : Nat) (σ : L2.St) (H : Hp) : Prop :=
  ∃ (t : List Nat) (C : List Nat → Prop), σ = [some (.ref a), some (.ref s), some (.str (S t)), some (.ref D), some (.ref Pp), v5, some (.ref p), none] ∧ Mid Pt s c D Pp H t rs qs ds ∧
    H p = some (.tup [.str kd, v, .str (S x)]) ∧ Gd t ds C ∧ (∀ r, after kd v r → C (x ++ r)) ∧ t.length ≤ m
/-- behind the last gap -/
def AftLast (Pt s c D Pp a : Addr) (v5 v6 : Option V) (rs qs : List V) (ds : List Tk.Tok) (m : Nat) (σ : L2.St) (H : Hp) : Prop :=
  ∃ (t : List Nat) (C : List Nat → Prop), σ = [some (.ref a), some (.ref s), some (.str (S t)), some (.ref D), some (.ref Pp), v5, v6, none] ∧ Mid Pt s c D Pp H t rs qs ds ∧ Gd t ds C ∧ (∀ r, C (32 :: r)) ∧ C [] ∧ t.length ≤ m
/-- the text is whole -/
def AftEnd (Pt s c D Pp a : Addr) (v5 v6 : Option V) (rs qs : List V) (ds : List Tk.Tok) (m : Nat) (σ : L2.St) (H : Hp) : Prop :=
  ∃ t : List Nat, σ = [some (.ref a), some (.ref s), some (.str (S t)), some (.ref D), some (.ref Pp), v5, v6, none] ∧ Mid Pt s c D Pp H t rs qs ds ∧ toksT 1 t = .ok (ds ++ [endTok (1 + t.count 10)]) ∧ t.length ≤ m
theorem cat_len {t g : List Nat} {m n : Nat} (h1 : t.length ≤ m) (h2 : g.length ≤ n) (h : m + n ≤ 1000000) : (S t).length + (S g).length ≤ sizeLine := by
  rw [S_len, S_len, sizeLine_eq]
  omega
theorem word_code : Str.ofString "word" ≠ kSign ∧ Str.ofString "name" ≠ kSign ∧ Str.ofString "name" ≠ Str.ofString "word" := by decide +kernel
theorem ok_law {f Pt : Addr} {fd : FuncData} {k : Nat} (F : Fun K "law" "law" sLaw f fd) (B : Bl2 mg) (D1 : Df P w K mg base CX0 (k + 1) "_law_state" ["script"] (spState K)) (D2 : Df P w K mg base CX0 (k + 1) "_law_draw" ["state", "many"] spDraw)
    (D3 : Df P w K mg base CX0 (k + 3) "_law_gap" ["state"] spGap) (D4 : Df P w K mg base CX0 (k + 3) "_law_piece" ["state"] spPiece) (D5 : Df P w K mg base CX0 (k + 1) "_law_apart" ["before", "behind"] spApart) (D6 : Df P w K mg base CX0 (k + 1) "_law_line" ["text"] spLine)
    (D7 : Df P w K mg base CX0 (k + 1) "_law_same" ["actual", "due"] spSame) (D8 : Df P w K mg base CX0 (k + 5) "tokenize" ["text"] (spTokenize Pt)) (D9 : Df P w K mg base CX0 (k + 1) "is_reserved" ["name"] spIsRes) :
    FnOk P w K mg base CX0 (k + 6) f fd ["script"] (spLaw K Pt) := by
  obtain ⟨f1, fd1, G1, g1, k1, b1⟩ := D1.ex
  obtain ⟨f2, fd2, G2, g2, k2, b2⟩ := D2.ex
  obtain ⟨f3, fd3, G3, g3, k3, b3⟩ := D3.ex
  obtain ⟨f4, fd4, G4, g4, k4, b4⟩ := D4.ex
  obtain ⟨f5, fd5, G5, g5, k5, b5⟩ := D5.ex
  obtain ⟨f6, fd6, G6, g6, k6, b6⟩ := D6.ex
  obtain ⟨f7, fd7, G7, g7, k7, b7⟩ := D7.ex
  obtain ⟨f8, fd8, G8, g8, k8, b8⟩ := D8.ex
  obtain ⟨f9, fd9, G9, g9, k9, b9⟩ := D9.ex
  refine F.ok scLaw (fun vs H Q E h => ?_) (fun cdv A outer s0 H vs Q E hr h => ?_)
  · obtain ⟨a, ns, rfl, _⟩ := h
    rfl
  · obtain ⟨a, ns, rfl, hS, hn, tg, q⟩ := h
    have nd := scLaw.nd
    have hr3 : Room (k + 3) _ := hr.mono (by omega)
    have hr1 : Room (k + 1) _ := hr.mono (by omega)
    refine ⟨_, pss_cons (ps_set (i := 1) nd rfl (.inl rfl) (pe_call G1 hr1 (by rfl) g1 k1 b1 .nil pass0 (pa_cons (pv 0) pa_nil)))
      (C8.pss_cut (ps_set (i := 2) nd rfl (.inl rfl) (pe_ifExp (pt_cmpR op_eq (pe_call G2 hr1 (by rfl) g2 k2 b2 .nil pass0 (pa_cons (pv 1) (pa_cons pe_int pa_nil))) pe_int (nomark _)) (pe_call G3 hr3 (by rfl) g3 k3 b3 .nil pass0 (pa_cons (pv 1) pa_nil)) pe_str))
      (pss_cons (ps_set (i := 3) nd rfl (.inl rfl) (pe_lst pa_nil))
      (pss_cons (ps_set (i := 4) nd rfl (.inl rfl) (pe_lst pa_nil))
      (pss_cons (ps_for PassesOwn.never rfl (pi_range1 (by rfl) B.zRange (pa_cons (pe_call G2 hr1 (by rfl) g2 k2 b2 .nil pass0 (pa_cons (pv 1) (pa_cons pe_int pa_nil))) pa_nil)) (pg_name (i := 5) nd rfl (.inl rfl))
        (pss_cons (ps_set (i := 6) nd rfl (.inl rfl) (pe_call G4 hr3 (by rfl) g4 k4 b4 .nil pass0 (pa_cons (pv 1) pa_nil)))
        (C8.pss_cut (ps_if (pt_cmpR op_gt (pe_callB call_len_seq (by rfl) B.zLen PySem.boot_len (pa_cons (pv 4) pa_nil)) pe_int (nomark _))
          (pss_one (ps_if (PW.pt (pw_or (pt_val (pe_call G5 hr1 (by rfl) g5 k5 b5 .nil pass0 (pa_cons (pe_ix ix_list (pv 4) (pe_un un_neg pe_int) (fun _ _ => rfl)) (pa_cons (pv 6) pa_nil))) (by intro _; rfl))
              (pw_or1 (pt_cmpR op_eq (pe_call G2 hr1 (by rfl) g2 k2 b2 .nil pass0 (pa_cons (pv 1) (pa_cons pe_int pa_nil))) pe_int (nomark _)))))
            (pss_one (ps_set (i := 2) nd rfl (.inl rfl) (pe_op op_add_str (pv 2) (pe_call G3 hr3 (by rfl) g3 k3 b3 .nil pass0 (pa_cons (pv 1) pa_nil))))) pss_nil)) pss_nil)
        (pss_cons (ps_expr (pe_bm PySem.F.plainAttrs_list PySem.F.slot_list_append PySem.F.type_list_append mt_append (pv 3) (pa_cons (pe_tup (pa_cons (pe_ix ix_tup (pv 6) pe_int (fun _ _ => rfl)) (pa_cons (pe_ix ix_tup (pv 6) pe_int (fun _ _ => rfl))
            (pa_cons (pe_call G6 hr1 (by rfl) g6 k6 b6 .nil pass0 (pa_cons (pv 2) pa_nil)) pa_nil)))) pa_nil)))
        (pss_cons (ps_expr (pe_bm PySem.F.plainAttrs_list PySem.F.slot_list_append PySem.F.type_list_append mt_append (pv 4) (pa_cons (pv 6) pa_nil)))
        (pss_one (ps_set (i := 2) nd rfl (.inl rfl) (pe_op op_add_str (pv 2) (pe_ix ix_tup (pv 6) pe_int (fun _ _ => rfl))))))))))
      (C8.pss_cut (ps_if (pt_cmpR op_eq (pe_call G2 hr1 (by rfl) g2 k2 b2 .nil pass0 (pa_cons (pv 1) (pa_cons pe_int pa_nil))) pe_int (nomark _)) (pss_one (ps_set (i := 2) nd rfl (.inl rfl) (pe_op op_add_str (pv 2) (pe_call G3 hr3 (by rfl) g3 k3 b3 .nil pass0 (pa_cons (pv 1) pa_nil))))) pss_nil)
      (C8.pss_cut (ps_if (pt_cmpR op_eq (pe_call G2 hr1 (by rfl) g2 k2 b2 .nil pass0 (pa_cons (pv 1) (pa_cons pe_int pa_nil))) pe_int (nomark _)) (pss_one (ps_set (i := 2) nd rfl (.inl rfl) (pe_op op_add_str (pv 2) pe_str))) pss_nil)
      (pss_cons (ps_expr (pe_bm PySem.F.plainAttrs_list PySem.F.slot_list_append PySem.F.type_list_append mt_append (pv 3) (pa_cons (pe_tup (pa_cons pe_str (pa_cons pe_str (pa_cons (pe_call G6 hr1 (by rfl) g6 k6 b6 .nil pass0 (pa_cons (pv 2) pa_nil)) pa_nil)))) pa_nil)))
      (pss_cons (ps_if (pt_not (pt_val (pe_call G7 hr1 (by rfl) g7 k7 b7 .nil pass0 (pa_cons (pe_call G8 hr (by rfl) g8 k8 b8 .nil pass0 (pa_cons (pv 2) pa_nil)) (pa_cons (pv 3) pa_nil))) (by intro _; rfl))) (pss_one (ps_ret pe_bl)) pss_nil)
      (pss_cons (ps_for PassesOwn.never rfl (pi_list (pv 4)) (pg_name (i := 6) nd rfl (.inl rfl))
        (pss_one (ps_if (pt_cmpR op_in_seq (pe_ix ix_tup (pv 6) pe_int (fun _ _ => rfl)) (pe_tup (pa_cons pe_str (pa_cons pe_str pa_nil))) (by rfl))
          (pss_cons (ps_set (i := 7) nd rfl (.inl rfl) (pe_call G9 hr1 (by rfl) g9 k9 b9 .nil pass0 (pa_cons (pe_ix ix_tup (pv 6) pe_int (fun _ _ => rfl)) pa_nil)))
          (pss_one (ps_if (PW.pt (pw_or (pt_not (pt_val (pe_callB call_isi (by rfl) B.zIsi (by decide +kernel) (pa_cons (pv 7) (pa_cons (pe_bltn (v := .ty "bool") (u := .type "bool") (by rfl) B.zBool (by decide +kernel) rfl) pa_nil))) (by intro _; rfl)))
              (pw_or1 (pt_cmpR op_ne (pv 7) (pe_cmpR op_eq (pe_ix ix_tup (pv 6) pe_int (fun _ _ => rfl)) pe_str (nomark _)) (nomark _))))) (pss_one (ps_ret pe_bl)) pss_nil))) pss_nil)))
      (pss_one (ps_ret pe_bl))))))))))) , ?_⟩
    refine ⟨_, rfl, a, ns, rfl, hS, hn, fun H1 s c s1 ns1 nc1 hS1 => ?_⟩
    have tg1 : TabG H1 Pt := by
      obtain ⟨ps, e1, e2⟩ := tg
      exact ⟨ps, s1 _ _ e1, e2⟩
    -- the first text
    refine ⟨fun σ H' => ∃ t : List Nat, σ = [some (.ref a), some (.ref s), some (.str (S t)), none, none, none, none, none] ∧ StAt H' s c ∧ TabG H' Pt ∧ t.length ≤ 20 ∧ Gd t [] (fun _ => True), ?_, ?_⟩
    · refine ⟨_, rfl, s, c, 2, rfl, hS1, by decide, by decide, fun H2 r r0 r1 hS2 k2 => ⟨rfl, _, rfl, ?_⟩⟩
      refine iteD (fun _ => ?_) fun _ => ?_
      · refine ⟨_, rfl, s, c, rfl, hS2, fun H3 g hg hS3 k3 => ⟨g, rfl, hS3, TabG.kp hS2 k3 (TabG.kp hS1 k2 tg1), hg.len, ?_⟩⟩
        have := gd_gap gd_nil hg (fun _ => trivial)
        exact this
      · refine ⟨[], ?_, hS2, TabG.kp hS1 k2 tg1, by decide, gd_nil⟩
        rw [emp_code]
        rfl
    rintro σ H2 ⟨t, rfl, hS2, tg2, ht, hgd⟩
    refine ⟨Nat.zero_le _, fun D hD => ⟨Nat.zero_le _, fun Pp hPp => ?_⟩⟩
    have nD := hS2.neS hD
    have hDP : (upd H2 D (.lst [])) D = some (.lst []) := upd_same
    have nP := (hS2.new hD).neS hPp
    have nDP : D ≠ Pp := ne_of_none hDP hPp
    have mid0 : Mid Pt s c D Pp (upd (upd H2 D (.lst [])) Pp (.lst [])) t [] [] [] :=
      ⟨(hS2.new hD).new hPp, TabG.upd (TabG.upd tg2 (.inl hD)) (.inl hPp), by rw [upd_ne nDP]; exact hDP, upd_same, .nil, fun _ h => (List.not_mem_nil h).elim, fun _ h => (List.not_mem_nil h).elim, nD.1, nD.2, nP.1, nP.2, nDP⟩
    refine ⟨_, rfl, s, c, 41, rfl, mid0.st, by decide, by decide, fun H3 many m0 m1 hS3 k3 => ⟨many, rfl, by omega, by omega, ?_⟩⟩
    refine for_range (lo := 0) (n := many.toNat) (fun i σ H' => ∃ (t : List Nat) (rs qs : List V) (ds : List Tk.Tok) (v5 v6 : Option V), σ = [some (.ref a), some (.ref s), some (.str (S t)), some (.ref D), some (.ref Pp), v5, v6, none] ∧
        Mid Pt s c D Pp H' t rs qs ds ∧ LastOk H' t qs ds ∧ t.length ≤ 20 + 60 * i ∧ rs.length = i ∧ qs.length = i)
      ⟨t, [], [], [], none, none, rfl, mid0.kp k3 hS3 t, .inl ⟨rfl, hgd⟩, by omega, rfl, rfl⟩ ?_ ?_
    · rintro i σ H' hi ⟨t, rs, qs, ds, v5, v6, rfl, mid, last, hl, hrs, hqs⟩
      have him : i < 41 := by omega
      refine ⟨_, rfl, s, c, rfl, mid.st, fun H4 p kd v x hpc hS4 k4 hp => ?_⟩
      have mid4 := mid.kp k4 hS4 t
      refine ⟨AftGap Pt s c D Pp a p (some (.int (0 + (i : Int)))) kd v x rs qs ds (40 + 60 * i), ?_, ?_⟩
      · refine ⟨_, rfl, Pp, _, rfl, .inl (SqL.of mid4.pc), _, _, rfl, rfl, _, rfl, ?_⟩
        rcases last with ⟨rfl, hg⟩ | ⟨qs', a0, k0, v0, x0, rfl, ha0, hp0, hg⟩
        · exact iteDF (by decide) ⟨t, fun _ => True, rfl, mid4, hp, hg, fun _ _ => trivial, by omega⟩
        · have ha4 := kp_tup mid.st k4 _ _ ha0
          have gapped : ∀ (H5 H6 : Hp) (g : List Nat), Same H4 H5 → GapOk g → StAt H6 s c → Kp s c H5 H6 → AftGap Pt s c D Pp a p (some (.int (0 + (i : Int)))) kd v x rs (qs' ++ [.ref a0]) ds (40 + 60 * i)
              [some (.ref a), some (.ref s), some (.str (S t ++ S g)), some (.ref D), some (.ref Pp), some (.int (0 + (i : Int))), some (.ref p), none] H6 := fun H5 H6 g s5 hg6 hS6 k6 => by
            have mid5 := mid4.same s5 t
            refine ⟨t ++ g, fun _ => True, by rw [S_cat], mid5.kp k6 hS6 _, kp_tup mid5.st k6 _ _ (s5 _ _ hp), gd_gap hg hg6 fun r => after_gap hg6 r, fun _ _ => trivial, ?_⟩
            rw [List.length_append]
            have := hg6.len
            omega
          refine iteDT (by rw [List.length_append, List.length_singleton]; omega) ?_
          refine ⟨_, rfl, 1, rfl, Pp, _, _, _, rfl, rfl, SqL.of mid4.pc, atI_last _ _, _, rfl, a0, p, k0, kd, v0, v, _, _, rfl, ha4, hp, (piece_tokv hp0).1, fun H5 s5 => ⟨_, rfl, ?_⟩⟩
          have hS5 := hS4.same s5
          cases hap : apartB k0 kd v0 with
          | true => exact iteT (iteT ⟨_, rfl, _, rfl, s, c, rfl, hS5, fun H6 g hg6 hS6 k6 => ⟨_, _, rfl, rfl, cat_len hl hg6.len (by omega), gapped H5 H6 g s5 hg6 hS6 k6⟩⟩)
          | false =>
            refine iteF ⟨_, rfl, s, c, 2, rfl, hS5, by decide, by decide, fun H6 r r0 r1 hS6 k6 => ⟨rfl, _, rfl, ?_⟩⟩
            refine iteD (fun _ => ⟨_, rfl, _, rfl, s, c, rfl, hS6, fun H7 g hg7 hS7 k7 => ⟨_, _, rfl, rfl, cat_len hl hg7.len (by omega), gapped H5 H7 g s5 hg7 hS7 (k6.trans k7)⟩⟩) fun _ => ?_
            have mid5 := mid4.same s5 t
            exact ⟨t, after k0 v0, rfl, mid5.kp k6 hS6 t, kp_tup mid5.st k6 _ _ (s5 _ _ hp), hg, fun r _ => after_apart hap hpc, by omega⟩
      · rintro σ H5 ⟨t', C, rfl, mid5, hp5, hg5, hc5, hl5⟩
        refine ⟨_, rfl, .inl ⟨rfl, _, SqL.of mid5.du⟩, _, rfl, p, _, _, _, rfl, rfl, SqT.of hp5, atI_nat (j := 0) rfl, _, rfl, p, _, _, _, rfl, rfl, SqT.of hp5, atI_nat (j := 1) rfl, _, rfl, t', rfl, by omega, fun H6 s6 => ⟨len3, fun tq htq => ?_⟩⟩
        have s7 : Same H5 (upd H6 tq (.tup [.str kd, v, .int ((1 + t'.count 10 : Nat) : Int)])) := s6.trans (same_new htq)
        have mid7 := mid5.same s7 t'
        have hp7 := s7 _ _ hp5
        have u8 := upd_tup (o := .lst (rs ++ [.ref tq])) mid7.du
        refine ⟨D, rs, _, rfl, rfl, mid7.du, small_len (by omega), ?_⟩
        have nD := mid7.n1
        have pc8 : upd (upd H6 tq (.tup [.str kd, v, .int ((1 + t'.count 10 : Nat) : Int)])) D (.lst (rs ++ [.ref tq])) Pp = some (.lst qs) := by
          rw [upd_ne (Ne.symm nD.2.2.2.2)]
          exact mid7.pc
        have u9 := upd_tup (o := .lst (qs ++ [.ref p])) pc8
        refine ⟨_, rfl, .inl ⟨rfl, _, SqL.of pc8⟩, _, rfl, Pp, qs, _, rfl, rfl, pc8, small_len (by omega), ?_⟩
        have hp9 := u9 _ _ (u8 _ _ hp7)
        refine ⟨_, rfl, _, rfl, p, _, _, _, rfl, rfl, SqT.of hp9, atI_nat (j := 2) rfl, _, _, rfl, rfl, cat_len hl5 hpc.len (by omega), ?_⟩
        refine ⟨t' ++ x, rs ++ [.ref tq], qs ++ [.ref p], ds ++ [(kd, v, 1 + t'.count 10)], some (.int (0 + (i : Int))), some (.ref p), ?_, ⟨?_, ?_, ?_, upd_same, ?_, ?_, ?_, nD⟩, .inr ⟨qs, p, kd, v, x, rfl, hp9, hpc, gd_piece hg5 hpc hc5⟩, ?_, ?_, ?_⟩
        · show ([_, _, some (V.str (S t' ++ S x)), _, _, _, _, _] : L2.St) = _
          rw [S_cat]
        · exact (mid7.st.upd nD.1 nD.2.1).upd nD.2.2.1 nD.2.2.2.1
        · exact TabG.upd (TabG.upd mid7.tg (.inr ⟨_, mid7.du, ntL⟩)) (.inr ⟨_, pc8, ntL⟩)
        · rw [upd_ne nD.2.2.2.2, upd_same]
        · exact ((mid7.tk.keep u8).keep u9).app (.cons ⟨tq, rfl, u9 _ _ (u8 _ _ upd_same)⟩ .nil)
        · intro tt htt
          rcases List.mem_append.mp htt with h | h
          · exact mid7.tv tt h
          · obtain rfl := List.mem_singleton.mp h
            exact piece_tokv hpc
        · intro qq hqq
          rcases List.mem_append.mp hqq with h | h
          · exact ((mid7.ps qq h).keep u8).keep u9
          · obtain rfl := List.mem_singleton.mp h
            exact ⟨p, kd, v, x, rfl, hp9, hpc⟩
        · rw [List.length_append]
          have := hpc.len
          omega
        · rw [List.length_append, hrs]
          rfl
        · rw [List.length_append, hqs]
          rfl
    · rintro σ H4 ⟨t, rs, qs, ds, v5, v6, rfl, mid, last, hl, hrs, hqs⟩
      obtain ⟨C, hg, hc1, hc2, hc3⟩ : ∃ C, Gd t ds C ∧ (∀ g r, GapOk g → C (g ++ r)) ∧ (∀ r, C (32 :: r)) ∧ C [] := by
        rcases last with ⟨_, hg⟩ | ⟨qs', a0, k0, v0, x0, _, _, _, hg⟩
        · exact ⟨_, hg, fun _ _ _ => trivial, fun _ => trivial, trivial⟩
        · exact ⟨_, hg, fun g r h => after_gap h r, fun r => after_sp r, trivial⟩
      refine ⟨AftLast Pt s c D Pp a v5 v6 rs qs ds 3000, ?_, ?_⟩
      · refine ⟨_, rfl, s, c, 3, rfl, mid.st, by decide, by decide, fun H5 r r0 r1 hS5 k5 => ⟨rfl, _, rfl, ?_⟩⟩
        have mid5 := mid.kp k5 hS5 t
        refine iteD (fun _ => ⟨_, rfl, _, rfl, s, c, rfl, hS5, fun H6 g hg6 hS6 k6 => ⟨_, _, rfl, rfl, cat_len hl hg6.len (by omega), ?_⟩⟩) fun _ => ?_
        · refine ⟨t ++ g, fun _ => True, ?_, mid5.kp k6 hS6 _, gd_gap hg hg6 fun r => hc1 g r hg6, fun _ => trivial, trivial, ?_⟩
          · show ([_, _, some (V.str (S t ++ S g)), _, _, _, _, _] : L2.St) = _
            rw [S_cat]
          · rw [List.length_append]
            have := hg6.len
            omega
        · exact ⟨t, C, rfl, mid5, hg, hc2, hc3, by omega⟩
      rintro σ H5 ⟨t5, C5, rfl, mid5, hg5, hc52, hc53, hl5⟩
      refine ⟨AftEnd Pt s c D Pp a v5 v6 rs qs ds 4000, ?_, ?_⟩
      · refine ⟨_, rfl, s, c, 5, rfl, mid5.st, by decide, by decide, fun H6 r r0 r1 hS6 k6 => ⟨rfl, _, rfl, ?_⟩⟩
        have mid6 := mid5.kp k6 hS6 t5
        refine iteD (fun _ => ⟨_, rfl, _, _, rfl, rfl, ?_, ?_⟩) fun _ => ?_
        · rw [end_code]
          exact cat_len (n := 6) hl5 (by decide) (by omega)
        · rw [end_code]
          refine ⟨t5 ++ [32, 35, 32, 101, 110, 100], ?_, mid6.kp (Kp.refl _ _ _) hS6 _, gd_fin (gd_end hg5 (hc52 _)) rfl, ?_⟩
          · show ([_, _, some (V.str (S t5 ++ S _)), _, _, _, _, _] : L2.St) = _
            rw [S_cat]
          · rw [List.length_append]
            show t5.length + 6 ≤ _
            omega
        · exact ⟨t5, rfl, mid6, gd_fin hg5 hc53, by omega⟩
      rintro σ H6 ⟨t6, rfl, mid6, htk6, hl6⟩
      refine ⟨_, rfl, .inl ⟨rfl, _, SqL.of mid6.du⟩, _, rfl, t6, rfl, by omega, fun H7 s7 => ⟨len3, fun tq htq => ?_⟩⟩
      have s8 : Same H6 (upd H7 tq (.tup [.str (Str.ofString "end"), .str (Str.ofString ""), .int ((1 + t6.count 10 : Nat) : Int)])) := s7.trans (same_new htq)
      have mid8 := mid6.same s8 t6
      have u9 := upd_tup (o := .lst (rs ++ [.ref tq])) mid8.du
      have nD := mid8.n1
      refine ⟨D, rs, _, rfl, rfl, mid8.du, small_len (by omega), ?_⟩
      have tg9 := TabG.upd (o := .lst (rs ++ [.ref tq])) mid8.tg (.inr ⟨_, mid8.du, ntL⟩)
      refine ⟨_, rfl, t6, _, rfl, by omega, tg9, htk6, fun H10 pa rsa sm10 tg10 hpa0 hpa hta => ?_⟩
      have du10 := sm10 D _ ntL upd_same
      have pc10 := sm10 Pp _ ntL (by rw [upd_ne (Ne.symm nD.2.2.2.2)]; exact mid8.pc)
      have tk9 := (mid8.tk.keep u9).app (.cons (b := endTok (1 + t6.count 10)) ⟨tq, rfl, u9 _ _ upd_same⟩ .nil)
      have tk10 := tk9.sm sm10
      refine ⟨_, rfl, pa, D, rsa, _, _, rfl, hpa, du10, hta, tk10, ?_, ?_, true, rfl, iteF ?_⟩
      · intro tt htt
        rcases List.mem_append.mp htt with h | h
        · exact mid8.tv tt h
        · obtain rfl := List.mem_singleton.mp h
          exact ⟨.inl ⟨Str.ofString "", rfl, by decide +kernel⟩, (by show okS (Str.ofString "end") = true; decide +kernel)⟩
      · have := tk10.length
        rw [List.length_append, List.length_append, List.length_singleton, List.length_singleton] at this
        rw [List.length_append, List.length_singleton]
        omega
      · have ps10 : ∀ qq ∈ qs, PcAt H10 qq := fun qq hqq => ((mid8.ps qq hqq).keep u9).keep fun b xs e => sm10 b _ ntT e
        refine ⟨_, rfl, Pp, rfl, ⟨_, SqL.of pc10⟩, for_list (K := K) (a := Pp) (xs := qs) (fun i σ H' => ∃ v6 v7, σ = [some (.ref a), some (.ref s), some (.str (S t6)), some (.ref D), some (.ref Pp), v5, v6, v7] ∧ H' Pp = some (.lst qs) ∧ ∀ qq ∈ qs, PcAt H' qq)
          ⟨_, none, rfl, pc10, ps10⟩ (fun i σ H' _ h => by obtain ⟨_, _, _, h, _⟩ := h; exact SqL.of h) ?_ ?_⟩
        · rintro i y σ H' hy ⟨v6', v7, rfl, hpc', hps⟩
          obtain ⟨p, kd, v, x, rfl, hp, hx⟩ := hps y (List.mem_of_getElem? hy)
          obtain ⟨hv1, hv2, hv3, hv4⟩ := tokOf_v hx.tok
          refine ⟨_, rfl, p, _, _, _, rfl, rfl, SqT.of hp, atI_nat (j := 0) rfl, (by show 2 ≤ sizeLine; decide), fun p2 hp2 => ?_⟩
          have s11 : Same H' (upd H' p2 (.tup [.str (Str.ofString "word"), .str (Str.ofString "name")])) := same_new hp2
          have hp11 := s11 _ _ hp
          have fin : ∃ v6 v7, _ = [some (V.ref a), some (.ref s), some (.str (S t6)), some (.ref D), some (.ref Pp), v5, v6, v7] ∧ (upd H' p2 (.tup [.str (Str.ofString "word"), .str (Str.ofString "name")])) Pp = some (.lst qs) ∧ ∀ qq ∈ qs, PcAt (upd H' p2 (.tup [.str (Str.ofString "word"), .str (Str.ofString "name")])) qq :=
            ⟨some (.ref p), v7, rfl, s11 _ _ hpc', fun qq hqq => (hps qq hqq).keep fun b xs e => s11 _ _ e⟩
          refine ⟨p2, [Str.ofString "word", Str.ofString "name"].map V.str, rfl, .inr (SqT.of upd_same), rfl, flat_strs _, ?_⟩
          show ∃ k, V.bl (inV (.str kd) ([Str.ofString "word", Str.ofString "name"].map V.str)) = .bl k ∧ _
          rw [inV_strs]
          refine ⟨_, rfl, iteD (fun hk => ?_) fun hk => fin⟩
          have hk' : kd = Str.ofString "word" ∨ kd = Str.ofString "name" := by
            rw [List.mem_cons, List.mem_singleton] at hk
            exact hk
          obtain ⟨rfl, hw⟩ := hv4 hk'
          refine ⟨_, rfl, p, _, _, _, rfl, rfl, SqT.of hp11, atI_nat (j := 1) rfl, S x, rfl, ?_⟩
          refine ⟨_, rfl, _, _, _, _, true, rfl, .ty _, .base (.bl _), kit_ty (by decide +kernel), _, rfl, iteF ?_⟩
          refine ⟨_, rfl, _, rfl, p, _, _, _, rfl, rfl, SqT.of hp11, atI_nat (j := 0) rfl, rfl, rfl, _, rfl, ?_⟩
          have e : decide (V.bl (decide (S x ∈ words)) = V.bl (decide (V.str kd = V.str (Str.ofString "word")))) = true := by
            refine decide_eq_true (congrArg V.bl ?_)
            rw [dcStr, Bool.eq_iff_iff, decide_eq_true_eq, decide_eq_true_eq]
            exact hw.symm
          rw [e]
          refine iteF ?_
          exact ⟨some (.ref p), _, rfl, s11 _ _ hpc', fun qq hqq => (hps qq hqq).keep fun b xs e => s11 _ _ e⟩
        · rintro σ H' ⟨v6', v7, rfl, _, _⟩
          exact q H'
end
end Pk
set_option Elab.async false
set_option linter.all false
set_option maxRecDepth 100000
set_option maxHeartbeats 8000000
namespace Pk
open PySem PySem.Spec PyProof.Rows L2 SX GxR Tk
theorem atd_mk {K : PySem.W.Frag} {h : Heap} {mg : Str → Option Value} {x : Str} {st : Stmt} {ps : List Str} {f : Addr} {oc : Value} {od an : Option Addr} {osl : Array (Option Value)} {kV doc pm cdv ct : Value} (X : K.In h) (G : h.Ns mainGlobals mg)
    (a : PySem.W.nsIn K mainGlobals x = some (some (.ref f))) (l : K.lookup f = some ⟨oc, od, .func (PySem.W.fnOf x x (defArgs st) (defBody st) (defScope st) .none kV doc pm an cdv ct), osl⟩)
    (c : PySem.W.codeIn K cdv x = true) (k : PySem.W.keepIn K (.ref f) = true)
    (hb : ∀ (kV doc pm : Value) (an : Option Addr) (cdv ct : Value) (us : List Value), us.length = ps.length → bindArgs (PySem.W.fnOf x x (defArgs st) (defBody st) (defScope st) .none kV doc pm an cdv ct) ⟨us, []⟩ = pure (ps.zip us)) : AtD K mg x st ps :=
  ⟨f, _, fun_mk l c k, PySem.W.mg_of X G a, (fun_mk l c k).binds hb⟩
theorem tupk_mk {K : PySem.W.Frag} {p : Addr} {od : Option Addr} {its : List Value} {n : Nat} {osl : Array (Option Value)} {xs : List V} (l : K.lookup p = some ⟨.type "tuple", od, .seq its.toArray n, osl⟩) (h : Vals xs its) (hz : xs.length ≤ 1000) : TupK K p xs :=
  ⟨_, _, _, l, rfl, rfl, by rw [List.size_toArray, ← h.length, sizeLine_eq]; omega, h⟩
/-- what the top has written -/
structure Top1 (K : PySem.W.Frag) (mg : Str → Option Value) : Prop where
  T : Tx K mg
  B : Bl2 mg
  zAbs : mg "abs" = none
  dIsRes : AtD K mg "is_reserved" sIsRes ["name"]
  dTokenize : AtD K mg "tokenize" sTokenize ["text"]
  dComEnd : AtD K mg "comment_end" sComEnd ["text", "at"]
  dPartEnd : AtD K mg "part_end" sPartEnd ["text", "at"]
  dInRun : AtD K mg "in_run" sInRun ["char"]
  dTokenOf : AtD K mg "token_of" sTokenOf ["part", "line"]
  dIsNum : AtD K mg "is_number" sIsNum ["part"]
  dIsDec : AtD K mg "is_decimal" sIsDec ["part"]
  dNumVal : AtD K mg "number_value" sNumVal ["part"]
  dState : AtD K mg "_law_state" sState ["script"]
  dDraw : AtD K mg "_law_draw" sDraw ["state", "many"]
  dPick : AtD K mg "_law_pick" sPick ["state", "row"]
  dWords : AtD K mg "_law_words" sWords []
  dSigns : AtD K mg "_law_signs" sSigns []
  dName : AtD K mg "_law_name" sName ["state"]
  dHex : AtD K mg "_law_hex" sHex ["n", "size"]
  dPiece : AtD K mg "_law_piece" sPiece ["state"]
  dGap : AtD K mg "_law_gap" sGap ["state"]
  dApart : AtD K mg "_law_apart" sApart ["before", "behind"]
  dLine : AtD K mg "_law_line" sLine ["text"]
  dSame : AtD K mg "_law_same" sSame ["actual", "due"]
theorem law_ok {P : Program} {w : World} {K : PySem.W.Frag} {mg : Str → Option Value} {base : Heap} {fL : Addr} {fdL : FuncData} {fC c Pt : Addr} {oc : Value} {od an : Option Addr} {osl : Array (Option Value)} {kV doc pm ct : Value} (M : Top1 K mg) (FL : Fun K "law" "law" sLaw fL fdL)
    (gC : mg "consists_of" = some (.ref fC)) (lC : K.lookup fC = some ⟨oc, od, .func (PySem.W.fnOf "consists_of" "consists_of" (defArgs sCons) (defBody sCons) (defScope sCons) .none kV doc pm an (.ref c) ct), osl⟩)
    (cC : PySem.W.codeIn K (.ref c) "consists_of" = true) (kC : PySem.W.keepIn K (.ref fC) = true) (TB : TabB base mg c Pt) : FnOk P w K mg base CX0 6 fL fdL ["script"] (spLaw K Pt) := by
  have T := M.T
  have B := M.B
  have Bt : Blt mg := ⟨T.zInt, M.zAbs, B.zLen⟩
  have DC : Df P w K mg base CX0 1 "consists_of" ["part", "chars"] (spCons Pt) := ⟨_, _, ok_cons lC cC T TB, gC, kC, (fun_mk (st := sCons) lC cC kC).binds fun _ _ _ _ _ _ us hl => match us, hl with | [_, _], _ => rfl⟩
  have D1 : Df P w K mg base CX0 1 "_law_state" ["script"] (spState K) := M.dState.df fun f fd F => ok_state F Bt
  have D2 : Df P w K mg base CX0 1 "_law_draw" ["state", "many"] spDraw := M.dDraw.df fun f fd F => ok_draw F Bt
  have DPi : Df P w K mg base CX0 2 "_law_pick" ["state", "row"] (spPick K) := M.dPick.df fun f fd F => by
    obtain ⟨fD, fdD, GD, gD, kD, bD⟩ := D2.ex
    exact ok_pick F Bt GD gD kD bD
  have DW : Df P w K mg base CX0 1 "_law_words" [] spWords := M.dWords.df fun f fd F => ok_words F
  have DS : Df P w K mg base CX0 1 "_law_signs" [] spSigns := M.dSigns.df fun f fd F => ok_signs F
  have DN : Df P w K mg base CX0 2 "_law_name" ["state"] spName := M.dName.df fun f fd F => ok_name F B.zRange D2 DW
  have DH : Df P w K mg base CX0 1 "_law_hex" ["n", "size"] spHex := M.dHex.df fun f fd F => ok_hex F T
  have D4 : Df P w K mg base CX0 3 "_law_piece" ["state"] spPiece := M.dPiece.df fun f fd F => ok_piece F B.zStr D2 DPi DW DS DN DH
  have D3 : Df P w K mg base CX0 3 "_law_gap" ["state"] spGap := M.dGap.df fun f fd F => ok_gap F D2 DPi
  have D5 : Df P w K mg base CX0 1 "_law_apart" ["before", "behind"] spApart := M.dApart.df fun f fd F => ok_apart F
  have D6 : Df P w K mg base CX0 1 "_law_line" ["text"] spLine := M.dLine.df fun f fd F => ok_line F B.zLen
  have D7 : Df P w K mg base CX0 1 "_law_same" ["actual", "due"] spSame := M.dSame.df fun f fd F => ok_same F B
  have D9 : Df P w K mg base CX0 1 "is_reserved" ["name"] spIsRes := M.dIsRes.df fun f fd F => ok_isres F T
  have DR : Df P w K mg base CX0 1 "in_run" ["char"] spInRun := M.dInRun.df fun f fd F => ok_inrun F T
  have DCE : Df P w K mg base CX0 1 "comment_end" ["text", "at"] spComEnd := M.dComEnd.df fun f fd F => ok_comend F T
  have DPE : Df P w K mg base CX0 2 "part_end" ["text", "at"] spPartEnd := M.dPartEnd.df fun f fd F => ok_partend F T DR
  have DDe : Df P w K mg base CX0 2 "is_decimal" ["part"] (spIsDec Pt) := M.dIsDec.df fun f fd F => ok_isdec F T DC
  have DNu : Df P w K mg base CX0 3 "is_number" ["part"] (spIsNum Pt) := M.dIsNum.df fun f fd F => ok_isnum F T DC DDe
  have DV : Df P w K mg base CX0 1 "number_value" ["part"] spNumVal := M.dNumVal.df fun f fd F => ok_numval F T
  have DO : Df P w K mg base CX0 4 "token_of" ["part", "line"] (spTokOf Pt) := M.dTokenOf.df fun f fd F => ok_tokof F T D9 DNu DV
  have D8 : Df P w K mg base CX0 5 "tokenize" ["text"] (spTokenize Pt) := M.dTokenize.df fun f fd F => ok_tokenize F T DCE DPE DO
  exact ok_law FL B D1 D2 D3 D4 D5 D6 D7 D8 D9
theorem tri0 : TriplesOk (#[] : Array Value).toList := by
  first | trivial | exact .nil | decide
/-- the end: what is asked of the head's facts -/
theorem walk {l : PySem.W.OpenLaw} {q : Program} {loose : List Str} {XP : (Str → Option Value) → Heap → Prop} {YP : World → Heap → Prop} {d : DefRec} {K : Params → PySem.W.Frag} (hn : l.most = some 63) (hdf : d.params.defaults = [])
    (hY : ∀ (w : World) (h : Heap), YP w h → (K w.params).In h)
    (F : ∀ (w : World) (mg : Str → Option Value) (fa : Addr) (h : Heap), (K w.params).In h → h.Ns mainGlobals mg → mg d.name = some (.ref fa) →
      ∃ (fd : FuncData) (c Pt : Addr) (dr : DefRec), ((recsOf q).find? (fun e => e.name == ("consists_of" : Str)) = some dr ∧ PySem.W.tabIn (K w.params) "consists_of" = some (c, Pt) ∧ (K w.params).lookup Pt = none) ∧ (∀ (s : Shared) (u : Value), BindsTo s fd ⟨[u], []⟩ [("script", u)]) ∧
        ∀ base : Heap, (K w.params).In base → base.Ns mainGlobals mg → TabB base mg c Pt → FnOk l.prog w (K w.params) mg base CX0 6 fa fd ["script"] (spLaw (K w.params) Pt)) :
    PySem.W.WalkO q loose XP YP l.row.toRowW d [] (fun f vs => PySem.call f vs) := by
  refine Att.attach_callB hn hdf fun w s0 s1 mg mb fa o pm cd doc a vs ns G Y ho hd hcd hmg hobj hints hlen hbits hg => ?_
  have KX := hY w _ Y
  obtain ⟨fd, c, Pt, dr, ⟨hrec, htab, hno⟩, hb, hF⟩ := F w mg fa _ KX G.T.g hmg
  obtain ⟨hCd, hTb⟩ := PySem.W.tab_of G.T KX hrec htab
  have one : ∀ {R : Addr × Addr → Prop}, R (c, Pt) → ∀ p ∈ [(c, Pt)], R p := fun h p hp => by
    obtain rfl := List.mem_singleton.mp hp
    exact h
  have mem : (c, Pt) ∈ [(c, Pt)] := List.mem_singleton.mpr rfl
  exact LamX.law_callTs (cs := [(c, Pt)]) (CX := CX0) (k := 6) (x := "script") (sp := spLaw (K w.params) Pt) KX G.T.g G.T.b G.T.builtins G.T.nolimit hg (one hTb) (one hno) (one hCd) G.T.bmain hobj hints (Nat.le_trans hlen (by decide)) ⟨rfl, by decide, by decide⟩
    (fun base h1 h2 h3 => hF base h1 h2 ⟨(h3 _ mem).code, (h3 _ mem).bm, (h3 _ mem).gP⟩) hb (fun H hH hS => ⟨a, ns, rfl, hS, hlen, ⟨#[], hH _ mem, tri0⟩, fun _ => rfl⟩) fun _ _ _ z => z
end Pk
set_option Elab.async false
set_option linter.all false
set_option maxRecDepth 100000
set_option maxHeartbeats 8000000
namespace Pk
open PySem PySem.Spec PyProof.Rows L2 SX GxR Tk
theorem all_mk {P : Program} {w : World} {K : PySem.W.Frag} {h : Heap} {mg : Str → Option Value} {q : Program} {fa : Addr}
    {f0 : Addr} {oc0 : Value} {od0 an0 : Option Addr} {osl0 : Array (Option Value)} {kV0 doc0 pm0 ct0 : Value}
    {cd0 : Value}
    {f1 : Addr} {oc1 : Value} {od1 an1 : Option Addr} {osl1 : Array (Option Value)} {kV1 doc1 pm1 ct1 : Value}
    {cd1 : Value}
    {f2 : Addr} {oc2 : Value} {od2 an2 : Option Addr} {osl2 : Array (Option Value)} {kV2 doc2 pm2 ct2 : Value}
    {cd2 : Value}
    {f3 : Addr} {oc3 : Value} {od3 an3 : Option Addr} {osl3 : Array (Option Value)} {kV3 doc3 pm3 ct3 : Value}
    {cd3 : Value}
    {f4 : Addr} {oc4 : Value} {od4 an4 : Option Addr} {osl4 : Array (Option Value)} {kV4 doc4 pm4 ct4 : Value}
    {cd4 : Value}
    {f5 : Addr} {oc5 : Value} {od5 an5 : Option Addr} {osl5 : Array (Option Value)} {kV5 doc5 pm5 ct5 : Value}
    {cd5 : Value}
    {f6 : Addr} {oc6 : Value} {od6 an6 : Option Addr} {osl6 : Array (Option Value)} {kV6 doc6 pm6 ct6 : Value}
    {f66 : Addr} {oc66 : Value} {od66 an66 : Option Addr} {osl66 : Array (Option Value)} {kV66 doc66 pm66 ct66 : Value}
    {cd6 cd66 : Value}
    {f7 : Addr} {oc7 : Value} {od7 an7 : Option Addr} {osl7 : Array (Option Value)} {kV7 doc7 pm7 ct7 : Value}
    {cd7 : Value}
    {f8 : Addr} {oc8 : Value} {od8 an8 : Option Addr} {osl8 : Array (Option Value)} {kV8 doc8 pm8 ct8 : Value}
    {cd8 : Value}
    {f9 : Addr} {oc9 : Value} {od9 an9 : Option Addr} {osl9 : Array (Option Value)} {kV9 doc9 pm9 ct9 : Value}
    {cd9 : Value}
    {f10 : Addr} {oc10 : Value} {od10 an10 : Option Addr} {osl10 : Array (Option Value)} {kV10 doc10 pm10 ct10 : Value}
    {cd10 : Value}
    {f11 : Addr} {oc11 : Value} {od11 an11 : Option Addr} {osl11 : Array (Option Value)} {kV11 doc11 pm11 ct11 : Value}
    {cd11 : Value}
    {f12 : Addr} {oc12 : Value} {od12 an12 : Option Addr} {osl12 : Array (Option Value)} {kV12 doc12 pm12 ct12 : Value}
    {cd12 : Value}
    {f13 : Addr} {oc13 : Value} {od13 an13 : Option Addr} {osl13 : Array (Option Value)} {kV13 doc13 pm13 ct13 : Value}
    {cd13 : Value}
    {f14 : Addr} {oc14 : Value} {od14 an14 : Option Addr} {osl14 : Array (Option Value)} {kV14 doc14 pm14 ct14 : Value}
    {cd14 : Value}
    {f15 : Addr} {oc15 : Value} {od15 an15 : Option Addr} {osl15 : Array (Option Value)} {kV15 doc15 pm15 ct15 : Value}
    {cd15 : Value}
    {f16 : Addr} {oc16 : Value} {od16 an16 : Option Addr} {osl16 : Array (Option Value)} {kV16 doc16 pm16 ct16 : Value}
    {cd16 : Value}
    {f17 : Addr} {oc17 : Value} {od17 an17 : Option Addr} {osl17 : Array (Option Value)} {kV17 doc17 pm17 ct17 : Value}
    {cd17 : Value}
    {f18 : Addr} {oc18 : Value} {od18 an18 : Option Addr} {osl18 : Array (Option Value)} {kV18 doc18 pm18 ct18 : Value}
    {cd18 : Value}
    {f19 : Addr} {oc19 : Value} {od19 an19 : Option Addr} {osl19 : Array (Option Value)} {kV19 doc19 pm19 ct19 : Value}
    {cd19 : Value}
    {f20 : Addr} {oc20 : Value} {od20 an20 : Option Addr} {osl20 : Array (Option Value)} {kV20 doc20 pm20 ct20 : Value}
    {cd20 : Value}
    {f21 : Addr} {oc21 : Value} {od21 an21 : Option Addr} {osl21 : Array (Option Value)} {kV21 doc21 pm21 ct21 : Value}
    {uLET : Value}
    {uDIG : Value}
    {uHEX : Value}
    {uLNM : Value}
    {uMDG : Value}
    {uMHX : Value}
    {uGRT : Value}
    {pRES : Addr} {oRES : Option Addr} {iRES : Array Value} {nRES : Nat} {sRES : Array (Option Value)}
    {pLNG : Addr} {oLNG : Option Addr} {iLNG : Array Value} {nLNG : Nat} {sLNG : Array (Option Value)}
    {pSHT : Addr} {oSHT : Option Addr} {iSHT : Array Value} {nSHT : Nat} {sSHT : Array (Option Value)}
    {cT Pt : Addr} {dr : DefRec}
    (X : K.In h) (G : h.Ns mainGlobals mg) (hfa : mg "law" = some (.ref fa))
    (a0 : PySem.W.nsIn K mainGlobals "is_reserved" = some (some (.ref f0)))
    (l0 : K.lookup f0 = some ⟨oc0, od0, .func (PySem.W.fnOf "is_reserved" "is_reserved" (defArgs sIsRes) (defBody sIsRes) (defScope sIsRes) .none kV0 doc0 pm0 an0 cd0 ct0), osl0⟩)
    (c0 : PySem.W.codeIn K cd0 "is_reserved" = true)
    (k0 : PySem.W.keepIn K (.ref f0) = true)
    (a1 : PySem.W.nsIn K mainGlobals "tokenize" = some (some (.ref f1)))
    (l1 : K.lookup f1 = some ⟨oc1, od1, .func (PySem.W.fnOf "tokenize" "tokenize" (defArgs sTokenize) (defBody sTokenize) (defScope sTokenize) .none kV1 doc1 pm1 an1 cd1 ct1), osl1⟩)
    (c1 : PySem.W.codeIn K cd1 "tokenize" = true)
    (k1 : PySem.W.keepIn K (.ref f1) = true)
    (a2 : PySem.W.nsIn K mainGlobals "comment_end" = some (some (.ref f2)))
    (l2 : K.lookup f2 = some ⟨oc2, od2, .func (PySem.W.fnOf "comment_end" "comment_end" (defArgs sComEnd) (defBody sComEnd) (defScope sComEnd) .none kV2 doc2 pm2 an2 cd2 ct2), osl2⟩)
    (c2 : PySem.W.codeIn K cd2 "comment_end" = true)
    (k2 : PySem.W.keepIn K (.ref f2) = true)
    (a3 : PySem.W.nsIn K mainGlobals "part_end" = some (some (.ref f3)))
    (l3 : K.lookup f3 = some ⟨oc3, od3, .func (PySem.W.fnOf "part_end" "part_end" (defArgs sPartEnd) (defBody sPartEnd) (defScope sPartEnd) .none kV3 doc3 pm3 an3 cd3 ct3), osl3⟩)
    (c3 : PySem.W.codeIn K cd3 "part_end" = true)
    (k3 : PySem.W.keepIn K (.ref f3) = true)
    (a4 : PySem.W.nsIn K mainGlobals "in_run" = some (some (.ref f4)))
    (l4 : K.lookup f4 = some ⟨oc4, od4, .func (PySem.W.fnOf "in_run" "in_run" (defArgs sInRun) (defBody sInRun) (defScope sInRun) .none kV4 doc4 pm4 an4 cd4 ct4), osl4⟩)
    (c4 : PySem.W.codeIn K cd4 "in_run" = true)
    (k4 : PySem.W.keepIn K (.ref f4) = true)
    (a5 : PySem.W.nsIn K mainGlobals "token_of" = some (some (.ref f5)))
    (l5 : K.lookup f5 = some ⟨oc5, od5, .func (PySem.W.fnOf "token_of" "token_of" (defArgs sTokenOf) (defBody sTokenOf) (defScope sTokenOf) .none kV5 doc5 pm5 an5 cd5 ct5), osl5⟩)
    (c5 : PySem.W.codeIn K cd5 "token_of" = true)
    (k5 : PySem.W.keepIn K (.ref f5) = true)
    (a6 : PySem.W.nsIn K mainGlobals "is_number" = some (some (.ref f6)))
    (a66 : PySem.W.nsIn K mainGlobals "is_decimal" = some (some (.ref f66)))
    (l6 : K.lookup f6 = some ⟨oc6, od6, .func (PySem.W.fnOf "is_number" "is_number" (defArgs sIsNum) (defBody sIsNum) (defScope sIsNum) .none kV6 doc6 pm6 an6 cd6 ct6), osl6⟩)
    (l66 : K.lookup f66 = some ⟨oc66, od66, .func (PySem.W.fnOf "is_decimal" "is_decimal" (defArgs sIsDec) (defBody sIsDec) (defScope sIsDec) .none kV66 doc66 pm66 an66 cd66 ct66), osl66⟩)
    (c6 : PySem.W.codeIn K cd6 "is_number" = true)
    (c66 : PySem.W.codeIn K cd66 "is_decimal" = true)
    (k6 : PySem.W.keepIn K (.ref f6) = true)
    (k66 : PySem.W.keepIn K (.ref f66) = true)
    (a7 : PySem.W.nsIn K mainGlobals "number_value" = some (some (.ref f7)))
    (l7 : K.lookup f7 = some ⟨oc7, od7, .func (PySem.W.fnOf "number_value" "number_value" (defArgs sNumVal) (defBody sNumVal) (defScope sNumVal) .none kV7 doc7 pm7 an7 cd7 ct7), osl7⟩)
    (c7 : PySem.W.codeIn K cd7 "number_value" = true)
    (k7 : PySem.W.keepIn K (.ref f7) = true)
    (a8 : PySem.W.nsIn K mainGlobals "_law_state" = some (some (.ref f8)))
    (l8 : K.lookup f8 = some ⟨oc8, od8, .func (PySem.W.fnOf "_law_state" "_law_state" (defArgs sState) (defBody sState) (defScope sState) .none kV8 doc8 pm8 an8 cd8 ct8), osl8⟩)
    (c8 : PySem.W.codeIn K cd8 "_law_state" = true)
    (k8 : PySem.W.keepIn K (.ref f8) = true)
    (a9 : PySem.W.nsIn K mainGlobals "_law_draw" = some (some (.ref f9)))
    (l9 : K.lookup f9 = some ⟨oc9, od9, .func (PySem.W.fnOf "_law_draw" "_law_draw" (defArgs sDraw) (defBody sDraw) (defScope sDraw) .none kV9 doc9 pm9 an9 cd9 ct9), osl9⟩)
    (c9 : PySem.W.codeIn K cd9 "_law_draw" = true)
    (k9 : PySem.W.keepIn K (.ref f9) = true)
    (a10 : PySem.W.nsIn K mainGlobals "_law_pick" = some (some (.ref f10)))
    (l10 : K.lookup f10 = some ⟨oc10, od10, .func (PySem.W.fnOf "_law_pick" "_law_pick" (defArgs sPick) (defBody sPick) (defScope sPick) .none kV10 doc10 pm10 an10 cd10 ct10), osl10⟩)
    (c10 : PySem.W.codeIn K cd10 "_law_pick" = true)
    (k10 : PySem.W.keepIn K (.ref f10) = true)
    (a11 : PySem.W.nsIn K mainGlobals "_law_words" = some (some (.ref f11)))
    (l11 : K.lookup f11 = some ⟨oc11, od11, .func (PySem.W.fnOf "_law_words" "_law_words" (defArgs sWords) (defBody sWords) (defScope sWords) .none kV11 doc11 pm11 an11 cd11 ct11), osl11⟩)
    (c11 : PySem.W.codeIn K cd11 "_law_words" = true)
    (k11 : PySem.W.keepIn K (.ref f11) = true)
    (a12 : PySem.W.nsIn K mainGlobals "_law_signs" = some (some (.ref f12)))
    (l12 : K.lookup f12 = some ⟨oc12, od12, .func (PySem.W.fnOf "_law_signs" "_law_signs" (defArgs sSigns) (defBody sSigns) (defScope sSigns) .none kV12 doc12 pm12 an12 cd12 ct12), osl12⟩)
    (c12 : PySem.W.codeIn K cd12 "_law_signs" = true)
    (k12 : PySem.W.keepIn K (.ref f12) = true)
    (a13 : PySem.W.nsIn K mainGlobals "_law_name" = some (some (.ref f13)))
    (l13 : K.lookup f13 = some ⟨oc13, od13, .func (PySem.W.fnOf "_law_name" "_law_name" (defArgs sName) (defBody sName) (defScope sName) .none kV13 doc13 pm13 an13 cd13 ct13), osl13⟩)
    (c13 : PySem.W.codeIn K cd13 "_law_name" = true)
    (k13 : PySem.W.keepIn K (.ref f13) = true)
    (a14 : PySem.W.nsIn K mainGlobals "_law_hex" = some (some (.ref f14)))
    (l14 : K.lookup f14 = some ⟨oc14, od14, .func (PySem.W.fnOf "_law_hex" "_law_hex" (defArgs sHex) (defBody sHex) (defScope sHex) .none kV14 doc14 pm14 an14 cd14 ct14), osl14⟩)
    (c14 : PySem.W.codeIn K cd14 "_law_hex" = true)
    (k14 : PySem.W.keepIn K (.ref f14) = true)
    (a15 : PySem.W.nsIn K mainGlobals "_law_piece" = some (some (.ref f15)))
    (l15 : K.lookup f15 = some ⟨oc15, od15, .func (PySem.W.fnOf "_law_piece" "_law_piece" (defArgs sPiece) (defBody sPiece) (defScope sPiece) .none kV15 doc15 pm15 an15 cd15 ct15), osl15⟩)
    (c15 : PySem.W.codeIn K cd15 "_law_piece" = true)
    (k15 : PySem.W.keepIn K (.ref f15) = true)
    (a16 : PySem.W.nsIn K mainGlobals "_law_gap" = some (some (.ref f16)))
    (l16 : K.lookup f16 = some ⟨oc16, od16, .func (PySem.W.fnOf "_law_gap" "_law_gap" (defArgs sGap) (defBody sGap) (defScope sGap) .none kV16 doc16 pm16 an16 cd16 ct16), osl16⟩)
    (c16 : PySem.W.codeIn K cd16 "_law_gap" = true)
    (k16 : PySem.W.keepIn K (.ref f16) = true)
    (a17 : PySem.W.nsIn K mainGlobals "_law_apart" = some (some (.ref f17)))
    (l17 : K.lookup f17 = some ⟨oc17, od17, .func (PySem.W.fnOf "_law_apart" "_law_apart" (defArgs sApart) (defBody sApart) (defScope sApart) .none kV17 doc17 pm17 an17 cd17 ct17), osl17⟩)
    (c17 : PySem.W.codeIn K cd17 "_law_apart" = true)
    (k17 : PySem.W.keepIn K (.ref f17) = true)
    (a18 : PySem.W.nsIn K mainGlobals "_law_line" = some (some (.ref f18)))
    (l18 : K.lookup f18 = some ⟨oc18, od18, .func (PySem.W.fnOf "_law_line" "_law_line" (defArgs sLine) (defBody sLine) (defScope sLine) .none kV18 doc18 pm18 an18 cd18 ct18), osl18⟩)
    (c18 : PySem.W.codeIn K cd18 "_law_line" = true)
    (k18 : PySem.W.keepIn K (.ref f18) = true)
    (a19 : PySem.W.nsIn K mainGlobals "_law_same" = some (some (.ref f19)))
    (l19 : K.lookup f19 = some ⟨oc19, od19, .func (PySem.W.fnOf "_law_same" "_law_same" (defArgs sSame) (defBody sSame) (defScope sSame) .none kV19 doc19 pm19 an19 cd19 ct19), osl19⟩)
    (c19 : PySem.W.codeIn K cd19 "_law_same" = true)
    (k19 : PySem.W.keepIn K (.ref f19) = true)
    (a20 : PySem.W.nsIn K mainGlobals "law" = some (some (.ref f20)))
    (l20 : K.lookup f20 = some ⟨oc20, od20, .func (PySem.W.fnOf "law" "law" (defArgs sLaw) (defBody sLaw) (defScope sLaw) .none kV20 doc20 pm20 an20 cd20 ct20), osl20⟩)
    (c20 : PySem.W.codeIn K cd20 "law" = true)
    (k20 : PySem.W.keepIn K (.ref f20) = true)
    (a21 : PySem.W.nsIn K mainGlobals "consists_of" = some (some (.ref f21)))
    (l21 : K.lookup f21 = some ⟨oc21, od21, .func (PySem.W.fnOf "consists_of" "consists_of" (defArgs sCons) (defBody sCons) (defScope sCons) .none kV21 doc21 pm21 an21 (.ref cT) ct21), osl21⟩)
    (c21 : PySem.W.codeIn K (.ref cT) "consists_of" = true)
    (k21 : PySem.W.keepIn K (.ref f21) = true)
    (aLET : PySem.W.nsIn K mainGlobals "LETTERS" = some (some uLET))
    (rLET : L2.RelV (.str lettersS) uLET)
    (aDIG : PySem.W.nsIn K mainGlobals "DIGITS" = some (some uDIG))
    (rDIG : L2.RelV (.str digitsS) uDIG)
    (aHEX : PySem.W.nsIn K mainGlobals "HEX_DIGITS" = some (some uHEX))
    (rHEX : L2.RelV (.str hexS) uHEX)
    (aLNM : PySem.W.nsIn K mainGlobals "LONGEST_NAME" = some (some uLNM))
    (rLNM : L2.RelV (.int 16) uLNM)
    (aMDG : PySem.W.nsIn K mainGlobals "MOST_DIGITS" = some (some uMDG))
    (rMDG : L2.RelV (.int 10) uMDG)
    (aMHX : PySem.W.nsIn K mainGlobals "MOST_HEX_DIGITS" = some (some uMHX))
    (rMHX : L2.RelV (.int 8) uMHX)
    (aGRT : PySem.W.nsIn K mainGlobals "GREATEST_NUMBER" = some (some uGRT))
    (rGRT : L2.RelV (.int 4294967295) uGRT)
    (aRES : PySem.W.nsIn K mainGlobals "RESERVED" = some (some (.ref pRES)))
    (lRES : K.lookup pRES = some ⟨.type "tuple", oRES, .seq iRES nRES, sRES⟩)
    (vRES : L2.Vals (words.map V.str) iRES.toList)
    (aLNG : PySem.W.nsIn K mainGlobals "LONG_SIGNS" = some (some (.ref pLNG)))
    (lLNG : K.lookup pLNG = some ⟨.type "tuple", oLNG, .seq iLNG nLNG, sLNG⟩)
    (vLNG : L2.Vals (longs.map V.str) iLNG.toList)
    (aSHT : PySem.W.nsIn K mainGlobals "SHORT_SIGNS" = some (some (.ref pSHT)))
    (lSHT : K.lookup pSHT = some ⟨.type "tuple", oSHT, .seq iSHT nSHT, sSHT⟩)
    (vSHT : L2.Vals (shorts.map V.str) iSHT.toList)
    (zInt : PySem.W.nsIn K mainGlobals "int" = some none)
    (zLen : PySem.W.nsIn K mainGlobals "len" = some none)
    (zAll : PySem.W.nsIn K mainGlobals "all" = some none)
    (zAbs : PySem.W.nsIn K mainGlobals "abs" = some none)
    (zIsi : PySem.W.nsIn K mainGlobals "isinstance" = some none)
    (zList : PySem.W.nsIn K mainGlobals "list" = some none)
    (zTuple : PySem.W.nsIn K mainGlobals "tuple" = some none)
    (zBool : PySem.W.nsIn K mainGlobals "bool" = some none)
    (zStr : PySem.W.nsIn K mainGlobals "str" = some none)
    (zRange : PySem.W.nsIn K mainGlobals "range" = some none)
    (hrec : (recsOf q).find? (fun e => e.name == ("consists_of" : Str)) = some dr)
    (htab : PySem.W.tabIn K "consists_of" = some (cT, Pt))
    (hno : K.lookup Pt = none) :
    ∃ (fd : FuncData) (c Pt : Addr) (dr : DefRec), ((recsOf q).find? (fun e => e.name == ("consists_of" : Str)) = some dr ∧ PySem.W.tabIn K "consists_of" = some (c, Pt) ∧ K.lookup Pt = none) ∧ (∀ (s : Shared) (u : Value), BindsTo s fd ⟨[u], []⟩ [("script", u)]) ∧
        ∀ base : Heap, K.In base → base.Ns mainGlobals mg → TabB base mg c Pt → FnOk P w K mg base CX0 6 fa fd ["script"] (spLaw K Pt) := by
  have e := hfa.symm.trans (PySem.W.mg_of X G a20)
  cases e
  have T : Tx K mg := ⟨PySem.W.mg_none_of X G zInt, PySem.W.mg_none_of X G zLen, PySem.W.mg_none_of X G zAll,
    ⟨_, PySem.W.mg_of X G aRES, ⟨_, _, _, lRES, rfl, rfl, by rw [← Array.length_toList, ← vRES.length]; decide +kernel, vRES⟩⟩, ⟨_, PySem.W.mg_of X G aLNG, ⟨_, _, _, lLNG, rfl, rfl, by rw [← Array.length_toList, ← vLNG.length]; decide +kernel, vLNG⟩⟩, ⟨_, PySem.W.mg_of X G aSHT, ⟨_, _, _, lSHT, rfl, rfl, by rw [← Array.length_toList, ← vSHT.length]; decide +kernel, vSHT⟩⟩,
    ⟨_, PySem.W.mg_of X G aLET, rLET⟩, ⟨_, PySem.W.mg_of X G aDIG, rDIG⟩, ⟨_, PySem.W.mg_of X G aHEX, rHEX⟩, ⟨_, PySem.W.mg_of X G aLNM, rLNM⟩, ⟨_, PySem.W.mg_of X G aMDG, rMDG⟩, ⟨_, PySem.W.mg_of X G aMHX, rMHX⟩, ⟨_, PySem.W.mg_of X G aGRT, rGRT⟩⟩
  have B : Bl2 mg := ⟨PySem.W.mg_none_of X G zIsi, PySem.W.mg_none_of X G zList, PySem.W.mg_none_of X G zTuple, PySem.W.mg_none_of X G zBool, PySem.W.mg_none_of X G zStr, PySem.W.mg_none_of X G zRange, PySem.W.mg_none_of X G zLen⟩
  have A0 : AtD K mg "is_reserved" sIsRes ["name"] := atd_mk X G a0 l0 c0 k0 fun _ _ _ _ _ _ us hl => match us, hl with | [_], _ => rfl
  have A1 : AtD K mg "tokenize" sTokenize ["text"] := atd_mk X G a1 l1 c1 k1 fun _ _ _ _ _ _ us hl => match us, hl with | [_], _ => rfl
  have A2 : AtD K mg "comment_end" sComEnd ["text", "at"] := atd_mk X G a2 l2 c2 k2 fun _ _ _ _ _ _ us hl => match us, hl with | [_, _], _ => rfl
  have A3 : AtD K mg "part_end" sPartEnd ["text", "at"] := atd_mk X G a3 l3 c3 k3 fun _ _ _ _ _ _ us hl => match us, hl with | [_, _], _ => rfl
  have A4 : AtD K mg "in_run" sInRun ["char"] := atd_mk X G a4 l4 c4 k4 fun _ _ _ _ _ _ us hl => match us, hl with | [_], _ => rfl
  have A5 : AtD K mg "token_of" sTokenOf ["part", "line"] := atd_mk X G a5 l5 c5 k5 fun _ _ _ _ _ _ us hl => match us, hl with | [_, _], _ => rfl
  have A6 : AtD K mg "is_number" sIsNum ["part"] := atd_mk X G a6 l6 c6 k6 fun _ _ _ _ _ _ us hl => match us, hl with | [_], _ => rfl
  have A66 : AtD K mg "is_decimal" sIsDec ["part"] := atd_mk X G a66 l66 c66 k66 fun _ _ _ _ _ _ us hl => match us, hl with | [_], _ => rfl
  have A7 : AtD K mg "number_value" sNumVal ["part"] := atd_mk X G a7 l7 c7 k7 fun _ _ _ _ _ _ us hl => match us, hl with | [_], _ => rfl
  have A8 : AtD K mg "_law_state" sState ["script"] := atd_mk X G a8 l8 c8 k8 fun _ _ _ _ _ _ us hl => match us, hl with | [_], _ => rfl
  have A9 : AtD K mg "_law_draw" sDraw ["state", "many"] := atd_mk X G a9 l9 c9 k9 fun _ _ _ _ _ _ us hl => match us, hl with | [_, _], _ => rfl
  have A10 : AtD K mg "_law_pick" sPick ["state", "row"] := atd_mk X G a10 l10 c10 k10 fun _ _ _ _ _ _ us hl => match us, hl with | [_, _], _ => rfl
  have A11 : AtD K mg "_law_words" sWords [] := atd_mk X G a11 l11 c11 k11 fun _ _ _ _ _ _ us hl => match us, hl with | [], _ => rfl
  have A12 : AtD K mg "_law_signs" sSigns [] := atd_mk X G a12 l12 c12 k12 fun _ _ _ _ _ _ us hl => match us, hl with | [], _ => rfl
  have A13 : AtD K mg "_law_name" sName ["state"] := atd_mk X G a13 l13 c13 k13 fun _ _ _ _ _ _ us hl => match us, hl with | [_], _ => rfl
  have A14 : AtD K mg "_law_hex" sHex ["n", "size"] := atd_mk X G a14 l14 c14 k14 fun _ _ _ _ _ _ us hl => match us, hl with | [_, _], _ => rfl
  have A15 : AtD K mg "_law_piece" sPiece ["state"] := atd_mk X G a15 l15 c15 k15 fun _ _ _ _ _ _ us hl => match us, hl with | [_], _ => rfl
  have A16 : AtD K mg "_law_gap" sGap ["state"] := atd_mk X G a16 l16 c16 k16 fun _ _ _ _ _ _ us hl => match us, hl with | [_], _ => rfl
  have A17 : AtD K mg "_law_apart" sApart ["before", "behind"] := atd_mk X G a17 l17 c17 k17 fun _ _ _ _ _ _ us hl => match us, hl with | [_, _], _ => rfl
  have A18 : AtD K mg "_law_line" sLine ["text"] := atd_mk X G a18 l18 c18 k18 fun _ _ _ _ _ _ us hl => match us, hl with | [_], _ => rfl
  have A19 : AtD K mg "_law_same" sSame ["actual", "due"] := atd_mk X G a19 l19 c19 k19 fun _ _ _ _ _ _ us hl => match us, hl with | [_, _], _ => rfl
  have M : Top1 K mg := ⟨T, B, PySem.W.mg_none_of X G zAbs, A0, A1, A2, A3, A4, A5, A6, A66, A7, A8, A9, A10, A11, A12, A13, A14, A15, A16, A17, A18, A19⟩
  refine ⟨_, cT, Pt, dr, ⟨hrec, htab, hno⟩, fun s u => ?_, fun base _ _ TB => law_ok M (fun_mk (st := sLaw) l20 c20 k20) (PySem.W.mg_of X G a21) l21 c21 k21 TB⟩
  exact .of_eq rfl
end Pk
open PySem PySem.W PyProof.Rows
set_option maxRecDepth 100000 in
set_option maxHeartbeats 0 in
theorem PySem.Challenge.cw_wholepackets_k01_tokens_of_a_text_holds : PySem.Challenge.rw_wholepackets_k01_tokens_of_a_text.Holds := by
  w_on; o_law; k_head; (case hw => w_witness2)
  k_fill
  refine Pk.walk (l := PySem.Challenge.rw_wholepackets_k01_tokens_of_a_text) rfl rfl (fun w h Y => PySem.W.kIn_of Y) ?F
  case F =>
    intro w mg fa h KX G hmg
    refine' Pk.all_mk KX G hmg ?a0 ?l0 ?c0 ?k0 ?a1 ?l1 ?c1 ?k1 ?a2 ?l2 ?c2 ?k2 ?a3 ?l3 ?c3 ?k3 ?a4 ?l4 ?c4 ?k4 ?a5 ?l5 ?c5 ?k5 ?a6 ?a66 ?l6 ?l66 ?c6 ?c66 ?k6 ?k66 ?a7 ?l7 ?c7 ?k7 ?a8 ?l8 ?c8 ?k8 ?a9 ?l9 ?c9 ?k9 ?a10 ?l10 ?c10 ?k10 ?a11 ?l11 ?c11 ?k11 ?a12 ?l12 ?c12 ?k12 ?a13 ?l13 ?c13 ?k13 ?a14 ?l14 ?c14 ?k14 ?a15 ?l15 ?c15 ?k15 ?a16 ?l16 ?c16 ?k16 ?a17 ?l17 ?c17 ?k17 ?a18 ?l18 ?c18 ?k18 ?a19 ?l19 ?c19 ?k19 ?a20 ?l20 ?c20 ?k20 ?a21 ?l21 ?c21 ?k21 ?aLET ?rLET ?aDIG ?rDIG ?aHEX ?rHEX ?aLNM ?rLNM ?aMDG ?rMDG ?aMHX ?rMHX ?aGRT ?rGRT ?aRES ?lRES ?vRES ?aLNG ?lLNG ?vLNG ?aSHT ?lSHT ?vSHT ?zInt ?zLen ?zAll ?zAbs ?zIsi ?zList ?zTuple ?zBool ?zStr ?zRange ?hrec ?htab ?hno
    (case a0 => k_is)
    (case l0 => k_is)
    (case c0 => k_is)
    (case k0 => k_is)
    (case a1 => k_is)
    (case l1 => k_is)
    (case c1 => k_is)
    (case k1 => k_is)
    (case a2 => k_is)
    (case l2 => k_is)
    (case c2 => k_is)
    (case k2 => k_is)
    (case a3 => k_is)
    (case l3 => k_is)
    (case c3 => k_is)
    (case k3 => k_is)
    (case a4 => k_is)
    (case l4 => k_is)
    (case c4 => k_is)
    (case k4 => k_is)
    (case a5 => k_is)
    (case l5 => k_is)
    (case c5 => k_is)
    (case k5 => k_is)
    (case a6 => k_is)
    (case a66 => k_is)
    (case l6 => k_is)
    (case l66 => k_is)
    (case c6 => k_is)
    (case c66 => k_is)
    (case k6 => k_is)
    (case k66 => k_is)
    (case a7 => k_is)
    (case l7 => k_is)
    (case c7 => k_is)
    (case k7 => k_is)
    (case a8 => k_is)
    (case l8 => k_is)
    (case c8 => k_is)
    (case k8 => k_is)
    (case a9 => k_is)
    (case l9 => k_is)
    (case c9 => k_is)
    (case k9 => k_is)
    (case a10 => k_is)
    (case l10 => k_is)
    (case c10 => k_is)
    (case k10 => k_is)
    (case a11 => k_is)
    (case l11 => k_is)
    (case c11 => k_is)
    (case k11 => k_is)
    (case a12 => k_is)
    (case l12 => k_is)
    (case c12 => k_is)
    (case k12 => k_is)
    (case a13 => k_is)
    (case l13 => k_is)
    (case c13 => k_is)
    (case k13 => k_is)
    (case a14 => k_is)
    (case l14 => k_is)
    (case c14 => k_is)
    (case k14 => k_is)
    (case a15 => k_is)
    (case l15 => k_is)
    (case c15 => k_is)
    (case k15 => k_is)
    (case a16 => k_is)
    (case l16 => k_is)
    (case c16 => k_is)
    (case k16 => k_is)
    (case a17 => k_is)
    (case l17 => k_is)
    (case c17 => k_is)
    (case k17 => k_is)
    (case a18 => k_is)
    (case l18 => k_is)
    (case c18 => k_is)
    (case k18 => k_is)
    (case a19 => k_is)
    (case l19 => k_is)
    (case c19 => k_is)
    (case k19 => k_is)
    (case a20 => k_is)
    (case l20 => k_is)
    (case c20 => k_is)
    (case k20 => k_is)
    (case a21 => k_is)
    (case l21 => k_is)
    (case c21 => k_is)
    (case k21 => k_is)
    (case aLET => k_is)
    (case rLET => exact ⟨_, rfl⟩)
    (case aDIG => k_is)
    (case rDIG => exact ⟨_, rfl⟩)
    (case aHEX => k_is)
    (case rHEX => exact ⟨_, rfl⟩)
    (case aLNM => k_is)
    (case rLNM => exact ⟨_, rfl⟩)
    (case aMDG => k_is)
    (case rMDG => exact ⟨_, rfl⟩)
    (case aMHX => k_is)
    (case rMHX => exact ⟨_, rfl⟩)
    (case aGRT => k_is)
    (case rGRT => exact ⟨_, rfl⟩)
    (case aRES => k_is)
    (case lRES => k_is)
    (case vRES => repeat (first | exact .nil | refine .cons ⟨_, rfl⟩ ?_))
    (case aLNG => k_is)
    (case lLNG => k_is)
    (case vLNG => repeat (first | exact .nil | refine .cons ⟨_, rfl⟩ ?_))
    (case aSHT => k_is)
    (case lSHT => k_is)
    (case vSHT => repeat (first | exact .nil | refine .cons ⟨_, rfl⟩ ?_))
    (case zInt => k_is)
    (case zLen => k_is)
    (case zAll => k_is)
    (case zAbs => k_is)
    (case zIsi => k_is)
    (case zList => k_is)
    (case zTuple => k_is)
    (case zBool => k_is)
    (case zStr => k_is)
    (case zRange => k_is)
    (case hrec => rfl)
    (case htab => first | k_is | with_unfolding_all rfl)
    (case hno => first | rfl | kernel_rfl | with_unfolding_all rfl)
