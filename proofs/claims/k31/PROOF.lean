import PyProof.Rows.All
import Wide.All
import OpenK.AllK
import Wide.FinOn
import HandS.ForMost
import HandS.Wide
import HandS.Codes
import HandS.IsInst
import HandS.IntHex
import HandS.AnyAll
import HandS.Walk
import HandS.Flow
import HandS.StrMore
import HandS.EndTab
import KE.RegKIsAll
import HandS.Ends
import PySem.Challenge.RW_wholepackets_k31_queues_with_gaps
set_option Elab.async false
set_option linter.all false
set_option maxRecDepth 100000
set_option maxHeartbeats 4000000
namespace Pk
open PySem PySem.Spec PyProof.Rows L2

/-! ### the drawing state of the law: at s the list [cells, seed], at c the cells -/
def StAt (H : Hp) (s c : Addr) : Prop := ∃ (cells : List Int) (seed : Int), H s = some (.lst [.ref c, .int seed]) ∧ H c = some (.lst (cells.map V.int)) ∧
  (∀ z ∈ cells, 0 ≤ z) ∧ 0 ≤ seed ∧ seed < 2147483648
theorem StAt.ne {H : Hp} {s c : Addr} (h : StAt H s c) : s ≠ c := by
  obtain ⟨cells, seed, h1, h2, _⟩ := h
  refine ne_of h1 h2 fun z => ?_
  have z' := HO.lst.inj z
  cases cells with
  | nil => cases z'
  | cons a r =>
    have e : V.ref c = V.int a := (List.cons.inj z').1
    cases e
/-- what stood beside s and c stands -/
def Kp (s c : Addr) (H H' : Hp) : Prop := ∀ b o, b ≠ s → b ≠ c → H b = some o → H' b = some o
theorem Kp.refl (s c : Addr) (H : Hp) : Kp s c H H := fun _ _ _ _ e => e
theorem Kp.trans {s c : Addr} {H H1 H2 : Hp} (a : Kp s c H H1) (b : Kp s c H1 H2) : Kp s c H H2 := fun x o h1 h2 e => b x o h1 h2 (a x o h1 h2 e)
theorem Kp.same {s c : Addr} {H H1 : Hp} (a : Same H H1) : Kp s c H H1 := fun x o _ _ e => a x o e
theorem Kp.new {s c p : Addr} {H : Hp} {o : HO} (h : H p = none) : Kp s c H (upd H p o) := fun b u _ _ e => by
  rw [upd_ne (ne_of_none e h)]
  exact e
theorem same_new {p : Addr} {H : Hp} {o : HO} (h : H p = none) : Same H (upd H p o) := fun b u e => by
  rw [upd_ne (ne_of_none e h)]
  exact e
theorem StAt.same {H H' : Hp} {s c : Addr} (h : StAt H s c) (k : Same H H') : StAt H' s c := by
  obtain ⟨cells, seed, h1, h2, h3⟩ := h
  exact ⟨cells, seed, k _ _ h1, k _ _ h2, h3⟩
theorem StAt.upd {H : Hp} {s c p : Addr} {o : HO} (h : StAt H s c) (n1 : p ≠ s) (n2 : p ≠ c) : StAt (upd H p o) s c := by
  obtain ⟨cells, seed, h1, h2, h3⟩ := h
  exact ⟨cells, seed, by rw [upd_ne (Ne.symm n1)]; exact h1, by rw [upd_ne (Ne.symm n2)]; exact h2, h3⟩
theorem StAt.new {H : Hp} {s c p : Addr} {o : HO} (h : StAt H s c) (n : H p = none) : StAt (L2.upd H p o) s c := h.same (same_new n)

/-! ### promises of the drawing defs -/
def spState (K : PySem.W.Frag) : Sp := fun vs H Q _ => ∃ (a : Addr) (ns : List Int), vs = [.ref a] ∧ SqL K H a (ns.map V.int) ∧ ns.length ≤ 63 ∧
  ∀ (H' : Hp) (s c : Addr), Same H H' → H s = none → H c = none → StAt H' s c → Q (.ref s) H'
def spDraw : Sp := fun vs H Q _ => ∃ (s c : Addr) (many : Int), vs = [.ref s, .int many] ∧ StAt H s c ∧ 0 < many ∧ many ≤ 1099511627776 ∧
  ∀ (H' : Hp) (r : Int), 0 ≤ r → r < many → StAt H' s c → Kp s c H H' → Q (.int r) H'
def spPick (K : PySem.W.Frag) : Sp := fun vs H Q _ => ∃ (s c p : Addr) (xs : List V), vs = [.ref s, .ref p] ∧ StAt H s c ∧ SqL K H p xs ∧ p ≠ s ∧ p ≠ c ∧ 0 < xs.length ∧ xs.length ≤ 1000 ∧
  ∀ (H' : Hp) (i : Nat) (x : V), xs[i]? = some x → StAt H' s c → Kp s c H H' → Q x H'
theorem Kp.seq {K : PySem.W.Frag} {s c p : Addr} {H H' : Hp} {xs : List V} (k : Kp s c H H') (h : SqL K H p xs) (n1 : p ≠ s) (n2 : p ≠ c) : SqL K H' p xs := by
  rcases h with (h | ⟨o, h⟩) | h
  · exact .inl (.inl (k _ _ n1 n2 h))
  · exact .inl (.inr ⟨o, k _ _ n1 n2 h⟩)
  · exact .inr h
theorem iteD {p A B : Prop} [Decidable p] (h1 : p → A) (h2 : ¬ p → B) : if decide p = true then A else B := by
  by_cases h : p
  · rw [if_pos (decide_eq_true h)]
    exact h1 h
  · rw [decide_eq_false h, if_neg Bool.false_ne_true]
    exact h2 h
theorem iteDT {p A B : Prop} [Decidable p] (h : p) (h1 : A) : if decide p = true then A else B := by
  rw [if_pos (decide_eq_true h)]
  exact h1
theorem iteDF {p A B : Prop} [Decidable p] (h : ¬ p) (h1 : B) : if decide p = true then A else B := by
  rw [decide_eq_false h, if_neg Bool.false_ne_true]
  exact h1
theorem dcInt {i j : Int} : decide (V.int i = V.int j) = decide (i = j) := by
  by_cases h : i = j
  · rw [h, decide_eq_true rfl, decide_eq_true rfl]
  · rw [decide_eq_false h, decide_eq_false fun z => h (V.int.inj z)]
/-- built-ins that the law's own text does not name anew -/
structure Blt (mg : Str → Option Value) : Prop where
  zInt : mg "int" = none
  zAbs : mg "abs" = none
  zLen : mg "len" = none
end Pk
set_option Elab.async false
set_option linter.all false
set_option maxRecDepth 100000
set_option maxHeartbeats 4000000
namespace Tk
open PySem L2 SX
/-! ### the signs and words of the document, as code points -/
def lettersS : Str := Str.ofString "abcdefghijklmnopqrstuvwxyzABCDEFGHIJKLMNOPQRSTUVWXYZ"
def digitsS : Str := Str.ofString "0123456789"
def hexS : Str := Str.ofString "0123456789abcdef"
abbrev letters : List Nat := lettersS.cps.toList
abbrev digits : List Nat := digitsS.cps.toList
abbrev hexes : List Nat := hexS.cps.toList
def words : List Str := ["accept", "action", "add", "apply", "control", "default", "drop", "else", "emit", "exact", "extract", "go", "header", "if", "key", "mask", "meta", "not", "packet", "parser", "prefix", "program", "reject", "remove", "select", "send", "size", "state", "table", "use", "valid"].map Str.ofString
def longs : List Str := [Str.ofString "==", Str.ofString "->"]
def shorts : List Str := ["{", "}", "(", ")", ":", ";", ",", ".", "=", "<", "+", "-", "&", "|", "^"].map Str.ofString
def inRun (c : Nat) : Bool := decide (c ∈ letters) || decide (c ∈ digits) || decide (c = 95)
def isHexed (p : List Nat) : Bool := decide (p.take 2 = [48, 120])
def allIn (p l : List Nat) : Bool := p.all fun c => decide (c ∈ l)
def isNum (p : List Nat) : Bool :=
  if isHexed p = true then decide (1 ≤ (p.drop 2).length) && decide ((p.drop 2).length ≤ 8) && allIn (p.drop 2) hexes
  else if p.take 1 = [48] then decide (p = [48])
  else if 10 < p.length then false else allIn p digits && decide (NumText.digitsVal p ≤ 4294967295)
def numVal (p : List Nat) : Nat := if isHexed p = true then Hx.hexNum (p.drop 2) else NumText.digitsVal p
def headIn (l p : List Nat) : Bool := match p with
  | [] => false
  | c :: _ => decide (c ∈ l)
/-- a run's or a sign's token: its kind and value -/
def tokOf (p : List Nat) : Option (Str × V) :=
  if headIn letters p = true ∧ p.length ≤ 16 then
    (if S p ∈ words then some (Str.ofString "word", .str (S p)) else some (Str.ofString "name", .str (S p)))
  else if isNum p = true then some (Str.ofString "number", .int (numVal p))
  else if S p ∈ longs ∨ S p ∈ shorts then some (Str.ofString "sign", .str (S p)) else none
/-- how long the run or the sign is that stands at the head -/
def partLen (t : List Nat) : Nat :=
  if headIn (letters ++ digits ++ [95]) t = true then (t.takeWhile inRun).length
  else if S (t.take 2) ∈ longs then 2 else 1
abbrev Tok := Str × V × Nat
def endTok (l : Nat) : Tok := (Str.ofString "end", .str (Str.ofString ""), l)
/-- a token ahead of the others -/
def ahead (kv : Option (Str × V)) (l : Nat) (rest : Except Nat (List Tok)) : Except Nat (List Tok) := match kv with
  | none => .error l
  | some (k, v) => match rest with
    | .error e => .error e
    | .ok ts => .ok ((k, v, l) :: ts)
/-- the tokens of a text that begins in line l; .error: the line of the first part that is none -/
def toks : Nat → Nat → List Nat → Except Nat (List Tok)
  | _, l, [] => .ok [endTok l]
  | 0, l, _ :: _ => .error l
  | f + 1, l, c :: r =>
    if c = 35 then toks f l (r.dropWhile (· ≠ 10))
    else if c = 32 then toks f l r
    else if c = 10 then toks f (l + 1) r
    else ahead (tokOf ((c :: r).take (partLen (c :: r)))) l (toks f l ((c :: r).drop (partLen (c :: r))))
theorem toks_cons (f l c : Nat) (r : List Nat) : toks (f + 1) l (c :: r) = if c = 35 then toks f l (r.dropWhile (· ≠ 10))
    else if c = 32 then toks f l r
    else if c = 10 then toks f (l + 1) r
    else ahead (tokOf ((c :: r).take (partLen (c :: r)))) l (toks f l ((c :: r).drop (partLen (c :: r)))) := by rw [toks]
theorem dropWhile_le {α : Type} (p : α → Bool) : ∀ l : List α, (l.dropWhile p).length ≤ l.length
  | [] => Nat.le_refl _
  | a :: l => by
    rw [List.dropWhile_cons]
    split
    · exact Nat.le_succ_of_le (dropWhile_le p l)
    · exact Nat.le_refl _
theorem inRun_iff (c : Nat) : inRun c = headIn (letters ++ digits ++ [95]) (c :: r) := by
  unfold inRun headIn
  rw [Bool.eq_iff_iff]
  simp [List.mem_append, or_assoc]
theorem partLen_pos (c : Nat) (r : List Nat) : 1 ≤ partLen (c :: r) := by
  unfold partLen
  split
  · rename_i h
    rw [← inRun_iff (r := r)] at h
    rw [List.takeWhile_cons, if_pos h]
    simp
  · split <;> omega
/-- more fuel than signs changes nothing -/
theorem toks_fuel : ∀ (n f : Nat) (l : Nat) (t : List Nat), t.length ≤ n → n ≤ f → toks f l t = toks n l t := by
  intro n
  induction n with
  | zero =>
    intro f l t h1 h2
    cases t with
    | nil => cases f <;> rfl
    | cons c r => simp at h1
  | succ n ih =>
    intro f l t h1 h2
    cases t with
    | nil => cases f <;> rfl
    | cons c r =>
      obtain ⟨g, rfl⟩ : ∃ g, f = g + 1 := ⟨f - 1, by omega⟩
      have hr : r.length ≤ n := by simpa using h1
      have hd : (r.dropWhile (· ≠ 10)).length ≤ n := Nat.le_trans (dropWhile_le _ _) hr
      have hp : ((c :: r).drop (partLen (c :: r))).length ≤ n := by
        have := partLen_pos c r
        rw [List.length_drop, List.length_cons]
        omega
      rw [toks_cons, toks_cons, ih g l _ hd (by omega), ih g l r hr (by omega), ih g (l + 1) r hr (by omega), ih g l _ hp (by omega)]
/-- the tokens of a text that begins in line l -/
def toksT (l : Nat) (t : List Nat) : Except Nat (List Tok) := toks t.length l t
theorem toksT_nil (l : Nat) : toksT l [] = .ok [endTok l] := rfl
theorem toksT_of {f l : Nat} {t : List Nat} (h : t.length ≤ f) : toks f l t = toksT l t := toks_fuel _ f l t (Nat.le_refl _) h
theorem toksT_hash (l : Nat) (r : List Nat) : toksT l (35 :: r) = toksT l (r.dropWhile (· ≠ 10)) := by
  rw [← toksT_of (f := r.length) (dropWhile_le _ _)]
  show toks (r.length + 1) l (35 :: r) = _
  rw [toks_cons, if_pos rfl]
theorem toksT_space (l : Nat) (r : List Nat) : toksT l (32 :: r) = toksT l r := by
  show toks (r.length + 1) l (32 :: r) = _
  rw [toks_cons, if_neg (by decide), if_pos rfl]
  rfl
theorem toksT_nl (l : Nat) (r : List Nat) : toksT l (10 :: r) = toksT (l + 1) r := by
  show toks (r.length + 1) l (10 :: r) = _
  rw [toks_cons, if_neg (by decide), if_neg (by decide), if_pos rfl]
  rfl
theorem toksT_part {l c : Nat} {r : List Nat} (h1 : c ≠ 35) (h2 : c ≠ 32) (h3 : c ≠ 10) :
    toksT l (c :: r) = ahead (tokOf ((c :: r).take (partLen (c :: r)))) l (toksT l ((c :: r).drop (partLen (c :: r)))) := by
  have hp : ((c :: r).drop (partLen (c :: r))).length ≤ r.length := by
    have := partLen_pos c r
    rw [List.length_drop, List.length_cons]
    omega
  show toks (r.length + 1) l (c :: r) = _
  rw [toks_cons, if_neg h1, if_neg h2, if_neg h3, toksT_of hp]
end Tk
set_option Elab.async false
set_option linter.all false
set_option maxRecDepth 100000
set_option maxHeartbeats 4000000
namespace Pk
open PySem PySem.Spec PyProof.Rows L2 SX
/-- a tuple of the written part -/
def TupK (K : PySem.W.Frag) (p : Addr) (xs : List V) : Prop := ∃ (o : Obj) (its : Array Value) (n : Nat), K.lookup p = some o ∧ o.cls = .type "tuple" ∧ o.data = .seq its n ∧ its.size ≤ sizeLine ∧ Vals xs its.toList
theorem TupK.at {K : PySem.W.Frag} {p : Addr} {xs : List V} (h : TupK K p xs) (H : Hp) : SqT K H p xs := .inr h
/-- a def, under its name, that keeps its promise -/
structure Df (P : Program) (w : World) (K : PySem.W.Frag) (mg : Str → Option Value) (base : Heap) (CX : CXT) (k : Nat) (x : Str) (ps : List Str) (sp : Sp) : Prop where
  ex : ∃ (f : Addr) (fd : FuncData), FnOk P w K mg base CX k f fd ps sp ∧ mg x = some (.ref f) ∧ PySem.W.keepIn K (.ref f) = true ∧ Binds K fd ps []
/-- a def of the text as it stands under its name -/
structure AtD (K : PySem.W.Frag) (mg : Str → Option Value) (x : Str) (st : Stmt) (ps : List Str) : Prop where
  ex : ∃ (f : Addr) (fd : FuncData), Fun K x x st f fd ∧ mg x = some (.ref f) ∧ Binds K fd ps []
theorem AtD.df {P : Program} {w : World} {K : PySem.W.Frag} {mg : Str → Option Value} {base : Heap} {CX : CXT} {k : Nat} {x : Str} {st : Stmt} {ps : List Str} {sp : Sp} (A : AtD K mg x st ps)
    (h : ∀ (f : Addr) (fd : FuncData), Fun K x x st f fd → FnOk P w K mg base CX k f fd ps sp) : Df P w K mg base CX k x ps sp := by
  obtain ⟨f, fd, F, g, b⟩ := A.ex
  exact ⟨f, fd, h f fd F, g, F.kp, b⟩
/-! ### values -/
theorem inV_strs {x : Str} : ∀ ws : List Str, inV (.str x) (ws.map V.str) = decide (x ∈ ws)
  | [] => by simp [inV]
  | w :: ws => by
    have ih := inV_strs (x := x) ws
    unfold inV at ih ⊢
    rw [List.map_cons, List.any_cons, ih]
    show ((w == x) || decide (x ∈ ws)) = _
    rw [Bool.eq_iff_iff, Bool.or_eq_true, beq_iff_eq, decide_eq_true_eq, decide_eq_true_eq, List.mem_cons]
    constructor
    · rintro (h | h)
      · exact .inl h.symm
      · exact .inr h
    · rintro (h | h)
      · exact .inl h.symm
      · exact .inr h
theorem inV_int {n : Int} : ∀ ws : List Str, inV (.int n) (ws.map V.str) = false
  | [] => by simp [inV]
  | w :: ws => by
    have ih := inV_int (n := n) ws
    unfold inV at ih ⊢
    rw [List.map_cons, List.any_cons, ih]
    rfl
theorem flat_strs (ws : List Str) : (ws.map V.str).all flatV = true := by
  rw [List.all_eq_true]
  intro x hx
  obtain ⟨y, _, rfl⟩ := List.mem_map.mp hx
  rfl
theorem dcStr {x y : Str} : decide (V.str x = V.str y) = decide (x = y) := by
  by_cases h : x = y
  · rw [h, decide_eq_true rfl, decide_eq_true rfl]
  · rw [decide_eq_false h, decide_eq_false fun z => h (V.str.inj z)]
theorem dcS {a b : List Nat} : decide (S a = S b) = decide (a = b) := by
  by_cases h : a = b
  · rw [h, decide_eq_true rfl, decide_eq_true rfl]
  · rw [decide_eq_false h, decide_eq_false fun z => h (S_inj z)]
/-- s[i:j], s[i:] -/
theorem cut2 (t : List Nat) (i j : Nat) : cutS (S t) (some (i : Int)) (some (j : Int)) = S ((t.drop i).take (j - i)) := by
  have hl : (S t).length = t.length := S_len t
  unfold cutS
  rw [HT.sIx_nat, HT.sIx_nat, hl]
  show S _ = S _
  congr 1
  show ((t.drop (min i t.length)).take (min j t.length - min i t.length)) = _
  by_cases hi : i ≤ t.length
  · rw [Nat.min_eq_left hi]
    by_cases hj : j ≤ t.length
    · rw [Nat.min_eq_left hj]
    · have e : min j t.length = t.length := by omega
      rw [e, List.take_of_length_le (by rw [List.length_drop]; exact Nat.le_refl _), List.take_of_length_le (by rw [List.length_drop]; omega)]
  · have e : min i t.length = t.length := by omega
    rw [e, List.drop_of_length_le (Nat.le_refl _), List.drop_of_length_le (show t.length ≤ i by omega), List.take_nil, List.take_nil]
theorem cut1f (t : List Nat) (i : Nat) : cutS (S t) (some (i : Int)) none = S (t.drop i) := by
  have hl : (S t).length = t.length := S_len t
  unfold cutS
  rw [HT.sIx_nat, HT.sIx_none, hl]
  show S _ = S _
  congr 1
  show ((t.drop (min i t.length)).take (t.length - min i t.length)) = _
  by_cases hi : i ≤ t.length
  · rw [Nat.min_eq_left hi, List.take_of_length_le (by rw [List.length_drop]; exact Nat.le_refl _)]
  · have e : min i t.length = t.length := by omega
    rw [e, List.drop_of_length_le (Nat.le_refl _), List.drop_of_length_le (show t.length ≤ i by omega), List.take_nil]
theorem starts2 (p q : List Nat) : Txt.startswith (S p) (S q) = decide (p.take q.length = q) := by
  unfold Txt.startswith
  rw [S_len, S_len, Nat.zero_add]
  have e : Builtin.Str.subAt (S p) (S q) 0 = decide (p.take q.length = q) := by
    unfold Builtin.Str.subAt
    rw [S_len, Nat.zero_add]
    show (p.toArray.extract 0 q.length == q.toArray) = _
    rw [Bool.eq_iff_iff, beq_iff_eq, decide_eq_true_eq]
    constructor
    · intro h
      have h2 := congrArg Array.toList h
      simpa using h2
    · intro h
      rw [List.extract_toArray]
      simp [h]
  rw [e]
  by_cases h : p.take q.length = q
  · have : q.length ≤ p.length := by
      have := congrArg List.length h
      rw [List.length_take] at this
      omega
    rw [decide_eq_true h, decide_eq_true this]
    rfl
  · rw [decide_eq_false h, Bool.and_false]
theorem takeWhile_self {α : Type} {p : α → Bool} : ∀ {l : List α}, (∀ x ∈ l, p x = true) → l.takeWhile p = l
  | [], _ => rfl
  | a :: l, h => by
    rw [List.takeWhile_cons, if_pos (h a List.mem_cons_self), takeWhile_self fun x hx => h x (List.mem_cons_of_mem _ hx)]
/-- where a sign is found from i on -/
theorem find_sign {t : List Nat} {i : Nat} (c : Nat) (hi : i ≤ t.length) :
    (Txt.find3 (S t) (S [c]) (i : Int) = -1 ∧ (t.drop i).takeWhile (· ≠ c) = t.drop i) ∨
    Txt.find3 (S t) (S [c]) (i : Int) = ((i + ((t.drop i).takeWhile (· ≠ c)).length : Nat) : Int) ∧ i + ((t.drop i).takeWhile (· ≠ c)).length < t.length := by
  have fi : fromIndex (S t).length (i : Int) = i := by
    unfold fromIndex
    rw [if_neg (by omega)]
    omega
  have gd : ∀ v, v < t.length → (S t).cps.getD v 0 = t[v]?.getD 0 := fun v hv => by
    simp [S, Array.getD, hv]
  rcases StrLaws.find3_spec (S t) c (i : Int) with ⟨h1, h2⟩ | ⟨k, h1, h2, h3, h4, h5⟩
  · refine .inl ⟨h1, ?_⟩
    refine takeWhile_self fun x hx => ?_
    obtain ⟨j, hj, rfl⟩ := List.getElem_of_mem hx
    rw [List.length_drop] at hj
    have := h2 (i + j) (by rw [fi]; omega) (by rw [S_len]; omega)
    rw [gd _ (by omega), List.getElem?_eq_getElem (by omega)] at this
    rw [List.getElem_drop]
    exact decide_eq_true this
  · rw [fi] at h2
    rw [S_len] at h3
    have key : ((t.drop i).takeWhile (· ≠ c)).length = k - i := by
      have hk : t.drop i = (t.drop i).take (k - i) ++ t.drop k := by
        have e := (List.take_append_drop (k - i) (t.drop i)).symm
        rw [List.drop_drop, show i + (k - i) = k by omega] at e
        exact e
      rw [hk, List.takeWhile_append_of_pos]
      · rw [List.drop_eq_getElem_cons h3, List.takeWhile_cons]
        have hc : t[k] = c := by
          have := h4
          rw [gd _ h3, List.getElem?_eq_getElem h3] at this
          exact this
        rw [if_neg (by simp [hc]), List.append_nil, List.length_take, List.length_drop]
        omega
      · intro x hx
        obtain ⟨j, hj, rfl⟩ := List.getElem_of_mem hx
        rw [List.length_take, List.length_drop] at hj
        have := h5 (i + j) (by rw [fi]; omega) (by omega)
        rw [gd _ (by omega), List.getElem?_eq_getElem (by omega)] at this
        rw [List.getElem_take, List.getElem_drop]
        exact decide_eq_true this
    refine .inr ⟨?_, ?_⟩
    · rw [h1, key, show i + (k - i) = k by omega]
    · rw [key]
      omega
end Pk
set_option Elab.async false
set_option linter.all false
set_option maxRecDepth 100000
set_option maxHeartbeats 4000000
/-! data in a part G of the heap that stands; no row -/
namespace Pk
open PySem PySem.Spec PyProof.Rows L2
theorem rd_sub {G H : Hp} {a : Addr} {o : HO} (k : Same G H) (h : L2.Rd G a o) : L2.Rd H a o := by
  rcases h with h | ⟨u, h⟩
  · exact .inl (k _ _ h)
  · exact .inr ⟨u, k _ _ h⟩
theorem sqL_sub {K : PySem.W.Frag} {G H : Hp} {a : Addr} {xs : List V} (k : Same G H) (h : SqL K G a xs) : SqL K H a xs := by
  rcases h with h | h
  · exact .inl (rd_sub k h)
  · exact .inr h
theorem sqT_sub {K : PySem.W.Frag} {G H : Hp} {a : Addr} {xs : List V} (k : Same G H) (h : SqT K G a xs) : SqT K H a xs := by
  rcases h with h | h
  · exact .inl (rd_sub k h)
  · exact .inr h
mutual
theorem dp_sub {K : PySem.W.Frag} {G H : Hp} (k : Same G H) : ∀ {d : PyData} {v : V}, Dp K G v d → Dp K H v d
  | _, _, .non => .non
  | _, _, .bl b => .bl b
  | _, _, .int i => .int i
  | _, _, .str x => .str x
  | _, _, .lst h r => .lst (sqL_sub k h) (dpAll_sub k r)
  | _, _, .tup h r => .tup (sqT_sub k h) (dpAll_sub k r)
theorem dpAll_sub {K : PySem.W.Frag} {G H : Hp} (k : Same G H) : ∀ {ds : List PyData} {vs : List V}, DpAll K G vs ds → DpAll K H vs ds
  | _, _, .nil => .nil
  | _, _, .cons h r => .cons (dp_sub k h) (dpAll_sub k r)
end
theorem dpAll_len {K : PySem.W.Frag} {G : Hp} : ∀ {vs : List V} {ds : List PyData}, DpAll K G vs ds → vs.length = ds.length
  | _, _, .nil => rfl
  | _, _, .cons _ r => congrArg (· + 1) (dpAll_len r)
theorem dpAll_at {K : PySem.W.Frag} {G : Hp} : ∀ {vs : List V} {ds : List PyData} {i : Nat} {d : PyData}, DpAll K G vs ds → ds[i]? = some d → ∃ v, vs[i]? = some v ∧ Dp K G v d
  | _, _, _, _, .nil, e => by cases e
  | _, _, 0, _, .cons h _, e => by
    cases e
    exact ⟨_, rfl, h⟩
  | _, _, i + 1, _, .cons _ r, e => dpAll_at (i := i) r e
theorem dpAll_val {K : PySem.W.Frag} {G : Hp} : ∀ {vs : List V} {ds : List PyData} {i : Nat} {v : V}, DpAll K G vs ds → vs[i]? = some v → ∃ d, ds[i]? = some d ∧ Dp K G v d
  | _, _, _, _, .nil, e => by cases e
  | _, _, 0, _, .cons h _, e => by
    cases e
    exact ⟨_, rfl, h⟩
  | _, _, i + 1, _, .cons _ r, e => dpAll_val (i := i) r e
theorem dpAll_app {K : PySem.W.Frag} {G : Hp} : ∀ {vs ws : List V} {ds es : List PyData}, DpAll K G vs ds → DpAll K G ws es → DpAll K G (vs ++ ws) (ds ++ es)
  | _, _, _, _, .nil, h => h
  | _, _, _, _, .cons a r, h => .cons a (dpAll_app r h)
theorem dp_int {K : PySem.W.Frag} {G : Hp} {v : V} {i : Int} (h : Dp K G v (.int i)) : v = .int i := by
  cases h
  rfl
theorem dp_str {K : PySem.W.Frag} {G : Hp} {v : V} {x : Str} (h : Dp K G v (.str x)) : v = .str x := by
  cases h
  rfl
theorem dp_non {K : PySem.W.Frag} {G : Hp} {v : V} (h : Dp K G v .none) : v = .non := by
  cases h
  rfl
theorem dp_tup {K : PySem.W.Frag} {G : Hp} {v : V} {ds : List PyData} (h : Dp K G v (.tuple ds)) : ∃ p xs, v = .ref p ∧ SqT K G p xs ∧ DpAll K G xs ds := by
  cases h with
  | tup a b => exact ⟨_, _, rfl, a, b⟩
theorem dp_lst {K : PySem.W.Frag} {G : Hp} {v : V} {ds : List PyData} (h : Dp K G v (.list ds)) : ∃ p xs, v = .ref p ∧ SqL K G p xs ∧ DpAll K G xs ds := by
  cases h with
  | lst a b => exact ⟨_, _, rfl, a, b⟩
theorem dpAll_strs {K : PySem.W.Frag} {G : Hp} : ∀ {vs : List V} {ns : List Str}, DpAll K G vs (ns.map .str) → vs = ns.map V.str
  | _, [], .nil => rfl
  | _, n :: ns, .cons a r => by rw [dp_str a, dpAll_strs r]; rfl
theorem dpAll_of_ints {K : PySem.W.Frag} {G : Hp} : ∀ (ns : List Int), DpAll K G (ns.map V.int) (ns.map .int)
  | [] => .nil
  | n :: ns => .cons (.int n) (dpAll_of_ints ns)
theorem dpAll_nil {K : PySem.W.Frag} {G : Hp} {vs : List V} (h : DpAll K G vs []) : vs = [] := by
  cases h
  rfl
theorem dpAll_cons {K : PySem.W.Frag} {G : Hp} {vs : List V} {d : PyData} {ds : List PyData} (h : DpAll K G vs (d :: ds)) : ∃ v r, vs = v :: r ∧ Dp K G v d ∧ DpAll K G r ds := by
  cases h with
  | cons a b => exact ⟨_, _, rfl, a, b⟩
/-- G with one more object that stands in H -/
theorem same_upd {G H : Hp} {p : Addr} {o : HO} (k : Same G H) (e : H p = some o) : Same (upd G p o) H := fun b u h => by
  by_cases hb : b = p
  · rw [hb, upd_same] at h
    rw [hb, e, ← h]
  · rw [upd_ne hb] at h
    exact k _ _ h
theorem same_new2 {G : Hp} {p : Addr} {o : HO} (h : G p = none) : Same G (upd G p o) := fun b u e => by
  rw [upd_ne (ne_of_none e h)]
  exact e
/-- what stands in a part that the list at p is not in stands when p changes -/
theorem same_set {G H : Hp} {p : Addr} {o : HO} (k : Same G H) (h : G p = none) : Same G (upd H p o) := fun b u e => by
  rw [upd_ne (ne_of_none e h)]
  exact k _ _ e
/-- the new part -/
structure Gr (G G' H : Hp) : Prop where
  sub : Same G G'
  new : ∀ b, G' b ≠ none → G b ≠ none ∨ H b = none
theorem Gr.refl (G H : Hp) : Gr G G H := ⟨Same.refl _, fun _ h => .inl h⟩
theorem Gr.free {G G' H : Hp} {p : Addr} (g : Gr G G' H) (h1 : G p = none) (h2 : H p ≠ none) : G' p = none := by
  cases e : G' p with
  | none => rfl
  | some o =>
    rcases g.new p (by rw [e]; exact fun z => nomatch z) with h | h
    · exact absurd h1 h
    · exact absurd h h2
theorem Gr.trans {G G1 G2 H H1 : Hp} (a : Gr G G1 H) (b : Gr G1 G2 H1) (k : ∀ b, H1 b = none → H b = none) : Gr G G2 H := ⟨a.sub.trans b.sub, fun p h => by
  rcases b.new p h with h | h
  · exact a.new p h
  · exact .inr (k _ h)⟩
theorem Gr.put {G G1 H : Hp} {p : Addr} {o : HO} (a : Gr G G1 H) (h : H p = none) (h1 : G1 p = none) : Gr G (upd G1 p o) H := ⟨a.sub.trans (same_new2 h1), fun b e => by
  by_cases hb : b = p
  · rw [hb]
    exact .inr h
  · rw [upd_ne hb] at e
    exact a.new b e⟩
theorem same_none {H H' : Hp} (k : Same H H') : ∀ b, H' b = none → H b = none := fun b e => k.free e
/-- program[i] -/
def spAcc (K : PySem.W.Frag) (i : Nat) : Sp := fun vs H Q _ => ∃ (v : V) (G : Hp) (ds : List PyData) (d : PyData), vs = [v] ∧ Same G H ∧ Dp K G v (.tuple ds) ∧ ds[i]? = some d ∧ ∀ x, Dp K G x d → Q x H
/-- the name of a part -/
def nm2 (e : List PyData) : Str := match e[1]? with
  | some (PyData.str n) => n
  | _ => Str.empty
theorem nm2_of {e : List PyData} {n : Str} (h : e[1]? = some (.str n)) : nm2 e = n := by
  unfold nm2
  rw [h]
/-- [part[1] for part in parts] -/
def spNames (K : PySem.W.Frag) : Sp := fun vs H Q _ => ∃ (v : V) (G : Hp) (es : List (List PyData)) (ns : List Str), vs = [v] ∧ Same G H ∧ Dp K G v (.list (es.map .tuple)) ∧ es.length ≤ 1000 ∧ (∀ e ∈ es, ∃ n, e[1]? = some (.str n)) ∧ ns = es.map nm2 ∧
  ∀ H' p, Same H H' → H p = none → H' p = some (.lst (ns.map V.str)) → Q (.ref p) H'
/-- the first part with a name, which there is -/
def spPart (K : PySem.W.Frag) : Sp := fun vs H Q _ => ∃ (v : V) (G : Hp) (es : List (List PyData)) (n : Str) (i : Nat) (e : List PyData), vs = [v, .str n] ∧ Same G H ∧ Dp K G v (.list (es.map .tuple)) ∧ (∀ e ∈ es, ∃ n, e[1]? = some (.str n)) ∧
  es[i]? = some e ∧ e[1]? = some (.str n) ∧ (∀ j e', j < i → es[j]? = some e' → e'[1]? ≠ some (.str n)) ∧ ∀ x, Dp K G x (.tuple e) → Q x H
end Pk
set_option Elab.async false
set_option linter.all false
set_option maxRecDepth 100000
set_option maxHeartbeats 4000000
/-! written data: displays of displays, in one step; no row -/
namespace Pk
open PySem PySem.Spec PyProof.Rows L2
theorem StAt.neS {H : Hp} {s c p : Addr} (h : StAt H s c) (hp : H p = none) : p ≠ s ∧ p ≠ c := by
  obtain ⟨cells, seed, h1, h2, _⟩ := h
  exact ⟨Ne.symm (ne_of_none h1 hp), Ne.symm (ne_of_none h2 hp)⟩
/-- a part G that stands, beside the drawing state -/
structure Sg (G H : Hp) (s c : Addr) : Prop where
  sub : Same G H
  st : StAt H s c
  gs : G s = none
  gc : G c = none
theorem Sg.new {G H : Hp} {s c p : Addr} {o : HO} (C : Sg G H s c) (hp : H p = none) : Sg (upd G p o) (upd H p o) s c :=
  ⟨fun b u h => by
    by_cases hb : b = p
    · rw [hb, upd_same] at h
      rw [hb, upd_same]
      exact h
    · rw [upd_ne hb] at h
      rw [upd_ne hb]
      exact C.sub _ _ h, C.st.new hp, by rw [upd_ne (Ne.symm (C.st.neS hp).1)]; exact C.gs, by rw [upd_ne (Ne.symm (C.st.neS hp).2)]; exact C.gc⟩
theorem same_kp {G H H' : Hp} {s c : Addr} (h : Same G H) (gs : G s = none) (gc : G c = none) (k : Kp s c H H') : Same G H' := fun b o e => k b o (ne_of_none e gs) (ne_of_none e gc) (h b o e)
theorem Sg.kp {G H H' : Hp} {s c : Addr} (C : Sg G H s c) (k : Kp s c H H') (st : StAt H' s c) : Sg G H' s c := ⟨same_kp C.sub C.gs C.gc k, st, C.gs, C.gc⟩
theorem Sg.same {G H H' : Hp} {s c : Addr} (C : Sg G H s c) (k : Same H H') : Sg G H' s c := ⟨C.sub.trans k, C.st.same k, C.gs, C.gc⟩
theorem Sg.set {G H : Hp} {s c p : Addr} {o : HO} (C : Sg G H s c) (h : G p = none) (n : p ≠ s ∧ p ≠ c) : Sg G (upd H p o) s c := ⟨same_set C.sub h, C.st.upd n.1 n.2, C.gs, C.gc⟩
theorem Sg.frz {G H : Hp} {s c p : Addr} {o : HO} (C : Sg G H s c) (h : H p = some o) (n : p ≠ s ∧ p ≠ c) : Sg (upd G p o) H s c := ⟨same_upd C.sub h, C.st, by rw [upd_ne (Ne.symm n.1)]; exact C.gs, by rw [upd_ne (Ne.symm n.2)]; exact C.gc⟩
/-- te gives the data d from the part G0 -/
def DE (K : PySem.W.Frag) (σ : L2.St) (G0 : Hp) (te : TE) (d : PyData) : Prop := ∀ (G H : Hp) (s c : Addr) (Q : VK), Same G0 G → Sg G H s c → (∀ v G' H', Sg G' H' s c → Gr G G' H → Same H H' → Dp K G' v d → Q v H') → te σ H Q
def DEs (K : PySem.W.Frag) (σ : L2.St) (G0 : Hp) (ta : TA) (ds : List PyData) : Prop := ∀ (G H : Hp) (s c : Addr) (Q : List V → Hp → Prop), Same G0 G → Sg G H s c → (∀ vs G' H', Sg G' H' s c → Gr G G' H → Same H H' → DpAll K G' vs ds → Q vs H') → ta σ H Q
section
variable {K : PySem.W.Frag} {σ : L2.St} {G0 : Hp}
theorem DE.int (i : Int) : DE K σ G0 (tC (.int i)) (.int i) := fun G H s c Q _ C q => q _ G H C (Gr.refl _ _) (Same.refl _) (.int i)
theorem DE.str (x : Str) : DE K σ G0 (tC (.str x)) (.str x) := fun G H s c Q _ C q => q _ G H C (Gr.refl _ _) (Same.refl _) (.str x)
theorem DE.non : DE K σ G0 (tC .non) .none := fun G H s c Q _ C q => q _ G H C (Gr.refl _ _) (Same.refl _) .non
theorem DE.var {i : Nat} {v : V} {d : PyData} (h : σ[i]? = some (some v)) (hd : Dp K G0 v d) : DE K σ G0 (tVar i) d := fun G H s c Q g C q => ⟨v, h, q _ G H C (Gr.refl _ _) (Same.refl _) (dp_sub g hd)⟩
theorem DEs.nil : DEs K σ G0 tNil [] := fun G H s c Q _ C q => q _ G H C (Gr.refl _ _) (Same.refl _) .nil
theorem DEs.cons {te : TE} {ta : TA} {d : PyData} {ds : List PyData} (h : DE K σ G0 te d) (r : DEs K σ G0 ta ds) : DEs K σ G0 (tCons te ta) (d :: ds) := fun G H s c Q g C q =>
  h G H s c _ g C fun v G1 H1 C1 s1 t1 hd => r G1 H1 s c _ (g.trans s1.sub) C1 fun vs G2 H2 C2 s2 t2 hds => q _ G2 H2 C2 (s1.trans s2 (same_none t1)) (t1.trans t2) (.cons (dp_sub s2.sub hd) hds)
theorem DE.lst {ta : TA} {ds : List PyData} (h : DEs K σ G0 ta ds) (hl : ds.length ≤ 1000) : DE K σ G0 (tLst ta) (.list ds) := fun G H s c Q g C q =>
  h G H s c _ g C fun vs G1 H1 C1 s1 t1 hds => ⟨Nat.le_of_lt (small1000 (by rw [dpAll_len hds]; exact hl)), fun p hp => q _ _ _ (C1.new hp) (s1.put (t1.free hp) (C1.sub.free hp)) (t1.trans (same_new hp)) (.lst (SqL.of upd_same) (dpAll_sub (same_new2 (C1.sub.free hp)) hds))⟩
theorem DE.tup {ta : TA} {ds : List PyData} (h : DEs K σ G0 ta ds) (hl : ds.length ≤ 1000) : DE K σ G0 (tTup ta) (.tuple ds) := fun G H s c Q g C q =>
  h G H s c _ g C fun vs G1 H1 C1 s1 t1 hds => ⟨Nat.le_of_lt (small1000 (by rw [dpAll_len hds]; exact hl)), fun p hp => q _ _ _ (C1.new hp) (s1.put (t1.free hp) (C1.sub.free hp)) (t1.trans (same_new hp)) (.tup (SqT.of upd_same) (dpAll_sub (same_new2 (C1.sub.free hp)) hds))⟩
/-- x = DATA; rest -/
theorem set_rd {te : TE} {d : PyData} {g : TG} {rest : TS} {D : Ends} {G H : Hp} {s c : Addr} (h : DE K σ G te d) (C : Sg G H s c) (q : ∀ v G' H', Sg G' H' s c → Gr G G' H → Same H H' → Dp K G' v d → g v σ H' (fun σ2 H2 => rest D σ2 H2)) : tSeq (tAsg te g) rest D σ H := by
  unfold tSeq tAsg
  exact h G H s c (fun v H1 => g v σ H1 fun σ2 H2 => rest D σ2 H2) (Same.refl _) C q
theorem setlst_rd {ta : TA} {ds : List PyData} {g : TG} {rest : TS} {D : Ends} {G H : Hp} {s c : Addr} (h : DEs K σ G ta ds) (C : Sg G H s c) (hl : ds.length ≤ 1000)
    (q : ∀ p vs G' H', Sg G' H' s c → Gr G G' H → Same H H' → G' p = some (.lst vs) → DpAll K G' vs ds → g (.ref p) σ H' (fun σ2 H2 => rest D σ2 H2)) : tSeq (tAsg (tLst ta) g) rest D σ H := by
  unfold tSeq tAsg
  exact h G H s c _ (Same.refl _) C fun vs G1 H1 C1 s1 t1 hds => ⟨Nat.le_of_lt (small1000 (by rw [dpAll_len hds]; exact hl)), fun p hp => q _ _ _ _ (C1.new hp) (s1.put (t1.free hp) (C1.sub.free hp)) (t1.trans (same_new hp)) upd_same (dpAll_sub (same_new2 (C1.sub.free hp)) hds)⟩
/-- x = []; rest -/
theorem setnil_rd {g : TG} {rest : TS} {D : Ends} {H : Hp} (q : ∀ p H', H p = none → Same H H' → H' p = some (.lst []) → g (.ref p) σ H' (fun σ2 H2 => rest D σ2 H2)) : tSeq (tAsg (tLst tNil) g) rest D σ H := by
  unfold tSeq tAsg
  exact ⟨Nat.zero_le _, fun p hp => q p _ hp (same_new hp) upd_same⟩
/-- x = e; rest, the rest by its name -/
theorem setany_rd {te : TE} {g : TG} {rest : TS} {D : Ends} {H : Hp} (q : te σ H fun x H1 => g x σ H1 fun σ2 H2 => rest D σ2 H2) : tSeq (tAsg te g) rest D σ H := q
/-- return DATA -/
theorem ret_rd {te : TE} {d : PyData} {D : Ends} {G H : Hp} {s c : Addr} (h : DE K σ G te d) (C : Sg G H s c) (q : ∀ v G' H', Sg G' H' s c → Gr G G' H → Same H H' → Dp K G' v d → D.rt v H') : tRet te D σ H := by
  unfold tRet
  exact h G H s c D.rt (Same.refl _) C q
theorem setpick_rd {ta : TA} {ds : List PyData} {g : TG} {rest : TS} {D : Ends} {G H : Hp} {s c : Addr} (h0 : σ[0]? = some (some (.ref s))) (h : DEs K σ G ta ds) (C : Sg G H s c) (hl : 0 < ds.length) (hl2 : ds.length ≤ 1000)
    (q : ∀ (x : V) (G' H' : Hp) (i : Nat) (d : PyData), Sg G' H' s c → Gr G G' H → Kp s c H H' → ds[i]? = some d → Dp K G' x d → g x σ H' fun σ2 H2 => rest D σ2 H2) :
    tSeq (tAsg (tCall (spPick K) [] E0 (tCons (tVar 0) (tCons (tLst ta) tNil))) g) rest D σ H := by
  refine ⟨_, h0, ?_⟩
  refine h G H s c _ (Same.refl _) C fun vs G1 H1 C1 s1 t1 hds => ?_
  have hlen := dpAll_len hds
  refine ⟨Nat.le_of_lt (small1000 (by omega)), fun p hp => ?_⟩
  have n1 := C1.st.neS hp
  refine ⟨s, c, p, vs, rfl, C1.st.new hp, SqL.of upd_same, n1.1, n1.2, by omega, by omega, fun H2 i x hx st2 kp2 => ?_⟩
  obtain ⟨d, ed, hd2⟩ := dpAll_val hds hx
  exact q x G1 H2 i d ((C1.same (same_new hp)).kp kp2 st2) s1 (((Kp.same t1).trans (Kp.new hp)).trans kp2) ed hd2
end
/-- items of an entry or of a list of ints by their values -/
theorem pick_ints {ns : List Int} {i : Nat} {x : V} (h : (ns.map V.int)[i]? = some x) : ∃ n, n ∈ ns ∧ x = .int n := by
  rw [List.getElem?_map] at h
  cases e : ns[i]? with
  | none => rw [e] at h; cases h
  | some n => rw [e] at h; exact ⟨n, List.mem_of_getElem? e, (Option.some.inj h).symm⟩
end Pk
set_option Elab.async false
set_option linter.all false
set_option maxRecDepth 100000
set_option maxHeartbeats 4000000
namespace Pk
open PySem PySem.Spec PyProof.Rows L2
def topS (i : Nat) : Stmt := PySem.Challenge.pw_wholepackets_k31_queues_with_gaps.main.body.getD i (.Pass ⟨0, 0, 0, 0⟩)
abbrev sState : Stmt := topS 3
abbrev sDraw : Stmt := topS 4
abbrev sPick : Stmt := topS 5
theorem scState : FnScope ["script", "seed", "cell"] ["script"] (defScope sState) := ⟨rfl, rfl, rfl, by decide +kernel, rfl, by decide +kernel, by decide +kernel⟩
theorem scDraw : FnScope ["state", "many", "cells", "value", "mixed"] ["state", "many"] (defScope sDraw) := ⟨rfl, rfl, rfl, by decide +kernel, rfl, by decide +kernel, by decide +kernel⟩
theorem scPick : FnScope ["state", "row"] ["state", "row"] (defScope sPick) := ⟨rfl, rfl, rfl, by decide +kernel, rfl, by decide +kernel, by decide +kernel⟩
section
variable {P : Program} {w : World} {K : PySem.W.Frag} {mg : Str → Option Value} {base : Heap}
theorem map_at {ns : List Int} {i : Nat} {y : V} (h : (ns.map V.int)[i]? = some y) : ∃ z, ns[i]? = some z ∧ y = V.int z := by
  rw [List.getElem?_map] at h
  cases e : ns[i]? with
  | none => rw [e] at h; cases h
  | some z => rw [e] at h; exact ⟨z, rfl, (Option.some.inj h).symm⟩
def absI (z : Int) : Int := if z < 0 then -z else z
theorem ok_state {f : Addr} {fd : FuncData} {k : Nat} (F : Fun K "_law_state" "_law_state" sState f fd) (T : Blt mg) : FnOk P w K mg base CX0 (k + 1) f fd ["script"] (spState K) := by
  refine F.ok scState (fun vs H Q E h => ?_) (fun cdv A outer s H vs Q E hr h => ?_)
  · obtain ⟨a, ns, rfl, _⟩ := h
    rfl
  · obtain ⟨a, ns, rfl, hS, hn, q⟩ := h
    refine ⟨_, pss_cons (ps_set (i := 1) scState.nd rfl (.inl rfl) pe_int)
      (pss_cons (ps_for PassesOwn.never rfl (pi_list (pv 0)) (pg_name (i := 2) scState.nd rfl (.inl rfl))
        (pss_one (ps_set (i := 1) scState.nd rfl (.inl rfl) (pe_op op_mod (pe_callTy call_int1 (by rfl) T.zInt (by decide +kernel) (pa_cons (pe_op op_add (pe_op op_mul (pv 1) pe_int) (pv 2)) pa_nil)) pe_int))))
      (pss_one (ps_ret (pe_lst (pa_cons (pe_lc (own := [("cell", 2)]) (g := gName 2) (tt := tYes) rfl scState.nd (pi_list (pv 0)) (blkOk_by (N := ["script", "seed", "cell"]) (sc := defScope sState) (by decide +kernel))
        (fun _ _ _ _ _ => pg_name (i := 2) scState.nd rfl (Or.inl rfl)) (fun _ _ _ _ _ => pts_nil) (fun _ _ _ _ _ => pe_callB call_abs (by rfl) T.zAbs (by decide +kernel) (pa_cons (pv 2) pa_nil)))
        (pa_cons (pe_op op_add (pv 1) pe_int) pa_nil)))))), ?_⟩
    refine ⟨_, rfl, a, rfl, ⟨_, hS⟩, for_list (K := K) (a := a) (xs := ns.map V.int) (fun i σ H' => ∃ (sd : Int) (v : Option V), σ = [some (.ref a), some (.int sd), v] ∧ H' = H ∧ 0 ≤ sd ∧ sd < 1000003)
      ⟨7, none, rfl, rfl, by decide, by decide⟩ (fun i σ H' _ ⟨_, _, _, e, _⟩ => by subst e; exact hS) ?_ ?_⟩
    · rintro i y σ H' hi ⟨sd, v, rfl, rfl, h0, h1⟩
      obtain ⟨z, _, rfl⟩ := map_at hi
      refine ⟨_, rfl, _, _, rfl, rfl, .inl ⟨by omega, by omega⟩, _, rfl, _, _, rfl, rfl, .inl ⟨_, rfl, _, _, rfl, rfl, (by show (0 : Int) < 1000003; decide), ?_⟩⟩
      exact ⟨_, _, rfl, rfl, Int.emod_nonneg _ (by decide), Int.emod_lt_of_pos _ (by decide)⟩
    · rintro σ H' ⟨sd, v, rfl, rfl, h0, h1⟩
      refine ⟨_, rfl, a, rfl, ⟨_, hS⟩, fun D hD => lc_list (K := K) (a := a) (xs := ns.map V.int) (fun i H2 => Same H' H2 ∧ H2 D = some (.lst ((ns.take i).map fun z => V.int (absI z))))
        ⟨same_new hD, upd_same⟩ (fun i H2 _ h => h.1.seq hS) ?_ ?_⟩
      · rintro i y H2 hi ⟨k1, k2⟩
        obtain ⟨z, hz, rfl⟩ := map_at hi
        refine ⟨rfl, ⟨_, rfl, _, rfl, _, k2, ?_, fun b o e => ?_, ?_⟩⟩
        · rw [List.length_map, List.length_take]
          exact Nat.lt_of_le_of_lt (Nat.min_le_right _ _) (small1000 (by omega))
        · rw [upd_ne (ne_of_none e hD)]
          exact k1 b o e
        · rw [upd_same, List.take_add_one, hz, List.map_append]
          rfl
      · rintro H2 ⟨k1, k2⟩
        refine ⟨_, rfl, _, _, rfl, rfl, (by show 2 ≤ sizeLine; decide), fun p hp => ?_⟩
        have e : (ns.map V.int).length = ns.length := List.length_map ..
        rw [e, List.take_length] at k2
        have npD : D ≠ p := ne_of_none k2 hp
        refine q _ p D (k1.trans (same_new hp)) (k1.free hp) hD ⟨ns.map absI, sd + 1, upd_same, ?_, ?_, by omega, by omega⟩
        · rw [upd_ne npD, k2, List.map_map]
          rfl
        · intro z hz
          obtain ⟨y, _, rfl⟩ := List.mem_map.mp hz
          unfold absI
          split <;> omega
theorem ok_draw {f : Addr} {fd : FuncData} {k : Nat} (F : Fun K "_law_draw" "_law_draw" sDraw f fd) (T : Blt mg) : FnOk P w K mg base CX0 (k + 1) f fd ["state", "many"] spDraw := by
  refine F.ok scDraw (fun vs H Q E h => ?_) (fun cdv A outer s H vs Q E hr h => ?_)
  · obtain ⟨s, c, many, rfl, _⟩ := h
    rfl
  · obtain ⟨s, c, many, rfl, hS, hm0, hm1, q⟩ := h
    refine ⟨_, pss_cons (ps_set (i := 2) scDraw.nd rfl (.inl rfl) (pe_ix ix_list (pv 0) pe_int (fun _ _ => rfl)))
      (pss_cons (ps_while PassesOwn.never (PW.pt (pw_and (pt_cmpR op_gt (pe_callB call_len_seq (by rfl) T.zLen PySem.boot_len (pa_cons (pv 2) pa_nil)) pe_int (nomark _)) (pw_and1 (pt_cmpR op_eq (pe_ix ix_list (pv 2) pe_int (fun _ _ => rfl)) pe_int (nomark _)))))
        (pss_one (ps_expr (pe_bm PySem.F.plainAttrs_list PySem.F.slot_list_pop PySem.F.type_list_pop mt_popAt (pv 2) (pa_cons pe_int pa_nil)))))
      (pss_cons (ps_if (pt_cmpR op_gt (pe_callB call_len_seq (by rfl) T.zLen PySem.boot_len (pa_cons (pv 2) pa_nil)) pe_int (nomark _))
        (pss_cons (ps_set (i := 3) scDraw.nd rfl (.inl rfl) (pe_ix ix_list (pv 2) pe_int (fun _ _ => rfl)))
        (pss_cons (ps_asg (pe_op op_fdivW (pv 3) (pv 1)) (pg_sub (pv 2) pe_int set_list))
        (pss_one (ps_ret (pe_op op_mod (pe_callTy call_int1 (by rfl) T.zInt (by decide +kernel) (pa_cons (pv 3) pa_nil)) (pv 1)))))) pss_nil)
      (pss_cons (ps_set (i := 4) scDraw.nd rfl (.inl rfl) (pe_op op_mod (pe_callTy call_int1 (by rfl) T.zInt (by decide +kernel) (pa_cons (pe_op op_add (pe_op op_mul (pe_ix ix_list (pv 0) pe_int (fun _ _ => rfl)) pe_int) pe_int) pa_nil)) pe_int))
      (pss_cons (ps_asg (pv 4) (pg_sub (pv 0) pe_int set_list))
      (pss_one (ps_ret (pe_op op_mod (pe_callTy call_int1 (by rfl) T.zInt (by decide +kernel) (pa_cons (pe_op op_fdivW (pv 4) pe_int) pa_nil)) (pv 1)))))))), ?_⟩
    have hSC := hS
    have hne := hS.ne
    obtain ⟨cells, seed, h1, h2, h3, h4, h5⟩ := hS
    refine ⟨.ref s, rfl, s, _, _, _, rfl, rfl, SqL.of h1, atI_nat (j := 0) rfl, ?_⟩
    -- the while: cells lose their zeros
    refine ⟨fun m σ H' => ∃ cs : List Int, m = cs.length ∧ σ = [some (.ref s), some (.int many), some (.ref c), none, none] ∧ H' s = some (.lst [.ref c, .int seed]) ∧ H' c = some (.lst (cs.map V.int)) ∧ (∀ z ∈ cs, 0 ≤ z) ∧ Kp s c H H',
      ⟨cells.length, cells, rfl, rfl, h1, h2, h3, Kp.refl _ _ _⟩, ?_⟩
    rintro m σ H' ⟨cs, rfl, rfl, g1, g2, g3, g4⟩
    refine ⟨.ref c, rfl, c, _, rfl, .inl (SqL.of g2), _, _, rfl, rfl, _, rfl, ?_⟩
    cases cs with
    | nil =>
      refine iteDF (by decide) (iteF ?_)
      -- no cell is left: mixed
      refine ⟨.ref c, rfl, c, _, rfl, .inl (SqL.of g2), _, _, rfl, rfl, _, rfl, iteDF (by decide) ?_⟩
      refine ⟨.ref s, rfl, s, _, _, _, rfl, rfl, SqL.of g1, atI_nat (j := 1) rfl, _, _, rfl, rfl, .inl ⟨by omega, by omega⟩, _, _, rfl, rfl, .inl ⟨_, rfl, _, _, rfl, rfl, (by show (0 : Int) < 2147483647; decide), ?_⟩⟩
      have b0 : 0 ≤ (seed * 48271 + 12345) % 2147483647 := Int.emod_nonneg _ (by decide)
      have b1 : (seed * 48271 + 12345) % 2147483647 < 2147483647 := Int.emod_lt_of_pos _ (by decide)
      refine ⟨_, rfl, .ref s, rfl, s, _, _, 1, rfl, rfl, g1, rfl, ?_⟩
      refine ⟨_, rfl, _, _, rfl, rfl, ⟨by decide, by decide⟩, .inl ⟨_, rfl, _, rfl, _, _, rfl, rfl, hm0, ?_⟩⟩
      refine q _ _ (Int.emod_nonneg _ (by omega)) (Int.emod_lt_of_pos _ hm0) ⟨[], _, upd_same, ?_, fun z hz => absurd hz (by simp), b0, by omega⟩ fun b o n1 n2 e => ?_
      · rw [upd_ne (Ne.symm hne)]
        exact g2
      · rw [upd_ne n1]
        exact g4 b o n1 n2 e
    | cons z r =>
      refine iteDT (by rw [List.length_map, List.length_cons]; omega) ?_
      refine ⟨.ref c, rfl, c, _, _, _, rfl, rfl, SqL.of g2, atI_nat (j := 0) rfl, rfl, _, rfl, ?_⟩
      rw [dcInt]
      refine iteD (fun hz => ?_) fun hz => ?_
      · -- a zero is dropped
        refine ⟨fun σ' H' => ∃ m', m' < (z :: r).length ∧ ∃ cs : List Int, m' = cs.length ∧ σ' = [some (.ref s), some (.int many), some (.ref c), none, none] ∧ H' s = some (.lst [.ref c, .int seed]) ∧ H' c = some (.lst (cs.map V.int)) ∧ (∀ z ∈ cs, 0 ≤ z) ∧ Kp s c H H',
          fun _ _ h => h, ?_⟩
        refine ⟨.ref c, rfl, .inl ⟨rfl, _, SqL.of g2⟩, c, _, _, 0, _, rfl, rfl, g2, by decide, by decide, ?_, rfl, r.length, by rw [List.length_cons]; omega, r, rfl, rfl, ?_, ?_, fun y hy => g3 y (List.mem_cons_of_mem _ hy), fun b o n1 n2 e => ?_⟩
        · exact PySem.StrLaws.seqIndex_nonneg (Int.le_refl 0) (by rw [List.length_map, List.length_cons]; omega)
        · rw [upd_ne hne]
          exact g1
        · rw [upd_same]
          rfl
        · rw [upd_ne n2]
          exact g4 b o n1 n2 e
      · -- the first cell is drawn from
        refine ⟨.ref c, rfl, c, _, rfl, .inl (SqL.of g2), _, _, rfl, rfl, _, rfl, iteDT (by rw [List.length_map, List.length_cons]; omega) ?_⟩
        have z0 := g3 z List.mem_cons_self
        refine ⟨.ref c, rfl, c, _, _, _, rfl, rfl, SqL.of g2, atI_nat (j := 0) rfl, ?_⟩
        refine ⟨_, rfl, _, rfl, _, _, rfl, rfl, wide_div (b := 41) hm0 (by omega) (by decide) (by decide), .ref c, rfl, c, _, _, 0, rfl, rfl, g2, ?_, ?_⟩
        · rw [List.length_map, List.length_cons]
          unfold ixN
          rw [if_pos (Int.le_refl 0), if_pos (by omega)]
          rfl
        refine ⟨_, rfl, .inl ⟨_, rfl, _, rfl, _, _, rfl, rfl, hm0, ?_⟩⟩
        refine q _ _ (Int.emod_nonneg _ (by omega)) (Int.emod_lt_of_pos _ hm0) ⟨z / many :: r, seed, ?_, ?_, ?_, h4, h5⟩ fun b o n1 n2 e => ?_
        · rw [upd_ne hne]
          exact g1
        · rw [upd_same]
          rfl
        · intro y hy
          rcases List.mem_cons.mp hy with rfl | hy
          · exact Int.ediv_nonneg z0 (by omega)
          · exact g3 y (List.mem_cons_of_mem _ hy)
        · rw [upd_ne n2]
          exact g4 b o n1 n2 e
theorem ok_pick {f fD : Addr} {fd fdD : FuncData} {k : Nat} (F : Fun K "_law_pick" "_law_pick" sPick f fd) (T : Blt mg) (G : FnOk P w K mg base CX0 (k + 1) fD fdD ["state", "many"] spDraw)
    (gD : mg "_law_draw" = some (.ref fD)) (kD : PySem.W.keepIn K (.ref fD) = true) (bD : Binds K fdD ["state", "many"] []) : FnOk P w K mg base CX0 (k + 2) f fd ["state", "row"] (spPick K) := by
  refine F.ok scPick (fun vs H Q E h => ?_) (fun cdv A outer s H vs Q E hr h => ?_)
  · obtain ⟨s, c, p, xs, rfl, _⟩ := h
    rfl
  · obtain ⟨s, c, p, xs, rfl, hS, hL, n1, n2, l0, l1, q⟩ := h
    refine ⟨_, pss_one (ps_ret (pe_ix ix_list (pv 1) (pe_call G hr (by rfl) gD kD bD .nil pass0 (pa_cons (pv 0) (pa_cons (pe_callB call_len_seq (by rfl) T.zLen PySem.boot_len (pa_cons (pv 1) pa_nil)) pa_nil))) (fun _ _ => rfl))), ?_⟩
    refine ⟨.ref p, rfl, .ref s, rfl, .ref p, rfl, p, xs, rfl, .inl hL, s, c, xs.length, rfl, hS, by omega, by omega, fun H' r r0 r1 hS' k' => ?_⟩
    obtain ⟨j, rfl⟩ : ∃ j : Nat, r = (j : Int) := ⟨r.toNat, by omega⟩
    have hj : j < xs.length := by omega
    have e : xs[j]? = some xs[j] := List.getElem?_eq_getElem hj
    exact ⟨p, xs, _, _, rfl, rfl, k'.seq hL n1 n2, atI_nat e, q H' j _ e hS' k'⟩
end
end Pk
set_option Elab.async false
set_option linter.all false
set_option maxRecDepth 100000
set_option maxHeartbeats 4000000
namespace Pk
open PySem PySem.Spec PyProof.Rows L2
abbrev qInit : Stmt := inClass (topS 1) 0
abbrev qPut : Stmt := inClass (topS 1) 1
abbrev qTake : Stmt := inClass (topS 1) 2
abbrev qWait : Stmt := inClass (topS 1) 3
theorem scqInit : FnScope ["self", "capacity", "gap"] ["self", "capacity", "gap"] (defScope qInit) := ⟨rfl, rfl, rfl, by decide +kernel, rfl, by decide +kernel, by decide +kernel⟩
theorem scqPut : FnScope ["self", "item"] ["self", "item"] (defScope qPut) := ⟨rfl, rfl, rfl, by decide +kernel, rfl, by decide +kernel, by decide +kernel⟩
theorem scqTake : FnScope ["self", "tick"] ["self", "tick"] (defScope qTake) := ⟨rfl, rfl, rfl, by decide +kernel, rfl, by decide +kernel, by decide +kernel⟩
theorem scqWait : FnScope ["self"] ["self"] (defScope qWait) := ⟨rfl, rfl, rfl, by decide +kernel, rfl, by decide +kernel, by decide +kernel⟩
/-- the fields of a queue -/
def quF (cap gap : Int) (hl : Addr) (ready : Int) : List (Str × V) := [("capacity", .int cap), ("gap", .int gap), ("held", .ref hl), ("ready", .int ready)]
structure QuC (K : PySem.W.Frag) (C : Addr) : Prop where
  cl : Cls K C
  nC : NoAttr K C "capacity"
  nG : NoAttr K C "gap"
  nH : NoAttr K C "held"
  nR : NoAttr K C "ready"
/-- a method of a class that keeps its promise -/
structure Mt (P : Program) (w : World) (K : PySem.W.Frag) (mg : Str → Option Value) (base : Heap) (CX : CXT) (k : Nat) (C : Addr) (x : Str) (ps : List Str) (sp : Sp) : Prop where
  ex : ∃ (f : Addr) (fd : FuncData), FnOk P w K mg base CX k f fd ps sp ∧ Meth K C x f ∧ Binds K fd ps []
def spqInit (C : Addr) : Sp := fun vs H Q _ => ∃ (a dx : Addr) (cap gap : Int), vs = [.ref a, .int cap, .int gap] ∧ H a = some (.ins C dx []) ∧
  ∀ (H' : Hp) (hl : Addr), (∀ b o, b ≠ a → H b = some o → H' b = some o) → H hl = none → H' a = some (.ins C dx (quF cap gap hl 0)) → H' hl = some (.lst []) → Q .non H'
def spqPut (C : Addr) : Sp := fun vs H Q _ => ∃ (a dx hl : Addr) (cap gap ready : Int) (xs : List V) (y : V), vs = [.ref a, y] ∧ H a = some (.ins C dx (quF cap gap hl ready)) ∧ H hl = some (.lst xs) ∧ xs.length ≤ 1000 ∧
  ((cap ≤ xs.length → Q (.bl false) H) ∧ ((xs.length : Int) < cap → Q (.bl true) (upd H hl (.lst (xs ++ [y])))))
def spqTake (C : Addr) : Sp := fun vs H Q _ => ∃ (a dx hl : Addr) (cap gap ready tick : Int) (xs : List V), vs = [.ref a, .int tick] ∧ H a = some (.ins C dx (quF cap gap hl ready)) ∧ H hl = some (.lst xs) ∧ xs.length ≤ 1000 ∧
  (xs = [] ∨ tick < ready → Q .non H) ∧ ∀ y r, xs = y :: r → ready ≤ tick → Q y (upd (upd H a (.ins C dx (quF cap gap hl (tick + gap)))) hl (.lst r))
def spqWait (C : Addr) : Sp := fun vs H Q _ => ∃ (a dx hl : Addr) (cap gap ready : Int) (xs : List V), vs = [.ref a] ∧ H a = some (.ins C dx (quF cap gap hl ready)) ∧ H hl = some (.lst xs) ∧
  ∀ p, H p = none → Q (.ref p) (upd H p (.lst xs))
section
variable {P : Program} {w : World} {K : PySem.W.Frag} {mg : Str → Option Value} {base : Heap} {C : Addr}
theorem ok_qInit {f : Addr} {fd : FuncData} {k : Nat} (F : Fun K "__init__" "Queue.__init__" qInit f fd) (R : QuC K C) : FnOk P w K mg base CX0 (k + 1) f fd ["self", "capacity", "gap"] (spqInit C) := by
  refine F.ok scqInit (fun vs H Q E h => ?_) (fun cdv A outer s H vs Q E hr h => ?_)
  · obtain ⟨a, dx, cap, gap, rfl, _⟩ := h
    rfl
  · obtain ⟨a, dx, cap, gap, rfl, ha, q⟩ := h
    refine ⟨_, (pss_cons (ps_fld (pv 0) (pv 1) rfl)
      (pss_cons (ps_fld (pv 0) (pv 2) rfl)
      (pss_cons (ps_fld (pv 0) (pe_lst pa_nil) rfl)
      (pss_one (ps_fld (pv 0) pe_int rfl))))), ?_⟩
    refine ⟨_, rfl, _, rfl, a, C, dx, _, rfl, ha, R.cl, R.nC, by decide, ?_⟩
    refine ⟨_, rfl, _, rfl, a, C, dx, _, rfl, upd_same, R.cl, R.nG, (by show 1 < 1000; decide), ?_⟩
    refine ⟨Nat.zero_le _, fun hl hhl => ?_⟩
    have ne : hl ≠ a := fun z => by
      rw [z, upd_same] at hhl
      cases hhl
    have h0 : H hl = none := by
      rw [upd_ne ne, upd_ne ne] at hhl
      exact hhl
    refine ⟨_, rfl, a, C, dx, _, rfl, (by rw [upd_ne (Ne.symm ne)]; exact upd_same), R.cl, R.nH, (by show 2 < 1000; decide), ?_⟩
    refine ⟨_, rfl, a, C, dx, _, rfl, upd_same, R.cl, R.nR, (by show 3 < 1000; decide), ?_⟩
    refine q _ hl (fun b o n e => ?_) h0 upd_same ?_
    · rw [upd_ne n, upd_ne n, upd_ne (ne_of_none e h0), upd_ne n, upd_ne n]
      exact e
    · rw [upd_ne ne, upd_ne ne]
      exact upd_same
theorem ok_qPut {f : Addr} {fd : FuncData} {k : Nat} (F : Fun K "put" "Queue.put" qPut f fd) (R : QuC K C) (B : Blt mg) : FnOk P w K mg base CX0 (k + 1) f fd ["self", "item"] (spqPut C) := by
  refine F.ok scqPut (fun vs H Q E h => ?_) (fun cdv A outer s H vs Q E hr h => ?_)
  · obtain ⟨a, dx, hl, cap, gap, ready, xs, y, rfl, _⟩ := h
    rfl
  · obtain ⟨a, dx, hl, cap, gap, ready, xs, y, rfl, ha, hh, hlen, q1, q2⟩ := h
    refine ⟨_, (pss_cons (ps_if (pt_cmpR op_ge (pe_callB call_len_seq (by rfl) B.zLen PySem.boot_len (pa_cons (pe_fld (pv 0) rfl) pa_nil)) (pe_fld (pv 0) rfl) (nomark _)) (pss_one (ps_ret pe_bl)) pss_nil)
      (pss_cons (ps_expr (pe_bm PySem.F.plainAttrs_list PySem.F.slot_list_append PySem.F.type_list_append mt_append (pe_fld (pv 0) rfl) (pa_cons (pv 1) pa_nil)))
      (pss_one (ps_ret pe_bl)))), ?_⟩
    refine ⟨_, rfl, a, C, dx, _, _, rfl, ha, R.cl, R.nH, rfl, hl, xs, rfl, .inl (SqL.of hh), _, rfl, a, C, dx, _, _, rfl, ha, R.cl, R.nC, rfl, _, _, rfl, rfl, _, rfl, ?_⟩
    refine iteD (fun h => q1 h) fun h => ?_
    refine ⟨_, rfl, a, C, dx, _, _, rfl, ha, R.cl, R.nH, rfl, .inl ⟨rfl, _, SqL.of hh⟩, _, rfl, hl, xs, y, rfl, rfl, hh, small1000 hlen, q2 (by omega)⟩
theorem ok_qTake {f : Addr} {fd : FuncData} {k : Nat} (F : Fun K "take" "Queue.take" qTake f fd) (R : QuC K C) : FnOk P w K mg base CX0 (k + 1) f fd ["self", "tick"] (spqTake C) := by
  refine F.ok scqTake (fun vs H Q E h => ?_) (fun cdv A outer s H vs Q E hr h => ?_)
  · obtain ⟨a, dx, hl, cap, gap, ready, tick, xs, rfl, _⟩ := h
    rfl
  · obtain ⟨a, dx, hl, cap, gap, ready, tick, xs, rfl, ha, hh, hlen, q1, q2⟩ := h
    refine ⟨_, (pss_cons (ps_if (PW.pt (pw_or (pt_not (pt_truth (pe_fld (pv 0) rfl) (by intro _; rfl))) (pw_or1 (pt_cmpR op_lt (pv 1) (pe_fld (pv 0) rfl) (nomark _))))) (pss_one (ps_ret pe_non)) pss_nil)
      (pss_cons (ps_fld (pv 0) (pe_op op_add (pv 1) (pe_fld (pv 0) rfl)) rfl)
      (pss_one (ps_ret (pe_bm PySem.F.plainAttrs_list PySem.F.slot_list_pop PySem.F.type_list_pop mt_popAt (pe_fld (pv 0) rfl) (pa_cons pe_int pa_nil)))))), ?_⟩
    refine ⟨_, rfl, a, C, dx, _, _, rfl, ha, R.cl, R.nH, rfl, !xs.isEmpty, .inl ⟨xs, SqL.of hh, rfl⟩, ?_⟩
    cases xs with
    | nil => exact iteT (q1 (.inl rfl))
    | cons y r =>
      refine iteF ⟨_, rfl, _, rfl, a, C, dx, _, _, rfl, ha, R.cl, R.nR, rfl, _, _, rfl, rfl, _, rfl, ?_⟩
      refine iteD (fun h => q1 (.inr h)) fun h => ?_
      have ne : hl ≠ a := ne_of hh ha (by intro z; cases z)
      refine ⟨_, rfl, _, rfl, a, C, dx, _, _, rfl, ha, R.cl, R.nG, rfl, _, _, rfl, rfl, _, rfl, a, C, dx, _, rfl, ha, R.cl, R.nR, (by show 4 < 1000; decide), ?_⟩
      have e2 : (upd H a (.ins C dx (putF "ready" (.int (tick + gap)) (quF cap gap hl ready)))) hl = some (.lst (y :: r)) := by rw [upd_ne ne]; exact hh
      refine ⟨_, rfl, a, C, dx, _, _, rfl, upd_same, R.cl, R.nH, rfl, .inl ⟨rfl, _, SqL.of e2⟩, hl, _, _, 0, _, rfl, rfl, e2, by decide, by decide, PySem.StrLaws.seqIndex_nonneg (Int.le_refl 0) (by rw [List.length_cons]; omega), rfl, q2 y r rfl (by omega)⟩
theorem ok_qWait {f : Addr} {fd : FuncData} {k : Nat} (F : Fun K "waiting" "Queue.waiting" qWait f fd) (R : QuC K C) (zList : mg "list" = none) : FnOk P w K mg base CX0 (k + 1) f fd ["self"] (spqWait C) := by
  refine F.ok scqWait (fun vs H Q E h => ?_) (fun cdv A outer s H vs Q E hr h => ?_)
  · obtain ⟨a, dx, hl, cap, gap, ready, xs, rfl, _⟩ := h
    rfl
  · obtain ⟨a, dx, hl, cap, gap, ready, xs, rfl, ha, hh, q⟩ := h
    refine ⟨_, (pss_one (ps_ret (pe_callTy call_list_of (by rfl) zList (by decide +kernel) (pa_cons (pe_fld (pv 0) rfl) pa_nil)))), ?_⟩
    exact ⟨_, rfl, a, C, dx, _, _, rfl, ha, R.cl, R.nH, rfl, hl, xs, rfl, .inl (SqL.of hh), q⟩
end
end Pk
set_option Elab.async false
set_option linter.all false
set_option maxRecDepth 100000
set_option maxHeartbeats 4000000
namespace Pk
open PySem PySem.Spec PyProof.Rows L2
abbrev sLaw : Stmt := topS 6
abbrev NLw : List Str := ["script", "state", "capacity", "gap", "queue", "rows", "last", "tick", "item", "k", "j", "told", "due", "waiting"]
theorem scLaw : FnScope NLw ["script"] (defScope sLaw) := ⟨rfl, rfl, rfl, by decide +kernel, rfl, by decide +kernel, by decide +kernel⟩
def spLaw (K : PySem.W.Frag) : Sp := fun vs H Q _ => ∃ (a : Addr) (ns : List Int), vs = [.ref a] ∧ SqL K H a (ns.map V.int) ∧ ns.length ≤ 63 ∧ ∀ H', Q (.bl true) H'
/-- an item as data -/
def dI (n : Int) : PyData := .tuple [.int n, .str "x"]
theorem dI_lay (n : Int) : PyData.canLay0 (dI n) = true := by
  show (true && (PyData.strOk ("x" : Str) && true)) = true
  decide +kernel
theorem dI_shaped (n : Int) : SeqAt.shaped (dI n) = true := by
  show (PyData.canLay0 (dI n) && _) = true
  rw [dI_lay]
  rfl
theorem dIs_facts : ∀ l : List Int, PyData.canLayAll0 (l.map dI) = true ∧ PyData.depthAll (l.map dI) ≤ 1
  | [] => ⟨rfl, Nat.zero_le _⟩
  | n :: r => by
    obtain ⟨h1, h2⟩ := dIs_facts r
    refine ⟨?_, ?_⟩
    · show (PyData.canLay0 (dI n) && PyData.canLayAll0 (r.map dI)) = true
      rw [h1, dI_lay]
      rfl
    · show max (max 0 (max 0 0) + 1) (PyData.depthAll (r.map dI)) ≤ 1
      omega
theorem dIs_shaped (l : List Int) : SeqAt.shaped (.list (l.map dI)) = true := by
  obtain ⟨h1, h2⟩ := dIs_facts l
  show (PyData.canLayAll0 (l.map dI) && decide (PyData.depthAll (l.map dI) + 1 ≤ 64)) = true
  rw [h1, decide_eq_true (by omega)]
  rfl
theorem dIs_eqv (l : List Int) : PyData.eqv (.list (l.map dI)) (.list (l.map dI)) = true := SeqAt.eqv_refl _ (dIs_facts l).1
/-- where the state, the queue and its lists stand: all apart -/
structure Nq (s c q hl rl : Addr) : Prop where
  qs : q ≠ s
  qc : q ≠ c
  hs : hl ≠ s
  hc : hl ≠ c
  rs : rl ≠ s
  rc : rl ≠ c
  qh : q ≠ hl
  qr : q ≠ rl
  hr : hl ≠ rl
/-- the queue holds ns, the rows ms -/
structure Js (K : PySem.W.Frag) (C s c q dx hl rl : Addr) (cap gap ready : Int) (H : Hp) (ns ms : List Int) : Prop where
  ex : ∃ (G : Hp) (as bs : List V), Sg G H s c ∧ G q = none ∧ G hl = none ∧ G rl = none ∧ H q = some (.ins C dx (quF cap gap hl ready)) ∧ H hl = some (.lst as) ∧ H rl = some (.lst bs) ∧ DpAll K G as (ns.map dI) ∧ DpAll K G bs (ms.map dI)
section
variable {K : PySem.W.Frag} {C s c q dx hl rl : Addr} {cap gap ready : Int} {H H' : Hp} {ns ms : List Int}
theorem Js.kp (N : Nq s c q hl rl) (J : Js K C s c q dx hl rl cap gap ready H ns ms) (k : Kp s c H H') (st : StAt H' s c) : Js K C s c q dx hl rl cap gap ready H' ns ms := by
  obtain ⟨G, as, bs, h1, h2, h3, h4, h5, h6, h7, h8, h9⟩ := J.ex
  exact ⟨G, as, bs, h1.kp k st, h2, h3, h4, k _ _ N.qs N.qc h5, k _ _ N.hs N.hc h6, k _ _ N.rs N.rc h7, h8, h9⟩
theorem Js.same (J : Js K C s c q dx hl rl cap gap ready H ns ms) (k : Same H H') : Js K C s c q dx hl rl cap gap ready H' ns ms := by
  obtain ⟨G, as, bs, h1, h2, h3, h4, h5, h6, h7, h8, h9⟩ := J.ex
  exact ⟨G, as, bs, h1.same k, h2, h3, h4, k _ _ h5, k _ _ h6, k _ _ h7, h8, h9⟩
theorem Js.st (J : Js K C s c q dx hl rl cap gap ready H ns ms) : StAt H s c := by
  obtain ⟨G, as, bs, h1, _⟩ := J.ex
  exact h1.st
end
theorem iteNe {b c : Bool} {A B : Prop} (h : b = c) (h2 : B) : if (!decide (V.bl b = V.bl c)) = true then A else B := by
  rw [h, decide_eq_true rfl]
  exact h2
/-- how the law's last and the queue's ready agree -/
def LR (v : V) (gap ready : Int) : Prop := (v = .non ∧ ready = 0) ∨ ∃ t, v = .int t ∧ ready = t + gap
structure Qm (P : Program) (w : World) (K : PySem.W.Frag) (mg : Str → Option Value) (base : Heap) (C : Addr) : Prop where
  R : QuC K C
  put : Mt P w K mg base CX0 1 C "put" ["self", "item"] (spqPut C)
  take : Mt P w K mg base CX0 1 C "take" ["self", "tick"] (spqTake C)
  wait : Mt P w K mg base CX0 1 C "waiting" ["self"] (spqWait C)
  mkQ : ∃ (f : Addr) (fd : FuncData), FnOk P w K mg base CX0 1 f fd ["self", "capacity", "gap"] (spqInit C) ∧ Mk K C f ∧ Binds K fd ["self", "capacity", "gap"] [] ∧ mg "Queue" = some (.ref C)
structure Bk (mg : Str → Option Value) : Prop where
  zLen : mg "len" = none
  zRange : mg "range" = none
  zIsi : mg "isinstance" = none
  zBool : mg "bool" = none
theorem pickInt {i : Nat} {x : V} {ns : List Int} (h : (ns.map V.int)[i]? = some x) : ∃ n, n ∈ ns ∧ x = .int n := pick_ints h
section
variable {P : Program} {w : World} {K : PySem.W.Frag} {mg : Str → Option Value} {base : Heap} {C : Addr}
theorem ok_law {f : Addr} {fd : FuncData} (F : Fun K "law" "law" sLaw f fd) (T : Bk mg) (M : Qm P w K mg base C) (D1 : Df P w K mg base CX0 1 "_law_state" ["script"] (spState K)) (D2 : Df P w K mg base CX0 1 "_law_draw" ["state", "many"] spDraw) (D3 : Df P w K mg base CX0 2 "_law_pick" ["state", "row"] (spPick K)) : FnOk P w K mg base CX0 3 f fd ["script"] (spLaw K) := by
  obtain ⟨f1, fd1, G1, g1, k1, b1⟩ := D1.ex
  obtain ⟨f2, fd2, G2, g2, k2, b2⟩ := D2.ex
  obtain ⟨f3, fd3, G3, g3, k3, b3⟩ := D3.ex
  obtain ⟨fp, fdp, Gp, mp, bp⟩ := M.put.ex
  obtain ⟨ft, fdt, Gt, mt, bt⟩ := M.take.ex
  obtain ⟨fw, fdw, Gw, mw, bw⟩ := M.wait.ex
  obtain ⟨fi, fdi, Gi, mi, bi, gi⟩ := M.mkQ
  refine F.ok scLaw (fun vs H Q E h => ?_) (fun cdv A outer s0 H vs Q E hr h => ?_)
  · obtain ⟨a, ns, rfl, _⟩ := h
    rfl
  · obtain ⟨a, ns, rfl, hS, hn, qq⟩ := h
    have nd := scLaw.nd
    have hr1 : Room 1 _ := hr.mono (by omega)
    have cl := M.R.cl
    refine ⟨_, (pss_cons (ps_set (i := 1) nd rfl (.inl rfl) (pe_call G1 hr1 (by rfl) g1 k1 b1 .nil pass0 (pa_cons (pv 0) pa_nil)))
      (pss_cons (ps_set (i := 2) nd rfl (.inl rfl) (pe_op op_add pe_int (pe_call G2 hr1 (by rfl) g2 k2 b2 .nil pass0 (pa_cons (pv 1) (pa_cons pe_int pa_nil)))))
      (pss_cons (ps_set (i := 3) nd rfl (.inl rfl) (pe_op op_add pe_int (pe_call G2 hr1 (by rfl) g2 k2 b2 .nil pass0 (pa_cons (pv 1) (pa_cons pe_int pa_nil)))))
      (pss_cons (ps_set (i := 4) nd rfl (.inl rfl) (pe_make mi Gi hr (by rfl) gi bi .nil pass0 (pa_cons (pv 2) (pa_cons (pv 3) pa_nil))))
      (pss_cons (ps_set (i := 5) nd rfl (.inl rfl) (pe_lst pa_nil))
      (pss_cons (ps_set (i := 6) nd rfl (.inl rfl) pe_non)
      (pss_cons (ps_set (i := 7) nd rfl (.inl rfl) (pe_call G2 hr1 (by rfl) g2 k2 b2 .nil pass0 (pa_cons (pv 1) (pa_cons pe_int pa_nil))))
      (pss_cons (ps_set (i := 8) nd rfl (.inl rfl) pe_int)
      (pss_cons (ps_for PassesOwn.never rfl (pi_range1 (by rfl) T.zRange (pa_cons (pe_op op_add pe_int (pe_call G2 hr1 (by rfl) g2 k2 b2 .nil pass0 (pa_cons (pv 1) (pa_cons pe_int pa_nil)))) pa_nil)) (pg_name (i := 9) nd rfl (.inl rfl))
        (pss_cons (ps_for PassesOwn.never rfl (pi_range1 (by rfl) T.zRange (pa_cons (pe_call G2 hr1 (by rfl) g2 k2 b2 .nil pass0 (pa_cons (pv 1) (pa_cons pe_int pa_nil))) pa_nil)) (pg_name (i := 10) nd rfl (.inl rfl))
          (pss_cons (ps_set (i := 8) nd rfl (.inl rfl) (pe_op op_add (pv 8) pe_int))
          (pss_cons (ps_set (i := 11) nd rfl (.inl rfl) (pe_meth (pv 4) cl mp Gp hr1 bp .nil pass0 (pa_cons (pe_tup (pa_cons (pv 8) (pa_cons pe_str pa_nil))) pa_nil)))
          (pss_cons (ps_if (PW.pt (pw_or (pt_not (pt_val (pe_callB call_isi (by rfl) T.zIsi PyProof.Rows.boot_isinstance (pa_cons (pv 11) (pa_cons (pe_bltn (v := .ty "bool") (u := .type "bool") rfl T.zBool (by decide +kernel) rfl) pa_nil))) (by intro _; rfl))) (pw_or1 (pt_cmpR op_ne (pv 11) (pe_cmpR op_lt (pe_callB call_len_seq (by rfl) T.zLen PySem.boot_len (pa_cons (pv 5) pa_nil)) (pv 2) (nomark _)) (nomark _))))) (pss_one (ps_ret pe_bl)) pss_nil)
          (pss_one (ps_if (pt_val (pv 11) (by intro _; rfl)) (pss_one (ps_expr (pe_bm PySem.F.plainAttrs_list PySem.F.slot_list_append PySem.F.type_list_append mt_append (pv 5) (pa_cons (pe_tup (pa_cons (pv 8) (pa_cons pe_str pa_nil))) pa_nil)))) pss_nil))))))
        (pss_cons (ps_set (i := 12) nd rfl (.inl rfl) pe_non)
        (C8.pss_cut (ps_if (PW.pt (pw_and (pt_cmpR op_gt (pe_callB call_len_seq (by rfl) T.zLen PySem.boot_len (pa_cons (pv 5) pa_nil)) pe_int (nomark _)) (pw_and1 (PW.pt (pw_or (pt_cmpR op_isN (pv 6) pe_non (nomark _)) (pw_or1 (pt_cmpR op_ge (pe_op op_sub (pv 7) (pv 6)) (pv 3) (nomark _)))))))) (pss_cons (ps_set (i := 12) nd rfl (.inl rfl) (pe_bm PySem.F.plainAttrs_list PySem.F.slot_list_pop PySem.F.type_list_pop mt_popAt (pv 5) (pa_cons pe_int pa_nil)))
          (pss_one (ps_set (i := 6) nd rfl (.inl rfl) (pv 7)))) pss_nil)
        (C8.pss_cut (ps_if (pt_cmpR (op_neD hr.units) (pe_meth (pv 4) cl mt Gt hr1 bt .nil pass0 (pa_cons (pv 7) pa_nil)) (pv 12) (nomark _)) (pss_one (ps_ret pe_bl)) pss_nil)
        (pss_cons (ps_set (i := 13) nd rfl (.inl rfl) (pe_meth0 (pv 4) cl mw Gw hr1 bw .nil pass0))
        (pss_cons (ps_if (pt_cmpR (op_neD hr.units) (pv 13) (pv 5) (nomark _)) (pss_one (ps_ret pe_bl)) pss_nil)
        (pss_cons (ps_expr (pe_bm PySem.F.plainAttrs_list PySem.F.slot_list_append PySem.F.type_list_append mt_append (pv 13) (pa_cons pe_int pa_nil)))
        (pss_one (ps_set (i := 7) nd rfl (.inl rfl) (pe_op op_add (pe_op op_add (pv 7) pe_int) (pe_call G2 hr1 (by rfl) g2 k2 b2 .nil pass0 (pa_cons (pv 1) (pa_cons (pe_call G3 (hr.mono (by omega)) (by rfl) g3 k3 b3 .nil pass0 (pa_cons (pv 1) (pa_cons (pe_lst (pa_cons pe_int (pa_cons pe_int (pa_cons pe_int pa_nil)))) pa_nil))) pa_nil))))))))))))))
      (pss_one (ps_ret (pe_cmpR (op_eqD hr.units) (pe_meth0 (pv 4) cl mw Gw hr1 bw .nil pass0) (pv 5) (nomark _))))))))))))), ?_⟩
    refine ⟨_, rfl, a, ns, rfl, hS, hn, fun H1 s c s1 _ _ st1 => ?_⟩
    refine ⟨_, rfl, s, c, 16, rfl, st1, by decide, by decide, fun H2 r2 r20 r21 st2 kp2 => ⟨_, _, rfl, rfl, ?_⟩⟩
    refine ⟨_, rfl, s, c, 16, rfl, st2, by decide, by decide, fun H3 r3 r30 r31 st3 kp3 => ⟨_, _, rfl, rfl, ?_⟩⟩
    obtain ⟨cap, hcap⟩ : ∃ cap : Int, cap = 1 + r2 := ⟨_, rfl⟩
    obtain ⟨gap, hgap⟩ : ∃ gap : Int, gap = 1 + r3 := ⟨_, rfl⟩
    refine ⟨.int cap, by rw [hcap]; rfl, .int gap, by rw [hgap]; rfl, fun q dx hq hdx hne => ⟨q, dx, cap, gap, rfl, upd_same, fun H4 hl fr hhl eq ehl => ⟨rfl, ?_⟩⟩⟩
    have hlq : hl ≠ q := fun z => by
      rw [z, upd_same] at hhl
      cases hhl
    have hl3 : H3 hl = none := by
      rw [upd_ne hlq] at hhl
      by_cases z : hl = dx
      · rw [z, upd_same] at hhl
        cases hhl
      · rw [upd_ne z] at hhl
        exact hhl
    have s4 : Same H3 H4 := fun b o e => fr b o (ne_of_none e hq) (by
      rw [upd_ne (ne_of_none e hq), upd_ne (ne_of_none e hdx)]
      exact e)
    refine ⟨Nat.zero_le _, fun rl hrl => ?_⟩
    have st4 := st3.same s4
    have st5 := st4.new (o := .lst []) hrl
    have nq := st3.neS hq
    have nh := st3.neS hl3
    have nr := st4.neS hrl
    have N : Nq s c q hl rl := ⟨nq.1, nq.2, nh.1, nh.2, nr.1, nr.2, Ne.symm hlq, ne_of_none eq hrl, ne_of_none ehl hrl⟩
    have J5 : Js K C s c q dx hl rl cap gap 0 (upd H4 rl (.lst [])) [] [] := ⟨fun _ => none, [], [], ⟨fun b o e => (nomatch e), st5, rfl, rfl⟩, rfl, rfl, rfl, by rw [upd_ne N.qr]; exact eq, by rw [upd_ne N.hr]; exact ehl, upd_same, .nil, .nil⟩
    generalize upd H4 rl (.lst []) = H5 at J5 ⊢
    refine ⟨_, rfl, s, c, 5, rfl, J5.st, by decide, by decide, fun H6 t6 t60 t61 st6 kp6 => ?_⟩
    have J6 := J5.kp N kp6 st6
    refine ⟨_, rfl, s, c, 41, rfl, st6, by decide, by decide, fun H7 r7 r70 r71 st7 kp7 => ⟨_, _, rfl, rfl, ?_⟩⟩
    have J7 := J6.kp N kp7 st7
    have ecap : 1 ≤ cap ∧ cap ≤ 16 := by omega
    have egap : 1 ≤ gap := by omega
    refine ⟨_, rfl, by omega, by omega, for_range (lo := 0) (n := (20 + r7).toNat) (fun i σ H8 => ∃ (ready tick item : Int) (last : V) (ks : List Int) (o9 oa ob oc od : Option V), σ = [some (.ref a), some (.ref s), some (.int cap), some (.int gap), some (.ref q), some (.ref rl), some last, some (.int tick), some (.int item), o9, oa, ob, oc, od] ∧ Js K C s c q dx hl rl cap gap ready H8 ks ks ∧ (ks.length : Int) ≤ cap ∧ LR last gap ready ∧ 0 ≤ tick)
      ⟨0, t6, 0, .non, [], none, none, none, none, none, by rw [hcap, hgap]; rfl, J7, (by show (0 : Int) ≤ cap; omega), .inl ⟨rfl, rfl⟩, t60⟩ ?_ ?_⟩
    · rintro i σ H8 hi ⟨ready, tick, item, last, ks, o9, oa, ob, oc, od, rfl, J8, hks, hlr, ht0⟩
      refine ⟨_, rfl, s, c, 4, rfl, J8.st, by decide, by decide, fun H9 r9 r90 r91 st9 kp9 => ?_⟩
      have J9 := J8.kp N kp9 st9
      refine ⟨_, rfl, by omega, by omega, for_range (lo := 0) (n := r9.toNat) (fun j σ Ha => ∃ (item : Int) (ks : List Int) (oa ob : Option V), σ = [some (.ref a), some (.ref s), some (.int cap), some (.int gap), some (.ref q), some (.ref rl), some last, some (.int tick), some (.int item), some (.int (0 + (i : Int))), oa, ob, oc, od] ∧ Js K C s c q dx hl rl cap gap ready Ha ks ks ∧ (ks.length : Int) ≤ cap)
        ⟨item, ks, oa, ob, rfl, J9, hks⟩ ?_ ?_⟩
      · rintro j σ Ha hj ⟨item, ks, oa, ob, rfl, Ja, hka⟩
        obtain ⟨G, as, bs, ja1, ja2, ja3, ja4, ja5, ja6, ja7, ja8, ja9⟩ := Ja.ex
        have las := dpAll_len ja8
        have lbs := dpAll_len ja9
        rw [List.length_map] at las lbs
        refine ⟨_, rfl, _, _, rfl, rfl, ?_⟩
        refine ⟨_, rfl, q, dx, _, rfl, ja5, rfl, _, rfl, by show 2 ≤ sizeLine; decide, fun t ht => ?_⟩
        have st' := same_new (o := .tup [V.int (item + 1), .str "x"]) ht
        have gt : G t = none := ja1.sub.free ht
        have dt : Dp K (upd G t (.tup [V.int (item + 1), .str "x"])) (.ref t) (dI (item + 1)) := .tup (SqT.of upd_same) (.cons (.int _) (.cons (.str _) .nil))
        have Cb := ja1.new (o := .tup [V.int (item + 1), .str "x"]) ht
        have sb := same_new2 (o := .tup [V.int (item + 1), .str "x"]) gt
        have eq' := st' _ _ ja5
        have eh' := st' _ _ ja6
        have er' := st' _ _ ja7
        have ntq : q ≠ t := ne_of_none ja5 ht
        have nth : hl ≠ t := ne_of_none ja6 ht
        have ntr : rl ≠ t := ne_of_none ja7 ht
        have gq' : (upd G t (.tup [V.int (item + 1), .str "x"])) q = none := by rw [upd_ne ntq]; exact ja2
        have gh' : (upd G t (.tup [V.int (item + 1), .str "x"])) hl = none := by rw [upd_ne nth]; exact ja3
        have gr' : (upd G t (.tup [V.int (item + 1), .str "x"])) rl = none := by rw [upd_ne ntr]; exact ja4
        generalize upd Ha t (.tup [V.int (item + 1), .str "x"]) = Hb at Cb eq' eh' er' ⊢
        generalize upd G t (.tup [V.int (item + 1), .str "x"]) = Gb at Cb sb dt gq' gh' gr'
        have da' := dpAll_sub sb ja8
        have db' := dpAll_sub sb ja9
        refine ⟨q, dx, hl, cap, gap, ready, as, .ref t, rfl, eq', eh', by omega, fun hful => ?_, fun hroom => ?_⟩
        · -- full
          refine ⟨_, rfl, _, _, _, _, true, rfl, .ty _, .base (.bl _), kit_ty (by decide +kernel), _, rfl, iteF ?_⟩
          refine ⟨_, rfl, _, rfl, rl, bs, rfl, .inl (SqL.of er'), _, rfl, _, _, rfl, rfl, rfl, _, rfl, ?_⟩
          have e0 : decide ((bs.length : Int) < cap) = false := decide_eq_false (by omega)
          refine iteNe e0.symm ⟨_, rfl, _, rfl, iteF ?_⟩
          exact ⟨item + 1, ks, _, _, rfl, ⟨Gb, as, bs, Cb, gq', gh', gr', eq', eh', er', da', db'⟩, hka⟩
        · -- room
          have Cc := Cb.set (o := .lst (as ++ [.ref t])) gh' ⟨N.hs, N.hc⟩
          have eq2 : (upd Hb hl (.lst (as ++ [.ref t]))) q = some (.ins C dx (quF cap gap hl ready)) := by rw [upd_ne N.qh]; exact eq'
          have er2 : (upd Hb hl (.lst (as ++ [.ref t]))) rl = some (.lst bs) := by rw [upd_ne (Ne.symm N.hr)]; exact er'
          have eh2 : (upd Hb hl (.lst (as ++ [.ref t]))) hl = some (.lst (as ++ [.ref t])) := upd_same
          generalize upd Hb hl (.lst (as ++ [.ref t])) = Hc at Cc eq2 er2 eh2 ⊢
          refine ⟨_, rfl, _, _, _, _, true, rfl, .ty _, .base (.bl _), kit_ty (by decide +kernel), _, rfl, iteF ?_⟩
          refine ⟨_, rfl, _, rfl, rl, bs, rfl, .inl (SqL.of er2), _, rfl, _, _, rfl, rfl, rfl, _, rfl, ?_⟩
          have e0 : decide ((bs.length : Int) < cap) = true := decide_eq_true (by omega)
          refine iteNe e0.symm ⟨_, rfl, _, rfl, iteT ?_⟩
          refine ⟨_, rfl, .inl ⟨rfl, _, SqL.of er2⟩, _, rfl, by show 2 ≤ sizeLine; decide, fun u hu => ?_⟩
          have gu : Gb u = none := Cc.sub.free hu
          have nuq : q ≠ u := ne_of_none eq2 hu
          have nuh : hl ≠ u := ne_of_none eh2 hu
          have nur : rl ≠ u := ne_of_none er2 hu
          have du : Dp K (upd Gb u (.tup [V.int (item + 1), .str "x"])) (.ref u) (dI (item + 1)) := .tup (SqT.of upd_same) (.cons (.int _) (.cons (.str _) .nil))
          have Cd := Cc.new (o := .tup [V.int (item + 1), .str "x"]) hu
          have sd := same_new2 (o := .tup [V.int (item + 1), .str "x"]) gu
          have gr2 : (upd Gb u (.tup [V.int (item + 1), .str "x"])) rl = none := by rw [upd_ne nur]; exact gr'
          have gq2 : (upd Gb u (.tup [V.int (item + 1), .str "x"])) q = none := by rw [upd_ne nuq]; exact gq'
          have gh2 : (upd Gb u (.tup [V.int (item + 1), .str "x"])) hl = none := by rw [upd_ne nuh]; exact gh'
          have er3 : (upd Hc u (.tup [V.int (item + 1), .str "x"])) rl = some (.lst bs) := by rw [upd_ne nur]; exact er2
          refine ⟨rl, bs, .ref u, rfl, rfl, er3, small1000 (by omega), ?_⟩
          refine ⟨item + 1, ks ++ [item + 1], _, _, rfl, ⟨_, as ++ [.ref t], _, Cd.set gr2 ⟨N.rs, N.rc⟩, gq2, gh2, gr2, ?_, ?_, upd_same, ?_, ?_⟩, ?_⟩
          · rw [upd_ne N.qr, upd_ne nuq]
            exact eq2
          · rw [upd_ne N.hr, upd_ne nuh]
            exact eh2
          · rw [List.map_append]
            exact dpAll_app (dpAll_sub sd da') (.cons (dp_sub sd dt) .nil)
          · rw [List.map_append]
            exact dpAll_app (dpAll_sub sd db') (.cons du .nil)
          · rw [List.length_append]
            show ((ks.length + 1 : Nat) : Int) ≤ cap
            omega
      · rintro σ Ha ⟨item, ks, oa, ob, rfl, Ja, hka⟩
        obtain ⟨G, as, bs, ja1, ja2, ja3, ja4, ja5, ja6, ja7, ja8, ja9⟩ := Ja.ex
        have las := dpAll_len ja8
        have lbs := dpAll_len ja9
        rw [List.length_map] at las lbs
        refine ⟨fun σ Hb => ∃ (last' due : V) (ns ms : List Int) (dd : PyData), σ = [some (.ref a), some (.ref s), some (.int cap), some (.int gap), some (.ref q), some (.ref rl), some last', some (.int tick), some (.int item), some (.int (0 + (i : Int))), oa, ob, some due, od] ∧ Js K C s c q dx hl rl cap gap ready Hb ks ms ∧ (ms.length : Int) ≤ cap ∧ Dp K Hb due dd ∧ 
          ((∃ n, ks = n :: ms ∧ dd = dI n ∧ ready ≤ tick ∧ last' = .int tick) ∨ (ms = ks ∧ dd = .none ∧ (ks = [] ∨ tick < ready) ∧ last' = last)), ?_, ?_⟩
        · refine ⟨_, rfl, rl, bs, rfl, .inl (SqL.of ja7), _, _, rfl, rfl, _, rfl, iteD (fun h0 => ?_) fun h0 => ?_⟩
          · obtain ⟨n, ms, rfl⟩ : ∃ n ms, ks = n :: ms := by
              cases ks with
              | nil =>
                have : bs.length = 0 := lbs
                omega
              | cons n ms => exact ⟨n, ms, rfl⟩
            obtain ⟨y, br, rfl, dy, dbr⟩ := dpAll_cons ja9
            have lms : (ms.length : Int) ≤ cap := by
              have : ((ms.length + 1 : Nat) : Int) ≤ cap := hka
              omega
            have Cs := ja1.set (o := .lst br) ja4 ⟨N.rs, N.rc⟩
            have hq' : (upd Ha rl (.lst br)) q = some (.ins C dx (quF cap gap hl ready)) := by rw [upd_ne N.qr]; exact ja5
            have hh' : (upd Ha rl (.lst br)) hl = some (.lst as) := by rw [upd_ne N.hr]; exact ja6
            have fin : ready ≤ tick → ∃ (last' due : V) (ns ms' : List Int) (dd : PyData), [some (.ref a), some (.ref s), some (.int cap), some (.int gap), some (.ref q), some (.ref rl), some (V.int tick), some (.int tick), some (.int item), some (.int (0 + (i : Int))), oa, ob, some y, od] = [some (.ref a), some (.ref s), some (.int cap), some (.int gap), some (.ref q), some (.ref rl), some last', some (.int tick), some (.int item), some (.int (0 + (i : Int))), oa, ob, some due, od] ∧ Js K C s c q dx hl rl cap gap ready (upd Ha rl (.lst br)) (n :: ms) ms' ∧ (ms'.length : Int) ≤ cap ∧ Dp K (upd Ha rl (.lst br)) due dd ∧ 
                ((∃ n', n :: ms = n' :: ms' ∧ dd = dI n' ∧ ready ≤ tick ∧ last' = .int tick) ∨ (ms' = n :: ms ∧ dd = .none ∧ (n :: ms = [] ∨ tick < ready) ∧ last' = last)) := fun hrt =>
              ⟨_, y, [], ms, dI n, rfl, ⟨G, as, br, Cs, ja2, ja3, ja4, hq', hh', upd_same, ja8, dbr⟩, lms, dp_sub Cs.sub dy, .inl ⟨n, rfl, rfl, hrt, rfl⟩⟩
            have pop : ready ≤ tick → ∀ (R : Prop), R → R := fun _ _ h => h
            refine ⟨_, rfl, rfl, _, rfl, ?_⟩
            rcases hlr with ⟨rfl, rfl⟩ | ⟨t, rfl, rfl⟩
            · refine iteT ?_
              refine iteT ⟨_, rfl, .inl ⟨rfl, _, SqL.of ja7⟩, rl, _, _, 0, y, rfl, rfl, ja7, by decide, by decide, PySem.StrLaws.seqIndex_nonneg (Int.le_refl 0) (by rw [List.length_cons]; omega), rfl, ?_⟩
              exact ⟨_, rfl, fin ht0⟩
            · refine iteF ⟨_, rfl, _, rfl, _, _, rfl, rfl, _, rfl, _, _, rfl, rfl, _, rfl, ?_⟩
              by_cases hge : tick - t ≥ gap
              · rw [decide_eq_true hge]
                refine iteT ⟨_, rfl, .inl ⟨rfl, _, SqL.of ja7⟩, rl, _, _, 0, y, rfl, rfl, ja7, by decide, by decide, PySem.StrLaws.seqIndex_nonneg (Int.le_refl 0) (by rw [List.length_cons]; omega), rfl, ?_⟩
                exact ⟨_, rfl, fin (by omega)⟩
              · rw [decide_eq_false hge]
                refine iteF ?_
                exact ⟨_, .non, [], n :: ms, .none, rfl, Ja, hka, .non, .inr ⟨rfl, rfl, .inr (by omega), rfl⟩⟩
          · have hk0 : ks = [] := List.length_eq_zero_iff.mp (by omega)
            exact iteF ⟨_, .non, [], ks, .none, rfl, Ja, hka, .non, .inr ⟨rfl, rfl, .inl hk0, rfl⟩⟩
        · rintro σ Hb ⟨last', due, _, ms, dd, rfl, Jb, hms, hdue, hcase⟩
          clear ja1 ja2 ja3 ja4 ja5 ja6 ja7 ja8 ja9 las lbs
          obtain ⟨G, as, bs, ja1, ja2, ja3, ja4, ja5, ja6, ja7, ja8, ja9⟩ := Jb.ex
          have las := dpAll_len ja8
          rw [List.length_map] at las
          refine ⟨fun σ Hc => ∃ ready', σ = [some (.ref a), some (.ref s), some (.int cap), some (.int gap), some (.ref q), some (.ref rl), some last', some (.int tick), some (.int item), some (.int (0 + (i : Int))), oa, ob, some due, od] ∧ Js K C s c q dx hl rl cap gap ready' Hc ms ms ∧ LR last' gap ready', ?_, ?_⟩
          · refine ⟨_, rfl, q, dx, _, rfl, ja5, rfl, _, rfl, q, dx, hl, cap, gap, ready, tick, as, rfl, ja5, ja6, by omega, fun hno => ?_, fun y r eas hyes => ?_⟩
            · rcases hcase with ⟨n, rfl, rfl, hrt, rfl⟩ | ⟨rfl, rfl, hno', rfl⟩
              · rcases hno with rfl | h
                · cases las
                · omega
              · refine ⟨_, rfl, .none, .none, .non, hdue, rfl, rfl, _, rfl, ?_⟩
                have e1 : PyData.eqv .none .none = true := rfl
                rw [e1]
                exact iteF ⟨ready, rfl, Jb, hlr⟩
            · rcases hcase with ⟨n, rfl, rfl, hrt, rfl⟩ | ⟨rfl, rfl, hno', rfl⟩
              · obtain ⟨y', r', eas', dy, dr⟩ := dpAll_cons ja8
                obtain ⟨rfl, rfl⟩ := List.cons.inj (eas.symm.trans eas')
                have S1 := ja1.set (o := .ins C dx (quF cap gap hl (tick + gap))) ja2 ⟨N.qs, N.qc⟩
                have S2 := S1.set (o := .lst r) ja3 ⟨N.hs, N.hc⟩
                have e1 : (upd (upd Hb q (.ins C dx (quF cap gap hl (tick + gap)))) hl (.lst r)) q = some (.ins C dx (quF cap gap hl (tick + gap))) := by rw [upd_ne N.qh]; exact upd_same
                have e2 : (upd (upd Hb q (.ins C dx (quF cap gap hl (tick + gap)))) hl (.lst r)) rl = some (.lst bs) := by rw [upd_ne (Ne.symm N.hr), upd_ne (Ne.symm N.qr)]; exact ja7
                have dd2 : Dp K (upd (upd Hb q (.ins C dx (quF cap gap hl (tick + gap)))) hl (.lst r)) due (dI n) := by
                  obtain ⟨p, xs, rfl, h1, h2⟩ := dp_tup hdue
                  obtain ⟨z0, rz, rfl, a0, h2⟩ := dpAll_cons h2
                  obtain ⟨z1, rz, rfl, a1, h2⟩ := dpAll_cons h2
                  obtain rfl := dpAll_nil h2
                  obtain rfl := dp_int a0
                  obtain rfl := dp_str a1
                  refine .tup ?_ (.cons (.int _) (.cons (.str _) .nil))
                  rcases h1 with h1 | h1
                  · refine .inl ?_
                    rcases h1 with h1 | ⟨o, h1⟩
                    · have n1 : p ≠ q := ne_of h1 ja5 (by intro z; cases z)
                      have n2 : p ≠ hl := ne_of h1 ja6 (by intro z; cases z)
                      exact .inl (by rw [upd_ne n2, upd_ne n1]; exact h1)
                    · have n1 : p ≠ q := ne_of h1 ja5 (by intro z; cases z)
                      have n2 : p ≠ hl := ne_of h1 ja6 (by intro z; cases z)
                      exact .inr ⟨o, by rw [upd_ne n2, upd_ne n1]; exact h1⟩
                  · exact .inr h1
                refine ⟨_, rfl, dI n, dI n, dp_sub S2.sub dy, dd2, dI_shaped n, dI_shaped n, _, rfl, ?_⟩
                have e3 : PyData.eqv (dI n) (dI n) = true := SeqAt.eqv_refl _ (dI_lay n)
                rw [e3]
                exact iteF ⟨tick + gap, rfl, ⟨G, r, bs, S2, ja2, ja3, ja4, e1, upd_same, e2, dr, ja9⟩, .inr ⟨tick, rfl, rfl⟩⟩
              · rcases hno' with rfl | h
                · rw [eas] at las
                  cases las
                · omega
          · rintro σ Hc ⟨ready', rfl, Jc, hlr'⟩
            clear ja1 ja2 ja3 ja4 ja5 ja6 ja7 ja8 ja9 las
            obtain ⟨G, as, bs, ja1, ja2, ja3, ja4, ja5, ja6, ja7, ja8, ja9⟩ := Jc.ex
            have las := dpAll_len ja8
            rw [List.length_map] at las
            refine ⟨_, rfl, q, dx, _, rfl, ja5, rfl, q, dx, hl, cap, gap, ready', as, rfl, ja5, ja6, fun p hp => ?_⟩
            have sp := same_new (o := .lst as) hp
            have Jd := Jc.same sp
            have ep : (upd Hc p (.lst as)) p = some (.lst as) := upd_same
            have gp : G p = none := ja1.sub.free hp
            have np := ja1.st.neS hp
            have npq : q ≠ p := ne_of_none ja5 hp
            have nph : hl ≠ p := ne_of_none ja6 hp
            have npr : rl ≠ p := ne_of_none ja7 hp
            have Cd := ja1.same sp
            have er' := sp _ _ ja7
            have eq' := sp _ _ ja5
            have eh' := sp _ _ ja6
            generalize upd Hc p (.lst as) = Hd at sp Jd ep Cd er' eq' eh' ⊢
            refine ⟨_, rfl, _, rfl, .list (ms.map dI), .list (ms.map dI), .lst (SqL.of ep) (dpAll_sub Cd.sub ja8), .lst (SqL.of er') (dpAll_sub Cd.sub ja9), dIs_shaped _, dIs_shaped _, _, rfl, ?_⟩
            rw [dIs_eqv]
            refine iteF ⟨_, rfl, .inl ⟨rfl, _, SqL.of ep⟩, p, as, _, rfl, rfl, ep, small1000 (by omega), ?_⟩
            have Ce := Cd.set (o := .lst (as ++ [V.int 0])) gp np
            have Je : Js K C s c q dx hl rl cap gap ready' (upd Hd p (.lst (as ++ [V.int 0]))) ms ms := ⟨G, as, bs, Ce, ja2, ja3, ja4, by rw [upd_ne npq]; exact eq', by rw [upd_ne nph]; exact eh', by rw [upd_ne npr]; exact er', ja8, ja9⟩
            generalize upd Hd p (.lst (as ++ [V.int 0])) = He at Je ⊢
            refine ⟨_, rfl, _, _, rfl, rfl, _, rfl, _, rfl, by show 3 ≤ sizeLine; decide, fun pl hpl => ?_⟩
            have nl := Je.st.neS hpl
            have Jf := Je.same (same_new (o := .lst [V.int 1, .int 1, .int 20]) hpl)
            refine ⟨s, c, pl, _, rfl, Jf.st, SqL.of upd_same, nl.1, nl.2, by show 0 < 3; decide, by show 3 ≤ 1000; decide, fun Hg ig xg hxg stg kpg => ?_⟩
            obtain ⟨ng, hng, rfl⟩ := pick_ints (ns := [1, 1, 20]) hxg
            have hngb : 1 ≤ ng ∧ ng ≤ 20 := by
              simp only [List.mem_cons, List.not_mem_nil, or_false] at hng
              omega
            have Jg := Jf.kp N kpg stg
            refine ⟨s, c, ng, rfl, stg, by omega, by omega, fun Hh rh rh0 rh1 sth kph => ⟨_, _, rfl, rfl, ?_⟩⟩
            exact ⟨ready', _, _, last', ms, _, _, _, _, _, rfl, Jg.kp N kph sth, hms, hlr', by omega⟩
    · rintro σ H8 ⟨ready, tick, item, last, ks, o9, oa, ob, oc, od, rfl, J8, hks, hlr, ht0⟩
      obtain ⟨G, as, bs, ja1, ja2, ja3, ja4, ja5, ja6, ja7, ja8, ja9⟩ := J8.ex
      refine ⟨_, rfl, q, dx, _, rfl, ja5, rfl, q, dx, hl, cap, gap, ready, as, rfl, ja5, ja6, fun p hp => ?_⟩
      have sp := same_new (o := .lst as) hp
      have Cd := ja1.same sp
      have er' := sp _ _ ja7
      refine ⟨_, rfl, .list (ks.map dI), .list (ks.map dI), .lst (SqL.of upd_same) (dpAll_sub Cd.sub ja8), .lst (SqL.of er') (dpAll_sub Cd.sub ja9), dIs_shaped _, dIs_shaped _, ?_⟩
      rw [dIs_eqv]
      exact qq _
end
end Pk
set_option Elab.async false
set_option linter.all false
set_option maxRecDepth 100000
set_option maxHeartbeats 8000000
namespace Pk
open PySem PySem.Spec PyProof.Rows L2
theorem at_of_name {K : PySem.W.Frag} {h : Heap} {mg : Str → Option Value} {x : Str} {st : Stmt} {ps : List Str} {f : Addr} {oc : Value} {od an : Option Addr} {osl : Array (Option Value)} {kV doc pm cdv ct : Value} (X : K.In h) (G : h.Ns mainGlobals mg)
    (a : PySem.W.nsIn K mainGlobals x = some (some (.ref f))) (l : K.lookup f = some ⟨oc, od, .func (PySem.W.fnOf x x (defArgs st) (defBody st) (defScope st) .none kV doc pm an cdv ct), osl⟩)
    (c : PySem.W.codeIn K cdv x = true) (k : PySem.W.keepIn K (.ref f) = true)
    (hb : ∀ (kV doc pm : Value) (an : Option Addr) (cdv ct : Value) (us : List Value), us.length = ps.length → bindArgs (PySem.W.fnOf x x (defArgs st) (defBody st) (defScope st) .none kV doc pm an cdv ct) ⟨us, []⟩ = pure (ps.zip us)) : AtD K mg x st ps :=
  ⟨f, _, fun_mk l c k, PySem.W.mg_of X G a, (fun_mk l c k).binds hb⟩
theorem Df.up {P : Program} {w : World} {K : PySem.W.Frag} {mg : Str → Option Value} {base : Heap} {CX : CXT} {j k : Nat} {x : Str} {ps : List Str} {sp : Sp} (D : Df P w K mg base CX j x ps sp) (h : j ≤ k) : Df P w K mg base CX k x ps sp := by
  obtain ⟨f, fd, g, a, b, c⟩ := D.ex
  exact ⟨f, fd, g.mono h, a, b, c⟩
theorem all_mk {P : Program} {w : World} {K : PySem.W.Frag} {h : Heap} {mg : Str → Option Value} {fa : Addr}
    {cQu : Addr}
    {f0 : Addr} {oc0 : Value} {od0 an0 : Option Addr} {osl0 : Array (Option Value)} {kV0 doc0 pm0 cd0 ct0 : Value}
    {f1 : Addr} {oc1 : Value} {od1 an1 : Option Addr} {osl1 : Array (Option Value)} {kV1 doc1 pm1 cd1 ct1 : Value}
    {f2 : Addr} {oc2 : Value} {od2 an2 : Option Addr} {osl2 : Array (Option Value)} {kV2 doc2 pm2 cd2 ct2 : Value}
    {f3 : Addr} {oc3 : Value} {od3 an3 : Option Addr} {osl3 : Array (Option Value)} {kV3 doc3 pm3 cd3 ct3 : Value}
    {fMQu0 : Addr} {ocMQu0 : Value} {odMQu0 anMQu0 : Option Addr} {oslMQu0 : Array (Option Value)} {kVMQu0 docMQu0 pmMQu0 cdMQu0 ctMQu0 : Value}
    {fMQu1 : Addr} {ocMQu1 : Value} {odMQu1 anMQu1 : Option Addr} {oslMQu1 : Array (Option Value)} {kVMQu1 docMQu1 pmMQu1 cdMQu1 ctMQu1 : Value}
    {fMQu2 : Addr} {ocMQu2 : Value} {odMQu2 anMQu2 : Option Addr} {oslMQu2 : Array (Option Value)} {kVMQu2 docMQu2 pmMQu2 cdMQu2 ctMQu2 : Value}
    {fMQu3 : Addr} {ocMQu3 : Value} {odMQu3 anMQu3 : Option Addr} {oslMQu3 : Array (Option Value)} {kVMQu3 docMQu3 pmMQu3 cdMQu3 ctMQu3 : Value}
    (X : K.In h) (G : h.Ns mainGlobals mg) (hfa : mg "law" = some (.ref fa))
    (aCQu : PySem.W.nsIn K mainGlobals "Queue" = some (some (.ref cQu)))
    (a0 : PySem.W.nsIn K mainGlobals "_law_state" = some (some (.ref f0)))
    (l0 : K.lookup f0 = some ⟨oc0, od0, .func (PySem.W.fnOf "_law_state" "_law_state" (defArgs sState) (defBody sState) (defScope sState) .none kV0 doc0 pm0 an0 cd0 ct0), osl0⟩)
    (c0 : PySem.W.codeIn K cd0 "_law_state" = true)
    (k0 : PySem.W.keepIn K (.ref f0) = true)
    (a1 : PySem.W.nsIn K mainGlobals "_law_draw" = some (some (.ref f1)))
    (l1 : K.lookup f1 = some ⟨oc1, od1, .func (PySem.W.fnOf "_law_draw" "_law_draw" (defArgs sDraw) (defBody sDraw) (defScope sDraw) .none kV1 doc1 pm1 an1 cd1 ct1), osl1⟩)
    (c1 : PySem.W.codeIn K cd1 "_law_draw" = true)
    (k1 : PySem.W.keepIn K (.ref f1) = true)
    (a2 : PySem.W.nsIn K mainGlobals "_law_pick" = some (some (.ref f2)))
    (l2 : K.lookup f2 = some ⟨oc2, od2, .func (PySem.W.fnOf "_law_pick" "_law_pick" (defArgs sPick) (defBody sPick) (defScope sPick) .none kV2 doc2 pm2 an2 cd2 ct2), osl2⟩)
    (c2 : PySem.W.codeIn K cd2 "_law_pick" = true)
    (k2 : PySem.W.keepIn K (.ref f2) = true)
    (a3 : PySem.W.nsIn K mainGlobals "law" = some (some (.ref f3)))
    (l3 : K.lookup f3 = some ⟨oc3, od3, .func (PySem.W.fnOf "law" "law" (defArgs sLaw) (defBody sLaw) (defScope sLaw) .none kV3 doc3 pm3 an3 cd3 ct3), osl3⟩)
    (c3 : PySem.W.codeIn K cd3 "law" = true)
    (k3 : PySem.W.keepIn K (.ref f3) = true)
    (zInt : PySem.W.nsIn K mainGlobals "int" = some none)
    (zAbs : PySem.W.nsIn K mainGlobals "abs" = some none)
    (zLen : PySem.W.nsIn K mainGlobals "len" = some none)
    (zRange : PySem.W.nsIn K mainGlobals "range" = some none)
    (zIsi : PySem.W.nsIn K mainGlobals "isinstance" = some none)
    (zBool : PySem.W.nsIn K mainGlobals "bool" = some none)
    (zList : PySem.W.nsIn K mainGlobals "list" = some none)
    (aMQu0 : PySem.W.findIn K (.ref cQu) "__init__" = some (some (.ref fMQu0)))
    (iMQu0 : PySem.W.isFn K (.ref fMQu0) = true)
    (lMQu0 : K.lookup fMQu0 = some ⟨ocMQu0, odMQu0, .func (PySem.W.fnOf "__init__" "Queue.__init__" (defArgs qInit) (defBody qInit) (defScope qInit) .none kVMQu0 docMQu0 pmMQu0 anMQu0 cdMQu0 ctMQu0), oslMQu0⟩)
    (cMQu0 : PySem.W.codeIn K cdMQu0 "Queue.__init__" = true)
    (kMQu0 : PySem.W.keepIn K (.ref fMQu0) = true)
    (aMQu1 : PySem.W.findIn K (.ref cQu) "put" = some (some (.ref fMQu1)))
    (iMQu1 : PySem.W.isFn K (.ref fMQu1) = true)
    (lMQu1 : K.lookup fMQu1 = some ⟨ocMQu1, odMQu1, .func (PySem.W.fnOf "put" "Queue.put" (defArgs qPut) (defBody qPut) (defScope qPut) .none kVMQu1 docMQu1 pmMQu1 anMQu1 cdMQu1 ctMQu1), oslMQu1⟩)
    (cMQu1 : PySem.W.codeIn K cdMQu1 "Queue.put" = true)
    (kMQu1 : PySem.W.keepIn K (.ref fMQu1) = true)
    (aMQu2 : PySem.W.findIn K (.ref cQu) "take" = some (some (.ref fMQu2)))
    (iMQu2 : PySem.W.isFn K (.ref fMQu2) = true)
    (lMQu2 : K.lookup fMQu2 = some ⟨ocMQu2, odMQu2, .func (PySem.W.fnOf "take" "Queue.take" (defArgs qTake) (defBody qTake) (defScope qTake) .none kVMQu2 docMQu2 pmMQu2 anMQu2 cdMQu2 ctMQu2), oslMQu2⟩)
    (cMQu2 : PySem.W.codeIn K cdMQu2 "Queue.take" = true)
    (kMQu2 : PySem.W.keepIn K (.ref fMQu2) = true)
    (aMQu3 : PySem.W.findIn K (.ref cQu) "waiting" = some (some (.ref fMQu3)))
    (iMQu3 : PySem.W.isFn K (.ref fMQu3) = true)
    (lMQu3 : K.lookup fMQu3 = some ⟨ocMQu3, odMQu3, .func (PySem.W.fnOf "waiting" "Queue.waiting" (defArgs qWait) (defBody qWait) (defScope qWait) .none kVMQu3 docMQu3 pmMQu3 anMQu3 cdMQu3 ctMQu3), oslMQu3⟩)
    (cMQu3 : PySem.W.codeIn K cdMQu3 "Queue.waiting" = true)
    (kMQu3 : PySem.W.keepIn K (.ref fMQu3) = true)
    (pgQu : PySem.W.plainGet K cQu Str.empty = true)
    (hdQu : PySem.W.hasDictIn K cQu = true)
    (poQu : PySem.W.plainOver K cQu = true)
    (saQu : PySem.W.findIn K (.ref cQu) "__setattr__" = some (some (.builtin "object.__setattr__")))
    (mkQu : PySem.W.makesIn K cQu = true)
    (kcQu : PySem.W.keepIn K (.ref cQu) = true)
    (nQu_capacity : PySem.W.findIn K (.ref cQu) "capacity" = some none)
    (nQu_gap : PySem.W.findIn K (.ref cQu) "gap" = some none)
    (nQu_held : PySem.W.findIn K (.ref cQu) "held" = some none)
    (nQu_ready : PySem.W.findIn K (.ref cQu) "ready" = some none)
    : ∃ fd : FuncData, (∀ (s : Shared) (u : Value), BindsTo s fd ⟨[u], []⟩ [("script", u)]) ∧ ∀ base : Heap, K.In base → base.Ns mainGlobals mg → FnOk P w K mg base CX0 3 fa fd ["script"] (spLaw K) := by
  have e := hfa.symm.trans (PySem.W.mg_of X G a3)
  cases e
  have A0 : AtD K mg "_law_state" sState ["script"] := at_of_name X G a0 l0 c0 k0 fun _ _ _ _ _ _ us hl => match us, hl with | [_], _ => rfl
  have A1 : AtD K mg "_law_draw" sDraw ["state", "many"] := at_of_name X G a1 l1 c1 k1 fun _ _ _ _ _ _ us hl => match us, hl with | [_, _], _ => rfl
  have A2 : AtD K mg "_law_pick" sPick ["state", "row"] := at_of_name X G a2 l2 c2 k2 fun _ _ _ _ _ _ us hl => match us, hl with | [_, _], _ => rfl
  refine ⟨PySem.W.fnOf "law" "law" (defArgs sLaw) (defBody sLaw) (defScope sLaw) .none kV3 doc3 pm3 an3 cd3 ct3, fun s u => .of_eq rfl, fun base _ _ => ?_⟩
  have FMQu0 := fun_mk (st := qInit) lMQu0 cMQu0 kMQu0
  have BMQu0 := FMQu0.binds (ps := ["self", "capacity", "gap"]) fun _ _ _ _ _ _ us hl => match us, hl with | [_, _, _], _ => rfl
  have FMQu1 := fun_mk (st := qPut) lMQu1 cMQu1 kMQu1
  have BMQu1 := FMQu1.binds (ps := ["self", "item"]) fun _ _ _ _ _ _ us hl => match us, hl with | [_, _], _ => rfl
  have FMQu2 := fun_mk (st := qTake) lMQu2 cMQu2 kMQu2
  have BMQu2 := FMQu2.binds (ps := ["self", "tick"]) fun _ _ _ _ _ _ us hl => match us, hl with | [_, _], _ => rfl
  have FMQu3 := fun_mk (st := qWait) lMQu3 cMQu3 kMQu3
  have BMQu3 := FMQu3.binds (ps := ["self"]) fun _ _ _ _ _ _ us hl => match us, hl with | [_], _ => rfl
  have Bt : Blt mg := ⟨PySem.W.mg_none_of X G zInt, PySem.W.mg_none_of X G zAbs, PySem.W.mg_none_of X G zLen⟩
  have T : Bk mg := ⟨PySem.W.mg_none_of X G zLen, PySem.W.mg_none_of X G zRange, PySem.W.mg_none_of X G zIsi, PySem.W.mg_none_of X G zBool⟩
  have RC : QuC K cQu := ⟨⟨pgQu, hdQu, poQu, saQu⟩, nQu_capacity, nQu_gap, nQu_held, nQu_ready⟩
  have Mput : Mt P w K mg base CX0 1 cQu "put" ["self", "item"] (spqPut cQu) := ⟨_, _, ok_qPut (k := 0) FMQu1 RC Bt, ⟨aMQu1, iMQu1, kMQu1⟩, BMQu1⟩
  have Mtake : Mt P w K mg base CX0 1 cQu "take" ["self", "tick"] (spqTake cQu) := ⟨_, _, ok_qTake (k := 0) FMQu2 RC, ⟨aMQu2, iMQu2, kMQu2⟩, BMQu2⟩
  have Mwait : Mt P w K mg base CX0 1 cQu "waiting" ["self"] (spqWait cQu) := ⟨_, _, ok_qWait (k := 0) FMQu3 RC (PySem.W.mg_none_of X G zList), ⟨aMQu3, iMQu3, kMQu3⟩, BMQu3⟩
  have M : Qm P w K mg base cQu := ⟨RC, Mput, Mtake, Mwait, ⟨_, _, ok_qInit (k := 0) FMQu0 RC, ⟨mkQu, aMQu0, iMQu0, kcQu⟩, BMQu0, PySem.W.mg_of X G aCQu⟩⟩
  have D1 : Df P w K mg base CX0 1 "_law_state" ["script"] (spState K) := A0.df fun f fd F => ok_state (k := 0) F Bt
  have D2 : Df P w K mg base CX0 1 "_law_draw" ["state", "many"] (spDraw) := A1.df fun f fd F => ok_draw (k := 0) F Bt
  obtain ⟨fD, fdD, GD, gD, kD, bD⟩ := D2.ex
  have D3 : Df P w K mg base CX0 2 "_law_pick" ["state", "row"] (spPick K) := A2.df fun f fd F => ok_pick (k := 0) F Bt GD gD kD bD
  exact ok_law (fun_mk (st := sLaw) l3 c3 k3) T M D1 D2 D3
theorem walk {l : PySem.W.OpenLaw} {q : Program} {loose : List Str} {XP : (Str → Option Value) → Heap → Prop} {YP : World → Heap → Prop} {d : DefRec} {K : Params → PySem.W.Frag} (hn : l.most = some 63) (hdf : d.params.defaults = [])
    (hY : ∀ (w : World) (h : Heap), YP w h → (K w.params).In h)
    (F : ∀ (w : World) (mg : Str → Option Value) (fa : Addr) (h : Heap), (K w.params).In h → h.Ns mainGlobals mg → mg d.name = some (.ref fa) →
      ∃ fd : FuncData, (∀ (s : Shared) (u : Value), BindsTo s fd ⟨[u], []⟩ [("script", u)]) ∧ ∀ base : Heap, (K w.params).In base → base.Ns mainGlobals mg → FnOk l.prog w (K w.params) mg base CX0 3 fa fd ["script"] (spLaw (K w.params))) :
    PySem.W.WalkO q loose XP YP l.row.toRowW d [] (fun f vs => PySem.call f vs) :=
  L2.walk_of (n := 63) (k := 3) (x := "script") (CX := fun _ => CX0) (sp := fun w => spLaw (K w.params)) hn (by decide) hdf ⟨rfl, by decide, by decide⟩ hY F (fun _ _ a ns hl _ hS => ⟨a, ns, rfl, hS, hl, fun _ => rfl⟩) fun _ _ _ _ _ z => z
end Pk
open PySem PySem.W PyProof.Rows
set_option maxRecDepth 100000 in
set_option maxHeartbeats 0 in
theorem PySem.Challenge.cw_wholepackets_k31_queues_with_gaps_holds : PySem.Challenge.rw_wholepackets_k31_queues_with_gaps.Holds := by
  w_on; o_law; k_head; (case hw => w_witness2)
  k_fill
  refine Pk.walk (l := PySem.Challenge.rw_wholepackets_k31_queues_with_gaps) rfl rfl (fun w h Y => PySem.W.kIn_of Y) ?F
  case F =>
    intro w mg fa h KX G hmg
    refine' Pk.all_mk KX G hmg ?aCQu ?a0 ?l0 ?c0 ?k0 ?a1 ?l1 ?c1 ?k1 ?a2 ?l2 ?c2 ?k2 ?a3 ?l3 ?c3 ?k3 ?zInt ?zAbs ?zLen ?zRange ?zIsi ?zBool ?zList ?aMQu0 ?iMQu0 ?lMQu0 ?cMQu0 ?kMQu0 ?aMQu1 ?iMQu1 ?lMQu1 ?cMQu1 ?kMQu1 ?aMQu2 ?iMQu2 ?lMQu2 ?cMQu2 ?kMQu2 ?aMQu3 ?iMQu3 ?lMQu3 ?cMQu3 ?kMQu3 ?pgQu ?hdQu ?poQu ?saQu ?mkQu ?kcQu ?nQu_capacity ?nQu_gap ?nQu_held ?nQu_ready
    (case aCQu => k_is)
    (case a0 => k_is)
    (case l0 => k_is)
    (case c0 => k_is)
    (case k0 => k_is)
    (case a1 => k_is)
    (case l1 => k_is)
    (case c1 => k_is)
    (case k1 => k_is)
    (case a2 => k_is)
    (case l2 => k_is)
    (case c2 => k_is)
    (case k2 => k_is)
    (case a3 => k_is)
    (case l3 => k_is)
    (case c3 => k_is)
    (case k3 => k_is)
    (case zInt => k_is)
    (case zAbs => k_is)
    (case zLen => k_is)
    (case zRange => k_is)
    (case zIsi => k_is)
    (case zBool => k_is)
    (case zList => k_is)
    (case aMQu0 => k_is)
    (case iMQu0 => k_is)
    (case lMQu0 => k_is)
    (case cMQu0 => k_is)
    (case kMQu0 => k_is)
    (case aMQu1 => k_is)
    (case iMQu1 => k_is)
    (case lMQu1 => k_is)
    (case cMQu1 => k_is)
    (case kMQu1 => k_is)
    (case aMQu2 => k_is)
    (case iMQu2 => k_is)
    (case lMQu2 => k_is)
    (case cMQu2 => k_is)
    (case kMQu2 => k_is)
    (case aMQu3 => k_is)
    (case iMQu3 => k_is)
    (case lMQu3 => k_is)
    (case cMQu3 => k_is)
    (case kMQu3 => k_is)
    (case pgQu => k_is)
    (case hdQu => k_is)
    (case poQu => k_is)
    (case saQu => k_is)
    (case mkQu => k_is)
    (case kcQu => k_is)
    (case nQu_capacity => k_is)
    (case nQu_gap => k_is)
    (case nQu_held => k_is)
    (case nQu_ready => k_is)
