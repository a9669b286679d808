import PyProof.Rows.All
import Wide.All
import OpenK.AllK
import Wide.FinOn
import HandS.ForMost
import HandS.Wide
import HandS.Codes
import HandS.IsInst
import HandS.IntHex
import HandS.AnyAll
import HandS.Walk
import HandS.Flow
import HandS.StrMore
import HandS.EndTab
import HandS.Ends
import HandS.Base
import HandS.Call
import HandS.More
import HandS.Words
import HandS.Defaults
import HandS.Style
import HandS.Head0
import HandS.Head1
import HandS.Head2
import HandS.HeadEnd
import HandS.HeadHook1
import HandS.HeadHook2
import HandS.Exc
import HandS.ExcInit
import KE.KExcSuper
import KE.KExcMake
import PyProof.FString
import PyProof.FString4
import HandS.ExcOwn
import HandS.ExcIs
import HandS.ExcField
import HandS.TryOnly
import KE.KStateDown
import KE.KNest
import HandS.Lambda
import KE.KTryMore
import KE.KExcIs
import HandS.WordsExc
import HandS.Deep
import HandS.Dict
import HandS.Text
import HandS.StrSplit
import HandS.Iter
import HandS.DictSub
import HandS.List
import KE.KRevSl
import HandS.Evl
import PySem.Challenge.RW_wholepackets_k49_whole_grammar_with_any
set_option Elab.async false
set_option linter.all false
set_option maxRecDepth 100000
set_option maxHeartbeats 4000000
namespace Pk
open PySem PySem.Spec PyProof.Rows L2
def StAt (H : Hp) (s c : Addr) : Prop := ∃ (cells : List Int) (seed : Int), H s = some (.lst [.ref c, .int seed]) ∧ H c = some (.lst (cells.map V.int)) ∧
  (∀ z ∈ cells, 0 ≤ z) ∧ 0 ≤ seed ∧ seed < 2147483648
theorem StAt.ne {H : Hp} {s c : Addr} (h : StAt H s c) : s ≠ c := by
  obtain ⟨cells, seed, h1, h2, _⟩ := h
  refine ne_of h1 h2 fun z => ?_
  have z' := HO.lst.inj z
  cases cells with
  | nil => cases z'
  | cons a r =>
    have e : V.ref c = V.int a := (List.cons.inj z').1
    cases e
/-- what stood beside s and c stands -/
def Kp (s c : Addr) (H H' : Hp) : Prop := ∀ b o, b ≠ s → b ≠ c → H b = some o → H' b = some o
theorem Kp.refl (s c : Addr) (H : Hp) : Kp s c H H := fun _ _ _ _ e => e
theorem Kp.trans {s c : Addr} {H H1 H2 : Hp} (a : Kp s c H H1) (b : Kp s c H1 H2) : Kp s c H H2 := fun x o h1 h2 e => b x o h1 h2 (a x o h1 h2 e)
theorem Kp.same {s c : Addr} {H H1 : Hp} (a : Same H H1) : Kp s c H H1 := fun x o _ _ e => a x o e
theorem Kp.new {s c p : Addr} {H : Hp} {o : HO} (h : H p = none) : Kp s c H (upd H p o) := fun b u _ _ e => by
  rw [upd_ne (ne_of_none e h)]
  exact e
theorem same_new {p : Addr} {H : Hp} {o : HO} (h : H p = none) : Same H (upd H p o) := fun b u e => by
  rw [upd_ne (ne_of_none e h)]
  exact e
theorem StAt.same {H H' : Hp} {s c : Addr} (h : StAt H s c) (k : Same H H') : StAt H' s c := by
  obtain ⟨cells, seed, h1, h2, h3⟩ := h
  exact ⟨cells, seed, k _ _ h1, k _ _ h2, h3⟩
theorem StAt.upd {H : Hp} {s c p : Addr} {o : HO} (h : StAt H s c) (n1 : p ≠ s) (n2 : p ≠ c) : StAt (upd H p o) s c := by
  obtain ⟨cells, seed, h1, h2, h3⟩ := h
  exact ⟨cells, seed, by rw [upd_ne (Ne.symm n1)]; exact h1, by rw [upd_ne (Ne.symm n2)]; exact h2, h3⟩
theorem StAt.new {H : Hp} {s c p : Addr} {o : HO} (h : StAt H s c) (n : H p = none) : StAt (L2.upd H p o) s c := h.same (same_new n)
def spState (K : PySem.W.Frag) : Sp := fun vs H Q _ => ∃ (a : Addr) (ns : List Int), vs = [.ref a] ∧ SqL K H a (ns.map V.int) ∧ ns.length ≤ 63 ∧
  ∀ (H' : Hp) (s c : Addr), Same H H' → H s = none → H c = none → StAt H' s c → Q (.ref s) H'
def spDraw : Sp := fun vs H Q _ => ∃ (s c : Addr) (many : Int), vs = [.ref s, .int many] ∧ StAt H s c ∧ 0 < many ∧ many ≤ 1099511627776 ∧
  ∀ (H' : Hp) (r : Int), 0 ≤ r → r < many → StAt H' s c → Kp s c H H' → Q (.int r) H'
def spPick (K : PySem.W.Frag) : Sp := fun vs H Q _ => ∃ (s c p : Addr) (xs : List V), vs = [.ref s, .ref p] ∧ StAt H s c ∧ SqL K H p xs ∧ p ≠ s ∧ p ≠ c ∧ 0 < xs.length ∧ xs.length ≤ 1000 ∧
  ∀ (H' : Hp) (i : Nat) (x : V), xs[i]? = some x → StAt H' s c → Kp s c H H' → Q x H'
theorem Kp.seq {K : PySem.W.Frag} {s c p : Addr} {H H' : Hp} {xs : List V} (k : Kp s c H H') (h : SqL K H p xs) (n1 : p ≠ s) (n2 : p ≠ c) : SqL K H' p xs := by
  rcases h with (h | ⟨o, h⟩) | h
  · exact .inl (.inl (k _ _ n1 n2 h))
  · exact .inl (.inr ⟨o, k _ _ n1 n2 h⟩)
  · exact .inr h
theorem iteD {p A B : Prop} [Decidable p] (h1 : p → A) (h2 : ¬ p → B) : if decide p = true then A else B := by
  by_cases h : p
  · rw [if_pos (decide_eq_true h)]
    exact h1 h
  · rw [decide_eq_false h, if_neg Bool.false_ne_true]
    exact h2 h
theorem iteDT {p A B : Prop} [Decidable p] (h : p) (h1 : A) : if decide p = true then A else B := by
  rw [if_pos (decide_eq_true h)]
  exact h1
theorem iteDF {p A B : Prop} [Decidable p] (h : ¬ p) (h1 : B) : if decide p = true then A else B := by
  rw [decide_eq_false h, if_neg Bool.false_ne_true]
  exact h1
theorem dcInt {i j : Int} : decide (V.int i = V.int j) = decide (i = j) := by
  by_cases h : i = j
  · rw [h, decide_eq_true rfl, decide_eq_true rfl]
  · rw [decide_eq_false h, decide_eq_false fun z => h (V.int.inj z)]
/-- built-ins that the law's own text does not name anew -/
structure Blt (mg : Str → Option Value) : Prop where
  zInt : mg "int" = none
  zAbs : mg "abs" = none
  zLen : mg "len" = none
end Pk
set_option Elab.async false
set_option linter.all false
set_option maxRecDepth 100000
set_option maxHeartbeats 4000000
namespace Pk
open PySem PySem.Spec PyProof.Rows L2
structure FnG (P : Program) (w : World) (K : PySem.W.Frag) (mg : Str → Option Value) (base : Heap) (CX : CXT) (k : Nat) (f : Addr) (fd : FuncData) (ps : List Str) (sp : Sp) : Prop where
  len : ∀ (vs : List V) (H : Hp) (Q : VK) (E : XK), sp vs H Q E → vs.length = ps.length
  run : ∀ (A : Around) (outer : List Env) (s : Shared) (H : Hp) (args : Args) (us : List Value) (vs : List V) (Q : VK) (E : XK), A.guards = some [] → Room k A → Env0 P w K mg base A outer s H → BindsTo s fd args (ps.zip us) → Vals vs us → sp vs H Q E →
    codeAny (model P w) A (Code.call (Value.ref f) args) (CR CX outer P w H s Q E) s
theorem fn_ofG {CX : CXT} {P : Program} {w : World} {K : PySem.W.Frag} {mg : Str → Option Value} {base : Heap} {k : Nat} {f : Addr} {name qual : Str} {params : Arguments} {body : List Stmt} {scope : Scope} {dV kV doc pm cdv ct oc : Value}
    {an od : Option Addr} {osl : Array (Option Value)} {N ps : List Str} {sp : Sp}
    (lk : List.lookup f K = some { cls := oc, dict := od, data := Data.func (PySem.W.fnOf name qual params body scope dV kV doc pm an cdv ct), slots := osl })
    (hcd : PySem.W.codeIn K cdv qual = true) (S : FnScope N ps scope) (len : ∀ (vs : List V) (H : Hp) (Q : VK) (E : XK), sp vs H Q E → vs.length = ps.length)
    (hbody : ∀ (A : Around) (outer : List Env) (s : Shared) (H : Hp) (vs : List V) (Q : VK) (E : XK), A.guards = some [] → Room k (A.deeper (envOfC qual scope s.heap.objs.size f cdv)) → sp vs H Q E →
      ∃ t, PSs (cxOf CX P w K mg base N qual scope f cdv A outer s H E) body t ∧ t { nx := fun x H' => Q V.non H', rt := Q } (L2.start N vs) H) :
    FnG P w K mg base CX (k + 1) f (PySem.W.fnOf name qual params body scope dV kV doc pm an cdv ct) ps sp := by
  refine ⟨len, fun A outer s H args us vs Q E hg hr e0 hb r hsp => ?_⟩
  have hl := len vs H Q E hsp
  have KX := PySem.W.Frag.In.keeps e0.mod.kin fun b o e => (e0.bs b o e).left
  have lim := Heap.NoLimit.keeps e0.mod.nolimit fun b o e => (e0.bs b o e).left
  refine codeAny_call_function (Room.depth hr) (KX f _ lk) rfl S.co S.gen rfl (PySem.W.codeRec_of KX hcd) (hb (model P w) A.in1 _ _ (wpAny_newFunctionEnv_cells S.kind ?_ fun env he s1 x => ?_))
  · rintro ⟨n, v⟩ hy
    rcases S.par n (List.of_mem_zip hy).left with q | q
    · exact Or.inl q
    · exact Or.inr ⟨q, PySem.W.cellsFrom_some scope.names (s.heap.objs.size + 1) [] (Or.inl q)⟩
  · subst he
    refine ⟨Heap.NoLimit.keeps lim x.toInCall.keep, codeAny_func ?_⟩
    obtain ⟨t, ht, hq⟩ := hbody A outer s H vs Q E hg (Room.deeper hr (envOfC qual scope s.heap.objs.size f cdv)) hsp
    refine wpAny_mono (ht.run [] s1 (L2.start N vs) H { nx := fun x H' => Q V.non H', rt := Q } (inv_start S hr.hd e0 hl r x) hq) (fun fl s' hs => ?_) (fun e s' hs => hs)
    cases fl with
    | next =>
      obtain ⟨σ', H', J, q⟩ := hs
      exact ⟨V.non, H', J.os, J.bare, J.base, J.hok, rfl, q⟩
    | ret u =>
      obtain ⟨v, σ', H', J, rv, q⟩ := hs
      exact ⟨v, H', J.os, J.bare, J.base, J.hok, rv, q⟩
    | _ =>
      obtain ⟨_, _, _, q⟩ := hs
      exact q.elim
theorem okG {P : Program} {w : World} {K : PySem.W.Frag} {mg : Str → Option Value} {base : Heap} {x qual : Str} {st : Stmt} {f : Addr} {fd : FuncData} {N ps : List Str} {k : Nat} {sp : Sp} (F : Fun K x qual st f fd) (S : FnScope N ps (defScope st))
    (len : ∀ (vs : List V) (H : Hp) (Q : VK) (E : XK), sp vs H Q E → vs.length = ps.length)
    (hbody : ∀ (cdv : Value) (A : Around) (outer : List Env) (s : Shared) (H : Hp) (vs : List V) (Q : VK) (E : XK), A.guards = some [] → Room k (A.deeper (envOfC qual (defScope st) s.heap.objs.size f cdv)) → sp vs H Q E →
      ∃ t, PSs (cxOf CX0 P w K mg base N qual (defScope st) f cdv A outer s H E).nox (defBody st) t ∧ t { nx := fun x H' => Q V.non H', rt := Q } (L2.start N vs) H) :
    FnG P w K mg base CX0 (k + 1) f fd ps sp := by
  obtain ⟨oc, od, kV, doc, pm, an, cdv, ct, osl, rfl, lk, hcd⟩ := F.ex
  refine fn_ofG lk hcd S len fun A outer s H vs Q E hg hr hsp => ?_
  obtain ⟨t, h, q⟩ := hbody cdv A outer s H vs Q E hg hr hsp
  exact ⟨t, PSs.nox h, q⟩
end Pk
set_option Elab.async false
set_option linter.all false
set_option maxRecDepth 100000
set_option maxHeartbeats 4000000
namespace Pk
open PySem PySem.Spec PyProof.Rows L2
end Pk
set_option Elab.async false
set_option linter.all false
set_option maxRecDepth 100000
set_option maxHeartbeats 4000000
namespace Tk
open PySem L2 SX
def lettersS : Str := Str.ofString "abcdefghijklmnopqrstuvwxyzABCDEFGHIJKLMNOPQRSTUVWXYZ"
def digitsS : Str := Str.ofString "0123456789"
def hexS : Str := Str.ofString "0123456789abcdef"
abbrev letters : List Nat := lettersS.cps.toList
abbrev digits : List Nat := digitsS.cps.toList
abbrev hexes : List Nat := hexS.cps.toList
def words : List Str := ["accept", "action", "add", "apply", "control", "default", "drop", "else", "emit", "exact", "extract", "go", "header", "if", "key", "mask", "meta", "not", "packet", "parser", "prefix", "program", "reject", "remove", "select", "send", "size", "state", "table", "use", "valid"].map Str.ofString
def longs : List Str := [Str.ofString "==", Str.ofString "->"]
def shorts : List Str := ["{", "}", "(", ")", ":", ";", ",", ".", "=", "<", "+", "-", "&", "|", "^"].map Str.ofString
def inRun (c : Nat) : Bool := decide (c ∈ letters) || decide (c ∈ digits) || decide (c = 95)
def isHexed (p : List Nat) : Bool := decide (p.take 2 = [48, 120])
def allIn (p l : List Nat) : Bool := p.all fun c => decide (c ∈ l)
def isNum (p : List Nat) : Bool :=
  if isHexed p = true then decide (1 ≤ (p.drop 2).length) && decide ((p.drop 2).length ≤ 8) && allIn (p.drop 2) hexes
  else if p.take 1 = [48] then decide (p = [48])
  else if 10 < p.length then false else allIn p digits && decide (NumText.digitsVal p ≤ 4294967295)
def numVal (p : List Nat) : Nat := if isHexed p = true then Hx.hexNum (p.drop 2) else NumText.digitsVal p
def headIn (l p : List Nat) : Bool := match p with
  | [] => false
  | c :: _ => decide (c ∈ l)
/-- a run's or a sign's token: its kind and value -/
def tokOf (p : List Nat) : Option (Str × V) :=
  if headIn letters p = true ∧ p.length ≤ 16 then
    (if S p ∈ words then some (Str.ofString "word", .str (S p)) else some (Str.ofString "name", .str (S p)))
  else if isNum p = true then some (Str.ofString "number", .int (numVal p))
  else if S p ∈ longs ∨ S p ∈ shorts then some (Str.ofString "sign", .str (S p)) else none
/-- how long the run or the sign is that stands at the head -/
def partLen (t : List Nat) : Nat :=
  if headIn (letters ++ digits ++ [95]) t = true then (t.takeWhile inRun).length
  else if S (t.take 2) ∈ longs then 2 else 1
abbrev Tok := Str × V × Nat
def endTok (l : Nat) : Tok := (Str.ofString "end", .str (Str.ofString ""), l)
/-- a token ahead of the others -/
def ahead (kv : Option (Str × V)) (l : Nat) (rest : Except Nat (List Tok)) : Except Nat (List Tok) := match kv with
  | none => .error l
  | some (k, v) => match rest with
    | .error e => .error e
    | .ok ts => .ok ((k, v, l) :: ts)
/-- the tokens of a text that begins in line l; .error: the line of the first part that is none -/
def toks : Nat → Nat → List Nat → Except Nat (List Tok)
  | _, l, [] => .ok [endTok l]
  | 0, l, _ :: _ => .error l
  | f + 1, l, c :: r =>
    if c = 35 then toks f l (r.dropWhile (· ≠ 10))
    else if c = 32 then toks f l r
    else if c = 10 then toks f (l + 1) r
    else ahead (tokOf ((c :: r).take (partLen (c :: r)))) l (toks f l ((c :: r).drop (partLen (c :: r))))
theorem toks_cons (f l c : Nat) (r : List Nat) : toks (f + 1) l (c :: r) = if c = 35 then toks f l (r.dropWhile (· ≠ 10))
    else if c = 32 then toks f l r
    else if c = 10 then toks f (l + 1) r
    else ahead (tokOf ((c :: r).take (partLen (c :: r)))) l (toks f l ((c :: r).drop (partLen (c :: r)))) := by rw [toks]
theorem dropWhile_le {α : Type} (p : α → Bool) : ∀ l : List α, (l.dropWhile p).length ≤ l.length
  | [] => Nat.le_refl _
  | a :: l => by
    rw [List.dropWhile_cons]
    split
    · exact Nat.le_succ_of_le (dropWhile_le p l)
    · exact Nat.le_refl _
theorem inRun_iff (c : Nat) : inRun c = headIn (letters ++ digits ++ [95]) (c :: r) := by
  unfold inRun headIn
  rw [Bool.eq_iff_iff]
  simp [List.mem_append, or_assoc]
theorem partLen_pos (c : Nat) (r : List Nat) : 1 ≤ partLen (c :: r) := by
  unfold partLen
  split
  · rename_i h
    rw [← inRun_iff (r := r)] at h
    rw [List.takeWhile_cons, if_pos h]
    simp
  · split <;> omega
/-- more fuel than signs changes nothing -/
theorem toks_fuel : ∀ (n f : Nat) (l : Nat) (t : List Nat), t.length ≤ n → n ≤ f → toks f l t = toks n l t := by
  intro n
  induction n with
  | zero =>
    intro f l t h1 h2
    cases t with
    | nil => cases f <;> rfl
    | cons c r => simp at h1
  | succ n ih =>
    intro f l t h1 h2
    cases t with
    | nil => cases f <;> rfl
    | cons c r =>
      obtain ⟨g, rfl⟩ : ∃ g, f = g + 1 := ⟨f - 1, by omega⟩
      have hr : r.length ≤ n := by simpa using h1
      have hd : (r.dropWhile (· ≠ 10)).length ≤ n := Nat.le_trans (dropWhile_le _ _) hr
      have hp : ((c :: r).drop (partLen (c :: r))).length ≤ n := by
        have := partLen_pos c r
        rw [List.length_drop, List.length_cons]
        omega
      rw [toks_cons, toks_cons, ih g l _ hd (by omega), ih g l r hr (by omega), ih g (l + 1) r hr (by omega), ih g l _ hp (by omega)]
/-- the tokens of a text that begins in line l -/
def toksT (l : Nat) (t : List Nat) : Except Nat (List Tok) := toks t.length l t
theorem toksT_nil (l : Nat) : toksT l [] = .ok [endTok l] := rfl
theorem toksT_of {f l : Nat} {t : List Nat} (h : t.length ≤ f) : toks f l t = toksT l t := toks_fuel _ f l t (Nat.le_refl _) h
theorem toksT_hash (l : Nat) (r : List Nat) : toksT l (35 :: r) = toksT l (r.dropWhile (· ≠ 10)) := by
  rw [← toksT_of (f := r.length) (dropWhile_le _ _)]
  show toks (r.length + 1) l (35 :: r) = _
  rw [toks_cons, if_pos rfl]
theorem toksT_space (l : Nat) (r : List Nat) : toksT l (32 :: r) = toksT l r := by
  show toks (r.length + 1) l (32 :: r) = _
  rw [toks_cons, if_neg (by decide), if_pos rfl]
  rfl
theorem toksT_nl (l : Nat) (r : List Nat) : toksT l (10 :: r) = toksT (l + 1) r := by
  show toks (r.length + 1) l (10 :: r) = _
  rw [toks_cons, if_neg (by decide), if_neg (by decide), if_pos rfl]
  rfl
theorem toksT_part {l c : Nat} {r : List Nat} (h1 : c ≠ 35) (h2 : c ≠ 32) (h3 : c ≠ 10) :
    toksT l (c :: r) = ahead (tokOf ((c :: r).take (partLen (c :: r)))) l (toksT l ((c :: r).drop (partLen (c :: r)))) := by
  have hp : ((c :: r).drop (partLen (c :: r))).length ≤ r.length := by
    have := partLen_pos c r
    rw [List.length_drop, List.length_cons]
    omega
  show toks (r.length + 1) l (c :: r) = _
  rw [toks_cons, if_neg h1, if_neg h2, if_neg h3, toksT_of hp]
end Tk
set_option Elab.async false
set_option linter.all false
set_option maxRecDepth 100000
set_option maxHeartbeats 4000000
namespace Pk
open PySem PySem.Spec PyProof.Rows L2 SX
/-- a tuple of the written part -/
def TupK (K : PySem.W.Frag) (p : Addr) (xs : List V) : Prop := ∃ (o : Obj) (its : Array Value) (n : Nat), K.lookup p = some o ∧ o.cls = .type "tuple" ∧ o.data = .seq its n ∧ its.size ≤ sizeLine ∧ Vals xs its.toList
theorem TupK.at {K : PySem.W.Frag} {p : Addr} {xs : List V} (h : TupK K p xs) (H : Hp) : SqT K H p xs := .inr h
/-- a def, under its name, that keeps its promise -/
structure Df (P : Program) (w : World) (K : PySem.W.Frag) (mg : Str → Option Value) (base : Heap) (CX : CXT) (k : Nat) (x : Str) (ps : List Str) (sp : Sp) : Prop where
  ex : ∃ (f : Addr) (fd : FuncData), FnOk P w K mg base CX k f fd ps sp ∧ mg x = some (.ref f) ∧ PySem.W.keepIn K (.ref f) = true ∧ Binds K fd ps []
/-- a def of the text as it stands under its name -/
structure AtD (K : PySem.W.Frag) (mg : Str → Option Value) (x : Str) (st : Stmt) (ps : List Str) : Prop where
  ex : ∃ (f : Addr) (fd : FuncData), Fun K x x st f fd ∧ mg x = some (.ref f) ∧ Binds K fd ps []
theorem AtD.df {P : Program} {w : World} {K : PySem.W.Frag} {mg : Str → Option Value} {base : Heap} {CX : CXT} {k : Nat} {x : Str} {st : Stmt} {ps : List Str} {sp : Sp} (A : AtD K mg x st ps)
    (h : ∀ (f : Addr) (fd : FuncData), Fun K x x st f fd → FnOk P w K mg base CX k f fd ps sp) : Df P w K mg base CX k x ps sp := by
  obtain ⟨f, fd, F, g, b⟩ := A.ex
  exact ⟨f, fd, h f fd F, g, F.kp, b⟩
theorem inV_strs {x : Str} : ∀ ws : List Str, inV (.str x) (ws.map V.str) = decide (x ∈ ws)
  | [] => by simp [inV]
  | w :: ws => by
    have ih := inV_strs (x := x) ws
    unfold inV at ih ⊢
    rw [List.map_cons, List.any_cons, ih]
    show ((w == x) || decide (x ∈ ws)) = _
    rw [Bool.eq_iff_iff, Bool.or_eq_true, beq_iff_eq, decide_eq_true_eq, decide_eq_true_eq, List.mem_cons]
    constructor
    · rintro (h | h)
      · exact .inl h.symm
      · exact .inr h
    · rintro (h | h)
      · exact .inl h.symm
      · exact .inr h
theorem inV_int {n : Int} : ∀ ws : List Str, inV (.int n) (ws.map V.str) = false
  | [] => by simp [inV]
  | w :: ws => by
    have ih := inV_int (n := n) ws
    unfold inV at ih ⊢
    rw [List.map_cons, List.any_cons, ih]
    rfl
theorem flat_strs (ws : List Str) : (ws.map V.str).all flatV = true := by
  rw [List.all_eq_true]
  intro x hx
  obtain ⟨y, _, rfl⟩ := List.mem_map.mp hx
  rfl
theorem dcStr {x y : Str} : decide (V.str x = V.str y) = decide (x = y) := by
  by_cases h : x = y
  · rw [h, decide_eq_true rfl, decide_eq_true rfl]
  · rw [decide_eq_false h, decide_eq_false fun z => h (V.str.inj z)]
theorem dcS {a b : List Nat} : decide (S a = S b) = decide (a = b) := by
  by_cases h : a = b
  · rw [h, decide_eq_true rfl, decide_eq_true rfl]
  · rw [decide_eq_false h, decide_eq_false fun z => h (S_inj z)]
/-- s[i:j], s[i:] -/
theorem cut2 (t : List Nat) (i j : Nat) : cutS (S t) (some (i : Int)) (some (j : Int)) = S ((t.drop i).take (j - i)) := by
  have hl : (S t).length = t.length := S_len t
  unfold cutS
  rw [HT.sIx_nat, HT.sIx_nat, hl]
  show S _ = S _
  congr 1
  show ((t.drop (min i t.length)).take (min j t.length - min i t.length)) = _
  by_cases hi : i ≤ t.length
  · rw [Nat.min_eq_left hi]
    by_cases hj : j ≤ t.length
    · rw [Nat.min_eq_left hj]
    · have e : min j t.length = t.length := by omega
      rw [e, List.take_of_length_le (by rw [List.length_drop]; exact Nat.le_refl _), List.take_of_length_le (by rw [List.length_drop]; omega)]
  · have e : min i t.length = t.length := by omega
    rw [e, List.drop_of_length_le (Nat.le_refl _), List.drop_of_length_le (show t.length ≤ i by omega), List.take_nil, List.take_nil]
theorem cut1f (t : List Nat) (i : Nat) : cutS (S t) (some (i : Int)) none = S (t.drop i) := by
  have hl : (S t).length = t.length := S_len t
  unfold cutS
  rw [HT.sIx_nat, HT.sIx_none, hl]
  show S _ = S _
  congr 1
  show ((t.drop (min i t.length)).take (t.length - min i t.length)) = _
  by_cases hi : i ≤ t.length
  · rw [Nat.min_eq_left hi, List.take_of_length_le (by rw [List.length_drop]; exact Nat.le_refl _)]
  · have e : min i t.length = t.length := by omega
    rw [e, List.drop_of_length_le (Nat.le_refl _), List.drop_of_length_le (show t.length ≤ i by omega), List.take_nil]
theorem starts2 (p q : List Nat) : Txt.startswith (S p) (S q) = decide (p.take q.length = q) := by
  unfold Txt.startswith
  rw [S_len, S_len, Nat.zero_add]
  have e : Builtin.Str.subAt (S p) (S q) 0 = decide (p.take q.length = q) := by
    unfold Builtin.Str.subAt
    rw [S_len, Nat.zero_add]
    show (p.toArray.extract 0 q.length == q.toArray) = _
    rw [Bool.eq_iff_iff, beq_iff_eq, decide_eq_true_eq]
    constructor
    · intro h
      have h2 := congrArg Array.toList h
      simpa using h2
    · intro h
      rw [List.extract_toArray]
      simp [h]
  rw [e]
  by_cases h : p.take q.length = q
  · have : q.length ≤ p.length := by
      have := congrArg List.length h
      rw [List.length_take] at this
      omega
    rw [decide_eq_true h, decide_eq_true this]
    rfl
  · rw [decide_eq_false h, Bool.and_false]
theorem takeWhile_self {α : Type} {p : α → Bool} : ∀ {l : List α}, (∀ x ∈ l, p x = true) → l.takeWhile p = l
  | [], _ => rfl
  | a :: l, h => by
    rw [List.takeWhile_cons, if_pos (h a List.mem_cons_self), takeWhile_self fun x hx => h x (List.mem_cons_of_mem _ hx)]
/-- where a sign is found from i on -/
theorem find_sign {t : List Nat} {i : Nat} (c : Nat) (hi : i ≤ t.length) :
    (Txt.find3 (S t) (S [c]) (i : Int) = -1 ∧ (t.drop i).takeWhile (· ≠ c) = t.drop i) ∨
    Txt.find3 (S t) (S [c]) (i : Int) = ((i + ((t.drop i).takeWhile (· ≠ c)).length : Nat) : Int) ∧ i + ((t.drop i).takeWhile (· ≠ c)).length < t.length := by
  have fi : fromIndex (S t).length (i : Int) = i := by
    unfold fromIndex
    rw [if_neg (by omega)]
    omega
  have gd : ∀ v, v < t.length → (S t).cps.getD v 0 = t[v]?.getD 0 := fun v hv => by
    simp [S, Array.getD, hv]
  rcases StrLaws.find3_spec (S t) c (i : Int) with ⟨h1, h2⟩ | ⟨k, h1, h2, h3, h4, h5⟩
  · refine .inl ⟨h1, ?_⟩
    refine takeWhile_self fun x hx => ?_
    obtain ⟨j, hj, rfl⟩ := List.getElem_of_mem hx
    rw [List.length_drop] at hj
    have := h2 (i + j) (by rw [fi]; omega) (by rw [S_len]; omega)
    rw [gd _ (by omega), List.getElem?_eq_getElem (by omega)] at this
    rw [List.getElem_drop]
    exact decide_eq_true this
  · rw [fi] at h2
    rw [S_len] at h3
    have key : ((t.drop i).takeWhile (· ≠ c)).length = k - i := by
      have hk : t.drop i = (t.drop i).take (k - i) ++ t.drop k := by
        have e := (List.take_append_drop (k - i) (t.drop i)).symm
        rw [List.drop_drop, show i + (k - i) = k by omega] at e
        exact e
      rw [hk, List.takeWhile_append_of_pos]
      · rw [List.drop_eq_getElem_cons h3, List.takeWhile_cons]
        have hc : t[k] = c := by
          have := h4
          rw [gd _ h3, List.getElem?_eq_getElem h3] at this
          exact this
        rw [if_neg (by simp [hc]), List.append_nil, List.length_take, List.length_drop]
        omega
      · intro x hx
        obtain ⟨j, hj, rfl⟩ := List.getElem_of_mem hx
        rw [List.length_take, List.length_drop] at hj
        have := h5 (i + j) (by rw [fi]; omega) (by omega)
        rw [gd _ (by omega), List.getElem?_eq_getElem (by omega)] at this
        rw [List.getElem_take, List.getElem_drop]
        exact decide_eq_true this
    refine .inr ⟨?_, ?_⟩
    · rw [h1, key, show i + (k - i) = k by omega]
    · rw [key]
      omega
end Pk
set_option Elab.async false
set_option linter.all false
set_option maxRecDepth 100000
set_option maxHeartbeats 4000000
namespace Pk
open PySem PySem.Spec PyProof.Rows L2
/-- a def of the top; a method -/
def dgl (x : Str) (st : Stmt) : He.DefD := ⟨(x, none), x, x, defArgs st, defBody st, defScope st, [], []⟩
def dme (c x q : Str) (st : Stmt) : He.DefD := ⟨(c, some x), x, q, defArgs st, defBody st, defScope st, [], []⟩
theorem fun_of_D {K : PySem.W.Frag} {x q : Str} {st : Stmt} {f : Addr} {fd : FuncData} (F : FunD K x q (defArgs st) (defBody st) (defScope st) [] [] f fd) : Fun K x q st f fd := by
  obtain ⟨oc, od, dV, kV, doc, pm, an, cdv, ct, osl, h1, h2, h3, h4, _⟩ := F.ex
  rcases h4 with ⟨_, rfl⟩ | ⟨z, _⟩
  · exact ⟨⟨oc, od, kV, doc, pm, an, cdv, ct, osl, h1, h2, h3⟩, F.kp⟩
  · exact absurd rfl z
section
variable {fa : List He.Fa} {fn : List He.DefD} {K : PySem.W.Frag} {h : Heap} {mg : Str → Option Value}
theorem hx_def (X : K.In h) (G : h.Ns mainGlobals mg) (c : He.SaysD fa fn K) (i j : Nat) {x : Str} {st : Stmt} {ps : List Str} (e1 : fn[i]? = some (dgl x st)) (e2 : fa[j]? = some (.glo x))
    (hb : ∀ (kV doc pm : Value) (an : Option Addr) (cdv ct : Value) (us : List Value), us.length = ps.length → bindArgs (PySem.W.fnOf x x (defArgs st) (defBody st) (defScope st) .none kV doc pm an cdv ct) ⟨us, []⟩ = pure (ps.zip us)) : AtD K mg x st ps := by
  obtain ⟨fd, F⟩ := c.def_ i e1
  have F := fun_of_D F
  exact ⟨_, fd, F, He.glo_ok X G (c.fact j e2), F.binds hb⟩
theorem hx_fun (c : He.SaysD fa fn K) (i : Nat) {x : Str} {st : Stmt} (e1 : fn[i]? = some (dgl x st)) : ∃ fd, Fun K x x st (He.ga K x) fd := by
  obtain ⟨fd, F⟩ := c.def_ i e1
  exact ⟨fd, fun_of_D F⟩
theorem hx_free (X : K.In h) (G : h.Ns mainGlobals mg) (c : He.SaysD fa fn K) (j : Nat) {x : Str} (e : fa[j]? = some (.free x)) : mg x = none := He.free_ok X G (c.fact j e)
theorem hx_glo (X : K.In h) (G : h.Ns mainGlobals mg) (c : He.SaysD fa fn K) (j : Nat) {x : Str} (e : fa[j]? = some (.glo x)) : mg x = some (.ref (He.ga K x)) := He.glo_ok X G (c.fact j e)
theorem hx_int (X : K.In h) (G : h.Ns mainGlobals mg) (c : He.SaysD fa fn K) (j : Nat) {x : Str} {i : Int} (e : fa[j]? = some (.int x i)) : ∃ u, mg x = some u ∧ RelV (.int i) u := by
  obtain ⟨t, h⟩ := He.int_ok X G (c.fact j e)
  exact ⟨_, h, t, rfl⟩
theorem hx_str (X : K.In h) (G : h.Ns mainGlobals mg) (c : He.SaysD fa fn K) (j : Nat) {x z : Str} (e : fa[j]? = some (.str x z)) : ∃ u, mg x = some u ∧ RelV (.str z) u := by
  obtain ⟨t, h⟩ := He.str_ok X G (c.fact j e)
  exact ⟨_, h, t, rfl⟩
theorem hx_tup (X : K.In h) (G : h.Ns mainGlobals mg) (c : He.SaysD fa fn K) (j : Nat) {x : Str} {vs : List He.Dv} (e : fa[j]? = some (.glo x)) (b : He.tupB K x vs = true) : ∃ p, mg x = some (.ref p) ∧ TupK K p (vs.map (He.Dv.v K)) := by
  refine ⟨_, He.glo_ok X G (c.fact j e), ?_⟩
  rcases He.tupB_ok b (fun _ => none) with h | h
  · rcases h with h | ⟨_, h⟩ <;> cases h
  · exact h
theorem hx_cls (c : He.SaysD fa fn K) (j : Nat) {x : Str} (e : fa[j]? = some (.cls x)) : Cls K (He.ga K x) := He.cls_ok (c.fact j e)
theorem hx_no (c : He.SaysD fa fn K) (j : Nat) {x f : Str} (e : fa[j]? = some (.noat x f)) : NoAttr K (He.ga K x) f := He.noat_ok (c.fact j e)
end
end Pk
set_option Elab.async false
set_option linter.all false
set_option maxRecDepth 100000
set_option maxHeartbeats 4000000
namespace PySem
namespace ErX
open PySem.W PySem.Calls PyProof.Rows PySem.HandSPX
structure PsX where
  (a1 a2 b1 b2 b3 b4 b5 b6 b7 b8 b9 c1 c2 c3 c4 : Pos)
def iA (l : Str) (p : PsX) : Arguments := { posonlyargs := [], args := [{ arg := "self", annotation := none, pos := p.a1 }, { arg := l, annotation := none, pos := p.a2 }], vararg := none, kwonlyargs := [], kw_defaults := [], kwarg := none, defaults := [] }
def iC (l pre : Str) (p : PsX) : Expr := .Call (.Attribute (.Call (.Name "super" p.b1) [] [] p.b2) "__init__" p.b3) [.JoinedStr [.Constant (.str pre) 0 p.b4, .FormattedValue (.Name l p.b5) (-1) none p.b6] p.b7] [] p.b8
def iB (l pre : Str) (p : PsX) : List Stmt := [.Expr (iC l pre p) p.b9, .Assign [.Attribute (.Name "self" p.c1) l p.c2] (.Name l p.c3) p.c4]
def iS (l : Str) : Scope := { kind := .function, names := [(PySem.Str.ofString "self", .local), (l, .local), (PySem.Str.ofString "__class__", .free), (PySem.Str.ofString "super", .globalImplicit)], isGenerator := false, isCoroutine := false, more := [] }
/-- a text or an int, short -/
def VOk (v : Value) : Prop := (∃ y t, v = .str y t ∧ y.length ≤ 1000000) ∨ ∃ (i : Int) (t : PySem.Tok), v = .int i t ∧ i.natAbs.log2 < 1900
/-- what __init__ leaves of a fresh exception at x -/
structure InitEnd (h h' : Heap) (x C dx t1 : Addr) (l : Str) (v : Value) : Prop where
  keep : ∀ b o, b ≠ x → h.get? b = some o → h'.get? b = some o
  obj : h'.get? x = some { cls := .ref C, dict := some dx, data := .fields #[.ref t1, .none, .none, .none, .bool false, .none] }
  dbig : h.objs.size ≤ dx
  dne : dx ≠ x
  ns : h'.Ns1 dx (fun y => if y = l then some v else none)
structure ClsTxt (K : Frag) (C : Addr) : Prop where
  cls : ∃ nm q N bs bm sn sub ab col dd k0 k1 k2 k3 k5, K.lookup C = some (excClassObj nm q C N bs bm true sn sub ab col dd k0 k1 k2 k3 k5 "ValueError.__new__") ∧ refsVE bm = true
  sa : findIn K (.ref C) "__setattr__" = some (some (.builtin "object.__setattr__"))
  kC : keepIn K (.ref C) = true
  exC : subIn K (.ref C) (.type "BaseException") = some true
  veC : subIn K (.ref C) (.type "ValueError") = some true
  tyC : typeIn K (.ref C) = some (.type "type")
/-- the written part of such a def, at fI, of the class at C -/
structure InitTxt (prog : Program) (K : Frag) (C fI : Addr) (l pre qual : Str) : Prop where
  cls : ClsTxt K C
  noN : findIn K (.ref C) l = some none
  su : ks_superIn K C C "__init__" = some (some (.builtin "ValueError.__init__"))
  mrC : mroIn K C (.ref C) = some true
  iC : findIn K (.ref C) "__init__" = some (some (.ref fI))
  tC : typeIn K (.ref fI) = some (.type "function")
  tp : nsIn K cStatics "thirdparty.any" = some none
  top : (prog.main.scope.names.lookup ("super" : Str)).isSome = false
  fn : ∃ (oc : Value) (od : Option Addr) (doc pm : Value) (an : Option Addr) (cda cc : Addr) (ct : Value) (osl : Array (Option Value)) (p : PsX), (p.b3.endLine == p.b8.line) = true ∧
    K.lookup fI = some ⟨oc, od, .func (ksFn "__init__" qual (iA l p) (iB l pre p) (iS l) .none .none doc pm an (.ref cda) ct cc), osl⟩ ∧ codeIn K (.ref cda) qual = true ∧
    (∃ (ccl : Value) (cdd : Option Addr) (vs : Array Value) (ccs : Array (Option Value)) (file : Str) (tf : PySem.Tok), K.lookup cda = some ⟨ccl, cdd, .fields vs, ccs⟩ ∧ vs[2]? = some (.str file tf) ∧ ((prog.main.file : Str) == file) = true) ∧
    ∃ (cl : Value) (cld : Option Addr) (csl : Array (Option Value)), K.lookup cc = some ⟨cl, cld, .cell (some (.ref C)), csl⟩
section
variable {prog : Program} {w : World} {A : Around} {E : Value → Shared → Prop} {s : Shared} {h₀ : Heap} {Q : Value → Shared → Prop}
/-- super().__init__ bound to the exception at x, called -/
theorem call_mw {K : Frag} {C u x t0 : Addr} {rest : List Value} (T : ClsTxt K C) {h : Heap} {g : Array GenState} {d : Drawn} {t : Nat} {os : OsState} (X : K.In h) (hx : h.get? x = some (excO C t0)) (hu : h.get? u = some (kxs_mw "ValueError.__init__" x)) (hz : rest.length ≤ sizeLine)
    (hq : ∀ h' t1, (∀ b o, b ≠ x → h.get? b = some o → h'.get? b = some o) → h.objs.size ≤ h'.objs.size → h'.get? x = some (excO C t1) → Q .none ⟨h', g, d, t, os⟩) :
    wpAny (model prog w) A (call (.ref u) rest) Q E ⟨h, g, d, t, os⟩ := by
  obtain ⟨nm, q, N, bs, bm, sn, sub, ab, col, dd, k0, k1, k2, k3, k5, hC, hbm⟩ := T.cls
  refine wpAny_call (codeAny_of_tree ?_)
  show wpAny _ A.in1 (callAny (.ref u) ⟨rest, []⟩) _ _ _
  simp only [callAny]
  refine wpAny_bind (wpAny_load hu ?_)
  simp only [kxs_mw, show (Value.type "method-wrapper" == Value.type "method" || Value.type "method-wrapper" == Value.type "builtin_function_or_method" || Value.type "method-wrapper" == Value.type "method-wrapper") = true by decide, if_true]
  refine KFB.if_so (by decide) ?_
  refine wpAny_bind (check_bound_init F.excBase_ValueError.toExcCallFacts (X _ _ hC) hx rfl ?_)
  refine wpAny_bind (wpAny_pure (wpAny_pure ?_))
  refine ⟨plainId_quiet F.excBase_ValueError.init.plain _, codeAny_builtin F.excBase_ValueError.initEntry ?_⟩
  refine exc_init_tree (cls := .ref C) (t0 := t0) (dv := none) (c2 := .none) (c3 := .none) (b4 := .bool false) hx hz fun h' k e te => ?_
  exact hq h' _ k (Nat.le_of_lt (Heap.lt_size te)) e
/-- the text of the error -/
theorem ev_txt {env : Env} {l pre : Str} {p5 p6 p7 p4 : Pos} {v : Value} {m : Str → Option Value} {L : Addr} (hL : env.locals = L) (hn : s.heap.Ns L m) (hm : m l = some v) (hv : VOk v) (hpre : pre.length ≤ 10)
    (hk : env.scope.kind = .function) (hl : env.kindOf l = some .local) (hd : (l == ("__debug__" : Str)) = false) (h : ∀ y t t', Q (.str y t) { s with toks := t' }) :
    wpAny (model prog w) A (eval (.JoinedStr [.Constant (.str pre) 0 p4, .FormattedValue (.Name l p5) (-1) none p6] p7) env) Q E s := by
  subst hL
  refine wpAny_JoinedStr ?_
  show Joins _ _ _ [eval (.Constant (.str pre) 0 p4) env, eval (.FormattedValue (.Name l p5) (-1) none p6) env] _ _ _
  have le : (Str.empty : Str).length = 0 := rfl
  have hz0 : (Str.empty ++ pre).length ≤ sizeLine := by
    rw [Str.length_append, le, sizeLine_eq]
    omega
  refine Calls.Constant_str ⟨pre, _, rfl, hz0, ?_⟩
  refine wpAny_FormattedValue_plain (wpAny_Name (wpAny_loadName_local hk hl hn hm ?_) hd)
  have key : ∀ (y : Str) (t t' : Nat), y.length ≤ 1000000 → ∃ (y' : Str) (t2 : PySem.Tok), Value.str y t = .str y' t2 ∧ (Str.empty ++ pre ++ y').length ≤ sizeLine ∧ Joins (model prog w) A E [] (Str.empty ++ pre ++ y') (fun out s₁ => out.length ≤ sizeLine ∧ Q (.str out s₁.toks) { s₁ with toks := s₁.toks + 1 }) { s with toks := t' } := fun y t t' hy => by
    have hz : (Str.empty ++ pre ++ y).length ≤ sizeLine := by
      rw [Str.length_append, Str.length_append, le, sizeLine_eq]
      omega
    exact ⟨y, t, rfl, hz, hz, h _ _ _⟩
  rcases hv with ⟨y, t, rfl, hy⟩ | ⟨i, t, rfl, hi⟩
  · exact wpAny_formatField_str (key y t _ hy) (key y _ _ hy) (by rw [sizeLine_eq]; omega)
  · refine wpAny_formatField_int (by omega) (key (toString i) _ _ ?_)
    have e := int_text_length_le (k := 1920) (by decide) (a := i) (by omega)
    show (Str.ofString (toString i)).length ≤ _
    rw [ofString_length]
    omega
end
end ErX
end PySem
set_option Elab.async false
set_option linter.all false
set_option maxRecDepth 100000
set_option maxHeartbeats 4000000
namespace PySem
namespace ErX
open PySem.W PySem.Calls PyProof.Rows PySem.HandSPX
theorem no_cell {l : Str} : ∀ y ∈ (iS l).names, y.2 ≠ NameKind.cell := by
  intro y hy
  simp only [iS, List.mem_cons, List.not_mem_nil, or_false] at hy
  rcases hy with rfl | rfl | rfl | rfl <;> exact fun z => by cases z
theorem loc_all {l : Str} {a b : Value} (hl : l = "line" ∨ l = "rule" ∨ l = "reason") : ∀ y ∈ [((PySem.Str.ofString "self" : Str), a), (l, b)], (iS l).names.lookup y.1 = some NameKind.local := by
  intro y hy
  rcases List.mem_cons.mp hy with rfl | hy
  · rfl
  · obtain rfl := List.mem_singleton.mp hy
    rcases hl with rfl | rfl | rfl <;> rfl
theorem he_call {l pre : Str} {p : PsX} {env : Env} (h : (p.b3.endLine == p.b8.line) = true) : eval (iC l pre p) env = (do
      let ov ← attributeBase (.Call (.Name "super" p.b1) [] [] p.b2) "__init__" env (eval (.Call (.Name "super" p.b1) [] [] p.b2) env)
      standAt p.b3.atName
      let (f, first) ← holding [ov] (getMethod ov "__init__" (do return (← importBound (.Call (.Name "super" p.b1) [] [] p.b2) env).getD true))
      callWith p.b8 f first (backTo p.b8 (starEach [.JoinedStr [.Constant (.str pre) 0 p.b4, .FormattedValue (.Name l p.b5) (-1) none p.b6] p.b7] env)) []) := by
  unfold iC
  rw [arm_eval_Call]
  have e : ∀ ov, methodCall (.Call (.Name "super" p.b1) [] [] p.b2) "__init__" p.b3 p.b8 env ov 1 (backTo p.b8 (starEach [.JoinedStr [.Constant (.str pre) 0 p.b4, .FormattedValue (.Name l p.b5) (-1) none p.b6] p.b7] env)) [] = (do
      let (f, first) ← holding [ov] (getMethod ov "__init__" (do return (← importBound (.Call (.Name "super" p.b1) [] [] p.b2) env).getD true))
      callWith p.b8 f first (backTo p.b8 (starEach [.JoinedStr [.Constant (.str pre) 0 p.b4, .FormattedValue (.Name l p.b5) (-1) none p.b6] p.b7] env)) []) := fun ov => by
    unfold methodCall
    have hform : methodCallForm 1 (backTo p.b8 (starEach [.JoinedStr [.Constant (.str pre) 0 p.b4, .FormattedValue (.Name l p.b5) (-1) none p.b6] p.b7] env)) [] = true := rfl
    have hpos : methodCallPos true (.Call (.Name "super" p.b1) [] [] p.b2) env p.b3 p.b8 = pure p.b8 := by
      unfold methodCallPos
      rw [h]
      rfl
    rw [hform, hpos]
    rfl
  have e2 := funext e
  show (attributeBase _ _ _ _ >>= fun ov => standAt _ >>= fun _ => methodCall _ _ _ _ _ ov 1 _ []) = _
  simp only [e]
section
variable {prog : Program} {w : World} {A : Around} {R : Result → Shared → Prop} {K : Frag} {C fI : Addr} {l pre qual : Str}
theorem err_init {h₀ : Heap} {g : Array GenState} {d : Drawn} {t : Nat} {os : OsState} {mg mb : Str → Option Value} (T : InitTxt prog K C fI l pre qual) (hl : l = "line" ∨ l = "rule" ∨ l = "reason") (hpre : pre.length ≤ 10) {x t0 : Addr} {v : Value} (X : K.In h₀) (hlim : h₀.NoLimit) (hg : h₀.Ns mainGlobals mg) (hmg : mg "super" = none) (hb : h₀.Ns builtinsNs mb) (hmb : mb "super" = some (.type "super"))
    (hx : h₀.get? x = some (excO C t0)) (hnx : K.lookup x = none) (hroom : A.depth < recursionLimit) (hv : VOk v)
    (hq : ∀ h' tk dx t1, InitEnd h₀ h' x C dx t1 l v → R (.ok (.ret .none)) ⟨h', g, d, tk, os⟩) :
    codeAny (model prog w) A (.call (.ref fI) ⟨[.ref x, v], []⟩) R ⟨h₀, g, d, t, os⟩ := by
  obtain ⟨oc, od, doc, pm, an, cda, cc, ct, osl, p, hp, ho, hcd, ⟨ccl, cdd, vs, ccs, file, tf, hcode, hvs, hfile⟩, cl, cld, csl, hcell⟩ := T.fn
  obtain ⟨nm, q, N, bs, bm, sn, sub, ab, col, dd, k0, k1, k2, k3, k5, hC, hbm⟩ := T.cls.cls
  have hcl : clsIn K C = some { name := nm, bases := bs, mro := .ref C :: bm, ns := N, qualname := q, hasDict := true, slotNames := sn, subclasses := sub, abstract := ab, collection := col, hasDel := false } := by unfold clsIn; rw [hC] <;> rfl
  have hno := T.noN
  have hsu : alongIn K "__init__" (((Value.ref C :: bm).dropWhile (· != .ref C)).drop 1) = some (some (.builtin "ValueError.__init__")) := by
    have z := T.su
    unfold ks_superIn at z
    rw [hcl] at z
    exact z
  have xC : x ≠ C := fun z => by
    rw [z, X _ _ hC] at hx
    cases hx
  rcases hl with rfl | rfl | rfl
  all_goals
    refine ks_codeAny_call_defAt (fd := ksFn "__init__" qual (iA _ p) (iB _ pre p) (iS _) .none .none doc pm an (.ref cda) ct cc) (body := iB _ pre p) (binds := [("self", .ref x), (_, v)]) hroom (X _ _ ho) rfl hlim (codeRec_of X hcd) rfl (BindsTo.of_eq (by first | rfl | with_unfolding_all rfl)) no_cell (loc_all (by first | exact Or.inl rfl | exact Or.inr (Or.inl rfl) | exact Or.inr (Or.inr rfl))) (fun h₁ hns hk₁ => ?_) rfl rfl rfl
    have X₁ := X.keeps hk₁
    have hx₁ := hk₁ _ _ hx
    have s1 : h₀.objs.size < h₁.objs.size := hns.lt
    have hxL : x ≠ h₀.objs.size := Nat.ne_of_lt (Heap.lt_size hx)
    refine ks_wpAt_execs_cons (ks_wpAt_Expr_any (ks_wpAt_MethodCall ?_ (he_call hp)))
    refine ks_wpAt_super_base (ar := { arg := "self", annotation := none, pos := p.a1 }) rfl rfl rfl rfl (X₁ _ _ ho) rfl rfl rfl (X₁ _ _ hcode) rfl hvs hfile T.top ?_
    refine ks_loadName_global rfl rfl (loadGlobal_builtin (hg.keeps hk₁) hmg (hb.keeps hk₁) hmb ⟨rfl, ?_⟩)
    refine wpAny_loadName_free rfl rfl rfl ⟨_, X₁ _ _ hcell, rfl⟩ ?_
    refine wpAny_loadName_local rfl rfl hns (v := .ref x) (by first | rfl | with_unfolding_all rfl | kernel_rfl) ?_
    refine ks_wpAny_isType_cls (X₁ _ _ hC) rfl ⟨rfl, ?_⟩
    refine ks_wpAny_call_super (X₁ _ _ hC) rfl hx₁ rfl (fun c e => by cases e) (looks_mroIn X₁ T.mrC) (fun h₂ e₂ k₂ => ?_)
    have X₂ := X₁.keeps k₂
    have hx₂ := k₂ _ _ hx₁
    have I₂ : InstAt h₂ x (excO C t0) C none := ⟨hx₂, rfl, rfl, trivial⟩
    refine kxs_getMethod kxs_ValueError e₂ (looks_opaque X₂ T.tp) (l₀ := .ref C :: bm) ((looks_clsIn X₂ hcl).andThen .now) rfl X₂ hsu (I₂.type.andThen (looks_subIn X₂ T.cls.veC)) xC rfl ?_
    have hns₂ := hns.keeps k₂
    have k₃ : ∀ b o, h₂.get? b = some o → (h₂.push (kxs_mw "ValueError.__init__" x)).get? b = some o := fun b o e => Heap.get?_push_of_some _ e
    refine kxs_callWith (i := "ValueError.__init__") (x := x) rfl ?_
    refine evalArgs_plain (spliced_cons ?_)
    refine ev_txt (pre := pre) (p4 := p.b4) (p5 := p.b5) (p6 := p.b6) (p7 := p.b7) (m := fun y => List.lookup y (List.reverse [("self", .ref x), (_, v)])) rfl (hns₂.keeps k₃) (by first | rfl | with_unfolding_all rfl | kernel_rfl) hv hpre rfl rfl (by decide) fun y ty tk => ?_
    refine spliced_nil ⟨Heap.get?_push_at rfl rfl, ?_⟩
    refine call_mw T.cls (X₂.keeps k₃) (k₃ _ _ hx₂) (Heap.get?_push_at rfl rfl) (by rw [sizeLine_eq]; exact (by decide : 1 ≤ 16777216)) fun h₄ t4 k₄ z₄ hx₄ => ?_
    show wpAt _ _ _ _ _ _ _
    have kx : ∀ b o, b ≠ x → h₁.get? b = some o → h₄.get? b = some o := fun b o hb e => k₄ b o hb (k₃ _ _ (k₂ _ _ e))
    have hns₄ := hns.at (h' := h₄) fun o e => kx _ o hxL.symm e
    have X₄ : K.In h₄ := fun b o e => kx b o (fun z => by rw [z, hnx] at e; cases e) (X₁ b o e)
    refine ks_wpAt_execs_cons (ks_wpAt_Assign_Attr (wpAt_of_wpAny ?_))
    refine wpAny_Name (wpAny_loadName_local rfl rfl hns₄ (v := v) (by first | rfl | with_unfolding_all rfl | kernel_rfl) ?_) (by decide)
    refine wpAny_Name (wpAny_loadName_local rfl rfl hns₄ (v := .ref x) (by first | rfl | with_unfolding_all rfl | kernel_rfl) ?_) (by decide)
    refine set_plain X₄ (ox := excO C t4) (od := none) ⟨hx₄, rfl, rfl, trivial⟩ T.cls.sa ?_
    refine exc_osa X₄ hx₄ hcl (show refsVE (.ref C :: bm) = true from hbm) rfl hno (fun h₅ tk₅ dx k₅ dn dne hx₅ hn₅ => ?_)
    show wpAt _ _ _ (execs [] _) _ _ _
    refine wpAt_of_wpAny (wpAny_execs_nil ?_)
    have z4 : h₀.objs.size < h₄.objs.size := hns₄.lt
    exact hq h₅ tk₅ dx _ ⟨fun b o hb e => k₅ b o hb (kx b o hb (hk₁ b o e)), hx₅, Nat.le_of_lt (Nat.lt_of_lt_of_le z4 dn), dne, hn₅⟩
end
end ErX
end PySem
set_option Elab.async false
set_option linter.all false
set_option maxRecDepth 100000
set_option maxHeartbeats 4000000
namespace PySem
namespace ErX
open PySem.W PySem.Calls PyProof.Rows PySem.HandSPX
/-- a made error of the class at C -/
structure OwnMade (h h' : Heap) (e C d : Addr) (l : Str) (v : Value) : Prop where
  keep : ∀ b o, h.get? b = some o → h'.get? b = some o
  new : h.objs.size ≤ e
  obj : ∃ oe vs, h'.get? e = some oe ∧ oe.cls = .ref C ∧ oe.dict = some d ∧ oe.data = .fields vs ∧ vs[1]? = some .none
  dbig : h.objs.size ≤ d
  dne : d ≠ e
  ns : h'.Ns1 d (fun y => if y = l then some v else none)
section
variable {prog : Program} {w : World} {A : Around} {R : Result → Shared → Prop} {K : Frag} {C fI : Addr} {l pre qual : Str}
theorem err_made {h₀ : Heap} {g : Array GenState} {dr : Drawn} {t : Nat} {os : OsState} {mg mb : Str → Option Value} (T : InitTxt prog K C fI l pre qual) (hl : l = "line" ∨ l = "rule" ∨ l = "reason") (hpre : pre.length ≤ 10) {v : Value} (X : K.In h₀) (hlim : h₀.NoLimit) (hg : h₀.Ns mainGlobals mg) (hmg : mg "super" = none) (hb : h₀.Ns builtinsNs mb) (hmb : mb "super" = some (.type "super"))
    (hroom : A.depth + 1 < recursionLimit) (hv : VOk v)
    (hq : ∀ h' tk e d, OwnMade h₀ h' e C d l v → R (.ok (.ret (.ref e))) ⟨h', g, dr, tk, os⟩) :
    codeAny (model prog w) A (.call (.ref C) ⟨[v], []⟩) R ⟨h₀, g, dr, t, os⟩ := by
  obtain ⟨nm, q, N, bs, bm, sn, sub, ab, col, dd, k0, k1, k2, k3, k5, hC, hbm⟩ := T.cls.cls
  have k : ∀ b o, h₀.get? b = some o → ((h₀.push (kdv_tup [v])).push (excO C h₀.objs.size)).get? b = some o := fun b o e => Heap.get?_push_of_some _ (Heap.get?_push_of_some _ e)
  have hget : ((h₀.push (kdv_tup [v])).push (excO C h₀.objs.size)).get? (h₀.objs.size + 1) = some (excO C h₀.objs.size) := by heap_get
  have hnx : K.lookup (h₀.objs.size + 1) = none := by
    cases e : K.lookup (h₀.objs.size + 1) with
    | none => rfl
    | some o =>
      have z : h₀.get? (h₀.objs.size + 1) = some o := X _ _ e
      exact absurd (Nat.lt_of_succ_lt (Heap.lt_size z)) (Nat.lt_irrefl _)
  refine call_own F.excBase_ValueError (fun X => refsVE_contains X bm hbm) (X _ _ hC) (looks_findIn X T.iC) (fun self => bind_fn X self T.tC) (by rw [sizeLine_eq]; exact (by decide : 1 ≤ 16777216)) ?_
  refine err_init T hl hpre (X.keeps k) (hlim.keeps k) (hg.keeps k) hmg (hb.keeps k) hmb hget hnx ?_ hv fun h' tk' dx t1 ⟨k', hx, dn, dne, hns⟩ => ?_
  · show A.depth + 1 < recursionLimit
    exact hroom
  · have old : ∀ b o, h₀.get? b = some o → h'.get? b = some o := fun b o e => k' b o (Nat.ne_of_lt (Nat.lt_succ_of_lt (Heap.lt_size e))) (k b o e)
    have z : h₀.objs.size + 1 + 1 ≤ dx := by
      first
        | (simpa only [Heap.size_push] using dn)
        | exact dn
        | (have q := dn; rw [Heap.size_push, Heap.size_push] at q; exact q)
    exact ⟨rfl, hq h' tk' (h₀.objs.size + 1) dx ⟨old, Nat.le_succ _, ⟨_, _, hx, rfl, rfl, rfl, rfl⟩, Nat.le_trans (Nat.le_trans (Nat.le_succ _) (Nat.le_succ _)) z, dne, hns⟩⟩
end
end ErX
end PySem
namespace L2
open PySem PySem.Spec PyProof.Rows PySem.ErX
theorem relO_one {l : Str} {v : V} {v' : Value} (r : RelV v v') (f : Str) : RelO (List.lookup f [(l, v)]) (if f = l then some v' else none) := by
  by_cases hw : f = l
  · subst hw
    rw [if_pos rfl]
    have q : List.lookup f [(f, v)] = some v := by simp [List.lookup]
    rw [q]
    exact r
  · rw [if_neg hw]
    have qw : (f == l) = false := by simpa using hw
    have q2 : List.lookup f [(l, v)] = none := by simp [List.lookup, qw]
    rw [q2]
    trivial
/-- a short text or an int, as an error holds it -/
def EV (v : V) : Prop := (∃ y : Str, v = .str y ∧ y.length ≤ 1000000) ∨ ∃ i : Int, v = .int i ∧ i.natAbs.log2 < 1900
theorem EV.vok {v : V} {u : Value} (h : EV v) (r : RelV v u) : VOk u := by
  rcases h with ⟨y, rfl, hy⟩ | ⟨i, rfl, hi⟩
  · obtain ⟨t, rfl⟩ := r
    exact Or.inl ⟨y, t, rfl, hy⟩
  · obtain ⟨t, rfl⟩ := r
    exact Or.inr ⟨i, t, rfl, hi⟩
/-- what the written part says of an own error with one field -/
structure ErT (prog : Program) (K : PySem.W.Frag) (mg : Str → Option Value) (x : Str) (C : Addr) (l : Str) : Prop where
  ex : ∃ (fI : Addr) (pre qual : Str), InitTxt prog K C fI l pre qual ∧ pre.length ≤ 10
  gC : mg x = some (.ref C)
  gS : mg "super" = none
  hl : l = "line" ∨ l = "rule" ∨ l = "reason"
section
variable {X : Cx} {C : Addr} {l : Str}
/-- C(e) -/
def tMkE (C : Addr) (l : Str) (ta : TA) : St → Hp → XK → Prop := fun σ H Q => ta σ H fun vs H1 => ∃ v, vs = [v] ∧ EV v ∧ ∀ d, H1 d = none → Q (.ref C) (some d) (upd H1 d (.xd [(l, v)]))
theorem pmk_err {a : Expr} {ta : TA} {x : Str} {p pos : Pos} {k : Nat} (T : ErT X.prog X.K X.mg x C l) (hr : Room k X.A) (ha : PA X [a] ta) (hg : Gl X x) (hdb : (x == ("__debug__" : Str)) = false := by decide)
    (he : starEach (a :: []) X.env = (false, eval a X.env) :: starEach [] X.env := by rfl) (hpl : (backTo pos (starEach [] X.env)).any (·.1) = false := by rfl) :
    PMk X (.Call (.Name x p) [a] [] pos) (tMkE C l ta) := by
  intro pins s σ H Q I h
  obtain ⟨fI, pre, qual, TI, hpre⟩ := T.ex
  refine wpAny_Call_Name_kw (ld_glob I hg T.gC ?_ hdb)
  refine PySem.W.callWith_K (h₀ := X.base) I.ok.mod.kin TI.cls.kC (thn (ha.run pos pins s σ H _ I h) fun us s1 hh => ?_) he hpl
  obtain ⟨vs, H1, I1, r1, v, ev, hev, q1⟩ := hh
  subst ev
  refine ⟨I1.kIn, ?_⟩
  cases r1 with
  | cons rv rn =>
    rename_i v' us'
    cases rn
    show wpAny _ _ (call (.ref C) [v']) _ _ _
    have hlim := I1.nolimit
    obtain ⟨mb, hmb1, hmb2⟩ := I1.mod.blt
    have hG := I1.mod.glob.keeps I1.bk
    have hB := hmb1.keeps I1.bk
    obtain ⟨hp, g, dr, tk, os⟩ := s1
    refine wpAny_call (err_made TI T.hl hpre I1.kIn hlim hG T.gS hB ((hmb2 "super" (by decide)).trans PyProof.Rows.Boot.«super») (by have := hr.dp; omega) (hev.vok rv) fun h' tk' e d M => ?_)
    show MkP X pins σ Q (.ref e) ⟨h', g, dr, tk', os⟩
    obtain ⟨oe, fv, hoe, hc, hd, hdat, h1⟩ := M.obj
    have hns := M.ns
    obtain ⟨G', g1, g2⟩ := restrict h' fun b => decide (b ≠ e)
    have gk : ∀ b, b ≠ e → G'.get? b = h'.get? b := fun b hb => g1 b (decide_eq_true hb)
    have ge : G'.get? e = none := g2 e (by simp)
    have old : ∀ b o, hp.get? b = some o → G'.get? b = some o := fun b o q => (gk b (Nat.ne_of_lt (Nat.lt_of_lt_of_le (Heap.lt_size q) M.new))).trans (M.keep b o q)
    have ob : ObjOk X.prog X.w (upd H1 d (.xd [(l, v)])) G' d (.xd [(l, v)]) :=
      ⟨_, hns.at (fun o q => (gk d M.dne).trans q), fun f => relO_one rv f⟩
    have J : Inv X pins σ (upd H1 d (.xd [(l, v)])) ⟨G', g, dr, tk', os⟩ := I1.laid (t' := tk') old M.dbig ob
    refine ⟨e, oe, fv, ⟨G', g, dr, tk', os⟩, _, .ref C, some d, rfl, J, fun b o q => ?_, ge, hoe, ⟨hc, hd⟩, hdat, h1, ?_, rfl, I1.bare, raises_own TI.cls.exC TI.cls.tyC, q1 d (I1.hok.fresh M.dbig)⟩
    · by_cases hb : b = e
      · have q' : G'.get? b = some o := q
        rw [hb, ge] at q'; cases q'
      · exact (gk b hb).symm.trans q
    · rw [upd_ne (Ne.symm M.dne)]
      exact I1.hok.fresh M.new
/-- raise C(e) -/
def tRaiseE (C : Addr) (l : Str) (W : WX) (ta : TA) : TS := fun _ σ H => tMkE C l ta σ H fun cls d H' => W cls d σ H'
theorem ps_raiseE {a : Expr} {ta : TA} {W : WX} {x : Str} {p pos pos2 : Pos} {k : Nat} (hc : X.calm = true) (T : ErT X.prog X.K X.mg x C l) (hr : Room k X.A) (tk : Takes X W) (ha : PA X [a] ta) (hg : Gl X x := by rfl) (hdb : (x == ("__debug__" : Str)) = false := by decide)
    (he : starEach (a :: []) X.env = (false, eval a X.env) :: starEach [] X.env := by rfl) (hpl : (backTo pos (starEach [] X.env)).any (·.1) = false := by rfl) :
    PS X (.Raise (some (.Call (.Name x p) [a] [] pos)) none pos2) (tRaiseE C l W ta) := ps_raise hc tk (pmk_err T hr ha hg hdb he hpl)
end
end L2
set_option Elab.async false
set_option linter.all false
set_option maxRecDepth 100000
set_option maxHeartbeats 4000000
namespace Pk
open PySem PySem.Spec PyProof.Rows L2 SX GxR
abbrev FnI : Type := Option (Str × Str × Arguments × FuncBody × Scope × Addr × List Str × Value × Value × Addr)
def fnI (K : PySem.W.Frag) (f : Addr) : FnI := match K.lookup f with
  | some ⟨_, _, .func fd, _⟩ => some (fd.name, fd.qualname, fd.params, fd.body, fd.scope, fd.globals, fd.closure.map (·.1), fd.defaults, fd.kwdefaults, fd.builtins)
  | _ => none
def valI (q l pre : Str) (p : ErX.PsX) : FnI := some ("__init__", q, ErX.iA l p, .stmts (ErX.iB l pre p), ErX.iS l, mainGlobals, ["__class__"], .none, .none, builtinsNs)
def exClB (K : PySem.W.Frag) (C : Addr) : Bool := match K.lookup C with
  | some ⟨.type t, _, .cls cd, sl⟩ => decide (t = "type") && ((match cd.mro with
      | .ref C' :: bm => (C' == C) && HandSPX.refsVE bm
      | _ => false) && (cd.hasDict && (!cd.hasDel && (match sl.toList with
      | [_, _, _, _, some (.builtin n), _] => n == "ValueError.__new__"
      | _ => false))))
  | _ => false
theorem exClB_ok {K : PySem.W.Frag} {C : Addr} (h : exClB K C = true) : ∃ nm q N bs bm sn sub ab col dd k0 k1 k2 k3 k5, K.lookup C = some (excClassObj nm q C N bs bm true sn sub ab col dd k0 k1 k2 k3 k5 "ValueError.__new__") ∧ HandSPX.refsVE bm = true := by
  unfold exClB at h
  split at h
  · rename_i t dd cd sl ho
    obtain ⟨h1, h⟩ := He.ba h
    obtain ⟨h2, h⟩ := He.ba h
    obtain ⟨h3, h⟩ := He.ba h
    obtain ⟨h4, h5⟩ := He.ba h
    have e1 : t = "type" := of_decide_eq_true h1
    subst e1
    split at h2
    · rename_i C' bm hm
      obtain ⟨h6, h7⟩ := He.ba h2
      have e6 : C' = C := eq_of_beq h6
      subst e6
      split at h5
      · rename_i k0 k1 k2 k3 n k5 hs
        have e7 : n = "ValueError.__new__" := eq_of_beq h5
        subst e7
        obtain ⟨nm, bs, mro, ns, qn, hd, sn, sub, ab, col, del⟩ := cd
        dsimp only at hm h3 h4
        subst hm h3
        have h4' : del = false := by
          cases del with
          | false => rfl
          | true => cases h4
        subst h4'
        have hsl : sl = #[k0, k1, k2, k3, some (.builtin "ValueError.__new__"), k5] := by
          obtain ⟨l⟩ := sl
          have hs' : l = [k0, k1, k2, k3, some (.builtin "ValueError.__new__"), k5] := hs
          rw [hs']
        subst hsl
        exact ⟨nm, qn, ns, bs, bm, sn, sub, ab, col, dd, k0, k1, k2, k3, k5, ho, h7⟩
      · cases h5
    · cases h2
  · cases h
/-- the code and the cell of such an __init__ -/
def exCodeB (K : PySem.W.Frag) (f C : Addr) (q file : Str) : Bool := match K.lookup f with
  | some ⟨_, _, .func fd, _⟩ => (match fd.code with
      | .ref cda => PySem.W.codeIn K (.ref cda) q && (match K.lookup cda with
          | some ⟨_, _, .fields vs, _⟩ => (match (vs[2]? : Option Value) with
              | some (.str g _) => decide (g = file)
              | _ => false)
          | _ => false)
      | _ => false) && (match fd.closure with
      | [(_, cc)] => (match K.lookup cc with
          | some ⟨_, _, .cell (some (.ref D)), _⟩ => D == C
          | _ => false)
      | _ => false)
  | _ => false
theorem fnI_ok {K : PySem.W.Frag} {f C : Addr} {q l pre file : Str} {p : ErX.PsX} (h : fnI K f = valI q l pre p) (b : exCodeB K f C q file = true) :
    ∃ (oc : Value) (od : Option Addr) (doc pm : Value) (an : Option Addr) (cda cc : Addr) (ct : Value) (osl : Array (Option Value)),
      K.lookup f = some ⟨oc, od, .func (PySem.W.ksFn "__init__" q (ErX.iA l p) (ErX.iB l pre p) (ErX.iS l) .none .none doc pm an (.ref cda) ct cc), osl⟩ ∧ PySem.W.codeIn K (.ref cda) q = true ∧
      (∃ (ccl : Value) (cdd : Option Addr) (vs : Array Value) (ccs : Array (Option Value)) (tf : PySem.Tok), K.lookup cda = some ⟨ccl, cdd, .fields vs, ccs⟩ ∧ vs[2]? = some (.str file tf)) ∧
      ∃ (cl : Value) (cld : Option Addr) (csl : Array (Option Value)), K.lookup cc = some ⟨cl, cld, .cell (some (.ref C)), csl⟩ := by
  unfold fnI at h
  unfold exCodeB at b
  split at h
  · rename_i oc od fd osl ho
    rw [ho] at b
    dsimp only at b
    obtain ⟨b1, b2⟩ := He.ba b
    obtain ⟨n1, n2, n3, n4, n5, n6, n7, n8, n9, n10, n11, n12, n13, n14, n15⟩ := fd
    dsimp only at b1 b2
    have e2 : (some (n1, n2, n3, n4, n5, n6, n7.map (·.1), n8, n9, n15) : FnI) = valI q l pre p := h
    unfold valI at e2
    simp only [Option.some.injEq, Prod.mk.injEq] at e2
    obtain ⟨h1, h2, h3, h4, h5, h6, h7, h8, h9, h10⟩ := e2
    subst h1 h2 h3 h4 h5 h6 h8 h9 h10
    split at b1
    · rename_i cda
      obtain ⟨b3, b4⟩ := He.ba b1
      split at b4
      · rename_i ccl cdd vs ccs hv
        split at b4
        · rename_i g tf hg
          have eg : g = file := of_decide_eq_true b4
          subst eg
          split at b2
          · rename_i nm cc
            have en : nm = "__class__" := by
              have h7' : [nm] = [("__class__" : Str)] := h7
              exact List.cons.inj h7' |>.1
            subst en
            split at b2
            · rename_i cl cld D csl hc
              have eD : D = C := eq_of_beq b2
              subst eD
              exact ⟨oc, od, _, _, _, cda, cc, _, osl, ho, b3, ⟨ccl, cdd, vs, ccs, tf, hv, hg⟩, cl, cld, csl, hc⟩
            · cases b2
          · cases b2
        · cases b4
      · cases b4
    · cases b1
  · cases h
/-- all of such a class -/
def exB (K : PySem.W.Frag) (x l q file : Str) : Bool :=
  exClB K (He.ga K x) && (He.eqO (PySem.W.findIn K (.ref (He.ga K x)) "__setattr__") (some (some (.builtin "object.__setattr__"))) && (PySem.W.keepIn K (.ref (He.ga K x)) && (decide (PySem.W.subIn K (.ref (He.ga K x)) (.type "BaseException") = some true) &&
  (decide (PySem.W.subIn K (.ref (He.ga K x)) (.type "ValueError") = some true) && (decide (PySem.W.typeIn K (.ref (He.ga K x)) = some (.type "type")) && (He.eqO (PySem.W.findIn K (.ref (He.ga K x)) l) (some none) &&
  (He.eqO (PySem.W.ks_superIn K (He.ga K x) (He.ga K x) "__init__") (some (some (.builtin "ValueError.__init__"))) && (decide (PySem.W.mroIn K (He.ga K x) (.ref (He.ga K x)) = some true) && (He.eqO (PySem.W.findIn K (.ref (He.ga K x)) "__init__") (some (some (.ref (He.ma K (He.ga K x) "__init__")))) &&
  (decide (PySem.W.typeIn K (.ref (He.ma K (He.ga K x) "__init__")) = some (.type "function")) && (He.eqO (PySem.W.nsIn K cStatics "thirdparty.any") (some none) && exCodeB K (He.ma K (He.ga K x) "__init__") (He.ga K x) q file)))))))))))
theorem exB_ok {P : Program} {K : PySem.W.Frag} {x l q file pre : Str} {p : ErX.PsX} (h : exB K x l q file = true) (e : fnI K (He.ma K (He.ga K x) "__init__") = valI q l pre p) (top : (P.main.scope.names.lookup ("super" : Str)).isSome = false) (hf : ((P.main.file : Str) == file) = true) (hp : (p.b3.endLine == p.b8.line) = true) :
    ErX.InitTxt P K (He.ga K x) (He.ma K (He.ga K x) "__init__") l pre q := by
  unfold exB at h
  obtain ⟨c1, h⟩ := He.ba h
  obtain ⟨c2, h⟩ := He.ba h
  obtain ⟨c3, h⟩ := He.ba h
  obtain ⟨c4, h⟩ := He.ba h
  obtain ⟨c5, h⟩ := He.ba h
  obtain ⟨c6, h⟩ := He.ba h
  obtain ⟨c7, h⟩ := He.ba h
  obtain ⟨c8, h⟩ := He.ba h
  obtain ⟨c9, h⟩ := He.ba h
  obtain ⟨c10, h⟩ := He.ba h
  obtain ⟨c11, h⟩ := He.ba h
  obtain ⟨c12, c13⟩ := He.ba h
  obtain ⟨oc, od, doc, pm, an, cda, cc, ct, osl, l1, l2, ⟨ccl, cdd, vs, ccs, tf, l3, l4⟩, l5⟩ := fnI_ok e c13
  exact { cls := { cls := exClB_ok c1, sa := He.eqO_ok c2, kC := c3, exC := of_decide_eq_true c4, veC := of_decide_eq_true c5, tyC := of_decide_eq_true c6 }, noN := He.eqO_ok c7, su := He.eqO_ok c8, mrC := of_decide_eq_true c9, iC := He.eqO_ok c10, tC := of_decide_eq_true c11, tp := He.eqO_ok c12, top := top, fn := ⟨oc, od, doc, pm, an, cda, cc, ct, osl, p, hp, l1, l2, ⟨ccl, cdd, vs, ccs, file, tf, l3, l4, hf⟩, l5⟩ }
def tabB (K : PySem.W.Frag) (x : Str) : Bool := match PySem.W.tabIn K x with
  | some (_, P) => (K.lookup P).isNone
  | none => false
theorem tabB_ok {K : PySem.W.Frag} {x : Str} (h : tabB K x = true) : ∃ c P, PySem.W.tabIn K x = some (c, P) ∧ K.lookup P = none := by
  unfold tabB at h
  split at h
  · rename_i c P e
    exact ⟨c, P, e, Option.isNone_iff_eq_none.mp h⟩
  · cases h
/-- hookA with the __init__ of own errors -/
def hookX (as : List Addr) (fa : List He.Fa) (fn : List He.DefD) (ex : PySem.W.Frag → Bool) (xs : List Str) (ve : List FnI) : PySem.W.Hook where
  α := He.AlD × Bool × List FnI
  obs s := (He.obsD fa fn (He.frG s.heap.get? as), ex (He.frG s.heap.get? as), xs.map fun x => fnI (He.frG s.heap.get? as) (He.ma (He.frG s.heap.get? as) (He.ga (He.frG s.heap.get? as) x) "__init__"))
  val _ := (He.valD fn, true, ve)
  says _ h := ∃ K, PySem.W.Frag.In K h ∧ He.SaysD fa fn K ∧ ex K = true ∧ xs.map (fun x => fnI K (He.ma K (He.ga K x) "__init__")) = ve
  of _ s h := ⟨He.frG s.heap.get? as, He.frG_in, (Prod.mk.inj h).1, (Prod.mk.inj (Prod.mk.inj h).2).1, (Prod.mk.inj (Prod.mk.inj h).2).2⟩
  keeps _ h h' := fun ⟨K, i, c⟩ hs => ⟨K, fun a o e => hs a o (i a o e), c⟩
def obX (as : List Addr) (fa : List He.Fa) (fn : List He.DefD) (ex : PySem.W.Frag → Bool) (xs : List Str) (s : PySem.W.SharedT) : He.AlD × Bool × List FnI :=
  (He.obsD fa fn (He.frG (HandSHeadRun.getT s) as), ex (He.frG (HandSHeadRun.getT s) as), xs.map fun x => fnI (He.frG (HandSHeadRun.getT s) as) (He.ma (He.frG (HandSHeadRun.getT s) as) (He.ga (He.frG (HandSHeadRun.getT s) as) x) "__init__"))
theorem obX_eq (as : List Addr) (fa : List He.Fa) (fn : List He.DefD) (ex : PySem.W.Frag → Bool) (xs : List Str) (ve : List FnI) (s : PySem.W.SharedT) : obX as fa fn ex xs s = (hookX as fa fn ex xs ve).obs s.abs := by
  have e : HandSHeadRun.getT s = s.abs.heap.get? := funext fun a => HandSHeadRun.getT_eq s a
  unfold obX
  rw [e]
  rfl
theorem law_callGT {P : Program} {w : World} {K : PySem.W.Frag} {mg mb : Str → Option Value} {CX : CXT} {k : Nat} {fa a c Pt : Addr} {fd : FuncData} {x : Str} {sp : Sp} {s₁ : Shared} {vs : List Value} {ns : List Int}
    (KX : K.In s₁.heap) (hns : s₁.heap.Ns mainGlobals mg) (hb : s₁.heap.Ns builtinsNs mb) (hbb : ∀ (x : Str), x ≠ Str.ofString "__name__" → mb x = bootBuiltins x) (hlim : s₁.heap.NoLimit) (hg : s₁.gens = #[])
    (hT : s₁.heap.get? Pt = some { cls := .none, data := .fields #[] }) (nT : K.lookup Pt = none) (C : PySem.W.CodeHd s₁.heap c Pt)
    (hbm : ∃ (bm : Addr) (ob : Obj), mg "__builtins__" = some (.ref bm) ∧ bm ≠ builtinsNs ∧ s₁.heap.get? bm = some ob ∧ ob.cls = .type "module" ∧ ob.dict = some builtinsNs ∧ ob.data = .plain)
    (ha : s₁.heap.get? a = some { cls := Value.type "list", data := Data.seq vs.toArray }) (hi : IntsAre vs ns) (hl : ns.length ≤ sizeLine) (hr : Room k callerA)
    (hth : ∃ mm, s₁.heap.Ns sysModules mm)
    (F : ∀ (base : Heap), K.In base → base.Ns mainGlobals mg → (∃ mm, base.Ns sysModules mm) → LamX.TabB base mg c Pt → FnG P w K mg base CX k fa fd [x] sp)
    (hbind : ∀ (s : Shared) (u : Value), BindsTo s fd { pos := [u] } [(x, u)])
    (hsp : ∀ (H : Hp), (∀ b, H b = none ∨ b = Pt ∨ ∃ o xs, H b = some (.frz o (.lst xs))) → H Pt = some (.tbl #[]) → SqL K H a (List.map V.int ns) → sp [V.ref a] H (fun v x => v = V.bl true) fun x x_1 x_2 => False)
    (hCX : ∀ (H : Hp) (e : Value) (s' : Shared), CX [] H s₁ (fun x x_1 x_2 => False) e s' → False) :
    codeAny (model P w) callerA (Code.call (Value.ref fa) { pos := [Value.ref a] }) (fun r s' => r = Except.ok (Flow.ret (Value.bool true)) ∧ OldK s₁.heap s'.heap ∧ s'.os = s₁.os ∧ AllBare s'.gens) s₁ := by
  have rv := vals_ints hi
  have lenV := IntsAre.length hi
  have aT : a ≠ Pt := fun z => by
    rw [z, hT] at ha
    cases ha
  have core : ∀ H : Hp, H Pt = some (.tbl #[]) → (∀ b, H b = none ∨ b = Pt ∨ ∃ o xs, H b = some (.frz o (.lst xs))) → SqL K H a (List.map V.int ns) → HOk P w H s₁.heap → (∀ b, H b ≠ none → b = a ∨ b = Pt) → (H a ≠ none → List.lookup a K = none) →
      codeAny (model P w) callerA (Code.call (Value.ref fa) { pos := [Value.ref a] }) (fun r s' => r = Except.ok (Flow.ret (Value.bool true)) ∧ OldK s₁.heap s'.heap ∧ s'.os = s₁.os ∧ AllBare s'.gens) s₁ := by
    intro H hH hO hS hok hA hK
    have base_of : ∀ {b : Addr} {o : Obj}, s₁.heap.get? b = some o → H b = none → (hidT s₁.heap H).get? b = some o := fun e n => hidT_get e n
    have noD : ∀ {b : Addr} {o : Obj}, s₁.heap.get? b = some o → (∀ vs n, o.data ≠ .seq vs n) → o.data ≠ .fields #[] → H b = none := fun {b o} e h1 h2 => by
      cases q : H b with
      | none => rfl
      | some u =>
        rcases hA b (by rw [q]; exact fun z => nomatch z) with e' | e'
        · rw [e', ha] at e
          cases e
          exact (h1 _ _ rfl).elim
        · rw [e', hT] at e
          cases e
          exact (h2 rfl).elim
    have noA : ∀ {b : Addr} {o : Obj} {es : Array DictEntry} {ep : Nat}, s₁.heap.get? b = some o → o.data = Data.dict es ep → H b = none := fun {b o es ep} e d => by
      refine noD e (fun vs n z => ?_) fun z => ?_
      · rw [d] at z
        cases z
      · rw [d] at z
        cases z
    have nsK : ∀ {b : Addr} {m : Str → Option Value}, s₁.heap.Ns b m → (hidT s₁.heap H).Ns b m := by
      intro b m x
      obtain ⟨o, es, ep, e, d, r⟩ := x
      exact ⟨o, es, ep, base_of e (noA e d), d, r⟩
    have hKb : K.In (hidT s₁.heap H) := fun b o e => base_of (KX b o e) (by
      cases q : H b with
      | none => rfl
      | some u =>
        have n0 : H b ≠ none := by rw [q]; exact fun z => nomatch z
        rcases hA b n0 with e' | e'
        · subst e'
          have := hK n0
          rw [this] at e
          cases e
        · rw [e', nT] at e
          cases e)
    have hM : L2.Mod K mg (hidT s₁.heap H) := { kin := hKb, glob := nsK hns, blt := ⟨mb, nsK hb, hbb⟩, nolimit := (match hlim with | ⟨mc, h1, h2⟩ => ⟨mc, nsK h1, h2⟩) }
    have TB : LamX.TabB (hidT s₁.heap H) mg c Pt := by
      refine ⟨?_, ?_, fun z => ?_⟩
      · obtain ⟨o, us, file, tf, flags, tg, inF, text, tt, e1, r1, r2, r3, r4, r5, r6, r7, r8, hne⟩ := C
        refine ⟨o, us, file, tf, flags, tg, inF, text, tt, base_of e1 (noD e1 (fun vs n z => ?_) fun z => ?_), r1, r2, r3, r4, r5, r6, r7, r8, hne⟩
        · rw [r2] at z
          cases z
        · rw [r2] at z
          cases z
          simp at r3
      · obtain ⟨bm, ob, b1, b2, b3, b4, b5, b6⟩ := hbm
        have nG : bm ≠ mainGlobals := fun q => by
          obtain ⟨o, es, ep, e, hd, _⟩ := hns
          rw [q, e] at b3
          cases b3
          rw [hd] at b6
          cases b6
        have nP : bm ≠ Pt := fun q => by
          rw [q, hT] at b3
          cases b3
          cases b6
        refine ⟨bm, ob, b1, b2, nG, nP, base_of b3 (noD b3 (fun vs n z => ?_) fun z => ?_), b4, b5, b6⟩
        · rw [b6] at z
          cases z
        · rw [b6] at z
          cases z
      · obtain ⟨o, es, ep, e, hd, _⟩ := hns
        rw [z, hT] at e
        cases e
        cases hd
    have e0 : Env0 P w K mg (hidT s₁.heap H) callerA [] s₁ H := { frames := rfl, mod := hM, bs := fun b o e => of_hidT e, bsz := Nat.le_of_eq (hidT_size s₁.heap H), funs := trivial, frf := fun b hb => absurd hb List.not_mem_nil, hok := hok, bare := AllBare.of_eq hg }
    refine codeAny_mono ((F (hidT s₁.heap H) hKb (nsK hns) (let ⟨mm, n1⟩ := hth; ⟨mm, nsK n1⟩) TB).run callerA [] s₁ H { pos := [Value.ref a] } [Value.ref a] [V.ref a] (fun v x => v = V.bl true) (fun x x_1 x_2 => False) rfl hr e0 (hbind s₁ (Value.ref a)) (Paired.cons rfl Paired.nil) (hsp H hO hH hS)) fun r s' h => ?_
    cases r with
    | error e => exact (hCX H e s' h).elim
    | ok fl =>
      cases fl with
      | ret u =>
        obtain ⟨v, H', os, bare, un, hok', r', q⟩ := h
        subst q
        obtain rfl := r'
        have key : ∀ b o, b ≠ Pt → s₁.heap.get? b = some o → s'.heap.get? b = some o := fun b o nb e => by
          cases q : H b with
          | none => exact un.keep b o e q (fun z => absurd z List.not_mem_nil) List.not_mem_nil
          | some u =>
            rcases hO b with z | z | ⟨ob, xs, z⟩
            · rw [q] at z
              cases z
            · exact absurd z nb
            · have z2 := un.frzs b ob (HO.lst xs) z
              have e1 := (hok b _ z).1
              have e2 := (hok' b _ z2).1
              rw [e] at e1
              cases e1
              exact e2
        have grown : ∃ more : Array Value, s'.heap.get? Pt = some { cls := .none, data := .fields more } := by
          obtain ⟨more, z⟩ := un.tbls Pt #[] hH
          exact ⟨_, hok' Pt _ z⟩
        refine ⟨rfl, ⟨fun b o e => ?_, fun b o e => ?_⟩, os, bare⟩
        · by_cases hb : b = Pt
          · obtain ⟨more, hm⟩ := grown
            rw [hb] at e ⊢
            rw [hT] at e
            cases e
            exact .inr (.inl ⟨(C.tab hT).isCodeTable, rfl, #[], more, rfl, by rw [Array.empty_append]; exact hm⟩)
          · exact .inl (key b o hb e)
        · by_cases hb : b = Pt
          · obtain ⟨more, hm⟩ := grown
            rw [hb]
            exact ⟨_, hm⟩
          · exact ⟨o, key b o hb e⟩
      | _ => exact (h : False).elim
  cases hk : List.lookup a K with
  | none =>
    refine core (fun b => if b = a then some (HO.frz { cls := Value.type "list", data := Data.seq vs.toArray } (HO.lst (List.map V.int ns))) else if b = Pt then some (.tbl #[]) else none) ((if_neg fun z => aT z.symm).trans (if_pos rfl)) (fun b => ?_) (.inl (.inr ⟨_, if_pos rfl⟩)) (fun b u z => ?_) (fun b z => ?_) fun _ => hk
    · by_cases hb : b = a
      · exact .inr (.inr ⟨_, _, if_pos hb⟩)
      · by_cases hb2 : b = Pt
        · exact .inr (.inl hb2)
        · exact .inl ((if_neg hb).trans (if_neg hb2))
    · by_cases hb : b = a
      · subst hb
        dsimp only at z
        rw [if_pos rfl] at z
        cases z
        exact ⟨ha, by rw [List.length_map]; exact hl, vs, 0, rv, ha⟩
      · have z1 := (if_neg hb).symm.trans z
        by_cases hb2 : b = Pt
        · have z' := (if_pos hb2).symm.trans z1
          cases z'
          rw [hb2]
          exact hT
        · have z' := (if_neg hb2).symm.trans z1
          cases z'
    · by_cases hb : b = a
      · exact .inl hb
      · by_cases hb2 : b = Pt
        · exact .inr hb2
        · exact absurd ((if_neg hb).trans (if_neg hb2)) z
  | some o =>
    have e := KX a o hk
    rw [ha] at e
    cases e
    refine core (fun b => if b = Pt then some (.tbl #[]) else none) (if_pos rfl) (fun b => ?_) (.inr ⟨_, vs.toArray, 0, hk, rfl, rfl, rfl, ?_, rv⟩) (fun b u z => ?_) (fun b z => ?_) fun z => absurd (if_neg aT) z
    · by_cases hb : b = Pt
      · exact .inr (.inl hb)
      · exact .inl (if_neg hb)
    · rw [List.size_toArray, lenV]
      exact hl
    · by_cases hb : b = Pt
      · have z' := (if_pos hb).symm.trans z
        cases z'
        rw [hb]
        exact hT
      · have z' := (if_neg hb).symm.trans z
        cases z'
    · by_cases hb : b = Pt
      · exact .inr hb
      · exact absurd (if_neg hb) z
theorem tri00 : TriplesOk (#[] : Array Value).toList := by
  first | trivial | exact .nil | decide
/-- the end of a law over a head by facts, with a def's table -/
theorem walk_ofGT {l : PySem.W.OpenLaw} {n k : Nat} {q : Program} {loose : List Str} {XP : (Str → Option Value) → Heap → Prop} {YP : World → Heap → Prop} {d dr : DefRec} {x y : Str}
    (hseer : importsNone q = true) (hn : l.most = some n) (hn2 : n ≤ sizeLine) (hdf : d.params.defaults = []) (hr : Room k callerA) (hrec : (recsOf q).find? (fun e => e.name == y) = some dr)
    (F : ∀ (w : World) (mg : Str → Option Value) (fa : Addr) (h : Heap), YP w h → h.Ns mainGlobals mg → mg d.name = some (Value.ref fa) →
      ∃ K fd sp c Pt, PySem.W.Frag.In K h ∧ PySem.W.tabIn K y = some (c, Pt) ∧ K.lookup Pt = none ∧ (∀ (s : Shared) (u : Value), BindsTo s fd { pos := [u] } [(x, u)]) ∧
        (∀ (H : Hp) (a : Addr) (ns : List Int), ns.length ≤ n → TabG H Pt → (∀ b, H b = none ∨ b = Pt ∨ ∃ o xs, H b = some (.frz o (.lst xs))) → SqL K H a (List.map V.int ns) → sp [V.ref a] H (fun v x => v = V.bl true) fun x x_1 x_2 => False) ∧
        ∀ (base : Heap), K.In base → base.Ns mainGlobals mg → (∃ mm, base.Ns sysModules mm) → LamX.TabB base mg c Pt → FnG l.prog w K mg base CX0 k fa fd [x] sp) :
    PySem.W.WalkO q loose XP YP l.row.toRowW d [] fun f vs => call f vs :=
  Att.attach_call hn hdf fun w s₀ s₁ mg mb fa o pm cd doc a vs ns G Y ho hd hcd hmg hobj hints hlen hg => by
    obtain ⟨K, fd, sp, c, Pt, KX, htab, hno, hb, hsp, hF⟩ := F w mg fa s₁.heap Y G.T.g hmg
    obtain ⟨hCd, hTb⟩ := PySem.W.tab_of G.T KX hrec htab
    exact law_callGT KX G.T.g G.T.b G.T.builtins G.T.nolimit hg hTb hno hCd G.T.bmain hobj hints (Nat.le_trans hlen hn2) hr (let ⟨mm, n1, _⟩ := (G.T.seer hseer).mods; ⟨mm, n1⟩) hF hb (fun H hO hH hS => hsp H a ns hlen ⟨#[], hH, tri00⟩ hO hS) fun H e s' z => z
end Pk
set_option Elab.async false
set_option linter.all false
set_option maxRecDepth 100000
set_option maxHeartbeats 4000000
namespace Pk
open PySem PySem.Spec PyProof.Rows L2 SX GxR
def excB (K : PySem.W.Frag) (x l : Str) : Bool :=
  He.eqO (PySem.W.findIn K (.ref (He.ga K x)) "__getattribute__") (some (some (.builtin "BaseException.__getattribute__"))) && (He.eqO (PySem.W.findIn K (.ref (He.ga K x)) "__getattr__") (some none) && (decide (PySem.W.subIn K (.ref (He.ga K x)) (.type "BaseException") = some true) && (PySem.W.hasDictIn K (He.ga K x) &&
  (He.eqO (PySem.W.findIn K (.ref (He.ga K x)) "__class__") (some (some (.builtin "object.__class__"))) && (He.eqO (PySem.W.specialIn K (.builtin "object.__class__") "__get__") (some (some (.builtin "getset_descriptor.__get__"))) && (decide (PySem.W.takesIn K (.builtin "object.__class__") = some true) && (decide (PySem.W.mroIn K (He.ga K x) (.type "object") = some true) &&
  (decide (PySem.W.exmOne K (.ref (He.ga K x)) (.ref (He.ga K x)) = some true) && He.eqO (PySem.W.findIn K (.ref (He.ga K x)) l) (some none)))))))))
theorem excB_ok {K : PySem.W.Frag} {x l : Str} (h : excB K x l = true) : ExcC K (He.ga K x) ∧ PySem.W.exmOne K (.ref (He.ga K x)) (.ref (He.ga K x)) = some true ∧ PySem.W.findIn K (.ref (He.ga K x)) l = some none := by
  unfold excB at h
  obtain ⟨c1, h⟩ := He.ba h
  obtain ⟨c2, h⟩ := He.ba h
  obtain ⟨c3, h⟩ := He.ba h
  obtain ⟨c4, h⟩ := He.ba h
  obtain ⟨c5, h⟩ := He.ba h
  obtain ⟨c6, h⟩ := He.ba h
  obtain ⟨c7, h⟩ := He.ba h
  obtain ⟨c8, h⟩ := He.ba h
  obtain ⟨c9, c10⟩ := He.ba h
  exact ⟨⟨He.eqO_ok c1, He.eqO_ok c2, of_decide_eq_true c3, c4, He.eqO_ok c5, He.eqO_ok c6, of_decide_eq_true c7, of_decide_eq_true c8⟩, of_decide_eq_true c9, He.eqO_ok c10⟩
end Pk
set_option Elab.async false
set_option linter.all false
set_option maxRecDepth 100000
set_option maxHeartbeats 4000000
namespace Pk
open PySem PySem.Spec PyProof.Rows L2
def topS (i : Nat) : Stmt := PySem.Challenge.pw_wholepackets_k49_whole_grammar_with_any.main.body.getD i (.Pass ⟨0, 0, 0, 0⟩)
abbrev sState : Stmt := topS 61
abbrev sDraw : Stmt := topS 62
abbrev sPick : Stmt := topS 63
theorem scState : FnScope ["script", "seed", "cell"] ["script"] (defScope sState) := ⟨rfl, rfl, rfl, by decide +kernel, rfl, by decide +kernel, by decide +kernel⟩
theorem scDraw : FnScope ["state", "many", "cells", "value", "mixed"] ["state", "many"] (defScope sDraw) := ⟨rfl, rfl, rfl, by decide +kernel, rfl, by decide +kernel, by decide +kernel⟩
theorem scPick : FnScope ["state", "row"] ["state", "row"] (defScope sPick) := ⟨rfl, rfl, rfl, by decide +kernel, rfl, by decide +kernel, by decide +kernel⟩
section
variable {P : Program} {w : World} {K : PySem.W.Frag} {mg : Str → Option Value} {base : Heap}
theorem map_at {ns : List Int} {i : Nat} {y : V} (h : (ns.map V.int)[i]? = some y) : ∃ z, ns[i]? = some z ∧ y = V.int z := by
  rw [List.getElem?_map] at h
  cases e : ns[i]? with
  | none => rw [e] at h; cases h
  | some z => rw [e] at h; exact ⟨z, rfl, (Option.some.inj h).symm⟩
def absI (z : Int) : Int := if z < 0 then -z else z
theorem ok_state {f : Addr} {fd : FuncData} {k : Nat} (F : Fun K "_law_state" "_law_state" sState f fd) (T : Blt mg) : FnOk P w K mg base CX0 (k + 1) f fd ["script"] (spState K) := by
  refine F.ok scState (fun vs H Q E h => ?_) (fun cdv A outer s H vs Q E hr h => ?_)
  · obtain ⟨a, ns, rfl, _⟩ := h
    rfl
  · obtain ⟨a, ns, rfl, hS, hn, q⟩ := h
    refine ⟨_, pss_cons (ps_set (i := 1) scState.nd rfl (.inl rfl) pe_int)
      (pss_cons (ps_for PassesOwn.never rfl (pi_list (pv 0)) (pg_name (i := 2) scState.nd rfl (.inl rfl))
        (pss_one (ps_set (i := 1) scState.nd rfl (.inl rfl) (pe_op op_mod (pe_callTy call_int1 (by rfl) T.zInt (by decide +kernel) (pa_cons (pe_op op_add (pe_op op_mul (pv 1) pe_int) (pv 2)) pa_nil)) pe_int))))
      (pss_one (ps_ret (pe_lst (pa_cons (pe_lc (own := [("cell", 2)]) (g := gName 2) (tt := tYes) rfl scState.nd (pi_list (pv 0)) (blkOk_by (N := ["script", "seed", "cell"]) (sc := defScope sState) (by decide +kernel))
        (fun _ _ _ _ _ => pg_name (i := 2) scState.nd rfl (Or.inl rfl)) (fun _ _ _ _ _ => pts_nil) (fun _ _ _ _ _ => pe_callB call_abs (by rfl) T.zAbs (by decide +kernel) (pa_cons (pv 2) pa_nil)))
        (pa_cons (pe_op op_add (pv 1) pe_int) pa_nil)))))), ?_⟩
    refine ⟨_, rfl, a, rfl, ⟨_, hS⟩, for_list (K := K) (a := a) (xs := ns.map V.int) (fun i σ H' => ∃ (sd : Int) (v : Option V), σ = [some (.ref a), some (.int sd), v] ∧ H' = H ∧ 0 ≤ sd ∧ sd < 1000003)
      ⟨7, none, rfl, rfl, by decide, by decide⟩ (fun i σ H' _ ⟨_, _, _, e, _⟩ => by subst e; exact hS) ?_ ?_⟩
    · rintro i y σ H' hi ⟨sd, v, rfl, rfl, h0, h1⟩
      obtain ⟨z, _, rfl⟩ := map_at hi
      refine ⟨_, rfl, _, _, rfl, rfl, .inl ⟨by omega, by omega⟩, _, rfl, _, _, rfl, rfl, .inl ⟨_, rfl, _, _, rfl, rfl, (by show (0 : Int) < 1000003; decide), ?_⟩⟩
      exact ⟨_, _, rfl, rfl, Int.emod_nonneg _ (by decide), Int.emod_lt_of_pos _ (by decide)⟩
    · rintro σ H' ⟨sd, v, rfl, rfl, h0, h1⟩
      refine ⟨_, rfl, a, rfl, ⟨_, hS⟩, fun D hD => lc_list (K := K) (a := a) (xs := ns.map V.int) (fun i H2 => Same H' H2 ∧ H2 D = some (.lst ((ns.take i).map fun z => V.int (absI z))))
        ⟨same_new hD, upd_same⟩ (fun i H2 _ h => h.1.seq hS) ?_ ?_⟩
      · rintro i y H2 hi ⟨k1, k2⟩
        obtain ⟨z, hz, rfl⟩ := map_at hi
        refine ⟨rfl, ⟨_, rfl, _, rfl, _, k2, ?_, fun b o e => ?_, ?_⟩⟩
        · rw [List.length_map, List.length_take]
          exact Nat.lt_of_le_of_lt (Nat.min_le_right _ _) (small1000 (by omega))
        · rw [upd_ne (ne_of_none e hD)]
          exact k1 b o e
        · rw [upd_same, List.take_add_one, hz, List.map_append]
          rfl
      · rintro H2 ⟨k1, k2⟩
        refine ⟨_, rfl, _, _, rfl, rfl, (by show 2 ≤ sizeLine; decide), fun p hp => ?_⟩
        have e : (ns.map V.int).length = ns.length := List.length_map ..
        rw [e, List.take_length] at k2
        have npD : D ≠ p := ne_of_none k2 hp
        refine q _ p D (k1.trans (same_new hp)) (k1.free hp) hD ⟨ns.map absI, sd + 1, upd_same, ?_, ?_, by omega, by omega⟩
        · rw [upd_ne npD, k2, List.map_map]
          rfl
        · intro z hz
          obtain ⟨y, _, rfl⟩ := List.mem_map.mp hz
          unfold absI
          split <;> omega
theorem ok_draw {f : Addr} {fd : FuncData} {k : Nat} (F : Fun K "_law_draw" "_law_draw" sDraw f fd) (T : Blt mg) : FnOk P w K mg base CX0 (k + 1) f fd ["state", "many"] spDraw := by
  refine F.ok scDraw (fun vs H Q E h => ?_) (fun cdv A outer s H vs Q E hr h => ?_)
  · obtain ⟨s, c, many, rfl, _⟩ := h
    rfl
  · obtain ⟨s, c, many, rfl, hS, hm0, hm1, q⟩ := h
    refine ⟨_, pss_cons (ps_set (i := 2) scDraw.nd rfl (.inl rfl) (pe_ix ix_list (pv 0) pe_int (fun _ _ => rfl)))
      (pss_cons (ps_while PassesOwn.never (PW.pt (pw_and (pt_cmpR op_gt (pe_callB call_len_seq (by rfl) T.zLen PySem.boot_len (pa_cons (pv 2) pa_nil)) pe_int (nomark _)) (pw_and1 (pt_cmpR op_eq (pe_ix ix_list (pv 2) pe_int (fun _ _ => rfl)) pe_int (nomark _)))))
        (pss_one (ps_expr (pe_bm PySem.F.plainAttrs_list PySem.F.slot_list_pop PySem.F.type_list_pop mt_popAt (pv 2) (pa_cons pe_int pa_nil)))))
      (pss_cons (ps_if (pt_cmpR op_gt (pe_callB call_len_seq (by rfl) T.zLen PySem.boot_len (pa_cons (pv 2) pa_nil)) pe_int (nomark _))
        (pss_cons (ps_set (i := 3) scDraw.nd rfl (.inl rfl) (pe_ix ix_list (pv 2) pe_int (fun _ _ => rfl)))
        (pss_cons (ps_asg (pe_op op_fdivW (pv 3) (pv 1)) (pg_sub (pv 2) pe_int set_list))
        (pss_one (ps_ret (pe_op op_mod (pe_callTy call_int1 (by rfl) T.zInt (by decide +kernel) (pa_cons (pv 3) pa_nil)) (pv 1)))))) pss_nil)
      (pss_cons (ps_set (i := 4) scDraw.nd rfl (.inl rfl) (pe_op op_mod (pe_callTy call_int1 (by rfl) T.zInt (by decide +kernel) (pa_cons (pe_op op_add (pe_op op_mul (pe_ix ix_list (pv 0) pe_int (fun _ _ => rfl)) pe_int) pe_int) pa_nil)) pe_int))
      (pss_cons (ps_asg (pv 4) (pg_sub (pv 0) pe_int set_list))
      (pss_one (ps_ret (pe_op op_mod (pe_callTy call_int1 (by rfl) T.zInt (by decide +kernel) (pa_cons (pe_op op_fdivW (pv 4) pe_int) pa_nil)) (pv 1)))))))), ?_⟩
    have hSC := hS
    have hne := hS.ne
    obtain ⟨cells, seed, h1, h2, h3, h4, h5⟩ := hS
    refine ⟨.ref s, rfl, s, _, _, _, rfl, rfl, SqL.of h1, atI_nat (j := 0) rfl, ?_⟩
    -- the while: cells lose their zeros
    refine ⟨fun m σ H' => ∃ cs : List Int, m = cs.length ∧ σ = [some (.ref s), some (.int many), some (.ref c), none, none] ∧ H' s = some (.lst [.ref c, .int seed]) ∧ H' c = some (.lst (cs.map V.int)) ∧ (∀ z ∈ cs, 0 ≤ z) ∧ Kp s c H H',
      ⟨cells.length, cells, rfl, rfl, h1, h2, h3, Kp.refl _ _ _⟩, ?_⟩
    rintro m σ H' ⟨cs, rfl, rfl, g1, g2, g3, g4⟩
    refine ⟨.ref c, rfl, c, _, rfl, .inl (SqL.of g2), _, _, rfl, rfl, _, rfl, ?_⟩
    cases cs with
    | nil =>
      refine iteDF (by decide) (iteF ?_)
      -- no cell is left: mixed
      refine ⟨.ref c, rfl, c, _, rfl, .inl (SqL.of g2), _, _, rfl, rfl, _, rfl, iteDF (by decide) ?_⟩
      refine ⟨.ref s, rfl, s, _, _, _, rfl, rfl, SqL.of g1, atI_nat (j := 1) rfl, _, _, rfl, rfl, .inl ⟨by omega, by omega⟩, _, _, rfl, rfl, .inl ⟨_, rfl, _, _, rfl, rfl, (by show (0 : Int) < 2147483647; decide), ?_⟩⟩
      have b0 : 0 ≤ (seed * 48271 + 12345) % 2147483647 := Int.emod_nonneg _ (by decide)
      have b1 : (seed * 48271 + 12345) % 2147483647 < 2147483647 := Int.emod_lt_of_pos _ (by decide)
      refine ⟨_, rfl, .ref s, rfl, s, _, _, 1, rfl, rfl, g1, rfl, ?_⟩
      refine ⟨_, rfl, _, _, rfl, rfl, ⟨by decide, by decide⟩, .inl ⟨_, rfl, _, rfl, _, _, rfl, rfl, hm0, ?_⟩⟩
      refine q _ _ (Int.emod_nonneg _ (by omega)) (Int.emod_lt_of_pos _ hm0) ⟨[], _, upd_same, ?_, fun z hz => absurd hz (by simp), b0, by omega⟩ fun b o n1 n2 e => ?_
      · rw [upd_ne (Ne.symm hne)]
        exact g2
      · rw [upd_ne n1]
        exact g4 b o n1 n2 e
    | cons z r =>
      refine iteDT (by rw [List.length_map, List.length_cons]; omega) ?_
      refine ⟨.ref c, rfl, c, _, _, _, rfl, rfl, SqL.of g2, atI_nat (j := 0) rfl, rfl, _, rfl, ?_⟩
      rw [dcInt]
      refine iteD (fun hz => ?_) fun hz => ?_
      · -- a zero is dropped
        refine ⟨fun σ' H' => ∃ m', m' < (z :: r).length ∧ ∃ cs : List Int, m' = cs.length ∧ σ' = [some (.ref s), some (.int many), some (.ref c), none, none] ∧ H' s = some (.lst [.ref c, .int seed]) ∧ H' c = some (.lst (cs.map V.int)) ∧ (∀ z ∈ cs, 0 ≤ z) ∧ Kp s c H H',
          fun _ _ h => h, ?_⟩
        refine ⟨.ref c, rfl, .inl ⟨rfl, _, SqL.of g2⟩, c, _, _, 0, _, rfl, rfl, g2, by decide, by decide, ?_, rfl, r.length, by rw [List.length_cons]; omega, r, rfl, rfl, ?_, ?_, fun y hy => g3 y (List.mem_cons_of_mem _ hy), fun b o n1 n2 e => ?_⟩
        · exact PySem.StrLaws.seqIndex_nonneg (Int.le_refl 0) (by rw [List.length_map, List.length_cons]; omega)
        · rw [upd_ne hne]
          exact g1
        · rw [upd_same]
          rfl
        · rw [upd_ne n2]
          exact g4 b o n1 n2 e
      · -- the first cell is drawn from
        refine ⟨.ref c, rfl, c, _, rfl, .inl (SqL.of g2), _, _, rfl, rfl, _, rfl, iteDT (by rw [List.length_map, List.length_cons]; omega) ?_⟩
        have z0 := g3 z List.mem_cons_self
        refine ⟨.ref c, rfl, c, _, _, _, rfl, rfl, SqL.of g2, atI_nat (j := 0) rfl, ?_⟩
        refine ⟨_, rfl, _, rfl, _, _, rfl, rfl, wide_div (b := 41) hm0 (by omega) (by decide) (by decide), .ref c, rfl, c, _, _, 0, rfl, rfl, g2, ?_, ?_⟩
        · rw [List.length_map, List.length_cons]
          unfold ixN
          rw [if_pos (Int.le_refl 0), if_pos (by omega)]
          rfl
        refine ⟨_, rfl, .inl ⟨_, rfl, _, rfl, _, _, rfl, rfl, hm0, ?_⟩⟩
        refine q _ _ (Int.emod_nonneg _ (by omega)) (Int.emod_lt_of_pos _ hm0) ⟨z / many :: r, seed, ?_, ?_, ?_, h4, h5⟩ fun b o n1 n2 e => ?_
        · rw [upd_ne hne]
          exact g1
        · rw [upd_same]
          rfl
        · intro y hy
          rcases List.mem_cons.mp hy with rfl | hy
          · exact Int.ediv_nonneg z0 (by omega)
          · exact g3 y (List.mem_cons_of_mem _ hy)
        · rw [upd_ne n2]
          exact g4 b o n1 n2 e
theorem ok_pick {f fD : Addr} {fd fdD : FuncData} {k : Nat} (F : Fun K "_law_pick" "_law_pick" sPick f fd) (T : Blt mg) (G : FnOk P w K mg base CX0 (k + 1) fD fdD ["state", "many"] spDraw)
    (gD : mg "_law_draw" = some (.ref fD)) (kD : PySem.W.keepIn K (.ref fD) = true) (bD : Binds K fdD ["state", "many"] []) : FnOk P w K mg base CX0 (k + 2) f fd ["state", "row"] (spPick K) := by
  refine F.ok scPick (fun vs H Q E h => ?_) (fun cdv A outer s H vs Q E hr h => ?_)
  · obtain ⟨s, c, p, xs, rfl, _⟩ := h
    rfl
  · obtain ⟨s, c, p, xs, rfl, hS, hL, n1, n2, l0, l1, q⟩ := h
    refine ⟨_, pss_one (ps_ret (pe_ix ix_list (pv 1) (pe_call G hr (by rfl) gD kD bD .nil pass0 (pa_cons (pv 0) (pa_cons (pe_callB call_len_seq (by rfl) T.zLen PySem.boot_len (pa_cons (pv 1) pa_nil)) pa_nil))) (fun _ _ => rfl))), ?_⟩
    refine ⟨.ref p, rfl, .ref s, rfl, .ref p, rfl, p, xs, rfl, .inl hL, s, c, xs.length, rfl, hS, by omega, by omega, fun H' r r0 r1 hS' k' => ?_⟩
    obtain ⟨j, rfl⟩ : ∃ j : Nat, r = (j : Int) := ⟨r.toNat, by omega⟩
    have hj : j < xs.length := by omega
    have e : xs[j]? = some xs[j] := List.getElem?_eq_getElem hj
    exact ⟨p, xs, _, _, rfl, rfl, k'.seq hL n1 n2, atI_nat e, q H' j _ e hS' k'⟩
end
end Pk
set_option Elab.async false
set_option linter.all false
set_option maxRecDepth 100000
set_option maxHeartbeats 8000000
namespace Pk
open PySem PySem.Spec PyProof.Rows L2 SX GxR Tk PySem.ErX
def hxA0 : List Addr := [2, 3, 12, 13, 16, 17, 20, 23, 24, 25, 26, 27, 29, 30, 31, 33, 34, 41, 42, 43, 45, 46, 47, 48, 50, 51, 53, 54, 60, 61, 62, 67, 68, 69, 74, 75, 76, 81, 82, 83]
def hxA1 : List Addr := [88, 89, 90, 95, 96, 97, 102, 103, 104, 109, 110, 111, 116, 117, 118, 123, 124, 125, 130, 131, 132, 134, 135, 136, 137, 138, 139, 147, 148, 149, 154, 155, 156, 161, 162, 163, 168, 169, 170, 175]
def hxA2 : List Addr := [176, 177, 182, 183, 184, 189, 190, 191, 196, 197, 198, 203, 204, 205, 210, 211, 212, 222, 223, 224, 229, 230, 231, 236, 237, 238, 243, 244, 245, 250, 251, 252, 257, 258, 259, 264, 265, 266, 271, 272]
def hxA3 : List Addr := [273, 278, 279, 280, 285, 286, 287, 292, 293, 294, 299, 300, 301, 306, 307, 308, 313, 314, 315, 320, 321, 322, 327, 328, 329, 334, 335, 336, 341, 342, 343, 348, 349, 350, 355, 356, 357, 362, 363, 364]
def hxA4 : List Addr := [369, 370, 371, 376, 377, 378, 383, 384, 385, 390, 391, 392, 397, 398, 399, 402, 403, 404, 409, 410, 411, 416, 417, 418, 423, 424, 425, 430, 431, 432, 435, 436, 437, 440, 441, 442, 447, 448, 449, 454]
def hxA5 : List Addr := [455, 456, 461, 462, 463, 466, 467, 468, 471, 472, 473, 478, 479, 480, 483, 484, 485, 140, 141, 142, 213, 214, 215, 216, 217]
def hxA : List Addr := hxA0 ++ hxA1 ++ hxA2 ++ hxA3 ++ hxA4 ++ hxA5
def hxFn0 : List He.DefD := [dgl "_law_state" (topS 61), dgl "_law_draw" (topS 62), dgl "_law_pick" (topS 63), dgl "is_reserved" (topS 16), dgl "in_run" (topS 20), dgl "comment_end" (topS 18), dgl "part_end" (topS 19), dgl "number_value" (topS 24), dgl "is_decimal" (topS 23), dgl "is_number" (topS 22), dgl "token_of" (topS 21), dgl "tokenize" (topS 17), dgl "parse_width" (topS 37), dgl "parse_fields" (topS 36), dgl "parse_header" (topS 35), dgl "parse_target" (topS 43), dgl "parse_owner" (topS 50), dgl "parse_field" (topS 49), dgl "parse_row" (topS 41), dgl "parse_select_end" (topS 42), dgl "parse_way" (topS 40), dgl "parse_state" (topS 39), dgl "parse_states" (topS 38), dgl "parse_params" (topS 45), dgl "parse_args" (topS 54), dgl "parse_operand" (topS 48), dgl "parse_expression" (topS 47), dgl "parse_key" (topS 52), dgl "parse_default" (topS 53), dgl "parse_comparison" (topS 58)]
def hxFn1 : List He.DefD := [dgl "parse_operation" (topS 46), dgl "parse_action" (topS 44), dgl "parse_table" (topS 51), dgl "parse_emits" (topS 59), dgl "parse_condition" (topS 57), dgl "parse_statement" (topS 56), dgl "parse_block" (topS 55), dgl "parse_program" (topS 34), dgl "_law_outcome" (topS 73), dgl "_law_name" (topS 64), dgl "_law_terminals" (topS 68), dgl "_law_first_rules" (topS 65), dgl "_law_rules" (topS 66), dgl "_law_sentence" (topS 67), dgl "_law_turned" (topS 69), dgl "_law_written" (topS 70), dgl "_law_line" (topS 71), dgl "_law_leaves" (topS 72), dme "Reader" "__init__" "Reader.__init__" (inClass (topS 4) 0), dme "Reader" "kind" "Reader.kind" (inClass (topS 4) 1), dme "Reader" "value" "Reader.value" (inClass (topS 4) 2), dme "Reader" "fail" "Reader.fail" (inClass (topS 4) 3), dme "Reader" "skip" "Reader.skip" (inClass (topS 4) 4), dme "Reader" "take" "Reader.take" (inClass (topS 4) 5), dme "Reader" "take_kind" "Reader.take_kind" (inClass (topS 4) 9), dme "Reader" "take_name" "Reader.take_name" (inClass (topS 4) 7), dme "Reader" "take_number" "Reader.take_number" (inClass (topS 4) 8), dme "Reader" "check_end" "Reader.check_end" (inClass (topS 4) 10), dme "Reader" "take_one" "Reader.take_one" (inClass (topS 4) 6), dgl "law" (topS 74)]
def hxFn2 : List He.DefD := [dgl "consists_of" (topS 25)]
def hxFn : List He.DefD := hxFn0 ++ hxFn1 ++ hxFn2
def hxFa0 : List He.Fa := [.glo "_law_state", .glo "_law_draw", .glo "_law_pick", .glo "is_reserved", .glo "in_run", .glo "comment_end", .glo "part_end", .glo "number_value", .glo "is_decimal", .glo "is_number", .glo "token_of", .glo "tokenize", .glo "parse_width", .glo "parse_fields", .glo "parse_header", .glo "parse_target", .glo "parse_owner", .glo "parse_field", .glo "parse_row", .glo "parse_select_end", .glo "parse_way", .glo "parse_state", .glo "parse_states", .glo "parse_params", .glo "parse_args", .glo "parse_operand", .glo "parse_expression", .glo "parse_key", .glo "parse_default", .glo "parse_comparison"]
def hxFa1 : List He.Fa := [.glo "parse_operation", .glo "parse_action", .glo "parse_table", .glo "parse_emits", .glo "parse_condition", .glo "parse_statement", .glo "parse_block", .glo "parse_program", .glo "_law_outcome", .glo "_law_name", .glo "_law_terminals", .glo "_law_first_rules", .glo "_law_rules", .glo "_law_sentence", .glo "_law_turned", .glo "_law_written", .glo "_law_line", .glo "_law_leaves", .int "LONGEST_NAME" 16, .int "MOST_DIGITS" 10, .int "MOST_HEX_DIGITS" 8, .int "GREATEST_NUMBER" 4294967295, .int "MOST_BLOCKS" 8, .int "MOST_NOTS" 8, .str "LETTERS" "abcdefghijklmnopqrstuvwxyzABCDEFGHIJKLMNOPQRSTUVWXYZ", .str "DIGITS" "0123456789", .str "HEX_DIGITS" "0123456789abcdef", .glo "END_TARGETS", .glo "OWNER_WORDS", .glo "OPERATORS"]
def hxFa2 : List He.Fa := [.glo "KEY_KINDS", .glo "COMPARISONS", .glo "RESERVED", .glo "LONG_SIGNS", .glo "SHORT_SIGNS", .free "range", .free "str", .free "min", .free "len", .free "list", .free "int", .free "abs", .free "isinstance", .free "all", .free "tuple", .free "bool", .free "super", .glo "Reader", .cls "Reader", .noat "Reader" "tokens", .noat "Reader" "at", .mkr "Reader", .meth "Reader" "kind", .meth "Reader" "value", .meth "Reader" "fail", .meth "Reader" "skip", .meth "Reader" "take", .meth "Reader" "take_kind", .meth "Reader" "take_name", .meth "Reader" "take_number"]
def hxFa3 : List He.Fa := [.meth "Reader" "check_end", .meth "Reader" "take_one", .glo "law", .glo "consists_of", .glo "TextError"]
def hxFa : List He.Fa := hxFa0 ++ hxFa1 ++ hxFa2 ++ hxFa3
def hxLo0 : List Str := ["SwitchError", "TextError", "Reader", "RESERVED", "LETTERS", "DIGITS", "HEX_DIGITS", "LONG_SIGNS", "SHORT_SIGNS", "LONGEST_NAME", "MOST_DIGITS", "MOST_HEX_DIGITS", "GREATEST_NUMBER", "is_reserved", "tokenize", "comment_end", "part_end", "in_run", "token_of", "is_number", "is_decimal", "number_value", "OPERATORS", "OWNER_WORDS", "END_TARGETS", "KEY_KINDS", "COMPARISONS", "MOST_BLOCKS", "MOST_NOTS", "parse_program"]
def hxLo1 : List Str := ["parse_header", "parse_fields", "parse_width", "parse_states", "parse_state", "parse_way", "parse_row", "parse_select_end", "parse_target", "parse_action", "parse_params", "parse_operation", "parse_expression", "parse_operand", "parse_field", "parse_owner", "parse_table", "parse_key", "parse_default", "parse_args", "parse_block", "parse_statement", "parse_condition", "parse_comparison", "parse_emits", "_law_state", "_law_draw", "_law_pick", "_law_name", "_law_first_rules"]
def hxLo2 : List Str := ["_law_rules", "_law_sentence", "_law_terminals", "_law_turned", "_law_written", "_law_line", "_law_leaves", "_law_outcome"]
def hxLo : List Str := hxLo0 ++ hxLo1 ++ hxLo2
def hxEx (K : PySem.W.Frag) : Bool := He.tupB K "END_TARGETS" [.str "accept", .str "reject"] && He.tupB K "OWNER_WORDS" [.str "meta", .str "packet"] && He.tupB K "OPERATORS" [.str "+", .str "-", .str "&", .str "|", .str "^"] && He.tupB K "KEY_KINDS" [.str "exact", .str "mask", .str "prefix"] && He.tupB K "COMPARISONS" [.str "==", .str "<"] && He.tupB K "RESERVED" [.str "accept", .str "action", .str "add", .str "apply", .str "control", .str "default", .str "drop", .str "else", .str "emit", .str "exact", .str "extract", .str "go", .str "header", .str "if", .str "key", .str "mask", .str "meta", .str "not", .str "packet", .str "parser", .str "prefix", .str "program", .str "reject", .str "remove", .str "select", .str "send", .str "size", .str "state", .str "table", .str "use", .str "valid"] && He.tupB K "LONG_SIGNS" [.str "==", .str "->"] && He.tupB K "SHORT_SIGNS" [.str "{", .str "}", .str "(", .str ")", .str ":", .str ";", .str ",", .str ".", .str "=", .str "<", .str "+", .str "-", .str "&", .str "|", .str "^"] && excB K "TextError" "line" && exB K "TextError" "line" "TextError.__init__" "/claim/cut.py" && tabB K "consists_of"
def hxPs : ErX.PsX := ⟨⟨6, 17, 6, 21⟩, ⟨6, 23, 6, 27⟩, ⟨7, 8, 7, 13⟩, ⟨7, 8, 7, 15⟩, ⟨7, 8, 7, 24⟩, ⟨7, 27, 7, 32⟩, ⟨7, 33, 7, 37⟩, ⟨7, 32, 7, 38⟩, ⟨7, 25, 7, 39⟩, ⟨7, 8, 7, 40⟩, ⟨7, 8, 7, 40⟩, ⟨8, 8, 8, 12⟩, ⟨8, 8, 8, 17⟩, ⟨8, 20, 8, 24⟩, ⟨8, 8, 8, 24⟩⟩
def hxVe : List FnI := [valI "TextError.__init__" "line" "line " hxPs]
abbrev hxR : PySem.W.OpenRow := PySem.W.OpenLaw.row PySem.Challenge.rw_wholepackets_k49_whole_grammar_with_any
theorem hx_run (w : World) : HandSHeadRun.RunEq hxR (PySem.W.view hxR.prog [25, 74]) (hookX hxA hxFa hxFn hxEx ["TextError"] hxVe) (obX hxA hxFa hxFn hxEx ["TextError"]) 6000 hxLo w := by
  intro os
  kernel_rfl
theorem ex_at0 {K : PySem.W.Frag} (he : hxEx K = true) : He.tupB K "END_TARGETS" [.str "accept", .str "reject"] = true := (Bool.and_eq_true_iff.mp (Bool.and_eq_true_iff.mp (Bool.and_eq_true_iff.mp (Bool.and_eq_true_iff.mp (Bool.and_eq_true_iff.mp (Bool.and_eq_true_iff.mp (Bool.and_eq_true_iff.mp (Bool.and_eq_true_iff.mp (Bool.and_eq_true_iff.mp (Bool.and_eq_true_iff.mp he).1).1).1).1).1).1).1).1).1).1
theorem ex_at1 {K : PySem.W.Frag} (he : hxEx K = true) : He.tupB K "OWNER_WORDS" [.str "meta", .str "packet"] = true := (Bool.and_eq_true_iff.mp (Bool.and_eq_true_iff.mp (Bool.and_eq_true_iff.mp (Bool.and_eq_true_iff.mp (Bool.and_eq_true_iff.mp (Bool.and_eq_true_iff.mp (Bool.and_eq_true_iff.mp (Bool.and_eq_true_iff.mp (Bool.and_eq_true_iff.mp (Bool.and_eq_true_iff.mp he).1).1).1).1).1).1).1).1).1).2
theorem ex_at2 {K : PySem.W.Frag} (he : hxEx K = true) : He.tupB K "OPERATORS" [.str "+", .str "-", .str "&", .str "|", .str "^"] = true := (Bool.and_eq_true_iff.mp (Bool.and_eq_true_iff.mp (Bool.and_eq_true_iff.mp (Bool.and_eq_true_iff.mp (Bool.and_eq_true_iff.mp (Bool.and_eq_true_iff.mp (Bool.and_eq_true_iff.mp (Bool.and_eq_true_iff.mp (Bool.and_eq_true_iff.mp he).1).1).1).1).1).1).1).1).2
theorem ex_at3 {K : PySem.W.Frag} (he : hxEx K = true) : He.tupB K "KEY_KINDS" [.str "exact", .str "mask", .str "prefix"] = true := (Bool.and_eq_true_iff.mp (Bool.and_eq_true_iff.mp (Bool.and_eq_true_iff.mp (Bool.and_eq_true_iff.mp (Bool.and_eq_true_iff.mp (Bool.and_eq_true_iff.mp (Bool.and_eq_true_iff.mp (Bool.and_eq_true_iff.mp he).1).1).1).1).1).1).1).2
theorem ex_at4 {K : PySem.W.Frag} (he : hxEx K = true) : He.tupB K "COMPARISONS" [.str "==", .str "<"] = true := (Bool.and_eq_true_iff.mp (Bool.and_eq_true_iff.mp (Bool.and_eq_true_iff.mp (Bool.and_eq_true_iff.mp (Bool.and_eq_true_iff.mp (Bool.and_eq_true_iff.mp (Bool.and_eq_true_iff.mp he).1).1).1).1).1).1).2
theorem ex_at5 {K : PySem.W.Frag} (he : hxEx K = true) : He.tupB K "RESERVED" [.str "accept", .str "action", .str "add", .str "apply", .str "control", .str "default", .str "drop", .str "else", .str "emit", .str "exact", .str "extract", .str "go", .str "header", .str "if", .str "key", .str "mask", .str "meta", .str "not", .str "packet", .str "parser", .str "prefix", .str "program", .str "reject", .str "remove", .str "select", .str "send", .str "size", .str "state", .str "table", .str "use", .str "valid"] = true := (Bool.and_eq_true_iff.mp (Bool.and_eq_true_iff.mp (Bool.and_eq_true_iff.mp (Bool.and_eq_true_iff.mp (Bool.and_eq_true_iff.mp (Bool.and_eq_true_iff.mp he).1).1).1).1).1).2
theorem ex_at6 {K : PySem.W.Frag} (he : hxEx K = true) : He.tupB K "LONG_SIGNS" [.str "==", .str "->"] = true := (Bool.and_eq_true_iff.mp (Bool.and_eq_true_iff.mp (Bool.and_eq_true_iff.mp (Bool.and_eq_true_iff.mp (Bool.and_eq_true_iff.mp he).1).1).1).1).2
theorem ex_at7 {K : PySem.W.Frag} (he : hxEx K = true) : He.tupB K "SHORT_SIGNS" [.str "{", .str "}", .str "(", .str ")", .str ":", .str ";", .str ",", .str ".", .str "=", .str "<", .str "+", .str "-", .str "&", .str "|", .str "^"] = true := (Bool.and_eq_true_iff.mp (Bool.and_eq_true_iff.mp (Bool.and_eq_true_iff.mp (Bool.and_eq_true_iff.mp he).1).1).1).2
theorem ex_at8 {K : PySem.W.Frag} (he : hxEx K = true) : excB K "TextError" "line" = true := (Bool.and_eq_true_iff.mp (Bool.and_eq_true_iff.mp (Bool.and_eq_true_iff.mp he).1).1).2
theorem ex_at9 {K : PySem.W.Frag} (he : hxEx K = true) : exB K "TextError" "line" "TextError.__init__" "/claim/cut.py" = true := (Bool.and_eq_true_iff.mp (Bool.and_eq_true_iff.mp he).1).2
theorem ex_at10 {K : PySem.W.Frag} (he : hxEx K = true) : tabB K "consists_of" = true := (Bool.and_eq_true_iff.mp he).2
end Pk
set_option Elab.async false
set_option linter.all false
set_option maxRecDepth 100000
set_option maxHeartbeats 4000000
namespace Pk
open PySem PySem.Spec PyProof.Rows L2 SX GxR
/-- the reading: y stands in slot j; behind it the def's table may have grown -/
def tAllC (P : Addr) (j : Nat) (te : TE) : TE := fun σ H Q => te σ H fun v H1 => ∃ a z : Str, v = .str a ∧ σ[j]? = some (some (.str z)) ∧ TabG H1 P ∧
  ∀ H2, Tabbed P H1 H2 → Q (.bl (a.cps.toList.all fun c => decide (c ∈ z.cps.toList))) H2
/-- x in y within the generator: x a sign at the generator's own name, y read off its cell -/
theorem elt_in {prog : Program} {w : World} {A : Around} {E : Value → Shared → Prop} {env : Env} {x y : Str} {q1 q2 q3 : Pos} {s : Shared} {m : Str → Option Value} {c : Nat} {t u : Tok} {z : Str} {ca : Addr}
    (hk : env.scope.kind = .function) (hx : env.scope.names.lookup x = some .local) (hy : env.scope.names.lookup y = some .free) (dx : (x == ("__debug__" : Str)) = false) (dy : (y == ("__debug__" : Str)) = false) (ey : (y == ("__classdict__" : Str)) = false)
    (hn : s.heap.Ns env.locals m) (hm : m x = some (.str ⟨#[c]⟩ t)) (hc : env.cells.lookup y = some ca) (ho : s.heap.IsCell ca (some (.str z u))) :
    wpAny (model prog w) A (eval (.Compare (.Name x q1) [.In] [.Name y q2] q3) env) (fun v s' => v = .bool (decide (c ∈ z.cps.toList)) ∧ Keeps s s') E s := by
  refine wpAny_Compare1 ?_
  refine wpAny_Name (wpAny_loadName_local hk hx hn hm ?_) dx
  refine wpAny_Name (wpAny_loadName_free hk hy hc ho ?_ ey) dy
  refine in_str ⟨?_, keeps_refl s⟩
  have e := in_one z.cps.toList c
  rw [S_tl] at e
  exact congrArg Value.bool e
variable {X : Cx}
/-- the code object of a generator expression: found in the def's table, or made and put there -/
theorem gen_code {pins : List (Addr × Obj)} {σ : L2.St} {H1 : Hp} {s1 : Shared} {c P : Addr} {gpos : Pos} {scope : Scope} {o : Obj} {ps : Array Value} {Q3 : Value → Shared → Prop} {E : Value → Shared → Prop}
    (TB : TabB X.base X.mg c P) (hcode : X.env.code = .ref c) (I1 : L2.Inv X pins σ H1 s1) (hP : H1 P = some (.tbl ps)) (tri : TriplesOk ps.toList)
    (h : ∀ (code : Value) (h3 : Heap) (k3 : Nat) (more : Array Value), Heap.ExtBut P (s1.heap.push o) h3 → s1.heap.objs.size + 1 ≤ h3.objs.size →
      h3.get? P = some { cls := .none, data := .fields (ps ++ more) } → TriplesOk (ps ++ more).toList → Q3 code { s1 with heap := h3, toks := k3 }) :
    wpAny (model X.prog X.w) X.A (genexprCode X.env gpos (X.env.qual ++ "<genexpr>") scope) Q3 E { s1 with heap := s1.heap.push o } := by
  have atP : s1.heap.get? P = some { cls := .none, data := .fields ps } := I1.hok P _ hP
  have atP2 : (s1.heap.push o).get? P = some { cls := .none, data := .fields ps } := Heap.get?_push_of_some _ atP
  have hd2 : PySem.W.CodeHd (s1.heap.push o) c P := TB.code.keeps fun b u e => Heap.get?_push_of_some _ (I1.bk b u e)
  have sz2 : (s1.heap.push o).objs.size = s1.heap.objs.size + 1 := Heap.size_push ..
  cases found : codeAmong gpos ps.toList with
  | some cv =>
    apply wpAny_genexprCode_hit hcode (hd2.code atP2 tri) found
    refine h cv (s1.heap.push o) s1.toks #[] (Heap.ExtBut.refl _ _) (Nat.le_of_eq sz2.symm) ?_ ?_
    · rw [Array.append_empty]
      exact atP2
    · rw [Array.append_empty]
      exact tri
  | none =>
    apply wpAny_genexprCodeX hcode (hd2.code atP2 tri) (hd2.tab atP2) found
    intro c' h' tk hx hge hlt hco' _ htab' _
    obtain ⟨o1, vs, f1, tf, fl, tg, inF, tx, tt, op, _, _, _, _, _, _, _, _, _, htr, _⟩ := hco'
    refine h _ h' tk _ hx ?_ htab'.2 htr
    have l1 : (s1.heap.push o).objs.size ≤ h'.objs.size := Nat.le_trans hge (Nat.le_of_lt hlt)
    rw [sz2] at l1
    exact l1
theorem pe_allC {c P : Addr} {part : Expr} {x y : Str} {j k : Nat} {q1 q2 q3 px pa gpos pos : Pos} {scope : Scope} {te : TE}
    (hr : Room k X.A) (hg : Gl X "all") (zAll : X.mg "all" = none) (bAll : bootBuiltins "all" = some (.builtin "all")) (TB : TabB X.base X.mg c P) (hcode : X.env.code = .ref c) (S : GenS X.env scope x)
    (hi : PE X part te) (hN : X.N[j]? = some y) (hy : X.env.scope.names.lookup y = some .cell) (fy : scope.names.lookup y = some .free)
    (clo : ∀ (cells : List (Str × Addr)) (ca : Addr), cells.lookup y = some ca → (cloFrom cells scope.names []).lookup y = some ca)
    (dx : (x == ("__debug__" : Str)) = false) (dy : (y == ("__debug__" : Str)) = false) (ey : (y == ("__classdict__" : Str)) = false) (hf : ∀ v, genFold part X.env v = pure v)
    (he : starEach [.GeneratorExp (.Compare (.Name x q1) [.In] [.Name y q2] q3) [⟨.Name x px, part, [], 0⟩] scope gpos] X.env =
      (false, eval (.GeneratorExp (.Compare (.Name x q1) [.In] [.Name y q2] q3) [⟨.Name x px, part, [], 0⟩] scope gpos) X.env) :: starEach [] X.env := by rfl) :
    PE X (.Call (.Name "all" pa) [.GeneratorExp (.Compare (.Name x q1) [.In] [.Name y q2] q3) [⟨.Name x px, part, [], 0⟩] scope gpos] [] pos) (tAllC P j te) := by
  constructor
  intro pins s σ H Q I hQ
  have dep := hr.dp
  apply wpAny_Call_Name_kw
  apply ld_blt I hg zAll bAll
  · apply PyProof.Rows.callWith_builtin1 _ he (by rfl)
    rw [he]
    show wpAny _ _ (spliced ((false, eval (.GeneratorExp _ _ scope gpos) X.env) :: backTo pos (starEach [] X.env))) _ _ s
    apply Calls.spliced_cons
    apply wpAny_GeneratorExp_walksQ hr.hd S.co (closure_ok S.free) S.cell S.dot S.loc S.kind (by omega) _ hf
    refine wpAny_mono (hi.run pins s σ H _ I hQ) (fun pv s1 w1 => ?_) fun _ _ e => e
    obtain ⟨v, H1, I1, r1, a, z, ev, hz, ⟨ps, hP, tri⟩, q1⟩ := w1
    subst ev
    obtain ⟨ta, ea⟩ : ∃ t, pv = Value.str a t := r1
    subst ea
    -- the cell of y, and what is in it
    obtain ⟨mL, nsL, look⟩ := I1.loc
    obtain ⟨uz, rz, lk⟩ := look j y (.str z) hN hz (.inr (.inl hy))
    obtain ⟨tz, euz⟩ : ∃ t, uz = Value.str z t := rz
    subst euz
    have cellY : ∃ ca, X.env.cells.lookup y = some ca ∧ s1.heap.IsCell ca (some (.str z tz)) := by
      cases lk with
      | inl l =>
        have l1 : X.env.scope.names.lookup y = some .local := l.1
        rw [hy] at l1
        cases l1
      | inr l => exact l.2
    obtain ⟨ca, hca, isC⟩ := cellY
    apply wpAny_pyIter_str
    intro o St W hst
    refine ⟨I1.nolimit.push o, gen_code TB hcode I1 hP tri fun code h3 k3 more ext le3 atP3 tri3 => ?_⟩
    have atP : s1.heap.get? P = some { cls := .none, data := .fields ps } := I1.hok P _ hP
    have notP : ∀ b, s1.heap.objs.size ≤ b → b ≠ P := fun b hb e => by
      have := Heap.lt_size atP
      rw [← e] at this
      exact absurd (Nat.lt_of_lt_of_le this hb) (Nat.lt_irrefl _)
    have keep3 : ∀ b u, b ≠ P → s1.heap.get? b = some u → h3.get? b = some u := fun b u n e => ext b u n (Heap.get?_push_of_some _ e)
    have stat : cStatics < s1.heap.objs.size ∧ cStatics ≠ P := by
      obtain ⟨_, ns1, _⟩ := I1.nolimit
      refine ⟨ns1.lt, fun e => ?_⟩
      obtain ⟨o', es, ep, ho, hd, _⟩ := ns1
      rw [e, atP] at ho
      cases ho
      cases hd
    have cellP : ca ≠ P := fun e => by
      obtain ⟨oc, h1, h2⟩ := isC
      rw [e, atP] at h1
      cases h1
      cases h2
    obtain ⟨bm, ob, b1, b2, b3, b4, b5, b6, b7, b8⟩ := TB.bm
    have glob2 := (I1.mod.glob.keeps I1.bk).push o
    rw [← I1.ok.glob] at glob2
    refine wpAny_builtinsFor (m := X.mg) (glob2.extBut ext (by rw [I1.ok.glob]; exact TB.gP)) b1 b2 (keep3 _ _ b4 (I1.bk _ _ b5)) b6 b7 b8 ?_
    let it := s1.heap.objs.size
    refine ⟨it, [it], [it], a.cps.size, SignAt a, St, fun _ => true, fun i v => ∃ cc, a.cps[i]? = some cc ∧ v = .bool (decide (cc ∈ z.cps.toList)), rfl, W, ?_, ?_, (I1.nolimit.push o).extBut ext stat.2, ?_, ?_, ?_⟩
    · refine (W X.A hr.hd).frame _ _ _ hst fun b hb u e => ext b u ?_ e
      obtain rfl : b = it := List.mem_singleton.mp hb
      exact notP _ (Nat.le_refl _)
    · intro b hb
      obtain rfl : b = it := List.mem_singleton.mp hb
      exact le3
    · intro hb
      have e : cStatics = it := List.mem_singleton.mp hb
      have := stat.1
      rw [e] at this
      exact Nat.lt_irrefl _ this
    · intro href hhref
      have cell3 : href.get? ca = h3.get? ca ∧ ca < h3.objs.size ∧ ca ∉ [it] := by
        obtain ⟨oc, h1, h2⟩ := isC
        have l1 := Heap.lt_size h1
        have e3 := keep3 ca oc cellP h1
        refine ⟨(hhref ca oc e3).trans e3.symm, Nat.lt_of_lt_of_le l1 (Nat.le_of_succ_le le3), fun hm => ?_⟩
        have e : ca = it := List.mem_singleton.mp hm
        rw [e] at l1
        exact Nat.lt_irrefl _ l1
      refine ⟨fun A' E' i v s₂ m₂ hA hPv hn hm hk => ?_, fun A' E' i v s₂ m₂ hA hPv hp hn hm hk => ?_⟩
      · simp only [List.forIn_nil]
        exact wpAny_pure ⟨rfl, keeps_refl _⟩
      · obtain ⟨cc, u, hcc, rfl⟩ := hPv
        have isC2 : s₂.heap.IsCell ca (some (.str z tz)) := by
          obtain ⟨oc, h1, h2⟩ := isC
          exact ⟨oc, hk ca (List.mem_range.mpr cell3.2.1) cell3.2.2 oc (by rw [cell3.1]; exact keep3 ca oc cellP h1), h2⟩
        refine wpAny_mono (elt_in (s := s₂) (m := m₂) (c := cc) (t := u) (u := tz) (z := z) (ca := ca) S.kind S.loc fy dx dy ey hn hm (clo _ _ hca) isC2) (fun v s3 r => ⟨⟨cc, hcc, r.1⟩, r.2⟩) fun _ _ e => e
    · intro g h5 tk5 gs hgb hag hsz5 hk5 W5 hat
      simp only [GxR.passing_true, List.length_range] at W5
      have WS := W5.in4_1
      refine Calls.spliced_nil (call_all_walkS (WS.self 0 _ _ _ hat ⟨g, _, _, _, _, _, _, trF (fun c => decide (c ∈ z.cps.toList)) a.cps.toList, rfl, WS, hat, ?_, fun s' hmv => ?_⟩))
      · intro i v si Qi Ei hv hQi
        obtain ⟨i', hi', cc, hcc, rfl⟩ := hv
        obtain ⟨hlt, ei⟩ := List.getElem?_eq_some_iff.mp hi'
        rw [List.getElem_range] at ei
        subst ei
        have hQ2 : Qi (trF (fun c => decide (c ∈ z.cps.toList)) a.cps.toList i) si := hQi
        rw [trF_some (show a.cps.toList[i]? = some cc by rw [Array.getElem?_toList]; exact hcc)] at hQ2
        exact wpAny_truthy_bool hQ2
      · have fresh : ∀ b u, s1.heap.get? b = some u → b ∉ h3.objs.size :: [it] := fun b u e hb => by
          have hl : b < it := Heap.lt_size e
          rcases List.mem_cons.mp hb with z1 | z1
          · have le4 : it + 1 ≤ h3.objs.size := le3
            rw [z1] at hl
            exact absurd (Nat.lt_of_lt_of_le hl (Nat.le_of_succ_le le4)) (Nat.lt_irrefl _)
          · have e1 : b = it := List.mem_singleton.mp z1
            rw [e1] at hl
            exact Nat.lt_irrefl _ hl
        have J := inv_tab (more := more) (h' := s'.heap) (g' := s'.gens) (d' := s'.drawn) (t' := s'.toks) I1 hP (fun b u n e => hmv.heap b u (fresh b u e) (hk5 b u (keep3 b u n e)))
          (hmv.heap P _ (fresh P _ atP) (hk5 P _ atP3)) (AllBare.movedS (I1.bare.push hgb) hmv)
        rw [sh_eta s1 s' hmv.os] at J
        have fin := q1 (upd H1 P (.tbl (ps ++ more))) ⟨⟨_, upd_same, tri3⟩, fun b hb => upd_ne hb⟩
        rw [← all_signs a (fun c => decide (c ∈ z.cps.toList))] at fin
        exact ⟨.bl _, _, J, rfl, fin⟩
end Pk
set_option Elab.async false
set_option linter.all false
set_option maxRecDepth 100000
set_option maxHeartbeats 4000000
namespace Pk
open PySem PySem.Spec PyProof.Rows L2 SX GxR Tk
abbrev sIsRes : Stmt := topS 16
abbrev sTokenize : Stmt := topS 17
abbrev sComEnd : Stmt := topS 18
abbrev sPartEnd : Stmt := topS 19
abbrev sInRun : Stmt := topS 20
abbrev sTokenOf : Stmt := topS 21
abbrev sIsNum : Stmt := topS 22
abbrev sIsDec : Stmt := topS 23
abbrev sNumVal : Stmt := topS 24
abbrev sCons : Stmt := topS 25
theorem scIsRes : FnScope ["name"] ["name"] (defScope sIsRes) := ⟨rfl, rfl, rfl, by decide +kernel, rfl, by decide +kernel, by decide +kernel⟩
theorem scTokenize : FnScope ["text", "tokens", "line", "at", "char", "end"] ["text"] (defScope sTokenize) := ⟨rfl, rfl, rfl, by decide +kernel, rfl, by decide +kernel, by decide +kernel⟩
theorem scComEnd : FnScope ["text", "at", "end"] ["text", "at"] (defScope sComEnd) := ⟨rfl, rfl, rfl, by decide +kernel, rfl, by decide +kernel, by decide +kernel⟩
theorem scPartEnd : FnScope ["text", "at", "end"] ["text", "at"] (defScope sPartEnd) := ⟨rfl, rfl, rfl, by decide +kernel, rfl, by decide +kernel, by decide +kernel⟩
theorem scInRun : FnScope ["char"] ["char"] (defScope sInRun) := ⟨rfl, rfl, rfl, by decide +kernel, rfl, by decide +kernel, by decide +kernel⟩
theorem scTokenOf : FnScope ["part", "line"] ["part", "line"] (defScope sTokenOf) := ⟨rfl, rfl, rfl, by decide +kernel, rfl, by decide +kernel, by decide +kernel⟩
theorem scIsNum : FnScope ["part", "digits"] ["part"] (defScope sIsNum) := ⟨rfl, rfl, rfl, by decide +kernel, rfl, by decide +kernel, by decide +kernel⟩
theorem scIsDec : FnScope ["part"] ["part"] (defScope sIsDec) := ⟨rfl, rfl, rfl, by decide +kernel, rfl, by decide +kernel, by decide +kernel⟩
theorem scNumVal : FnScope ["part"] ["part"] (defScope sNumVal) := ⟨rfl, rfl, rfl, by decide +kernel, rfl, by decide +kernel, by decide +kernel⟩
theorem scCons : FnScope ["part", "chars"] ["part", "chars"] (defScope sCons) := ⟨rfl, rfl, rfl, by decide +kernel, rfl, by decide +kernel, by decide +kernel⟩
/-- the constants of the program's top -/
structure Tx (K : PySem.W.Frag) (mg : Str → Option Value) : Prop where
  zInt : mg "int" = none
  zLen : mg "len" = none
  zAll : mg "all" = none
  RES : ∃ p, mg "RESERVED" = some (.ref p) ∧ TupK K p (words.map V.str)
  LNG : ∃ p, mg "LONG_SIGNS" = some (.ref p) ∧ TupK K p (longs.map V.str)
  SHT : ∃ p, mg "SHORT_SIGNS" = some (.ref p) ∧ TupK K p (shorts.map V.str)
  LET : ∃ u, mg "LETTERS" = some u ∧ RelV (.str lettersS) u
  DIG : ∃ u, mg "DIGITS" = some u ∧ RelV (.str digitsS) u
  HEX : ∃ u, mg "HEX_DIGITS" = some u ∧ RelV (.str hexS) u
  LNM : ∃ u, mg "LONGEST_NAME" = some u ∧ RelV (.int 16) u
  MDG : ∃ u, mg "MOST_DIGITS" = some u ∧ RelV (.int 10) u
  MHX : ∃ u, mg "MOST_HEX_DIGITS" = some u ∧ RelV (.int 8) u
  GRT : ∃ u, mg "GREATEST_NUMBER" = some u ∧ RelV (.int 4294967295) u
def spIsRes : Sp := fun vs H Q _ => ∃ x : Str, vs = [.str x] ∧ Q (.bl (decide (x ∈ words))) H
def spInRun : Sp := fun vs H Q _ => ∃ c : Nat, vs = [.str (S [c])] ∧ Q (.bl (inRun c)) H
/-- where the comment ends that begins at i -/
def comLen (t : List Nat) : Nat := (t.takeWhile (· ≠ 10)).length
def spComEnd : Sp := fun vs H Q _ => ∃ (t : List Nat) (i : Nat), vs = [.str (S t), .int i] ∧ i ≤ t.length ∧ t.length ≤ 16000000 ∧ Q (.int ((i + comLen (t.drop i) : Nat) : Int)) H
def spPartEnd : Sp := fun vs H Q _ => ∃ (t : List Nat) (i : Nat), vs = [.str (S t), .int i] ∧ i < t.length ∧ t.length ≤ 16000000 ∧ Q (.int ((i + partLen (t.drop i) : Nat) : Int)) H
def spCons (P : Addr) : Sp := fun vs H Q _ => ∃ (p : List Nat) (z : Str), vs = [.str (S p), .str z] ∧ TabG H P ∧ ∀ H', Tabbed P H H' → Q (.bl (allIn p z.cps.toList)) H'
def spIsNum (P : Addr) : Sp := fun vs H Q _ => ∃ p : List Nat, vs = [.str (S p)] ∧ p ≠ [] ∧ p.length ≤ 16000000 ∧ TabG H P ∧ ∀ H', Tabbed P H H' → Q (.bl (isNum p)) H'
/-- a number in decimal digits that is not too great -/
def isDec (p : List Nat) : Bool :=
  if p.take 1 = [48] then decide (p = [48])
  else if 1 ≤ p.length ∧ p.length ≤ 10 then allIn p digits && decide (NumText.digitsVal p ≤ 4294967295) else false
def spIsDec (P : Addr) : Sp := fun vs H Q _ => ∃ p : List Nat, vs = [.str (S p)] ∧ p.length ≤ 16000000 ∧ TabG H P ∧ ∀ H', Tabbed P H H' → Q (.bl (isDec p)) H'
theorem isDec_num {p : List Nat} (hne : p ≠ []) (hx : ¬ isHexed p = true) : isNum p = isDec p := by
  have h0 : 1 ≤ p.length := by
    cases p with
    | nil => exact absurd rfl hne
    | cons a r => rw [List.length_cons]; omega
  unfold isNum isDec
  rw [if_neg hx]
  by_cases h1 : p.take 1 = [48]
  · rw [if_pos h1, if_pos h1]
  · rw [if_neg h1, if_neg h1]
    by_cases h2 : 10 < p.length
    · rw [if_pos h2, if_neg (by omega)]
    · rw [if_neg h2, if_pos ⟨h0, by omega⟩]
def spNumVal : Sp := fun vs H Q _ => ∃ p : List Nat, vs = [.str (S p)] ∧ p ≠ [] ∧ isNum p = true ∧ Q (.int (numVal p)) H
section
variable {P : Program} {w : World} {K : PySem.W.Frag} {mg : Str → Option Value} {base : Heap}
theorem ok_isres {f : Addr} {fd : FuncData} {k : Nat} (F : Fun K "is_reserved" "is_reserved" sIsRes f fd) (T : Tx K mg) : FnOk P w K mg base CX0 (k + 1) f fd ["name"] spIsRes := by
  obtain ⟨p, gp, tp⟩ := T.RES
  refine F.ok scIsRes (fun vs H Q E h => ?_) (fun cdv A outer s H vs Q E hr h => ?_)
  · obtain ⟨x, rfl, _⟩ := h
    rfl
  · obtain ⟨x, rfl, q⟩ := h
    refine ⟨_, pss_one (ps_ret (pe_cmpR op_in_seq (pv 0) (pe_glob (v := .ref p) rfl gp rfl) (by rfl))), ?_⟩
    refine ⟨_, rfl, p, _, rfl, .inr (tp.at H), rfl, flat_strs _, ?_⟩
    show Q (.bl (inV (.str x) (words.map V.str))) H
    rw [inV_strs]
    exact q
theorem us_code : Str.ofString "_" = S [95] := by decide +kernel
theorem ok_inrun {f : Addr} {fd : FuncData} {k : Nat} (F : Fun K "in_run" "in_run" sInRun f fd) (T : Tx K mg) : FnOk P w K mg base CX0 (k + 1) f fd ["char"] spInRun := by
  obtain ⟨uL, gL, rL⟩ := T.LET
  obtain ⟨uD, gD, rD⟩ := T.DIG
  refine F.ok scInRun (fun vs H Q E h => ?_) (fun cdv A outer s H vs Q E hr h => ?_)
  · obtain ⟨x, rfl, _⟩ := h
    rfl
  · obtain ⟨c, rfl, q⟩ := h
    refine ⟨_, pss_one (ps_ret (pe_or (pe_cmpR op_in_sign (pv 0) (pe_glob rfl gL rL) (by rfl)) (pe_or (pe_cmpR op_in_sign (pv 0) (pe_glob rfl gD rD) (by rfl)) (pe_one (pe_cmpR op_eq (pv 0) pe_str (nomark _)))))), ?_⟩
    have e : inRun c = (decide (c ∈ letters) || decide (c ∈ digits) || decide (c = 95)) := rfl
    refine ⟨_, rfl, c, lettersS, rfl, rfl, _, rfl, iteD (fun h1 => ?_) fun h1 => ?_⟩
    · rw [e, decide_eq_true h1] at q
      exact q
    · refine ⟨_, rfl, c, digitsS, rfl, rfl, _, rfl, iteD (fun h2 => ?_) fun h2 => ?_⟩
      · rw [e, decide_eq_true h2, Bool.or_true] at q
        exact q
      · refine ⟨_, rfl, rfl, ?_⟩
        rw [e, decide_eq_false h1, decide_eq_false h2] at q
        rw [us_code, dcStr, dcS]
        have e2 : decide ([c] = [95]) = decide (c = 95) := by
          by_cases h : c = 95
          · rw [h]; rfl
          · rw [decide_eq_false h, decide_eq_false fun z => h (List.cons.inj z).1]
        rw [e2]
        exact q
theorem nl_code : Str.ofString "\n" = S [10] := by decide +kernel
theorem ok_comend {f : Addr} {fd : FuncData} {k : Nat} (F : Fun K "comment_end" "comment_end" sComEnd f fd) (T : Tx K mg) : FnOk P w K mg base CX0 (k + 1) f fd ["text", "at"] spComEnd := by
  refine F.ok scComEnd (fun vs H Q E h => ?_) (fun cdv A outer s H vs Q E hr h => ?_)
  · obtain ⟨t, i, rfl, _⟩ := h
    rfl
  · obtain ⟨t, i, rfl, hi, hz, q⟩ := h
    refine ⟨_, pss_cons (ps_set (i := 2) scComEnd.nd rfl (.inl rfl) (pe_bm PySem.F.plainAttrs_str PySem.F.slot_str_find PySem.F.type_str_find mt_find3 (pv 0) (pa_cons pe_str (pa_cons (pv 1) pa_nil))))
      (pss_cons (ps_if (pt_cmpR op_eq (pv 2) (pe_un un_neg pe_int) (nomark _)) (pss_one (ps_ret (pe_callB call_len_str (by rfl) T.zLen PySem.boot_len (pa_cons (pv 0) pa_nil)))) pss_nil)
      (pss_one (ps_ret (pv 2)))), ?_⟩
    refine ⟨_, rfl, rfl, _, rfl, _, _, _, rfl, rfl, ?_⟩
    rw [nl_code]
    have hl : (S t).length = t.length := S_len t
    rcases find_sign 10 hi with ⟨e1, e2⟩ | ⟨e1, e2⟩
    · rw [e1]
      refine ⟨_, rfl, 1, rfl, rfl, _, rfl, iteT ?_⟩
      refine ⟨_, rfl, _, rfl, ?_, ?_⟩
      · rw [hl, sizeLine_eq]
        omega
      · have : i + comLen (t.drop i) = t.length := by
          unfold comLen
          rw [e2, List.length_drop]
          omega
        rw [this] at q
        rw [hl]
        exact q
    · rw [e1]
      refine ⟨_, rfl, 1, rfl, rfl, _, rfl, ?_⟩
      rw [dcInt]
      exact iteDF (by omega) ⟨_, rfl, q⟩
end
end Pk
set_option Elab.async false
set_option linter.all false
set_option maxRecDepth 100000
set_option maxHeartbeats 4000000
namespace Pk
open PySem PySem.Spec PyProof.Rows L2 SX GxR Tk
section
variable {P : Program} {w : World} {K : PySem.W.Frag} {mg : Str → Option Value} {base : Heap}
theorem at_S {t : List Nat} {i : Nat} (h : i < t.length) : atI (S t).cps.toList (i : Int) = some t[i] := atI_nat (by show t[i]? = some t[i]; exact List.getElem?_eq_getElem h)
theorem drop_run (t : List Nat) (i : Nat) (h : i < t.length) : (t.drop i).takeWhile inRun = if inRun t[i] = true then t[i] :: (t.drop (i + 1)).takeWhile inRun else [] := by
  rw [List.drop_eq_getElem_cons h, List.takeWhile_cons]
theorem runLen_at {t : List Nat} {i : Nat} (h : i < t.length) (hr : inRun t[i] = true) : partLen (t.drop i) = ((t.drop i).takeWhile inRun).length := by
  unfold partLen
  rw [List.drop_eq_getElem_cons h, ← inRun_iff (r := t.drop (i + 1)), if_pos hr]
theorem ok_partend {f : Addr} {fd : FuncData} {k : Nat} (F : Fun K "part_end" "part_end" sPartEnd f fd) (T : Tx K mg) (DR : Df P w K mg base CX0 (k + 1) "in_run" ["char"] spInRun) : FnOk P w K mg base CX0 (k + 2) f fd ["text", "at"] spPartEnd := by
  obtain ⟨pl, gl, tl⟩ := T.LNG
  obtain ⟨fR, fdR, GR, gR, kR, bR⟩ := DR.ex
  refine F.ok scPartEnd (fun vs H Q E h => ?_) (fun cdv A outer s H vs Q E hr h => ?_)
  · obtain ⟨t, i, rfl, _⟩ := h
    rfl
  · obtain ⟨t, i, rfl, hi, hz, q⟩ := h
    have hl : (S t).length = t.length := S_len t
    have hsz : (S t).length ≤ sizeLine := by rw [hl, sizeLine_eq]; omega
    refine ⟨_, pss_cons (ps_if (pt_not (pt_val (pe_call GR hr (by rfl) gR kR bR .nil pass0 (pa_cons (pe_ix ix_str (pv 0) (pv 1) (fun _ _ => rfl)) pa_nil)) (by intro _; rfl)))
        (pss_cons (ps_if (pt_cmpR op_in_seq (pe_slice sl_str (pv 0) (po_some (pv 1)) (po_some (pe_op op_add (pv 1) pe_int))) (pe_glob (v := .ref pl) rfl gl rfl) (by rfl)) (pss_one (ps_ret (pe_op op_add (pv 1) pe_int))) pss_nil)
        (pss_one (ps_ret (pe_op op_add (pv 1) pe_int)))) pss_nil)
      (pss_cons (ps_set (i := 2) scPartEnd.nd rfl (.inl rfl) (pv 1))
      (pss_cons (ps_while PassesOwn.never (PW.pt (pw_and (pt_cmpR op_lt (pv 2) (pe_callB call_len_str (by rfl) T.zLen PySem.boot_len (pa_cons (pv 0) pa_nil)) (nomark _))
          (pw_and1 (pt_val (pe_call GR hr (by rfl) gR kR bR .nil pass0 (pa_cons (pe_ix ix_str (pv 0) (pv 2) (fun _ _ => rfl)) pa_nil)) (by intro _; rfl)))))
        (pss_one (ps_aug (i := 2) scPartEnd.nd rfl (.inl rfl) pe_int ip_add)))
      (pss_one (ps_ret (pv 2))))), ?_⟩
    refine ⟨_, rfl, _, rfl, _, _, _, rfl, rfl, hsz, at_S hi, _, rfl, _, rfl, ?_⟩
    cases hrun : inRun t[i] with
    | false =>
      refine iteT ?_
      refine ⟨_, rfl, _, rfl, _, rfl, _, rfl, _, _, rfl, rfl, _, rfl, _, rfl, hsz, pl, _, rfl, .inr (tl.at H), rfl, flat_strs _, ?_⟩
      have e2 : cutS (S t) (some (i : Int)) (some ((i : Int) + 2)) = S ((t.drop i).take 2) := by
        have := cut2 t i (i + 2)
        rw [show i + 2 - i = 2 by omega] at this
        exact this
      show ∃ k, V.bl (inV (.str (cutS (S t) (some (i : Int)) (some ((i : Int) + 2)))) (longs.map V.str)) = .bl k ∧ _
      rw [e2, inV_strs]
      have hp : partLen (t.drop i) = if S ((t.drop i).take 2) ∈ longs then 2 else 1 := by
        unfold partLen
        rw [List.drop_eq_getElem_cons hi, ← inRun_iff (r := t.drop (i + 1)), if_neg (by rw [hrun]; exact Bool.false_ne_true)]
      refine ⟨_, rfl, iteD (fun h => ?_) fun h => ?_⟩
      · rw [hp, if_pos h] at q
        exact ⟨_, rfl, _, _, rfl, rfl, q⟩
      · rw [hp, if_neg h] at q
        exact ⟨_, rfl, _, _, rfl, rfl, q⟩
    | true =>
      refine iteF ?_
      rw [runLen_at hi hrun] at q
      -- end: i and a part of the run
      refine ⟨_, rfl, ⟨fun m σ H' => ∃ j : Nat, m = t.length - j ∧ σ = [some (.str (S t)), some (.int i), some (.int j)] ∧ H' = H ∧ j ≤ t.length ∧ i + ((t.drop i).takeWhile inRun).length = j + ((t.drop j).takeWhile inRun).length,
        ⟨t.length - i, i, rfl, rfl, rfl, by omega, rfl⟩, ?_⟩⟩
      rintro m σ H' ⟨j, rfl, rfl, rfl, hj, ej⟩
      refine ⟨_, rfl, _, rfl, _, rfl, hsz, _, _, rfl, rfl, _, rfl, iteD (fun h => ?_) fun h => ?_⟩
      · have hj2 : j < t.length := by rw [hl] at h; omega
        refine ⟨_, rfl, _, rfl, _, _, _, rfl, rfl, hsz, at_S hj2, _, rfl, _, rfl, ?_⟩
        cases hrj : inRun t[j] with
        | true =>
          refine iteT ⟨fun σ' H'' => ∃ m', m' < t.length - j ∧ ∃ j : Nat, m' = t.length - j ∧ σ' = [some (.str (S t)), some (.int i), some (.int j)] ∧ H'' = H' ∧ j ≤ t.length ∧ i + ((t.drop i).takeWhile inRun).length = j + ((t.drop j).takeWhile inRun).length,
            fun _ _ h => h, ?_⟩
          refine ⟨_, rfl, _, _, rfl, rfl, t.length - (j + 1), by omega, j + 1, rfl, rfl, rfl, by omega, ?_⟩
          rw [ej, drop_run t j hj2, if_pos hrj, List.length_cons]
          omega
        | false =>
          refine iteF ⟨_, rfl, ?_⟩
          rw [drop_run t j hj2, if_neg (by rw [hrj]; exact Bool.false_ne_true)] at ej
          rw [ej] at q
          exact q
      · have hj2 : j = t.length := by rw [hl] at h; omega
        refine iteF ⟨_, rfl, ?_⟩
        rw [hj2, List.drop_of_length_le (Nat.le_refl _)] at ej
        rw [ej, ← hj2] at q
        exact q
theorem ok_cons {f c Pt : Addr} {oc : Value} {od an : Option Addr} {osl : Array (Option Value)} {kV doc pm ct : Value} {k : Nat}
    (l : K.lookup f = some ⟨oc, od, .func (PySem.W.fnOf "consists_of" "consists_of" (defArgs sCons) (defBody sCons) (defScope sCons) .none kV doc pm an (.ref c) ct), osl⟩)
    (hcd : PySem.W.codeIn K (.ref c) "consists_of" = true) (T : Tx K mg) (TB : TabB base mg c Pt) :
    FnOk P w K mg base CX0 (k + 1) f (PySem.W.fnOf "consists_of" "consists_of" (defArgs sCons) (defBody sCons) (defScope sCons) .none kV doc pm an (.ref c) ct) ["part", "chars"] (spCons Pt) := by
  refine fn_of l hcd scCons (fun vs H Q E h => ?_) fun A outer s H vs Q E hr h => ?_
  · obtain ⟨p, z, rfl, _⟩ := h
    rfl
  · obtain ⟨p, z, rfl, tg, q⟩ := h
    refine ⟨_, (PSs.nox (pss_one (ps_ret (pe_allC (P := Pt) (c := c) (j := 1) hr (by rfl) T.zAll (by decide +kernel) TB rfl ⟨rfl, rfl, by decide +kernel, rfl, rfl, fun y hy e => ?fr⟩ (pv 0) rfl rfl rfl (fun cells ca h => ?clo) (by decide +kernel) (by decide +kernel) (by decide +kernel) (fun _ => rfl))))), ?_⟩
    case fr =>
      have key : ∀ y ∈ ([(Str.ofString ".0", NameKind.local), (Str.ofString "char", NameKind.local), (Str.ofString "chars", NameKind.free)] : List (Str × NameKind)), y.2 = .free → y.1 = Str.ofString "chars" := by decide +kernel
      rw [key y hy e]
      exact cell_has (sc := defScope sCons) rfl
    case clo =>
      show List.lookup (Str.ofString "chars") [(Str.ofString "chars", (List.lookup (Str.ofString "chars") cells).getD 0)] = some ca
      rw [h, List.lookup_cons, beq_self_eq_true]
      rfl
    exact ⟨_, rfl, S p, z, rfl, rfl, tg, fun H2 h2 => q H2 h2⟩
theorem zx_code : Str.ofString "0x" = S [48, 120] := by decide +kernel
theorem zero_code : Str.ofString "0" = S [48] := by decide +kernel
theorem head_one {p : List Nat} (h : p ≠ []) : ∃ c r, p = c :: r := by
  cases p with
  | nil => exact absurd rfl h
  | cons c r => exact ⟨c, r, rfl⟩
theorem digit_of {c : Nat} (h : c ∈ digits) : 48 ≤ c ∧ c ≤ 57 := by
  have key : ∀ d ∈ digits, 48 ≤ d ∧ d ≤ 57 := by decide +kernel
  exact key c h
theorem all_digits {p : List Nat} (h : allIn p digits = true) : NumText.AllDigits p := fun c hc => digit_of (of_decide_eq_true (List.all_eq_true.mp h c hc))
theorem hex_of {c : Nat} (h : c ∈ hexes) : Hx.IsHex c := by
  have key : ∀ d ∈ hexes, (48 ≤ d ∧ d ≤ 57) ∨ (97 ≤ d ∧ d ≤ 102) := by decide +kernel
  rcases key c h with h | h
  · exact .inl h
  · exact .inr (.inl h)
theorem ok_numval {f : Addr} {fd : FuncData} {k : Nat} (F : Fun K "number_value" "number_value" sNumVal f fd) (T : Tx K mg) : FnOk P w K mg base CX0 (k + 1) f fd ["part"] spNumVal := by
  refine F.ok scNumVal (fun vs H Q E h => ?_) (fun cdv A outer s H vs Q E hr h => ?_)
  · obtain ⟨p, rfl, _⟩ := h
    rfl
  · obtain ⟨p, rfl, hne, hn, q⟩ := h
    refine ⟨_, pss_cons (ps_if (pt_val (pe_bm PySem.F.plainAttrs_str PySem.F.slot_str_startswith PySem.F.type_str_startswith mt_startswith (pv 0) (pa_cons pe_str pa_nil)) (by intro _; rfl))
        (pss_one (ps_ret (pe_callTy call_int_hex (by rfl) T.zInt (by decide +kernel) (pa_cons (pe_slice sl_str (pv 0) (po_some pe_int) po_none) (pa_cons pe_int pa_nil))))) pss_nil)
      (pss_one (ps_ret (pe_callTy call_int_str (by rfl) T.zInt (by decide +kernel) (pa_cons (pv 0) pa_nil)))), ?_⟩
    refine ⟨_, rfl, rfl, _, _, rfl, rfl, ?_⟩
    rw [zx_code, starts2]
    have hb : isHexed p = decide (p.take [48, 120].length = [48, 120]) := rfl
    refine ⟨_, rfl, iteD (fun h => ?_) fun h => ?_⟩
    · have hx : isHexed p = true := by rw [hb]; exact decide_eq_true h
      unfold isNum at hn
      rw [if_pos hx, Bool.and_eq_true, Bool.and_eq_true, decide_eq_true_eq, decide_eq_true_eq] at hn
      obtain ⟨⟨h1, h2⟩, h3⟩ := hn
      have hlen : p.length ≤ 10 := by rw [List.length_drop] at h2; omega
      unfold numVal at q
      rw [if_pos hx] at q
      refine ⟨_, rfl, 2, rfl, _, rfl, by rw [S_len, sizeLine_eq]; omega, p.drop 2, ?_, ?_, by omega, fun c hc => hex_of (of_decide_eq_true (List.all_eq_true.mp h3 c hc)), q⟩
      · have e := cut1f p 2
        show [V.str (cutS (S p) (some ((2 : Nat) : Int)) none), V.int 16] = _
        rw [e]
      · intro z
        rw [z] at h1
        simp at h1
    · have hx : ¬ isHexed p = true := by rw [hb, decide_eq_true_eq]; exact h
      unfold isNum at hn
      unfold numVal at q
      rw [if_neg hx] at hn q
      have hd : NumText.AllDigits p ∧ p.length ≤ 10 := by
        by_cases h0 : p.take 1 = [48]
        · rw [if_pos h0] at hn
          have e := of_decide_eq_true hn
          subst e
          exact ⟨fun c hc => by obtain rfl := List.mem_singleton.mp hc; omega, by decide⟩
        · rw [if_neg h0] at hn
          by_cases h1 : 10 < p.length
          · rw [if_pos h1] at hn
            cases hn
          · rw [if_neg h1, Bool.and_eq_true] at hn
            exact ⟨all_digits hn.1, by omega⟩
      refine ⟨_, rfl, S p, _, rfl, PySem.intText_digits (x := S p) hd.1 hne (by rw [S_len]; omega), by rw [S_len]; omega, q⟩
theorem Tabbed.refl {Pt : Addr} {H : Hp} (h : TabG H Pt) : Tabbed Pt H H := ⟨h, fun _ _ => rfl⟩
theorem iteNF {p A B : Prop} [Decidable p] (h : p) (b : B) : if (!decide p) = true then A else B := by
  rw [decide_eq_true h]
  exact b
theorem iteNT {p A B : Prop} [Decidable p] (h : ¬ p) (a : A) : if (!decide p) = true then A else B := by
  rw [decide_eq_false h]
  exact a
theorem ok_isdec {f Pt : Addr} {fd : FuncData} {k : Nat} (F : Fun K "is_decimal" "is_decimal" sIsDec f fd) (T : Tx K mg) (DC : Df P w K mg base CX0 (k + 1) "consists_of" ["part", "chars"] (spCons Pt)) : FnOk P w K mg base CX0 (k + 2) f fd ["part"] (spIsDec Pt) := by
  obtain ⟨fC, fdC, GC, gC, kC, bC⟩ := DC.ex
  obtain ⟨uD, gD, rD⟩ := T.DIG
  obtain ⟨uM, gM, rM⟩ := T.MDG
  obtain ⟨uG, gG, rG⟩ := T.GRT
  refine F.ok scIsDec (fun vs H Q E h => ?_) (fun cdv A outer s H vs Q E hr h => ?_)
  · obtain ⟨p, rfl, _⟩ := h
    rfl
  · obtain ⟨p, rfl, hz, tg, q⟩ := h
    have hsz : (S p).length ≤ sizeLine := by rw [S_len, sizeLine_eq]; omega
    refine ⟨_, pss_cons (ps_if (pt_val (pe_bm PySem.F.plainAttrs_str PySem.F.slot_str_startswith PySem.F.type_str_startswith mt_startswith (pv 0) (pa_cons pe_str pa_nil)) (by intro _; rfl)) (pss_one (ps_ret (pe_cmpR op_eq (pv 0) pe_str (nomark _)))) pss_nil)
      (pss_cons (ps_if (PW.pt (pw_or (pt_not (pt_chain op_le op_le pe_int (pe_callB call_len_str (by rfl) T.zLen PySem.boot_len (pa_cons (pv 0) pa_nil)) (pe_glob rfl gM rM)))
          (pw_or1 (pt_not (pt_val (pe_call GC hr (by rfl) gC kC bC .nil pass0 (pa_cons (pv 0) (pa_cons (pe_glob rfl gD rD) pa_nil))) (by intro _; rfl))))))
        (pss_one (ps_ret pe_bl)) pss_nil)
      (pss_one (ps_ret (pe_cmpR op_le (pe_callTy call_int_str (by rfl) T.zInt (by decide +kernel) (pa_cons (pv 0) pa_nil)) (pe_glob rfl gG rG) (nomark _))))), ?_⟩
    refine ⟨_, rfl, rfl, _, _, rfl, rfl, ?_⟩
    rw [zero_code, starts2]
    refine ⟨_, rfl, iteD (fun h0 => ?_) fun h0 => ?_⟩
    · have := q H (Tabbed.refl tg)
      have h0' : p.take 1 = [48] := h0
      unfold isDec at this
      rw [if_pos h0'] at this
      refine ⟨_, rfl, rfl, ?_⟩
      rw [dcStr, dcS]
      exact this
    · have h0' : ¬ p.take 1 = [48] := h0
      have e1 : isDec p = if 1 ≤ p.length ∧ p.length ≤ 10 then allIn p digits && decide (NumText.digitsVal p ≤ 4294967295) else false := if_neg h0'
      refine ⟨_, rfl, _, rfl, hsz, _, _, rfl, rfl, _, rfl, ?_⟩
      have hlI : (((S p).length : Nat) : Int) = (p.length : Int) := by rw [S_len]
      rw [hlI]
      by_cases h1 : 1 ≤ p.length
      · refine iteDT (by omega) ⟨_, _, rfl, rfl, _, rfl, ?_⟩
        by_cases h2 : p.length ≤ 10
        · have e2 := e1.trans (if_pos ⟨h1, h2⟩)
          refine iteNF (show ((p.length : Nat) : Int) ≤ 10 by omega) ⟨_, rfl, p, digitsS, rfl, tg, fun H' hH => ⟨_, rfl, ?_⟩⟩
          have q2 := q H' hH
          cases ha : allIn p digits with
          | false =>
            refine iteT ?_
            rw [e2, ha] at q2
            exact q2
          | true =>
            refine iteF ?_
            rw [e2, ha, Bool.true_and] at q2
            refine ⟨_, rfl, S p, _, rfl, PySem.intText_digits (x := S p) (all_digits ha) (by rintro rfl; exact absurd h1 (by decide)) (by rw [S_len]; omega), by rw [S_len]; omega, _, _, rfl, rfl, ?_⟩
            have e4 : decide (((NumText.digitsVal p : Nat) : Int) ≤ 4294967295) = decide (NumText.digitsVal p ≤ 4294967295) := by
              rw [Bool.eq_iff_iff, decide_eq_true_eq, decide_eq_true_eq]
              omega
            show Q (.bl (decide (((NumText.digitsVal p : Nat) : Int) ≤ 4294967295))) H'
            rw [e4]
            exact q2
        · have e2 := e1.trans (if_neg fun z => h2 z.2)
          refine iteNT (show ¬ ((p.length : Nat) : Int) ≤ 10 by omega) ?_
          have := q H (Tabbed.refl tg)
          rw [e2] at this
          exact this
      · have e2 := e1.trans (if_neg fun z => h1 z.1)
        refine iteDF (by omega) ⟨_, rfl, iteT ?_⟩
        have := q H (Tabbed.refl tg)
        rw [e2] at this
        exact this
theorem ok_isnum {f Pt : Addr} {fd : FuncData} {k : Nat} (F : Fun K "is_number" "is_number" sIsNum f fd) (T : Tx K mg) (DC : Df P w K mg base CX0 (k + 1) "consists_of" ["part", "chars"] (spCons Pt)) (DD : Df P w K mg base CX0 (k + 2) "is_decimal" ["part"] (spIsDec Pt)) : FnOk P w K mg base CX0 (k + 3) f fd ["part"] (spIsNum Pt) := by
  obtain ⟨fC, fdC, GC, gC, kC, bC⟩ := DC.ex
  obtain ⟨fD, fdD, GD, gD, kD, bD⟩ := DD.ex
  obtain ⟨uH, gH, rH⟩ := T.HEX
  obtain ⟨uX, gX, rX⟩ := T.MHX
  refine F.ok scIsNum (fun vs H Q E h => ?_) (fun cdv A outer s H vs Q E hr h => ?_)
  · obtain ⟨p, rfl, _⟩ := h
    rfl
  · obtain ⟨p, rfl, hne, hz, tg, q⟩ := h
    have hsz : ∀ l : List Nat, l.length ≤ p.length → (S l).length ≤ sizeLine := fun l hl => by rw [S_len, sizeLine_eq]; omega
    have hrC : Room (k + 1) _ := hr.mono (by omega)
    refine ⟨_, pss_cons (ps_if (pt_val (pe_bm PySem.F.plainAttrs_str PySem.F.slot_str_startswith PySem.F.type_str_startswith mt_startswith (pv 0) (pa_cons pe_str pa_nil)) (by intro _; rfl))
        (pss_cons (ps_set (i := 1) scIsNum.nd rfl (.inl rfl) (pe_slice sl_str (pv 0) (po_some pe_int) po_none))
        (pss_one (ps_ret (pe_and (pe_chain op_le op_le pe_int (pe_callB call_len_str (by rfl) T.zLen PySem.boot_len (pa_cons (pv 1) pa_nil)) (pe_glob rfl gX rX))
          (pe_one (pe_call GC hrC (by rfl) gC kC bC .nil pass0 (pa_cons (pv 1) (pa_cons (pe_glob rfl gH rH) pa_nil)))))))) pss_nil)
      (pss_one (ps_ret (pe_call GD hr (by rfl) gD kD bD .nil pass0 (pa_cons (pv 0) pa_nil)))), ?_⟩
    refine ⟨_, rfl, rfl, _, _, rfl, rfl, ?_⟩
    rw [zx_code, starts2]
    have hb : isHexed p = decide (p.take [48, 120].length = [48, 120]) := rfl
    refine ⟨_, rfl, iteD (fun h => ?_) fun h => ?_⟩
    · have hx : isHexed p = true := by rw [hb]; exact decide_eq_true h
      have e : isNum p = (decide (1 ≤ (p.drop 2).length) && decide ((p.drop 2).length ≤ 8) && allIn (p.drop 2) hexes) := if_pos hx
      have e2 : cutS (S p) (some (2 : Int)) none = S (p.drop 2) := cut1f p 2
      have hl2 : (p.drop 2).length ≤ p.length := by rw [List.length_drop]; omega
      refine ⟨_, rfl, 2, rfl, _, rfl, hsz p (Nat.le_refl _), ?_⟩
      rw [e2]
      refine ⟨_, rfl, _, rfl, hsz _ hl2, _, _, rfl, rfl, _, rfl, ?_⟩
      have hlI : (((S (p.drop 2)).length : Nat) : Int) = ((p.drop 2).length : Int) := by rw [S_len]
      rw [hlI]
      by_cases h1 : 1 ≤ (p.drop 2).length
      · refine iteDT (by omega) ⟨_, _, rfl, rfl, _, rfl, ?_⟩
        by_cases h2 : (p.drop 2).length ≤ 8
        · refine iteDT (by omega) ⟨_, rfl, p.drop 2, hexS, rfl, tg, fun H' hH => ?_⟩
          have := q H' hH
          rw [e, decide_eq_true h1, decide_eq_true h2] at this
          exact this
        · refine iteDF (by omega) ?_
          have := q H (Tabbed.refl tg)
          rw [e, decide_eq_true h1, decide_eq_false h2] at this
          exact this
      · refine iteDF (by omega) ⟨_, rfl, iteF ?_⟩
        have := q H (Tabbed.refl tg)
        rw [e, decide_eq_false h1] at this
        exact this
    · have hx : ¬ isHexed p = true := by rw [hb, decide_eq_true_eq]; exact h
      refine ⟨_, rfl, p, rfl, hz, tg, fun H' hH => ?_⟩
      have := q H' hH
      rw [isDec_num hne hx] at this
      exact this
end
end Pk
set_option Elab.async false
set_option linter.all false
set_option maxRecDepth 100000
set_option maxHeartbeats 4000000
namespace L2
open PySem PySem.Spec PyProof.Rows PySem.ErX
/-- the dict of a caught error -/
def DictOf (H : Hp) (d : Option Addr) : Prop := d = none ∨ ∃ dd fs, d = some dd ∧ H dd = some (.xd fs)
/-- err.f, the class told by the reading -/
def tXfA (K : PySem.W.Frag) (a : Addr) (cls : Value) (d : Option Addr) (f : Str) (te : TE) : TE := fun σ H Q => te σ H fun x H1 => x = .ref a ∧ ∃ C : Addr, cls = .ref C ∧ XfC K C ∧ PySem.W.findIn K (.ref C) f = some none ∧ ∃ (dd : Addr) (fs : List (Str × V)) (v : V), d = some dd ∧ H1 dd = some (.xd fs) ∧ fs.lookup f = some v ∧ Q v H1
theorem pe_xfA {X : Cx} {a : Addr} {oe : Obj} {cls : Value} {d : Option Addr} {pn : List (Addr × Obj)} {e : Expr} {te : TE} {pos : Pos} {n : Str}
    (hz : Zc cls d oe) (hf : ∃ vs, oe.data = .fields vs) (he : PE (X.suite a ((a, oe) :: pn)) e te) (hb : attributeBase e n X.env (eval e X.env) = eval e X.env := by rfl) :
    PE (X.suite a ((a, oe) :: pn)) (.Attribute e n pos) (tXfA X.K a cls d n te) := by
  refine ⟨fun pins s σ H Q I h => ?_⟩
  refine attr_of hb (thn (he.run pins s σ H _ I h) fun u s1 hh => ?_)
  obtain ⟨x, H1, I1, rx, ex, C, ec, T, hno, dd, fs, v, ed, ea, l, q⟩ := hh
  subst ex
  obtain rfl : u = Value.ref a := rx
  subst ec
  subst ed
  obtain ⟨ha, _⟩ := I1.pin (a, oe) (List.mem_append_left _ List.mem_cons_self)
  obtain ⟨vs, hd⟩ := hf
  have hx : ObjOk X.prog X.w H1 s1.heap dd (.xd fs) := I1.hok dd _ ea
  obtain ⟨mA, hns, hr⟩ := hx
  obtain ⟨od, ho, hl⟩ := lookIn_ns hns
  obtain ⟨u, hu, ru⟩ := RelO.some_of (v := v) (o := mA n) (by rw [← l]; exact hr n)
  have J : PySem.W.InstAt s1.heap a oe C (some od) := ⟨ha, hz.1, by unfold PySem.W.notCls; rw [hd] <;> rfl, by rw [hz.2]; exact ho⟩
  exact HandSPX.exc_get I1.kIn J T.ga T.gg T.exC (PySem.W.findObj_own T.hdC hno rfl (by rw [hl, hu])) (handed_of ru) ⟨v, H1, I1.tok _, ru, q⟩
end L2
set_option Elab.async false
set_option linter.all false
set_option maxRecDepth 100000
set_option maxHeartbeats 4000000
namespace Pk
open PySem PySem.Spec PyProof.Rows L2 SX GxR Tk PySem.ErX
/-- all but the tables of code objects stands as it stood -/
def Sm (H H' : Hp) : Prop := ∀ b o, (∀ ps, o ≠ .tbl ps) → H b = some o → H' b = some o
theorem Sm.refl (H : Hp) : Sm H H := fun _ _ _ e => e
theorem Sm.trans {H H1 H2 : Hp} (a : Sm H H1) (b : Sm H1 H2) : Sm H H2 := fun x o n e => b x o n (a x o n e)
theorem Sm.same {H H1 : Hp} (a : Same H H1) : Sm H H1 := fun x o _ e => a x o e
theorem Tabbed.sm {Pt : Addr} {H H' : Hp} (tg : TabG H Pt) (h : Tabbed Pt H H') : Sm H H' := fun b o n e => by
  obtain ⟨ps, e1, _⟩ := tg
  by_cases hb : b = Pt
  · rw [hb, e1] at e
    exact absurd (Option.some.inj e).symm (n ps)
  · rw [h.2 b hb]
    exact e
theorem TabG.upd {Pt p : Addr} {H : Hp} {o : HO} (tg : TabG H Pt) (h : H p = none ∨ ∃ u, H p = some u ∧ ∀ ps, u ≠ .tbl ps) : TabG (L2.upd H p o) Pt := by
  obtain ⟨ps, e1, e2⟩ := tg
  refine ⟨ps, ?_, e2⟩
  rw [upd_ne ?_]
  · exact e1
  · rintro rfl
    rcases h with h | ⟨u, h, n⟩
    · rw [e1] at h
      cases h
    · rw [e1] at h
      exact n ps (Option.some.inj h).symm
/-- at each of the addresses stands the tuple of a token -/
def TokAt (H : Hp) (r : V) (t : Tk.Tok) : Prop := ∃ q : Addr, r = .ref q ∧ H q = some (.tup [.str t.1, t.2.1, .int (t.2.2 : Nat)])
abbrev ToksAt (H : Hp) : List V → List Tk.Tok → Prop := Paired (TokAt H)
theorem ToksAt.sm {H H' : Hp} (k : Sm H H') : ∀ {rs : List V} {ts : List Tk.Tok}, ToksAt H rs ts → ToksAt H' rs ts
  | _, _, .nil => .nil
  | _, _, .cons ⟨q, e1, e2⟩ r => .cons ⟨q, e1, k _ _ (fun _ z => nomatch z) e2⟩ (ToksAt.sm k r)
theorem ToksAt.lst {H : Hp} {T : Addr} {xs ys : List V} (h : H T = some (.lst xs)) : ∀ {rs : List V} {ts : List Tk.Tok}, ToksAt H rs ts → ToksAt (upd H T (.lst ys)) rs ts
  | _, _, .nil => .nil
  | _, _, .cons ⟨q, e1, e2⟩ r => .cons ⟨q, e1, by rw [upd_ne (ne_of e2 h fun z => nomatch z)]; exact e2⟩ (ToksAt.lst h r)
theorem ToksAt.app {H : Hp} : ∀ {rs qs : List V} {ts us : List Tk.Tok}, ToksAt H rs ts → ToksAt H qs us → ToksAt H (rs ++ qs) (ts ++ us)
  | _, _, _, _, .nil, h => h
  | _, _, _, _, .cons a r, h => .cons a (ToksAt.app r h)
def spTokOf (Pt cT : Addr) : Sp := fun vs H Q E => ∃ (p : List Nat) (l : Nat), vs = [.str (S p), .int l] ∧ p ≠ [] ∧ p.length ≤ 16000000 ∧ l ≤ 16000000 ∧ TabG H Pt ∧
  (∀ k v, tokOf p = some (k, v) → ∀ H' t, Tabbed Pt H H' → H' t = none → Q (.ref t) (upd H' t (.tup [.str k, v, .int l]))) ∧
  (tokOf p = none → ∀ H' d, Tabbed Pt H H' → H' d = none → E (.ref cT) (some d) (upd H' d (.xd [("line", .int l)])))
def spTokenize (Pt cT : Addr) : Sp := fun vs H Q E => ∃ t : List Nat, vs = [.str (S t)] ∧ t.length ≤ 1000000 ∧ TabG H Pt ∧
  (∀ ts, toksT 1 t = .ok ts → ∀ H' p rs, Sm H H' → TabG H' Pt → H p = none → H' p = some (.lst rs) → ToksAt H' rs ts → Q (.ref p) H') ∧
  (∀ l, toksT 1 t = .error l → ∀ H' d, Sm H H' → TabG H' Pt → H' d = some (.xd [("line", .int (l : Nat))]) → E (.ref cT) (some d) H')
theorem ev_nat {l : Nat} (h : l ≤ 16000000) : EV (.int (l : Nat)) := .inr ⟨_, rfl, by
  have h2 : ((l : Nat) : Int).natAbs < 2 ^ 25 := by omega
  by_cases h0 : ((l : Nat) : Int).natAbs = 0
  · rw [h0]
    decide
  · have := (Nat.log2_lt h0).mpr h2
    omega⟩
section
variable {P : Program} {w : World} {K : PySem.W.Frag} {mg : Str → Option Value} {base : Heap}
theorem pick_false {p A B : Prop} [Decidable p] (h : p → B → A) (b : B) : if decide p = true then A else B := by
  by_cases hp : p
  · rw [if_pos (decide_eq_true hp)]
    exact h hp b
  · rw [decide_eq_false hp, if_neg Bool.false_ne_true]
    exact b
theorem len3 : (3 : Nat) ≤ sizeLine := by decide
theorem ok_tokof {f Pt cT : Addr} {fd : FuncData} {k : Nat} (F : Fun K "token_of" "token_of" sTokenOf f fd) (T : Tx K mg) (DR : Df P w K mg base CX0 (k + 1) "is_reserved" ["name"] spIsRes)
    (DN : Df P w K mg base CX0 (k + 3) "is_number" ["part"] (spIsNum Pt)) (DV : Df P w K mg base CX0 (k + 1) "number_value" ["part"] spNumVal) (TE : ErT P K mg "TextError" cT "line") : FnOk P w K mg base (L2.CX P w) (k + 4) f fd ["part", "line"] (spTokOf Pt cT) := by
  obtain ⟨fR, fdR, GR, gR, kR, bR⟩ := DR.ex
  obtain ⟨fN, fdN, GN, gN, kN, bN⟩ := DN.ex
  obtain ⟨fV, fdV, GV, gV, kV, bV⟩ := DV.ex
  obtain ⟨uL, gL, rL⟩ := T.LET
  obtain ⟨uM, gM, rM⟩ := T.LNM
  obtain ⟨pl, gl, tl⟩ := T.LNG
  obtain ⟨ps, gs, tsh⟩ := T.SHT
  refine F.okX scTokenOf (fun vs H Q E h => ?_) (fun cdv A outer s H vs Q E hr h => ?_)
  · obtain ⟨p, l, rfl, _⟩ := h
    rfl
  · obtain ⟨p, l, rfl, hne, hz, hzl, tg, q, qe⟩ := h
    have hr1 : Room (k + 1) _ := hr.mono (by omega)
    have hsz : (S p).length ≤ sizeLine := by rw [S_len, sizeLine_eq]; omega
    refine ⟨_, pss_cons (ps_if (PW.pt (pw_and (pt_cmpR op_in_sign (pe_ix ix_str (pv 0) pe_int (fun _ _ => rfl)) (pe_glob rfl gL rL) (by rfl)) (pw_and1 (pt_cmpR op_le (pe_callB call_len_str (by rfl) T.zLen PySem.boot_len (pa_cons (pv 0) pa_nil)) (pe_glob rfl gM rM) (nomark _)))))
        (pss_cons (ps_if (pt_val (pe_call GR hr1 (by rfl) gR kR bR .nil pass0 (pa_cons (pv 0) pa_nil)) (by intro _; rfl)) (pss_one (ps_ret (pe_tup (pa_cons pe_str (pa_cons (pv 0) (pa_cons (pv 1) pa_nil)))))) pss_nil)
        (pss_one (ps_ret (pe_tup (pa_cons pe_str (pa_cons (pv 0) (pa_cons (pv 1) pa_nil))))))) pss_nil)
      (pss_cons (ps_if (pt_val (pe_call GN hr (by rfl) gN kN bN .nil pass0 (pa_cons (pv 0) pa_nil)) (by intro _; rfl))
        (pss_one (ps_ret (pe_tup (pa_cons pe_str (pa_cons (pe_call GV hr1 (by rfl) gV kV bV .nil pass0 (pa_cons (pv 0) pa_nil)) (pa_cons (pv 1) pa_nil)))))) pss_nil)
      (pss_cons (ps_if (PW.pt (pw_or (pt_cmpR op_in_seq (pv 0) (pe_glob (v := .ref pl) rfl gl rfl) (by rfl)) (pw_or1 (pt_cmpR op_in_seq (pv 0) (pe_glob (v := .ref ps) rfl gs rfl) (by rfl)))))
        (pss_one (ps_ret (pe_tup (pa_cons pe_str (pa_cons (pv 0) (pa_cons (pv 1) pa_nil)))))) pss_nil)
      (pss_one (ps_raiseE rfl TE hr (takes_of rfl rfl rfl rfl) (pa_cons (pv 1) pa_nil))))), ?_⟩
    obtain ⟨c, r, rfl⟩ := head_one hne
    have e0 : tokOf (c :: r) = if decide (c ∈ letters) = true ∧ (c :: r).length ≤ 16 then
        (if S (c :: r) ∈ words then some (Str.ofString "word", .str (S (c :: r))) else some (Str.ofString "name", .str (S (c :: r))))
      else if isNum (c :: r) = true then some (Str.ofString "number", .int (numVal (c :: r)))
      else if S (c :: r) ∈ longs ∨ S (c :: r) ∈ shorts then some (Str.ofString "sign", .str (S (c :: r))) else none := rfl
    have hlI : (((S (c :: r)).length : Nat) : Int) = ((c :: r).length : Int) := by rw [S_len]
    refine ⟨_, rfl, _, _, _, rfl, rfl, hsz, atI_nat (j := 0) rfl, c, lettersS, rfl, rfl, _, rfl, ?_⟩
    by_cases hn : decide (c ∈ letters) = true ∧ (c :: r).length ≤ 16
    · refine iteDT (of_decide_eq_true hn.1) ⟨_, rfl, _, rfl, hsz, _, _, rfl, rfl, _, rfl, ?_⟩
      rw [hlI]
      refine iteDT (by have := hn.2; omega) ⟨_, rfl, S (c :: r), rfl, _, rfl, ?_⟩
      rw [if_pos hn] at e0
      by_cases h3 : S (c :: r) ∈ words
      · rw [if_pos h3] at e0
        exact iteDT h3 ⟨_, rfl, _, rfl, len3, fun t ht => q _ _ e0 H t (Tabbed.refl tg) ht⟩
      · rw [if_neg h3] at e0
        exact iteDF h3 ⟨_, rfl, _, rfl, len3, fun t ht => q _ _ e0 H t (Tabbed.refl tg) ht⟩
    · refine pick_false (fun h1 hB => ⟨_, rfl, _, rfl, hsz, _, _, rfl, rfl, _, rfl, iteDF (fun z => hn ⟨decide_eq_true h1, ?_⟩) hB⟩) (iteF ?_)
      · have z' : (((S (c :: r)).length : Nat) : Int) ≤ 16 := z
        rw [hlI] at z'
        omega
      rw [if_neg hn] at e0
      refine ⟨_, rfl, c :: r, rfl, hne, hz, tg, fun H' hH => ⟨_, rfl, ?_⟩⟩
      cases hnum : isNum (c :: r) with
      | true =>
        rw [if_pos hnum] at e0
        exact iteT ⟨_, rfl, c :: r, rfl, hne, hnum, _, rfl, len3, fun t ht => q _ _ e0 H' t hH ht⟩
      | false =>
        rw [if_neg (by rw [hnum]; exact Bool.false_ne_true)] at e0
        refine iteF ⟨_, rfl, pl, _, rfl, .inr (tl.at H'), rfl, flat_strs _, ?_⟩
        show ∃ k, V.bl (inV (.str (S (c :: r))) (longs.map V.str)) = .bl k ∧ _
        rw [inV_strs]
        refine ⟨_, rfl, ?_⟩
        by_cases h1 : S (c :: r) ∈ longs
        · rw [if_pos (.inl h1)] at e0
          exact iteDT h1 (iteT ⟨_, rfl, _, rfl, len3, fun t ht => q _ _ e0 H' t hH ht⟩)
        · refine iteDF h1 ⟨_, rfl, ps, _, rfl, .inr (tsh.at H'), rfl, flat_strs _, ?_⟩
          show ∃ k, V.bl (inV (.str (S (c :: r))) (shorts.map V.str)) = .bl k ∧ _
          rw [inV_strs]
          refine ⟨_, rfl, ?_⟩
          by_cases h2 : S (c :: r) ∈ shorts
          · rw [if_pos (.inr h2)] at e0
            exact iteDT h2 ⟨_, rfl, _, rfl, len3, fun t ht => q _ _ e0 H' t hH ht⟩
          · rw [if_neg (fun z => z.elim h1 h2)] at e0
            exact iteDF h2 ⟨_, rfl, _, rfl, ev_nat hzl, fun d hd => qe e0 H' d hH hd⟩
end
end Pk
set_option Elab.async false
set_option linter.all false
set_option maxRecDepth 100000
set_option maxHeartbeats 4000000
namespace Pk
open PySem PySem.Spec PyProof.Rows L2 SX Tk
def signsL : List Str := ["{", "}", "(", ")", ":", ";", ",", ".", "=", "==", "<", "+", "-", "&", "|", "^", "->"].map Str.ofString
def kSign : Str := Str.ofString "sign"
/-- a piece: its kind, its value, its signs -/
structure PieceOk (k : Str) (v : V) (p : List Nat) : Prop where
  tok : tokOf p = some (k, v)
  ne : p ≠ []
  len : p.length ≤ 20
  nl : 10 ∉ p
  alt : (k ≠ kSign ∧ p.all inRun = true) ∨ (k = kSign ∧ S p ∈ signsL ∧ v = .str (S p))
/-- what may stand behind a piece -/
def after (k : Str) (v : V) (r : List Nat) : Prop := match r with
  | [] => True
  | c :: _ => if k = kSign then (v = .str (S [61]) → c ≠ 61) ∧ (v = .str (S [45]) → c ≠ 62) else inRun c = false
/-- what stands for a list of tokens ahead of others -/
def pre (ds : List Tk.Tok) (x : Except Nat (List Tk.Tok)) : Except Nat (List Tk.Tok) := match x with
  | .error e => .error e
  | .ok ts => .ok (ds ++ ts)
theorem pre_nil (x : Except Nat (List Tk.Tok)) : pre [] x = x := by cases x <;> rfl
theorem pre_app (a b : List Tk.Tok) (x : Except Nat (List Tk.Tok)) : pre a (pre b x) = pre (a ++ b) x := by
  cases x with
  | error e => rfl
  | ok ts => exact congrArg Except.ok (List.append_assoc a b ts).symm
theorem ahead_pre {k : Str} {v : V} {l : Nat} (x : Except Nat (List Tk.Tok)) : ahead (some (k, v)) l x = pre [(k, v, l)] x := by cases x <;> rfl
theorem sign_facts : ∀ x ∈ signsL, ∃ c r, x = S (c :: r) ∧ inRun c = false ∧ c ≠ 35 ∧ c ≠ 32 ∧ c ≠ 10 := by
  have key : ∀ x ∈ signsL, (match x.cps.toList with | [] => false | c :: _ => !inRun c && decide (c ≠ 35) && decide (c ≠ 32) && decide (c ≠ 10)) = true := by decide +kernel
  intro x hx
  have h := key x hx
  have e := S_tl x
  cases hc : x.cps.toList with
  | nil => rw [hc] at h; cases h
  | cons c r =>
    rw [hc] at h e
    simp only [Bool.and_eq_true, decide_eq_true_eq, Bool.not_eq_true'] at h
    exact ⟨c, r, e.symm, h.1.1.1, h.1.1.2, h.1.2, h.2⟩
theorem inRun_ne {c : Nat} (h : inRun c = true) : c ≠ 35 ∧ c ≠ 32 ∧ c ≠ 10 := by
  have k1 : inRun 35 = false := by decide +kernel
  have k2 : inRun 32 = false := by decide +kernel
  have k3 : inRun 10 = false := by decide +kernel
  refine ⟨?_, ?_, ?_⟩ <;> rintro rfl
  · rw [k1] at h; cases h
  · rw [k2] at h; cases h
  · rw [k3] at h; cases h
theorem tw_app {p : List Nat} (h : p.all inRun = true) (r : List Nat) (hr : ∀ c r', r = c :: r' → inRun c = false) : (p ++ r).takeWhile inRun = p := by
  induction p with
  | nil =>
    cases r with
    | nil => rfl
    | cons c r =>
      rw [List.nil_append, List.takeWhile_cons, if_neg (by rw [hr c r rfl]; exact Bool.false_ne_true)]
  | cons a p ih =>
    rw [List.all_cons, Bool.and_eq_true] at h
    rw [List.cons_append, List.takeWhile_cons, if_pos h.1, ih h.2]
/-- the run or sign at the head of p ++ r is p -/
theorem partLen_piece {k : Str} {v : V} {p r : List Nat} (h : PieceOk k v p) (ha : after k v r) : partLen (p ++ r) = p.length := by
  obtain ⟨c, q, rfl⟩ : ∃ c q, p = c :: q := by
    cases hp : p with
    | nil => exact absurd hp h.ne
    | cons c q => exact ⟨c, q, rfl⟩
  unfold partLen
  rw [List.cons_append, ← inRun_iff (r := q ++ r)]
  rcases h.alt with ⟨hk, hall⟩ | ⟨hk, hs, hv⟩
  · have hc := (Bool.and_eq_true_iff.mp (List.all_cons ▸ hall)).1
    rw [if_pos hc, ← List.cons_append, tw_app hall r]
    intro d r' e
    subst e
    have : if k = kSign then _ else inRun d = false := ha
    rw [if_neg hk] at this
    exact this
  · obtain ⟨c', r', e, hc, _⟩ := sign_facts _ hs
    have e' := S_inj e
    cases e'
    rw [if_neg (by rw [hc]; exact Bool.false_ne_true)]
    have ha' : match r with | [] => True | d :: _ => (V.str (S (c :: q)) = .str (S [61]) → d ≠ 61) ∧ (V.str (S (c :: q)) = .str (S [45]) → d ≠ 62) := by
      cases r with
      | nil => trivial
      | cons d r =>
        have : if k = kSign then (v = .str (S [61]) → d ≠ 61) ∧ (v = .str (S [45]) → d ≠ 62) else inRun d = false := ha
        rw [if_pos hk, hv] at this
        exact this
    have key : ∀ x ∈ signsL, (match x.cps.toList with | [] => false | [a] => (List.range 200).all (fun b => (decide (a = 61) && decide (b = 61)) || (decide (a = 45) && decide (b = 62)) || decide (S [a, b] ∉ longs)) && decide (S [a] ∉ longs) | [a, b] => decide (S [a, b] ∈ longs) | _ => false) = true := by decide +kernel
    have hx := key _ hs
    match q, hx, ha', hs with
    | [], hx, ha', hs =>
      have hx' : ((List.range 200).all (fun b => (decide (c = 61) && decide (b = 61)) || (decide (c = 45) && decide (b = 62)) || decide (S [c, b] ∉ longs)) && decide (S [c] ∉ longs)) = true := hx
      rw [Bool.and_eq_true, decide_eq_true_eq] at hx'
      cases r with
      | nil =>
        rw [if_neg]
        · rfl
        · exact hx'.2
      | cons d r =>
        rw [if_neg]
        · rfl
        · show S [c, d] ∉ longs
          by_cases hd : d < 200
          · have hq := List.all_eq_true.mp hx'.1 d (List.mem_range.mpr hd)
            simp only [Bool.or_eq_true, Bool.and_eq_true, decide_eq_true_eq] at hq
            rcases hq with (hq | hq) | hq
            · exact absurd hq.2 (ha'.1 (by rw [hq.1]))
            · exact absurd hq.2 (ha'.2 (by rw [hq.1]))
            · exact hq
          · intro z
            have kl : ∀ x ∈ longs, x.cps.toList.all (· < 200) = true := by decide +kernel
            have := kl _ z
            have h2 : (decide (c < 200) && (decide (d < 200) && true)) = true := this
            rw [Bool.and_eq_true, Bool.and_eq_true, decide_eq_true_eq, decide_eq_true_eq] at h2
            exact hd h2.2.1
    | [b], hx, ha', hs =>
      have hx' : decide (S [c, b] ∈ longs) = true := hx
      rw [if_pos (show S ((c :: ([b] ++ r)).take 2) ∈ longs from of_decide_eq_true hx')]
      rfl
    | a :: b :: q, hx, _, _ => cases hx
/-- the tokens of a piece and of what follows it -/
theorem toks_piece {k : Str} {v : V} {p r : List Nat} (l : Nat) (h : PieceOk k v p) (ha : after k v r) : toksT l (p ++ r) = pre [(k, v, l)] (toksT l r) := by
  have hp := partLen_piece h ha
  obtain ⟨c, q, e⟩ : ∃ c q, p = c :: q := by
    cases hp : p with
    | nil => exact absurd hp h.ne
    | cons c q => exact ⟨c, q, rfl⟩
  have hc : c ≠ 35 ∧ c ≠ 32 ∧ c ≠ 10 := by
    rcases h.alt with ⟨_, hall⟩ | ⟨_, hs, _⟩
    · rw [e] at hall
      exact inRun_ne (Bool.and_eq_true_iff.mp (List.all_cons ▸ hall)).1
    · obtain ⟨c', r', e', _, h1, h2, h3⟩ := sign_facts _ hs
      have := S_inj e'
      rw [e] at this
      cases this
      exact ⟨h1, h2, h3⟩
  have e2 : p ++ r = c :: (q ++ r) := by rw [e, List.cons_append]
  rw [e2, toksT_part hc.1 hc.2.1 hc.2.2, ← e2, hp, List.take_left, List.drop_left, h.tok, ahead_pre]
end Pk
set_option Elab.async false
set_option linter.all false
set_option maxRecDepth 100000
set_option maxHeartbeats 4000000
namespace Pk
open PySem PySem.Spec PyProof.Rows L2 SX GxR Tk
theorem hash_code : Str.ofString "#" = S [35] := by decide +kernel
theorem sp_code : Str.ofString " " = S [32] := by decide +kernel
theorem drop_tw {α : Type} (p : α → Bool) : ∀ l : List α, l.drop (l.takeWhile p).length = l.dropWhile p
  | [] => rfl
  | a :: l => by
    rw [List.takeWhile_cons, List.dropWhile_cons]
    split
    · rw [List.length_cons, List.drop_succ_cons]
      exact drop_tw p l
    · rfl
theorem tw_le {α : Type} (p : α → Bool) : ∀ l : List α, (l.takeWhile p).length ≤ l.length
  | [] => Nat.le_refl _
  | a :: l => by
    rw [List.takeWhile_cons]
    split
    · exact Nat.succ_le_succ (tw_le p l)
    · exact Nat.zero_le _
theorem part_fits {t : List Nat} (h0 : t ≠ []) : partLen t ≤ t.length := by
  obtain ⟨c, r, rfl⟩ := head_one h0
  unfold partLen
  split
  · exact tw_le _ _
  · split
    · rename_i h2
      have key : ∀ x ∈ longs, x.length = 2 := by decide +kernel
      have := key _ h2
      rw [S_len, List.length_take] at this
      omega
    · rw [List.length_cons]
      omega
theorem pre_ahead {ds : List Tk.Tok} {k : Str} {v : V} {l : Nat} {x : Except Nat (List Tk.Tok)} : pre ds (ahead (some (k, v)) l x) = pre (ds ++ [(k, v, l)]) x := by
  rw [ahead_pre, pre_app]
theorem ntL {xs : List V} : ∀ ps, HO.lst xs ≠ .tbl ps := fun _ z => nomatch z
theorem tup_lst {xs ys : List V} : HO.tup xs ≠ .lst ys := fun z => nomatch z
theorem small_len {n : Nat} (h : n ≤ 1000000) : n < sizeLine := by rw [sizeLine_eq]; omega
section
variable {P : Program} {w : World} {K : PySem.W.Frag} {mg : Str → Option Value} {base : Heap}
/-- between two turns of tokenize's loop -/
def TokW (Pt : Addr) (t : List Nat) (all : Except Nat (List Tk.Tok)) (T : Addr) (H : Hp) (m : Nat) (σ : L2.St) (H' : Hp) : Prop :=
  ∃ (i l : Nat) (rs : List V) (done : List Tk.Tok) (c4 c5 : Option V), m = t.length - i ∧ σ = [some (.str (S t)), some (.ref T), some (.int (l : Nat)), some (.int (i : Nat)), c4, c5] ∧ i ≤ t.length ∧ TabG H' Pt ∧ Sm H H' ∧
    H' T = some (.lst rs) ∧ ToksAt H' rs done ∧ rs.length ≤ i ∧ l ≤ i + 1 ∧ all = pre done (toksT l (t.drop i))
theorem ok_tokenize {f Pt cT : Addr} {fd : FuncData} {k : Nat} (F : Fun K "tokenize" "tokenize" sTokenize f fd) (T : Tx K mg) (DC : Df P w K mg base CX0 (k + 1) "comment_end" ["text", "at"] spComEnd)
    (DP : Df P w K mg base CX0 (k + 2) "part_end" ["text", "at"] spPartEnd) (DO : Df P w K mg base (L2.CX P w) (k + 4) "token_of" ["part", "line"] (spTokOf Pt cT)) : FnOk P w K mg base (L2.CX P w) (k + 5) f fd ["text"] (spTokenize Pt cT) := by
  obtain ⟨fC, fdC, GC, gC, kC, bC⟩ := DC.ex
  obtain ⟨fP, fdP, GP, gP, kP, bP⟩ := DP.ex
  obtain ⟨fO, fdO, GO, gO, kO, bO⟩ := DO.ex
  refine F.okX scTokenize (fun vs H Q E h => ?_) (fun cdv A outer s H vs Q E hr h => ?_)
  · obtain ⟨t, rfl, _⟩ := h
    rfl
  · obtain ⟨t, rfl, hz, tg, q, qe⟩ := h
    have hr2 : Room (k + 2) _ := hr.mono (by omega)
    have hr1 : Room (k + 1) _ := hr2.mono (Nat.le_succ _)
    have hl : (S t).length = t.length := S_len t
    have hsz : (S t).length ≤ sizeLine := by rw [hl, sizeLine_eq]; omega
    have nd := scTokenize.nd
    refine ⟨_, pss_cons (ps_set (i := 1) nd rfl (.inl rfl) (pe_lst pa_nil))
      (pss_cons (ps_set (i := 2) nd rfl (.inl rfl) pe_int)
      (pss_cons (ps_set (i := 3) nd rfl (.inl rfl) pe_int)
      (pss_cons (ps_while (passes_of rfl) (pt_cmpR op_lt (pv 3) (pe_callB call_len_str (by rfl) T.zLen PySem.boot_len (pa_cons (pv 0) pa_nil)) (nomark _))
        (pss_cons (ps_set (i := 4) nd rfl (.inl rfl) (pe_ix ix_str (pv 0) (pv 3) (fun _ _ => rfl)))
        (pss_one (ps_if (pt_cmpR op_eq (pv 4) pe_str (nomark _)) (pss_one (ps_set (i := 3) nd rfl (.inl rfl) (pe_call GC hr1 (by rfl) gC kC bC .nil pass0 (pa_cons (pv 0) (pa_cons (pv 3) pa_nil)))))
          (pss_one (ps_if (pt_cmpR op_eq (pv 4) pe_str (nomark _)) (pss_one (ps_aug (i := 3) nd rfl (.inl rfl) pe_int ip_add))
          (pss_one (ps_if (pt_cmpR op_eq (pv 4) pe_str (nomark _)) (pss_cons (ps_aug (i := 2) nd rfl (.inl rfl) pe_int ip_add) (pss_one (ps_aug (i := 3) nd rfl (.inl rfl) pe_int ip_add)))
            (pss_cons (ps_set (i := 5) nd rfl (.inl rfl) (pe_call GP hr2 (by rfl) gP kP bP .nil pass0 (pa_cons (pv 0) (pa_cons (pv 3) pa_nil))))
            (pss_cons (ps_expr (pe_bm PySem.F.plainAttrs_list PySem.F.slot_list_append PySem.F.type_list_append mt_append (pv 1) (pa_cons
              (pe_callS GO hr (by rfl) gO kO bO (fun σ => passAt (takes_of rfl rfl rfl rfl) σ) (pa_cons (pe_slice sl_str (pv 0) (po_some (pv 3)) (po_some (pv 5))) (pa_cons (pv 2) pa_nil))) pa_nil)))
            (pss_one (ps_set (i := 3) nd rfl (.inl rfl) (pv 5)))))))))))))
      (pss_cons (ps_expr (pe_bm PySem.F.plainAttrs_list PySem.F.slot_list_append PySem.F.type_list_append mt_append (pv 1) (pa_cons (pe_tup (pa_cons pe_str (pa_cons pe_str (pa_cons (pv 2) pa_nil)))) pa_nil)))
      (pss_one (ps_ret (pv 1))))))), ?_⟩
    refine ⟨Nat.zero_le _, fun p hp => ?_⟩
    have s0 : Same H (upd H p (.lst [])) := same_new hp
    refine ⟨TokW Pt t (toksT 1 t) p H, ⟨t.length, 0, 1, [], [], none, none, rfl, rfl, Nat.zero_le _, TabG.upd tg (.inl hp), Sm.same s0, upd_same, .nil, Nat.le_refl _, Nat.le_refl _, (pre_nil _).symm⟩, ?_⟩
    rintro m σ H' ⟨i, l, rs, done, c4, c5, rfl, rfl, hi, tg', sm, hT, hD, hrs, hli, hall⟩
    refine ⟨_, rfl, _, rfl, _, rfl, hsz, _, _, rfl, rfl, _, rfl, iteD (fun h => ?_) fun h => ?_⟩
    · have hi2 : i < t.length := by rw [hl] at h; omega
      have hd : t.drop i = t[i] :: t.drop (i + 1) := List.drop_eq_getElem_cons hi2
      refine ⟨fun σ' H'' => ∃ m', m' < t.length - i ∧ TokW Pt t (toksT 1 t) p H m' σ' H'', fun _ _ h => h, ?_⟩
      refine ⟨_, rfl, _, rfl, _, _, _, rfl, rfl, hsz, at_S hi2, ?_⟩
      refine ⟨_, rfl, rfl, ?_⟩
      rw [hash_code, dcStr, dcS]
      refine ⟨_, rfl, ?_⟩
      by_cases h1 : t[i] = 35
      · refine iteDT (by rw [h1]) ⟨_, rfl, _, rfl, t, i, rfl, hi, by omega, ?_⟩
        have e1 : comLen (t.drop i) = 1 + ((t.drop (i + 1)).takeWhile (· ≠ 10)).length := by
          unfold comLen
          rw [hd, List.takeWhile_cons, h1, if_pos (by decide), List.length_cons]
          omega
        have e2 : t.drop (i + comLen (t.drop i)) = (t.drop (i + 1)).dropWhile (· ≠ 10) := by
          rw [e1, ← Nat.add_assoc, ← List.drop_drop, drop_tw]
        have e3 := tw_le (· ≠ 10) (t.drop (i + 1))
        rw [List.length_drop] at e3
        rw [hd, h1, toksT_hash, ← e2] at hall
        exact ⟨t.length - (i + comLen (t.drop i)), by omega, i + comLen (t.drop i), l, rs, done, _, c5, rfl, rfl, by omega, tg', sm, hT, hD, by omega, by omega, hall⟩
      · refine iteDF (fun z => h1 (List.cons.inj z).1) ⟨_, rfl, rfl, ?_⟩
        rw [sp_code, dcStr, dcS]
        refine ⟨_, rfl, ?_⟩
        by_cases h2 : t[i] = 32
        · refine iteDT (by rw [h2]) ⟨_, rfl, _, _, rfl, rfl, ?_⟩
          rw [hd, h2, toksT_space] at hall
          exact ⟨t.length - (i + 1), by omega, i + 1, l, rs, done, _, c5, rfl, rfl, by omega, tg', sm, hT, hD, by omega, by omega, hall⟩
        · refine iteDF (fun z => h2 (List.cons.inj z).1) ⟨_, rfl, rfl, ?_⟩
          rw [nl_code, dcStr, dcS]
          refine ⟨_, rfl, ?_⟩
          by_cases h3 : t[i] = 10
          · refine iteDT (by rw [h3]) ⟨_, rfl, _, _, rfl, rfl, _, rfl, _, _, rfl, rfl, ?_⟩
            rw [hd, h3, toksT_nl] at hall
            exact ⟨t.length - (i + 1), by omega, i + 1, l + 1, rs, done, _, c5, rfl, rfl, by omega, tg', sm, hT, hD, by omega, by omega, hall⟩
          · refine iteDF (fun z => h3 (List.cons.inj z).1) ⟨_, rfl, _, rfl, t, i, rfl, hi2, by omega, ?_⟩
            rw [hd, toksT_part h1 h2 h3, ← hd] at hall
            have hp1 := partLen_pos t[i] (t.drop (i + 1))
            rw [← hd] at hp1
            have hp2 := part_fits (t := t.drop i) (by rw [hd]; exact List.cons_ne_nil _ _)
            rw [List.length_drop] at hp2
            have ecut : cutS (S t) (some (i : Int)) (some ((i + partLen (t.drop i) : Nat) : Int)) = S ((t.drop i).take (partLen (t.drop i))) := by
              have := cut2 t i (i + partLen (t.drop i))
              rw [show i + partLen (t.drop i) - i = partLen (t.drop i) by omega] at this
              exact this
            refine ⟨_, rfl, .inl ⟨rfl, _, SqL.of hT⟩, _, rfl, _, rfl, _, rfl, _, rfl, _, rfl, _, rfl, hsz, ?_⟩
            rw [ecut]
            refine ⟨_, rfl, (t.drop i).take (partLen (t.drop i)), l, rfl, ?_, ?_, by omega, tg', fun kd v hk H2 q2 ht2 hn2 => ?_, fun hk H2 d2 ht2 hn2 => ?_⟩
            · intro z
              have := congrArg List.length z
              rw [List.length_take, List.length_drop, List.length_nil] at this
              omega
            · rw [List.length_take, List.length_drop]
              omega
            · have sm2 := Tabbed.sm tg' ht2
              have hT2 := sm2 _ _ ntL hT
              have s3 : Same H2 (upd H2 q2 (.tup [.str kd, v, .int l])) := same_new hn2
              have hT3 := s3 _ _ hT2
              refine ⟨p, rs, _, rfl, rfl, hT3, small_len (by omega), _, rfl, ?_⟩
              have hnn : ∀ b o, H b = some o → b ≠ p := fun b o e => ne_of_none e hp
              refine ⟨t.length - (i + partLen (t.drop i)), by omega, i + partLen (t.drop i), l, rs ++ [.ref q2], done ++ [(kd, v, l)], _, _, rfl, rfl, by omega, ?_, ?_, upd_same, ?_, ?_, by omega, ?_⟩
              · exact TabG.upd (TabG.upd ht2.1 (.inl hn2)) (.inr ⟨_, hT3, ntL⟩)
              · intro b o n e
                rw [upd_ne (hnn b o e)]
                exact s3 _ _ (sm2 _ _ n (sm _ _ n e))
              · refine (ToksAt.lst hT3 ((hD.sm sm2).sm (Sm.same s3))).app (.cons ⟨q2, rfl, ?_⟩ .nil)
                rw [upd_ne (ne_of upd_same hT3 tup_lst), upd_same]
              · rw [List.length_append, List.length_singleton]
                omega
              · rw [hall, hk, pre_ahead, List.drop_drop]
            · have sm2 := Tabbed.sm tg' ht2
              rw [hk] at hall
              refine qe l hall _ d2 ?_ (TabG.upd ht2.1 (.inl hn2)) upd_same
              · intro b o n e
                exact (same_new (o := .xd [("line", .int l)]) hn2) _ _ (sm2 _ _ n (sm _ _ n e))
    · have hi2 : i = t.length := by rw [hl] at h; omega
      rw [hi2, List.drop_of_length_le (Nat.le_refl _), toksT_nil] at hall
      have hall2 : toksT 1 t = .ok (done ++ [endTok l]) := hall
      refine ⟨_, rfl, .inl ⟨rfl, _, SqL.of hT⟩, _, rfl, len3, fun q2 hq2 => ?_⟩
      have s3 : Same H' (upd H' q2 (.tup [.str (Str.ofString "end"), .str (Str.ofString ""), .int l])) := same_new hq2
      have hT3 := s3 _ _ hT
      refine ⟨p, rs, _, rfl, rfl, hT3, small_len (by omega), _, rfl, ?_⟩
      refine q _ hall2 _ p _ ?_ ?_ hp upd_same ?_
      · intro b o n e
        rw [upd_ne (ne_of_none e hp)]
        exact s3 _ _ (sm _ _ n e)
      · exact TabG.upd (TabG.upd tg' (.inl hq2)) (.inr ⟨_, hT3, ntL⟩)
      · refine (ToksAt.lst hT3 (hD.sm (Sm.same s3))).app (.cons ⟨q2, rfl, ?_⟩ .nil)
        rw [upd_ne (ne_of upd_same hT3 tup_lst), upd_same]
        rfl
end
end Pk
set_option Elab.async false
set_option linter.all false
set_option maxRecDepth 100000
set_option maxHeartbeats 4000000
namespace Pk
open PySem PySem.Spec PyProof.Rows L2
theorem rd_sub {G H : Hp} {a : Addr} {o : HO} (k : Same G H) (h : L2.Rd G a o) : L2.Rd H a o := by
  rcases h with h | ⟨u, h⟩
  · exact .inl (k _ _ h)
  · exact .inr ⟨u, k _ _ h⟩
theorem sqL_sub {K : PySem.W.Frag} {G H : Hp} {a : Addr} {xs : List V} (k : Same G H) (h : SqL K G a xs) : SqL K H a xs := by
  rcases h with h | h
  · exact .inl (rd_sub k h)
  · exact .inr h
theorem sqT_sub {K : PySem.W.Frag} {G H : Hp} {a : Addr} {xs : List V} (k : Same G H) (h : SqT K G a xs) : SqT K H a xs := by
  rcases h with h | h
  · exact .inl (rd_sub k h)
  · exact .inr h
mutual
theorem dp_sub {K : PySem.W.Frag} {G H : Hp} (k : Same G H) : ∀ {d : PyData} {v : V}, Dp K G v d → Dp K H v d
  | _, _, .non => .non
  | _, _, .bl b => .bl b
  | _, _, .int i => .int i
  | _, _, .str x => .str x
  | _, _, .lst h r => .lst (sqL_sub k h) (dpAll_sub k r)
  | _, _, .tup h r => .tup (sqT_sub k h) (dpAll_sub k r)
theorem dpAll_sub {K : PySem.W.Frag} {G H : Hp} (k : Same G H) : ∀ {ds : List PyData} {vs : List V}, DpAll K G vs ds → DpAll K H vs ds
  | _, _, .nil => .nil
  | _, _, .cons h r => .cons (dp_sub k h) (dpAll_sub k r)
end
theorem dpAll_len {K : PySem.W.Frag} {G : Hp} : ∀ {vs : List V} {ds : List PyData}, DpAll K G vs ds → vs.length = ds.length
  | _, _, .nil => rfl
  | _, _, .cons _ r => congrArg (· + 1) (dpAll_len r)
/-- G with one more object that stands in H -/
theorem same_upd {G H : Hp} {p : Addr} {o : HO} (k : Same G H) (e : H p = some o) : Same (upd G p o) H := fun b u h => by
  by_cases hb : b = p
  · rw [hb, upd_same] at h
    rw [hb, e, ← h]
  · rw [upd_ne hb] at h
    exact k _ _ h
theorem same_new2 {G : Hp} {p : Addr} {o : HO} (h : G p = none) : Same G (upd G p o) := fun b u e => by
  rw [upd_ne (ne_of_none e h)]
  exact e
/-- what stands in a part that the list at p is not in stands when p changes -/
theorem same_set {G H : Hp} {p : Addr} {o : HO} (k : Same G H) (h : G p = none) : Same G (upd H p o) := fun b u e => by
  rw [upd_ne (ne_of_none e h)]
  exact k _ _ e
/-- the new part -/
structure Gr (G G' H : Hp) : Prop where
  sub : Same G G'
  new : ∀ b, G' b ≠ none → G b ≠ none ∨ H b = none
theorem Gr.refl (G H : Hp) : Gr G G H := ⟨Same.refl _, fun _ h => .inl h⟩
theorem Gr.free {G G' H : Hp} {p : Addr} (g : Gr G G' H) (h1 : G p = none) (h2 : H p ≠ none) : G' p = none := by
  cases e : G' p with
  | none => rfl
  | some o =>
    rcases g.new p (by rw [e]; exact fun z => nomatch z) with h | h
    · exact absurd h1 h
    · exact absurd h h2
theorem Gr.trans {G G1 G2 H H1 : Hp} (a : Gr G G1 H) (b : Gr G1 G2 H1) (k : ∀ b, H1 b = none → H b = none) : Gr G G2 H := ⟨a.sub.trans b.sub, fun p h => by
  rcases b.new p h with h | h
  · exact a.new p h
  · exact .inr (k _ h)⟩
theorem Gr.put {G G1 H : Hp} {p : Addr} {o : HO} (a : Gr G G1 H) (h : H p = none) (h1 : G1 p = none) : Gr G (upd G1 p o) H := ⟨a.sub.trans (same_new2 h1), fun b e => by
  by_cases hb : b = p
  · rw [hb]
    exact .inr h
  · rw [upd_ne hb] at e
    exact a.new b e⟩
theorem same_none {H H' : Hp} (k : Same H H') : ∀ b, H' b = none → H b = none := fun b e => k.free e
end Pk
set_option Elab.async false
set_option linter.all false
set_option maxRecDepth 100000
set_option maxHeartbeats 4000000
namespace Pk
open PySem PySem.Spec PyProof.Rows L2
theorem StAt.neS {H : Hp} {s c p : Addr} (h : StAt H s c) (hp : H p = none) : p ≠ s ∧ p ≠ c := by
  obtain ⟨cells, seed, h1, h2, _⟩ := h
  exact ⟨Ne.symm (ne_of_none h1 hp), Ne.symm (ne_of_none h2 hp)⟩
/-- a part G that stands, beside the drawing state -/
structure Sg (G H : Hp) (s c : Addr) : Prop where
  sub : Same G H
  st : StAt H s c
  gs : G s = none
  gc : G c = none
theorem Sg.new {G H : Hp} {s c p : Addr} {o : HO} (C : Sg G H s c) (hp : H p = none) : Sg (upd G p o) (upd H p o) s c :=
  ⟨fun b u h => by
    by_cases hb : b = p
    · rw [hb, upd_same] at h
      rw [hb, upd_same]
      exact h
    · rw [upd_ne hb] at h
      rw [upd_ne hb]
      exact C.sub _ _ h, C.st.new hp, by rw [upd_ne (Ne.symm (C.st.neS hp).1)]; exact C.gs, by rw [upd_ne (Ne.symm (C.st.neS hp).2)]; exact C.gc⟩
theorem same_kp {G H H' : Hp} {s c : Addr} (h : Same G H) (gs : G s = none) (gc : G c = none) (k : Kp s c H H') : Same G H' := fun b o e => k b o (ne_of_none e gs) (ne_of_none e gc) (h b o e)
theorem Sg.kp {G H H' : Hp} {s c : Addr} (C : Sg G H s c) (k : Kp s c H H') (st : StAt H' s c) : Sg G H' s c := ⟨same_kp C.sub C.gs C.gc k, st, C.gs, C.gc⟩
theorem Sg.same {G H H' : Hp} {s c : Addr} (C : Sg G H s c) (k : Same H H') : Sg G H' s c := ⟨C.sub.trans k, C.st.same k, C.gs, C.gc⟩
theorem Sg.set {G H : Hp} {s c p : Addr} {o : HO} (C : Sg G H s c) (h : G p = none) (n : p ≠ s ∧ p ≠ c) : Sg G (upd H p o) s c := ⟨same_set C.sub h, C.st.upd n.1 n.2, C.gs, C.gc⟩
theorem Sg.frz {G H : Hp} {s c p : Addr} {o : HO} (C : Sg G H s c) (h : H p = some o) (n : p ≠ s ∧ p ≠ c) : Sg (upd G p o) H s c := ⟨same_upd C.sub h, C.st, by rw [upd_ne (Ne.symm n.1)]; exact C.gs, by rw [upd_ne (Ne.symm n.2)]; exact C.gc⟩
/-- te gives the data d from the part G0 -/
def DE (K : PySem.W.Frag) (σ : L2.St) (G0 : Hp) (te : TE) (d : PyData) : Prop := ∀ (G H : Hp) (s c : Addr) (Q : VK), Same G0 G → Sg G H s c → (∀ v G' H', Sg G' H' s c → Gr G G' H → Same H H' → Dp K G' v d → Q v H') → te σ H Q
def DEs (K : PySem.W.Frag) (σ : L2.St) (G0 : Hp) (ta : TA) (ds : List PyData) : Prop := ∀ (G H : Hp) (s c : Addr) (Q : List V → Hp → Prop), Same G0 G → Sg G H s c → (∀ vs G' H', Sg G' H' s c → Gr G G' H → Same H H' → DpAll K G' vs ds → Q vs H') → ta σ H Q
section
variable {K : PySem.W.Frag} {σ : L2.St} {G0 : Hp}
theorem DE.int (i : Int) : DE K σ G0 (tC (.int i)) (.int i) := fun G H s c Q _ C q => q _ G H C (Gr.refl _ _) (Same.refl _) (.int i)
theorem DE.str (x : Str) : DE K σ G0 (tC (.str x)) (.str x) := fun G H s c Q _ C q => q _ G H C (Gr.refl _ _) (Same.refl _) (.str x)
theorem DE.non : DE K σ G0 (tC .non) .none := fun G H s c Q _ C q => q _ G H C (Gr.refl _ _) (Same.refl _) .non
theorem DEs.nil : DEs K σ G0 tNil [] := fun G H s c Q _ C q => q _ G H C (Gr.refl _ _) (Same.refl _) .nil
theorem DEs.cons {te : TE} {ta : TA} {d : PyData} {ds : List PyData} (h : DE K σ G0 te d) (r : DEs K σ G0 ta ds) : DEs K σ G0 (tCons te ta) (d :: ds) := fun G H s c Q g C q =>
  h G H s c _ g C fun v G1 H1 C1 s1 t1 hd => r G1 H1 s c _ (g.trans s1.sub) C1 fun vs G2 H2 C2 s2 t2 hds => q _ G2 H2 C2 (s1.trans s2 (same_none t1)) (t1.trans t2) (.cons (dp_sub s2.sub hd) hds)
theorem DE.lst {ta : TA} {ds : List PyData} (h : DEs K σ G0 ta ds) (hl : ds.length ≤ 1000) : DE K σ G0 (tLst ta) (.list ds) := fun G H s c Q g C q =>
  h G H s c _ g C fun vs G1 H1 C1 s1 t1 hds => ⟨Nat.le_of_lt (small1000 (by rw [dpAll_len hds]; exact hl)), fun p hp => q _ _ _ (C1.new hp) (s1.put (t1.free hp) (C1.sub.free hp)) (t1.trans (same_new hp)) (.lst (SqL.of upd_same) (dpAll_sub (same_new2 (C1.sub.free hp)) hds))⟩
theorem DE.tup {ta : TA} {ds : List PyData} (h : DEs K σ G0 ta ds) (hl : ds.length ≤ 1000) : DE K σ G0 (tTup ta) (.tuple ds) := fun G H s c Q g C q =>
  h G H s c _ g C fun vs G1 H1 C1 s1 t1 hds => ⟨Nat.le_of_lt (small1000 (by rw [dpAll_len hds]; exact hl)), fun p hp => q _ _ _ (C1.new hp) (s1.put (t1.free hp) (C1.sub.free hp)) (t1.trans (same_new hp)) (.tup (SqT.of upd_same) (dpAll_sub (same_new2 (C1.sub.free hp)) hds))⟩
/-- x = e; rest, the rest by its name -/
theorem setany_rd {te : TE} {g : TG} {rest : TS} {D : Ends} {H : Hp} (q : te σ H fun x H1 => g x σ H1 fun σ2 H2 => rest D σ2 H2) : tSeq (tAsg te g) rest D σ H := q
end
end Pk
set_option Elab.async false
set_option linter.all false
set_option maxRecDepth 100000
set_option maxHeartbeats 4000000
namespace Pk
open PySem PySem.Spec PyProof.Rows L2
mutual
inductive Dr (H : Hp) : V → PyData → Prop
  | non : Dr H .non .none
  | bl (b : Bool) : Dr H (.bl b) (.bool b)
  | int (i : Int) : Dr H (.int i) (.int i)
  | str (x : Str) : Dr H (.str x) (.str x)
  | lst {a : Addr} {xs : List V} {ds : List PyData} : H a = some (.lst xs) → DrAll H xs ds → Dr H (.ref a) (.list ds)
  | tup {a : Addr} {xs : List V} {ds : List PyData} : H a = some (.tup xs) → DrAll H xs ds → Dr H (.ref a) (.tuple ds)
inductive DrAll (H : Hp) : List V → List PyData → Prop
  | nil : DrAll H [] []
  | cons {v : V} {vs : List V} {d : PyData} {ds : List PyData} : Dr H v d → DrAll H vs ds → DrAll H (v :: vs) (d :: ds)
end
mutual
theorem dr_dp {K : PySem.W.Frag} {G : Hp} : ∀ {d : PyData} {v : V}, Dr G v d → Dp K G v d
  | _, _, .non => .non
  | _, _, .bl b => .bl b
  | _, _, .int i => .int i
  | _, _, .str x => .str x
  | _, _, .lst h r => .lst (SqL.of h) (drAll_dp r)
  | _, _, .tup h r => .tup (SqT.of h) (drAll_dp r)
theorem drAll_dp {K : PySem.W.Frag} {G : Hp} : ∀ {ds : List PyData} {vs : List V}, DrAll G vs ds → DpAll K G vs ds
  | _, _, .nil => .nil
  | _, _, .cons h r => .cons (dr_dp h) (drAll_dp r)
end
mutual
theorem dr_sub {G H : Hp} (k : Same G H) : ∀ {d : PyData} {v : V}, Dr G v d → Dr H v d
  | _, _, .non => .non
  | _, _, .bl b => .bl b
  | _, _, .int i => .int i
  | _, _, .str x => .str x
  | _, _, .lst h r => .lst (k _ _ h) (drAll_sub k r)
  | _, _, .tup h r => .tup (k _ _ h) (drAll_sub k r)
theorem drAll_sub {G H : Hp} (k : Same G H) : ∀ {ds : List PyData} {vs : List V}, DrAll G vs ds → DrAll H vs ds
  | _, _, .nil => .nil
  | _, _, .cons h r => .cons (dr_sub k h) (drAll_sub k r)
end
theorem drAll_len {G : Hp} : ∀ {vs : List V} {ds : List PyData}, DrAll G vs ds → vs.length = ds.length
  | _, _, .nil => rfl
  | _, _, .cons _ r => congrArg (· + 1) (drAll_len r)
theorem drAll_at {G : Hp} : ∀ {vs : List V} {ds : List PyData} {i : Nat} {d : PyData}, DrAll G vs ds → ds[i]? = some d → ∃ v, vs[i]? = some v ∧ Dr G v d
  | _, _, _, _, .nil, e => by cases e
  | _, _, 0, _, .cons h _, e => by
    cases e
    exact ⟨_, rfl, h⟩
  | _, _, i + 1, _, .cons _ r, e => drAll_at (i := i) r e
theorem drAll_val {G : Hp} : ∀ {vs : List V} {ds : List PyData} {i : Nat} {v : V}, DrAll G vs ds → vs[i]? = some v → ∃ d, ds[i]? = some d ∧ Dr G v d
  | _, _, _, _, .nil, e => by cases e
  | _, _, 0, _, .cons h _, e => by
    cases e
    exact ⟨_, rfl, h⟩
  | _, _, i + 1, _, .cons _ r, e => drAll_val (i := i) r e
theorem drAll_app {G : Hp} : ∀ {vs ws : List V} {ds es : List PyData}, DrAll G vs ds → DrAll G ws es → DrAll G (vs ++ ws) (ds ++ es)
  | _, _, _, _, .nil, h => h
  | _, _, _, _, .cons a r, h => .cons a (drAll_app r h)
theorem dr_int {G : Hp} {v : V} {i : Int} (h : Dr G v (.int i)) : v = .int i := by
  cases h
  rfl
theorem dr_str {G : Hp} {v : V} {x : Str} (h : Dr G v (.str x)) : v = .str x := by
  cases h
  rfl
theorem dr_tup {G : Hp} {v : V} {ds : List PyData} (h : Dr G v (.tuple ds)) : ∃ p xs, v = .ref p ∧ G p = some (.tup xs) ∧ DrAll G xs ds := by
  cases h with
  | tup a b => exact ⟨_, _, rfl, a, b⟩
theorem dr_lst {G : Hp} {v : V} {ds : List PyData} (h : Dr G v (.list ds)) : ∃ p xs, v = .ref p ∧ G p = some (.lst xs) ∧ DrAll G xs ds := by
  cases h with
  | lst a b => exact ⟨_, _, rfl, a, b⟩
theorem drAll_nil {G : Hp} {vs : List V} (h : DrAll G vs []) : vs = [] := by
  cases h
  rfl
theorem drAll_cons {G : Hp} {vs : List V} {d : PyData} {ds : List PyData} (h : DrAll G vs (d :: ds)) : ∃ v r, vs = v :: r ∧ Dr G v d ∧ DrAll G r ds := by
  cases h with
  | cons a b => exact ⟨_, _, rfl, a, b⟩
/-- te gives the data d from the part G0 -/
def ZE (σ : L2.St) (G0 : Hp) (te : TE) (d : PyData) : Prop := ∀ (G H : Hp) (s c : Addr) (Q : VK), Same G0 G → Sg G H s c → (∀ v G' H', Sg G' H' s c → Gr G G' H → Same H H' → Dr G' v d → Q v H') → te σ H Q
def ZEs (σ : L2.St) (G0 : Hp) (ta : TA) (ds : List PyData) : Prop := ∀ (G H : Hp) (s c : Addr) (Q : List V → Hp → Prop), Same G0 G → Sg G H s c → (∀ vs G' H', Sg G' H' s c → Gr G G' H → Same H H' → DrAll G' vs ds → Q vs H') → ta σ H Q
section
variable {σ : L2.St} {G0 : Hp}
theorem ZE.int (i : Int) : ZE σ G0 (tC (.int i)) (.int i) := fun G H s c Q _ C q => q _ G H C (Gr.refl _ _) (Same.refl _) (.int i)
theorem ZE.str (x : Str) : ZE σ G0 (tC (.str x)) (.str x) := fun G H s c Q _ C q => q _ G H C (Gr.refl _ _) (Same.refl _) (.str x)
theorem ZE.non : ZE σ G0 (tC .non) .none := fun G H s c Q _ C q => q _ G H C (Gr.refl _ _) (Same.refl _) .non
theorem ZEs.nil : ZEs σ G0 tNil [] := fun G H s c Q _ C q => q _ G H C (Gr.refl _ _) (Same.refl _) .nil
theorem ZEs.cons {te : TE} {ta : TA} {d : PyData} {ds : List PyData} (h : ZE σ G0 te d) (r : ZEs σ G0 ta ds) : ZEs σ G0 (tCons te ta) (d :: ds) := fun G H s c Q g C q =>
  h G H s c _ g C fun v G1 H1 C1 s1 t1 hd => r G1 H1 s c _ (g.trans s1.sub) C1 fun vs G2 H2 C2 s2 t2 hds => q _ G2 H2 C2 (s1.trans s2 (same_none t1)) (t1.trans t2) (.cons (dr_sub s2.sub hd) hds)
theorem ZE.lst {ta : TA} {ds : List PyData} (h : ZEs σ G0 ta ds) (hl : ds.length ≤ 1000) : ZE σ G0 (tLst ta) (.list ds) := fun G H s c Q g C q =>
  h G H s c _ g C fun vs G1 H1 C1 s1 t1 hds => ⟨Nat.le_of_lt (small1000 (by rw [drAll_len hds]; exact hl)), fun p hp => q _ _ _ (C1.new hp) (s1.put (t1.free hp) (C1.sub.free hp)) (t1.trans (same_new hp)) (.lst upd_same (drAll_sub (same_new2 (C1.sub.free hp)) hds))⟩
theorem ZE.tup {ta : TA} {ds : List PyData} (h : ZEs σ G0 ta ds) (hl : ds.length ≤ 1000) : ZE σ G0 (tTup ta) (.tuple ds) := fun G H s c Q g C q =>
  h G H s c _ g C fun vs G1 H1 C1 s1 t1 hds => ⟨Nat.le_of_lt (small1000 (by rw [drAll_len hds]; exact hl)), fun p hp => q _ _ _ (C1.new hp) (s1.put (t1.free hp) (C1.sub.free hp)) (t1.trans (same_new hp)) (.tup upd_same (drAll_sub (same_new2 (C1.sub.free hp)) hds))⟩
end
end Pk
set_option Elab.async false
set_option linter.all false
set_option maxRecDepth 100000
set_option maxHeartbeats 4000000
namespace Tk
open PySem L2 SX
abbrev Rem := List Tok
def valAt : Rem → V
  | (_, v, _) :: _ => v
  | [] => .non
def kindAt : Rem → Str
  | (k, _, _) :: _ => k
  | [] => Str.empty
def lineAt : Rem → Nat
  | (_, _, l) :: _ => l
  | [] => 0
def wordAt (w : Str) (r : Rem) : Bool := decide (valAt r = .str w)
def mSkip (w : Str) (r : Rem) : Rem := if wordAt w r = true then r.tail else r
def mTake (w : Str) (r : Rem) : Except Nat Rem := if wordAt w r = true then .ok r.tail else .error (lineAt r)
def mKind (k : Str) (r : Rem) : Except Nat (V × Rem) := if kindAt r = k then .ok (valAt r, r.tail) else .error (lineAt r)
def mOne (ws : List Str) (r : Rem) : Except Nat (V × Rem) := if inV (valAt r) (ws.map V.str) = true then .ok (valAt r, r.tail) else .error (lineAt r)
def mName : Rem → Except Nat (V × Rem) := mKind (Str.ofString "name")
def mNum : Rem → Except Nat (V × Rem) := mKind (Str.ofString "number")
def mEnd (r : Rem) : Except Nat Rem := if kindAt r = Str.ofString "end" then .ok r else .error (lineAt r)
/-- a token's value: a text or a number -/
def TV (v : V) : Prop := (∃ x, v = .str x) ∨ ∃ n : Nat, v = .int n
/-- a token as data -/
def tvD (v : V) : PyData := match v with
  | .str x => .str x
  | .int n => .int n
  | _ => .none
/-- the rest of the tokens: at its end, and only there, "end" -/
structure RemOk (r : Rem) : Prop where
  last : ∃ p l, r = p ++ [endTok l]
  len : r.length ≤ 1000001
  tv : ∀ t ∈ r, TV t.2.1
theorem RemOk.ne {r : Rem} (h : RemOk r) : r ≠ [] := by
  obtain ⟨p, l, rfl⟩ := h.last
  simp
theorem RemOk.tl {r : Rem} (h : RemOk r) (ht : kindAt r ≠ Str.ofString "end" ∨ valAt r ≠ .str (Str.ofString "")) : RemOk r.tail := by
  have hl := h.len
  obtain ⟨p, l, rfl⟩ := h.last
  cases p with
  | nil => rcases ht with ht | ht <;> exact absurd rfl ht
  | cons a p => exact ⟨⟨p, l, rfl⟩, Nat.le_of_succ_le hl, fun t hm => h.tv t (List.mem_cons_of_mem _ hm)⟩
theorem RemOk.val {r : Rem} (h : RemOk r) : TV (valAt r) := by
  obtain ⟨p, l, rfl⟩ := h.last
  cases p with
  | nil => exact h.tv _ List.mem_cons_self
  | cons a p => exact h.tv _ List.mem_cons_self
theorem RemOk.word {r : Rem} {w : Str} (h : RemOk r) (hw : w ≠ Str.ofString "") (e : wordAt w r = true) : RemOk r.tail := h.tl (.inr fun z => by
  unfold wordAt at e
  rw [z] at e
  exact hw (V.str.inj (of_decide_eq_true e)).symm)
theorem RemOk.skip {r : Rem} {w : Str} (h : RemOk r) (hw : w ≠ Str.ofString "") : RemOk (mSkip w r) := by
  unfold mSkip
  by_cases e : wordAt w r = true
  · rw [if_pos e]
    exact h.word hw e
  · rw [if_neg e]
    exact h
end Tk
namespace Pk
open PySem PySem.Spec PyProof.Rows L2 SX Tk PySem.ErX
/-- the reader's class -/
structure RdC (K : PySem.W.Frag) (C : Addr) : Prop where
  cl : Cls K C
  nT : NoAttr K C "tokens"
  nA : NoAttr K C "at"
/-- at a: a reader ahead of the tokens r -/
def Rd (C : Addr) (H : Hp) (a tl : Addr) (r : Tk.Rem) : Prop := ∃ (dx : Addr) (i : Nat) (rs : List V) (ts : List Tk.Tok), H a = some (.ins C dx [("tokens", .ref tl), ("at", .int (i : Nat))]) ∧ H tl = some (.lst rs) ∧
  Paired (fun (r : V) (t : Tk.Tok) => ∃ q : Addr, r = .ref q ∧ H q = some (.tup [.str t.1, t.2.1, .int (t.2.2 : Nat)])) rs ts ∧ r = ts.drop i ∧ RemOk r ∧ ∀ t ∈ ts, t.2.2 ≤ 16000000
/-- all but the reader stands -/
def Ev (a : Addr) (H H' : Hp) : Prop := ∀ b o, b ≠ a → H b = some o → H' b = some o
theorem Ev.refl (a : Addr) (H : Hp) : Ev a H H := fun _ _ _ e => e
theorem Ev.trans {a : Addr} {H H1 H2 : Hp} (h : Ev a H H1) (h' : Ev a H1 H2) : Ev a H H2 := fun b o n e => h' b o n (h b o n e)
theorem Ev.same {a : Addr} {H H1 : Hp} (h : Same H H1) : Ev a H H1 := fun b o _ e => h b o e
/-- what the reader goes ahead of stands -/
theorem paired_ev {a : Addr} {H H' : Hp} (k : ∀ b o, (∀ C dx fs, o ≠ .ins C dx fs) → H b = some o → H' b = some o) : ∀ {rs : List V} {ts : List Tk.Tok}, Paired (fun (r : V) (t : Tk.Tok) => ∃ q : Addr, r = .ref q ∧ H q = some (.tup [.str t.1, t.2.1, .int (t.2.2 : Nat)])) rs ts →
    Paired (fun (r : V) (t : Tk.Tok) => ∃ q : Addr, r = .ref q ∧ H' q = some (.tup [.str t.1, t.2.1, .int (t.2.2 : Nat)])) rs ts
  | _, _, .nil => .nil
  | _, _, .cons ⟨q, e1, e2⟩ r => .cons ⟨q, e1, k _ _ (fun _ _ _ z => by cases z) e2⟩ (paired_ev (a := a) k r)
theorem Rd.same {C : Addr} {H H' : Hp} {a tl : Addr} {r : Tk.Rem} (h : Rd C H a tl r) (k : Same H H') : Rd C H' a tl r := by
  obtain ⟨dx, i, rs, ts, h1, h2, h3, h4⟩ := h
  exact ⟨dx, i, rs, ts, k _ _ h1, k _ _ h2, paired_ev (a := a) (fun b o _ e => k b o e) h3, h4⟩
theorem Rd.here {C : Addr} {H : Hp} {a tl : Addr} {r : Tk.Rem} (h : Rd C H a tl r) : H a ≠ none ∧ H tl ≠ none := by
  obtain ⟨dx, i, rs, ts, h1, h2, h3, h4⟩ := h
  refine ⟨fun z => ?_, fun z => ?_⟩
  · rw [h1] at z
    cases z
  · rw [h2] at z
    cases z
/-- a change of a list beside it -/
theorem Rd.at {C : Addr} {H H' : Hp} {a tl p : Addr} {r : Tk.Rem} {xs : List V} (h : Rd C H a tl r) (hp : ∀ b o, b ≠ p → H b = some o → H' b = some o) (n : p ≠ a) (n2 : p ≠ tl) (nt : H p = some (.lst xs)) : Rd C H' a tl r := by
  obtain ⟨dx, i, rs, ts, h1, h2, h3, h4⟩ := h
  refine ⟨dx, i, rs, ts, hp _ _ (Ne.symm n) h1, hp _ _ (Ne.symm n2) h2, ?_, h4⟩
  clear h4 h2
  induction h3 with
  | nil => exact .nil
  | cons hq _ ih =>
    obtain ⟨q, e1, e2⟩ := hq
    exact .cons ⟨q, e1, hp _ _ (fun z => by
      rw [z, nt] at e2
      cases e2) e2⟩ ih
/-- the objects that are new -/
def New (H H' : Hp) : Hp := fun b => if H b = none then H' b else none
theorem New.of {H H' : Hp} {b : Addr} {o : HO} (h : H b = none) (e : H' b = some o) : New H H' b = some o := by
  unfold New
  rw [if_pos h]
  exact e
theorem New.get {H H' : Hp} {b : Addr} {o : HO} (e : New H H' b = some o) : H b = none ∧ H' b = some o := by
  unfold New at e
  by_cases h : H b = none
  · rw [if_pos h] at e
    exact ⟨h, e⟩
  · rw [if_neg h] at e
    cases e
theorem new_mono {a : Addr} {H0 H H1 H2 : Hp} (ha : H a ≠ none) (h0 : ∀ b, H b = none → H0 b = none) (k : Ev a H1 H2) : ∀ b o, New H H1 b = some o → New H0 H2 b = some o := fun b o e => by
  obtain ⟨h1, h2⟩ := New.get e
  exact New.of (h0 b h1) (k b o (fun z => ha (by rw [← z]; exact h1)) h2)
theorem ev_none {a : Addr} {H H' : Hp} (h : Ev a H H') (ha : H' a ≠ none) : ∀ b, H' b = none → H b = none := fun b e => by
  cases q : H b with
  | none => rfl
  | some o =>
    by_cases hb : b = a
    · rw [hb] at e
      exact absurd e ha
    · rw [h b o hb q] at e
      cases e
theorem tvD_dr {G : Hp} {v : V} (h : TV v) : Dr G v (tvD v) := by
  rcases h with ⟨x, rfl⟩ | ⟨n, rfl⟩
  · exact .str x
  · exact .int n
end Pk
set_option Elab.async false
set_option linter.all false
namespace Pk
open PySem PySem.Spec PyProof.Rows L2
structure Mt (P : Program) (w : World) (K : PySem.W.Frag) (mg : Str → Option Value) (base : Heap) (CX : CXT) (k : Nat) (C : Addr) (x : Str) (ps : List Str) (sp : Sp) : Prop where
  ex : ∃ (f : Addr) (fd : FuncData), FnOk P w K mg base CX k f fd ps sp ∧ Meth K C x f ∧ Binds K fd ps []
end Pk
set_option Elab.async false
set_option linter.all false
set_option maxRecDepth 100000
set_option maxHeartbeats 4000000
namespace Pk
open PySem PySem.Spec PyProof.Rows L2 SX GxR Tk PySem.ErX
def rdS (i : Nat) : Stmt := inClass (topS 4) i
abbrev rInit : Stmt := rdS 0
abbrev rKind : Stmt := rdS 1
abbrev rValue : Stmt := rdS 2
abbrev rFail : Stmt := rdS 3
abbrev rSkip : Stmt := rdS 4
abbrev rTake : Stmt := rdS 5
abbrev rOne : Stmt := rdS 6
abbrev rName : Stmt := rdS 7
abbrev rNumber : Stmt := rdS 8
abbrev rTakeK : Stmt := rdS 9
abbrev rEnd : Stmt := rdS 10
theorem scrInit : FnScope ["self", "tokens"] ["self", "tokens"] (defScope rInit) := ⟨rfl, rfl, rfl, by decide +kernel, rfl, by decide +kernel, by decide +kernel⟩
theorem scrKind : FnScope ["self"] ["self"] (defScope rKind) := ⟨rfl, rfl, rfl, by decide +kernel, rfl, by decide +kernel, by decide +kernel⟩
theorem scrValue : FnScope ["self"] ["self"] (defScope rValue) := ⟨rfl, rfl, rfl, by decide +kernel, rfl, by decide +kernel, by decide +kernel⟩
theorem scrFail : FnScope ["self"] ["self"] (defScope rFail) := ⟨rfl, rfl, rfl, by decide +kernel, rfl, by decide +kernel, by decide +kernel⟩
theorem scrSkip : FnScope ["self", "word"] ["self", "word"] (defScope rSkip) := ⟨rfl, rfl, rfl, by decide +kernel, rfl, by decide +kernel, by decide +kernel⟩
theorem scrTake : FnScope ["self", "word"] ["self", "word"] (defScope rTake) := ⟨rfl, rfl, rfl, by decide +kernel, rfl, by decide +kernel, by decide +kernel⟩
theorem scrOne : FnScope ["self", "words", "word"] ["self", "words"] (defScope rOne) := ⟨rfl, rfl, rfl, by decide +kernel, rfl, by decide +kernel, by decide +kernel⟩
theorem scrName : FnScope ["self"] ["self"] (defScope rName) := ⟨rfl, rfl, rfl, by decide +kernel, rfl, by decide +kernel, by decide +kernel⟩
theorem scrNumber : FnScope ["self"] ["self"] (defScope rNumber) := ⟨rfl, rfl, rfl, by decide +kernel, rfl, by decide +kernel, by decide +kernel⟩
theorem scrTakeK : FnScope ["self", "kind", "value"] ["self", "kind"] (defScope rTakeK) := ⟨rfl, rfl, rfl, by decide +kernel, rfl, by decide +kernel, by decide +kernel⟩
theorem scrEnd : FnScope ["self"] ["self"] (defScope rEnd) := ⟨rfl, rfl, rfl, by decide +kernel, rfl, by decide +kernel, by decide +kernel⟩
/-- the way out with an error of the line l -/
def ErrAt (cT a : Addr) (H : Hp) (E : XK) (l : Nat) : Prop := ∀ (H' : Hp) (x : Addr), Ev a H H' → H' x = some (.xd [("line", .int (l : Nat))]) → E (.ref cT) (some x) H'
/-- the ways out of a method that gives a value -/
def PostV (C cT a tl : Addr) (H : Hp) (Q : VK) (E : XK) : Except Nat (V × Tk.Rem) → Prop
  | .ok (v, r) => ∀ H', Ev a H H' → Rd C H' a tl r → Q v H'
  | .error l => ErrAt cT a H E l
def PostN (C cT a tl : Addr) (H : Hp) (Q : VK) (E : XK) : Except Nat Tk.Rem → Prop
  | .ok r => ∀ H', Ev a H H' → Rd C H' a tl r → Q .non H'
  | .error l => ErrAt cT a H E l
def sprInit (C : Addr) : Sp := fun vs H Q _ => ∃ (a dx tl : Addr), vs = [.ref a, .ref tl] ∧ H a = some (.ins C dx []) ∧ Q .non (upd H a (.ins C dx [("tokens", .ref tl), ("at", .int (0 : Nat))]))
def sprKind (C : Addr) : Sp := fun vs H Q _ => ∃ (a tl : Addr) (r : Tk.Rem), vs = [.ref a] ∧ Rd C H a tl r ∧ Q (.str (kindAt r)) H
def sprValue (C : Addr) : Sp := fun vs H Q _ => ∃ (a tl : Addr) (r : Tk.Rem), vs = [.ref a] ∧ Rd C H a tl r ∧ Q (valAt r) H
def sprFail (C cT : Addr) : Sp := fun vs H _ E => ∃ (a tl : Addr) (r : Tk.Rem), vs = [.ref a] ∧ Rd C H a tl r ∧ ∀ (H' : Hp) (x : Addr), Same H H' → H' x = some (.xd [("line", .int (lineAt r : Nat))]) → E (.ref cT) (some x) H'
def sprSkip (C : Addr) : Sp := fun vs H Q _ => ∃ (a tl : Addr) (r : Tk.Rem) (w : Str), vs = [.ref a, .str w] ∧ w ≠ Str.ofString "" ∧ Rd C H a tl r ∧ ∀ H', Ev a H H' → Rd C H' a tl (mSkip w r) → Q (.bl (wordAt w r)) H'
def sprTake (C cT : Addr) : Sp := fun vs H Q E => ∃ (a tl : Addr) (r : Tk.Rem) (w : Str), vs = [.ref a, .str w] ∧ w ≠ Str.ofString "" ∧ Rd C H a tl r ∧ PostN C cT a tl H Q E (mTake w r)
def sprOne (K : PySem.W.Frag) (C cT : Addr) : Sp := fun vs H Q E => ∃ (a tl p : Addr) (r : Tk.Rem) (ws : List Str), vs = [.ref a, .ref p] ∧ TupK K p (ws.map V.str) ∧ Str.ofString "" ∉ ws ∧ Rd C H a tl r ∧ PostV C cT a tl H Q E (mOne ws r)
def sprTakeK (C cT : Addr) : Sp := fun vs H Q E => ∃ (a tl : Addr) (r : Tk.Rem) (w : Str), vs = [.ref a, .str w] ∧ w ≠ Str.ofString "end" ∧ Rd C H a tl r ∧ PostV C cT a tl H Q E (mKind w r)
def sprName (C cT : Addr) : Sp := fun vs H Q E => ∃ (a tl : Addr) (r : Tk.Rem), vs = [.ref a] ∧ Rd C H a tl r ∧ PostV C cT a tl H Q E (mName r)
def sprNumber (C cT : Addr) : Sp := fun vs H Q E => ∃ (a tl : Addr) (r : Tk.Rem), vs = [.ref a] ∧ Rd C H a tl r ∧ PostV C cT a tl H Q E (mNum r)
def sprEnd (C cT : Addr) : Sp := fun vs H Q E => ∃ (a tl : Addr) (r : Tk.Rem), vs = [.ref a] ∧ Rd C H a tl r ∧ PostN C cT a tl H Q E (mEnd r)
section
variable {P : Program} {w : World} {K : PySem.W.Frag} {mg : Str → Option Value} {base : Heap} {C cT : Addr}
theorem paired_at {H : Hp} : ∀ {rs : List V} {ts : List Tk.Tok} {i : Nat} {t : Tk.Tok}, Paired (fun (r : V) (t : Tk.Tok) => ∃ q : Addr, r = .ref q ∧ H q = some (.tup [.str t.1, t.2.1, .int (t.2.2 : Nat)])) rs ts → ts[i]? = some t →
    ∃ v, rs[i]? = some v ∧ ∃ q : Addr, v = .ref q ∧ H q = some (.tup [.str t.1, t.2.1, .int (t.2.2 : Nat)])
  | _, _, _, _, .nil, e => by cases e
  | _, _, 0, _, .cons a _, e => by
    cases e
    exact ⟨_, rfl, a⟩
  | _, _, i + 1, _, .cons _ r, e => paired_at (i := i) r e
/-- the token ahead, as the reader finds it -/
theorem rd_tok {H : Hp} {a tl : Addr} {r : Tk.Rem} (h : Rd C H a tl r) : ∃ (dx : Addr) (i : Nat) (rs : List V) (q : Addr), H a = some (.ins C dx [("tokens", .ref tl), ("at", .int (i : Nat))]) ∧ SqL K H tl rs ∧ atI rs ((i : Nat) : Int) = some (.ref q) ∧ SqT K H q [.str (kindAt r), valAt r, .int (lineAt r : Nat)] ∧ lineAt r ≤ 16000000 := by
  obtain ⟨dx, i, rs, ts, h1, h2, h3, h4, h5, h6⟩ := h
  have hne := h5.ne
  cases r with
  | nil => exact absurd rfl hne
  | cons t r =>
    have e : ts[i]? = some t := by
      have := congrArg List.head? h4
      rw [List.head?_drop] at this
      exact this.symm
    obtain ⟨v, hv, q, rfl, hq⟩ : ∃ v, rs[i]? = some v ∧ ∃ q : Addr, v = .ref q ∧ H q = some (.tup [.str t.1, t.2.1, .int (t.2.2 : Nat)]) := by
      exact paired_at h3 e
    exact ⟨dx, i, rs, q, h1, SqL.of h2, atI_nat hv, SqT.of hq, h6 t (List.mem_of_getElem? e)⟩
/-- one token on -/
theorem rd_on {H : Hp} {a tl : Addr} {r : Tk.Rem} (h : Rd C H a tl r) (ht : RemOk r.tail) : ∃ (dx : Addr) (i : Nat), H a = some (.ins C dx [("tokens", .ref tl), ("at", .int (i : Nat))]) ∧ Rd C (upd H a (.ins C dx [("tokens", .ref tl), ("at", .int ((i : Nat) + 1))])) a tl r.tail ∧ Ev a H (upd H a (.ins C dx [("tokens", .ref tl), ("at", .int ((i : Nat) + 1))])) := by
  obtain ⟨dx, i, rs, ts, h1, h2, h3, h4, h5, h6⟩ := h
  have ka : ∀ b o, (∀ C dx fs, o ≠ .ins C dx fs) → H b = some o → upd H a (.ins C dx [("tokens", .ref tl), ("at", .int ((i : Nat) + 1))]) b = some o := fun b o n e => by
    rw [upd_ne]
    · exact e
    · rintro rfl
      rw [h1] at e
      exact n _ _ _ (Option.some.inj e).symm
  refine ⟨dx, i, h1, ⟨dx, i + 1, rs, ts, upd_same, ka _ _ (fun _ _ _ z => by cases z) h2, paired_ev (a := a) ka h3, ?_, ht, h6⟩, fun b o n e => by rw [upd_ne n]; exact e⟩
  rw [h4, List.tail_drop]
end
end Pk
set_option Elab.async false
set_option linter.all false
set_option maxRecDepth 100000
set_option maxHeartbeats 4000000
namespace Pk
open PySem PySem.Spec PyProof.Rows L2 SX GxR Tk PySem.ErX
/-- a method whose own body passes errors on: what a callee lets out leaves -/
theorem passE {X : Cx} {E : XK} (tk : Takes X (fun cls d _ H => E cls d H)) : Passes (L2.CX X.prog X.w) X E := passes_call tk fun _ _ _ _ h => h
section
variable {P : Program} {w : World} {K : PySem.W.Frag} {mg : Str → Option Value} {base : Heap} {C cT : Addr}
theorem ok_rInit {f : Addr} {fd : FuncData} {k : Nat} (F : Fun K "__init__" "Reader.__init__" rInit f fd) (R : RdC K C) : FnOk P w K mg base CX0 (k + 1) f fd ["self", "tokens"] (sprInit C) := by
  refine F.ok scrInit (fun vs H Q E h => ?_) (fun cdv A outer s H vs Q E hr h => ?_)
  · obtain ⟨a, dx, tl, rfl, _⟩ := h
    rfl
  · obtain ⟨a, dx, tl, rfl, ha, q⟩ := h
    refine ⟨_, pss_cons (ps_fld (pv 0) (pv 1) rfl) (pss_one (ps_fld (pv 0) pe_int rfl)), ?_⟩
    refine ⟨_, rfl, _, rfl, a, C, dx, _, rfl, ha, R.cl, R.nT, by decide, _, rfl, a, C, dx, _, rfl, upd_same, R.cl, R.nA, (by show 1 < 1000; decide), ?_⟩
    have e : upd (upd H a (.ins C dx (putF "tokens" (.ref tl) []))) a (.ins C dx (putF "at" (.int 0) (putF "tokens" (.ref tl) []))) = upd H a (.ins C dx [("tokens", .ref tl), ("at", .int (0 : Nat))]) := by
      funext b
      by_cases hb : b = a
      · rw [hb, upd_same, upd_same]
        rfl
      · rw [upd_ne hb, upd_ne hb, upd_ne hb]
    show Q .non _
    rw [e]
    exact q
theorem ok_rKind {f : Addr} {fd : FuncData} {k : Nat} (F : Fun K "kind" "Reader.kind" rKind f fd) (R : RdC K C) : FnOk P w K mg base CX0 (k + 1) f fd ["self"] (sprKind C) := by
  refine F.ok scrKind (fun vs H Q E h => ?_) (fun cdv A outer s H vs Q E hr h => ?_)
  · obtain ⟨a, tl, r, rfl, _⟩ := h
    rfl
  · obtain ⟨a, tl, r, rfl, hR, q⟩ := h
    obtain ⟨dx, i, rs, qa, h1, h2, h3, h4, h5⟩ := rd_tok hR
    refine ⟨_, pss_one (ps_ret (pe_ix ix_tup (pe_ix ix_list (pe_fld (pv 0) rfl) (pe_fld (pv 0) rfl) (fun _ _ => rfl)) pe_int (fun _ _ => rfl))), ?_⟩
    exact ⟨_, rfl, a, C, dx, _, _, rfl, h1, R.cl, R.nT, rfl, _, rfl, a, C, dx, _, _, rfl, h1, R.cl, R.nA, rfl, tl, rs, _, _, rfl, rfl, h2, h3, qa, _, _, _, rfl, rfl, h4, atI_nat (j := 0) rfl, q⟩
theorem ok_rValue {f : Addr} {fd : FuncData} {k : Nat} (F : Fun K "value" "Reader.value" rValue f fd) (R : RdC K C) : FnOk P w K mg base CX0 (k + 1) f fd ["self"] (sprValue C) := by
  refine F.ok scrValue (fun vs H Q E h => ?_) (fun cdv A outer s H vs Q E hr h => ?_)
  · obtain ⟨a, tl, r, rfl, _⟩ := h
    rfl
  · obtain ⟨a, tl, r, rfl, hR, q⟩ := h
    obtain ⟨dx, i, rs, qa, h1, h2, h3, h4, h5⟩ := rd_tok hR
    refine ⟨_, pss_one (ps_ret (pe_ix ix_tup (pe_ix ix_list (pe_fld (pv 0) rfl) (pe_fld (pv 0) rfl) (fun _ _ => rfl)) pe_int (fun _ _ => rfl))), ?_⟩
    exact ⟨_, rfl, a, C, dx, _, _, rfl, h1, R.cl, R.nT, rfl, _, rfl, a, C, dx, _, _, rfl, h1, R.cl, R.nA, rfl, tl, rs, _, _, rfl, rfl, h2, h3, qa, _, _, _, rfl, rfl, h4, atI_nat (j := 1) rfl, q⟩
theorem ok_rFail {f : Addr} {fd : FuncData} {k : Nat} (F : Fun K "fail" "Reader.fail" rFail f fd) (R : RdC K C) (T : ErT P K mg "TextError" cT "line") : FnOk P w K mg base (L2.CX P w) (k + 1) f fd ["self"] (sprFail C cT) := by
  refine F.okX scrFail (fun vs H Q E h => ?_) (fun cdv A outer s H vs Q E hr h => ?_)
  · obtain ⟨a, tl, r, rfl, _⟩ := h
    rfl
  · obtain ⟨a, tl, r, rfl, hR, q⟩ := h
    obtain ⟨dx, i, rs, qa, h1, h2, h3, h4, h5⟩ := rd_tok hR
    refine ⟨_, pss_one (ps_raiseE rfl T hr (takes_of rfl rfl rfl rfl) (pa_cons (pe_ix ix_tup (pe_ix ix_list (pe_fld (pv 0) rfl) (pe_fld (pv 0) rfl) (fun _ _ => rfl)) pe_int (fun _ _ => rfl)) pa_nil)), ?_⟩
    exact ⟨_, rfl, a, C, dx, _, _, rfl, h1, R.cl, R.nT, rfl, _, rfl, a, C, dx, _, _, rfl, h1, R.cl, R.nA, rfl, tl, rs, _, _, rfl, rfl, h2, h3, qa, _, _, _, rfl, rfl, h4, atI_nat (j := 2) rfl, _, rfl, ev_nat h5, fun d hd => q _ d (same_new hd) upd_same⟩
theorem tv_scal {v : V} {w : Str} (h : TV v) : scal v (.str w) = true := by
  rcases h with ⟨x, rfl⟩ | ⟨n, rfl⟩ <;> rfl
theorem ok_rSkip {f : Addr} {fd : FuncData} {k : Nat} (F : Fun K "skip" "Reader.skip" rSkip f fd) (R : RdC K C) (MV : Mt P w K mg base CX0 (k + 1) C "value" ["self"] (sprValue C)) : FnOk P w K mg base CX0 (k + 2) f fd ["self", "word"] (sprSkip C) := by
  obtain ⟨fV, fdV, GV, mV, bV⟩ := MV.ex
  refine F.ok scrSkip (fun vs H Q E h => ?_) (fun cdv A outer s H vs Q E hr h => ?_)
  · obtain ⟨a, tl, r, w, rfl, _⟩ := h
    rfl
  · obtain ⟨a, tl, r, w, rfl, hw, hR, q⟩ := h
    refine ⟨_, pss_cons (ps_if (pt_cmpR op_ne (pe_meth0 (pv 0) R.cl mV GV hr bV .nil pass0) (pv 1) (nomark _)) (pss_one (ps_ret pe_bl)) pss_nil)
      (pss_cons (ps_fldaug (pv 0) pe_int in_add) (pss_one (ps_ret pe_bl))), ?_⟩
    have hRR := hR
    obtain ⟨dx0, i0, rs0, ts0, g1, g2, g3, g4, g5, g6⟩ := hR
    refine ⟨_, rfl, a, dx0, _, rfl, g1, rfl, a, tl, r, rfl, hRR, _, rfl, tv_scal g5.val, _, rfl, ?_⟩
    have e0 : wordAt w r = decide (valAt r = .str w) := rfl
    rw [← e0]
    cases hc : wordAt w r with
    | false =>
      refine iteT ?_
      rw [hc] at q
      refine q H (Ev.refl _ _) ?_
      unfold mSkip
      rw [hc, if_neg Bool.false_ne_true]
      exact hRR
    | true =>
      refine iteF ?_
      rw [hc] at q
      obtain ⟨dx, i, h1, h2, h3⟩ := rd_on hRR (g5.word hw hc)
      refine ⟨_, rfl, a, C, dx, _, _, rfl, h1, R.cl, R.nA, rfl, _, _, rfl, rfl, dx, _, h1, (by show 2 < 1000; decide), ?_⟩
      refine q _ h3 ?_
      unfold mSkip
      rw [hc, if_pos rfl]
      exact h2
theorem ok_rTake {f : Addr} {fd : FuncData} {k : Nat} (F : Fun K "take" "Reader.take" rTake f fd) (R : RdC K C) (MS : Mt P w K mg base CX0 (k + 2) C "skip" ["self", "word"] (sprSkip C)) (MF : Mt P w K mg base (L2.CX P w) (k + 1) C "fail" ["self"] (sprFail C cT)) :
    FnOk P w K mg base (L2.CX P w) (k + 3) f fd ["self", "word"] (sprTake C cT) := by
  obtain ⟨fS, fdS, GS, mS, bS⟩ := MS.ex
  obtain ⟨fF, fdF, GF, mF, bF⟩ := MF.ex
  refine F.okX scrTake (fun vs H Q E h => ?_) (fun cdv A outer s H vs Q E hr h => ?_)
  · obtain ⟨a, tl, r, w, rfl, _⟩ := h
    rfl
  · obtain ⟨a, tl, r, w, rfl, hw, hR, q⟩ := h
    have hr1 : Room (k + 1) _ := hr.mono (by omega)
    refine ⟨_, pss_one (ps_if (pt_not (pt_val (pe_meth (pv 0) R.cl mS GS hr bS .nil pass0 (pa_cons (pv 1) pa_nil)) (by intro _; rfl))) (pss_one (ps_expr (pe_meth0 (pv 0) R.cl mF GF hr1 bF .nil (passE (takes_of rfl rfl rfl rfl))))) pss_nil), ?_⟩
    have hRR := hR
    obtain ⟨dx0, i0, rs0, ts0, g1, _⟩ := hR
    refine ⟨_, rfl, a, dx0, _, rfl, g1, rfl, _, rfl, a, tl, r, w, rfl, hw, hRR, fun H1 ev1 hR1 => ⟨_, rfl, ?_⟩⟩
    unfold mTake at q
    cases hc : wordAt w r with
    | true =>
      rw [hc, if_pos rfl] at q
      unfold mSkip at hR1
      rw [hc, if_pos rfl] at hR1
      exact iteF (q H1 ev1 hR1)
    | false =>
      rw [hc, if_neg Bool.false_ne_true] at q
      unfold mSkip at hR1
      rw [hc, if_neg Bool.false_ne_true] at hR1
      have hRR1 := hR1
      obtain ⟨dx1, i1, rs1, ts1, j1, _⟩ := hR1
      exact iteT ⟨_, rfl, a, dx1, _, rfl, j1, rfl, a, tl, r, rfl, hRR1, fun H' x s hx => q H' x (ev1.trans (Ev.same s)) hx⟩
theorem ok_rTakeK {f : Addr} {fd : FuncData} {k : Nat} (F : Fun K "take_kind" "Reader.take_kind" rTakeK f fd) (R : RdC K C) (MK : Mt P w K mg base CX0 (k + 1) C "kind" ["self"] (sprKind C)) (MV : Mt P w K mg base CX0 (k + 1) C "value" ["self"] (sprValue C)) (MF : Mt P w K mg base (L2.CX P w) (k + 1) C "fail" ["self"] (sprFail C cT)) :
    FnOk P w K mg base (L2.CX P w) (k + 2) f fd ["self", "kind"] (sprTakeK C cT) := by
  obtain ⟨fK, fdK, GK, mK, bK⟩ := MK.ex
  obtain ⟨fV, fdV, GV, mV, bV⟩ := MV.ex
  obtain ⟨fF, fdF, GF, mF, bF⟩ := MF.ex
  refine F.okX scrTakeK (fun vs H Q E h => ?_) (fun cdv A outer s H vs Q E hr h => ?_)
  · obtain ⟨a, tl, r, w, rfl, _⟩ := h
    rfl
  · obtain ⟨a, tl, r, w, rfl, hw, hR, q⟩ := h
    have nd := scrTakeK.nd
    refine ⟨_, pss_cons (ps_if (pt_cmpR op_ne (pe_meth0 (pv 0) R.cl mK GK hr bK .nil pass0) (pv 1) (nomark _)) (pss_one (ps_expr (pe_meth0 (pv 0) R.cl mF GF hr bF .nil (passE (takes_of rfl rfl rfl rfl))))) pss_nil)
      (pss_cons (ps_set (i := 2) nd rfl (.inl rfl) (pe_meth0 (pv 0) R.cl mV GV hr bV .nil pass0))
      (pss_cons (ps_fldaug (pv 0) pe_int in_add) (pss_one (ps_ret (pv 2))))), ?_⟩
    have hRR := hR
    obtain ⟨dx0, i0, rs0, ts0, g1, g2, g3, g4, g5, g6⟩ := hR
    refine ⟨_, rfl, a, dx0, _, rfl, g1, rfl, a, tl, r, rfl, hRR, _, rfl, rfl, _, rfl, ?_⟩
    unfold mKind at q
    by_cases hc : kindAt r = w
    · rw [if_pos hc] at q
      rw [hc, decide_eq_true rfl]
      refine iteF ⟨_, rfl, a, dx0, _, rfl, g1, rfl, a, tl, r, rfl, hRR, ?_⟩
      obtain ⟨dx, i, h1, h2, h3⟩ := rd_on hRR (g5.tl (.inl fun z => hw (by rw [← hc, z])))
      exact ⟨_, rfl, a, C, dx, _, _, rfl, h1, R.cl, R.nA, rfl, _, _, rfl, rfl, dx, _, h1, (by show 2 < 1000; decide), _, rfl, q _ h3 h2⟩
    · rw [if_neg hc] at q
      rw [decide_eq_false (fun z => hc (V.str.inj z))]
      exact iteT ⟨_, rfl, a, dx0, _, rfl, g1, rfl, a, tl, r, rfl, hRR, fun H' x s hx => q H' x (Ev.same s) hx⟩
theorem ok_rName {f : Addr} {fd : FuncData} {k : Nat} (F : Fun K "take_name" "Reader.take_name" rName f fd) (R : RdC K C) (MT : Mt P w K mg base (L2.CX P w) (k + 2) C "take_kind" ["self", "kind"] (sprTakeK C cT)) : FnOk P w K mg base (L2.CX P w) (k + 3) f fd ["self"] (sprName C cT) := by
  obtain ⟨fK, fdK, GK, mK, bK⟩ := MT.ex
  refine F.okX scrName (fun vs H Q E h => ?_) (fun cdv A outer s H vs Q E hr h => ?_)
  · obtain ⟨a, tl, r, rfl, _⟩ := h
    rfl
  · obtain ⟨a, tl, r, rfl, hR, q⟩ := h
    refine ⟨_, pss_one (ps_ret (pe_meth (pv 0) R.cl mK GK hr bK .nil (passE (takes_of rfl rfl rfl rfl)) (pa_cons pe_str pa_nil))), ?_⟩
    have hRR := hR
    obtain ⟨dx0, i0, rs0, ts0, g1, _⟩ := hR
    exact ⟨_, rfl, a, dx0, _, rfl, g1, rfl, a, tl, r, _, rfl, by decide +kernel, hRR, q⟩
theorem ok_rNumber {f : Addr} {fd : FuncData} {k : Nat} (F : Fun K "take_number" "Reader.take_number" rNumber f fd) (R : RdC K C) (MT : Mt P w K mg base (L2.CX P w) (k + 2) C "take_kind" ["self", "kind"] (sprTakeK C cT)) : FnOk P w K mg base (L2.CX P w) (k + 3) f fd ["self"] (sprNumber C cT) := by
  obtain ⟨fK, fdK, GK, mK, bK⟩ := MT.ex
  refine F.okX scrNumber (fun vs H Q E h => ?_) (fun cdv A outer s H vs Q E hr h => ?_)
  · obtain ⟨a, tl, r, rfl, _⟩ := h
    rfl
  · obtain ⟨a, tl, r, rfl, hR, q⟩ := h
    refine ⟨_, pss_one (ps_ret (pe_meth (pv 0) R.cl mK GK hr bK .nil (passE (takes_of rfl rfl rfl rfl)) (pa_cons pe_str pa_nil))), ?_⟩
    have hRR := hR
    obtain ⟨dx0, i0, rs0, ts0, g1, _⟩ := hR
    exact ⟨_, rfl, a, dx0, _, rfl, g1, rfl, a, tl, r, _, rfl, by decide +kernel, hRR, q⟩
theorem ok_rEnd {f : Addr} {fd : FuncData} {k : Nat} (F : Fun K "check_end" "Reader.check_end" rEnd f fd) (R : RdC K C) (MK : Mt P w K mg base CX0 (k + 1) C "kind" ["self"] (sprKind C)) (MF : Mt P w K mg base (L2.CX P w) (k + 1) C "fail" ["self"] (sprFail C cT)) :
    FnOk P w K mg base (L2.CX P w) (k + 2) f fd ["self"] (sprEnd C cT) := by
  obtain ⟨fK, fdK, GK, mK, bK⟩ := MK.ex
  obtain ⟨fF, fdF, GF, mF, bF⟩ := MF.ex
  refine F.okX scrEnd (fun vs H Q E h => ?_) (fun cdv A outer s H vs Q E hr h => ?_)
  · obtain ⟨a, tl, r, rfl, _⟩ := h
    rfl
  · obtain ⟨a, tl, r, rfl, hR, q⟩ := h
    refine ⟨_, pss_one (ps_if (pt_cmpR op_ne (pe_meth0 (pv 0) R.cl mK GK hr bK .nil pass0) pe_str (nomark _)) (pss_one (ps_expr (pe_meth0 (pv 0) R.cl mF GF hr bF .nil (passE (takes_of rfl rfl rfl rfl))))) pss_nil), ?_⟩
    have hRR := hR
    obtain ⟨dx0, i0, rs0, ts0, g1, _⟩ := hR
    refine ⟨_, rfl, a, dx0, _, rfl, g1, rfl, a, tl, r, rfl, hRR, rfl, _, rfl, ?_⟩
    unfold mEnd at q
    by_cases hc : kindAt r = Str.ofString "end"
    · rw [if_pos hc] at q
      rw [decide_eq_true (congrArg V.str hc)]
      exact iteF (q H (Ev.refl _ _) hRR)
    · rw [if_neg hc] at q
      rw [decide_eq_false (fun z => hc (V.str.inj z))]
      exact iteT ⟨_, rfl, a, dx0, _, rfl, g1, rfl, a, tl, r, rfl, hRR, fun H' x s hx => q H' x (Ev.same s) hx⟩
theorem tv_flat {v : V} (h : TV v) : flatV v = true := by
  rcases h with ⟨x, rfl⟩ | ⟨n, rfl⟩ <;> rfl
theorem inV_mem {v : V} (ws : List Str) (h : TV v) (e : inV v (ws.map V.str) = true) : ∃ x ∈ ws, v = .str x := by
  rcases h with ⟨x, rfl⟩ | ⟨n, rfl⟩
  · rw [inV_strs] at e
    exact ⟨x, of_decide_eq_true e, rfl⟩
  · rw [inV_int] at e
    cases e
theorem ok_rOne {f : Addr} {fd : FuncData} {k : Nat} (F : Fun K "take_one" "Reader.take_one" rOne f fd) (R : RdC K C) (MV : Mt P w K mg base CX0 (k + 1) C "value" ["self"] (sprValue C)) (MF : Mt P w K mg base (L2.CX P w) (k + 1) C "fail" ["self"] (sprFail C cT)) :
    FnOk P w K mg base (L2.CX P w) (k + 2) f fd ["self", "words"] (sprOne K C cT) := by
  obtain ⟨fV, fdV, GV, mV, bV⟩ := MV.ex
  obtain ⟨fF, fdF, GF, mF, bF⟩ := MF.ex
  refine F.okX scrOne (fun vs H Q E h => ?_) (fun cdv A outer s H vs Q E hr h => ?_)
  · obtain ⟨a, tl, p, r, ws, rfl, _⟩ := h
    rfl
  · obtain ⟨a, tl, p, r, ws, rfl, hp, hw, hR, q⟩ := h
    have nd := scrOne.nd
    refine ⟨_, pss_cons (ps_set (i := 2) nd rfl (.inl rfl) (pe_meth0 (pv 0) R.cl mV GV hr bV .nil pass0))
      (pss_cons (ps_if (pt_cmpR op_notIn_seq (pv 2) (pv 1) (by rfl)) (pss_one (ps_expr (pe_meth0 (pv 0) R.cl mF GF hr bF .nil (passE (takes_of rfl rfl rfl rfl))))) pss_nil)
      (pss_cons (ps_fldaug (pv 0) pe_int in_add) (pss_one (ps_ret (pv 2))))), ?_⟩
    have hRR := hR
    obtain ⟨dx0, i0, rs0, ts0, g1, g2, g3, g4, g5, g6⟩ := hR
    refine ⟨_, rfl, a, dx0, _, rfl, g1, rfl, a, tl, r, rfl, hRR, _, rfl, _, rfl, p, _, rfl, .inr (hp.at _), tv_flat g5.val, flat_strs _, _, rfl, ?_⟩
    unfold mOne at q
    cases hc : inV (valAt r) (ws.map V.str) with
    | true =>
      rw [hc, if_pos rfl] at q
      obtain ⟨x, hx, hv⟩ := inV_mem ws g5.val hc
      refine iteF ?_
      obtain ⟨dx, i, h1, h2, h3⟩ := rd_on hRR (g5.tl (.inr fun z => by
        rw [hv] at z
        exact hw (by rw [← V.str.inj z]; exact hx)))
      exact ⟨_, rfl, a, C, dx, _, _, rfl, h1, R.cl, R.nA, rfl, _, _, rfl, rfl, dx, _, h1, (by show 2 < 1000; decide), _, rfl, q _ h3 h2⟩
    | false =>
      rw [hc, if_neg Bool.false_ne_true] at q
      exact iteT ⟨_, rfl, a, dx0, _, rfl, g1, rfl, a, tl, r, rfl, hRR, fun H' x s hx => q H' x (Ev.same s) hx⟩
end
end Pk
set_option Elab.async false
set_option linter.all false
set_option maxRecDepth 100000
set_option maxHeartbeats 4000000
namespace Tk
open PySem L2 SX
abbrev Rs := Except Nat (PyData × Rem)
abbrev RsL := Except Nat (List PyData × Rem)
def bd {α β : Type} (x : Except Nat α) (f : α → Except Nat β) : Except Nat β := match x with
  | .error l => .error l
  | .ok a => f a
theorem bd_ok {α β : Type} {a : α} {f : α → Except Nat β} : bd (.ok a) f = f a := rfl
theorem bd_err {α β : Type} {l : Nat} {f : α → Except Nat β} : bd (.error l : Except Nat α) f = .error l := rfl
theorem bd_inv {α β : Type} {x : Except Nat α} {f : α → Except Nat β} {b : β} (h : bd x f = .ok b) : ∃ a, x = .ok a ∧ f a = .ok b := by
  cases x with
  | error l => cases h
  | ok a => exact ⟨a, rfl, h⟩
/-- while not reader.skip(stop): .. -/
def mLoop (stop : Str) (step : Rem → Rs) : Nat → Rem → RsL
  | 0, r => .error (lineAt r)
  | f + 1, r => if wordAt stop r = true then .ok ([], r.tail) else bd (step r) fun p => bd (mLoop stop step f p.2) fun q => .ok (p.1 :: q.1, q.2)
/-- while reader.skip(word): .. -/
def mMany (word : Str) (step : Rem → Rs) : Nat → Rem → RsL
  | 0, r => .error (lineAt r)
  | f + 1, r => if wordAt word r = true then bd (step r.tail) fun p => bd (mMany word step f p.2) fun q => .ok (p.1 :: q.1, q.2) else .ok ([], r)
theorem mLoop_s (stop : Str) (step : Rem → Rs) (f : Nat) (r : Rem) : mLoop stop step (f + 1) r = if wordAt stop r = true then .ok ([], r.tail) else bd (step r) fun p => bd (mLoop stop step f p.2) fun q => .ok (p.1 :: q.1, q.2) := by rw [mLoop]
theorem mMany_s (word : Str) (step : Rem → Rs) (f : Nat) (r : Rem) : mMany word step (f + 1) r = if wordAt word r = true then bd (step r.tail) fun p => bd (mMany word step f p.2) fun q => .ok (p.1 :: q.1, q.2) else .ok ([], r) := by rw [mMany]
/-- what a part leaves is shorter -/
def Short (m : Rem → Rs) : Prop := ∀ r d r2, m r = .ok (d, r2) → r2.length < r.length
theorem tail_lt {r : Rem} (h : r ≠ []) : r.tail.length < r.length := by
  cases r with
  | nil => exact absurd rfl h
  | cons t r => exact Nat.lt_succ_self _
theorem word_ne {w : Str} {r : Rem} (h : wordAt w r = true) : r ≠ [] := by
  rintro rfl
  have : decide (V.non = .str w) = true := h
  exact absurd (of_decide_eq_true this) fun z => by cases z
theorem take_lt {w : Str} {r r2 : Rem} (h : mTake w r = .ok r2) : r2.length < r.length := by
  unfold mTake at h
  split at h
  · rename_i c
    cases h
    exact tail_lt (word_ne c)
  · cases h
theorem kind_lt {k : Str} {r r2 : Rem} {v : V} (hk : k ≠ Str.empty) (h : mKind k r = .ok (v, r2)) : r2.length < r.length := by
  unfold mKind at h
  split at h
  · rename_i c
    cases h
    refine tail_lt fun z => hk ?_
    rw [z] at c
    exact c.symm
  · cases h
theorem name_lt {r r2 : Rem} {v : V} (h : mName r = .ok (v, r2)) : r2.length < r.length := kind_lt (by decide +kernel) h
theorem num_lt {r r2 : Rem} {v : V} (h : mNum r = .ok (v, r2)) : r2.length < r.length := kind_lt (by decide +kernel) h
theorem one_lt {ws : List Str} {r r2 : Rem} {v : V} (h : mOne ws r = .ok (v, r2)) : r2.length < r.length := by
  unfold mOne at h
  split at h
  · rename_i c
    cases h
    refine tail_lt fun z => ?_
    rw [z] at c
    have key : ∀ ws : List Str, inV .non (ws.map V.str) = false := by
      intro ws
      induction ws with
      | nil => rfl
      | cons a ws ih =>
        show (inV .non ([V.str a] ++ ws.map V.str)) = false
        unfold inV at ih ⊢
        rw [List.any_append, ih]
        rfl
    have c' : inV .non (ws.map V.str) = true := c
    rw [key] at c'
    cases c'
  · cases h
theorem loop_lt {stop : Str} {step : Rem → Rs} (hs : Short step) : ∀ (f : Nat) (r : Rem) (ds : List PyData) (r2 : Rem), mLoop stop step f r = .ok (ds, r2) → r2.length < r.length
  | 0, _, _, _, h => by cases h
  | f + 1, r, ds, r2, h => by
    rw [mLoop_s] at h
    split at h
    · rename_i c
      cases h
      exact tail_lt (word_ne c)
    · obtain ⟨p, h1, h⟩ := bd_inv h
      obtain ⟨q, h2, h⟩ := bd_inv h
      cases h
      have := loop_lt hs f _ _ _ h2
      have := hs _ _ _ h1
      omega
theorem manyR_le {word : Str} {step : Rem → Rs} (hs : Short step) : ∀ (f : Nat) (r : Rem) (ds : List PyData) (r2 : Rem), mMany word step f r = .ok (ds, r2) → r2.length ≤ r.length
  | 0, _, _, _, h => by cases h
  | f + 1, r, ds, r2, h => by
    rw [mMany_s] at h
    split at h
    · rename_i c
      obtain ⟨p, h1, h⟩ := bd_inv h
      obtain ⟨q, h2, h⟩ := bd_inv h
      cases h
      have := manyR_le hs f _ _ _ h2
      have := hs _ _ _ h1
      have := tail_lt (word_ne c)
      omega
    · cases h
      exact Nat.le_refl _
def endTargets : List Str := ["accept", "reject"].map Str.ofString
def ownerWords : List Str := ["meta", "packet"].map Str.ofString
def operators : List Str := ["+", "-", "&", "|", "^"].map Str.ofString
def keyKinds : List Str := ["exact", "mask", "prefix"].map Str.ofString
def comparisons : List Str := ["==", "<"].map Str.ofString
def mWidth (r : Rem) : Rs := bd (mName r) fun n => bd (mTake ":" n.2) fun r => bd (mNum r) fun m => .ok (.tuple [tvD n.1, tvD m.1], m.2)
def mFieldStep (r : Rem) : Rs := bd (mWidth r) fun p => bd (mTake ";" p.2) fun r => .ok (p.1, r)
def mFields (r : Rem) : RsL := bd (mTake "{" r) fun r => mLoop "}" mFieldStep (r.length + 1) r
def mHeader (r : Rem) : Rs := bd (mName r) fun n => bd (mFields n.2) fun p => .ok (.tuple [.str "header", tvD n.1, .list p.1], p.2)
def mTargetV (r : Rem) : Except Nat (V × Rem) := if inV (valAt r) (endTargets.map V.str) = true then mOne endTargets r else mName r
def mOwnerV (r : Rem) : Except Nat (V × Rem) := if inV (valAt r) (ownerWords.map V.str) = true then mOne ownerWords r else mName r
def mField (r : Rem) : Rs := bd (mOwnerV r) fun o => bd (mTake "." o.2) fun r => bd (mName r) fun n => .ok (.tuple [tvD o.1, tvD n.1], n.2)
def mOpt (word : Str) (m : Rem → Rs) (r : Rem) : Rs := if wordAt word r = true then m r.tail else .ok (.none, r)
def mNumD (r : Rem) : Rs := bd (mNum r) fun p => .ok (tvD p.1, p.2)
def mNameD (r : Rem) : Rs := bd (mName r) fun p => .ok (tvD p.1, p.2)
def mNameS (r : Rem) : Rs := bd (mName r) fun p => bd (mTake ";" p.2) fun r => .ok (tvD p.1, r)
def mRow (r : Rem) : Rs := bd (mNum r) fun v => bd (mOpt "&" mNumD v.2) fun m => bd (mTake "->" m.2) fun r => bd (mTargetV r) fun t => bd (mTake ";" t.2) fun r => .ok (.tuple [tvD v.1, m.1, tvD t.1], r)
def mSelEnd (r : Rem) : Except Nat (V × Rem) := bd (mTake "->" r) fun r => bd (mTargetV r) fun t => bd (mTake ";" t.2) fun r => bd (mTake "}" r) fun r => .ok (t.1, r)
def mWay (r : Rem) : Rs := if wordAt "go" r = true then bd (mTargetV r.tail) fun t => bd (mTake ";" t.2) fun r => .ok (.tuple [.str "go", tvD t.1], r)
  else bd (mTake "select" r) fun r => bd (mField r) fun f => bd (mTake "{" f.2) fun r => bd (mLoop "else" mRow (r.length + 1) r) fun rows => bd (mSelEnd rows.2) fun t => .ok (.tuple [.str "select", f.1, .list rows.1, tvD t.1], t.2)
def mState (r : Rem) : Rs := bd (mTake "state" r) fun r => bd (mName r) fun n => bd (mTake "{" n.2) fun r => bd (mOpt "extract" mNameS r) fun h => bd (mWay h.2) fun w => bd (mTake "}" w.2) fun r => .ok (.tuple [.str "state", tvD n.1, h.1, w.1], r)
def mStates (r : Rem) : RsL := bd (mTake "{" r) fun r => mLoop "}" mState (r.length + 1) r
def mListIn (o c : Str) (step : Rem → Rs) (r : Rem) : RsL := bd (mTake o r) fun r => if wordAt c r = true then .ok ([], r.tail) else bd (step r) fun p => bd (mMany "," step (p.2.length + 1) p.2) fun q => bd (mTake c q.2) fun r => .ok (p.1 :: q.1, r)
def mParams : Rem → RsL := mListIn "(" ")" mWidth
def mArgs : Rem → RsL := mListIn "(" ")" mNumD
def mOperand (r : Rem) : Rs := if kindAt r = Str.ofString "number" then bd (mNum r) fun n => .ok (.tuple [.str "num", tvD n.1], n.2)
  else bd (mOwnerV r) fun o => if (!inV o.1 (ownerWords.map V.str) && !wordAt "." o.2) = true then .ok (.tuple [.str "param", tvD o.1], o.2) else bd (mTake "." o.2) fun r => bd (mName r) fun n => .ok (.tuple [.str "field", tvD o.1, tvD n.1], n.2)
def mExpr (r : Rem) : Rs := bd (mOperand r) fun x => if inV (valAt x.2) (operators.map V.str) = true then bd (mOne operators x.2) fun o => bd (mOperand o.2) fun y => .ok (.tuple [tvD o.1, x.1, y.1], y.2) else .ok (x.1, x.2)
def mOper0 (r : Rem) : Rs := if wordAt "send" r = true then bd (mExpr r.tail) fun e => .ok (.tuple [.str "send", e.1], e.2)
  else if wordAt "drop" r = true then .ok (.tuple [.str "drop"], r.tail)
  else if wordAt "add" r = true then bd (mName r.tail) fun n => .ok (.tuple [.str "add", tvD n.1], n.2)
  else if wordAt "remove" r = true then bd (mName r.tail) fun n => .ok (.tuple [.str "remove", tvD n.1], n.2)
  else bd (mField r) fun f => bd (mTake "=" f.2) fun r => bd (mExpr r) fun e => .ok (.tuple [.str "set", f.1, e.1], e.2)
def mOper (r : Rem) : Rs := bd (mOper0 r) fun o => bd (mTake ";" o.2) fun r => .ok (o.1, r)
def mAction (r : Rem) : Rs := bd (mName r) fun n => bd (mParams n.2) fun p => bd (mTake "{" p.2) fun r => bd (mLoop "}" mOper (r.length + 1) r) fun q => .ok (.tuple [.str "action", tvD n.1, .list p.1, .list q.1], q.2)
def mKey (r : Rem) : Rs := bd (mField r) fun f => bd (mOne keyKinds f.2) fun k => bd (mTake ";" k.2) fun r => .ok (.tuple [f.1, tvD k.1], r)
def mDefault (r : Rem) : Rs := bd (mTake "default" r) fun r => bd (mName r) fun n => bd (mArgs n.2) fun p => bd (mTake ";" p.2) fun r => .ok (.tuple [tvD n.1, .list p.1], r)
def mTable (r : Rem) : Rs := bd (mName r) fun n => bd (mTake "{" n.2) fun r => bd (mMany "key" mKey (r.length + 1) r) fun ks => bd (mMany "use" mNameS (ks.2.length + 1) ks.2) fun us => bd (mDefault us.2) fun d => bd (mTake "size" d.2) fun r => bd (mNum r) fun z =>
  bd (mTake ";" z.2) fun r => bd (mTake "}" r) fun r => .ok (.tuple [.str "table", tvD n.1, .list ks.1, .list us.1, d.1, tvD z.1], r)
def mCmp (r : Rem) : Rs := if wordAt "valid" r = true then bd (mName r.tail) fun n => .ok (.tuple [.str "valid", tvD n.1], n.2) else bd (mField r) fun f => bd (mOne comparisons f.2) fun s => bd (mNum s.2) fun n => .ok (.tuple [tvD s.1, f.1, tvD n.1], n.2)
def mNots : Nat → Rem → Nat × Rem
  | 0, r => (0, r)
  | n + 1, r => if wordAt "not" r = true then ((mNots n r.tail).1 + 1, (mNots n r.tail).2) else (0, r)
def wrapN : Nat → PyData → PyData
  | 0, d => d
  | n + 1, d => .tuple [.str "not", wrapN n d]
def mCond (r : Rem) : Rs := bd (mCmp (mNots 8 r).2) fun c => .ok (wrapN (mNots 8 r).1 c.1, c.2)
def mStmt (blk : Rem → RsL) (r : Rem) : Rs := if wordAt "apply" r = true then bd (mName r.tail) fun n => bd (mTake ";" n.2) fun r => .ok (.tuple [.str "apply", tvD n.1], r)
  else bd (mTake "if" r) fun r => bd (mCond r) fun c => bd (blk c.2) fun t => bd (if wordAt "else" t.2 = true then blk t.2.tail else .ok ([], t.2)) fun e => .ok (.tuple [.str "if", c.1, .list t.1, .list e.1], e.2)
def mBlock : Nat → Rem → RsL
  | 0, r => .error (lineAt r)
  | n + 1, r => bd (mTake "{" r) fun r => mLoop "}" (mStmt (mBlock n)) (r.length + 1) r
def mEmits (r : Rem) : RsL := bd (mName r) fun n => bd (mMany "," mNameD (n.2.length + 1) n.2) fun q => bd (mTake ";" q.2) fun r => .ok (tvD n.1 :: q.1, r)
def mProgram (r : Rem) : Rs := bd (mTake "program" r) fun r => bd (mName r) fun n => bd (mMany "header" mHeader (n.2.length + 1) n.2) fun hs => bd (if wordAt "meta" hs.2 = true then mFields hs.2.tail else .ok ([], hs.2)) fun ms =>
  bd (mTake "parser" ms.2) fun r => bd (mStates r) fun ss => bd (mMany "action" mAction (ss.2.length + 1) ss.2) fun as => bd (mMany "table" mTable (as.2.length + 1) as.2) fun ts => bd (mTake "control" ts.2) fun r => bd (mBlock 8 r) fun cs =>
  bd (if wordAt "emit" cs.2 = true then mEmits cs.2.tail else .ok ([], cs.2)) fun es => bd (mEnd es.2) fun r => .ok (.tuple [.str "program", tvD n.1, .list hs.1, .list ms.1, .list ss.1, .list as.1, .list ts.1, .list cs.1, .list es.1], r)
theorem width_short : Short mWidth := fun r d r2 h => by
  obtain ⟨n, h1, h⟩ := bd_inv h
  obtain ⟨x, h2, h⟩ := bd_inv h
  obtain ⟨m, h3, h⟩ := bd_inv h
  cases h
  have := name_lt h1
  have := take_lt h2
  have := num_lt h3
  omega
theorem fieldStep_short : Short mFieldStep := fun r d r2 h => by
  obtain ⟨n, h1, h⟩ := bd_inv h
  obtain ⟨x, h2, h⟩ := bd_inv h
  cases h
  have := width_short _ _ _ h1
  have := take_lt h2
  omega
theorem target_lt {r r2 : Rem} {v : V} (h : mTargetV r = .ok (v, r2)) : r2.length < r.length := by
  unfold mTargetV at h
  split at h
  · exact one_lt h
  · exact name_lt h
theorem owner_lt {r r2 : Rem} {v : V} (h : mOwnerV r = .ok (v, r2)) : r2.length < r.length := by
  unfold mOwnerV at h
  split at h
  · exact one_lt h
  · exact name_lt h
theorem opt_le {w : Str} {m : Rem → Rs} (hm : Short m) {r r2 : Rem} {d : PyData} (h : mOpt w m r = .ok (d, r2)) : r2.length ≤ r.length := by
  unfold mOpt at h
  split at h
  · rename_i c
    have := hm _ _ _ h
    have := tail_lt (word_ne c)
    omega
  · cases h
    exact Nat.le_refl _
theorem numD_short : Short mNumD := fun r d r2 h => by
  obtain ⟨n, h1, h⟩ := bd_inv h
  cases h
  exact num_lt h1
theorem nameD_short : Short mNameD := fun r d r2 h => by
  obtain ⟨n, h1, h⟩ := bd_inv h
  cases h
  exact name_lt h1
theorem nameS_short : Short mNameS := fun r d r2 h => by
  obtain ⟨n, h1, h⟩ := bd_inv h
  obtain ⟨x, h2, h⟩ := bd_inv h
  cases h
  have := name_lt h1
  have := take_lt h2
  omega
theorem field_short : Short mField := fun r d r2 h => by
  obtain ⟨n, h1, h⟩ := bd_inv h
  obtain ⟨x, h2, h⟩ := bd_inv h
  obtain ⟨y, h3, h⟩ := bd_inv h
  cases h
  have := owner_lt h1
  have := take_lt h2
  have := name_lt h3
  omega
theorem fields_lt {r r2 : Rem} {ds : List PyData} (h : mFields r = .ok (ds, r2)) : r2.length < r.length := by
  obtain ⟨x, h2, h⟩ := bd_inv h
  have := take_lt h2
  have := loop_lt fieldStep_short _ _ _ _ h
  omega
theorem header_short : Short mHeader := fun r d r2 h => by
  obtain ⟨n, h1, h⟩ := bd_inv h
  obtain ⟨x, h2, h⟩ := bd_inv h
  cases h
  have := name_lt h1
  have := fields_lt h2
  omega
theorem row_short : Short mRow := fun r d r2 h => by
  obtain ⟨n, h1, h⟩ := bd_inv h
  obtain ⟨x, h2, h⟩ := bd_inv h
  obtain ⟨y, h3, h⟩ := bd_inv h
  obtain ⟨z, h4, h⟩ := bd_inv h
  obtain ⟨u, h5, h⟩ := bd_inv h
  cases h
  have := num_lt h1
  have := opt_le numD_short h2
  have := take_lt h3
  have := target_lt h4
  have := take_lt h5
  omega
theorem selEnd_lt {r r2 : Rem} {v : V} (h : mSelEnd r = .ok (v, r2)) : r2.length < r.length := by
  obtain ⟨y, h3, h⟩ := bd_inv h
  obtain ⟨z, h4, h⟩ := bd_inv h
  obtain ⟨u, h5, h⟩ := bd_inv h
  obtain ⟨w, h6, h⟩ := bd_inv h
  cases h
  have := take_lt h3
  have := target_lt h4
  have := take_lt h5
  have := take_lt h6
  omega
theorem way_short : Short mWay := fun r d r2 h => by
  unfold mWay at h
  split at h
  · rename_i c
    obtain ⟨z, h4, h⟩ := bd_inv h
    obtain ⟨u, h5, h⟩ := bd_inv h
    cases h
    have := target_lt h4
    have := take_lt h5
    have := tail_lt (word_ne c)
    omega
  · obtain ⟨y, h3, h⟩ := bd_inv h
    obtain ⟨z, h4, h⟩ := bd_inv h
    obtain ⟨u, h5, h⟩ := bd_inv h
    obtain ⟨w, h6, h⟩ := bd_inv h
    obtain ⟨x, h7, h⟩ := bd_inv h
    cases h
    have := take_lt h3
    have := field_short _ _ _ h4
    have := take_lt h5
    have := loop_lt row_short _ _ _ _ h6
    have := selEnd_lt h7
    omega
theorem state_short : Short mState := fun r d r2 h => by
  obtain ⟨n, h1, h⟩ := bd_inv h
  obtain ⟨x, h2, h⟩ := bd_inv h
  obtain ⟨y, h3, h⟩ := bd_inv h
  obtain ⟨z, h4, h⟩ := bd_inv h
  obtain ⟨u, h5, h⟩ := bd_inv h
  obtain ⟨w, h6, h⟩ := bd_inv h
  cases h
  have := take_lt h1
  have := name_lt h2
  have := take_lt h3
  have := opt_le nameS_short h4
  have := way_short _ _ _ h5
  have := take_lt h6
  omega
theorem listIn_lt {o c : Str} {step : Rem → Rs} (hs : Short step) {r r2 : Rem} {ds : List PyData} (h : mListIn o c step r = .ok (ds, r2)) : r2.length < r.length := by
  obtain ⟨x, h1, h⟩ := bd_inv h
  have h2 := take_lt h1
  split at h
  · rename_i cc
    cases h
    have := tail_lt (word_ne cc)
    omega
  · obtain ⟨y, h3, h⟩ := bd_inv h
    obtain ⟨z, h4, h⟩ := bd_inv h
    obtain ⟨u, h5, h⟩ := bd_inv h
    cases h
    have := hs _ _ _ h3
    have := manyR_le hs _ _ _ _ h4
    have := take_lt h5
    omega
theorem operand_short : Short mOperand := fun r d r2 h => by
  unfold mOperand at h
  split at h
  · obtain ⟨z, h4, h⟩ := bd_inv h
    cases h
    exact num_lt h4
  · obtain ⟨z, h4, h⟩ := bd_inv h
    have := owner_lt h4
    split at h
    · cases h
      omega
    · obtain ⟨u, h5, h⟩ := bd_inv h
      obtain ⟨w, h6, h⟩ := bd_inv h
      cases h
      have := take_lt h5
      have := name_lt h6
      omega
theorem expr_short : Short mExpr := fun r d r2 h => by
  obtain ⟨z, h4, h⟩ := bd_inv h
  have := operand_short _ _ _ h4
  split at h
  · obtain ⟨u, h5, h⟩ := bd_inv h
    obtain ⟨w, h6, h⟩ := bd_inv h
    cases h
    have := one_lt h5
    have := operand_short _ _ _ h6
    omega
  · cases h
    omega
theorem oper0_short : Short mOper0 := fun r d r2 h => by
  unfold mOper0 at h
  split at h
  · rename_i c
    obtain ⟨z, h4, h⟩ := bd_inv h
    cases h
    have := expr_short _ _ _ h4
    have := tail_lt (word_ne c)
    omega
  · split at h
    · rename_i c
      cases h
      exact tail_lt (word_ne c)
    · split at h
      · rename_i c
        obtain ⟨z, h4, h⟩ := bd_inv h
        cases h
        have := name_lt h4
        have := tail_lt (word_ne c)
        omega
      · split at h
        · rename_i c
          obtain ⟨z, h4, h⟩ := bd_inv h
          cases h
          have := name_lt h4
          have := tail_lt (word_ne c)
          omega
        · obtain ⟨z, h4, h⟩ := bd_inv h
          obtain ⟨u, h5, h⟩ := bd_inv h
          obtain ⟨w, h6, h⟩ := bd_inv h
          cases h
          have := field_short _ _ _ h4
          have := take_lt h5
          have := expr_short _ _ _ h6
          omega
theorem oper_short : Short mOper := fun r d r2 h => by
  obtain ⟨u, h5, h⟩ := bd_inv h
  obtain ⟨w, h6, h⟩ := bd_inv h
  cases h
  have := oper0_short _ _ _ h5
  have := take_lt h6
  omega
theorem action_short : Short mAction := fun r d r2 h => by
  obtain ⟨n, h1, h⟩ := bd_inv h
  obtain ⟨x, h2, h⟩ := bd_inv h
  obtain ⟨y, h3, h⟩ := bd_inv h
  obtain ⟨z, h4, h⟩ := bd_inv h
  cases h
  have := name_lt h1
  have := listIn_lt width_short h2
  have := take_lt h3
  have := loop_lt oper_short _ _ _ _ h4
  omega
theorem key_short : Short mKey := fun r d r2 h => by
  obtain ⟨n, h1, h⟩ := bd_inv h
  obtain ⟨x, h2, h⟩ := bd_inv h
  obtain ⟨y, h3, h⟩ := bd_inv h
  cases h
  have := field_short _ _ _ h1
  have := one_lt h2
  have := take_lt h3
  omega
theorem default_short : Short mDefault := fun r d r2 h => by
  obtain ⟨n, h1, h⟩ := bd_inv h
  obtain ⟨x, h2, h⟩ := bd_inv h
  obtain ⟨y, h3, h⟩ := bd_inv h
  obtain ⟨z, h4, h⟩ := bd_inv h
  cases h
  have := take_lt h1
  have := name_lt h2
  have := listIn_lt numD_short h3
  have := take_lt h4
  omega
theorem table_short : Short mTable := fun r d r2 h => by
  obtain ⟨n, h1, h⟩ := bd_inv h
  obtain ⟨x, h2, h⟩ := bd_inv h
  obtain ⟨y, h3, h⟩ := bd_inv h
  obtain ⟨z, h4, h⟩ := bd_inv h
  obtain ⟨u, h5, h⟩ := bd_inv h
  obtain ⟨w, h6, h⟩ := bd_inv h
  obtain ⟨i, h7, h⟩ := bd_inv h
  obtain ⟨j, h8, h⟩ := bd_inv h
  obtain ⟨k, h9, h⟩ := bd_inv h
  cases h
  have := name_lt h1
  have := take_lt h2
  have := manyR_le key_short _ _ _ _ h3
  have := manyR_le nameS_short _ _ _ _ h4
  have := default_short _ _ _ h5
  have := take_lt h6
  have := num_lt h7
  have := take_lt h8
  have := take_lt h9
  omega
theorem cmp_short : Short mCmp := fun r d r2 h => by
  unfold mCmp at h
  split at h
  · rename_i c
    obtain ⟨z, h4, h⟩ := bd_inv h
    cases h
    have := name_lt h4
    have := tail_lt (word_ne c)
    omega
  · obtain ⟨z, h4, h⟩ := bd_inv h
    obtain ⟨u, h5, h⟩ := bd_inv h
    obtain ⟨w, h6, h⟩ := bd_inv h
    cases h
    have := field_short _ _ _ h4
    have := one_lt h5
    have := num_lt h6
    omega
theorem nots_le : ∀ (n : Nat) (r : Rem), (mNots n r).2.length ≤ r.length
  | 0, _ => Nat.le_refl _
  | n + 1, r => by
    unfold mNots
    split
    · have := nots_le n r.tail
      rw [List.length_tail] at this
      show (mNots n r.tail).2.length ≤ _
      omega
    · exact Nat.le_refl _
theorem cond_short : Short mCond := fun r d r2 h => by
  obtain ⟨u, h5, h⟩ := bd_inv h
  cases h
  have := cmp_short _ _ _ h5
  have := nots_le 8 r
  omega
theorem stmt_short {blk : Rem → RsL} (hb : ∀ r ds r2, blk r = .ok (ds, r2) → r2.length < r.length) : Short (mStmt blk) := fun r d r2 h => by
  unfold mStmt at h
  split at h
  · rename_i c
    obtain ⟨z, h4, h⟩ := bd_inv h
    obtain ⟨u, h5, h⟩ := bd_inv h
    cases h
    have := name_lt h4
    have := take_lt h5
    have := tail_lt (word_ne c)
    omega
  · obtain ⟨z, h4, h⟩ := bd_inv h
    obtain ⟨u, h5, h⟩ := bd_inv h
    obtain ⟨w, h6, h⟩ := bd_inv h
    obtain ⟨i, h7, h⟩ := bd_inv h
    cases h
    have := take_lt h4
    have := cond_short _ _ _ h5
    have := hb _ _ _ h6
    split at h7
    · have := hb _ _ _ h7
      rw [List.length_tail] at this
      omega
    · cases h7
      show (w.2).length < r.length
      omega
theorem block_lt : ∀ (n : Nat) (r : Rem) (ds : List PyData) (r2 : Rem), mBlock n r = .ok (ds, r2) → r2.length < r.length
  | 0, _, _, _, h => by cases h
  | n + 1, r, ds, r2, h => by
    obtain ⟨z, h4, h⟩ := bd_inv h
    have := take_lt h4
    have := loop_lt (stmt_short (block_lt n)) _ _ _ _ h
    omega
end Tk
set_option Elab.async false
set_option linter.all false
set_option maxRecDepth 100000
set_option maxHeartbeats 4000000
namespace Pk
open PySem PySem.Spec PyProof.Rows L2 SX GxR Tk PySem.ErX
abbrev pHeader : Stmt := topS 35
abbrev pFields : Stmt := topS 36
abbrev pWidth : Stmt := topS 37
abbrev pTarget : Stmt := topS 43
abbrev pField : Stmt := topS 49
abbrev pOwner : Stmt := topS 50
section
variable {K : PySem.W.Frag} {C : Addr}
theorem lift {a tl : Addr} {r : Tk.Rem} {H0 H H1 H2 : Hp} {v : V} {d : PyData} (h0 : Ev a H0 H) (hR : Rd C H a tl r) (k : Ev a H1 H2) (h : Dr (New H H1) v d) : Dr (New H0 H2) v d := dr_sub (new_mono hR.here.1 (ev_none h0 hR.here.1) k) h
theorem liftS {a : Addr} {H0 H1 H2 : Hp} {v : V} {d : PyData} (ha : H0 a ≠ none) (k : Ev a H1 H2) (h : Dr (New H0 H1) v d) : Dr (New H0 H2) v d := dr_sub (new_mono ha (fun _ e => e) k) h
theorem liftAll {a : Addr} {H0 H1 H2 : Hp} {vs : List V} {ds : List PyData} (ha : H0 a ≠ none) (k : Ev a H1 H2) (h : DrAll (New H0 H1) vs ds) : DrAll (New H0 H2) vs ds := drAll_sub (new_mono ha (fun _ e => e) k) h
theorem mk_tup {a tl q : Addr} {r : Tk.Rem} {Hs H : Hp} {vs : List V} {ds : List PyData} (ev : Ev a Hs H) (hR : Rd C H a tl r) (hs : Hs a ≠ none) (hq : H q = none) (all : DrAll (New Hs H) vs ds) :
    Ev a Hs (upd H q (.tup vs)) ∧ Rd C (upd H q (.tup vs)) a tl r ∧ Dr (New Hs (upd H q (.tup vs))) (.ref q) (.tuple ds) := by
  have k : Ev a H (upd H q (.tup vs)) := Ev.same (same_new hq)
  exact ⟨ev.trans k, hR.same (same_new hq), .tup (New.of (ev_none ev hR.here.1 q hq) upd_same) (liftAll hs k all)⟩
/-- a list at p that is being made: Hb the heap ahead of it -/
structure LSt (K : PySem.W.Frag) (C a tl p : Addr) (Hb H : Hp) (ds : List PyData) (r : Tk.Rem) : Prop where
  ha : Hb a ≠ none
  hp : Hb p = none
  ev : Ev a Hb H
  rd : Rd C H a tl r
  nl : p ≠ tl
  at_ : ∃ vs, H p = some (.lst vs) ∧ DrAll (fun b => if b = p then none else New Hb H b) vs ds ∧ vs.length + r.length ≤ 1000001
theorem LSt.na {a tl p : Addr} {Hb H : Hp} {ds : List PyData} {r : Tk.Rem} (L : LSt K C a tl p Hb H ds r) : p ≠ a := fun z => L.ha (by rw [← z]; exact L.hp)
theorem LSt.start {a tl p : Addr} {H : Hp} {r : Tk.Rem} (hR : Rd C H a tl r) (hp : H p = none) : LSt K C a tl p H (upd H p (.lst [])) [] r := by
  refine ⟨hR.here.1, hp, Ev.same (same_new hp), hR.same (same_new hp), fun z => hR.here.2 (by rw [← z]; exact hp), [], upd_same, .nil, ?_⟩
  obtain ⟨_, _, _, _, _, _, _, _, h, _⟩ := hR
  have := h.len
  simpa using this
theorem LSt.adv {a tl p : Addr} {Hb H H' : Hp} {ds : List PyData} {r r' : Tk.Rem} (L : LSt K C a tl p Hb H ds r) (ev : Ev a H H') (hR : Rd C H' a tl r') (hl : r'.length ≤ r.length) : LSt K C a tl p Hb H' ds r' := by
  obtain ⟨vs, h1, h2, h3⟩ := L.at_
  refine ⟨L.ha, L.hp, L.ev.trans ev, hR, L.nl, vs, ev _ _ L.na h1, drAll_sub (fun b o e => ?_) h2, by omega⟩
  by_cases hb : b = p
  · rw [if_pos hb] at e
    cases e
  · rw [if_neg hb] at e ⊢
    exact new_mono L.ha (fun _ e => e) ev b o e
theorem LSt.app {a tl p : Addr} {Hb H H' : Hp} {ds : List PyData} {r r' : Tk.Rem} {v : V} {d : PyData} (L : LSt K C a tl p Hb H ds r) (ev : Ev a H H') (hR : Rd C H' a tl r') (dv : Dr (New H H') v d) (hl : r'.length < r.length) :
    ∃ vs, H' p = some (.lst vs) ∧ vs.length < sizeLine ∧ LSt K C a tl p Hb (upd H' p (.lst (vs ++ [v]))) (ds ++ [d]) r' := by
  obtain ⟨vs, h1, h2, h3⟩ := L.at_
  have hp' := ev _ _ L.na h1
  refine ⟨vs, hp', by rw [sizeLine_eq]; omega, L.ha, L.hp, fun b o n e => ?_, ?_, L.nl, vs ++ [v], upd_same, ?_, ?_⟩
  · rw [upd_ne (ne_of_none e L.hp)]
    exact (L.ev.trans ev) b o n e
  · exact hR.at (fun b o n e => by rw [upd_ne n]; exact e) L.na L.nl hp'
  · have step : ∀ b o, (if b = p then none else New Hb H' b) = some o → (if b = p then none else New Hb (upd H' p (.lst (vs ++ [v]))) b) = some o := fun b o e => by
      by_cases hb : b = p
      · rw [if_pos hb] at e
        cases e
      · rw [if_neg hb] at e ⊢
        obtain ⟨e1, e2⟩ := New.get e
        exact New.of e1 (by rw [upd_ne hb]; exact e2)
    have old : DrAll (fun b => if b = p then none else New Hb (upd H' p (.lst (vs ++ [v]))) b) vs ds := drAll_sub step (drAll_sub (fun b o e => by
      by_cases hb : b = p
      · rw [if_pos hb] at e
        cases e
      · rw [if_neg hb] at e ⊢
        exact new_mono L.ha (fun _ e => e) ev b o e) h2)
    have new : Dr (fun b => if b = p then none else New Hb (upd H' p (.lst (vs ++ [v]))) b) v d := dr_sub (fun b o e => by
      obtain ⟨e1, e2⟩ := New.get e
      have hb : b ≠ p := fun z => by
        rw [z, h1] at e1
        cases e1
      refine step b o ?_
      rw [if_neg hb]
      exact New.of (ev_none L.ev L.rd.here.1 b e1) e2) dv
    have app : ∀ {vs : List V} {ds : List PyData} {G : Hp}, DrAll G vs ds → Dr G v d → DrAll G (vs ++ [v]) (ds ++ [d]) := by
      intro vs ds G h hv
      induction vs generalizing ds with
      | nil => cases h; exact .cons hv .nil
      | cons x vs ih => cases h with | cons h1 h2 => exact .cons h1 (ih h2)
    exact app old new
  · rw [List.length_append, List.length_singleton]
    omega
theorem LSt.fin {a tl p : Addr} {Hb H : Hp} {ds : List PyData} {r : Tk.Rem} (L : LSt K C a tl p Hb H ds r) : Dr (New Hb H) (.ref p) (.list ds) := by
  obtain ⟨vs, h1, h2, h3⟩ := L.at_
  refine .lst (New.of L.hp h1) (drAll_sub (fun b o e => ?_) h2)
  by_cases hb : b = p
  · rw [if_pos hb] at e
    cases e
  · rw [if_neg hb] at e
    exact e
end
def PostD (K : PySem.W.Frag) (C cT a tl : Addr) (H : Hp) (Q : VK) (E : XK) : Tk.Rs → Prop
  | .ok (d, r) => ∀ H' v, Ev a H H' → Rd C H' a tl r → Dr (New H H') v d → Q v H'
  | .error l => ErrAt cT a H E l
def spP (K : PySem.W.Frag) (C cT : Addr) (m : Tk.Rem → Tk.Rs) : Sp := fun vs H Q E => ∃ (a tl : Addr) (r : Tk.Rem), vs = [.ref a] ∧ Rd C H a tl r ∧ PostD K C cT a tl H Q E (m r)
def asL (m : Tk.Rem → Tk.RsL) (r : Tk.Rem) : Tk.Rs := bd (m r) fun p => .ok (.list p.1, p.2)
/-- the reader's methods, as the parser calls them -/
structure RM (P : Program) (w : World) (K : PySem.W.Frag) (mg : Str → Option Value) (base : Heap) (k : Nat) (C cT : Addr) : Prop where
  R : RdC K C
  val : Mt P w K mg base CX0 (k + 1) C "value" ["self"] (sprValue C)
  knd : Mt P w K mg base CX0 (k + 1) C "kind" ["self"] (sprKind C)
  fail : Mt P w K mg base (L2.CX P w) (k + 1) C "fail" ["self"] (sprFail C cT)
  skip : Mt P w K mg base CX0 (k + 2) C "skip" ["self", "word"] (sprSkip C)
  take : Mt P w K mg base (L2.CX P w) (k + 3) C "take" ["self", "word"] (sprTake C cT)
  one : Mt P w K mg base (L2.CX P w) (k + 2) C "take_one" ["self", "words"] (sprOne K C cT)
  name : Mt P w K mg base (L2.CX P w) (k + 3) C "take_name" ["self"] (sprName C cT)
  num : Mt P w K mg base (L2.CX P w) (k + 3) C "take_number" ["self"] (sprNumber C cT)
  fin : Mt P w K mg base (L2.CX P w) (k + 2) C "check_end" ["self"] (sprEnd C cT)
theorem ErrAt.ev {cT a : Addr} {H H' : Hp} {E : XK} {l : Nat} (h : ErrAt cT a H E l) (e : Ev a H H') : ErrAt cT a H' E l := fun H2 x e2 hx => h H2 x (e.trans e2) hx
theorem Rd.ins {C a tl : Addr} {H : Hp} {r : Tk.Rem} (h : Rd C H a tl r) : ∃ (dx : Addr) (i : Nat), H a = some (.ins C dx [("tokens", .ref tl), ("at", .int (i : Nat))]) := by
  obtain ⟨dx, i, rs, ts, h1, _⟩ := h
  exact ⟨dx, i, h1⟩
theorem Rd.ok {C a tl : Addr} {H : Hp} {r : Tk.Rem} (h : Rd C H a tl r) : RemOk r := by
  obtain ⟨_, _, _, _, _, _, _, _, h, _⟩ := h
  exact h
theorem kind_tv {C a tl : Addr} {H : Hp} {r r2 : Tk.Rem} {k : Str} {v : V} (h : Rd C H a tl r) (e : mKind k r = .ok (v, r2)) : TV v := by
  unfold mKind at e
  split at e
  · cases e
    exact h.ok.val
  · cases e
theorem one_tv {C a tl : Addr} {H : Hp} {r r2 : Tk.Rem} {ws : List Str} {v : V} (h : Rd C H a tl r) (e : mOne ws r = .ok (v, r2)) : TV v := by
  unfold mOne at e
  split at e
  · cases e
    exact h.ok.val
  · cases e
section
variable {P : Program} {w : World} {K : PySem.W.Frag} {mg : Str → Option Value} {base : Heap} {C cT : Addr}
theorem name_rd {k : Nat} {σ : L2.St} {a tl : Addr} {r : Tk.Rem} {Hs H : Hp} {Q : VK} {E : XK} {i : Nat} (hσ : σ[i]? = some (some (.ref a))) (hR : Rd C H a tl r) (ev : Ev a Hs H) (he : ∀ l, mName r = .error l → ErrAt cT a Hs E l) (hk : ∀ v r2, mName r = .ok (v, r2) → ∀ H', Ev a H H' → Rd C H' a tl r2 → Q v H') :
    tMeth C "take_name" (sprName C cT) [] E (tVar i) tNil σ H Q := by
  obtain ⟨dx, n, h1⟩ := hR.ins
  refine ⟨_, hσ, a, dx, _, rfl, h1, rfl, a, tl, r, rfl, hR, ?_⟩
  cases e : mName r with
  | error l => exact (he l e).ev ev
  | ok p => exact hk p.1 p.2 e
theorem num_rd {k : Nat} {σ : L2.St} {a tl : Addr} {r : Tk.Rem} {Hs H : Hp} {Q : VK} {E : XK} {i : Nat} (hσ : σ[i]? = some (some (.ref a))) (hR : Rd C H a tl r) (ev : Ev a Hs H) (he : ∀ l, mNum r = .error l → ErrAt cT a Hs E l) (hk : ∀ v r2, mNum r = .ok (v, r2) → ∀ H', Ev a H H' → Rd C H' a tl r2 → Q v H') :
    tMeth C "take_number" (sprNumber C cT) [] E (tVar i) tNil σ H Q := by
  obtain ⟨dx, n, h1⟩ := hR.ins
  refine ⟨_, hσ, a, dx, _, rfl, h1, rfl, a, tl, r, rfl, hR, ?_⟩
  cases e : mNum r with
  | error l => exact (he l e).ev ev
  | ok p => exact hk p.1 p.2 e
theorem take_rd {σ : L2.St} {a tl : Addr} {r : Tk.Rem} {Hs H : Hp} {Q : VK} {E : XK} {i : Nat} {x : Str} (hx : x ≠ Str.ofString "") (hσ : σ[i]? = some (some (.ref a))) (hR : Rd C H a tl r) (ev : Ev a Hs H) (he : ∀ l, mTake x r = .error l → ErrAt cT a Hs E l) (hk : ∀ r2, mTake x r = .ok r2 → ∀ H', Ev a H H' → Rd C H' a tl r2 → Q .non H') :
    tMeth C "take" (sprTake C cT) [] E (tVar i) (tCons (tC (.str x)) tNil) σ H Q := by
  obtain ⟨dx, n, h1⟩ := hR.ins
  refine ⟨_, hσ, a, dx, _, rfl, h1, rfl, a, tl, r, x, rfl, hx, hR, ?_⟩
  cases e : mTake x r with
  | error l => exact (he l e).ev ev
  | ok p => exact hk p e
theorem one_rd {σ : L2.St} {a tl p : Addr} {r : Tk.Rem} {Hs H : Hp} {Q : VK} {E : XK} {i : Nat} {ws : List Str} (hw : TupK K p (ws.map V.str)) (hn : Str.ofString "" ∉ ws) (hσ : σ[i]? = some (some (.ref a))) (hR : Rd C H a tl r) (ev : Ev a Hs H) (he : ∀ l, mOne ws r = .error l → ErrAt cT a Hs E l) (hk : ∀ v r2, mOne ws r = .ok (v, r2) → ∀ H', Ev a H H' → Rd C H' a tl r2 → Q v H') :
    tMeth C "take_one" (sprOne K C cT) [] E (tVar i) (tCons (tC (.ref p)) tNil) σ H Q := by
  obtain ⟨dx, n, h1⟩ := hR.ins
  refine ⟨_, hσ, a, dx, _, rfl, h1, rfl, a, tl, p, r, ws, rfl, hw, hn, hR, ?_⟩
  cases e : mOne ws r with
  | error l => exact (he l e).ev ev
  | ok q => exact hk q.1 q.2 e
theorem skip_rd {σ : L2.St} {a tl : Addr} {r : Tk.Rem} {H : Hp} {Q : VK} {E : XK} {i : Nat} {x : Str} (hx : x ≠ Str.ofString "") (hσ : σ[i]? = some (some (.ref a))) (hR : Rd C H a tl r) (hk : ∀ H', Ev a H H' → Rd C H' a tl (mSkip x r) → Q (.bl (wordAt x r)) H') :
    tMeth C "skip" (sprSkip C) [] E (tVar i) (tCons (tC (.str x)) tNil) σ H Q := by
  obtain ⟨dx, n, h1⟩ := hR.ins
  exact ⟨_, hσ, a, dx, _, rfl, h1, rfl, a, tl, r, x, rfl, hx, hR, hk⟩
theorem val_rd {σ : L2.St} {a tl : Addr} {r : Tk.Rem} {H : Hp} {Q : VK} {E : XK} {i : Nat} (hσ : σ[i]? = some (some (.ref a))) (hR : Rd C H a tl r) (hk : Q (valAt r) H) : tMeth C "value" (sprValue C) [] E (tVar i) tNil σ H Q := by
  obtain ⟨dx, n, h1⟩ := hR.ins
  exact ⟨_, hσ, a, dx, _, rfl, h1, rfl, a, tl, r, rfl, hR, hk⟩
/-- a part of the parser that is called -/
theorem part_rd {m : Tk.Rem → Tk.Rs} {σ : L2.St} {a tl : Addr} {r : Tk.Rem} {Hs H : Hp} {Q : VK} {E : XK} {i : Nat} (hσ : σ[i]? = some (some (.ref a))) (hR : Rd C H a tl r) (ev : Ev a Hs H) (he : ∀ l, m r = .error l → ErrAt cT a Hs E l) (hk : ∀ d r2, m r = .ok (d, r2) → ∀ H' v, Ev a H H' → Rd C H' a tl r2 → Dr (New H H') v d → Q v H') :
    tCall (spP K C cT m) [] E (tCons (tVar i) tNil) σ H Q := by
  refine ⟨_, hσ, a, tl, r, rfl, hR, ?_⟩
  cases e : m r with
  | error l => exact (he l e).ev ev
  | ok p => exact hk p.1 p.2 e
theorem scpWidth : FnScope ["reader", "name"] ["reader"] (defScope pWidth) := ⟨rfl, rfl, rfl, by decide +kernel, rfl, by decide +kernel, by decide +kernel⟩
theorem ok_pWidth {f : Addr} {fd : FuncData} {k : Nat} (F : Fun K "parse_width" "parse_width" pWidth f fd) (M : RM P w K mg base k C cT) : FnOk P w K mg base (L2.CX P w) (k + 4) f fd ["reader"] (spP K C cT mWidth) := by
  obtain ⟨fN, fdN, GN, mN, bN⟩ := M.name.ex
  obtain ⟨fT, fdT, GT, mT, bT⟩ := M.take.ex
  obtain ⟨fU, fdU, GU, mU, bU⟩ := M.num.ex
  refine F.okX scpWidth (fun vs H Q E h => ?_) (fun cdv A outer s H vs Q E hr h => ?_)
  · obtain ⟨a, tl, r, rfl, _⟩ := h
    rfl
  · obtain ⟨a, tl, r, rfl, hR, q⟩ := h
    have nd := scpWidth.nd
    refine ⟨_, pss_cons (ps_set (i := 1) nd rfl (.inl rfl) (pe_meth0 (pv 0) M.R.cl mN GN hr bN .nil (passE (takes_of rfl rfl rfl rfl))))
      (pss_cons (ps_expr (pe_meth (pv 0) M.R.cl mT GT hr bT .nil (passE (takes_of rfl rfl rfl rfl)) (pa_cons pe_str pa_nil)))
      (pss_one (ps_ret (pe_tup (pa_cons (pv 1) (pa_cons (pe_meth0 (pv 0) M.R.cl mU GU hr bU .nil (passE (takes_of rfl rfl rfl rfl))) pa_nil)))))), ?_⟩
    have hs := hR.here.1
    unfold mWidth at q
    refine name_rd (k := k) rfl hR (Ev.refl _ _) (fun l e => by rw [e] at q; exact q) fun v r1 e1 H1 ev1 R1 => ?_
    rw [e1, bd_ok] at q
    refine take_rd (by decide +kernel) rfl R1 ev1 (fun l e => by rw [e] at q; exact q) fun r2 e2 H2 ev2 R2 => ?_
    rw [e2, bd_ok] at q
    refine ⟨_, rfl, ?_⟩
    refine num_rd (k := k) rfl R2 (ev1.trans ev2) (fun l e => by rw [e] at q; exact q) fun v3 r3 e3 H3 ev3 R3 => ⟨(by show 2 ≤ sizeLine; decide), fun p hp => ?_⟩
    rw [e3, bd_ok] at q
    obtain ⟨x1, x2, x3⟩ := mk_tup ((ev1.trans ev2).trans ev3) R3 hs hp (.cons (tvD_dr (kind_tv hR e1)) (.cons (tvD_dr (kind_tv R2 e3)) .nil))
    exact q _ _ x1 x2 x3
end
end Pk
set_option Elab.async false
set_option linter.all false
set_option maxRecDepth 100000
set_option maxHeartbeats 4000000
namespace Pk
open PySem PySem.Spec PyProof.Rows L2 SX GxR Tk PySem.ErX
def PL (K : PySem.W.Frag) (C cT a tl p : Addr) (Hb : Hp) (E : XK) (σ : L2.St) (N : L2.St → Hp → Prop) (ds : List PyData) : Tk.RsL → Prop
  | .ok (es, r2) => ∀ H2, LSt K C a tl p Hb H2 (ds ++ es) r2 → N σ H2
  | .error l => ErrAt cT a Hb E l
def P1 (K : PySem.W.Frag) (C cT a tl p : Addr) (Hb : Hp) (E : XK) (σ : L2.St) (N : L2.St → Hp → Prop) (ds : List PyData) : Tk.Rs → Prop
  | .ok (d, r2) => ∀ H2, LSt K C a tl p Hb H2 (ds ++ [d]) r2 → N σ H2
  | .error l => ErrAt cT a Hb E l
section
variable {K : PySem.W.Frag} {C cT : Addr}
theorem loop_rd {stop : Str} (hs : stop ≠ Str.ofString "") {step : Tk.Rem → Tk.Rs} (hsh : Short step) {σ : L2.St} {a tl p : Addr} {Hb H : Hp} {E E2 : XK} {j : Nat} {D : Ends} {tb : TS} {r : Tk.Rem} (hσ : σ[j]? = some (some (.ref a))) (L : LSt K C a tl p Hb H [] r)
    (hbody : ∀ (N : L2.St → Hp → Prop) (H1 : Hp) (ds : List PyData) (r1 : Tk.Rem), LSt K C a tl p Hb H1 ds r1 → P1 K C cT a tl p Hb E σ N ds (step r1) → tb { D with nx := N, ct := N, bk := D.nx } σ H1)
    (q : PL K C cT a tl p Hb E σ D.nx [] (mLoop stop step (r.length + 1) r)) :
    tWhile (tNot (tB (tMeth C "skip" (sprSkip C) [] E2 (tVar j) (tCons (tC (.str stop)) tNil)))) tb D σ H := by
  refine ⟨fun m σ' H' => σ' = σ ∧ ∃ (f : Nat) (ds : List PyData) (r1 : Tk.Rem), m = r1.length ∧ r1.length < f ∧ LSt K C a tl p Hb H' ds r1 ∧ PL K C cT a tl p Hb E σ D.nx ds (mLoop stop step f r1), ⟨r.length, rfl, _, [], r, rfl, Nat.lt_succ_self _, L, q⟩, ?_⟩
  rintro m σ' H' ⟨rfl, f, ds, r1, rfl, hf, L1, q1⟩
  obtain ⟨f, rfl⟩ : ∃ g, f = g + 1 := ⟨f - 1, by omega⟩
  rw [mLoop_s] at q1
  refine skip_rd hs hσ L1.rd fun H2 ev2 R2 => ⟨_, rfl, ?_⟩
  cases hc : wordAt stop r1 with
  | true =>
    rw [hc, if_pos rfl] at q1
    unfold mSkip at R2
    rw [hc, if_pos rfl] at R2
    refine iteF (q1 H2 ?_)
    rw [List.append_nil]
    exact L1.adv ev2 R2 (by rw [List.length_tail]; omega)
  | false =>
    rw [hc, if_neg Bool.false_ne_true] at q1
    unfold mSkip at R2
    rw [hc, if_neg Bool.false_ne_true] at R2
    refine iteT ⟨fun σ2 H3 => ∃ m', m' < r1.length ∧ σ2 = σ' ∧ ∃ (f : Nat) (ds : List PyData) (r1 : Tk.Rem), m' = r1.length ∧ r1.length < f ∧ LSt K C a tl p Hb H3 ds r1 ∧ PL K C cT a tl p Hb E σ' D.nx ds (mLoop stop step f r1), fun _ _ h => h, ?_⟩
    refine hbody _ H2 ds r1 (L1.adv ev2 R2 (Nat.le_refl _)) ?_
    cases e : step r1 with
    | error l =>
      rw [e] at q1
      exact q1
    | ok pr =>
      obtain ⟨d, r2⟩ := pr
      rw [e, bd_ok] at q1
      have hl := hsh _ _ _ e
      intro H3 L3
      refine ⟨r2.length, hl, rfl, f, ds ++ [d], r2, rfl, by omega, L3, ?_⟩
      cases e2 : mLoop stop step f r2 with
      | error l =>
        rw [e2] at q1
        exact q1
      | ok pr =>
        obtain ⟨es, r3⟩ := pr
        rw [e2, bd_ok] at q1
        intro H4 L4
        refine q1 H4 ?_
        rw [List.append_assoc] at L4
        exact L4
theorem many_rd {word : Str} (hs : word ≠ Str.ofString "") {step : Tk.Rem → Tk.Rs} (hsh : Short step) {σ : L2.St} {a tl p : Addr} {Hb H : Hp} {E E2 : XK} {j : Nat} {D : Ends} {tb : TS} {r : Tk.Rem} {ds0 : List PyData} (hσ : σ[j]? = some (some (.ref a))) (L : LSt K C a tl p Hb H ds0 r)
    (hbody : ∀ (N : L2.St → Hp → Prop) (H1 : Hp) (ds : List PyData) (r1 : Tk.Rem), LSt K C a tl p Hb H1 ds r1 → P1 K C cT a tl p Hb E σ N ds (step r1) → tb { D with nx := N, ct := N, bk := D.nx } σ H1)
    (q : PL K C cT a tl p Hb E σ D.nx ds0 (mMany word step (r.length + 1) r)) :
    tWhile (tB (tMeth C "skip" (sprSkip C) [] E2 (tVar j) (tCons (tC (.str word)) tNil))) tb D σ H := by
  refine ⟨fun m σ' H' => σ' = σ ∧ ∃ (f : Nat) (ds : List PyData) (r1 : Tk.Rem), m = r1.length ∧ r1.length < f ∧ LSt K C a tl p Hb H' ds r1 ∧ PL K C cT a tl p Hb E σ D.nx ds (mMany word step f r1), ⟨r.length, rfl, _, ds0, r, rfl, Nat.lt_succ_self _, L, q⟩, ?_⟩
  rintro m σ' H' ⟨rfl, f, ds, r1, rfl, hf, L1, q1⟩
  obtain ⟨f, rfl⟩ : ∃ g, f = g + 1 := ⟨f - 1, by omega⟩
  rw [mMany_s] at q1
  refine skip_rd hs hσ L1.rd fun H2 ev2 R2 => ⟨_, rfl, ?_⟩
  cases hc : wordAt word r1 with
  | true =>
    rw [hc, if_pos rfl] at q1
    unfold mSkip at R2
    rw [hc, if_pos rfl] at R2
    have ht := tail_lt (word_ne hc)
    refine iteT ⟨fun σ2 H3 => ∃ m', m' < r1.length ∧ σ2 = σ' ∧ ∃ (f : Nat) (ds : List PyData) (r1 : Tk.Rem), m' = r1.length ∧ r1.length < f ∧ LSt K C a tl p Hb H3 ds r1 ∧ PL K C cT a tl p Hb E σ' D.nx ds (mMany word step f r1), fun _ _ h => h, ?_⟩
    refine hbody _ H2 ds r1.tail (L1.adv ev2 R2 (Nat.le_of_lt ht)) ?_
    cases e : step r1.tail with
    | error l =>
      rw [e] at q1
      exact q1
    | ok pr =>
      obtain ⟨d, r2⟩ := pr
      rw [e, bd_ok] at q1
      have hl := hsh _ _ _ e
      intro H3 L3
      refine ⟨r2.length, by omega, rfl, f, ds ++ [d], r2, rfl, by omega, L3, ?_⟩
      cases e2 : mMany word step f r2 with
      | error l =>
        rw [e2] at q1
        exact q1
      | ok pr =>
        obtain ⟨es, r3⟩ := pr
        rw [e2, bd_ok] at q1
        intro H4 L4
        refine q1 H4 ?_
        rw [List.append_assoc] at L4
        exact L4
  | false =>
    rw [hc, if_neg Bool.false_ne_true] at q1
    unfold mSkip at R2
    rw [hc, if_neg Bool.false_ne_true] at R2
    refine iteF (q1 H2 ?_)
    rw [List.append_nil]
    exact L1.adv ev2 R2 (Nat.le_refl _)
end
end Pk
set_option Elab.async false
set_option linter.all false
set_option maxRecDepth 100000
set_option maxHeartbeats 4000000
namespace Pk
open PySem PySem.Spec PyProof.Rows L2 SX GxR Tk PySem.ErX
/-- the constants of the parser's top -/
structure PTx (K : PySem.W.Frag) (mg : Str → Option Value) : Prop where
  END : ∃ p, mg "END_TARGETS" = some (.ref p) ∧ TupK K p (endTargets.map V.str)
  OWN : ∃ p, mg "OWNER_WORDS" = some (.ref p) ∧ TupK K p (ownerWords.map V.str)
  OPS : ∃ p, mg "OPERATORS" = some (.ref p) ∧ TupK K p (operators.map V.str)
  KEY : ∃ p, mg "KEY_KINDS" = some (.ref p) ∧ TupK K p (keyKinds.map V.str)
  CMP : ∃ p, mg "COMPARISONS" = some (.ref p) ∧ TupK K p (comparisons.map V.str)
  MBL : ∃ u, mg "MOST_BLOCKS" = some u ∧ RelV (.int 8) u
  MNO : ∃ u, mg "MOST_NOTS" = some u ∧ RelV (.int 8) u
def spPV (C cT : Addr) (m : Tk.Rem → Except Nat (V × Tk.Rem)) : Sp := fun vs H Q E => ∃ (a tl : Addr) (r : Tk.Rem), vs = [.ref a] ∧ Rd C H a tl r ∧ PostV C cT a tl H Q E (m r)
abbrev RP : List Str := ["reader"]
section
variable {P : Program} {w : World} {K : PySem.W.Frag} {mg : Str → Option Value} {base : Heap} {C cT : Addr}
theorem partV_rd {m : Tk.Rem → Except Nat (V × Tk.Rem)} {σ : L2.St} {a tl : Addr} {r : Tk.Rem} {Hs H : Hp} {Q : VK} {E : XK} {i : Nat} (hσ : σ[i]? = some (some (.ref a))) (hR : Rd C H a tl r) (ev : Ev a Hs H) (he : ∀ l, m r = .error l → ErrAt cT a Hs E l) (hk : ∀ d r2, m r = .ok (d, r2) → ∀ H', Ev a H H' → Rd C H' a tl r2 → Q d H') :
    tCall (spPV C cT m) [] E (tCons (tVar i) tNil) σ H Q := by
  refine ⟨_, hσ, a, tl, r, rfl, hR, ?_⟩
  cases e : m r with
  | error l => exact (he l e).ev ev
  | ok p => exact hk p.1 p.2 e
theorem scpFields : FnScope ["reader", "fields"] ["reader"] (defScope pFields) := ⟨rfl, rfl, rfl, by decide +kernel, rfl, by decide +kernel, by decide +kernel⟩
theorem ok_pFields {f : Addr} {fd : FuncData} {k : Nat} (F : Fun K "parse_fields" "parse_fields" pFields f fd) (M : RM P w K mg base k C cT) (D1 : Df P w K mg base (L2.CX P w) (k + 4) "parse_width" RP (spP K C cT mWidth)) : FnOk P w K mg base (L2.CX P w) (k + 5) f fd ["reader"] (spP K C cT (asL mFields)) := by
  obtain ⟨fS, fdS, GS, mS, bS⟩ := M.skip.ex
  obtain ⟨fT, fdT, GT, mT, bT⟩ := M.take.ex
  obtain ⟨f1, fd1, G1, g1, k1, b1⟩ := D1.ex
  refine F.okX scpFields (fun vs H Q E h => ?_) (fun cdv A outer s H vs Q E hr h => ?_)
  · obtain ⟨a, tl, r, rfl, _⟩ := h
    rfl
  · obtain ⟨a, tl, r, rfl, hR, q⟩ := h
    have nd := scpFields.nd
    have hr3 : Room (k + 3) _ := hr.mono (by omega)
    have hr2 : Room (k + 2) _ := hr.mono (by omega)
    refine ⟨_, pss_cons (ps_set (i := 1) nd rfl (.inl rfl) (pe_lst pa_nil))
      (pss_cons (ps_expr (pe_meth (pv 0) M.R.cl mT GT hr3 bT .nil (passE (takes_of rfl rfl rfl rfl)) (pa_cons pe_str pa_nil)))
      (pss_cons (ps_while (passes_of rfl) (pt_not (pt_val (pe_meth (pv 0) M.R.cl mS GS hr2 bS .nil pass0 (pa_cons pe_str pa_nil)) (by intro _; rfl)))
        (pss_cons (ps_expr (pe_bm PySem.F.plainAttrs_list PySem.F.slot_list_append PySem.F.type_list_append mt_append (pv 1) (pa_cons (pe_call G1 hr (by rfl) g1 k1 b1 .nil (passE (takes_of rfl rfl rfl rfl)) (pa_cons (pv 0) pa_nil)) pa_nil)))
        (pss_one (ps_expr (pe_meth (pv 0) M.R.cl mT GT hr3 bT .nil (passE (takes_of rfl rfl rfl rfl)) (pa_cons pe_str pa_nil))))))
      (pss_one (ps_ret (pv 1))))), ?_⟩
    unfold asL mFields at q
    refine ⟨Nat.zero_le _, fun p hp => ?_⟩
    have L0 := LSt.start (K := K) hR hp
    refine take_rd (by decide +kernel) rfl L0.rd L0.ev (fun l e => by rw [e] at q; exact q) fun r1 e1 H1 ev1 R1 => ?_
    rw [e1, bd_ok] at q
    refine loop_rd (E := E) (cT := cT) (by decide +kernel) fieldStep_short rfl (L0.adv ev1 R1 (Nat.le_of_lt (take_lt e1))) (fun N H2 ds r2 L2 q2 => ?_) ?_
    · obtain ⟨vs2, hv2, _⟩ := L2.at_
      refine ⟨_, rfl, .inl ⟨rfl, _, SqL.of hv2⟩, ?_⟩
      unfold mFieldStep at q2
      refine part_rd rfl L2.rd L2.ev (fun l e => by rw [e] at q2; exact q2) fun d r3 e3 H3 v ev3 R3 d3 => ?_
      rw [e3, bd_ok] at q2
      obtain ⟨vs3, hv3, hl3, L3⟩ := L2.app ev3 R3 d3 (width_short _ _ _ e3)
      refine ⟨p, vs3, v, rfl, rfl, hv3, hl3, ?_⟩
      refine take_rd (by decide +kernel) rfl L3.rd L3.ev (fun l e => by rw [e] at q2; exact q2) fun r4 e4 H4 ev4 R4 => ?_
      rw [e4, bd_ok] at q2
      exact q2 H4 (L3.adv ev4 R4 (Nat.le_of_lt (take_lt e4)))
    · cases e2 : mLoop "}" mFieldStep (r1.length + 1) r1 with
      | error l => rw [e2] at q; exact q
      | ok pr =>
        rw [e2, bd_ok] at q
        intro H2 L2
        exact ⟨_, rfl, q H2 _ L2.ev L2.rd L2.fin⟩
theorem scpHeader : FnScope ["reader", "name"] ["reader"] (defScope pHeader) := ⟨rfl, rfl, rfl, by decide +kernel, rfl, by decide +kernel, by decide +kernel⟩
theorem ok_pHeader {f : Addr} {fd : FuncData} {k : Nat} (F : Fun K "parse_header" "parse_header" pHeader f fd) (M : RM P w K mg base k C cT) (D1 : Df P w K mg base (L2.CX P w) (k + 5) "parse_fields" RP (spP K C cT (asL mFields))) : FnOk P w K mg base (L2.CX P w) (k + 6) f fd ["reader"] (spP K C cT mHeader) := by
  obtain ⟨fN, fdN, GN, mN, bN⟩ := M.name.ex
  obtain ⟨f1, fd1, G1, g1, k1, b1⟩ := D1.ex
  refine F.okX scpHeader (fun vs H Q E h => ?_) (fun cdv A outer s H vs Q E hr h => ?_)
  · obtain ⟨a, tl, r, rfl, _⟩ := h
    rfl
  · obtain ⟨a, tl, r, rfl, hR, q⟩ := h
    have nd := scpHeader.nd
    have hr3 : Room (k + 3) _ := hr.mono (by omega)
    refine ⟨_, pss_cons (ps_set (i := 1) nd rfl (.inl rfl) (pe_meth0 (pv 0) M.R.cl mN GN hr3 bN .nil (passE (takes_of rfl rfl rfl rfl))))
      (pss_one (ps_ret (pe_tup (pa_cons pe_str (pa_cons (pv 1) (pa_cons (pe_call G1 hr (by rfl) g1 k1 b1 .nil (passE (takes_of rfl rfl rfl rfl)) (pa_cons (pv 0) pa_nil)) pa_nil)))))), ?_⟩
    have hs := hR.here.1
    unfold mHeader at q
    refine name_rd (k := k) rfl hR (Ev.refl _ _) (fun l e => by rw [e] at q; exact q) fun v r1 e1 H1 ev1 R1 => ?_
    rw [e1, bd_ok] at q
    refine ⟨_, rfl, part_rd rfl R1 ev1 (fun l e => ?_) fun d r2 e2 H2 v2 ev2 R2 d2 => ⟨(by show 3 ≤ sizeLine; decide), fun p hp => ?_⟩⟩
    · unfold asL at e
      cases e3 : mFields r1 with
      | error l2 => rw [e3, bd_err] at e; cases e; rw [e3] at q; exact q
      | ok pr => rw [e3, bd_ok] at e; cases e
    · unfold asL at e2
      obtain ⟨pr, e3, e4⟩ := bd_inv e2
      cases e4
      rw [e3, bd_ok] at q
      obtain ⟨x1, x2, x3⟩ := mk_tup (ev1.trans ev2) R2 hs hp (.cons (.str _) (.cons (tvD_dr (kind_tv hR e1)) (.cons (lift ev1 R1 (Ev.refl _ _) d2) .nil)))
      exact q _ _ x1 x2 x3
theorem scpTarget : FnScope ["reader"] ["reader"] (defScope pTarget) := ⟨rfl, rfl, rfl, by decide +kernel, rfl, by decide +kernel, by decide +kernel⟩
theorem scpOwner : FnScope ["reader"] ["reader"] (defScope pOwner) := ⟨rfl, rfl, rfl, by decide +kernel, rfl, by decide +kernel, by decide +kernel⟩
theorem ok_pTarget {f : Addr} {fd : FuncData} {k : Nat} (F : Fun K "parse_target" "parse_target" pTarget f fd) (M : RM P w K mg base k C cT) (T : PTx K mg) : FnOk P w K mg base (L2.CX P w) (k + 4) f fd ["reader"] (spPV C cT mTargetV) := by
  obtain ⟨fV, fdV, GV, mV, bV⟩ := M.val.ex
  obtain ⟨fO, fdO, GO, mO, bO⟩ := M.one.ex
  obtain ⟨fN, fdN, GN, mN, bN⟩ := M.name.ex
  obtain ⟨pe, ge, te⟩ := T.END
  refine F.okX scpTarget (fun vs H Q E h => ?_) (fun cdv A outer s H vs Q E hr h => ?_)
  · obtain ⟨a, tl, r, rfl, _⟩ := h
    rfl
  · obtain ⟨a, tl, r, rfl, hR, q⟩ := h
    have hr2 : Room (k + 2) _ := hr.mono (by omega)
    have hr1 : Room (k + 1) _ := hr.mono (by omega)
    refine ⟨_, pss_cons (ps_if (pt_cmpR op_in_seq (pe_meth0 (pv 0) M.R.cl mV GV hr1 bV .nil pass0) (pe_glob (v := .ref pe) rfl ge rfl) (by rfl))
        (pss_one (ps_ret (pe_meth (pv 0) M.R.cl mO GO hr2 bO .nil (passE (takes_of rfl rfl rfl rfl)) (pa_cons (pe_glob (v := .ref pe) rfl ge rfl) pa_nil)))) pss_nil)
      (pss_one (ps_ret (pe_meth0 (pv 0) M.R.cl mN GN hr bN .nil (passE (takes_of rfl rfl rfl rfl))))), ?_⟩
    unfold mTargetV at q
    refine val_rd rfl hR ⟨pe, _, rfl, .inr (te.at _), tv_flat hR.ok.val, flat_strs _, _, rfl, ?_⟩
    cases hc : inV (valAt r) (endTargets.map V.str) with
    | true =>
      rw [hc, if_pos rfl] at q
      exact iteT (one_rd te (by decide +kernel) rfl hR (Ev.refl _ _) (fun l e => by rw [e] at q; exact q) fun v r2 e H' ev R2 => by rw [e] at q; exact q H' ev R2)
    | false =>
      rw [hc, if_neg Bool.false_ne_true] at q
      exact iteF (name_rd (k := k) rfl hR (Ev.refl _ _) (fun l e => by rw [e] at q; exact q) fun v r2 e H' ev R2 => by rw [e] at q; exact q H' ev R2)
theorem ok_pOwner {f : Addr} {fd : FuncData} {k : Nat} (F : Fun K "parse_owner" "parse_owner" pOwner f fd) (M : RM P w K mg base k C cT) (T : PTx K mg) : FnOk P w K mg base (L2.CX P w) (k + 4) f fd ["reader"] (spPV C cT mOwnerV) := by
  obtain ⟨fV, fdV, GV, mV, bV⟩ := M.val.ex
  obtain ⟨fO, fdO, GO, mO, bO⟩ := M.one.ex
  obtain ⟨fN, fdN, GN, mN, bN⟩ := M.name.ex
  obtain ⟨pe, ge, te⟩ := T.OWN
  refine F.okX scpOwner (fun vs H Q E h => ?_) (fun cdv A outer s H vs Q E hr h => ?_)
  · obtain ⟨a, tl, r, rfl, _⟩ := h
    rfl
  · obtain ⟨a, tl, r, rfl, hR, q⟩ := h
    have hr2 : Room (k + 2) _ := hr.mono (by omega)
    have hr1 : Room (k + 1) _ := hr.mono (by omega)
    refine ⟨_, pss_cons (ps_if (pt_cmpR op_in_seq (pe_meth0 (pv 0) M.R.cl mV GV hr1 bV .nil pass0) (pe_glob (v := .ref pe) rfl ge rfl) (by rfl))
        (pss_one (ps_ret (pe_meth (pv 0) M.R.cl mO GO hr2 bO .nil (passE (takes_of rfl rfl rfl rfl)) (pa_cons (pe_glob (v := .ref pe) rfl ge rfl) pa_nil)))) pss_nil)
      (pss_one (ps_ret (pe_meth0 (pv 0) M.R.cl mN GN hr bN .nil (passE (takes_of rfl rfl rfl rfl))))), ?_⟩
    unfold mOwnerV at q
    refine val_rd rfl hR ⟨pe, _, rfl, .inr (te.at _), tv_flat hR.ok.val, flat_strs _, _, rfl, ?_⟩
    cases hc : inV (valAt r) (ownerWords.map V.str) with
    | true =>
      rw [hc, if_pos rfl] at q
      exact iteT (one_rd te (by decide +kernel) rfl hR (Ev.refl _ _) (fun l e => by rw [e] at q; exact q) fun v r2 e H' ev R2 => by rw [e] at q; exact q H' ev R2)
    | false =>
      rw [hc, if_neg Bool.false_ne_true] at q
      exact iteF (name_rd (k := k) rfl hR (Ev.refl _ _) (fun l e => by rw [e] at q; exact q) fun v r2 e H' ev R2 => by rw [e] at q; exact q H' ev R2)
theorem target_tv {a tl : Addr} {H : Hp} {r r2 : Tk.Rem} {v : V} (h : Rd C H a tl r) (e : mTargetV r = .ok (v, r2)) : TV v := by
  unfold mTargetV at e
  split at e
  · exact one_tv h e
  · exact kind_tv h e
theorem owner_tv {a tl : Addr} {H : Hp} {r r2 : Tk.Rem} {v : V} (h : Rd C H a tl r) (e : mOwnerV r = .ok (v, r2)) : TV v := by
  unfold mOwnerV at e
  split at e
  · exact one_tv h e
  · exact kind_tv h e
theorem scpField : FnScope ["reader", "owner"] ["reader"] (defScope pField) := ⟨rfl, rfl, rfl, by decide +kernel, rfl, by decide +kernel, by decide +kernel⟩
theorem ok_pField {f : Addr} {fd : FuncData} {k : Nat} (F : Fun K "parse_field" "parse_field" pField f fd) (M : RM P w K mg base k C cT) (D1 : Df P w K mg base (L2.CX P w) (k + 4) "parse_owner" RP (spPV C cT mOwnerV)) : FnOk P w K mg base (L2.CX P w) (k + 5) f fd ["reader"] (spP K C cT mField) := by
  obtain ⟨fN, fdN, GN, mN, bN⟩ := M.name.ex
  obtain ⟨fT, fdT, GT, mT, bT⟩ := M.take.ex
  obtain ⟨f1, fd1, G1, g1, k1, b1⟩ := D1.ex
  refine F.okX scpField (fun vs H Q E h => ?_) (fun cdv A outer s H vs Q E hr h => ?_)
  · obtain ⟨a, tl, r, rfl, _⟩ := h
    rfl
  · obtain ⟨a, tl, r, rfl, hR, q⟩ := h
    have nd := scpField.nd
    have hr3 : Room (k + 3) _ := hr.mono (by omega)
    refine ⟨_, pss_cons (ps_set (i := 1) nd rfl (.inl rfl) (pe_call G1 hr (by rfl) g1 k1 b1 .nil (passE (takes_of rfl rfl rfl rfl)) (pa_cons (pv 0) pa_nil)))
      (pss_cons (ps_expr (pe_meth (pv 0) M.R.cl mT GT hr3 bT .nil (passE (takes_of rfl rfl rfl rfl)) (pa_cons pe_str pa_nil)))
      (pss_one (ps_ret (pe_tup (pa_cons (pv 1) (pa_cons (pe_meth0 (pv 0) M.R.cl mN GN hr3 bN .nil (passE (takes_of rfl rfl rfl rfl))) pa_nil)))))), ?_⟩
    have hs := hR.here.1
    unfold mField at q
    refine partV_rd rfl hR (Ev.refl _ _) (fun l e => by rw [e] at q; exact q) fun v r1 e1 H1 ev1 R1 => ?_
    rw [e1, bd_ok] at q
    refine take_rd (by decide +kernel) rfl R1 ev1 (fun l e => by rw [e] at q; exact q) fun r2 e2 H2 ev2 R2 => ?_
    rw [e2, bd_ok] at q
    refine ⟨_, rfl, ?_⟩
    refine name_rd (k := k) rfl R2 (ev1.trans ev2) (fun l e => by rw [e] at q; exact q) fun v3 r3 e3 H3 ev3 R3 => ⟨(by show 2 ≤ sizeLine; decide), fun p hp => ?_⟩
    rw [e3, bd_ok] at q
    obtain ⟨x1, x2, x3⟩ := mk_tup ((ev1.trans ev2).trans ev3) R3 hs hp (.cons (tvD_dr (owner_tv hR e1)) (.cons (tvD_dr (kind_tv R2 e3)) .nil))
    exact q _ _ x1 x2 x3
end
end Pk
set_option Elab.async false
set_option linter.all false
set_option maxRecDepth 100000
set_option maxHeartbeats 4000000
namespace Pk
open PySem PySem.Spec PyProof.Rows L2 SX GxR Tk PySem.ErX
abbrev pStates : Stmt := topS 38
abbrev pState : Stmt := topS 39
abbrev pWay : Stmt := topS 40
abbrev pRow : Stmt := topS 41
abbrev pSelEnd : Stmt := topS 42
abbrev pParams : Stmt := topS 45
abbrev pArgs : Stmt := topS 54
theorem mSkip_t {x : Str} {r : Tk.Rem} (h : wordAt x r = true) : mSkip x r = r.tail := by unfold mSkip; rw [if_pos h]
theorem mSkip_f {x : Str} {r : Tk.Rem} (h : wordAt x r = false) : mSkip x r = r := by unfold mSkip; rw [h, if_neg Bool.false_ne_true]
theorem mOpt_t {x : Str} {m : Tk.Rem → Tk.Rs} {r : Tk.Rem} (h : wordAt x r = true) : mOpt x m r = m r.tail := by unfold mOpt; rw [if_pos h]
theorem mOpt_f {x : Str} {m : Tk.Rem → Tk.Rs} {r : Tk.Rem} (h : wordAt x r = false) : mOpt x m r = .ok (.none, r) := by unfold mOpt; rw [h, if_neg Bool.false_ne_true]
theorem asL_err {m : Tk.Rem → Tk.RsL} {r : Tk.Rem} {l : Nat} (e : asL m r = .error l) : m r = .error l := by
  unfold asL at e
  cases e3 : m r with
  | error l2 => rw [e3, bd_err] at e; cases e; rfl
  | ok pr => rw [e3, bd_ok] at e; cases e
theorem asL_ok {m : Tk.Rem → Tk.RsL} {r r2 : Tk.Rem} {d : PyData} (e : asL m r = .ok (d, r2)) : ∃ ds, m r = .ok (ds, r2) ∧ d = .list ds := by
  obtain ⟨pr, e3, e4⟩ := bd_inv e
  cases e4
  exact ⟨_, e3, rfl⟩
section
variable {P : Program} {w : World} {K : PySem.W.Frag} {mg : Str → Option Value} {base : Heap} {C cT : Addr}
theorem LSt.start1 {a tl p : Addr} {Hb H : Hp} {r : Tk.Rem} {v : V} {d : PyData} (ha : Hb a ≠ none) (nl : Hb tl ≠ none) (ev : Ev a Hb H) (hR : Rd C H a tl r) (hp : H p = none) (dv : Dr (New Hb H) v d) (hl : r.length < 1000001) : LSt K C a tl p Hb (upd H p (.lst [v])) [d] r := by
  have hbp := ev_none ev hR.here.1 p hp
  refine ⟨ha, hbp, ev.trans (Ev.same (same_new hp)), hR.same (same_new hp), fun z => nl (by rw [← z]; exact hbp), [v], upd_same, .cons (dr_sub (fun b o e => ?_) dv) .nil, by rw [List.length_singleton]; omega⟩
  obtain ⟨e1, e2⟩ := New.get e
  have hb : b ≠ p := fun z => by
    rw [z, hp] at e2
    cases e2
  rw [if_neg hb]
  exact New.of e1 (by rw [upd_ne hb]; exact e2)
theorem scpRow : FnScope ["reader", "value", "mask", "target"] ["reader"] (defScope pRow) := ⟨rfl, rfl, rfl, by decide +kernel, rfl, by decide +kernel, by decide +kernel⟩
theorem ok_pRow {f : Addr} {fd : FuncData} {k : Nat} (F : Fun K "parse_row" "parse_row" pRow f fd) (M : RM P w K mg base k C cT) (D1 : Df P w K mg base (L2.CX P w) (k + 4) "parse_target" RP (spPV C cT mTargetV)) : FnOk P w K mg base (L2.CX P w) (k + 5) f fd ["reader"] (spP K C cT mRow) := by
  obtain ⟨fS, fdS, GS, mS, bS⟩ := M.skip.ex
  obtain ⟨fT, fdT, GT, mT, bT⟩ := M.take.ex
  obtain ⟨fN, fdN, GN, mN, bN⟩ := M.num.ex
  obtain ⟨f1, fd1, G1, g1, k1, b1⟩ := D1.ex
  refine F.okX scpRow (fun vs H Q E h => ?_) (fun cdv A outer s H vs Q E hr h => ?_)
  · obtain ⟨a, tl, r, rfl, _⟩ := h
    rfl
  · obtain ⟨a, tl, r, rfl, hR, q⟩ := h
    have nd := scpRow.nd
    have hr3 : Room (k + 3) _ := hr.mono (by omega)
    have hr2 : Room (k + 2) _ := hr.mono (by omega)
    have hs := hR.here.1
    refine ⟨_, pss_cons (ps_set (i := 1) nd rfl (.inl rfl) (pe_meth0 (pv 0) M.R.cl mN GN hr3 bN .nil (passE (takes_of rfl rfl rfl rfl))))
      (pss_cons (ps_set (i := 2) nd rfl (.inl rfl) pe_non)
      (C8.pss_cut (ps_if (pt_val (pe_meth (pv 0) M.R.cl mS GS hr2 bS .nil pass0 (pa_cons pe_str pa_nil)) (by intro _; rfl)) (pss_one (ps_set (i := 2) nd rfl (.inl rfl) (pe_meth0 (pv 0) M.R.cl mN GN hr3 bN .nil (passE (takes_of rfl rfl rfl rfl))))) pss_nil)
      (pss_cons (ps_expr (pe_meth (pv 0) M.R.cl mT GT hr3 bT .nil (passE (takes_of rfl rfl rfl rfl)) (pa_cons pe_str pa_nil)))
      (pss_cons (ps_set (i := 3) nd rfl (.inl rfl) (pe_call G1 hr (by rfl) g1 k1 b1 .nil (passE (takes_of rfl rfl rfl rfl)) (pa_cons (pv 0) pa_nil)))
      (pss_cons (ps_expr (pe_meth (pv 0) M.R.cl mT GT hr3 bT .nil (passE (takes_of rfl rfl rfl rfl)) (pa_cons pe_str pa_nil)))
      (pss_one (ps_ret (pe_tup (pa_cons (pv 1) (pa_cons (pv 2) (pa_cons (pv 3) pa_nil))))))))))), ?_⟩
    unfold mRow at q
    refine num_rd (k := k) rfl hR (Ev.refl _ _) (fun l e => by rw [e] at q; exact q) fun v r1 e1 H1 ev1 R1 => ?_
    rw [e1, bd_ok] at q
    refine ⟨fun σ' H' => ∃ vm d r', σ' = [some (.ref a), some v, some vm, none] ∧ Ev a H H' ∧ Rd C H' a tl r' ∧ mOpt "&" mNumD r1 = .ok (d, r') ∧ ∀ G, Dr G vm d, ?_, ?_⟩
    · refine skip_rd (by decide +kernel) rfl R1 fun H2 ev2 R2 => ⟨_, rfl, ?_⟩
      cases hc : wordAt "&" r1 with
      | true =>
        rw [mSkip_t hc] at R2
        rw [mOpt_t hc] at q ⊢
        unfold mNumD at q ⊢
        refine iteT (num_rd (k := k) rfl R2 (ev1.trans ev2) (fun l e => by rw [e] at q; exact q) fun v2 r2 e2 H3 ev3 R3 => ?_)
        exact ⟨v2, _, r2, rfl, (ev1.trans ev2).trans ev3, R3, by rw [e2]; rfl, fun G => tvD_dr (kind_tv R2 e2)⟩
      | false =>
        rw [mSkip_f hc] at R2
        exact iteF ⟨.non, .none, r1, rfl, ev1.trans ev2, R2, mOpt_f hc, fun G => .non⟩
    · rintro σ2 H2 ⟨vm, dm, r2, rfl, ev2, R2, e2, dvm⟩
      rw [e2, bd_ok] at q
      refine take_rd (by decide +kernel) rfl R2 ev2 (fun l e => by rw [e] at q; exact q) fun r3 e3 H3 ev3 R3 => ?_
      rw [e3, bd_ok] at q
      refine partV_rd rfl R3 (ev2.trans ev3) (fun l e => by rw [e] at q; exact q) fun t r4 e4 H4 ev4 R4 => ?_
      rw [e4, bd_ok] at q
      refine take_rd (by decide +kernel) rfl R4 ((ev2.trans ev3).trans ev4) (fun l e => by rw [e] at q; exact q) fun r5 e5 H5 ev5 R5 => ?_
      rw [e5, bd_ok] at q
      refine ⟨_, rfl, _, rfl, _, rfl, (by show 3 ≤ sizeLine; decide), fun p hp => ?_⟩
      obtain ⟨x1, x2, x3⟩ := mk_tup (((ev2.trans ev3).trans ev4).trans ev5) R5 hs hp (.cons (tvD_dr (kind_tv hR e1)) (.cons (dvm _) (.cons (tvD_dr (target_tv R3 e4)) .nil)))
      exact q _ _ x1 x2 x3
theorem scpSelEnd : FnScope ["reader", "target"] ["reader"] (defScope pSelEnd) := ⟨rfl, rfl, rfl, by decide +kernel, rfl, by decide +kernel, by decide +kernel⟩
theorem ok_pSelEnd {f : Addr} {fd : FuncData} {k : Nat} (F : Fun K "parse_select_end" "parse_select_end" pSelEnd f fd) (M : RM P w K mg base k C cT) (D1 : Df P w K mg base (L2.CX P w) (k + 4) "parse_target" RP (spPV C cT mTargetV)) : FnOk P w K mg base (L2.CX P w) (k + 5) f fd ["reader"] (spPV C cT mSelEnd) := by
  obtain ⟨fT, fdT, GT, mT, bT⟩ := M.take.ex
  obtain ⟨f1, fd1, G1, g1, k1, b1⟩ := D1.ex
  refine F.okX scpSelEnd (fun vs H Q E h => ?_) (fun cdv A outer s H vs Q E hr h => ?_)
  · obtain ⟨a, tl, r, rfl, _⟩ := h
    rfl
  · obtain ⟨a, tl, r, rfl, hR, q⟩ := h
    have nd := scpSelEnd.nd
    have hr3 : Room (k + 3) _ := hr.mono (by omega)
    refine ⟨_, pss_cons (ps_expr (pe_meth (pv 0) M.R.cl mT GT hr3 bT .nil (passE (takes_of rfl rfl rfl rfl)) (pa_cons pe_str pa_nil)))
      (pss_cons (ps_set (i := 1) nd rfl (.inl rfl) (pe_call G1 hr (by rfl) g1 k1 b1 .nil (passE (takes_of rfl rfl rfl rfl)) (pa_cons (pv 0) pa_nil)))
      (pss_cons (ps_expr (pe_meth (pv 0) M.R.cl mT GT hr3 bT .nil (passE (takes_of rfl rfl rfl rfl)) (pa_cons pe_str pa_nil)))
      (pss_cons (ps_expr (pe_meth (pv 0) M.R.cl mT GT hr3 bT .nil (passE (takes_of rfl rfl rfl rfl)) (pa_cons pe_str pa_nil)))
      (pss_one (ps_ret (pv 1)))))), ?_⟩
    unfold mSelEnd at q
    refine take_rd (by decide +kernel) rfl hR (Ev.refl _ _) (fun l e => by rw [e] at q; exact q) fun r3 e3 H3 ev3 R3 => ?_
    rw [e3, bd_ok] at q
    refine partV_rd rfl R3 ev3 (fun l e => by rw [e] at q; exact q) fun t r4 e4 H4 ev4 R4 => ?_
    rw [e4, bd_ok] at q
    refine take_rd (by decide +kernel) rfl R4 (ev3.trans ev4) (fun l e => by rw [e] at q; exact q) fun r5 e5 H5 ev5 R5 => ?_
    rw [e5, bd_ok] at q
    refine take_rd (by decide +kernel) rfl R5 ((ev3.trans ev4).trans ev5) (fun l e => by rw [e] at q; exact q) fun r6 e6 H6 ev6 R6 => ?_
    rw [e6, bd_ok] at q
    exact ⟨_, rfl, q _ (((ev3.trans ev4).trans ev5).trans ev6) R6⟩
theorem take_ok {x : Str} (hx : x ≠ Str.ofString "") {r r2 : Tk.Rem} (h : RemOk r) (e : mTake x r = .ok r2) : RemOk r2 := by
  unfold mTake at e
  split at e
  · rename_i c
    cases e
    exact h.word hx c
  · cases e
theorem kind_tvR {r r2 : Tk.Rem} {k : Str} {v : V} (h : RemOk r) (e : mKind k r = .ok (v, r2)) : TV v := by
  unfold mKind at e
  split at e
  · cases e
    exact h.val
  · cases e
theorem one_tvR {r r2 : Tk.Rem} {ws : List Str} {v : V} (h : RemOk r) (e : mOne ws r = .ok (v, r2)) : TV v := by
  unfold mOne at e
  split at e
  · cases e
    exact h.val
  · cases e
theorem target_tvR {r r2 : Tk.Rem} {v : V} (h : RemOk r) (e : mTargetV r = .ok (v, r2)) : TV v := by
  unfold mTargetV at e
  split at e
  · exact one_tvR h e
  · exact kind_tvR h e
theorem selEnd_tv {r r2 : Tk.Rem} {v : V} (h : RemOk r) (e : mSelEnd r = .ok (v, r2)) : TV v := by
  obtain ⟨r1, e1, e⟩ := bd_inv e
  obtain ⟨t, e2, e⟩ := bd_inv e
  obtain ⟨r3, e3, e⟩ := bd_inv e
  obtain ⟨r4, e4, e⟩ := bd_inv e
  cases e
  have h1 := take_ok (by decide +kernel) h e1
  exact target_tvR h1 e2
theorem scpWay : FnScope ["reader", "target", "field", "rows"] ["reader"] (defScope pWay) := ⟨rfl, rfl, rfl, by decide +kernel, rfl, by decide +kernel, by decide +kernel⟩
theorem ok_pWay {f : Addr} {fd : FuncData} {k : Nat} (F : Fun K "parse_way" "parse_way" pWay f fd) (M : RM P w K mg base k C cT) (D1 : Df P w K mg base (L2.CX P w) (k + 4) "parse_target" RP (spPV C cT mTargetV)) (D2 : Df P w K mg base (L2.CX P w) (k + 5) "parse_field" RP (spP K C cT mField))
    (D3 : Df P w K mg base (L2.CX P w) (k + 5) "parse_row" RP (spP K C cT mRow)) (D4 : Df P w K mg base (L2.CX P w) (k + 5) "parse_select_end" RP (spPV C cT mSelEnd)) : FnOk P w K mg base (L2.CX P w) (k + 6) f fd ["reader"] (spP K C cT mWay) := by
  obtain ⟨fS, fdS, GS, mS, bS⟩ := M.skip.ex
  obtain ⟨fT, fdT, GT, mT, bT⟩ := M.take.ex
  obtain ⟨f1, fd1, G1, g1, k1, b1⟩ := D1.ex
  obtain ⟨f2, fd2, G2, g2, k2, b2⟩ := D2.ex
  obtain ⟨f3, fd3, G3, g3, k3, b3⟩ := D3.ex
  obtain ⟨f4, fd4, G4, g4, k4, b4⟩ := D4.ex
  refine F.okX scpWay (fun vs H Q E h => ?_) (fun cdv A outer s H vs Q E hr h => ?_)
  · obtain ⟨a, tl, r, rfl, _⟩ := h
    rfl
  · obtain ⟨a, tl, r, rfl, hR, q⟩ := h
    have nd := scpWay.nd
    have hr4 : Room (k + 4) _ := hr.mono (by omega)
    have hr3 : Room (k + 3) _ := hr.mono (by omega)
    have hr2 : Room (k + 2) _ := hr.mono (by omega)
    have hs := hR.here.1
    refine ⟨_, pss_cons (ps_if (pt_val (pe_meth (pv 0) M.R.cl mS GS hr2 bS .nil pass0 (pa_cons pe_str pa_nil)) (by intro _; rfl))
        (pss_cons (ps_set (i := 1) nd rfl (.inl rfl) (pe_call G1 hr4 (by rfl) g1 k1 b1 .nil (passE (takes_of rfl rfl rfl rfl)) (pa_cons (pv 0) pa_nil)))
        (pss_cons (ps_expr (pe_meth (pv 0) M.R.cl mT GT hr3 bT .nil (passE (takes_of rfl rfl rfl rfl)) (pa_cons pe_str pa_nil)))
        (pss_one (ps_ret (pe_tup (pa_cons pe_str (pa_cons (pv 1) pa_nil))))))) pss_nil)
      (pss_cons (ps_expr (pe_meth (pv 0) M.R.cl mT GT hr3 bT .nil (passE (takes_of rfl rfl rfl rfl)) (pa_cons pe_str pa_nil)))
      (pss_cons (ps_set (i := 2) nd rfl (.inl rfl) (pe_call G2 hr (by rfl) g2 k2 b2 .nil (passE (takes_of rfl rfl rfl rfl)) (pa_cons (pv 0) pa_nil)))
      (pss_cons (ps_set (i := 3) nd rfl (.inl rfl) (pe_lst pa_nil))
      (pss_cons (ps_expr (pe_meth (pv 0) M.R.cl mT GT hr3 bT .nil (passE (takes_of rfl rfl rfl rfl)) (pa_cons pe_str pa_nil)))
      (pss_cons (ps_while (passes_of rfl) (pt_not (pt_val (pe_meth (pv 0) M.R.cl mS GS hr2 bS .nil pass0 (pa_cons pe_str pa_nil)) (by intro _; rfl)))
        (pss_one (ps_expr (pe_bm PySem.F.plainAttrs_list PySem.F.slot_list_append PySem.F.type_list_append mt_append (pv 3) (pa_cons (pe_call G3 hr (by rfl) g3 k3 b3 .nil (passE (takes_of rfl rfl rfl rfl)) (pa_cons (pv 0) pa_nil)) pa_nil)))))
      (pss_one (ps_ret (pe_tup (pa_cons pe_str (pa_cons (pv 2) (pa_cons (pv 3) (pa_cons (pe_call G4 hr (by rfl) g4 k4 b4 .nil (passE (takes_of rfl rfl rfl rfl)) (pa_cons (pv 0) pa_nil)) pa_nil)))))))))))), ?_⟩
    unfold mWay at q
    refine skip_rd (by decide +kernel) rfl hR fun H1 ev1 R1 => ⟨_, rfl, ?_⟩
    cases hc : wordAt "go" r with
    | true =>
      rw [hc, if_pos rfl] at q
      rw [mSkip_t hc] at R1
      refine iteT (partV_rd rfl R1 ev1 (fun l e => by rw [e] at q; exact q) fun t r4 e4 H4 ev4 R4 => ?_)
      rw [e4, bd_ok] at q
      refine take_rd (by decide +kernel) rfl R4 (ev1.trans ev4) (fun l e => by rw [e] at q; exact q) fun r5 e5 H5 ev5 R5 => ?_
      rw [e5, bd_ok] at q
      refine ⟨_, rfl, (by show 2 ≤ sizeLine; decide), fun p hp => ?_⟩
      obtain ⟨x1, x2, x3⟩ := mk_tup ((ev1.trans ev4).trans ev5) R5 hs hp (.cons (.str _) (.cons (tvD_dr (target_tv R1 e4)) .nil))
      exact q _ _ x1 x2 x3
    | false =>
      rw [hc, if_neg Bool.false_ne_true] at q
      rw [mSkip_f hc] at R1
      refine iteF (take_rd (by decide +kernel) rfl R1 ev1 (fun l e => by rw [e] at q; exact q) fun r2 e2 H2 ev2 R2 => ?_)
      rw [e2, bd_ok] at q
      refine part_rd rfl R2 (ev1.trans ev2) (fun l e => by rw [e] at q; exact q) fun df r3 e3 H3 vf ev3 R3 d3 => ?_
      rw [e3, bd_ok] at q
      refine ⟨Nat.zero_le _, fun p hp => ?_⟩
      have E3 := (ev1.trans ev2).trans ev3
      have L0 := LSt.start (K := K) R3 hp
      refine take_rd (by decide +kernel) rfl L0.rd (E3.trans L0.ev) (fun l e => by rw [e] at q; exact q) fun r4 e4 H4 ev4 R4 => ?_
      rw [e4, bd_ok] at q
      refine loop_rd (E := E) (cT := cT) (by decide +kernel) row_short rfl (L0.adv ev4 R4 (Nat.le_of_lt (take_lt e4))) (fun N H5 ds r5 L5 q5 => ?_) ?_
      · obtain ⟨vs5, hv5, _⟩ := L5.at_
        refine ⟨_, rfl, .inl ⟨rfl, _, SqL.of hv5⟩, ?_⟩
        refine part_rd rfl L5.rd L5.ev (fun l e => by rw [e] at q5; exact q5) fun d r6 e6 H6 v ev6 R6 d6 => ?_
        rw [e6] at q5
        obtain ⟨vs6, hv6, hl6, L6⟩ := L5.app ev6 R6 d6 (row_short _ _ _ e6)
        exact ⟨p, vs6, v, rfl, rfl, hv6, hl6, q5 _ L6⟩
      · cases e5 : mLoop "else" mRow (r4.length + 1) r4 with
        | error l => rw [e5] at q; exact q.ev E3
        | ok pr =>
          rw [e5, bd_ok] at q
          intro H5 L5
          refine ⟨_, rfl, _, rfl, partV_rd rfl L5.rd (E3.trans L5.ev) (fun l e => by rw [e] at q; exact q) fun t r6 e6 H6 ev6 R6 => ⟨(by show 4 ≤ sizeLine; decide), fun p2 hp2 => ?_⟩⟩
          rw [e6, bd_ok] at q
          obtain ⟨x1, x2, x3⟩ := mk_tup ((E3.trans L5.ev).trans ev6) R6 hs hp2 (.cons (.str _) (.cons (lift (ev1.trans ev2) R2 (L5.ev.trans ev6) d3) (.cons (lift E3 R3 ev6 L5.fin) (.cons (tvD_dr (selEnd_tv L5.rd.ok e6)) .nil))))
          exact q _ _ x1 x2 x3
theorem scpState : FnScope ["reader", "name", "header", "way"] ["reader"] (defScope pState) := ⟨rfl, rfl, rfl, by decide +kernel, rfl, by decide +kernel, by decide +kernel⟩
theorem ok_pState {f : Addr} {fd : FuncData} {k : Nat} (F : Fun K "parse_state" "parse_state" pState f fd) (M : RM P w K mg base k C cT) (D1 : Df P w K mg base (L2.CX P w) (k + 6) "parse_way" RP (spP K C cT mWay)) : FnOk P w K mg base (L2.CX P w) (k + 7) f fd ["reader"] (spP K C cT mState) := by
  obtain ⟨fS, fdS, GS, mS, bS⟩ := M.skip.ex
  obtain ⟨fT, fdT, GT, mT, bT⟩ := M.take.ex
  obtain ⟨fN, fdN, GN, mN, bN⟩ := M.name.ex
  obtain ⟨f1, fd1, G1, g1, k1, b1⟩ := D1.ex
  refine F.okX scpState (fun vs H Q E h => ?_) (fun cdv A outer s H vs Q E hr h => ?_)
  · obtain ⟨a, tl, r, rfl, _⟩ := h
    rfl
  · obtain ⟨a, tl, r, rfl, hR, q⟩ := h
    have nd := scpState.nd
    have hr3 : Room (k + 3) _ := hr.mono (by omega)
    have hr2 : Room (k + 2) _ := hr.mono (by omega)
    have hs := hR.here.1
    refine ⟨_, pss_cons (ps_expr (pe_meth (pv 0) M.R.cl mT GT hr3 bT .nil (passE (takes_of rfl rfl rfl rfl)) (pa_cons pe_str pa_nil)))
      (pss_cons (ps_set (i := 1) nd rfl (.inl rfl) (pe_meth0 (pv 0) M.R.cl mN GN hr3 bN .nil (passE (takes_of rfl rfl rfl rfl))))
      (pss_cons (ps_expr (pe_meth (pv 0) M.R.cl mT GT hr3 bT .nil (passE (takes_of rfl rfl rfl rfl)) (pa_cons pe_str pa_nil)))
      (pss_cons (ps_set (i := 2) nd rfl (.inl rfl) pe_non)
      (C8.pss_cut (ps_if (pt_val (pe_meth (pv 0) M.R.cl mS GS hr2 bS .nil pass0 (pa_cons pe_str pa_nil)) (by intro _; rfl)) (pss_cons (ps_set (i := 2) nd rfl (.inl rfl) (pe_meth0 (pv 0) M.R.cl mN GN hr3 bN .nil (passE (takes_of rfl rfl rfl rfl))))
        (pss_one (ps_expr (pe_meth (pv 0) M.R.cl mT GT hr3 bT .nil (passE (takes_of rfl rfl rfl rfl)) (pa_cons pe_str pa_nil))))) pss_nil)
      (pss_cons (ps_set (i := 3) nd rfl (.inl rfl) (pe_call G1 hr (by rfl) g1 k1 b1 .nil (passE (takes_of rfl rfl rfl rfl)) (pa_cons (pv 0) pa_nil)))
      (pss_cons (ps_expr (pe_meth (pv 0) M.R.cl mT GT hr3 bT .nil (passE (takes_of rfl rfl rfl rfl)) (pa_cons pe_str pa_nil)))
      (pss_one (ps_ret (pe_tup (pa_cons pe_str (pa_cons (pv 1) (pa_cons (pv 2) (pa_cons (pv 3) pa_nil))))))))))))), ?_⟩
    unfold mState at q
    refine take_rd (by decide +kernel) rfl hR (Ev.refl _ _) (fun l e => by rw [e] at q; exact q) fun r1 e1 H1 ev1 R1 => ?_
    rw [e1, bd_ok] at q
    refine name_rd (k := k) rfl R1 ev1 (fun l e => by rw [e] at q; exact q) fun v r2 e2 H2 ev2 R2 => ?_
    rw [e2, bd_ok] at q
    have E2 := ev1.trans ev2
    refine take_rd (by decide +kernel) rfl R2 E2 (fun l e => by rw [e] at q; exact q) fun r3 e3 H3 ev3 R3 => ?_
    rw [e3, bd_ok] at q
    have E3 := E2.trans ev3
    refine ⟨fun σ' H' => ∃ vm d r', σ' = [some (.ref a), some v, some vm, none] ∧ Ev a H H' ∧ Rd C H' a tl r' ∧ mOpt "extract" mNameS r3 = .ok (d, r') ∧ ∀ G, Dr G vm d, ?_, ?_⟩
    · refine skip_rd (by decide +kernel) rfl R3 fun H4 ev4 R4 => ⟨_, rfl, ?_⟩
      cases hc : wordAt "extract" r3 with
      | true =>
        rw [mSkip_t hc] at R4
        rw [mOpt_t hc] at q ⊢
        unfold mNameS at q ⊢
        refine iteT (name_rd (k := k) rfl R4 (E3.trans ev4) (fun l e => by rw [e] at q; exact q) fun v5 r5 e5 H5 ev5 R5 => ?_)
        rw [e5, bd_ok] at q ⊢
        refine take_rd (by decide +kernel) rfl R5 ((E3.trans ev4).trans ev5) (fun l e => by rw [e] at q; exact q) fun r6 e6 H6 ev6 R6 => ?_
        exact ⟨v5, _, r6, rfl, ((E3.trans ev4).trans ev5).trans ev6, R6, by rw [e6]; rfl, fun G => tvD_dr (kind_tv R4 e5)⟩
      | false =>
        rw [mSkip_f hc] at R4
        exact iteF ⟨.non, .none, r3, rfl, E3.trans ev4, R4, mOpt_f hc, fun G => .non⟩
    · rintro σ4 H4 ⟨vm, dm, r4, rfl, E4, R4, e4, dvm⟩
      rw [e4, bd_ok] at q
      refine part_rd rfl R4 E4 (fun l e => by rw [e] at q; exact q) fun dw r5 e5 H5 vw ev5 R5 d5 => ?_
      rw [e5, bd_ok] at q
      refine take_rd (by decide +kernel) rfl R5 (E4.trans ev5) (fun l e => by rw [e] at q; exact q) fun r6 e6 H6 ev6 R6 => ?_
      rw [e6, bd_ok] at q
      refine ⟨_, rfl, _, rfl, _, rfl, (by show 4 ≤ sizeLine; decide), fun p hp => ?_⟩
      obtain ⟨x1, x2, x3⟩ := mk_tup ((E4.trans ev5).trans ev6) R6 hs hp (.cons (.str _) (.cons (tvD_dr (kind_tv R1 e2)) (.cons (dvm _) (.cons (lift E4 R4 ev6 d5) .nil))))
      exact q _ _ x1 x2 x3
theorem scpStates : FnScope ["reader", "states"] ["reader"] (defScope pStates) := ⟨rfl, rfl, rfl, by decide +kernel, rfl, by decide +kernel, by decide +kernel⟩
theorem ok_pStates {f : Addr} {fd : FuncData} {k : Nat} (F : Fun K "parse_states" "parse_states" pStates f fd) (M : RM P w K mg base k C cT) (D1 : Df P w K mg base (L2.CX P w) (k + 7) "parse_state" RP (spP K C cT mState)) : FnOk P w K mg base (L2.CX P w) (k + 8) f fd ["reader"] (spP K C cT (asL mStates)) := by
  obtain ⟨fS, fdS, GS, mS, bS⟩ := M.skip.ex
  obtain ⟨fT, fdT, GT, mT, bT⟩ := M.take.ex
  obtain ⟨f1, fd1, G1, g1, k1, b1⟩ := D1.ex
  refine F.okX scpStates (fun vs H Q E h => ?_) (fun cdv A outer s H vs Q E hr h => ?_)
  · obtain ⟨a, tl, r, rfl, _⟩ := h
    rfl
  · obtain ⟨a, tl, r, rfl, hR, q⟩ := h
    have nd := scpStates.nd
    have hr3 : Room (k + 3) _ := hr.mono (by omega)
    have hr2 : Room (k + 2) _ := hr.mono (by omega)
    refine ⟨_, pss_cons (ps_set (i := 1) nd rfl (.inl rfl) (pe_lst pa_nil))
      (pss_cons (ps_expr (pe_meth (pv 0) M.R.cl mT GT hr3 bT .nil (passE (takes_of rfl rfl rfl rfl)) (pa_cons pe_str pa_nil)))
      (pss_cons (ps_while (passes_of rfl) (pt_not (pt_val (pe_meth (pv 0) M.R.cl mS GS hr2 bS .nil pass0 (pa_cons pe_str pa_nil)) (by intro _; rfl)))
        (pss_one (ps_expr (pe_bm PySem.F.plainAttrs_list PySem.F.slot_list_append PySem.F.type_list_append mt_append (pv 1) (pa_cons (pe_call G1 hr (by rfl) g1 k1 b1 .nil (passE (takes_of rfl rfl rfl rfl)) (pa_cons (pv 0) pa_nil)) pa_nil)))))
      (pss_one (ps_ret (pv 1))))), ?_⟩
    unfold asL mStates at q
    refine ⟨Nat.zero_le _, fun p hp => ?_⟩
    have L0 := LSt.start (K := K) hR hp
    refine take_rd (by decide +kernel) rfl L0.rd L0.ev (fun l e => by rw [e] at q; exact q) fun r1 e1 H1 ev1 R1 => ?_
    rw [e1, bd_ok] at q
    refine loop_rd (E := E) (cT := cT) (by decide +kernel) state_short rfl (L0.adv ev1 R1 (Nat.le_of_lt (take_lt e1))) (fun N H5 ds r5 L5 q5 => ?_) ?_
    · obtain ⟨vs5, hv5, _⟩ := L5.at_
      refine ⟨_, rfl, .inl ⟨rfl, _, SqL.of hv5⟩, ?_⟩
      refine part_rd rfl L5.rd L5.ev (fun l e => by rw [e] at q5; exact q5) fun d r6 e6 H6 v ev6 R6 d6 => ?_
      rw [e6] at q5
      obtain ⟨vs6, hv6, hl6, L6⟩ := L5.app ev6 R6 d6 (state_short _ _ _ e6)
      exact ⟨p, vs6, v, rfl, rfl, hv6, hl6, q5 _ L6⟩
    · cases e2 : mLoop "}" mState (r1.length + 1) r1 with
      | error l => rw [e2] at q; exact q
      | ok pr =>
        rw [e2, bd_ok] at q
        intro H2 L2
        exact ⟨_, rfl, q H2 _ L2.ev L2.rd L2.fin⟩
theorem scpParams : FnScope ["reader", "params"] ["reader"] (defScope pParams) := ⟨rfl, rfl, rfl, by decide +kernel, rfl, by decide +kernel, by decide +kernel⟩
theorem ok_pParams {f : Addr} {fd : FuncData} {k : Nat} (F : Fun K "parse_params" "parse_params" pParams f fd) (M : RM P w K mg base k C cT) (D1 : Df P w K mg base (L2.CX P w) (k + 4) "parse_width" RP (spP K C cT mWidth)) : FnOk P w K mg base (L2.CX P w) (k + 5) f fd ["reader"] (spP K C cT (asL mParams)) := by
  obtain ⟨fS, fdS, GS, mS, bS⟩ := M.skip.ex
  obtain ⟨fT, fdT, GT, mT, bT⟩ := M.take.ex
  obtain ⟨f1, fd1, G1, g1, k1, b1⟩ := D1.ex
  refine F.okX scpParams (fun vs H Q E h => ?_) (fun cdv A outer s H vs Q E hr h => ?_)
  · obtain ⟨a, tl, r, rfl, _⟩ := h
    rfl
  · obtain ⟨a, tl, r, rfl, hR, q⟩ := h
    have nd := scpParams.nd
    have hr3 : Room (k + 3) _ := hr.mono (by omega)
    have hr2 : Room (k + 2) _ := hr.mono (by omega)
    have hs := hR.here.1
    refine ⟨_, pss_cons (ps_expr (pe_meth (pv 0) M.R.cl mT GT hr3 bT .nil (passE (takes_of rfl rfl rfl rfl)) (pa_cons pe_str pa_nil)))
      (pss_cons (ps_if (pt_val (pe_meth (pv 0) M.R.cl mS GS hr2 bS .nil pass0 (pa_cons pe_str pa_nil)) (by intro _; rfl)) (pss_one (ps_ret (pe_lst pa_nil))) pss_nil)
      (pss_cons (ps_set (i := 1) nd rfl (.inl rfl) (pe_lst (pa_cons (pe_call G1 hr (by rfl) g1 k1 b1 .nil (passE (takes_of rfl rfl rfl rfl)) (pa_cons (pv 0) pa_nil)) pa_nil)))
      (pss_cons (ps_while (passes_of rfl) (pt_val (pe_meth (pv 0) M.R.cl mS GS hr2 bS .nil pass0 (pa_cons pe_str pa_nil)) (by intro _; rfl))
        (pss_one (ps_expr (pe_bm PySem.F.plainAttrs_list PySem.F.slot_list_append PySem.F.type_list_append mt_append (pv 1) (pa_cons (pe_call G1 hr (by rfl) g1 k1 b1 .nil (passE (takes_of rfl rfl rfl rfl)) (pa_cons (pv 0) pa_nil)) pa_nil)))))
      (pss_cons (ps_expr (pe_meth (pv 0) M.R.cl mT GT hr3 bT .nil (passE (takes_of rfl rfl rfl rfl)) (pa_cons pe_str pa_nil)))
      (pss_one (ps_ret (pv 1))))))), ?_⟩
    unfold asL mParams mListIn at q
    refine take_rd (by decide +kernel) rfl hR (Ev.refl _ _) (fun l e => by rw [e] at q; exact q) fun r1 e1 H1 ev1 R1 => ?_
    rw [e1, bd_ok] at q
    refine skip_rd (by decide +kernel) rfl R1 fun H2 ev2 R2 => ⟨_, rfl, ?_⟩
    cases hc : wordAt ")" r1 with
    | true =>
      rw [hc, if_pos rfl, bd_ok] at q
      rw [mSkip_t hc] at R2
      refine iteT ⟨Nat.zero_le _, fun p hp => ?_⟩
      exact q _ _ ((ev1.trans ev2).trans (Ev.same (same_new hp))) (R2.same (same_new hp)) (.lst (New.of (ev_none (ev1.trans ev2) R2.here.1 p hp) upd_same) .nil)
    | false =>
      rw [hc, if_neg Bool.false_ne_true] at q
      rw [mSkip_f hc] at R2
      have E2 := ev1.trans ev2
      refine iteF (part_rd rfl R2 E2 (fun l e => by rw [e] at q; exact q) fun d r3 e3 H3 v ev3 R3 d3 => ⟨(by show 1 ≤ sizeLine; decide), fun p hp => ?_⟩)
      rw [e3, bd_ok] at q
      have hl3 := width_short _ _ _ e3
      have hl1 := R1.ok.len
      have L0 := LSt.start1 (K := K) R2.here.1 R2.here.2 ev3 R3 hp d3 (by omega)
      refine many_rd (E := E) (cT := cT) (by decide +kernel) width_short rfl L0 (fun N H5 ds r5 L5 q5 => ?_) ?_
      · obtain ⟨vs5, hv5, _⟩ := L5.at_
        refine ⟨_, rfl, .inl ⟨rfl, _, SqL.of hv5⟩, ?_⟩
        refine part_rd rfl L5.rd L5.ev (fun l e => by rw [e] at q5; exact q5) fun d r6 e6 H6 v ev6 R6 d6 => ?_
        rw [e6] at q5
        obtain ⟨vs6, hv6, hl6, L6⟩ := L5.app ev6 R6 d6 (width_short _ _ _ e6)
        exact ⟨p, vs6, v, rfl, rfl, hv6, hl6, q5 _ L6⟩
      · cases e4 : mMany "," mWidth (r3.length + 1) r3 with
        | error l => rw [e4] at q; exact q.ev E2
        | ok pr =>
          rw [e4, bd_ok] at q
          intro H5 L5
          refine take_rd (by decide +kernel) rfl L5.rd (E2.trans L5.ev) (fun l e => by rw [e] at q; exact q) fun r6 e6 H6 ev6 R6 => ?_
          rw [e6, bd_ok, bd_ok] at q
          have L6 := L5.adv ev6 R6 (Nat.le_of_lt (take_lt e6))
          exact ⟨_, rfl, q _ _ (E2.trans L6.ev) R6 (lift E2 R2 (Ev.refl _ _) L6.fin)⟩
end
end Pk
set_option Elab.async false
set_option linter.all false
set_option maxRecDepth 100000
set_option maxHeartbeats 4000000
namespace Pk
open PySem PySem.Spec PyProof.Rows L2 SX GxR Tk PySem.ErX
abbrev pAction : Stmt := topS 44
abbrev pOper : Stmt := topS 46
abbrev pExpr : Stmt := topS 47
abbrev pOperand : Stmt := topS 48
abbrev pTable : Stmt := topS 51
abbrev pKey : Stmt := topS 52
abbrev pDefault : Stmt := topS 53
abbrev pCmp : Stmt := topS 58
section
variable {P : Program} {w : World} {K : PySem.W.Frag} {mg : Str → Option Value} {base : Heap} {C cT : Addr}
theorem owner_tvR {r r2 : Tk.Rem} {v : V} (h : RemOk r) (e : mOwnerV r = .ok (v, r2)) : TV v := by
  unfold mOwnerV at e
  split at e
  · exact one_tvR h e
  · exact kind_tvR h e
theorem scpArgs : FnScope ["reader", "args"] ["reader"] (defScope pArgs) := ⟨rfl, rfl, rfl, by decide +kernel, rfl, by decide +kernel, by decide +kernel⟩
theorem ok_pArgs {f : Addr} {fd : FuncData} {k : Nat} (F : Fun K "parse_args" "parse_args" pArgs f fd) (M : RM P w K mg base k C cT) : FnOk P w K mg base (L2.CX P w) (k + 4) f fd ["reader"] (spP K C cT (asL mArgs)) := by
  obtain ⟨fS, fdS, GS, mS, bS⟩ := M.skip.ex
  obtain ⟨fT, fdT, GT, mT, bT⟩ := M.take.ex
  obtain ⟨fN, fdN, GN, mN, bN⟩ := M.num.ex
  refine F.okX scpArgs (fun vs H Q E h => ?_) (fun cdv A outer s H vs Q E hr h => ?_)
  · obtain ⟨a, tl, r, rfl, _⟩ := h
    rfl
  · obtain ⟨a, tl, r, rfl, hR, q⟩ := h
    have nd := scpArgs.nd
    have hr2 : Room (k + 2) _ := hr.mono (by omega)
    have hs := hR.here.1
    refine ⟨_, pss_cons (ps_expr (pe_meth (pv 0) M.R.cl mT GT hr bT .nil (passE (takes_of rfl rfl rfl rfl)) (pa_cons pe_str pa_nil)))
      (pss_cons (ps_if (pt_val (pe_meth (pv 0) M.R.cl mS GS hr2 bS .nil pass0 (pa_cons pe_str pa_nil)) (by intro _; rfl)) (pss_one (ps_ret (pe_lst pa_nil))) pss_nil)
      (pss_cons (ps_set (i := 1) nd rfl (.inl rfl) (pe_lst (pa_cons (pe_meth0 (pv 0) M.R.cl mN GN hr bN .nil (passE (takes_of rfl rfl rfl rfl))) pa_nil)))
      (pss_cons (ps_while (passes_of rfl) (pt_val (pe_meth (pv 0) M.R.cl mS GS hr2 bS .nil pass0 (pa_cons pe_str pa_nil)) (by intro _; rfl))
        (pss_one (ps_expr (pe_bm PySem.F.plainAttrs_list PySem.F.slot_list_append PySem.F.type_list_append mt_append (pv 1) (pa_cons (pe_meth0 (pv 0) M.R.cl mN GN hr bN .nil (passE (takes_of rfl rfl rfl rfl))) pa_nil)))))
      (pss_cons (ps_expr (pe_meth (pv 0) M.R.cl mT GT hr bT .nil (passE (takes_of rfl rfl rfl rfl)) (pa_cons pe_str pa_nil)))
      (pss_one (ps_ret (pv 1))))))), ?_⟩
    unfold asL mArgs mListIn at q
    refine take_rd (by decide +kernel) rfl hR (Ev.refl _ _) (fun l e => by rw [e] at q; exact q) fun r1 e1 H1 ev1 R1 => ?_
    rw [e1, bd_ok] at q
    refine skip_rd (by decide +kernel) rfl R1 fun H2 ev2 R2 => ⟨_, rfl, ?_⟩
    cases hc : wordAt ")" r1 with
    | true =>
      rw [hc, if_pos rfl, bd_ok] at q
      rw [mSkip_t hc] at R2
      refine iteT ⟨Nat.zero_le _, fun p hp => ?_⟩
      exact q _ _ ((ev1.trans ev2).trans (Ev.same (same_new hp))) (R2.same (same_new hp)) (.lst (New.of (ev_none (ev1.trans ev2) R2.here.1 p hp) upd_same) .nil)
    | false =>
      rw [hc, if_neg Bool.false_ne_true] at q
      rw [mSkip_f hc] at R2
      have E2 := ev1.trans ev2
      refine iteF (num_rd (k := k) rfl R2 E2 (fun l e => by unfold mNumD at q; rw [e] at q; exact q) fun v r3 e3 H3 ev3 R3 => ⟨(by show 1 ≤ sizeLine; decide), fun p hp => ?_⟩)
      have e3' : mNumD r1 = .ok (tvD v, r3) := by unfold mNumD; rw [e3]; rfl
      rw [e3', bd_ok] at q
      have hl3 := num_lt e3
      have hl1 := R1.ok.len
      have L0 := LSt.start1 (K := K) R2.here.1 R2.here.2 ev3 R3 hp (tvD_dr (kind_tv R2 e3)) (by omega)
      refine many_rd (E := E) (cT := cT) (by decide +kernel) numD_short rfl L0 (fun N H5 ds r5 L5 q5 => ?_) ?_
      · obtain ⟨vs5, hv5, _⟩ := L5.at_
        refine ⟨_, rfl, .inl ⟨rfl, _, SqL.of hv5⟩, ?_⟩
        refine num_rd (k := k) rfl L5.rd L5.ev (fun l e => by unfold mNumD at q5; rw [e] at q5; exact q5) fun v6 r6 e6 H6 ev6 R6 => ?_
        have e6' : mNumD r5 = .ok (tvD v6, r6) := by unfold mNumD; rw [e6]; rfl
        rw [e6'] at q5
        obtain ⟨vs6, hv6, hl6, L6⟩ := L5.app ev6 R6 (tvD_dr (kind_tv L5.rd e6)) (num_lt e6)
        exact ⟨p, vs6, v6, rfl, rfl, hv6, hl6, q5 _ L6⟩
      · cases e4 : mMany "," mNumD (r3.length + 1) r3 with
        | error l => rw [e4] at q; exact q.ev E2
        | ok pr =>
          rw [e4, bd_ok] at q
          intro H5 L5
          refine take_rd (by decide +kernel) rfl L5.rd (E2.trans L5.ev) (fun l e => by rw [e] at q; exact q) fun r6 e6 H6 ev6 R6 => ?_
          rw [e6, bd_ok, bd_ok] at q
          have L6 := L5.adv ev6 R6 (Nat.le_of_lt (take_lt e6))
          exact ⟨_, rfl, q _ _ (E2.trans L6.ev) R6 (lift E2 R2 (Ev.refl _ _) L6.fin)⟩
theorem knd_rd {σ : L2.St} {a tl : Addr} {r : Tk.Rem} {H : Hp} {Q : VK} {E : XK} {i : Nat} (hσ : σ[i]? = some (some (.ref a))) (hR : Rd C H a tl r) (hk : Q (.str (kindAt r)) H) : tMeth C "kind" (sprKind C) [] E (tVar i) tNil σ H Q := by
  obtain ⟨dx, n, h1⟩ := hR.ins
  exact ⟨_, hσ, a, dx, _, rfl, h1, rfl, a, tl, r, rfl, hR, hk⟩
theorem scpOperand : FnScope ["reader", "owner"] ["reader"] (defScope pOperand) := ⟨rfl, rfl, rfl, by decide +kernel, rfl, by decide +kernel, by decide +kernel⟩
theorem ok_pOperand {f : Addr} {fd : FuncData} {k : Nat} (F : Fun K "parse_operand" "parse_operand" pOperand f fd) (M : RM P w K mg base k C cT) (T : PTx K mg) (D1 : Df P w K mg base (L2.CX P w) (k + 4) "parse_owner" RP (spPV C cT mOwnerV)) : FnOk P w K mg base (L2.CX P w) (k + 5) f fd ["reader"] (spP K C cT mOperand) := by
  obtain ⟨fK, fdK, GK, mK, bK⟩ := M.knd.ex
  obtain ⟨fV, fdV, GV, mV, bV⟩ := M.val.ex
  obtain ⟨fU, fdU, GU, mU, bU⟩ := M.num.ex
  obtain ⟨fN, fdN, GN, mN, bN⟩ := M.name.ex
  obtain ⟨fT, fdT, GT, mT, bT⟩ := M.take.ex
  obtain ⟨f1, fd1, G1, g1, k1, b1⟩ := D1.ex
  obtain ⟨pe, ge, te⟩ := T.OWN
  refine F.okX scpOperand (fun vs H Q E h => ?_) (fun cdv A outer s H vs Q E hr h => ?_)
  · obtain ⟨a, tl, r, rfl, _⟩ := h
    rfl
  · obtain ⟨a, tl, r, rfl, hR, q⟩ := h
    have nd := scpOperand.nd
    have hr3 : Room (k + 3) _ := hr.mono (by omega)
    have hr1 : Room (k + 1) _ := hr.mono (by omega)
    have hs := hR.here.1
    refine ⟨_, pss_cons (ps_if (pt_cmpR op_eq (pe_meth0 (pv 0) M.R.cl mK GK hr1 bK .nil pass0) pe_str (nomark _)) (pss_one (ps_ret (pe_tup (pa_cons pe_str (pa_cons (pe_meth0 (pv 0) M.R.cl mU GU hr3 bU .nil (passE (takes_of rfl rfl rfl rfl))) pa_nil))))) pss_nil)
      (pss_cons (ps_set (i := 1) nd rfl (.inl rfl) (pe_call G1 hr (by rfl) g1 k1 b1 .nil (passE (takes_of rfl rfl rfl rfl)) (pa_cons (pv 0) pa_nil)))
      (pss_cons (ps_if (PW.pt (pw_and (pt_cmpR op_notIn_seq (pv 1) (pe_glob (v := .ref pe) rfl ge rfl) (by rfl)) (pw_and1 (pt_cmpR op_ne (pe_meth0 (pv 0) M.R.cl mV GV hr1 bV .nil pass0) pe_str (nomark _))))) (pss_one (ps_ret (pe_tup (pa_cons pe_str (pa_cons (pv 1) pa_nil))))) pss_nil)
      (pss_cons (ps_expr (pe_meth (pv 0) M.R.cl mT GT hr3 bT .nil (passE (takes_of rfl rfl rfl rfl)) (pa_cons pe_str pa_nil)))
      (pss_one (ps_ret (pe_tup (pa_cons pe_str (pa_cons (pv 1) (pa_cons (pe_meth0 (pv 0) M.R.cl mN GN hr3 bN .nil (passE (takes_of rfl rfl rfl rfl))) pa_nil))))))))), ?_⟩
    unfold mOperand at q
    refine knd_rd rfl hR ⟨rfl, _, rfl, ?_⟩
    by_cases hk : kindAt r = Str.ofString "number"
    · rw [if_pos hk] at q
      rw [decide_eq_true (congrArg V.str hk)]
      refine iteT (num_rd (k := k) rfl hR (Ev.refl _ _) (fun l e => by rw [e] at q; exact q) fun v r2 e2 H2 ev2 R2 => ⟨(by show 2 ≤ sizeLine; decide), fun p hp => ?_⟩)
      rw [e2, bd_ok] at q
      obtain ⟨x1, x2, x3⟩ := mk_tup ev2 R2 hs hp (.cons (.str _) (.cons (tvD_dr (kind_tv hR e2)) .nil))
      exact q _ _ x1 x2 x3
    · rw [if_neg hk] at q
      rw [decide_eq_false (fun z => hk (V.str.inj z))]
      refine iteF (partV_rd rfl hR (Ev.refl _ _) (fun l e => by rw [e] at q; exact q) fun v r1 e1 H1 ev1 R1 => ?_)
      rw [e1, bd_ok] at q
      have tv1 := owner_tvR hR.ok e1
      have tail : PostD K C cT a tl H Q E (bd (mTake "." r1) fun r => bd (mName r) fun n => .ok (.tuple [.str "field", tvD v, tvD n.1], n.2)) → tSeq (tDrop (tMeth C "take" (sprTake C cT) [] E (tVar 0) (tCons (tC (.str ".")) tNil)))
          (tRet (tTup (tCons (tC (.str "field")) (tCons (tVar 1) (tCons (tMeth C "take_name" (sprName C cT) [] E (tVar 0) tNil) tNil))))) { nx := fun _ H' => Q .non H', rt := Q } [some (.ref a), some v] H1 := fun q => by
        refine take_rd (by decide +kernel) rfl R1 ev1 (fun l e => by rw [e] at q; exact q) fun r2 e2 H2 ev2 R2 => ?_
        rw [e2, bd_ok] at q
        refine ⟨_, rfl, name_rd (k := k) rfl R2 (ev1.trans ev2) (fun l e => by rw [e] at q; exact q) fun v3 r3 e3 H3 ev3 R3 => ⟨(by show 3 ≤ sizeLine; decide), fun p hp => ?_⟩⟩
        rw [e3, bd_ok] at q
        obtain ⟨x1, x2, x3⟩ := mk_tup ((ev1.trans ev2).trans ev3) R3 hs hp (.cons (.str _) (.cons (tvD_dr tv1) (.cons (tvD_dr (kind_tv R2 e3)) .nil)))
        exact q _ _ x1 x2 x3
      refine ⟨_, rfl, pe, _, rfl, .inr (te.at _), tv_flat tv1, flat_strs _, _, rfl, ?_⟩
      cases hin : inV v (ownerWords.map V.str) with
      | true =>
        rw [hin] at q
        exact iteF (iteF (tail q))
      | false =>
        rw [hin] at q
        refine iteT (val_rd rfl R1 ⟨tv_scal R1.ok.val, _, rfl, ?_⟩)
        have e0 : wordAt "." r1 = decide (valAt r1 = .str ".") := rfl
        rw [← e0]
        cases hw : wordAt "." r1 with
        | true =>
          rw [hw] at q
          exact iteF (tail q)
        | false =>
          rw [hw] at q
          refine iteT ⟨_, rfl, (by show 2 ≤ sizeLine; decide), fun p hp => ?_⟩
          obtain ⟨x1, x2, x3⟩ := mk_tup ev1 R1 hs hp (.cons (.str _) (.cons (tvD_dr tv1) .nil))
          exact q _ _ x1 x2 x3
theorem scpExpr : FnScope ["reader", "first", "operator"] ["reader"] (defScope pExpr) := ⟨rfl, rfl, rfl, by decide +kernel, rfl, by decide +kernel, by decide +kernel⟩
theorem ok_pExpr {f : Addr} {fd : FuncData} {k : Nat} (F : Fun K "parse_expression" "parse_expression" pExpr f fd) (M : RM P w K mg base k C cT) (T : PTx K mg) (D1 : Df P w K mg base (L2.CX P w) (k + 5) "parse_operand" RP (spP K C cT mOperand)) : FnOk P w K mg base (L2.CX P w) (k + 6) f fd ["reader"] (spP K C cT mExpr) := by
  obtain ⟨fV, fdV, GV, mV, bV⟩ := M.val.ex
  obtain ⟨fO, fdO, GO, mO, bO⟩ := M.one.ex
  obtain ⟨f1, fd1, G1, g1, k1, b1⟩ := D1.ex
  obtain ⟨pe, ge, te⟩ := T.OPS
  refine F.okX scpExpr (fun vs H Q E h => ?_) (fun cdv A outer s H vs Q E hr h => ?_)
  · obtain ⟨a, tl, r, rfl, _⟩ := h
    rfl
  · obtain ⟨a, tl, r, rfl, hR, q⟩ := h
    have nd := scpExpr.nd
    have hr2 : Room (k + 2) _ := hr.mono (by omega)
    have hr1 : Room (k + 1) _ := hr.mono (by omega)
    have hs := hR.here.1
    refine ⟨_, pss_cons (ps_set (i := 1) nd rfl (.inl rfl) (pe_call G1 hr (by rfl) g1 k1 b1 .nil (passE (takes_of rfl rfl rfl rfl)) (pa_cons (pv 0) pa_nil)))
      (pss_cons (ps_if (pt_cmpR op_notIn_seq (pe_meth0 (pv 0) M.R.cl mV GV hr1 bV .nil pass0) (pe_glob (v := .ref pe) rfl ge rfl) (by rfl)) (pss_one (ps_ret (pv 1))) pss_nil)
      (pss_cons (ps_set (i := 2) nd rfl (.inl rfl) (pe_meth (pv 0) M.R.cl mO GO hr2 bO .nil (passE (takes_of rfl rfl rfl rfl)) (pa_cons (pe_glob (v := .ref pe) rfl ge rfl) pa_nil)))
      (pss_one (ps_ret (pe_tup (pa_cons (pv 2) (pa_cons (pv 1) (pa_cons (pe_call G1 hr (by rfl) g1 k1 b1 .nil (passE (takes_of rfl rfl rfl rfl)) (pa_cons (pv 0) pa_nil)) pa_nil)))))))), ?_⟩
    unfold mExpr at q
    refine part_rd rfl hR (Ev.refl _ _) (fun l e => by rw [e] at q; exact q) fun d r1 e1 H1 v ev1 R1 d1 => ?_
    rw [e1, bd_ok] at q
    refine val_rd rfl R1 ⟨pe, _, rfl, .inr (te.at _), tv_flat R1.ok.val, flat_strs _, _, rfl, ?_⟩
    cases hin : inV (valAt r1) (operators.map V.str) with
    | false =>
      rw [hin, if_neg Bool.false_ne_true] at q
      exact iteT ⟨_, rfl, q _ _ ev1 R1 d1⟩
    | true =>
      rw [hin, if_pos rfl] at q
      refine iteF (one_rd te (by decide +kernel) rfl R1 ev1 (fun l e => by rw [e] at q; exact q) fun o r2 e2 H2 ev2 R2 => ?_)
      rw [e2, bd_ok] at q
      refine ⟨_, rfl, _, rfl, part_rd rfl R2 (ev1.trans ev2) (fun l e => by rw [e] at q; exact q) fun d3 r3 e3 H3 v3 ev3 R3 dd3 => ⟨(by show 3 ≤ sizeLine; decide), fun p hp => ?_⟩⟩
      rw [e3, bd_ok] at q
      obtain ⟨x1, x2, x3⟩ := mk_tup ((ev1.trans ev2).trans ev3) R3 hs hp (.cons (tvD_dr (one_tv R1 e2)) (.cons (liftS hs (ev2.trans ev3) d1) (.cons (lift (ev1.trans ev2) R2 (Ev.refl _ _) dd3) .nil)))
      exact q _ _ x1 x2 x3
theorem scpKey : FnScope ["reader", "field", "kind"] ["reader"] (defScope pKey) := ⟨rfl, rfl, rfl, by decide +kernel, rfl, by decide +kernel, by decide +kernel⟩
theorem ok_pKey {f : Addr} {fd : FuncData} {k : Nat} (F : Fun K "parse_key" "parse_key" pKey f fd) (M : RM P w K mg base k C cT) (T : PTx K mg) (D1 : Df P w K mg base (L2.CX P w) (k + 5) "parse_field" RP (spP K C cT mField)) : FnOk P w K mg base (L2.CX P w) (k + 6) f fd ["reader"] (spP K C cT mKey) := by
  obtain ⟨fT, fdT, GT, mT, bT⟩ := M.take.ex
  obtain ⟨fO, fdO, GO, mO, bO⟩ := M.one.ex
  obtain ⟨f1, fd1, G1, g1, k1, b1⟩ := D1.ex
  obtain ⟨pe, ge, te⟩ := T.KEY
  refine F.okX scpKey (fun vs H Q E h => ?_) (fun cdv A outer s H vs Q E hr h => ?_)
  · obtain ⟨a, tl, r, rfl, _⟩ := h
    rfl
  · obtain ⟨a, tl, r, rfl, hR, q⟩ := h
    have nd := scpKey.nd
    have hr3 : Room (k + 3) _ := hr.mono (by omega)
    have hr2 : Room (k + 2) _ := hr.mono (by omega)
    have hs := hR.here.1
    refine ⟨_, pss_cons (ps_set (i := 1) nd rfl (.inl rfl) (pe_call G1 hr (by rfl) g1 k1 b1 .nil (passE (takes_of rfl rfl rfl rfl)) (pa_cons (pv 0) pa_nil)))
      (pss_cons (ps_set (i := 2) nd rfl (.inl rfl) (pe_meth (pv 0) M.R.cl mO GO hr2 bO .nil (passE (takes_of rfl rfl rfl rfl)) (pa_cons (pe_glob (v := .ref pe) rfl ge rfl) pa_nil)))
      (pss_cons (ps_expr (pe_meth (pv 0) M.R.cl mT GT hr3 bT .nil (passE (takes_of rfl rfl rfl rfl)) (pa_cons pe_str pa_nil)))
      (pss_one (ps_ret (pe_tup (pa_cons (pv 1) (pa_cons (pv 2) pa_nil))))))), ?_⟩
    unfold mKey at q
    refine part_rd rfl hR (Ev.refl _ _) (fun l e => by rw [e] at q; exact q) fun d r1 e1 H1 v ev1 R1 d1 => ?_
    rw [e1, bd_ok] at q
    refine one_rd te (by decide +kernel) rfl R1 ev1 (fun l e => by rw [e] at q; exact q) fun o r2 e2 H2 ev2 R2 => ?_
    rw [e2, bd_ok] at q
    refine take_rd (by decide +kernel) rfl R2 (ev1.trans ev2) (fun l e => by rw [e] at q; exact q) fun r3 e3 H3 ev3 R3 => ?_
    rw [e3, bd_ok] at q
    refine ⟨_, rfl, _, rfl, (by show 2 ≤ sizeLine; decide), fun p hp => ?_⟩
    obtain ⟨x1, x2, x3⟩ := mk_tup ((ev1.trans ev2).trans ev3) R3 hs hp (.cons (liftS hs (ev2.trans ev3) d1) (.cons (tvD_dr (one_tv R1 e2)) .nil))
    exact q _ _ x1 x2 x3
theorem scpDefault : FnScope ["reader", "name", "args"] ["reader"] (defScope pDefault) := ⟨rfl, rfl, rfl, by decide +kernel, rfl, by decide +kernel, by decide +kernel⟩
theorem ok_pDefault {f : Addr} {fd : FuncData} {k : Nat} (F : Fun K "parse_default" "parse_default" pDefault f fd) (M : RM P w K mg base k C cT) (D1 : Df P w K mg base (L2.CX P w) (k + 4) "parse_args" RP (spP K C cT (asL mArgs))) : FnOk P w K mg base (L2.CX P w) (k + 5) f fd ["reader"] (spP K C cT mDefault) := by
  obtain ⟨fT, fdT, GT, mT, bT⟩ := M.take.ex
  obtain ⟨fN, fdN, GN, mN, bN⟩ := M.name.ex
  obtain ⟨f1, fd1, G1, g1, k1, b1⟩ := D1.ex
  refine F.okX scpDefault (fun vs H Q E h => ?_) (fun cdv A outer s H vs Q E hr h => ?_)
  · obtain ⟨a, tl, r, rfl, _⟩ := h
    rfl
  · obtain ⟨a, tl, r, rfl, hR, q⟩ := h
    have nd := scpDefault.nd
    have hr3 : Room (k + 3) _ := hr.mono (by omega)
    have hs := hR.here.1
    refine ⟨_, pss_cons (ps_expr (pe_meth (pv 0) M.R.cl mT GT hr3 bT .nil (passE (takes_of rfl rfl rfl rfl)) (pa_cons pe_str pa_nil)))
      (pss_cons (ps_set (i := 1) nd rfl (.inl rfl) (pe_meth0 (pv 0) M.R.cl mN GN hr3 bN .nil (passE (takes_of rfl rfl rfl rfl))))
      (pss_cons (ps_set (i := 2) nd rfl (.inl rfl) (pe_call G1 hr (by rfl) g1 k1 b1 .nil (passE (takes_of rfl rfl rfl rfl)) (pa_cons (pv 0) pa_nil)))
      (pss_cons (ps_expr (pe_meth (pv 0) M.R.cl mT GT hr3 bT .nil (passE (takes_of rfl rfl rfl rfl)) (pa_cons pe_str pa_nil)))
      (pss_one (ps_ret (pe_tup (pa_cons (pv 1) (pa_cons (pv 2) pa_nil)))))))), ?_⟩
    unfold mDefault at q
    refine take_rd (by decide +kernel) rfl hR (Ev.refl _ _) (fun l e => by rw [e] at q; exact q) fun r1 e1 H1 ev1 R1 => ?_
    rw [e1, bd_ok] at q
    refine name_rd (k := k) rfl R1 ev1 (fun l e => by rw [e] at q; exact q) fun v r2 e2 H2 ev2 R2 => ?_
    rw [e2, bd_ok] at q
    have E2 := ev1.trans ev2
    refine part_rd rfl R2 E2 (fun l e => by have e' := asL_err e; rw [e'] at q; exact q) fun d r3 e3 H3 v3 ev3 R3 d3 => ?_
    obtain ⟨ds, e3', rfl⟩ := asL_ok e3
    rw [e3', bd_ok] at q
    refine take_rd (by decide +kernel) rfl R3 (E2.trans ev3) (fun l e => by rw [e] at q; exact q) fun r4 e4 H4 ev4 R4 => ?_
    rw [e4, bd_ok] at q
    refine ⟨_, rfl, _, rfl, (by show 2 ≤ sizeLine; decide), fun p hp => ?_⟩
    obtain ⟨x1, x2, x3⟩ := mk_tup ((E2.trans ev3).trans ev4) R4 hs hp (.cons (tvD_dr (kind_tv R1 e2)) (.cons (lift E2 R2 ev4 d3) .nil))
    exact q _ _ x1 x2 x3
theorem scpCmp : FnScope ["reader", "field", "sign"] ["reader"] (defScope pCmp) := ⟨rfl, rfl, rfl, by decide +kernel, rfl, by decide +kernel, by decide +kernel⟩
theorem ok_pCmp {f : Addr} {fd : FuncData} {k : Nat} (F : Fun K "parse_comparison" "parse_comparison" pCmp f fd) (M : RM P w K mg base k C cT) (T : PTx K mg) (D1 : Df P w K mg base (L2.CX P w) (k + 5) "parse_field" RP (spP K C cT mField)) : FnOk P w K mg base (L2.CX P w) (k + 6) f fd ["reader"] (spP K C cT mCmp) := by
  obtain ⟨fS, fdS, GS, mS, bS⟩ := M.skip.ex
  obtain ⟨fN, fdN, GN, mN, bN⟩ := M.name.ex
  obtain ⟨fU, fdU, GU, mU, bU⟩ := M.num.ex
  obtain ⟨fO, fdO, GO, mO, bO⟩ := M.one.ex
  obtain ⟨f1, fd1, G1, g1, k1, b1⟩ := D1.ex
  obtain ⟨pe, ge, te⟩ := T.CMP
  refine F.okX scpCmp (fun vs H Q E h => ?_) (fun cdv A outer s H vs Q E hr h => ?_)
  · obtain ⟨a, tl, r, rfl, _⟩ := h
    rfl
  · obtain ⟨a, tl, r, rfl, hR, q⟩ := h
    have nd := scpCmp.nd
    have hr3 : Room (k + 3) _ := hr.mono (by omega)
    have hr2 : Room (k + 2) _ := hr.mono (by omega)
    have hs := hR.here.1
    refine ⟨_, pss_cons (ps_if (pt_val (pe_meth (pv 0) M.R.cl mS GS hr2 bS .nil pass0 (pa_cons pe_str pa_nil)) (by intro _; rfl)) (pss_one (ps_ret (pe_tup (pa_cons pe_str (pa_cons (pe_meth0 (pv 0) M.R.cl mN GN hr3 bN .nil (passE (takes_of rfl rfl rfl rfl))) pa_nil))))) pss_nil)
      (pss_cons (ps_set (i := 1) nd rfl (.inl rfl) (pe_call G1 hr (by rfl) g1 k1 b1 .nil (passE (takes_of rfl rfl rfl rfl)) (pa_cons (pv 0) pa_nil)))
      (pss_cons (ps_set (i := 2) nd rfl (.inl rfl) (pe_meth (pv 0) M.R.cl mO GO hr2 bO .nil (passE (takes_of rfl rfl rfl rfl)) (pa_cons (pe_glob (v := .ref pe) rfl ge rfl) pa_nil)))
      (pss_one (ps_ret (pe_tup (pa_cons (pv 2) (pa_cons (pv 1) (pa_cons (pe_meth0 (pv 0) M.R.cl mU GU hr3 bU .nil (passE (takes_of rfl rfl rfl rfl))) pa_nil)))))))), ?_⟩
    unfold mCmp at q
    refine skip_rd (by decide +kernel) rfl hR fun H1 ev1 R1 => ⟨_, rfl, ?_⟩
    cases hc : wordAt "valid" r with
    | true =>
      rw [hc, if_pos rfl] at q
      rw [mSkip_t hc] at R1
      refine iteT (name_rd (k := k) rfl R1 ev1 (fun l e => by rw [e] at q; exact q) fun v r2 e2 H2 ev2 R2 => ⟨(by show 2 ≤ sizeLine; decide), fun p hp => ?_⟩)
      rw [e2, bd_ok] at q
      obtain ⟨x1, x2, x3⟩ := mk_tup (ev1.trans ev2) R2 hs hp (.cons (.str _) (.cons (tvD_dr (kind_tv R1 e2)) .nil))
      exact q _ _ x1 x2 x3
    | false =>
      rw [hc, if_neg Bool.false_ne_true] at q
      rw [mSkip_f hc] at R1
      refine iteF (part_rd rfl R1 ev1 (fun l e => by rw [e] at q; exact q) fun d r2 e2 H2 v ev2 R2 d2 => ?_)
      rw [e2, bd_ok] at q
      have E2 := ev1.trans ev2
      refine one_rd te (by decide +kernel) rfl R2 E2 (fun l e => by rw [e] at q; exact q) fun o r3 e3 H3 ev3 R3 => ?_
      rw [e3, bd_ok] at q
      refine ⟨_, rfl, _, rfl, num_rd (k := k) rfl R3 (E2.trans ev3) (fun l e => by rw [e] at q; exact q) fun v4 r4 e4 H4 ev4 R4 => ⟨(by show 3 ≤ sizeLine; decide), fun p hp => ?_⟩⟩
      rw [e4, bd_ok] at q
      obtain ⟨x1, x2, x3⟩ := mk_tup ((E2.trans ev3).trans ev4) R4 hs hp (.cons (tvD_dr (one_tv R2 e3)) (.cons (lift ev1 R1 (ev3.trans ev4) d2) (.cons (tvD_dr (kind_tv R3 e4)) .nil)))
      exact q _ _ x1 x2 x3
end
end Pk
set_option Elab.async false
set_option linter.all false
set_option maxRecDepth 100000
set_option maxHeartbeats 4000000
namespace Pk
open PySem PySem.Spec PyProof.Rows L2 SX GxR Tk PySem.ErX
section
variable {P : Program} {w : World} {K : PySem.W.Frag} {mg : Str → Option Value} {base : Heap} {C cT : Addr}
theorem scpOper : FnScope ["reader", "operation", "field"] ["reader"] (defScope pOper) := ⟨rfl, rfl, rfl, by decide +kernel, rfl, by decide +kernel, by decide +kernel⟩
theorem ok_pOper {f : Addr} {fd : FuncData} {k : Nat} (F : Fun K "parse_operation" "parse_operation" pOper f fd) (M : RM P w K mg base k C cT) (D1 : Df P w K mg base (L2.CX P w) (k + 6) "parse_expression" RP (spP K C cT mExpr)) (D2 : Df P w K mg base (L2.CX P w) (k + 5) "parse_field" RP (spP K C cT mField)) :
    FnOk P w K mg base (L2.CX P w) (k + 7) f fd ["reader"] (spP K C cT mOper) := by
  obtain ⟨fS, fdS, GS, mS, bS⟩ := M.skip.ex
  obtain ⟨fT, fdT, GT, mT, bT⟩ := M.take.ex
  obtain ⟨fN, fdN, GN, mN, bN⟩ := M.name.ex
  obtain ⟨f1, fd1, G1, g1, k1, b1⟩ := D1.ex
  obtain ⟨f2, fd2, G2, g2, k2, b2⟩ := D2.ex
  refine F.okX scpOper (fun vs H Q E h => ?_) (fun cdv A outer s H vs Q E hr h => ?_)
  · obtain ⟨a, tl, r, rfl, _⟩ := h
    rfl
  · obtain ⟨a, tl, r, rfl, hR, q⟩ := h
    have nd := scpOper.nd
    have hr5 : Room (k + 5) _ := hr.mono (by omega)
    have hr3 : Room (k + 3) _ := hr.mono (by omega)
    have hr2 : Room (k + 2) _ := hr.mono (by omega)
    have hs := hR.here.1
    refine ⟨_, C8.pss_cut (ps_if (pt_val (pe_meth (pv 0) M.R.cl mS GS hr2 bS .nil pass0 (pa_cons pe_str pa_nil)) (by intro _; rfl)) (pss_one (ps_set (i := 1) nd rfl (.inl rfl) (pe_tup (pa_cons pe_str (pa_cons (pe_call G1 hr (by rfl) g1 k1 b1 .nil (passE (takes_of rfl rfl rfl rfl)) (pa_cons (pv 0) pa_nil)) pa_nil)))))
        (pss_one (ps_if (pt_val (pe_meth (pv 0) M.R.cl mS GS hr2 bS .nil pass0 (pa_cons pe_str pa_nil)) (by intro _; rfl)) (pss_one (ps_set (i := 1) nd rfl (.inl rfl) (pe_tup (pa_cons pe_str pa_nil))))
        (pss_one (ps_if (pt_val (pe_meth (pv 0) M.R.cl mS GS hr2 bS .nil pass0 (pa_cons pe_str pa_nil)) (by intro _; rfl)) (pss_one (ps_set (i := 1) nd rfl (.inl rfl) (pe_tup (pa_cons pe_str (pa_cons (pe_meth0 (pv 0) M.R.cl mN GN hr3 bN .nil (passE (takes_of rfl rfl rfl rfl))) pa_nil)))))
        (pss_one (ps_if (pt_val (pe_meth (pv 0) M.R.cl mS GS hr2 bS .nil pass0 (pa_cons pe_str pa_nil)) (by intro _; rfl)) (pss_one (ps_set (i := 1) nd rfl (.inl rfl) (pe_tup (pa_cons pe_str (pa_cons (pe_meth0 (pv 0) M.R.cl mN GN hr3 bN .nil (passE (takes_of rfl rfl rfl rfl))) pa_nil)))))
          (pss_cons (ps_set (i := 2) nd rfl (.inl rfl) (pe_call G2 hr5 (by rfl) g2 k2 b2 .nil (passE (takes_of rfl rfl rfl rfl)) (pa_cons (pv 0) pa_nil)))
          (pss_cons (ps_expr (pe_meth (pv 0) M.R.cl mT GT hr3 bT .nil (passE (takes_of rfl rfl rfl rfl)) (pa_cons pe_str pa_nil)))
          (pss_one (ps_set (i := 1) nd rfl (.inl rfl) (pe_tup (pa_cons pe_str (pa_cons (pv 2) (pa_cons (pe_call G1 hr (by rfl) g1 k1 b1 .nil (passE (takes_of rfl rfl rfl rfl)) (pa_cons (pv 0) pa_nil)) pa_nil)))))))))))))))
      (pss_cons (ps_expr (pe_meth (pv 0) M.R.cl mT GT hr3 bT .nil (passE (takes_of rfl rfl rfl rfl)) (pa_cons pe_str pa_nil))) (pss_one (ps_ret (pv 1)))), ?_⟩
    unfold mOper at q
    refine ⟨fun σ' H' => ∃ v d r' fl, σ' = [some (.ref a), some v, fl] ∧ Ev a H H' ∧ Rd C H' a tl r' ∧ mOper0 r = .ok (d, r') ∧ Dr (New H H') v d, ?_, ?_⟩
    · have qe : ∀ l, mOper0 r = .error l → ErrAt cT a H E l := fun l e => by rw [e] at q; exact q
      clear q
      unfold mOper0 at qe ⊢
      refine skip_rd (by decide +kernel) rfl hR fun H1 ev1 R1 => ⟨_, rfl, ?_⟩
      cases hc1 : wordAt "send" r with
      | true =>
        rw [hc1] at qe
        rw [mSkip_t hc1] at R1
        refine iteT (part_rd rfl R1 ev1 (fun l e => qe l (by rw [if_pos rfl, e]; rfl)) fun d r2 e2 H2 v ev2 R2 d2 => ⟨(by show 2 ≤ sizeLine; decide), fun p hp => ?_⟩)
        obtain ⟨x1, x2, x3⟩ := mk_tup (ev1.trans ev2) R2 hs hp (.cons (.str _) (.cons (lift ev1 R1 (Ev.refl _ _) d2) .nil))
        exact ⟨_, _, r2, none, rfl, x1, x2, by rw [if_pos rfl, e2]; rfl, x3⟩
      | false =>
        rw [hc1] at qe
        rw [mSkip_f hc1] at R1
        refine iteF (skip_rd (by decide +kernel) rfl R1 fun H2 ev2 R2 => ⟨_, rfl, ?_⟩)
        have E2 := ev1.trans ev2
        cases hc2 : wordAt "drop" r with
        | true =>
          rw [hc2] at qe
          rw [mSkip_t hc2] at R2
          refine iteT ⟨(by show 1 ≤ sizeLine; decide), fun p hp => ?_⟩
          obtain ⟨x1, x2, x3⟩ := mk_tup E2 R2 hs hp (.cons (.str _) .nil)
          exact ⟨_, _, r.tail, none, rfl, x1, x2, by rw [if_neg Bool.false_ne_true, if_pos rfl], x3⟩
        | false =>
          rw [hc2] at qe
          rw [mSkip_f hc2] at R2
          refine iteF (skip_rd (by decide +kernel) rfl R2 fun H3 ev3 R3 => ⟨_, rfl, ?_⟩)
          have E3 := E2.trans ev3
          cases hc3 : wordAt "add" r with
          | true =>
            rw [hc3] at qe
            rw [mSkip_t hc3] at R3
            refine iteT (name_rd (k := k) rfl R3 E3 (fun l e => qe l (by rw [if_neg Bool.false_ne_true, if_neg Bool.false_ne_true, if_pos rfl, e]; rfl)) fun v r4 e4 H4 ev4 R4 => ⟨(by show 2 ≤ sizeLine; decide), fun p hp => ?_⟩)
            obtain ⟨x1, x2, x3⟩ := mk_tup (E3.trans ev4) R4 hs hp (.cons (.str _) (.cons (tvD_dr (kind_tv R3 e4)) .nil))
            exact ⟨_, _, r4, none, rfl, x1, x2, by rw [if_neg Bool.false_ne_true, if_neg Bool.false_ne_true, if_pos rfl, e4]; rfl, x3⟩
          | false =>
            rw [hc3] at qe
            rw [mSkip_f hc3] at R3
            refine iteF (skip_rd (by decide +kernel) rfl R3 fun H4 ev4 R4 => ⟨_, rfl, ?_⟩)
            have E4 := E3.trans ev4
            cases hc4 : wordAt "remove" r with
            | true =>
              rw [hc4] at qe
              rw [mSkip_t hc4] at R4
              refine iteT (name_rd (k := k) rfl R4 E4 (fun l e => qe l (by rw [if_neg Bool.false_ne_true, if_neg Bool.false_ne_true, if_neg Bool.false_ne_true, if_pos rfl, e]; rfl)) fun v r5 e5 H5 ev5 R5 => ⟨(by show 2 ≤ sizeLine; decide), fun p hp => ?_⟩)
              obtain ⟨x1, x2, x3⟩ := mk_tup (E4.trans ev5) R5 hs hp (.cons (.str _) (.cons (tvD_dr (kind_tv R4 e5)) .nil))
              exact ⟨_, _, r5, none, rfl, x1, x2, by rw [if_neg Bool.false_ne_true, if_neg Bool.false_ne_true, if_neg Bool.false_ne_true, if_pos rfl, e5]; rfl, x3⟩
            | false =>
              rw [hc4] at qe
              rw [mSkip_f hc4] at R4
              simp only [Bool.false_eq_true, if_false] at qe ⊢
              refine part_rd rfl R4 E4 (fun l e => qe l (by rw [e]; rfl)) fun d r5 e5 H5 v ev5 R5 d5 => ?_
              rw [e5, bd_ok] at qe ⊢
              have E5 := E4.trans ev5
              refine take_rd (by decide +kernel) rfl R5 E5 (fun l e => qe l (by rw [e]; rfl)) fun r6 e6 H6 ev6 R6 => ?_
              rw [e6, bd_ok] at qe ⊢
              have E6 := E5.trans ev6
              refine ⟨_, rfl, part_rd rfl R6 E6 (fun l e => qe l (by rw [e]; rfl)) fun d7 r7 e7 H7 v7 ev7 R7 dd7 => ⟨(by show 3 ≤ sizeLine; decide), fun p hp => ?_⟩⟩
              obtain ⟨x1, x2, x3⟩ := mk_tup (E6.trans ev7) R7 hs hp (.cons (.str _) (.cons (lift E4 R4 (ev6.trans ev7) d5) (.cons (lift E6 R6 (Ev.refl _ _) dd7) .nil)))
              exact ⟨_, _, r7, some v, rfl, x1, x2, by rw [e7]; rfl, x3⟩
    · rintro σ1 H1 ⟨v, d, r1, fl, rfl, ev1, R1, e1, d1⟩
      rw [e1, bd_ok] at q
      refine take_rd (by decide +kernel) rfl R1 ev1 (fun l e => by rw [e] at q; exact q) fun r2 e2 H2 ev2 R2 => ?_
      rw [e2, bd_ok] at q
      exact ⟨_, rfl, q _ _ (ev1.trans ev2) R2 (liftS hs ev2 d1)⟩
end
end Pk
set_option Elab.async false
set_option linter.all false
set_option maxRecDepth 100000
set_option maxHeartbeats 4000000
namespace Pk
open PySem PySem.Spec PyProof.Rows L2 SX GxR Tk PySem.ErX
abbrev pCond : Stmt := topS 57
abbrev pEmits : Stmt := topS 59
section
variable {P : Program} {w : World} {K : PySem.W.Frag} {mg : Str → Option Value} {base : Heap} {C cT : Addr}
theorem scpAction : FnScope ["reader", "name", "params", "operations"] ["reader"] (defScope pAction) := ⟨rfl, rfl, rfl, by decide +kernel, rfl, by decide +kernel, by decide +kernel⟩
theorem ok_pAction {f : Addr} {fd : FuncData} {k : Nat} (F : Fun K "parse_action" "parse_action" pAction f fd) (M : RM P w K mg base k C cT) (D1 : Df P w K mg base (L2.CX P w) (k + 5) "parse_params" RP (spP K C cT (asL mParams))) (D2 : Df P w K mg base (L2.CX P w) (k + 7) "parse_operation" RP (spP K C cT mOper)) :
    FnOk P w K mg base (L2.CX P w) (k + 8) f fd ["reader"] (spP K C cT mAction) := by
  obtain ⟨fS, fdS, GS, mS, bS⟩ := M.skip.ex
  obtain ⟨fT, fdT, GT, mT, bT⟩ := M.take.ex
  obtain ⟨fN, fdN, GN, mN, bN⟩ := M.name.ex
  obtain ⟨f1, fd1, G1, g1, k1, b1⟩ := D1.ex
  obtain ⟨f2, fd2, G2, g2, k2, b2⟩ := D2.ex
  refine F.okX scpAction (fun vs H Q E h => ?_) (fun cdv A outer s H vs Q E hr h => ?_)
  · obtain ⟨a, tl, r, rfl, _⟩ := h
    rfl
  · obtain ⟨a, tl, r, rfl, hR, q⟩ := h
    have nd := scpAction.nd
    have hr5 : Room (k + 5) _ := hr.mono (by omega)
    have hr3 : Room (k + 3) _ := hr.mono (by omega)
    have hr2 : Room (k + 2) _ := hr.mono (by omega)
    have hs := hR.here.1
    refine ⟨_, pss_cons (ps_set (i := 1) nd rfl (.inl rfl) (pe_meth0 (pv 0) M.R.cl mN GN hr3 bN .nil (passE (takes_of rfl rfl rfl rfl))))
      (pss_cons (ps_set (i := 2) nd rfl (.inl rfl) (pe_call G1 hr5 (by rfl) g1 k1 b1 .nil (passE (takes_of rfl rfl rfl rfl)) (pa_cons (pv 0) pa_nil)))
      (pss_cons (ps_set (i := 3) nd rfl (.inl rfl) (pe_lst pa_nil))
      (pss_cons (ps_expr (pe_meth (pv 0) M.R.cl mT GT hr3 bT .nil (passE (takes_of rfl rfl rfl rfl)) (pa_cons pe_str pa_nil)))
      (pss_cons (ps_while (passes_of rfl) (pt_not (pt_val (pe_meth (pv 0) M.R.cl mS GS hr2 bS .nil pass0 (pa_cons pe_str pa_nil)) (by intro _; rfl))) (pss_one (ps_expr (pe_bm PySem.F.plainAttrs_list PySem.F.slot_list_append PySem.F.type_list_append mt_append (pv 3) (pa_cons (pe_call G2 hr (by rfl) g2 k2 b2 .nil (passE (takes_of rfl rfl rfl rfl)) (pa_cons (pv 0) pa_nil)) pa_nil)))))
      (pss_one (ps_ret (pe_tup (pa_cons pe_str (pa_cons (pv 1) (pa_cons (pv 2) (pa_cons (pv 3) pa_nil))))))))))), ?_⟩
    unfold mAction at q
    refine name_rd (k := k) rfl hR (Ev.refl _ _) (fun l e => by rw [e] at q; exact q) fun v r1 e1 H1 ev1 R1 => ?_
    rw [e1, bd_ok] at q
    refine part_rd rfl R1 ev1 (fun l e => by have e' := asL_err e; rw [e'] at q; exact q) fun d r2 e2 H2 v2 ev2 R2 d2 => ⟨Nat.zero_le _, fun p hp => ?_⟩
    obtain ⟨ds, e2', rfl⟩ := asL_ok e2
    rw [e2', bd_ok] at q
    have E2 := ev1.trans ev2
    have L0 := LSt.start (K := K) R2 hp
    refine take_rd (by decide +kernel) rfl L0.rd (E2.trans L0.ev) (fun l e => by rw [e] at q; exact q) fun r3 e3 H3 ev3 R3 => ?_
    rw [e3, bd_ok] at q
    refine loop_rd (E := E) (cT := cT) (by decide +kernel) oper_short rfl (L0.adv ev3 R3 (Nat.le_of_lt (take_lt e3))) (fun N H5 ds5 r5 L5 q5 => ?_) ?_
    · obtain ⟨vs5, hv5, _⟩ := L5.at_
      refine ⟨_, rfl, .inl ⟨rfl, _, SqL.of hv5⟩, ?_⟩
      refine part_rd rfl L5.rd L5.ev (fun l e => by rw [e] at q5; exact q5) fun d r6 e6 H6 v6 ev6 R6 d6 => ?_
      rw [e6] at q5
      obtain ⟨vs6, hv6, hl6, L6⟩ := L5.app ev6 R6 d6 (oper_short _ _ _ e6)
      exact ⟨p, vs6, v6, rfl, rfl, hv6, hl6, q5 _ L6⟩
    · cases e5 : mLoop "}" mOper (r3.length + 1) r3 with
      | error l => rw [e5] at q; exact q.ev E2
      | ok pr =>
        rw [e5, bd_ok] at q
        intro H5 L5
        refine ⟨_, rfl, _, rfl, _, rfl, (by show 4 ≤ sizeLine; decide), fun p2 hp2 => ?_⟩
        obtain ⟨x1, x2, x3⟩ := mk_tup (E2.trans L5.ev) L5.rd hs hp2 (.cons (.str _) (.cons (tvD_dr (kind_tv hR e1)) (.cons (lift ev1 R1 L5.ev d2) (.cons (lift E2 R2 (Ev.refl _ _) L5.fin) .nil))))
        exact q _ _ x1 x2 x3
theorem scpTable : FnScope ["reader", "name", "keys", "uses", "default", "size"] ["reader"] (defScope pTable) := ⟨rfl, rfl, rfl, by decide +kernel, rfl, by decide +kernel, by decide +kernel⟩
theorem ok_pTable {f : Addr} {fd : FuncData} {k : Nat} (F : Fun K "parse_table" "parse_table" pTable f fd) (M : RM P w K mg base k C cT) (D1 : Df P w K mg base (L2.CX P w) (k + 6) "parse_key" RP (spP K C cT mKey)) (D2 : Df P w K mg base (L2.CX P w) (k + 5) "parse_default" RP (spP K C cT mDefault)) :
    FnOk P w K mg base (L2.CX P w) (k + 7) f fd ["reader"] (spP K C cT mTable) := by
  obtain ⟨fS, fdS, GS, mS, bS⟩ := M.skip.ex
  obtain ⟨fT, fdT, GT, mT, bT⟩ := M.take.ex
  obtain ⟨fN, fdN, GN, mN, bN⟩ := M.name.ex
  obtain ⟨fU, fdU, GU, mU, bU⟩ := M.num.ex
  obtain ⟨f1, fd1, G1, g1, k1, b1⟩ := D1.ex
  obtain ⟨f2, fd2, G2, g2, k2, b2⟩ := D2.ex
  refine F.okX scpTable (fun vs H Q E h => ?_) (fun cdv A outer s H vs Q E hr h => ?_)
  · obtain ⟨a, tl, r, rfl, _⟩ := h
    rfl
  · obtain ⟨a, tl, r, rfl, hR, q⟩ := h
    have nd := scpTable.nd
    have hr5 : Room (k + 5) _ := hr.mono (by omega)
    have hr3 : Room (k + 3) _ := hr.mono (by omega)
    have hr2 : Room (k + 2) _ := hr.mono (by omega)
    have hs := hR.here.1
    refine ⟨_, pss_cons (ps_set (i := 1) nd rfl (.inl rfl) (pe_meth0 (pv 0) M.R.cl mN GN hr3 bN .nil (passE (takes_of rfl rfl rfl rfl))))
      (pss_cons (ps_expr (pe_meth (pv 0) M.R.cl mT GT hr3 bT .nil (passE (takes_of rfl rfl rfl rfl)) (pa_cons pe_str pa_nil)))
      (pss_cons (ps_set (i := 2) nd rfl (.inl rfl) (pe_lst pa_nil))
      (pss_cons (ps_while (passes_of rfl) (pt_val (pe_meth (pv 0) M.R.cl mS GS hr2 bS .nil pass0 (pa_cons pe_str pa_nil)) (by intro _; rfl)) (pss_one (ps_expr (pe_bm PySem.F.plainAttrs_list PySem.F.slot_list_append PySem.F.type_list_append mt_append (pv 2) (pa_cons (pe_call G1 hr (by rfl) g1 k1 b1 .nil (passE (takes_of rfl rfl rfl rfl)) (pa_cons (pv 0) pa_nil)) pa_nil)))))
      (pss_cons (ps_set (i := 3) nd rfl (.inl rfl) (pe_lst pa_nil))
      (pss_cons (ps_while (passes_of rfl) (pt_val (pe_meth (pv 0) M.R.cl mS GS hr2 bS .nil pass0 (pa_cons pe_str pa_nil)) (by intro _; rfl)) (pss_cons (ps_expr (pe_bm PySem.F.plainAttrs_list PySem.F.slot_list_append PySem.F.type_list_append mt_append (pv 3) (pa_cons (pe_meth0 (pv 0) M.R.cl mN GN hr3 bN .nil (passE (takes_of rfl rfl rfl rfl))) pa_nil))) (pss_one (ps_expr (pe_meth (pv 0) M.R.cl mT GT hr3 bT .nil (passE (takes_of rfl rfl rfl rfl)) (pa_cons pe_str pa_nil))))))
      (pss_cons (ps_set (i := 4) nd rfl (.inl rfl) (pe_call G2 hr5 (by rfl) g2 k2 b2 .nil (passE (takes_of rfl rfl rfl rfl)) (pa_cons (pv 0) pa_nil)))
      (pss_cons (ps_expr (pe_meth (pv 0) M.R.cl mT GT hr3 bT .nil (passE (takes_of rfl rfl rfl rfl)) (pa_cons pe_str pa_nil)))
      (pss_cons (ps_set (i := 5) nd rfl (.inl rfl) (pe_meth0 (pv 0) M.R.cl mU GU hr3 bU .nil (passE (takes_of rfl rfl rfl rfl))))
      (pss_cons (ps_expr (pe_meth (pv 0) M.R.cl mT GT hr3 bT .nil (passE (takes_of rfl rfl rfl rfl)) (pa_cons pe_str pa_nil)))
      (pss_cons (ps_expr (pe_meth (pv 0) M.R.cl mT GT hr3 bT .nil (passE (takes_of rfl rfl rfl rfl)) (pa_cons pe_str pa_nil)))
      (pss_one (ps_ret (pe_tup (pa_cons pe_str (pa_cons (pv 1) (pa_cons (pv 2) (pa_cons (pv 3) (pa_cons (pv 4) (pa_cons (pv 5) pa_nil))))))))))))))))))), ?_⟩
    unfold mTable at q
    refine name_rd (k := k) rfl hR (Ev.refl _ _) (fun l e => by rw [e] at q; exact q) fun v r1 e1 H1 ev1 R1 => ?_
    rw [e1, bd_ok] at q
    refine take_rd (by decide +kernel) rfl R1 ev1 (fun l e => by rw [e] at q; exact q) fun r2 e2 H2 ev2 R2 => ⟨Nat.zero_le _, fun p hp => ?_⟩
    rw [e2, bd_ok] at q
    have E2 := ev1.trans ev2
    refine many_rd (E := E) (cT := cT) (by decide +kernel) key_short rfl (LSt.start (K := K) R2 hp) (fun N H5 ds5 r5 L5 q5 => ?_) ?_
    · obtain ⟨vs5, hv5, _⟩ := L5.at_
      refine ⟨_, rfl, .inl ⟨rfl, _, SqL.of hv5⟩, ?_⟩
      refine part_rd rfl L5.rd L5.ev (fun l e => by rw [e] at q5; exact q5) fun d r6 e6 H6 v6 ev6 R6 d6 => ?_
      rw [e6] at q5
      obtain ⟨vs6, hv6, hl6, L6⟩ := L5.app ev6 R6 d6 (key_short _ _ _ e6)
      exact ⟨p, vs6, v6, rfl, rfl, hv6, hl6, q5 _ L6⟩
    cases e3 : mMany "key" mKey (r2.length + 1) r2 with
    | error l => rw [e3] at q; exact q.ev E2
    | ok pr =>
    rw [e3, bd_ok] at q
    intro H3 L3
    have E3 := E2.trans L3.ev
    have R3 := L3.rd
    refine ⟨Nat.zero_le _, fun p4 hp4 => ?_⟩
    refine many_rd (E := E) (cT := cT) (by decide +kernel) nameS_short rfl (LSt.start (K := K) R3 hp4) (fun N H5 ds5 r5 L5 q5 => ?_) ?_
    · obtain ⟨vs5, hv5, _⟩ := L5.at_
      refine ⟨_, rfl, .inl ⟨rfl, _, SqL.of hv5⟩, ?_⟩
      unfold mNameS at q5
      refine name_rd (k := k) rfl L5.rd L5.ev (fun l e => by rw [e] at q5; exact q5) fun v6 r6 e6 H6 ev6 R6 => ?_
      rw [e6, bd_ok] at q5
      obtain ⟨vs6, hv6, hl6, L6⟩ := L5.app ev6 R6 (tvD_dr (kind_tv L5.rd e6)) (name_lt e6)
      refine ⟨p4, vs6, v6, rfl, rfl, hv6, hl6, ?_⟩
      refine take_rd (by decide +kernel) rfl L6.rd L6.ev (fun l e => by rw [e] at q5; exact q5) fun r7 e7 H7 ev7 R7 => ?_
      rw [e7, bd_ok] at q5
      exact q5 _ (L6.adv ev7 R7 (Nat.le_of_lt (take_lt e7)))
    cases e4 : mMany "use" mNameS (pr.2.length + 1) pr.2 with
    | error l => rw [e4] at q; exact q.ev E3
    | ok pr4 =>
    rw [e4, bd_ok] at q
    intro H4 L4
    have E4 := E3.trans L4.ev
    refine part_rd rfl L4.rd E4 (fun l e => by rw [e] at q; exact q) fun d5 r5 e5 H5 v5 ev5 R5 dd5 => ?_
    rw [e5, bd_ok] at q
    have E5 := E4.trans ev5
    refine take_rd (by decide +kernel) rfl R5 E5 (fun l e => by rw [e] at q; exact q) fun r6 e6 H6 ev6 R6 => ?_
    rw [e6, bd_ok] at q
    have E6 := E5.trans ev6
    refine num_rd (k := k) rfl R6 E6 (fun l e => by rw [e] at q; exact q) fun v7 r7 e7 H7 ev7 R7 => ?_
    rw [e7, bd_ok] at q
    have E7 := E6.trans ev7
    refine take_rd (by decide +kernel) rfl R7 E7 (fun l e => by rw [e] at q; exact q) fun r8 e8 H8 ev8 R8 => ?_
    rw [e8, bd_ok] at q
    have E8 := E7.trans ev8
    refine take_rd (by decide +kernel) rfl R8 E8 (fun l e => by rw [e] at q; exact q) fun r9 e9 H9 ev9 R9 => ?_
    rw [e9, bd_ok] at q
    have E9 := E8.trans ev9
    have T59 := ((ev6.trans ev7).trans ev8).trans ev9
    refine ⟨_, rfl, _, rfl, _, rfl, _, rfl, _, rfl, (by show 6 ≤ sizeLine; decide), fun p9 hp9 => ?_⟩
    obtain ⟨x1, x2, x3⟩ := mk_tup E9 R9 hs hp9 (.cons (.str _) (.cons (tvD_dr (kind_tv hR e1)) (.cons (lift E2 R2 ((L4.ev.trans ev5).trans T59) L3.fin) (.cons (lift E3 R3 (ev5.trans T59) L4.fin) (.cons (lift E4 L4.rd T59 dd5) (.cons (tvD_dr (kind_tv R6 e7)) .nil))))))
    exact q _ _ x1 x2 x3
theorem scpEmits : FnScope ["reader", "names"] ["reader"] (defScope pEmits) := ⟨rfl, rfl, rfl, by decide +kernel, rfl, by decide +kernel, by decide +kernel⟩
theorem ok_pEmits {f : Addr} {fd : FuncData} {k : Nat} (F : Fun K "parse_emits" "parse_emits" pEmits f fd) (M : RM P w K mg base k C cT) : FnOk P w K mg base (L2.CX P w) (k + 4) f fd ["reader"] (spP K C cT (asL mEmits)) := by
  obtain ⟨fS, fdS, GS, mS, bS⟩ := M.skip.ex
  obtain ⟨fT, fdT, GT, mT, bT⟩ := M.take.ex
  obtain ⟨fN, fdN, GN, mN, bN⟩ := M.name.ex
  refine F.okX scpEmits (fun vs H Q E h => ?_) (fun cdv A outer s H vs Q E hr h => ?_)
  · obtain ⟨a, tl, r, rfl, _⟩ := h
    rfl
  · obtain ⟨a, tl, r, rfl, hR, q⟩ := h
    have nd := scpEmits.nd
    have hr3 : Room (k + 3) _ := hr.mono (by omega)
    have hr2 : Room (k + 2) _ := hr.mono (by omega)
    have hs := hR.here.1
    refine ⟨_, pss_cons (ps_set (i := 1) nd rfl (.inl rfl) (pe_lst (pa_cons (pe_meth0 (pv 0) M.R.cl mN GN hr3 bN .nil (passE (takes_of rfl rfl rfl rfl))) pa_nil)))
      (pss_cons (ps_while (passes_of rfl) (pt_val (pe_meth (pv 0) M.R.cl mS GS hr2 bS .nil pass0 (pa_cons pe_str pa_nil)) (by intro _; rfl)) (pss_one (ps_expr (pe_bm PySem.F.plainAttrs_list PySem.F.slot_list_append PySem.F.type_list_append mt_append (pv 1) (pa_cons (pe_meth0 (pv 0) M.R.cl mN GN hr3 bN .nil (passE (takes_of rfl rfl rfl rfl))) pa_nil)))))
      (pss_cons (ps_expr (pe_meth (pv 0) M.R.cl mT GT hr3 bT .nil (passE (takes_of rfl rfl rfl rfl)) (pa_cons pe_str pa_nil))) (pss_one (ps_ret (pv 1))))), ?_⟩
    unfold asL mEmits at q
    refine name_rd (k := k) rfl hR (Ev.refl _ _) (fun l e => by rw [e] at q; exact q) fun v r3 e3 H3 ev3 R3 => ⟨(by show 1 ≤ sizeLine; decide), fun p hp => ?_⟩
    rw [e3, bd_ok] at q
    have hl3 := name_lt e3
    have hl1 := hR.ok.len
    have L0 := LSt.start1 (K := K) hR.here.1 hR.here.2 ev3 R3 hp (tvD_dr (kind_tv hR e3)) (by omega)
    refine many_rd (E := E) (cT := cT) (by decide +kernel) nameD_short rfl L0 (fun N H5 ds r5 L5 q5 => ?_) ?_
    · obtain ⟨vs5, hv5, _⟩ := L5.at_
      refine ⟨_, rfl, .inl ⟨rfl, _, SqL.of hv5⟩, ?_⟩
      refine name_rd (k := k) rfl L5.rd L5.ev (fun l e => by unfold mNameD at q5; rw [e] at q5; exact q5) fun v6 r6 e6 H6 ev6 R6 => ?_
      have e6' : mNameD r5 = .ok (tvD v6, r6) := by unfold mNameD; rw [e6]; rfl
      rw [e6'] at q5
      obtain ⟨vs6, hv6, hl6, L6⟩ := L5.app ev6 R6 (tvD_dr (kind_tv L5.rd e6)) (name_lt e6)
      exact ⟨p, vs6, v6, rfl, rfl, hv6, hl6, q5 _ L6⟩
    · cases e4 : mMany "," mNameD (r3.length + 1) r3 with
      | error l => rw [e4] at q; exact q
      | ok pr =>
        rw [e4, bd_ok] at q
        intro H5 L5
        refine take_rd (by decide +kernel) rfl L5.rd L5.ev (fun l e => by rw [e] at q; exact q) fun r6 e6 H6 ev6 R6 => ?_
        rw [e6, bd_ok, bd_ok] at q
        have L6 := L5.adv ev6 R6 (Nat.le_of_lt (take_lt e6))
        exact ⟨_, rfl, q _ _ L6.ev R6 L6.fin⟩
end
end Pk
set_option Elab.async false
set_option linter.all false
set_option maxRecDepth 100000
set_option maxHeartbeats 4000000
namespace Pk
open PySem PySem.Spec PyProof.Rows L2 SX GxR Tk PySem.ErX
abbrev pBlock : Stmt := topS 55
abbrev pStmt : Stmt := topS 56
section
variable {P : Program} {w : World} {K : PySem.W.Frag} {mg : Str → Option Value} {base : Heap} {C cT : Addr}
theorem mNots_s (n : Nat) (r : Tk.Rem) : mNots (n + 1) r = if wordAt "not" r = true then ((mNots n r.tail).1 + 1, (mNots n r.tail).2) else (0, r) := by rw [mNots]
theorem scpCond : FnScope ["reader", "nots", "condition", "_"] ["reader"] (defScope pCond) := ⟨rfl, rfl, rfl, by decide +kernel, rfl, by decide +kernel, by decide +kernel⟩
theorem ok_pCond {f : Addr} {fd : FuncData} {k : Nat} (F : Fun K "parse_condition" "parse_condition" pCond f fd) (M : RM P w K mg base k C cT) (T : PTx K mg) (zRange : mg "range" = none) (D1 : Df P w K mg base (L2.CX P w) (k + 6) "parse_comparison" RP (spP K C cT mCmp)) :
    FnOk P w K mg base (L2.CX P w) (k + 7) f fd ["reader"] (spP K C cT mCond) := by
  obtain ⟨fS, fdS, GS, mS, bS⟩ := M.skip.ex
  obtain ⟨f1, fd1, G1, g1, k1, b1⟩ := D1.ex
  obtain ⟨un, gn, rn⟩ := T.MNO
  refine F.okX scpCond (fun vs H Q E h => ?_) (fun cdv A outer s H vs Q E hr h => ?_)
  · obtain ⟨a, tl, r, rfl, _⟩ := h
    rfl
  · obtain ⟨a, tl, r, rfl, hR, q⟩ := h
    have nd := scpCond.nd
    have hr2 : Room (k + 2) _ := hr.mono (by omega)
    have hs := hR.here.1
    refine ⟨_, pss_cons (ps_set (i := 1) nd rfl (.inl rfl) pe_int)
      (pss_cons (ps_while (passes_of rfl) (PW.pt (pw_and (pt_cmpR op_lt (pv 1) (pe_glob rfl gn rn) (nomark _)) (pw_and1 (pt_val (pe_meth (pv 0) M.R.cl mS GS hr2 bS .nil pass0 (pa_cons pe_str pa_nil)) (by intro _; rfl))))) (pss_one (ps_aug (i := 1) nd rfl (.inl rfl) pe_int ip_add)))
      (pss_cons (ps_set (i := 2) nd rfl (.inl rfl) (pe_call G1 hr (by rfl) g1 k1 b1 .nil (passE (takes_of rfl rfl rfl rfl)) (pa_cons (pv 0) pa_nil)))
      (pss_cons (ps_for (passes_of rfl) rfl (pi_range1 (by rfl) zRange (pa_cons (pv 1) pa_nil)) (pg_name (i := 3) nd rfl (.inl rfl)) (pss_one (ps_set (i := 2) nd rfl (.inl rfl) (pe_tup (pa_cons pe_str (pa_cons (pv 2) pa_nil))))))
      (pss_one (ps_ret (pv 2)))))), ?_⟩
    unfold mCond at q
    refine ⟨fun m σ' H' => ∃ (n : Nat) (r' : Tk.Rem), m = 8 - n ∧ σ' = [some (.ref a), some (.int (n : Nat)), none, none] ∧ n ≤ 8 ∧ Ev a H H' ∧ Rd C H' a tl r' ∧ mNots 8 r = ((mNots (8 - n) r').1 + n, (mNots (8 - n) r').2), ⟨8, 0, r, rfl, rfl, by decide, Ev.refl _ _, hR, rfl⟩, ?_⟩
    rintro m σ' H1 ⟨n, r1, rfl, rfl, hn, ev1, R1, en⟩
    have fin : ∀ H2, Ev a H H2 → Rd C H2 a tl r1 → mNots 8 r = (n, r1) → tSeq (tAsg (tCall (spP K C cT mCmp) [] E (tCons (tVar 0) tNil)) (gName 2)) (tSeq (tFor (iRng1 (tCons (tVar 1) tNil)) (gName 3) (tAsg (tTup (tCons (tC (.str "not")) (tCons (tVar 2) tNil))) (gName 2))) (tRet (tVar 2)))
        { nx := fun _ H' => Q .non H', rt := Q } [some (.ref a), some (.int (n : Nat)), none, none] H2 := fun H2 ev2 R2 e0 => by
      rw [e0] at q
      refine part_rd rfl R2 ev2 (fun l e => by rw [e] at q; exact q) fun d r3 e3 H3 v ev3 R3 d3 => ?_
      have q' : PostD K C cT a tl H Q E (bd (mCmp r1) fun c => .ok (wrapN n c.1, c.2)) := q
      rw [e3, bd_ok] at q'
      have E3 := ev2.trans ev3
      refine ⟨_, rfl, (n : Nat), rfl, by omega, by omega, for_range (lo := 0) (n := ((n : Nat) : Int).toNat) (fun i σ' H' => ∃ v' v3, σ' = [some (.ref a), some (.int (n : Nat)), some v', v3] ∧ Ev a H H' ∧ Rd C H' a tl r3 ∧ Dr (New H H') v' (wrapN i d))
        ⟨v, none, rfl, E3, R3, lift ev2 R2 (Ev.refl _ _) d3⟩ ?_ ?_⟩
      · rintro i σ' H4 hi ⟨v', v3, rfl, E4, R4, d4⟩
        refine ⟨_, rfl, (by show 2 ≤ sizeLine; decide), fun p hp => ?_⟩
        obtain ⟨x1, x2, x3⟩ := mk_tup E4 R4 hs hp (.cons (.str _) (.cons d4 .nil))
        exact ⟨_, _, rfl, x1, x2, x3⟩
      · rintro σ' H4 ⟨v', v3, rfl, E4, R4, d4⟩
        rw [Int.toNat_natCast] at d4
        exact ⟨_, rfl, q' _ _ E4 R4 d4⟩
    refine ⟨_, rfl, _, _, rfl, rfl, _, rfl, iteD (fun hlt => ?_) fun hlt => ?_⟩
    · obtain ⟨j, hj⟩ : ∃ j, 8 - n = j + 1 := ⟨7 - n, by omega⟩
      rw [hj, mNots_s j r1] at en
      refine skip_rd (by decide +kernel) rfl R1 fun H2 ev2 R2 => ⟨_, rfl, ?_⟩
      cases hc : wordAt "not" r1 with
      | true =>
        rw [hc, if_pos rfl] at en
        rw [mSkip_t hc] at R2
        refine iteT ⟨fun σ2 H3 => ∃ m', m' < 8 - n ∧ ∃ (n : Nat) (r' : Tk.Rem), m' = 8 - n ∧ σ2 = [some (.ref a), some (.int (n : Nat)), none, none] ∧ n ≤ 8 ∧ Ev a H H3 ∧ Rd C H3 a tl r' ∧ mNots 8 r = ((mNots (8 - n) r').1 + n, (mNots (8 - n) r').2), fun _ _ h => h, ?_⟩
        refine ⟨_, rfl, _, _, rfl, rfl, 8 - (n + 1), by omega, n + 1, r1.tail, rfl, rfl, by omega, ev1.trans ev2, R2, ?_⟩
        have e8 : 8 - (n + 1) = j := by omega
        rw [en, e8]
        show (_, _) = (_, _)
        congr 1
        omega
      | false =>
        rw [hc, if_neg Bool.false_ne_true] at en
        rw [mSkip_f hc] at R2
        exact iteF (fin H2 (ev1.trans ev2) R2 (by rw [en]; show (0 + n, r1) = _; rw [Nat.zero_add]))
    · have h8 : n = 8 := by omega
      subst h8
      exact iteF (fin H1 ev1 R1 (by rw [en]; show (0 + 8, r1) = _; rfl))
def spBlk (K : PySem.W.Frag) (C cT : Addr) (n : Nat) : Sp := fun vs H Q E => ∃ (a tl : Addr) (r : Tk.Rem), vs = [.ref a, .int (8 - (n : Int))] ∧ n ≤ 8 ∧ Rd C H a tl r ∧ PostD K C cT a tl H Q E (asL (mBlock n) r)
def spStm (K : PySem.W.Frag) (C cT : Addr) (n : Nat) : Sp := fun vs H Q E => ∃ (a tl : Addr) (r : Tk.Rem), vs = [.ref a, .int (8 - (n : Int))] ∧ n ≤ 8 ∧ Rd C H a tl r ∧ PostD K C cT a tl H Q E (mStmt (mBlock n) r)
abbrev RO : List Str := ["reader", "outer"]
theorem scpStmt : FnScope ["reader", "outer", "name", "condition", "then", "other"] ["reader", "outer"] (defScope pStmt) := ⟨rfl, rfl, rfl, by decide +kernel, rfl, by decide +kernel, by decide +kernel⟩
theorem scpBlock : FnScope ["reader", "outer", "statements"] ["reader", "outer"] (defScope pBlock) := ⟨rfl, rfl, rfl, by decide +kernel, rfl, by decide +kernel, by decide +kernel⟩
theorem ok_pStmt {f : Addr} {fd : FuncData} {k n : Nat} (hk : 9 ≤ k) (F : Fun K "parse_statement" "parse_statement" pStmt f fd) (M : RM P w K mg base 0 C cT) (D1 : Df P w K mg base (L2.CX P w) 7 "parse_condition" RP (spP K C cT mCond)) (D2 : Df P w K mg base (L2.CX P w) k "parse_block" RO (spBlk K C cT n)) :
    FnOk P w K mg base (L2.CX P w) (k + 1) f fd ["reader", "outer"] (spStm K C cT n) := by
  obtain ⟨fS, fdS, GS, mS, bS⟩ := M.skip.ex
  obtain ⟨fT, fdT, GT, mT, bT⟩ := M.take.ex
  obtain ⟨fN, fdN, GN, mN, bN⟩ := M.name.ex
  obtain ⟨f1, fd1, G1, g1, k1, b1⟩ := D1.ex
  obtain ⟨f2, fd2, G2, g2, k2, b2⟩ := D2.ex
  refine F.okX scpStmt (fun vs H Q E h => ?_) (fun cdv A outer s H vs Q E hr h => ?_)
  · obtain ⟨a, tl, r, rfl, _⟩ := h
    rfl
  · obtain ⟨a, tl, r, rfl, hn8, hR, q⟩ := h
    have nd := scpStmt.nd
    have hr7 : Room 7 _ := hr.mono (by omega)
    have hr3 : Room (0 + 3) _ := hr.mono (by omega)
    have hr2 : Room (0 + 2) _ := hr.mono (by omega)
    have hs := hR.here.1
    refine ⟨_, pss_cons (ps_if (pt_val (pe_meth (pv 0) M.R.cl mS GS hr2 bS .nil pass0 (pa_cons pe_str pa_nil)) (by intro _; rfl)) (pss_cons (ps_set (i := 2) nd rfl (.inl rfl) (pe_meth0 (pv 0) M.R.cl mN GN hr3 bN .nil (passE (takes_of rfl rfl rfl rfl)))) (pss_cons (ps_expr (pe_meth (pv 0) M.R.cl mT GT hr3 bT .nil (passE (takes_of rfl rfl rfl rfl)) (pa_cons pe_str pa_nil))) (pss_one (ps_ret (pe_tup (pa_cons pe_str (pa_cons (pv 2) pa_nil))))))) pss_nil)
      (pss_cons (ps_expr (pe_meth (pv 0) M.R.cl mT GT hr3 bT .nil (passE (takes_of rfl rfl rfl rfl)) (pa_cons pe_str pa_nil)))
      (pss_cons (ps_set (i := 3) nd rfl (.inl rfl) (pe_call G1 hr7 (by rfl) g1 k1 b1 .nil (passE (takes_of rfl rfl rfl rfl)) (pa_cons (pv 0) pa_nil)))
      (pss_cons (ps_set (i := 4) nd rfl (.inl rfl) (pe_call G2 hr (by rfl) g2 k2 b2 .nil (passE (takes_of rfl rfl rfl rfl)) (pa_cons (pv 0) (pa_cons (pv 1) pa_nil))))
      (pss_cons (ps_set (i := 5) nd rfl (.inl rfl) (pe_lst pa_nil))
      (C8.pss_cut (ps_if (pt_val (pe_meth (pv 0) M.R.cl mS GS hr2 bS .nil pass0 (pa_cons pe_str pa_nil)) (by intro _; rfl)) (pss_one (ps_set (i := 5) nd rfl (.inl rfl) (pe_call G2 hr (by rfl) g2 k2 b2 .nil (passE (takes_of rfl rfl rfl rfl)) (pa_cons (pv 0) (pa_cons (pv 1) pa_nil))))) pss_nil)
      (pss_one (ps_ret (pe_tup (pa_cons pe_str (pa_cons (pv 3) (pa_cons (pv 4) (pa_cons (pv 5) pa_nil)))))))))))), ?_⟩
    unfold mStmt at q
    refine skip_rd (by decide +kernel) rfl hR fun H1 ev1 R1 => ⟨_, rfl, ?_⟩
    cases hc : wordAt "apply" r with
    | true =>
      rw [hc, if_pos rfl] at q
      rw [mSkip_t hc] at R1
      refine iteT (name_rd (k := 0) rfl R1 ev1 (fun l e => by rw [e] at q; exact q) fun v r2 e2 H2 ev2 R2 => ?_)
      rw [e2, bd_ok] at q
      refine take_rd (by decide +kernel) rfl R2 (ev1.trans ev2) (fun l e => by rw [e] at q; exact q) fun r3 e3 H3 ev3 R3 => ⟨_, rfl, (by show 2 ≤ sizeLine; decide), fun p hp => ?_⟩
      rw [e3, bd_ok] at q
      obtain ⟨x1, x2, x3⟩ := mk_tup ((ev1.trans ev2).trans ev3) R3 hs hp (.cons (.str _) (.cons (tvD_dr (kind_tv R1 e2)) .nil))
      exact q _ _ x1 x2 x3
    | false =>
      rw [hc, if_neg Bool.false_ne_true] at q
      rw [mSkip_f hc] at R1
      refine iteF (take_rd (by decide +kernel) rfl R1 ev1 (fun l e => by rw [e] at q; exact q) fun r2 e2 H2 ev2 R2 => ?_)
      rw [e2, bd_ok] at q
      have E2 := ev1.trans ev2
      refine part_rd rfl R2 E2 (fun l e => by rw [e] at q; exact q) fun d3 r3 e3 H3 v3 ev3 R3 dd3 => ?_
      rw [e3, bd_ok] at q
      have E3 := E2.trans ev3
      refine ⟨_, rfl, _, rfl, a, tl, r3, rfl, hn8, R3, ?_⟩
      unfold asL
      cases e4 : mBlock n r3 with
      | error l => rw [e4] at q; exact q.ev E3
      | ok pr4 =>
      rw [e4, bd_ok] at q
      intro H4 v4 ev4 R4 dd4
      have E4 := E3.trans ev4
      refine ⟨Nat.zero_le _, fun p5 hp5 => ?_⟩
      have ev5 : Ev a H4 (upd H4 p5 (.lst [])) := Ev.same (same_new hp5)
      have R5 := R4.same (same_new (o := .lst []) hp5)
      have E5 := E4.trans ev5
      have dd5 : Dr (New H (upd H4 p5 (.lst []))) (.ref p5) (.list []) := .lst (New.of (ev_none E4 R4.here.1 p5 hp5) upd_same) .nil
      refine ⟨fun σ' H' => ∃ vo ds r', σ' = [some (.ref a), some (.int (8 - (n : Int))), none, some v3, some v4, some vo] ∧ Ev a H4 H' ∧ Rd C H' a tl r' ∧ (if wordAt "else" pr4.2 = true then mBlock n pr4.2.tail else .ok ([], pr4.2)) = .ok (ds, r') ∧ Dr (New H H') vo (.list ds), ?_, ?_⟩
      · refine skip_rd (by decide +kernel) rfl R5 fun H6 ev6 R6 => ⟨_, rfl, ?_⟩
        cases hc2 : wordAt "else" pr4.2 with
        | true =>
          rw [hc2, if_pos rfl] at q
          rw [mSkip_t hc2] at R6
          refine iteT ⟨_, rfl, _, rfl, a, tl, pr4.2.tail, rfl, hn8, R6, ?_⟩
          unfold asL
          cases e7 : mBlock n pr4.2.tail with
          | error l => rw [e7] at q; exact q.ev (E5.trans ev6)
          | ok pr7 =>
            rw [bd_ok]
            intro H7 v7 ev7 R7 dd7
            exact ⟨v7, pr7.1, pr7.2, rfl, (ev5.trans ev6).trans ev7, R7, by rw [if_pos rfl], lift (E5.trans ev6) R6 (Ev.refl _ _) dd7⟩
        | false =>
          rw [mSkip_f hc2] at R6
          exact iteF ⟨_, [], pr4.2, rfl, ev5.trans ev6, R6, by rw [if_neg Bool.false_ne_true], liftS hs ev6 dd5⟩
      · rintro σ7 H7 ⟨vo, ds, r7, rfl, ev7, R7, e7, dd7⟩
        rw [e7, bd_ok] at q
        refine ⟨_, rfl, _, rfl, _, rfl, (by show 4 ≤ sizeLine; decide), fun p hp => ?_⟩
        obtain ⟨x1, x2, x3⟩ := mk_tup (E4.trans ev7) R7 hs hp (.cons (.str _) (.cons (lift E2 R2 (ev4.trans ev7) dd3) (.cons (lift E3 R3 ev7 dd4) (.cons dd7 .nil))))
        exact q _ _ x1 x2 x3
theorem ok_none {f : Addr} {fd : FuncData} {k : Nat} (F : Fun K "parse_statement" "parse_statement" pStmt f fd) : FnOk P w K mg base (L2.CX P w) (k + 1) f fd ["reader", "outer"] (fun _ _ _ _ => False) :=
  F.okX scpStmt (fun _ _ _ _ h => h.elim) (fun _ _ _ _ _ _ _ _ _ h => h.elim)
theorem ok_pBlock0 {f : Addr} {fd : FuncData} {k : Nat} (hk : 8 ≤ k) (F : Fun K "parse_block" "parse_block" pBlock f fd) (M : RM P w K mg base 0 C cT) (T : PTx K mg) (D2 : Df P w K mg base (L2.CX P w) k "parse_statement" RO (fun _ _ _ _ => False)) :
    FnOk P w K mg base (L2.CX P w) (k + 1) f fd ["reader", "outer"] (spBlk K C cT 0) := by
  obtain ⟨fF, fdF, GF, mF, bF⟩ := M.fail.ex
  obtain ⟨fS, fdS, GS, mS, bS⟩ := M.skip.ex
  obtain ⟨fT, fdT, GT, mT, bT⟩ := M.take.ex
  obtain ⟨f2, fd2, G2, g2, k2, b2⟩ := D2.ex
  obtain ⟨un, gn, rn⟩ := T.MBL
  refine F.okX scpBlock (fun vs H Q E h => ?_) (fun cdv A outer s H vs Q E hr h => ?_)
  · obtain ⟨a, tl, r, rfl, _⟩ := h
    rfl
  · obtain ⟨a, tl, r, rfl, hn8, hR, q⟩ := h
    have nd := scpBlock.nd
    have hr3 : Room (0 + 3) _ := hr.mono (by omega)
    have hr2 : Room (0 + 2) _ := hr.mono (by omega)
    have hr1 : Room (0 + 1) _ := hr.mono (by omega)
    have hs := hR.here.1
    refine ⟨_, pss_cons (ps_if (pt_cmpR op_eq (pv 1) (pe_glob rfl gn rn) (nomark _)) (pss_one (ps_expr (pe_meth0 (pv 0) M.R.cl mF GF hr1 bF .nil (passE (takes_of rfl rfl rfl rfl))))) pss_nil)
      (pss_cons (ps_set (i := 2) nd rfl (.inl rfl) (pe_lst pa_nil))
      (pss_cons (ps_expr (pe_meth (pv 0) M.R.cl mT GT hr3 bT .nil (passE (takes_of rfl rfl rfl rfl)) (pa_cons pe_str pa_nil)))
      (pss_cons (ps_while (passes_of rfl) (pt_not (pt_val (pe_meth (pv 0) M.R.cl mS GS hr2 bS .nil pass0 (pa_cons pe_str pa_nil)) (by intro _; rfl))) (pss_one (ps_expr (pe_bm PySem.F.plainAttrs_list PySem.F.slot_list_append PySem.F.type_list_append mt_append (pv 2) (pa_cons (pe_call G2 hr (by rfl) g2 k2 b2 .nil (passE (takes_of rfl rfl rfl rfl)) (pa_cons (pv 0) (pa_cons (pe_op op_add (pv 1) pe_int) pa_nil))) pa_nil)))))
      (pss_one (ps_ret (pv 2)))))), ?_⟩
    have q' : ErrAt cT a H E (lineAt r) := q
    refine ⟨_, rfl, rfl, _, rfl, ?_⟩
    rw [dcInt]
    refine iteDT (by decide) ?_
    obtain ⟨dx, i, h1⟩ := hR.ins
    exact ⟨_, rfl, a, dx, _, rfl, h1, rfl, a, tl, r, rfl, hR, fun H' x s hx => q' H' x (Ev.same s) hx⟩
theorem ok_pBlockS {f : Addr} {fd : FuncData} {k n : Nat} (hk : 8 ≤ k) (F : Fun K "parse_block" "parse_block" pBlock f fd) (M : RM P w K mg base 0 C cT) (T : PTx K mg) (D2 : Df P w K mg base (L2.CX P w) k "parse_statement" RO (spStm K C cT n)) :
    FnOk P w K mg base (L2.CX P w) (k + 1) f fd ["reader", "outer"] (spBlk K C cT (n + 1)) := by
  obtain ⟨fF, fdF, GF, mF, bF⟩ := M.fail.ex
  obtain ⟨fS, fdS, GS, mS, bS⟩ := M.skip.ex
  obtain ⟨fT, fdT, GT, mT, bT⟩ := M.take.ex
  obtain ⟨f2, fd2, G2, g2, k2, b2⟩ := D2.ex
  obtain ⟨un, gn, rn⟩ := T.MBL
  refine F.okX scpBlock (fun vs H Q E h => ?_) (fun cdv A outer s H vs Q E hr h => ?_)
  · obtain ⟨a, tl, r, rfl, _⟩ := h
    rfl
  · obtain ⟨a, tl, r, rfl, hn8, hR, q⟩ := h
    have nd := scpBlock.nd
    have hr3 : Room (0 + 3) _ := hr.mono (by omega)
    have hr2 : Room (0 + 2) _ := hr.mono (by omega)
    have hr1 : Room (0 + 1) _ := hr.mono (by omega)
    have hs := hR.here.1
    refine ⟨_, pss_cons (ps_if (pt_cmpR op_eq (pv 1) (pe_glob rfl gn rn) (nomark _)) (pss_one (ps_expr (pe_meth0 (pv 0) M.R.cl mF GF hr1 bF .nil (passE (takes_of rfl rfl rfl rfl))))) pss_nil)
      (pss_cons (ps_set (i := 2) nd rfl (.inl rfl) (pe_lst pa_nil))
      (pss_cons (ps_expr (pe_meth (pv 0) M.R.cl mT GT hr3 bT .nil (passE (takes_of rfl rfl rfl rfl)) (pa_cons pe_str pa_nil)))
      (pss_cons (ps_while (passes_of rfl) (pt_not (pt_val (pe_meth (pv 0) M.R.cl mS GS hr2 bS .nil pass0 (pa_cons pe_str pa_nil)) (by intro _; rfl))) (pss_one (ps_expr (pe_bm PySem.F.plainAttrs_list PySem.F.slot_list_append PySem.F.type_list_append mt_append (pv 2) (pa_cons (pe_call G2 hr (by rfl) g2 k2 b2 .nil (passE (takes_of rfl rfl rfl rfl)) (pa_cons (pv 0) (pa_cons (pe_op op_add (pv 1) pe_int) pa_nil))) pa_nil)))))
      (pss_one (ps_ret (pv 2)))))), ?_⟩
    unfold asL at q
    have eB : mBlock (n + 1) r = bd (mTake "{" r) fun r => mLoop "}" (mStmt (mBlock n)) (r.length + 1) r := by rw [mBlock]
    rw [eB] at q
    refine ⟨_, rfl, rfl, _, rfl, ?_⟩
    rw [dcInt]
    refine iteDF (by omega) ⟨Nat.zero_le _, fun p hp => ?_⟩
    have L0 := LSt.start (K := K) hR hp
    refine take_rd (by decide +kernel) rfl L0.rd L0.ev (fun l e => by rw [e] at q; exact q) fun r1 e1 H1 ev1 R1 => ?_
    rw [e1, bd_ok] at q
    refine loop_rd (E := E) (cT := cT) (by decide +kernel) (stmt_short (block_lt n)) rfl (L0.adv ev1 R1 (Nat.le_of_lt (take_lt e1))) (fun N H5 ds r5 L5 q5 => ?_) ?_
    · obtain ⟨vs5, hv5, _⟩ := L5.at_
      refine ⟨_, rfl, .inl ⟨rfl, _, SqL.of hv5⟩, ?_⟩
      refine ⟨_, rfl, _, rfl, _, _, rfl, rfl, a, tl, r5, ?_, by omega, L5.rd, ?_⟩
      · show [V.ref a, V.int (8 - ((n + 1 : Nat) : Int) + 1)] ++ [] = _
        rw [show (8 - ((n + 1 : Nat) : Int) + 1) = 8 - (n : Int) by omega]
        rfl
      cases e6 : mStmt (mBlock n) r5 with
      | error l => rw [e6] at q5; exact ErrAt.ev q5 L5.ev
      | ok pr =>
        rw [e6] at q5
        intro H6 v ev6 R6 d6
        obtain ⟨vs6, hv6, hl6, L6⟩ := L5.app ev6 R6 d6 (stmt_short (block_lt n) _ _ _ e6)
        exact ⟨p, vs6, v, rfl, rfl, hv6, hl6, q5 _ L6⟩
    · cases e2 : mLoop "}" (mStmt (mBlock n)) (r1.length + 1) r1 with
      | error l => rw [e2] at q; exact q
      | ok pr =>
        rw [e2, bd_ok] at q
        intro H2 L2
        exact ⟨_, rfl, q H2 _ L2.ev L2.rd L2.fin⟩
end
end Pk
set_option Elab.async false
set_option linter.all false
set_option maxRecDepth 100000
set_option maxHeartbeats 4000000
namespace Pk
open PySem PySem.Spec PyProof.Rows L2 SX GxR Tk PySem.ErX
abbrev pProgram : Stmt := topS 34
theorem tokOf_tv {p : List Nat} {k : Str} {v : V} (h : tokOf p = some (k, v)) : TV v := by
  unfold Tk.tokOf at h
  split at h
  · split at h <;> (cases h; exact .inl ⟨_, rfl⟩)
  · split at h
    · cases h
      exact .inr ⟨_, rfl⟩
    · split at h
      · cases h
        exact .inl ⟨_, rfl⟩
      · cases h
theorem tok_rem : ∀ (f l : Nat) (t : List Nat) (ts : List Tk.Tok), toks f l t = .ok ts → (∃ p l', ts = p ++ [endTok l']) ∧ ts.length ≤ t.length + 1 ∧ (∀ x ∈ ts, TV x.2.1) ∧ ∀ x ∈ ts, x.2.2 ≤ l + t.length := by
  intro f
  induction f with
  | zero =>
    intro l t ts h
    cases t with
    | nil =>
      cases h
      exact ⟨⟨[], l, rfl⟩, Nat.le_refl _, fun x hx => by obtain rfl := List.mem_singleton.mp hx; exact .inl ⟨_, rfl⟩, fun x hx => by obtain rfl := List.mem_singleton.mp hx; exact Nat.le_refl _⟩
    | cons c r => cases h
  | succ f ih =>
    intro l t ts h
    cases t with
    | nil =>
      cases h
      exact ⟨⟨[], l, rfl⟩, Nat.le_refl _, fun x hx => by obtain rfl := List.mem_singleton.mp hx; exact .inl ⟨_, rfl⟩, fun x hx => by obtain rfl := List.mem_singleton.mp hx; exact Nat.le_refl _⟩
    | cons c r =>
      rw [toks_cons] at h
      split at h
      · obtain ⟨h1, h2, h3, h4⟩ := ih _ _ _ h
        have hd := dropWhile_le (· ≠ 10) r
        refine ⟨h1, by rw [List.length_cons]; omega, h3, fun x hx => ?_⟩
        have := h4 x hx
        rw [List.length_cons]
        omega
      · split at h
        · obtain ⟨h1, h2, h3, h4⟩ := ih _ _ _ h
          refine ⟨h1, by rw [List.length_cons]; omega, h3, fun x hx => ?_⟩
          have := h4 x hx
          rw [List.length_cons]
          omega
        · split at h
          · obtain ⟨h1, h2, h3, h4⟩ := ih _ _ _ h
            refine ⟨h1, by rw [List.length_cons]; omega, h3, fun x hx => ?_⟩
            have := h4 x hx
            rw [List.length_cons]
            omega
          · cases hk : tokOf ((c :: r).take (partLen (c :: r))) with
            | none => rw [hk] at h; cases h
            | some kv =>
              obtain ⟨k, v⟩ := kv
              rw [hk] at h
              cases hr : toks f l ((c :: r).drop (partLen (c :: r))) with
              | error e => rw [hr] at h; cases h
              | ok us =>
                rw [hr] at h
                cases h
                obtain ⟨⟨p, l', h1⟩, h2, h3, h4⟩ := ih _ _ _ hr
                have hp := partLen_pos c r
                have hd : ((c :: r).drop (partLen (c :: r))).length ≤ r.length := by rw [List.length_drop, List.length_cons]; omega
                refine ⟨⟨(k, v, l) :: p, l', by rw [h1]; rfl⟩, by rw [List.length_cons, List.length_cons]; omega, fun x hx => ?_, fun x hx => ?_⟩
                · rcases List.mem_cons.mp hx with rfl | hx
                  · exact tokOf_tv hk
                  · exact h3 x hx
                · rcases List.mem_cons.mp hx with rfl | hx
                  · exact Nat.le_add_right _ _
                  · have := h4 x hx
                    rw [List.length_cons]
                    omega
/-- the program of a text -/
def progT (t : List Nat) : Except Nat PyData := bd (toksT 1 t) fun ts => bd (mProgram ts) fun p => .ok p.1
open Classical in
/-- what is new, old tables besides -/
noncomputable def NewS (H H' : Hp) : Hp := fun b => if ∃ o, H b = some o ∧ ∀ ps, o ≠ HO.tbl ps then none else H' b
theorem NewS.sub {H H' : Hp} : Same (NewS H H') H' := fun b o e => by
  unfold NewS at e
  split at e
  · cases e
  · exact e
theorem NewS.of {H H' : Hp} {b : Addr} {o : HO} (h : ∀ o, H b = some o → ∃ ps, o = HO.tbl ps) (e : H' b = some o) : NewS H H' b = some o := by
  unfold NewS
  rw [if_neg fun ⟨o', a, n⟩ => let ⟨ps, z⟩ := h o' a; n ps z]
  exact e
def spProgram (K : PySem.W.Frag) (Pt cT : Addr) : Sp := fun vs H Q E => ∃ t : List Nat, vs = [.str (S t)] ∧ t.length ≤ 1000000 ∧ TabG H Pt ∧ match progT t with
  | .ok d => ∀ H' p xs, Sm H H' → TabG H' Pt → H' p = some (.tup xs) → xs.length = 9 → Dr (NewS H H') (.ref p) d → Q (.ref p) H'
  | .error l => ∀ H' x, Sm H H' → TabG H' Pt → H' x = some (.xd [("line", .int (l : Nat))]) → E (.ref cT) (some x) H'
/-- the ways out of the whole: nine parts -/
def PostP (K : PySem.W.Frag) (C cT a tl : Addr) (H : Hp) (Q : VK) (E : XK) : Tk.Rs → Prop
  | .ok (d, r) => ∀ H' p xs, Ev a H H' → Rd C H' a tl r → H' p = some (.tup xs) → xs.length = 9 → Dr (New H H') (.ref p) d → Q (.ref p) H'
  | .error l => ErrAt cT a H E l
theorem scpProgram : FnScope ["text", "reader", "name", "headers", "meta", "states", "actions", "tables", "control", "emits"] ["text"] (defScope pProgram) := ⟨rfl, rfl, rfl, by decide +kernel, rfl, by decide +kernel, by decide +kernel⟩
section
variable {P : Program} {w : World} {K : PySem.W.Frag} {mg : Str → Option Value} {base : Heap} {C cT Pt : Addr}
theorem ok_pProgram {f fI : Addr} {fd fdI : FuncData} (F : Fun K "parse_program" "parse_program" pProgram f fd) (M : RM P w K mg base 0 C cT) (MI : Mk K C fI) (GI : FnOk P w K mg base CX0 1 fI fdI ["self", "tokens"] (sprInit C)) (bI : Binds K fdI ["self", "tokens"] []) (gC : mg "Reader" = some (.ref C))
    (D1 : Df P w K mg base (L2.CX P w) 5 "tokenize" ["text"] (spTokenize Pt cT)) (D2 : Df P w K mg base (L2.CX P w) 6 "parse_header" RP (spP K C cT mHeader)) (D3 : Df P w K mg base (L2.CX P w) 5 "parse_fields" RP (spP K C cT (asL mFields))) (D4 : Df P w K mg base (L2.CX P w) 8 "parse_states" RP (spP K C cT (asL mStates)))
    (D5 : Df P w K mg base (L2.CX P w) 8 "parse_action" RP (spP K C cT mAction)) (D6 : Df P w K mg base (L2.CX P w) 7 "parse_table" RP (spP K C cT mTable)) (D7 : Df P w K mg base (L2.CX P w) 25 "parse_block" RO (spBlk K C cT 8)) (D8 : Df P w K mg base (L2.CX P w) 4 "parse_emits" RP (spP K C cT (asL mEmits))) :
    FnOk P w K mg base (L2.CX P w) 26 f fd ["text"] (spProgram K Pt cT) := by
  obtain ⟨fS, fdS, GS, mS, bS⟩ := M.skip.ex
  obtain ⟨fT, fdT, GT, mT, bT⟩ := M.take.ex
  obtain ⟨fN, fdN, GN, mN, bN⟩ := M.name.ex
  obtain ⟨fF, fdF, GF, mF, bF⟩ := M.fin.ex
  obtain ⟨f1, fd1, G1, g1, k1, b1⟩ := D1.ex
  obtain ⟨f2, fd2, G2, g2, k2, b2⟩ := D2.ex
  obtain ⟨f3, fd3, G3, g3, k3, b3⟩ := D3.ex
  obtain ⟨f4, fd4, G4, g4, k4, b4⟩ := D4.ex
  obtain ⟨f5, fd5, G5, g5, k5, b5⟩ := D5.ex
  obtain ⟨f6, fd6, G6, g6, k6, b6⟩ := D6.ex
  obtain ⟨f7, fd7, G7, g7, k7, b7⟩ := D7.ex
  obtain ⟨f8, fd8, G8, g8, k8, b8⟩ := D8.ex
  refine F.okX scpProgram (fun vs H Q E h => ?_) (fun cdv A outer s H vs Q E hr h => ?_)
  · obtain ⟨t, rfl, _⟩ := h
    rfl
  · obtain ⟨t, rfl, hz, tg, q⟩ := h
    have nd := scpProgram.nd
    have hr8 : Room 8 _ := hr.mono (by omega)
    have hr7 : Room 7 _ := hr.mono (by omega)
    have hr6 : Room 6 _ := hr.mono (by omega)
    have hr5 : Room 5 _ := hr.mono (by omega)
    have hr4 : Room 4 _ := hr.mono (by omega)
    have hr3 : Room (0 + 3) _ := hr.mono (by omega)
    have hr2 : Room (0 + 2) _ := hr.mono (by omega)
    refine ⟨_, pss_cons (ps_set (i := 1) nd rfl (.inl rfl) (pe_make MI GI (hr.mono (by omega)) rfl gC bI .nil pass0 (pa_cons (pe_call G1 (hr.mono (by omega)) (by rfl) g1 k1 b1 .nil (passE (takes_of rfl rfl rfl rfl)) (pa_cons (pv 0) pa_nil)) pa_nil)))
      (pss_cons (ps_expr (pe_meth (pv 1) M.R.cl mT GT hr3 bT .nil (passE (takes_of rfl rfl rfl rfl)) (pa_cons pe_str pa_nil)))
      (pss_cons (ps_set (i := 2) nd rfl (.inl rfl) (pe_meth0 (pv 1) M.R.cl mN GN hr3 bN .nil (passE (takes_of rfl rfl rfl rfl))))
      (pss_cons (ps_set (i := 3) nd rfl (.inl rfl) (pe_lst pa_nil))
      (pss_cons (ps_while (passes_of rfl) (pt_val (pe_meth (pv 1) M.R.cl mS GS hr2 bS .nil pass0 (pa_cons pe_str pa_nil)) (by intro _; rfl)) (pss_one (ps_expr (pe_bm PySem.F.plainAttrs_list PySem.F.slot_list_append PySem.F.type_list_append mt_append (pv 3) (pa_cons (pe_call G2 hr6 (by rfl) g2 k2 b2 .nil (passE (takes_of rfl rfl rfl rfl)) (pa_cons (pv 1) pa_nil)) pa_nil)))))
      (pss_cons (ps_set (i := 4) nd rfl (.inl rfl) (pe_lst pa_nil))
      (C8.pss_cut (ps_if (pt_val (pe_meth (pv 1) M.R.cl mS GS hr2 bS .nil pass0 (pa_cons pe_str pa_nil)) (by intro _; rfl)) (pss_one (ps_set (i := 4) nd rfl (.inl rfl) (pe_call G3 hr5 (by rfl) g3 k3 b3 .nil (passE (takes_of rfl rfl rfl rfl)) (pa_cons (pv 1) pa_nil)))) pss_nil)
      (pss_cons (ps_expr (pe_meth (pv 1) M.R.cl mT GT hr3 bT .nil (passE (takes_of rfl rfl rfl rfl)) (pa_cons pe_str pa_nil)))
      (pss_cons (ps_set (i := 5) nd rfl (.inl rfl) (pe_call G4 hr8 (by rfl) g4 k4 b4 .nil (passE (takes_of rfl rfl rfl rfl)) (pa_cons (pv 1) pa_nil)))
      (pss_cons (ps_set (i := 6) nd rfl (.inl rfl) (pe_lst pa_nil))
      (pss_cons (ps_while (passes_of rfl) (pt_val (pe_meth (pv 1) M.R.cl mS GS hr2 bS .nil pass0 (pa_cons pe_str pa_nil)) (by intro _; rfl)) (pss_one (ps_expr (pe_bm PySem.F.plainAttrs_list PySem.F.slot_list_append PySem.F.type_list_append mt_append (pv 6) (pa_cons (pe_call G5 hr8 (by rfl) g5 k5 b5 .nil (passE (takes_of rfl rfl rfl rfl)) (pa_cons (pv 1) pa_nil)) pa_nil)))))
      (pss_cons (ps_set (i := 7) nd rfl (.inl rfl) (pe_lst pa_nil))
      (pss_cons (ps_while (passes_of rfl) (pt_val (pe_meth (pv 1) M.R.cl mS GS hr2 bS .nil pass0 (pa_cons pe_str pa_nil)) (by intro _; rfl)) (pss_one (ps_expr (pe_bm PySem.F.plainAttrs_list PySem.F.slot_list_append PySem.F.type_list_append mt_append (pv 7) (pa_cons (pe_call G6 hr7 (by rfl) g6 k6 b6 .nil (passE (takes_of rfl rfl rfl rfl)) (pa_cons (pv 1) pa_nil)) pa_nil)))))
      (pss_cons (ps_expr (pe_meth (pv 1) M.R.cl mT GT hr3 bT .nil (passE (takes_of rfl rfl rfl rfl)) (pa_cons pe_str pa_nil)))
      (pss_cons (ps_set (i := 8) nd rfl (.inl rfl) (pe_call G7 hr (by rfl) g7 k7 b7 .nil (passE (takes_of rfl rfl rfl rfl)) (pa_cons (pv 1) (pa_cons pe_int pa_nil))))
      (pss_cons (ps_set (i := 9) nd rfl (.inl rfl) (pe_lst pa_nil))
      (C8.pss_cut (ps_if (pt_val (pe_meth (pv 1) M.R.cl mS GS hr2 bS .nil pass0 (pa_cons pe_str pa_nil)) (by intro _; rfl)) (pss_one (ps_set (i := 9) nd rfl (.inl rfl) (pe_call G8 hr4 (by rfl) g8 k8 b8 .nil (passE (takes_of rfl rfl rfl rfl)) (pa_cons (pv 1) pa_nil)))) pss_nil)
      (pss_cons (ps_expr (pe_meth0 (pv 1) M.R.cl mF GF hr2 bF .nil (passE (takes_of rfl rfl rfl rfl))))
      (pss_one (ps_ret (pe_tup (pa_cons pe_str (pa_cons (pv 2) (pa_cons (pv 3) (pa_cons (pv 4) (pa_cons (pv 5) (pa_cons (pv 6) (pa_cons (pv 7) (pa_cons (pv 8) (pa_cons (pv 9) pa_nil))))))))))))))))))))))))))))), ?_⟩
    unfold progT at q
    refine ⟨_, rfl, t, rfl, hz, tg, fun ts hts H1 p rs sm tg1 hp hT hRs => ?_, fun l hl H' x sm tg' hx => ?_⟩
    case refine_2 =>
      rw [hl, bd_err] at q
      exact q H' x sm tg' hx
    intro a dx ha hdx hne
    refine ⟨a, dx, p, rfl, upd_same, rfl, ?_⟩
    rw [hts, bd_ok] at q
    obtain ⟨⟨tp, tl', e1⟩, e2, e3, e4⟩ := tok_rem _ _ _ _ hts
    have kr : ∀ b o, H1 b = some o → upd (upd (upd H1 dx (.own a)) a (.ins C dx [])) a (.ins C dx [("tokens", .ref p), ("at", .int (0 : Nat))]) b = some o := fun b o e => by
      have n1 : b ≠ a := ne_of_none e ha
      have n2 : b ≠ dx := ne_of_none e hdx
      rw [upd_ne n1, upd_ne n1, upd_ne n2]
      exact e
    have R0 : Rd C (upd (upd (upd H1 dx (.own a)) a (.ins C dx [])) a (.ins C dx [("tokens", .ref p), ("at", .int (0 : Nat))])) a p ts :=
      ⟨dx, 0, rs, ts, upd_same, kr _ _ hT, paired_ev (a := a) (fun b o _ e => kr b o e) hRs, rfl, ⟨⟨tp, tl', e1⟩, by omega, e3⟩, fun x hx => by have := e4 x hx; omega⟩
    have kold : ∀ b o, (∀ ps, o ≠ HO.tbl ps) → H b = some o → upd (upd (upd H1 dx (.own a)) a (.ins C dx [])) a (.ins C dx [("tokens", .ref p), ("at", .int (0 : Nat))]) b = some o := fun b o n e => kr b o (sm b o n e)
    have keep : ∀ H', Ev a (upd (upd (upd H1 dx (.own a)) a (.ins C dx [])) a (.ins C dx [("tokens", .ref p), ("at", .int (0 : Nat))])) H' → Sm H H' ∧ TabG H' Pt := fun H' ev => by
      have k1 : ∀ b o, H1 b = some o → H' b = some o := fun b o e => ev b o (ne_of_none e ha) (kr b o e)
      refine ⟨fun b o n e => k1 b o (sm b o n e), ?_⟩
      obtain ⟨ps, t1, t2⟩ := tg1
      exact ⟨ps, k1 _ _ t1, t2⟩
    generalize upd (upd (upd H1 dx (.own a)) a (.ins C dx [])) a (.ins C dx [("tokens", .ref p), ("at", .int (0 : Nat))]) = Hr at R0 keep kold ⊢
    have q : PostP K C cT a p Hr Q E (mProgram ts) := by
      cases e : mProgram ts with
      | error l =>
        rw [e] at q
        intro H' x ev hx
        exact q H' x (keep H' ev).1 (keep H' ev).2 hx
      | ok pr =>
        rw [e] at q
        intro H' v xs ev R h1 h2 d
        exact q H' v xs (keep H' ev).1 (keep H' ev).2 h1 h2 (dr_sub (fun b o e => by
          obtain ⟨g1, g2⟩ := New.get e
          refine NewS.of (fun o' e' => ?_) g2
          refine Classical.byContradiction fun z => ?_
          have := kold b o' (fun ps y => z ⟨ps, y⟩) e'
          rw [g1] at this
          cases this) d)
    have hs := R0.here.1
    unfold mProgram at q
    refine take_rd (by decide +kernel) rfl R0 (Ev.refl _ _) (fun l e => by rw [e] at q; exact q) fun r1 e1 H1 ev1 R1 => ?_
    rw [e1, bd_ok] at q
    refine name_rd (k := 0) rfl R1 ev1 (fun l e => by rw [e] at q; exact q) fun v2 r2 e2 H2 ev2 R2 => ⟨Nat.zero_le _, fun p3 hp3 => ?_⟩
    rw [e2, bd_ok] at q
    have E2 := ev1.trans ev2
    refine many_rd (E := E) (cT := cT) (by decide +kernel) header_short rfl (LSt.start (K := K) R2 hp3) (fun N H5 ds5 r5 L5 q5 => ?_) ?_
    · obtain ⟨vs5, hv5, _⟩ := L5.at_
      refine ⟨_, rfl, .inl ⟨rfl, _, SqL.of hv5⟩, ?_⟩
      refine part_rd rfl L5.rd L5.ev (fun l e => by rw [e] at q5; exact q5) fun d r6 e6 H6 v6 ev6 R6 d6 => ?_
      rw [e6] at q5
      obtain ⟨vs6, hv6, hl6, L6⟩ := L5.app ev6 R6 d6 (header_short _ _ _ e6)
      exact ⟨p3, vs6, v6, rfl, rfl, hv6, hl6, q5 _ L6⟩
    cases e3 : mMany "header" mHeader (r2.length + 1) r2 with
    | error l => rw [e3] at q; exact ErrAt.ev q E2
    | ok pr3 =>
    rw [e3, bd_ok] at q
    intro H3 L3
    have E3 := E2.trans L3.ev
    have R3 := L3.rd
    have d3 := lift E2 R2 (Ev.refl a H3) L3.fin
    refine ⟨Nat.zero_le _, fun p4 hp4 => ?_⟩
    have ev4 : Ev a H3 (upd H3 p4 (.lst [])) := Ev.same (same_new hp4)
    have R4 := R3.same (same_new (o := .lst []) hp4)
    have E4 := E3.trans ev4
    have d4 : Dr (New Hr (upd H3 p4 (.lst []))) (.ref p4) (.list []) := .lst (New.of (ev_none E3 R3.here.1 p4 hp4) upd_same) .nil
    refine ⟨fun σ' H' => ∃ vm ds r', σ' = [some (.str (S t)), some (.ref a), some v2, some (.ref p3), some vm, none, none, none, none, none] ∧ Ev a (upd H3 p4 (.lst [])) H' ∧ Rd C H' a p r' ∧ (if wordAt "meta" pr3.2 = true then mFields pr3.2.tail else .ok ([], pr3.2)) = .ok (ds, r') ∧ Dr (New Hr H') vm (.list ds), ?_, ?_⟩
    · refine skip_rd (by decide +kernel) rfl R4 fun H5 ev5 R5 => ⟨_, rfl, ?_⟩
      cases hc : wordAt "meta" pr3.2 with
      | true =>
        rw [hc, if_pos rfl] at q
        rw [mSkip_t hc] at R5
        refine iteT (part_rd rfl R5 (E4.trans ev5) (fun l e => by have e' := asL_err e; rw [e'] at q; exact q) fun d r6 e6 H6 v6 ev6 R6 d6 => ?_)
        obtain ⟨ds, e6', rfl⟩ := asL_ok e6
        exact ⟨v6, ds, r6, rfl, ev5.trans ev6, R6, by rw [if_pos rfl, e6'], lift (E4.trans ev5) R5 (Ev.refl _ _) d6⟩
      | false =>
        rw [mSkip_f hc] at R5
        exact iteF ⟨_, [], pr3.2, rfl, ev5, R5, by rw [if_neg Bool.false_ne_true], liftS hs ev5 d4⟩
    rintro σ5 H5 ⟨vm, dm, r5, rfl, ev5, R5, e5, d5⟩
    rw [e5, bd_ok] at q
    have E5 := E4.trans ev5
    have X5 := ev4.trans ev5
    refine take_rd (by decide +kernel) rfl R5 E5 (fun l e => by rw [e] at q; exact q) fun r6 e6 H6 ev6 R6 => ?_
    rw [e6, bd_ok] at q
    have E6 := E5.trans ev6
    refine part_rd rfl R6 E6 (fun l e => by have e' := asL_err e; rw [e'] at q; exact q) fun d7 r7 e7 H7 v7 ev7 R7 dd7 => ⟨Nat.zero_le _, fun p8 hp8 => ?_⟩
    obtain ⟨ds7, e7', rfl⟩ := asL_ok e7
    rw [e7', bd_ok] at q
    have E7 := E6.trans ev7
    have d7 := lift E6 R6 (Ev.refl a H7) dd7
    refine many_rd (E := E) (cT := cT) (by decide +kernel) action_short rfl (LSt.start (K := K) R7 hp8) (fun N H5 ds5 r5 L5 q5 => ?_) ?_
    · obtain ⟨vs5, hv5, _⟩ := L5.at_
      refine ⟨_, rfl, .inl ⟨rfl, _, SqL.of hv5⟩, ?_⟩
      refine part_rd rfl L5.rd L5.ev (fun l e => by rw [e] at q5; exact q5) fun d r6 e6 H6 v6 ev6 R6 d6 => ?_
      rw [e6] at q5
      obtain ⟨vs6, hv6, hl6, L6⟩ := L5.app ev6 R6 d6 (action_short _ _ _ e6)
      exact ⟨p8, vs6, v6, rfl, rfl, hv6, hl6, q5 _ L6⟩
    cases e8 : mMany "action" mAction (r7.length + 1) r7 with
    | error l => rw [e8] at q; exact ErrAt.ev q E7
    | ok pr8 =>
    rw [e8, bd_ok] at q
    intro H8 L8
    have E8 := E7.trans L8.ev
    have R8 := L8.rd
    have d8 := lift E7 R7 (Ev.refl a H8) L8.fin
    refine ⟨Nat.zero_le _, fun p9 hp9 => ?_⟩
    refine many_rd (E := E) (cT := cT) (by decide +kernel) table_short rfl (LSt.start (K := K) R8 hp9) (fun N H5 ds5 r5 L5 q5 => ?_) ?_
    · obtain ⟨vs5, hv5, _⟩ := L5.at_
      refine ⟨_, rfl, .inl ⟨rfl, _, SqL.of hv5⟩, ?_⟩
      refine part_rd rfl L5.rd L5.ev (fun l e => by rw [e] at q5; exact q5) fun d r6 e6 H6 v6 ev6 R6 d6 => ?_
      rw [e6] at q5
      obtain ⟨vs6, hv6, hl6, L6⟩ := L5.app ev6 R6 d6 (table_short _ _ _ e6)
      exact ⟨p9, vs6, v6, rfl, rfl, hv6, hl6, q5 _ L6⟩
    cases e9 : mMany "table" mTable (pr8.2.length + 1) pr8.2 with
    | error l => rw [e9] at q; exact ErrAt.ev q E8
    | ok pr9 =>
    rw [e9, bd_ok] at q
    intro H9 L9
    have E9 := E8.trans L9.ev
    have R9 := L9.rd
    have d9 := lift E8 R8 (Ev.refl a H9) L9.fin
    refine take_rd (by decide +kernel) rfl R9 E9 (fun l e => by rw [e] at q; exact q) fun r10 e10 H10 ev10 R10 => ?_
    rw [e10, bd_ok] at q
    have E10 := E9.trans ev10
    refine ⟨_, rfl, a, p, r10, rfl, Nat.le_refl _, R10, ?_⟩
    unfold asL
    cases e11 : mBlock 8 r10 with
    | error l => rw [e11] at q; exact ErrAt.ev q E10
    | ok pr11 =>
    rw [e11, bd_ok] at q
    intro H11 v11 ev11 R11 dd11
    have E11 := E10.trans ev11
    have d11 := lift E10 R10 (Ev.refl a H11) dd11
    refine ⟨Nat.zero_le _, fun p12 hp12 => ?_⟩
    have ev12 : Ev a H11 (upd H11 p12 (.lst [])) := Ev.same (same_new hp12)
    have R12 := R11.same (same_new (o := .lst []) hp12)
    have E12 := E11.trans ev12
    have d12 : Dr (New Hr (upd H11 p12 (.lst []))) (.ref p12) (.list []) := .lst (New.of (ev_none E11 R11.here.1 p12 hp12) upd_same) .nil
    refine ⟨fun σ' H' => ∃ vn ds r', σ' = [some (.str (S t)), some (.ref a), some v2, some (.ref p3), some vm, some v7, some (.ref p8), some (.ref p9), some v11, some vn] ∧ Ev a (upd H11 p12 (.lst [])) H' ∧ Rd C H' a p r' ∧ (if wordAt "emit" pr11.2 = true then mEmits pr11.2.tail else .ok ([], pr11.2)) = .ok (ds, r') ∧ Dr (New Hr H') vn (.list ds), ?_, ?_⟩
    · refine skip_rd (by decide +kernel) rfl R12 fun H13 ev13 R13 => ⟨_, rfl, ?_⟩
      cases hc : wordAt "emit" pr11.2 with
      | true =>
        rw [hc, if_pos rfl] at q
        rw [mSkip_t hc] at R13
        refine iteT (part_rd rfl R13 (E12.trans ev13) (fun l e => by have e' := asL_err e; rw [e'] at q; exact q) fun d r6 e6 H6 v6 ev6 R6 d6 => ?_)
        obtain ⟨ds, e6', rfl⟩ := asL_ok e6
        exact ⟨v6, ds, r6, rfl, ev13.trans ev6, R6, by rw [if_pos rfl, e6'], lift (E12.trans ev13) R13 (Ev.refl _ _) d6⟩
      | false =>
        rw [mSkip_f hc] at R13
        exact iteF ⟨_, [], pr11.2, rfl, ev13, R13, by rw [if_neg Bool.false_ne_true], liftS hs ev13 d12⟩
    rintro σ13 H13 ⟨ve, de, r13, rfl, ev13, R13, e13, d13⟩
    rw [e13, bd_ok] at q
    have E13 := E12.trans ev13
    have X13 := ev12.trans ev13
    obtain ⟨dxx, ii, hin⟩ := R13.ins
    refine ⟨_, rfl, a, dxx, _, rfl, hin, rfl, a, p, r13, rfl, R13, ?_⟩
    cases e14 : mEnd r13 with
    | error l => rw [e14] at q; exact ErrAt.ev q E13
    | ok r14 =>
    rw [e14, bd_ok] at q
    intro H14 ev14 R14
    have E14 := E13.trans ev14
    have Y := X13.trans ev14
    refine ⟨_, rfl, _, rfl, _, rfl, _, rfl, _, rfl, _, rfl, _, rfl, _, rfl, (by show 9 ≤ sizeLine; decide), fun p15 hp15 => ?_⟩
    have Z9 := (ev10.trans ev11).trans Y
    have Z8 := L9.ev.trans Z9
    have Z7 := L8.ev.trans Z8
    have Z5 := (ev6.trans ev7).trans Z7
    obtain ⟨x1, x2, x3⟩ := mk_tup E14 R14 hs hp15 (.cons (.str _) (.cons (tvD_dr (kind_tv R1 e2)) (.cons (liftS hs (X5.trans Z5) d3) (.cons (liftS hs Z5 d5) (.cons (liftS hs Z7 d7) (.cons (liftS hs Z8 d8) (.cons (liftS hs Z9 d9) (.cons (liftS hs Y d11) (.cons (liftS hs ev14 d13) .nil)))))))))
    exact q _ _ _ x1 x2 upd_same rfl x3
end
end Pk
set_option Elab.async false
set_option linter.all false
set_option maxRecDepth 100000
set_option maxHeartbeats 4000000
namespace Tk
open PySem L2 SX
/-- the rules: for each symbol its rows, each the first terminal and what it stands for -/
abbrev Rul := List (Str × List (Str × List Str))
def fnd (l : Str) : List (Str × List Str) → Option (List Str)
  | [] => none
  | (a, b) :: rs => if a = l ∨ a = Str.ofString "" then some b else fnd l rs
def expd (G : Rul) (X l : Str) : Option (List Str) := (G.lookup X).bind (fnd l)
/-- a terminal as it stands in the text -/
def plainS (s : Str) : Str := if s = Str.ofString "OPEN" then Str.ofString "{" else if s = Str.ofString "CLOSE" then Str.ofString "}" else if s = Str.ofString "NOT" then Str.ofString "not" else s
/-- a token as the recogniser sees it -/
def lkT (t : Tok) : Str := if t.1 = Str.ofString "name" then Str.ofString "NAME" else if t.1 = Str.ofString "number" then Str.ofString "NUM" else if t.1 = Str.ofString "end" then Str.ofString "END" else match t.2.1 with
  | .str w => w
  | _ => Str.ofString ""
def lookAt : Rem → Str
  | t :: _ => lkT t
  | [] => Str.ofString ""
def b2i (b : Bool) : Int := if b then 1 else 0
def dOf (s : Str) (d : Int) : Int := d + b2i (decide (s = Str.ofString "OPEN")) - b2i (decide (s = Str.ofString "CLOSE"))
def nOf (s : Str) (n : Int) : Int := if s = Str.ofString "if" then 0 else n + b2i (decide (s = Str.ofString "NOT"))
/-- the recogniser: 0 where the text is right, a line, or -1 where the steps ran out -/
def pd (G : Rul) (nt : Str → Bool) : Nat → List Str → Int → Int → Rem → Int
  | 0, _, _, _, _ => -1
  | _ + 1, [], _, _, _ => 0
  | f + 1, s :: st, d, n, r => if nt s = true then (match expd G s (lookAt r) with
      | none => (lineAt r : Int)
      | some a => pd G nt f (a ++ st) d n r)
    else if plainS s ≠ lookAt r ∨ dOf s d > 8 ∨ nOf s n > 8 then (lineAt r : Int) else pd G nt f st (dOf s d) (nOf s n) r.tail
def terms : List Str := ["accept", "action", "add", "apply", "control", "default", "drop", "else", "emit", "exact", "extract", "go", "header", "if", "key", "mask", "meta", "not", "packet", "parser", "prefix", "program", "reject", "remove", "select", "send", "size", "state", "table", "use", "valid", "{", "}", "(", ")", ":", ";", ",", ".", "=", "==", "<", "+", "-", "&", "|", "^", "->"].map Str.ofString
structure TkOk (nm : Str → Prop) (t : Tok) : Prop where
  ex : (t.1 = Str.ofString "name" ∧ ∃ x, t.2.1 = .str x ∧ x ∉ terms ∧ nm x) ∨ (t.1 = Str.ofString "number" ∧ ∃ n : Nat, t.2.1 = .int n) ∨ (t.1 ≠ Str.ofString "name" ∧ t.1 ≠ Str.ofString "number" ∧ t.1 ≠ Str.ofString "end" ∧ ∃ w, t.2.1 = .str w ∧ w ∈ terms)
/-- tokens that end with "end", all of them of these kinds -/
structure Good (nm : Str → Prop) (r : Rem) : Prop where
  ex : ∃ p l, r = p ++ [endTok l] ∧ ∀ t ∈ p, TkOk nm t
theorem endTok_1 (l : Nat) : (endTok l).1 = Str.ofString "end" := rfl
/-- the values of names and numbers -/
def valT (t : Tok) : List PyData := if t.1 = Str.ofString "name" ∨ t.1 = Str.ofString "number" then [tvD t.2.1] else []
def vals (r : Rem) : List PyData := r.flatMap valT
section
variable {nm : Str → Prop} {r : Rem}
theorem Good.cases (h : Good nm r) : (∃ l, r = [endTok l]) ∨ ∃ t r2, r = t :: r2 ∧ TkOk nm t ∧ Good nm r2 := by
  obtain ⟨p, l, rfl, hp⟩ := h.ex
  cases p with
  | nil => exact .inl ⟨l, rfl⟩
  | cons t p => exact .inr ⟨t, p ++ [endTok l], rfl, hp t List.mem_cons_self, ⟨p, l, rfl, fun u hu => hp u (List.mem_cons_of_mem _ hu)⟩⟩
theorem lk_name {t : Tok} (e : t.1 = Str.ofString "name") : lkT t = Str.ofString "NAME" := by
  unfold lkT
  rw [if_pos e]
theorem lk_num {t : Tok} (e : t.1 = Str.ofString "number") : lkT t = Str.ofString "NUM" := by
  unfold lkT
  rw [if_neg (by rw [e]; decide +kernel), if_pos e]
theorem lk_word {t : Tok} {w : Str} (h1 : t.1 ≠ Str.ofString "name") (h2 : t.1 ≠ Str.ofString "number") (h3 : t.1 ≠ Str.ofString "end") (e : t.2.1 = .str w) : lkT t = w := by
  unfold lkT
  rw [if_neg h1, if_neg h2, if_neg h3, e]
theorem no_terms : Str.ofString "NAME" ∉ terms ∧ Str.ofString "NUM" ∉ terms ∧ Str.ofString "END" ∉ terms ∧ Str.ofString "" ∉ terms := by decide +kernel
/-- the parser's look at a word is the recogniser's -/
theorem word_lk (h : Good nm r) {w : Str} (hw : w ∈ terms) : wordAt w r = true ↔ lookAt r = w := by
  rcases h.cases with ⟨l, rfl⟩ | ⟨t, r2, rfl, ht, _⟩
  · constructor
    · intro e
      have e2 : V.str (Str.ofString "") = V.str w := of_decide_eq_true e
      exact absurd (V.str.inj e2 ▸ hw) no_terms.2.2.2
    · intro e
      exact absurd ((show Str.ofString "END" = w from e) ▸ hw) no_terms.2.2.1
  · rcases ht.ex with ⟨h1, x, hx, nx, _⟩ | ⟨h1, n, hn⟩ | ⟨h1, h2, h3, z, hz, mz⟩
    · constructor
      · intro e
        have e2 : t.2.1 = V.str w := of_decide_eq_true e
        rw [hx] at e2
        exact absurd (V.str.inj e2 ▸ hw) nx
      · intro e
        have e2 : lkT t = w := e
        rw [lk_name h1] at e2
        exact absurd (e2 ▸ hw) no_terms.1
    · constructor
      · intro e
        have e2 : t.2.1 = V.str w := of_decide_eq_true e
        rw [hn] at e2
        cases e2
      · intro e
        have e2 : lkT t = w := e
        rw [lk_num h1] at e2
        exact absurd (e2 ▸ hw) no_terms.2.1
    · constructor
      · intro e
        have e2 : t.2.1 = V.str w := of_decide_eq_true e
        rw [hz] at e2
        show lkT t = w
        rw [lk_word h1 h2 h3 hz]
        exact V.str.inj e2
      · intro e
        have e2 : lkT t = w := e
        rw [lk_word h1 h2 h3 hz] at e2
        show decide (t.2.1 = V.str w) = true
        rw [hz, e2]
        exact decide_eq_true rfl
theorem name_lk (h : Good nm r) : kindAt r = Str.ofString "name" ↔ lookAt r = Str.ofString "NAME" := by
  rcases h.cases with ⟨l, rfl⟩ | ⟨t, r2, rfl, ht, _⟩
  · exact ⟨fun e => absurd (show Str.ofString "end" = Str.ofString "name" from e) (by decide +kernel), fun e => absurd (show Str.ofString "END" = Str.ofString "NAME" from e) (by decide +kernel)⟩
  · show t.1 = _ ↔ lkT t = _
    rcases ht.ex with ⟨h1, x, hx, nx, _⟩ | ⟨h1, n, hn⟩ | ⟨h1, h2, h3, z, hz, mz⟩
    · exact ⟨fun _ => lk_name h1, fun _ => h1⟩
    · exact ⟨fun e => absurd (h1.symm.trans e) (by decide +kernel), fun e => absurd ((lk_num h1).symm.trans e) (by decide +kernel)⟩
    · exact ⟨fun e => absurd e h1, fun e => absurd ((lk_word h1 h2 h3 hz).symm.trans e ▸ mz) no_terms.1⟩
theorem num_lk (h : Good nm r) : kindAt r = Str.ofString "number" ↔ lookAt r = Str.ofString "NUM" := by
  rcases h.cases with ⟨l, rfl⟩ | ⟨t, r2, rfl, ht, _⟩
  · exact ⟨fun e => absurd (show Str.ofString "end" = Str.ofString "number" from e) (by decide +kernel), fun e => absurd (show Str.ofString "END" = Str.ofString "NUM" from e) (by decide +kernel)⟩
  · show t.1 = _ ↔ lkT t = _
    rcases ht.ex with ⟨h1, x, hx, nx, _⟩ | ⟨h1, n, hn⟩ | ⟨h1, h2, h3, z, hz, mz⟩
    · exact ⟨fun e => absurd (h1.symm.trans e) (by decide +kernel), fun e => absurd ((lk_name h1).symm.trans e) (by decide +kernel)⟩
    · exact ⟨fun _ => lk_num h1, fun _ => h1⟩
    · exact ⟨fun e => absurd e h2, fun e => absurd ((lk_word h1 h2 h3 hz).symm.trans e ▸ mz) no_terms.2.1⟩
theorem end_lk (h : Good nm r) : kindAt r = Str.ofString "end" ↔ lookAt r = Str.ofString "END" := by
  rcases h.cases with ⟨l, rfl⟩ | ⟨t, r2, rfl, ht, _⟩
  · exact ⟨fun _ => rfl, fun _ => rfl⟩
  · show t.1 = _ ↔ lkT t = _
    rcases ht.ex with ⟨h1, x, hx, nx, _⟩ | ⟨h1, n, hn⟩ | ⟨h1, h2, h3, z, hz, mz⟩
    · exact ⟨fun e => absurd (h1.symm.trans e) (by decide +kernel), fun e => absurd ((lk_name h1).symm.trans e) (by decide +kernel)⟩
    · exact ⟨fun e => absurd (h1.symm.trans e) (by decide +kernel), fun e => absurd ((lk_num h1).symm.trans e) (by decide +kernel)⟩
    · exact ⟨fun e => absurd e h3, fun e => absurd ((lk_word h1 h2 h3 hz).symm.trans e ▸ mz) no_terms.2.2.1⟩
/-- a token that is not the end was taken -/
theorem Good.tl (h : Good nm r) (hl : lookAt r ≠ Str.ofString "END") : Good nm r.tail ∧ r.tail.length + 1 = r.length := by
  rcases h.cases with ⟨l, rfl⟩ | ⟨t, r2, rfl, _, g⟩
  · exact absurd rfl hl
  · exact ⟨g, rfl⟩
theorem vals_word (h : Good nm r) {w : Str} (hw : w ∈ terms) (e : lookAt r = w) : vals r = vals r.tail := by
  rcases h.cases with ⟨l, rfl⟩ | ⟨t, r2, rfl, ht, _⟩
  · exact absurd ((show Str.ofString "END" = w from e) ▸ hw) no_terms.2.2.1
  · rcases ht.ex with ⟨h1, x, hx, nx, _⟩ | ⟨h1, n, hn⟩ | ⟨h1, h2, h3, z, hz, mz⟩
    · exact absurd ((lk_name h1).symm.trans e ▸ hw) no_terms.1
    · exact absurd ((lk_num h1).symm.trans e ▸ hw) no_terms.2.1
    · show valT t ++ vals r2 = vals r2
      unfold valT
      rw [if_neg (fun z => z.elim h1 h2), List.nil_append]
theorem vals_name (h : Good nm r) (e : lookAt r = Str.ofString "NAME") : vals r = tvD (valAt r) :: vals r.tail ∧ ∃ x, valAt r = .str x ∧ nm x := by
  have e2 := (name_lk h).mpr e
  rcases h.cases with ⟨l, rfl⟩ | ⟨t, r2, rfl, ht, _⟩
  · exact absurd (show Str.ofString "END" = Str.ofString "NAME" from e) (by decide +kernel)
  · have e3 : t.1 = Str.ofString "name" := e2
    refine ⟨?_, ?_⟩
    · show valT t ++ vals r2 = _
      unfold valT
      rw [if_pos (.inl e3)]
      rfl
    · rcases ht.ex with ⟨h1, x, hx, nx, mx⟩ | ⟨h1, n, hn⟩ | ⟨h1, h2, h3, z, hz, mz⟩
      · exact ⟨x, hx, mx⟩
      · exact absurd (h1.symm.trans e3) (by decide +kernel)
      · exact absurd e3 h1
theorem vals_num (h : Good nm r) (e : lookAt r = Str.ofString "NUM") : vals r = tvD (valAt r) :: vals r.tail ∧ ∃ n : Nat, valAt r = .int n := by
  have e2 := (num_lk h).mpr e
  rcases h.cases with ⟨l, rfl⟩ | ⟨t, r2, rfl, ht, _⟩
  · exact absurd (show Str.ofString "END" = Str.ofString "NUM" from e) (by decide +kernel)
  · have e3 : t.1 = Str.ofString "number" := e2
    refine ⟨?_, ?_⟩
    · show valT t ++ vals r2 = _
      unfold valT
      rw [if_pos (.inr e3)]
      rfl
    · rcases ht.ex with ⟨h1, x, hx, nx, mx⟩ | ⟨h1, n, hn⟩ | ⟨h1, h2, h3, z, hz, mz⟩
      · exact absurd (h1.symm.trans e3) (by decide +kernel)
      · exact ⟨n, hn⟩
      · exact absurd e3 h2
end
end Tk
set_option Elab.async false
set_option linter.all false
set_option maxRecDepth 100000
set_option maxHeartbeats 4000000
namespace Tk
open PySem L2 SX
/-- what the recogniser does on α in front of its stack where the part of the parser answers so: R x q: of the value x, q is what the part took -/
def Out (nm : Str → Prop) (G : Rul) (nt : Str → Bool) (dep : Int) (α : List Str) (w e : Int) {A : Type} (R : A → List PyData → Prop) (r : Rem) : Except Nat (A × Rem) → Prop
  | .ok (x, r2) => Good nm r2 ∧ r2.length ≤ r.length ∧ (∃ q, vals r = q ++ vals r2 ∧ R x q) ∧ ∃ k : Nat, (k : Int) + 10 * r2.length ≤ 10 * r.length + w ∧ ∀ n : Int, 0 ≤ n → n ≤ 8 → ∃ n' : Int, 0 ≤ n' ∧ n' ≤ 8 ∧ ∀ f st, pd G nt (k + f) (α ++ st) dep n r = pd G nt f st dep n' r2
  | .error l => ∃ k : Nat, (k : Int) ≤ 10 * r.length + e ∧ ∀ n : Int, 0 ≤ n → n ≤ 8 → ∀ f st, pd G nt (k + 1 + f) (α ++ st) dep n r = (l : Int)
def SimR (nm : Str → Prop) (G : Rul) (nt : Str → Bool) (dep : Int) (α : List Str) (w e : Int) {A : Type} (m : Rem → Except Nat (A × Rem)) (R : A → List PyData → Prop) : Prop := ∀ r, Good nm r → Out nm G nt dep α w e R r (m r)
section
variable {nm : Str → Prop} {G : Rul} {nt : Str → Bool} {dep : Int} {A B : Type}
theorem Good.pos {r : Rem} (h : Good nm r) : 1 ≤ r.length := by
  obtain ⟨p, l, rfl, _⟩ := h.ex
  rw [List.length_append]
  show 1 ≤ p.length + 1
  omega
theorem Out.mono {α : List Str} {w e w2 e2 : Int} {R : A → List PyData → Prop} {r : Rem} {x : Except Nat (A × Rem)} (h : Out nm G nt dep α w e R r x) (hw : w ≤ w2) (he : e ≤ e2) : Out nm G nt dep α w2 e2 R r x := by
  match x, h with
  | .ok (y, r2), ⟨g, l, q, k, hk, z⟩ => exact ⟨g, l, q, k, by omega, z⟩
  | .error l, ⟨k, hk, z⟩ => exact ⟨k, by omega, z⟩
theorem Out.rel {α : List Str} {w e : Int} {R R2 : A → List PyData → Prop} {r : Rem} {x : Except Nat (A × Rem)} (h : Out nm G nt dep α w e R r x) (hr : ∀ y q, R y q → R2 y q) : Out nm G nt dep α w e R2 r x := by
  match x, h with
  | .ok (y, r2), ⟨g, l, ⟨q, q1, q2⟩, k⟩ => exact ⟨g, l, ⟨q, q1, hr _ _ q2⟩, k⟩
  | .error l, h => exact h
/-- nothing is taken -/
theorem out_ret {e : Int} {R : A → List PyData → Prop} {r : Rem} {y : A} (hg : Good nm r) (hr : R y []) : Out nm G nt dep [] 0 e R r (.ok (y, r)) :=
  ⟨hg, Nat.le_refl _, ⟨[], rfl, hr⟩, 0, by omega, fun n h1 h2 => ⟨n, h1, h2, fun f st => by rw [Nat.zero_add]; rfl⟩⟩
/-- one part, then another -/
theorem out_bd {α β : List Str} {w1 e1 w2 e2 e : Int} {R1 : A → List PyData → Prop} {R : B → List PyData → Prop} {r : Rem} {x : Except Nat (A × Rem)} {F : A × Rem → Except Nat (B × Rem)} (h : Out nm G nt dep α w1 e1 R1 r x) (he1 : e1 ≤ e) (he2 : w1 + e2 ≤ e)
    (hF : ∀ y q r2, x = .ok (y, r2) → Good nm r2 → R1 y q → Out nm G nt dep β w2 e2 (fun z q2 => R z (q ++ q2)) r2 (F (y, r2))) : Out nm G nt dep (α ++ β) (w1 + w2) e R r (bd x F) := by
  match x, h with
  | .error l, ⟨k, hk, z⟩ =>
    refine ⟨k, by omega, fun n h1 h2 f st => ?_⟩
    rw [List.append_assoc]
    exact z n h1 h2 f (β ++ st)
  | .ok (y, r2), ⟨g, l, ⟨q, q1, q2⟩, k, hk, z⟩ =>
    have h2 := hF y q r2 rfl g q2
    show Out nm G nt dep (α ++ β) (w1 + w2) e R r (F (y, r2))
    match F (y, r2), h2 with
    | .error l2, ⟨k2, hk2, z2⟩ =>
      refine ⟨k + k2, by omega, fun n a1 a2 f st => ?_⟩
      obtain ⟨n', b1, b2, zz⟩ := z n a1 a2
      rw [List.append_assoc, show k + k2 + 1 + f = k + (k2 + 1 + f) by omega, zz]
      exact z2 n' b1 b2 f st
    | .ok (y2, r3), ⟨g3, l3, ⟨qq, qq1, qq2⟩, k2, hk2, z2⟩ =>
      refine ⟨g3, by omega, ⟨q ++ qq, by rw [q1, qq1, List.append_assoc], qq2⟩, k + k2, by omega, fun n a1 a2 => ?_⟩
      obtain ⟨n', b1, b2, zz⟩ := z n a1 a2
      obtain ⟨n2, c1, c2, zz2⟩ := z2 n' b1 b2
      refine ⟨n2, c1, c2, fun f st => ?_⟩
      rw [List.append_assoc, show k + k2 + f = k + (k2 + f) by omega, zz, zz2]
/-- a value is made of the part's -/
theorem out_map {α : List Str} {w e : Int} {R1 : A → List PyData → Prop} {R : B → List PyData → Prop} {r : Rem} {x : Except Nat (A × Rem)} {g : A → B} (h : Out nm G nt dep α w e R1 r x) (hr : ∀ y q, R1 y q → R (g y) q) : Out nm G nt dep α w e R r (bd x fun p => .ok (g p.1, p.2)) := by
  match x, h with
  | .ok (y, r2), ⟨a, l, ⟨q, q1, q2⟩, k⟩ => exact ⟨a, l, ⟨q, q1, hr _ _ q2⟩, k⟩
  | .error l, h => exact h
/-- a symbol is replaced -/
theorem out_ntB {X : Str} {α β : List Str} {w e : Int} {R : A → List PyData → Prop} {r : Rem} {x : Except Nat (A × Rem)} (hX : nt X = true) (he : expd G X (lookAt r) = some α) (h : Out nm G nt dep (α ++ β) w e R r x) : Out nm G nt dep (X :: β) (w + 1) (e + 1) R r x := by
  have step : ∀ (f : Nat) (st : List Str) (n : Int), pd G nt (f + 1) (X :: β ++ st) dep n r = pd G nt f (α ++ β ++ st) dep n r := fun f st n => by
    show pd G nt (f + 1) (X :: (β ++ st)) dep n r = _
    rw [pd, if_pos hX, he, List.append_assoc]
  match x, h with
  | .error l, ⟨k, hk, z⟩ =>
    refine ⟨k + 1, by omega, fun n h1 h2 f st => ?_⟩
    rw [show k + 1 + 1 + f = (k + 1 + f) + 1 by omega, step]
    exact z n h1 h2 f st
  | .ok (y, r2), ⟨g, l, q, k, hk, z⟩ =>
    refine ⟨g, l, q, k + 1, by omega, fun n h1 h2 => ?_⟩
    obtain ⟨n', b1, b2, zz⟩ := z n h1 h2
    refine ⟨n', b1, b2, fun f st => ?_⟩
    rw [show k + 1 + f = (k + f) + 1 by omega, step]
    exact zz f st
theorem out_nt {X : Str} {α : List Str} {w e : Int} {R : A → List PyData → Prop} {r : Rem} {x : Except Nat (A × Rem)} (hX : nt X = true) (he : expd G X (lookAt r) = some α) (h : Out nm G nt dep α w e R r x) : Out nm G nt dep [X] (w + 1) (e + 1) R r x :=
  out_ntB (β := []) hX he (by rw [List.append_nil]; exact h)
/-- no row is there for the token -/
theorem out_no {X : Str} {β : List Str} {w : Int} {R : A → List PyData → Prop} {r : Rem} (hg : Good nm r) (hX : nt X = true) (he : expd G X (lookAt r) = none) : Out nm G nt dep (X :: β) w 0 R r (.error (lineAt r)) := by
  refine ⟨0, by omega, fun n h1 h2 f st => ?_⟩
  show pd G nt (0 + 1 + f) (X :: (β ++ st)) dep n r = _
  rw [show 0 + 1 + f = f + 1 by omega, pd, if_pos hX, he]
/-- a terminal that changes no depth -/
structure TmOk (nt : Str → Bool) (s w : Str) : Prop where
  n : nt s = false
  p : plainS s = w
  d : ∀ d, dOf s d = d
  m : ∀ n : Int, 0 ≤ n → n ≤ 8 → 0 ≤ nOf s n ∧ nOf s n ≤ 8
theorem pd_tm {s w : Str} (T : TmOk nt s w) {r : Rem} (hd : dep ≤ 8) {n : Int} (h1 : 0 ≤ n) (h2 : n ≤ 8) (f : Nat) (st : List Str) :
    pd G nt (f + 1) (s :: st) dep n r = if w ≠ lookAt r then (lineAt r : Int) else pd G nt f st dep (nOf s n) r.tail := by
  have hn := (T.m n h1 h2).2
  rw [pd, if_neg (by rw [T.n]; decide), T.p, T.d]
  by_cases c : w ≠ lookAt r
  · rw [if_pos c, if_pos (.inl c)]
  · rw [if_neg c, if_neg]
    rintro (z | z | z)
    · exact c z
    · omega
    · omega
/-- a terminal that is another than the token -/
theorem out_tmno {s w : Str} {β : List Str} {w0 : Int} {R : A → List PyData → Prop} {r : Rem} (T : TmOk nt s w) (hd : dep ≤ 8) (he : w ≠ lookAt r) : Out nm G nt dep (s :: β) w0 0 R r (.error (lineAt r)) := by
  refine ⟨0, by omega, fun n h1 h2 f st => ?_⟩
  show pd G nt (0 + 1 + f) (s :: (β ++ st)) dep n r = _
  rw [show 0 + 1 + f = f + 1 by omega, pd_tm T hd h1 h2, if_pos he]
/-- a terminal that is the token: the rest goes on behind it -/
theorem out_tm {s w : Str} {β : List Str} {w0 e0 : Int} {R : A → List PyData → Prop} {r : Rem} {x : Except Nat (A × Rem)} (T : TmOk nt s w) (hd : dep ≤ 8) (hg : Good nm r) (he : w = lookAt r) (hn : w ≠ Str.ofString "END") {q0 : List PyData} (hv : vals r = q0 ++ vals r.tail)
    (h : Out nm G nt dep β w0 e0 (fun z q => R z (q0 ++ q)) r.tail x) : Out nm G nt dep (s :: β) (w0 - 9) (e0 - 9) R r x := by
  obtain ⟨g2, hl⟩ := hg.tl (fun z => hn (he.trans z))
  have step : ∀ (f : Nat) (st : List Str) (n : Int), 0 ≤ n → n ≤ 8 → pd G nt (f + 1) (s :: β ++ st) dep n r = pd G nt f (β ++ st) dep (nOf s n) r.tail := fun f st n h1 h2 => by
    show pd G nt (f + 1) (s :: (β ++ st)) dep n r = _
    rw [pd_tm T hd h1 h2, if_neg (fun z => z he)]
  match x, h with
  | .error l, ⟨k, hk, z⟩ =>
    refine ⟨k + 1, by omega, fun n h1 h2 f st => ?_⟩
    rw [show k + 1 + 1 + f = (k + 1 + f) + 1 by omega, step _ _ _ h1 h2]
    exact z _ (T.m n h1 h2).1 (T.m n h1 h2).2 f st
  | .ok (y, r2), ⟨g, l, ⟨q, q1, q2⟩, k, hk, z⟩ =>
    refine ⟨g, by omega, ⟨q0 ++ q, by rw [hv, q1, List.append_assoc], q2⟩, k + 1, by omega, fun n h1 h2 => ?_⟩
    obtain ⟨n', b1, b2, zz⟩ := z _ (T.m n h1 h2).1 (T.m n h1 h2).2
    refine ⟨n', b1, b2, fun f st => ?_⟩
    rw [show k + 1 + f = (k + f) + 1 by omega, step _ _ _ h1 h2]
    exact zz f st
/-- mTake: a word, then the rest -/
theorem sim_take {s w : Str} {β : List Str} {w0 e0 e : Int} {m : Rem → Except Nat (A × Rem)} {R : A → List PyData → Prop} (T : TmOk nt s w) (hw : w ∈ terms) (hd : dep ≤ 8) (he : e0 - 9 ≤ e) (he2 : 0 ≤ e) (h : SimR nm G nt dep β w0 e0 m R) :
    SimR nm G nt dep (s :: β) (w0 - 9) e (fun r => bd (mTake w r) m) R := fun r hg => by
  show Out nm G nt dep (s :: β) (w0 - 9) e R r (bd (mTake w r) m)
  unfold mTake
  by_cases c : wordAt w r = true
  · rw [if_pos c]
    have c2 := (word_lk hg hw).mp c
    have nE : w ≠ Str.ofString "END" := fun z => no_terms.2.2.1 (z ▸ hw)
    obtain ⟨g2, _⟩ := hg.tl (fun z => nE (c2.symm.trans z))
    exact (out_tm (q0 := []) (R := R) T hd hg c2.symm nE (vals_word hg hw c2) (h _ g2)).mono (Int.le_refl _) he
  · rw [if_neg c]
    exact (out_tmno T hd fun z => c ((word_lk hg hw).mpr z.symm)).mono (Int.le_refl _) he2
/-- a name -/
theorem sim_name (T : TmOk nt (Str.ofString "NAME") (Str.ofString "NAME")) (hd : dep ≤ 8) : SimR nm G nt dep [Str.ofString "NAME"] (-9) 0 mName (fun v q => q = [tvD v] ∧ ∃ x, v = .str x ∧ nm x) := fun r hg => by
  show Out nm G nt dep _ _ _ _ r (mKind (Str.ofString "name") r)
  unfold mKind
  by_cases c : kindAt r = Str.ofString "name"
  · rw [if_pos c]
    have c2 := (name_lk hg).mp c
    obtain ⟨v1, x, hx, nx⟩ := vals_name hg c2
    obtain ⟨g2, _⟩ := hg.tl (fun z => absurd (c2.symm.trans z) (by decide +kernel))
    exact out_tm (q0 := [tvD (valAt r)]) (R := fun v q => q = [tvD v] ∧ ∃ x, v = .str x ∧ nm x) (e0 := 9) (w0 := 0) T hd hg c2.symm (by decide +kernel) v1 (out_ret g2 ⟨rfl, x, hx, nx⟩)
  · rw [if_neg c]
    exact out_tmno T hd fun z => c ((name_lk hg).mpr z.symm)
/-- a number -/
theorem sim_num (T : TmOk nt (Str.ofString "NUM") (Str.ofString "NUM")) (hd : dep ≤ 8) : SimR nm G nt dep [Str.ofString "NUM"] (-9) 0 mNum (fun v q => q = [tvD v] ∧ ∃ n : Nat, v = .int n) := fun r hg => by
  show Out nm G nt dep _ _ _ _ r (mKind (Str.ofString "number") r)
  unfold mKind
  by_cases c : kindAt r = Str.ofString "number"
  · rw [if_pos c]
    have c2 := (num_lk hg).mp c
    obtain ⟨v1, x, hx⟩ := vals_num hg c2
    obtain ⟨g2, _⟩ := hg.tl (fun z => absurd (c2.symm.trans z) (by decide +kernel))
    exact out_tm (q0 := [tvD (valAt r)]) (R := fun v q => q = [tvD v] ∧ ∃ n : Nat, v = .int n) (e0 := 9) (w0 := 0) T hd hg c2.symm (by decide +kernel) v1 (out_ret g2 ⟨rfl, x, hx⟩)
  · rw [if_neg c]
    exact out_tmno T hd fun z => c ((num_lk hg).mpr z.symm)
/-- while not reader.skip(stop): one more; X stands for any number of them -/
theorem sim_loop {X s stop : Str} {α : List Str} {w e : Int} {step : Rem → Rs} {lv : PyData → List PyData} (hX : nt X = true) (T : TmOk nt s stop) (hs : stop ∈ terms) (hd : dep ≤ 8) (hw : w ≤ -1) (sh : Short step)
    (h : SimR nm G nt dep α w e step (fun d q => lv d = q)) (he : 0 ≤ e)
    (x0 : expd G X stop = some []) (x1 : ∀ r, Good nm r → lookAt r ≠ stop → expd G X (lookAt r) = some (α ++ [X]) ∨ (expd G X (lookAt r) = some [] ∧ step r = .error (lineAt r))) :
    ∀ (f : Nat) (r : Rem), r.length < f → Good nm r → Out nm G nt dep [X, s] (-8) (e + 1) (fun (ds : List PyData) q => ds.flatMap lv = q) r (mLoop stop step f r)
  | 0, r, hf, _ => absurd hf (Nat.not_lt_zero _)
  | f + 1, r, hf, hg => by
    rw [mLoop_s]
    have nE : stop ≠ Str.ofString "END" := fun z => no_terms.2.2.1 (z ▸ hs)
    by_cases c : wordAt stop r = true
    · rw [if_pos c]
      have c2 := (word_lk hg hs).mp c
      obtain ⟨g2, _⟩ := hg.tl (fun z => nE (c2.symm.trans z))
      have a := out_tm (G := G) (dep := dep) (R := fun (ds : List PyData) q => ds.flatMap lv = q) (q0 := []) (w0 := 0) (e0 := 9) T hd hg c2.symm nE (vals_word hg hs c2) (out_ret (y := ([] : List PyData)) g2 rfl)
      exact (out_ntB (α := []) hX (by rw [c2]; exact x0) a).mono (by omega) (by omega)
    · rw [if_neg c]
      have c2 : lookAt r ≠ stop := fun z => c ((word_lk hg hs).mpr z)
      rcases x1 r hg c2 with q | ⟨q, qe⟩
      · have h1 := h r hg
        have key : Out nm G nt dep (α ++ [X, s]) (w + -8) e (fun (ds : List PyData) q => ds.flatMap lv = q) r (bd (step r) fun p => bd (mLoop stop step f p.2) fun q => .ok (p.1 :: q.1, q.2)) := by
          refine out_bd (β := [X, s]) (w2 := -8) (e2 := e + 1) (R := fun (ds : List PyData) q => ds.flatMap lv = q) h1 (Int.le_refl _) (by omega) fun y q r3 hx g3 hq => ?_
          have lt := sh r y r3 hx
          exact out_map (sim_loop hX T hs hd hw sh h he x0 x1 f r3 (by omega) g3) fun ds q2 hq2 => by
            show (y :: ds).flatMap lv = q ++ q2
            rw [List.flatMap_cons, hq, hq2]
        have key2 : Out nm G nt dep ((α ++ [X]) ++ [s]) (w + -8) e (fun (ds : List PyData) q => ds.flatMap lv = q) r (bd (step r) fun p => bd (mLoop stop step f p.2) fun q => .ok (p.1 :: q.1, q.2)) := by
          rw [List.append_assoc]
          exact key
        exact (out_ntB hX q key2).mono (by omega) (by omega)
      · rw [qe]
        exact (out_ntB (α := []) hX q (out_tmno (w0 := -9) T hd fun z => c2 z.symm)).mono (by omega) (by omega)
/-- while reader.skip(word): one more -/
theorem sim_many {X s word : Str} {α : List Str} {w e : Int} {step : Rem → Rs} {lv : PyData → List PyData} (hX : nt X = true) (T : TmOk nt s word) (hs : word ∈ terms) (hd : dep ≤ 8) (hw : w ≤ 8) (sh : Short step)
    (h : SimR nm G nt dep α w e step (fun d q => lv d = q)) (he : 10 ≤ e)
    (x0 : expd G X word = some (s :: (α ++ [X]))) (x1 : ∀ l, l ≠ word → expd G X l = some []) :
    ∀ (f : Nat) (r : Rem), r.length < f → Good nm r → Out nm G nt dep [X] 1 e (fun (ds : List PyData) q => ds.flatMap lv = q) r (mMany word step f r)
  | 0, r, hf, _ => absurd hf (Nat.not_lt_zero _)
  | f + 1, r, hf, hg => by
    rw [mMany_s]
    have nE : word ≠ Str.ofString "END" := fun z => no_terms.2.2.1 (z ▸ hs)
    by_cases c : wordAt word r = true
    · rw [if_pos c]
      have c2 := (word_lk hg hs).mp c
      obtain ⟨g2, gl⟩ := hg.tl (fun z => nE (c2.symm.trans z))
      have key : Out nm G nt dep (α ++ [X]) (w + 1) (e + 8) (fun (ds : List PyData) q => ds.flatMap lv = q) r.tail (bd (step r.tail) fun p => bd (mMany word step f p.2) fun q => .ok (p.1 :: q.1, q.2)) := by
        refine out_bd (β := [X]) (w2 := 1) (e2 := e) (R := fun (ds : List PyData) q => ds.flatMap lv = q) (h r.tail g2) (by omega) (by omega) fun y q r3 hx g3 hq => ?_
        have lt := sh r.tail y r3 hx
        exact out_map (sim_many hX T hs hd hw sh h he x0 x1 f r3 (by omega) g3) fun ds q2 hq2 => by
          show (y :: ds).flatMap lv = q ++ q2
          rw [List.flatMap_cons, hq, hq2]
      have a := out_tm (G := G) (dep := dep) (R := fun (ds : List PyData) q => ds.flatMap lv = q) (q0 := []) T hd hg c2.symm nE (vals_word hg hs c2) key
      exact (out_nt hX (by rw [c2]; exact x0) a).mono (by omega) (by omega)
    · rw [if_neg c]
      have c2 : lookAt r ≠ word := fun z => c ((word_lk hg hs).mpr z)
      have a : Out nm G nt dep [X] (0 + 1) (0 + 1) (fun (ds : List PyData) q => ds.flatMap lv = q) r (.ok ([], r)) := out_nt hX (x1 _ c2) (out_ret hg rfl)
      exact a.mono (by omega) (by omega)
/-- a part behind a word, or nothing -/
theorem sim_opt {X s word : Str} {α : List Str} {w e : Int} {m : Rem → Except Nat (A × Rem)} {y0 : A} {R : A → List PyData → Prop} (hX : nt X = true) (T : TmOk nt s word) (hs : word ∈ terms) (hd : dep ≤ 8) (hw : w ≤ 9) (h : SimR nm G nt dep α w e m R) (h0 : R y0 [])
    (x0 : expd G X word = some (s :: α)) (x1 : ∀ l, l ≠ word → expd G X l = some []) : SimR nm G nt dep [X] 1 (max e 1) (fun r => if wordAt word r = true then m r.tail else .ok (y0, r)) R := fun r hg => by
  show Out nm G nt dep [X] 1 _ R r (if wordAt word r = true then m r.tail else .ok (y0, r))
  have nE : word ≠ Str.ofString "END" := fun z => no_terms.2.2.1 (z ▸ hs)
  by_cases c : wordAt word r = true
  · rw [if_pos c]
    have c2 := (word_lk hg hs).mp c
    obtain ⟨g2, gl⟩ := hg.tl (fun z => nE (c2.symm.trans z))
    have a := out_tm (G := G) (dep := dep) (R := R) (q0 := []) T hd hg c2.symm nE (vals_word hg hs c2) (h _ g2)
    exact (out_nt hX (by rw [c2]; exact x0) a).mono (by omega) (by omega)
  · rw [if_neg c]
    have c2 : lookAt r ≠ word := fun z => c ((word_lk hg hs).mpr z)
    exact (out_nt (w := 0) (e := 0) hX (x1 _ c2) (out_ret hg h0)).mono (by omega) (by omega)
/-- the value is one of these words -/
theorem one_lk {ws : List Str} {r : Rem} (hg : Good nm r) (hs : ∀ x ∈ ws, x ∈ terms) : inV (valAt r) (ws.map V.str) = true ↔ lookAt r ∈ ws := by
  have back : lookAt r ∈ ws → valAt r = .str (lookAt r) := fun z => of_decide_eq_true ((word_lk hg (hs _ z)).mpr rfl)
  have kinds : (∃ x, valAt r = .str x) ∨ ∃ n : Nat, valAt r = .int n := by
    rcases hg.cases with ⟨l, rfl⟩ | ⟨t, r2, rfl, ht, _⟩
    · exact .inl ⟨_, rfl⟩
    · rcases ht.ex with ⟨_, x, hx, _⟩ | ⟨_, n, hn⟩ | ⟨_, _, _, z, hz, _⟩
      · exact .inl ⟨x, hx⟩
      · exact .inr ⟨n, hn⟩
      · exact .inl ⟨z, hz⟩
  rcases kinds with ⟨x, hx⟩ | ⟨n, hn⟩
  · rw [hx, Pk.inV_strs, decide_eq_true_eq]
    constructor
    · intro z
      rw [(word_lk hg (hs x z)).mp (by unfold wordAt; rw [hx]; exact decide_eq_true rfl)]
      exact z
    · intro z
      have e := back z
      rw [hx] at e
      rw [V.str.inj e]
      exact z
  · rw [hn, Pk.inV_int]
    constructor
    · intro z
      cases z
    · intro z
      have e := back z
      rw [hn] at e
      cases e
/-- sim_loop where the rows differ -/
theorem sim_loopG {X s stop : Str} {w e : Int} {step : Rem → Rs} {lv : PyData → List PyData} (hX : nt X = true) (T : TmOk nt s stop) (hs : stop ∈ terms) (hd : dep ≤ 8) (hw : w ≤ -1) (sh : Short step) (he : 0 ≤ e)
    (x0 : expd G X stop = some []) (x1 : ∀ r, Good nm r → lookAt r ≠ stop → (∃ α, expd G X (lookAt r) = some (α ++ [X]) ∧ Out nm G nt dep α w e (fun d q => lv d = q) r (step r)) ∨ (expd G X (lookAt r) = some [] ∧ step r = .error (lineAt r))) :
    ∀ (f : Nat) (r : Rem), r.length < f → Good nm r → Out nm G nt dep [X, s] (-8) (e + 1) (fun (ds : List PyData) q => ds.flatMap lv = q) r (mLoop stop step f r)
  | 0, r, hf, _ => absurd hf (Nat.not_lt_zero _)
  | f + 1, r, hf, hg => by
    rw [mLoop_s]
    have nE : stop ≠ Str.ofString "END" := fun z => no_terms.2.2.1 (z ▸ hs)
    by_cases c : wordAt stop r = true
    · rw [if_pos c]
      have c2 := (word_lk hg hs).mp c
      obtain ⟨g2, _⟩ := hg.tl (fun z => nE (c2.symm.trans z))
      have a := out_tm (G := G) (dep := dep) (R := fun (ds : List PyData) q => ds.flatMap lv = q) (q0 := []) (w0 := 0) (e0 := 9) T hd hg c2.symm nE (vals_word hg hs c2) (out_ret (y := ([] : List PyData)) g2 rfl)
      exact (out_ntB (α := []) hX (by rw [c2]; exact x0) a).mono (by omega) (by omega)
    · rw [if_neg c]
      have c2 : lookAt r ≠ stop := fun z => c ((word_lk hg hs).mpr z)
      rcases x1 r hg c2 with ⟨α, q, h1⟩ | ⟨q, qe⟩
      · have key : Out nm G nt dep (α ++ [X, s]) (w + -8) e (fun (ds : List PyData) q => ds.flatMap lv = q) r (bd (step r) fun p => bd (mLoop stop step f p.2) fun q => .ok (p.1 :: q.1, q.2)) := by
          refine out_bd (β := [X, s]) (w2 := -8) (e2 := e + 1) (R := fun (ds : List PyData) q => ds.flatMap lv = q) h1 (Int.le_refl _) (by omega) fun y q r3 hx g3 hq => ?_
          have lt := sh r y r3 hx
          exact out_map (sim_loopG hX T hs hd hw sh he x0 x1 f r3 (by omega) g3) fun ds q2 hq2 => by
            show (y :: ds).flatMap lv = q ++ q2
            rw [List.flatMap_cons, hq, hq2]
        have key2 : Out nm G nt dep ((α ++ [X]) ++ [s]) (w + -8) e (fun (ds : List PyData) q => ds.flatMap lv = q) r (bd (step r) fun p => bd (mLoop stop step f p.2) fun q => .ok (p.1 :: q.1, q.2)) := by
          rw [List.append_assoc]
          exact key
        exact (out_ntB hX q key2).mono (by omega) (by omega)
      · rw [qe]
        exact (out_ntB (α := []) hX q (out_tmno (w0 := -9) T hd fun z => c2 z.symm)).mono (by omega) (by omega)
end
end Tk
set_option Elab.async false
set_option linter.all false
set_option maxRecDepth 100000
set_option maxHeartbeats 4000000
namespace Tk
open PySem L2 SX
abbrev o (x : String) : Str := Str.ofString x
def g49 : Rul := [
  (o "$program", [(o "program", [o "program", o "NAME", o "$headers", o "$meta", o "parser", o "{", o "$states", o "}", o "$actions", o "$tables", o "control", o "$block", o "$emit", o "END"])]),
  (o "$headers", [(o "header", [o "header", o "NAME", o "{", o "$fields", o "}", o "$headers"]), (o "", [])]),
  (o "$meta", [(o "meta", [o "meta", o "{", o "$fields", o "}"]), (o "", [])]),
  (o "$fields", [(o "NAME", [o "NAME", o ":", o "NUM", o ";", o "$fields"]), (o "", [])]),
  (o "$states", [(o "state", [o "state", o "NAME", o "{", o "$extract", o "$next", o "}", o "$states"]), (o "", [])]),
  (o "$extract", [(o "extract", [o "extract", o "NAME", o ";"]), (o "", [])]),
  (o "$next", [(o "select", [o "select", o "$field", o "{", o "$rows", o "else", o "->", o "$target", o ";", o "}"]), (o "go", [o "go", o "$target", o ";"])]),
  (o "$rows", [(o "NUM", [o "NUM", o "$mask", o "->", o "$target", o ";", o "$rows"]), (o "", [])]),
  (o "$mask", [(o "&", [o "&", o "NUM"]), (o "", [])]),
  (o "$target", [(o "NAME", [o "NAME"]), (o "accept", [o "accept"]), (o "reject", [o "reject"])]),
  (o "$field", [(o "NAME", [o "NAME", o ".", o "NAME"]), (o "meta", [o "meta", o ".", o "NAME"]), (o "packet", [o "packet", o ".", o "NAME"])]),
  (o "$actions", [(o "action", [o "action", o "NAME", o "(", o "$params", o ")", o "{", o "$ops", o "}", o "$actions"]), (o "", [])]),
  (o "$params", [(o "NAME", [o "NAME", o ":", o "NUM", o "$param"]), (o "", [])]),
  (o "$param", [(o ",", [o ",", o "NAME", o ":", o "NUM", o "$param"]), (o "", [])]),
  (o "$ops", [(o "send", [o "send", o "$expr", o ";", o "$ops"]), (o "drop", [o "drop", o ";", o "$ops"]), (o "add", [o "add", o "NAME", o ";", o "$ops"]), (o "remove", [o "remove", o "NAME", o ";", o "$ops"]), (o "NAME", [o "$field", o "=", o "$expr", o ";", o "$ops"]), (o "meta", [o "$field", o "=", o "$expr", o ";", o "$ops"]), (o "packet", [o "$field", o "=", o "$expr", o ";", o "$ops"]), (o "", [])]),
  (o "$expr", [(o "", [o "$operand", o "$tail"])]),
  (o "$tail", [(o "+", [o "+", o "$operand"]), (o "-", [o "-", o "$operand"]), (o "&", [o "&", o "$operand"]), (o "|", [o "|", o "$operand"]), (o "^", [o "^", o "$operand"]), (o "", [])]),
  (o "$operand", [(o "NAME", [o "NAME", o "$dot"]), (o "meta", [o "meta", o ".", o "NAME"]), (o "packet", [o "packet", o ".", o "NAME"]), (o "NUM", [o "NUM"])]),
  (o "$dot", [(o ".", [o ".", o "NAME"]), (o "", [])]),
  (o "$tables", [(o "table", [o "table", o "NAME", o "{", o "$keys", o "$uses", o "default", o "NAME", o "(", o "$args", o ")", o ";", o "size", o "NUM", o ";", o "}", o "$tables"]), (o "", [])]),
  (o "$keys", [(o "key", [o "key", o "$field", o "$kind", o ";", o "$keys"]), (o "", [])]),
  (o "$kind", [(o "exact", [o "exact"]), (o "mask", [o "mask"]), (o "prefix", [o "prefix"])]),
  (o "$uses", [(o "use", [o "use", o "NAME", o ";", o "$uses"]), (o "", [])]),
  (o "$args", [(o "NUM", [o "NUM", o "$arg"]), (o "", [])]),
  (o "$arg", [(o ",", [o ",", o "NUM", o "$arg"]), (o "", [])]),
  (o "$block", [(o "{", [o "OPEN", o "$statements", o "CLOSE"])]),
  (o "$statements", [(o "apply", [o "apply", o "NAME", o ";", o "$statements"]), (o "if", [o "if", o "$test", o "$block", o "$else", o "$statements"]), (o "", [])]),
  (o "$else", [(o "else", [o "else", o "$block"]), (o "", [])]),
  (o "$test", [(o "not", [o "NOT", o "$test"]), (o "NAME", [o "$field", o "$compare"]), (o "meta", [o "$field", o "$compare"]), (o "packet", [o "$field", o "$compare"]), (o "valid", [o "valid", o "NAME"])]),
  (o "$compare", [(o "==", [o "==", o "NUM"]), (o "<", [o "<", o "NUM"])]),
  (o "$emit", [(o "emit", [o "emit", o "NAME", o "$names", o ";"]), (o "", [])]),
  (o "$names", [(o ",", [o ",", o "NAME", o "$names"]), (o "", [])])]
/-- a symbol that stands for others -/
def nt49 (s : Str) : Bool := (g49.map (·.1)).contains s
theorem fnd_out {l : Str} : ∀ (rows rest : List (Str × List Str)), (∀ a ∈ rows.map (·.1), a ≠ l ∧ a ≠ o "") → fnd l (rows ++ rest) = fnd l rest
  | [], _, _ => rfl
  | (a, b) :: rows, rest, h => by
    have h1 := h a List.mem_cons_self
    show fnd l ((a, b) :: (rows ++ rest)) = _
    rw [fnd, if_neg (fun z => z.elim h1.1 h1.2)]
    exact fnd_out rows rest fun x hx => h x (List.mem_cons_of_mem _ hx)
/-- the words that rows begin with are not the token: the default, or nothing -/
theorem ex_def {X l : Str} (rows rest : List (Str × List Str)) (e : g49.lookup X = some (rows ++ rest)) (h : ∀ a ∈ rows.map (·.1), a ≠ l) (hn : ∀ a ∈ rows.map (·.1), a ≠ o "") : expd g49 X l = fnd l rest := by
  unfold expd
  rw [e]
  show fnd l (rows ++ rest) = _
  exact fnd_out rows rest fun a ha => ⟨h a ha, hn a ha⟩
theorem tm_ok {s w : Str} (h1 : nt49 s = false) (h2 : plainS s = w) (h3 : s ≠ o "OPEN") (h4 : s ≠ o "CLOSE") (h5 : s ≠ o "NOT") : TmOk nt49 s w := by
  refine ⟨h1, h2, fun d => ?_, fun n a b => ?_⟩
  · unfold dOf
    rw [decide_eq_false h3, decide_eq_false h4]
    show d + 0 - 0 = d
    omega
  · unfold nOf
    rw [decide_eq_false h5]
    split
    · omega
    · show 0 ≤ n + 0 ∧ n + 0 ≤ 8
      omega
abbrev tmN : TmOk nt49 (o "NAME") (o "NAME") := tm_ok (by decide +kernel) (by decide +kernel) (by decide +kernel) (by decide +kernel) (by decide +kernel)
abbrev tmD : TmOk nt49 (o "NUM") (o "NUM") := tm_ok (by decide +kernel) (by decide +kernel) (by decide +kernel) (by decide +kernel) (by decide +kernel)
section
variable {nm : Str → Prop}
/-- the names and numbers of a part's value, in order -/
structure LvOk (nm : Str → Prop) (lv : PyData → List PyData) : Prop where
  str : ∀ x, nm x → lv (.str x) = [.str x]
  wrd : ∀ x, x ∈ terms → lv (.str x) = []
  int : ∀ n : Nat, lv (.int n) = [.int n]
  non : lv .none = []
  tup : ∀ xs, lv (.tuple xs) = xs.flatMap lv
  lst : ∀ xs, lv (.list xs) = xs.flatMap lv
  tag : ∀ x ∈ [o "num", o "param", o "field", o "set"], lv (.str x) = []
variable {lv : PyData → List PyData}
theorem tv_str (L : LvOk nm lv) {v : V} (h : ∃ x, v = .str x ∧ nm x) : lv (tvD v) = [tvD v] := by
  obtain ⟨x, rfl, hx⟩ := h
  exact L.str x hx
theorem tv_int (L : LvOk nm lv) {v : V} (h : ∃ n : Nat, v = .int n) : lv (tvD v) = [tvD v] := by
  obtain ⟨n, rfl⟩ := h
  exact L.int n
abbrev Sm (nm : Str → Prop) (lv : PyData → List PyData) (dep : Int) (α : List Str) (w e : Int) (m : Rem → Rs) : Prop := SimR nm g49 nt49 dep α w e m fun d q => lv d = q
abbrev SmL (nm : Str → Prop) (lv : PyData → List PyData) (dep : Int) (α : List Str) (w e : Int) (m : Rem → RsL) : Prop := SimR nm g49 nt49 dep α w e m fun (ds : List PyData) q => ds.flatMap lv = q
theorem tm_w : ∀ w ∈ terms, nt49 w = false ∧ plainS w = w ∧ w ≠ o "OPEN" ∧ w ≠ o "CLOSE" ∧ w ≠ o "NOT" := by decide +kernel
theorem tmw {w : Str} (hw : w ∈ terms) : TmOk nt49 w w := tm_ok (tm_w w hw).1 (tm_w w hw).2.1 (tm_w w hw).2.2.1 (tm_w w hw).2.2.2.1 (tm_w w hw).2.2.2.2
/-- a symbol's part, then the rest -/
theorem st {A B : Type} {dep : Int} {X : Str} {β : List Str} (w1 e1 w2 e2 : Int) {w e : Int} {m : Rem → Except Nat (A × Rem)} {R1 : A → List PyData → Prop} {R : B → List PyData → Prop} {r : Rem} {F : A × Rem → Except Nat (B × Rem)} (h : SimR nm g49 nt49 dep [X] w1 e1 m R1) (hg : Good nm r) (hw : w1 + w2 ≤ w) (he1 : e1 ≤ e) (he2 : w1 + e2 ≤ e)
    (hF : ∀ y q r2, Good nm r2 → R1 y q → Out nm g49 nt49 dep β w2 e2 (fun z q2 => R z (q ++ q2)) r2 (F (y, r2))) : Out nm g49 nt49 dep (X :: β) w e R r (bd (m r) F) :=
  (out_bd (α := [X]) (h r hg) he1 he2 fun y q r2 _ g2 h2 => hF y q r2 g2 h2).mono hw (Int.le_refl _)
/-- a word, then the rest -/
theorem tk {B : Type} {dep : Int} {β : List Str} {x : String} (w2 e2 : Int) {w e : Int} {R : B → List PyData → Prop} {r : Rem} {F : Rem → Except Nat (B × Rem)} (hx : o x ∈ terms) (hd : dep ≤ 8) (hg : Good nm r) (hw : w2 - 9 ≤ w) (he0 : 0 ≤ e) (he : e2 - 9 ≤ e)
    (hF : ∀ r2, Good nm r2 → Out nm g49 nt49 dep β w2 e2 R r2 (F r2)) : Out nm g49 nt49 dep (o x :: β) w e R r (bd (mTake (o x) r) F) :=
  (sim_take (R := R) (tmw hx) hx hd he he0 (fun r2 g2 => hF r2 g2) r hg).mono hw (Int.le_refl _)
theorem sim_width (L : LvOk nm lv) : Sm nm lv 0 [o "NAME", o ":", o "NUM"] (-27) 0 mWidth := fun r hg => by
  refine st (-9) 0 (-18) 0 (sim_name tmN (by decide)) hg (by decide) (by decide) (by decide) fun v q r2 g2 hq => ?_
  obtain ⟨rfl, hv⟩ := hq
  refine tk (-9) 0 (by decide +kernel) (by decide) g2 (by decide) (by decide) (by decide) fun r3 g3 => ?_
  refine out_map (g := fun m => PyData.tuple [tvD v, tvD m]) (sim_num tmD (by decide) r3 g3) fun m q2 hq2 => ?_
  obtain ⟨rfl, hm⟩ := hq2
  rw [L.tup, List.flatMap_cons, List.flatMap_cons, List.flatMap_nil, tv_str L hv, tv_int L hm]
  rfl
/-- a part of several symbols, then the rest -/
theorem sts {A B : Type} {dep : Int} {α β : List Str} (w1 e1 w2 e2 : Int) {w e : Int} {m : Rem → Except Nat (A × Rem)} {R1 : A → List PyData → Prop} {R : B → List PyData → Prop} {r : Rem} {F : A × Rem → Except Nat (B × Rem)} (h : SimR nm g49 nt49 dep α w1 e1 m R1) (hg : Good nm r) (hw : w1 + w2 ≤ w) (he1 : e1 ≤ e) (he2 : w1 + e2 ≤ e)
    (hF : ∀ y q r2, Good nm r2 → R1 y q → Out nm g49 nt49 dep β w2 e2 (fun z q2 => R z (q ++ q2)) r2 (F (y, r2))) : Out nm g49 nt49 dep (α ++ β) w e R r (bd (m r) F) :=
  (out_bd (α := α) (h r hg) he1 he2 fun y q r2 _ g2 h2 => hF y q r2 g2 h2).mono hw (Int.le_refl _)
/-- a word at the end -/
theorem tke {B : Type} {dep : Int} {x : String} {w e : Int} {R : B → List PyData → Prop} {r : Rem} {y : B} (hx : o x ∈ terms) (hd : dep ≤ 8) (hg : Good nm r) (hw : -9 ≤ w) (he0 : 0 ≤ e) (hR : R y []) : Out nm g49 nt49 dep [o x] w e R r (bd (mTake (o x) r) fun r2 => .ok (y, r2)) :=
  tk 0 0 hx hd hg (by omega) he0 (by omega) fun r2 g2 => out_ret g2 hR
theorem sim_fieldStep (L : LvOk nm lv) : Sm nm lv 0 [o "NAME", o ":", o "NUM", o ";"] (-36) 0 mFieldStep := fun r hg => by
  refine sts (α := [o "NAME", o ":", o "NUM"]) (β := [o ";"]) (-27) 0 (-9) 0 (sim_width L) hg (by decide) (by decide) (by decide) fun y q r2 g2 hq => ?_
  exact tke (by decide +kernel) (by decide) g2 (by decide) (by decide) (by rw [hq, List.append_nil])
theorem sim_fieldsL (L : LvOk nm lv) (r : Rem) (hg : Good nm r) : Out nm g49 nt49 0 [o "$fields", o "}"] (-8) 1 (fun (ds : List PyData) q => ds.flatMap lv = q) r (mLoop (o "}") mFieldStep (r.length + 1) r) := by
  refine sim_loop (α := [o "NAME", o ":", o "NUM", o ";"]) (w := -36) (e := 0) (by decide +kernel) (tmw (by decide +kernel)) (by decide +kernel) (by decide) (by decide) fieldStep_short (sim_fieldStep L) (by decide) (by decide +kernel) (fun r2 g2 hne => ?_) (r.length + 1) r (Nat.lt_succ_self _) hg
  by_cases c : lookAt r2 = o "NAME"
  · exact .inl (by rw [c]; decide +kernel)
  · refine .inr ⟨(ex_def [(o "NAME", [o "NAME", o ":", o "NUM", o ";", o "$fields"])] [(o "", [])] (by decide +kernel) (by simpa using fun z => c z.symm) (by decide +kernel)).trans (by unfold fnd; rw [if_pos (.inr rfl)]), ?_⟩
    unfold mFieldStep mWidth mName mKind
    rw [if_neg fun z => c ((name_lk g2).mp z)]
    rfl
theorem ex_many {X word l : Str} {row : List Str} (e : g49.lookup X = some [(word, row), (o "", [])]) (hw : word ≠ o "") (h : l ≠ word) : expd g49 X l = some [] := by
  rw [ex_def [(word, row)] [(o "", [])] e (fun a ha => by rw [List.mem_singleton.mp ha]; exact fun z => h z.symm) (fun a ha => by rw [List.mem_singleton.mp ha]; exact hw)]
  unfold fnd
  rw [if_pos (.inr rfl)]
theorem sim_fields (L : LvOk nm lv) : SmL nm lv 0 [o "{", o "$fields", o "}"] (-17) 0 mFields := fun r hg =>
  tk (-8) 1 (by decide +kernel) (by decide) hg (by decide) (by decide) (by decide) fun r2 g2 => sim_fieldsL L r2 g2
theorem sim_header (L : LvOk nm lv) : Sm nm lv 0 [o "NAME", o "{", o "$fields", o "}"] (-26) 0 mHeader := fun r hg => by
  refine st (-9) 0 (-17) 0 (sim_name tmN (by decide)) hg (by decide) (by decide) (by decide) fun v q r2 g2 hq => ?_
  obtain ⟨rfl, hv⟩ := hq
  refine out_map (g := fun ds => PyData.tuple [.str "header", tvD v, .list ds]) (sim_fields L r2 g2) fun ds q2 hq2 => ?_
  rw [L.tup, List.flatMap_cons, List.flatMap_cons, List.flatMap_cons, List.flatMap_nil, L.wrd _ (by decide +kernel), tv_str L hv, L.lst, hq2, List.append_nil, List.nil_append]
theorem sim_headers (L : LvOk nm lv) (r : Rem) (hg : Good nm r) : Out nm g49 nt49 0 [o "$headers"] 1 10 (fun (ds : List PyData) q => ds.flatMap lv = q) r (mMany (o "header") mHeader (r.length + 1) r) :=
  sim_many (s := o "header") (α := [o "NAME", o "{", o "$fields", o "}"]) (w := -26) (e := 10) (by decide +kernel) (tmw (by decide +kernel)) (by decide +kernel) (by decide) (by decide) header_short (fun r2 g2 => (sim_header L r2 g2).mono (by decide) (by decide)) (by decide) (by decide +kernel) (fun l hl => ex_many (row := [o "header", o "NAME", o "{", o "$fields", o "}", o "$headers"]) (by decide +kernel) (by decide +kernel) hl) (r.length + 1) r (Nat.lt_succ_self _) hg
theorem sim_meta (L : LvOk nm lv) : SmL nm lv 0 [o "$meta"] 1 9 (fun r => if wordAt (o "meta") r = true then mFields r.tail else .ok ([], r)) := fun r hg =>
  (sim_opt (s := o "meta") (α := [o "{", o "$fields", o "}"]) (w := -17) (e := 0) (y0 := ([] : List PyData)) (R := fun (ds : List PyData) q => ds.flatMap lv = q) (by decide +kernel) (tmw (by decide +kernel)) (by decide +kernel) (by decide) (by decide) (sim_fields L) rfl (by decide +kernel) (fun l hl => ex_many (row := [o "meta", o "{", o "$fields", o "}"]) (by decide +kernel) (by decide +kernel) hl) r hg).mono (by decide) (by decide)
abbrev SmV (nm : Str → Prop) (lv : PyData → List PyData) (dep : Int) (α : List Str) (w e : Int) (m : Rem → Except Nat (V × Rem)) : Prop := SimR nm g49 nt49 dep α w e m fun v q => lv (tvD v) = q
theorem out_w1 {A : Type} {dep : Int} {x : Str} {R : A → List PyData → Prop} {r : Rem} {y : A} (hx : x ∈ terms) (hd : dep ≤ 8) (hg : Good nm r) (e : lookAt r = x) (hR : R y []) : Out nm g49 nt49 dep [x] (-9) 0 R r (.ok (y, r.tail)) := by
  have nE : x ≠ Str.ofString "END" := fun z => no_terms.2.2.1 (z ▸ hx)
  obtain ⟨g2, _⟩ := hg.tl (fun z => nE (e.symm.trans z))
  exact (out_tm (G := g49) (dep := dep) (R := R) (q0 := []) (w0 := 0) (e0 := 9) (tmw hx) hd hg e.symm nE (vals_word hg hx e) (out_ret g2 hR))
theorem val_word {r : Rem} {x : Str} (hx : x ∈ terms) (hg : Good nm r) (e : lookAt r = x) : valAt r = .str x := of_decide_eq_true ((word_lk hg hx).mpr e)
/-- `if value in words: take one; else: take a name` -/
def mWN (ws : List Str) (r : Rem) : Except Nat (V × Rem) := if inV (valAt r) (ws.map V.str) = true then mOne ws r else mName r
theorem wn_word (L : LvOk nm lv) {dep : Int} {ws : List Str} {r : Rem} (hs : ∀ x ∈ ws, x ∈ terms) (hd : dep ≤ 8) (hg : Good nm r) (h : lookAt r ∈ ws) : Out nm g49 nt49 dep [lookAt r] (-9) 0 (fun v q => lv (tvD v) = q) r (mWN ws r) := by
  unfold mWN mOne
  rw [if_pos ((one_lk hg hs).mpr h), if_pos ((one_lk hg hs).mpr h)]
  exact out_w1 (hs _ h) hd hg rfl (by rw [val_word (hs _ h) hg rfl]; exact L.wrd _ (hs _ h))
theorem wn_name (L : LvOk nm lv) {dep : Int} {ws : List Str} {r : Rem} (hs : ∀ x ∈ ws, x ∈ terms) (hd : dep ≤ 8) (hg : Good nm r) (h : lookAt r = o "NAME") : Out nm g49 nt49 dep [o "NAME"] (-9) 0 (fun v q => lv (tvD v) = q) r (mWN ws r) := by
  unfold mWN
  rw [if_neg fun z => no_terms.1 (by have := (one_lk hg hs).mp z; rw [h] at this; exact hs _ this)]
  exact (sim_name tmN hd r hg).rel fun v q hq => by
    obtain ⟨rfl, hv⟩ := hq
    exact tv_str L hv
theorem wn_err {ws : List Str} {r : Rem} (hs : ∀ x ∈ ws, x ∈ terms) (hg : Good nm r) (h1 : lookAt r ∉ ws) (h2 : lookAt r ≠ o "NAME") : mWN ws r = .error (lineAt r) := by
  unfold mWN mName mKind
  rw [if_neg fun z => h1 ((one_lk hg hs).mp z), if_neg fun z => h2 ((name_lk hg).mp z)]
theorem sim_target (L : LvOk nm lv) : SmV nm lv 0 [o "$target"] (-8) 1 mTargetV := fun r hg => by
  show Out nm g49 nt49 0 [o "$target"] (-8) 1 _ r (mWN endTargets r)
  have hs : ∀ x ∈ endTargets, x ∈ terms := by decide +kernel
  by_cases c1 : lookAt r ∈ endTargets
  · have e : expd g49 (o "$target") (lookAt r) = some [lookAt r] := (show ∀ x ∈ endTargets, expd g49 (o "$target") x = some [x] by decide +kernel) _ c1
    exact (out_nt (by decide +kernel) e (wn_word L hs (by decide) hg c1)).mono (by decide) (by decide)
  · by_cases c2 : lookAt r = o "NAME"
    · exact (out_nt (by decide +kernel) (by rw [c2]; decide +kernel) (wn_name L hs (by decide) hg c2)).mono (by decide) (by decide)
    · rw [wn_err hs hg c1 c2]
      have e : expd g49 (o "$target") (lookAt r) = none := ex_def [(o "NAME", [o "NAME"]), (o "accept", [o "accept"]), (o "reject", [o "reject"])] [] (by decide +kernel) (fun a ha z => by
        rcases List.mem_cons.mp ha with q | q
        · exact c2 (z.symm.trans q)
        · exact c1 (z ▸ q)) (by decide +kernel)
      exact (out_no hg (by decide +kernel) e).mono (Int.le_refl _) (by decide)
theorem sim_field (L : LvOk nm lv) {dep : Int} (hd : dep ≤ 8) : Sm nm lv dep [o "$field"] (-26) 1 mField := fun r hg => by
  have hs : ∀ x ∈ ownerWords, x ∈ terms := by decide +kernel
  have rest : ∀ x, Out nm g49 nt49 dep [x] (-9) 0 (fun v q => lv (tvD v) = q) r (mWN ownerWords r) → Out nm g49 nt49 dep [x, o ".", o "NAME"] (-27) 0 (fun d q => lv d = q) r (mField r) := fun x h => by
    refine out_bd (α := [x]) (β := [o ".", o "NAME"]) (w1 := -9) (e1 := 0) (w2 := -18) (e2 := 0) (e := 0) h (by decide) (by decide) fun v q r2 _ g2 hq => ?_
    refine tk (-9) 0 (by decide +kernel) hd g2 (by decide) (by decide) (by decide) fun r3 g3 => ?_
    refine out_map (g := fun m => PyData.tuple [tvD v, tvD m]) (sim_name tmN hd r3 g3) fun m q2 hq2 => ?_
    obtain ⟨rfl, hm⟩ := hq2
    rw [L.tup, List.flatMap_cons, List.flatMap_cons, List.flatMap_nil, hq, tv_str L hm, List.append_nil]
  by_cases c1 : lookAt r ∈ ownerWords
  · have e : expd g49 (o "$field") (lookAt r) = some [lookAt r, o ".", o "NAME"] := (show ∀ x ∈ ownerWords, expd g49 (o "$field") x = some [x, o ".", o "NAME"] by decide +kernel) _ c1
    exact (out_nt (by decide +kernel) e (rest _ (wn_word L hs hd hg c1))).mono (by decide) (by decide)
  · by_cases c2 : lookAt r = o "NAME"
    · exact (out_nt (by decide +kernel) (by rw [c2]; decide +kernel) (rest _ (wn_name L hs hd hg c2))).mono (by decide) (by decide)
    · have q : mField r = .error (lineAt r) := by
        show bd (mWN ownerWords r) _ = _
        rw [wn_err hs hg c1 c2]
        rfl
      rw [q]
      have e : expd g49 (o "$field") (lookAt r) = none := ex_def [(o "NAME", [o "NAME", o ".", o "NAME"]), (o "meta", [o "meta", o ".", o "NAME"]), (o "packet", [o "packet", o ".", o "NAME"])] [] (by decide +kernel) (fun a ha z => by
        rcases List.mem_cons.mp ha with q | q
        · exact c2 (z.symm.trans q)
        · exact c1 (z ▸ q)) (by decide +kernel)
      exact (out_no hg (by decide +kernel) e).mono (Int.le_refl _) (by decide)
theorem sim_numD (L : LvOk nm lv) {dep : Int} (hd : dep ≤ 8) : Sm nm lv dep [o "NUM"] (-9) 0 mNumD := fun r hg =>
  out_map (g := fun v => tvD v) (sim_num tmD hd r hg) fun m q2 hq2 => by
    obtain ⟨rfl, hm⟩ := hq2
    exact tv_int L hm
theorem sim_nameD (L : LvOk nm lv) {dep : Int} (hd : dep ≤ 8) : Sm nm lv dep [o "NAME"] (-9) 0 mNameD := fun r hg =>
  out_map (g := fun v => tvD v) (sim_name tmN hd r hg) fun m q2 hq2 => by
    obtain ⟨rfl, hm⟩ := hq2
    exact tv_str L hm
theorem sim_nameS (L : LvOk nm lv) {dep : Int} (hd : dep ≤ 8) : Sm nm lv dep [o "NAME", o ";"] (-18) 0 mNameS := fun r hg => by
  refine st (-9) 0 (-9) 0 (sim_name tmN hd) hg (by decide) (by decide) (by decide) fun v q r2 g2 hq => ?_
  obtain ⟨rfl, hv⟩ := hq
  exact tke (by decide +kernel) hd g2 (by decide) (by decide) (by rw [tv_str L hv]; rfl)
theorem sim_mask (L : LvOk nm lv) : Sm nm lv 0 [o "$mask"] 1 9 (mOpt (o "&") mNumD) := fun r hg =>
  (sim_opt (s := o "&") (α := [o "NUM"]) (w := -9) (e := 0) (y0 := PyData.none) (R := fun d q => lv d = q) (by decide +kernel) (tmw (by decide +kernel)) (by decide +kernel) (by decide) (by decide) (sim_numD L (by decide)) L.non (by decide +kernel) (fun l hl => ex_many (row := [o "&", o "NUM"]) (by decide +kernel) (by decide +kernel) hl) r hg).mono (by decide) (by decide)
theorem sim_row (L : LvOk nm lv) : Sm nm lv 0 [o "NUM", o "$mask", o "->", o "$target", o ";"] (-34) 0 mRow := fun r hg => by
  refine st (-9) 0 (-25) 9 (sim_num tmD (by decide)) hg (by decide) (by decide) (by decide) fun v q r2 g2 hq => ?_
  obtain ⟨rfl, hv⟩ := hq
  refine st 1 9 (-26) 1 (sim_mask L) g2 (by decide) (by decide) (by decide) fun m qm r3 g3 hm => ?_
  refine tk (-17) 1 (by decide +kernel) (by decide) g3 (by decide) (by decide) (by decide) fun r4 g4 => ?_
  refine st (-8) 1 (-9) 0 (sim_target L) g4 (by decide) (by decide) (by decide) fun t qt r5 g5 ht => ?_
  refine tke (by decide +kernel) (by decide) g5 (by decide) (by decide) ?_
  rw [L.tup, List.flatMap_cons, List.flatMap_cons, List.flatMap_cons, List.flatMap_nil, tv_int L hv, hm, ht, List.append_nil]
theorem sim_selEnd (L : LvOk nm lv) : SmV nm lv 0 [o "->", o "$target", o ";", o "}"] (-35) 0 mSelEnd := fun r hg => by
  refine tk (-26) 1 (by decide +kernel) (by decide) hg (by decide) (by decide) (by decide) fun r2 g2 => ?_
  refine st (-8) 1 (-18) 0 (sim_target L) g2 (by decide) (by decide) (by decide) fun t qt r3 g3 ht => ?_
  refine tk (-9) 0 (by decide +kernel) (by decide) g3 (by decide) (by decide) (by decide) fun r4 g4 => ?_
  exact tke (by decide +kernel) (by decide) g4 (by decide) (by decide) (by rw [ht, List.append_nil])
theorem sim_rows (L : LvOk nm lv) (r : Rem) (hg : Good nm r) : Out nm g49 nt49 0 [o "$rows", o "else"] (-8) 1 (fun (ds : List PyData) q => ds.flatMap lv = q) r (mLoop (o "else") mRow (r.length + 1) r) := by
  refine sim_loop (α := [o "NUM", o "$mask", o "->", o "$target", o ";"]) (w := -34) (e := 0) (by decide +kernel) (tmw (by decide +kernel)) (by decide +kernel) (by decide) (by decide) row_short (sim_row L) (by decide) (by decide +kernel) (fun r2 g2 hne => ?_) (r.length + 1) r (Nat.lt_succ_self _) hg
  by_cases c : lookAt r2 = o "NUM"
  · exact .inl (by rw [c]; decide +kernel)
  · refine .inr ⟨ex_many (row := [o "NUM", o "$mask", o "->", o "$target", o ";", o "$rows"]) (by decide +kernel) (by decide +kernel) c, ?_⟩
    unfold mRow mNum mKind
    rw [if_neg fun z => c ((num_lk g2).mp z)]
    rfl
theorem sim_way (L : LvOk nm lv) : Sm nm lv 0 [o "$next"] (-8) 9 mWay := fun r hg => by
  unfold mWay
  by_cases c : lookAt r = o "go"
  · have c0 : wordAt (o "go") r = true := (word_lk hg (by decide +kernel)).mpr c
    rw [if_pos c0]
    obtain ⟨g2, _⟩ := hg.tl (by rw [c]; decide +kernel)
    refine (out_nt (α := [o "go", o "$target", o ";"]) (w := -26) (e := 8) (by decide +kernel) (by rw [c]; decide +kernel) ?_).mono (by decide) (by decide)
    refine (out_tm (G := g49) (q0 := []) (w0 := -17) (e0 := 17) (R := fun d q => lv d = q) (tmw (w := o "go") (by decide +kernel)) (by decide) hg c.symm (by decide +kernel) (vals_word hg (by decide +kernel) c) ?_).mono (by decide) (by decide)
    refine st (-8) 1 (-9) 0 (sim_target L) g2 (by decide) (by decide) (by decide) fun t qt r3 g3 ht => ?_
    refine tke (by decide +kernel) (by decide) g3 (by decide) (by decide) ?_
    rw [L.tup, List.flatMap_cons, List.flatMap_cons, List.flatMap_nil, L.wrd _ (by decide +kernel), ht]
  · rw [if_neg fun z => c ((word_lk hg (by decide +kernel)).mp z)]
    by_cases c2 : lookAt r = o "select"
    · refine (out_nt (α := [o "select", o "$field", o "{", o "$rows", o "else", o "->", o "$target", o ";", o "}"]) (w := -26) (e := 8) (by decide +kernel) (by rw [c2]; decide +kernel) ?_).mono (by decide) (by decide)
      refine tk (-17) 1 (by decide +kernel) (by decide) hg (by decide) (by decide) (by decide) fun r2 g2 => ?_
      refine st (-26) 1 (-43) 1 (sim_field L (by decide)) g2 (by decide) (by decide) (by decide) fun f qf r3 g3 hf => ?_
      refine tk (-43) 1 (by decide +kernel) (by decide) g3 (by decide) (by decide) (by decide) fun r4 g4 => ?_
      refine (out_bd (α := [o "$rows", o "else"]) (β := [o "->", o "$target", o ";", o "}"]) (w1 := -8) (e1 := 1) (w2 := -35) (e2 := 0) (e := 1) (sim_rows L r4 g4) (by decide) (by decide) fun ds qd r5 _ g5 hd => ?_).mono (by decide) (by decide)
      refine out_map (g := fun t => PyData.tuple [.str "select", f, .list ds, tvD t]) (sim_selEnd L r5 g5) fun t qt ht => ?_
      rw [L.tup, List.flatMap_cons, List.flatMap_cons, List.flatMap_cons, List.flatMap_cons, List.flatMap_nil, L.wrd _ (by decide +kernel), hf, L.lst, hd, ht, List.append_nil]
      rfl
    · have e : expd g49 (o "$next") (lookAt r) = none := ex_def [(o "select", [o "select", o "$field", o "{", o "$rows", o "else", o "->", o "$target", o ";", o "}"]), (o "go", [o "go", o "$target", o ";"])] [] (by decide +kernel) (fun a ha z => by
        rcases List.mem_cons.mp ha with q | q
        · exact c2 (z.symm.trans q)
        · exact c (z.symm.trans (List.mem_singleton.mp q))) (by decide +kernel)
      have q : mTake (o "select") r = .error (lineAt r) := by
        unfold mTake
        rw [if_neg fun z => c2 ((word_lk hg (by decide +kernel)).mp z)]
      rw [q]
      exact (out_no hg (by decide +kernel) e).mono (Int.le_refl _) (by decide)
theorem sim_extract (L : LvOk nm lv) : Sm nm lv 0 [o "$extract"] 1 9 (mOpt (o "extract") mNameS) := fun r hg =>
  (sim_opt (s := o "extract") (α := [o "NAME", o ";"]) (w := -18) (e := 0) (y0 := PyData.none) (R := fun d q => lv d = q) (by decide +kernel) (tmw (by decide +kernel)) (by decide +kernel) (by decide) (by decide) (sim_nameS L (by decide)) L.non (by decide +kernel) (fun l hl => ex_many (row := [o "extract", o "NAME", o ";"]) (by decide +kernel) (by decide +kernel) hl) r hg).mono (by decide) (by decide)
theorem sim_state (L : LvOk nm lv) : Sm nm lv 0 [o "state", o "NAME", o "{", o "$extract", o "$next", o "}"] (-43) 0 mState := fun r hg => by
  refine tk (-34) 0 (by decide +kernel) (by decide) hg (by decide) (by decide) (by decide) fun r2 g2 => ?_
  refine st (-9) 0 (-25) 9 (sim_name tmN (by decide)) g2 (by decide) (by decide) (by decide) fun v q r3 g3 hq => ?_
  obtain ⟨rfl, hv⟩ := hq
  refine tk (-16) 10 (by decide +kernel) (by decide) g3 (by decide) (by decide) (by decide) fun r4 g4 => ?_
  refine st 1 9 (-17) 9 (sim_extract L) g4 (by decide) (by decide) (by decide) fun h qh r5 g5 hh => ?_
  refine st (-8) 9 (-9) 0 (sim_way L) g5 (by decide) (by decide) (by decide) fun y qy r6 g6 hy => ?_
  refine tke (by decide +kernel) (by decide) g6 (by decide) (by decide) ?_
  rw [L.tup, List.flatMap_cons, List.flatMap_cons, List.flatMap_cons, List.flatMap_cons, List.flatMap_nil, L.wrd _ (by decide +kernel), tv_str L hv, hh, hy, List.append_nil]
  rfl
theorem sim_states (L : LvOk nm lv) : SmL nm lv 0 [o "{", o "$states", o "}"] (-17) 0 mStates := fun r hg => by
  refine tk (-8) 1 (by decide +kernel) (by decide) hg (by decide) (by decide) (by decide) fun r2 g2 => ?_
  refine sim_loop (α := [o "state", o "NAME", o "{", o "$extract", o "$next", o "}"]) (w := -43) (e := 0) (by decide +kernel) (tmw (by decide +kernel)) (by decide +kernel) (by decide) (by decide) state_short (sim_state L) (by decide) (by decide +kernel) (fun r3 g3 hne => ?_) (r2.length + 1) r2 (Nat.lt_succ_self _) g2
  by_cases c : lookAt r3 = o "state"
  · exact .inl (by rw [c]; decide +kernel)
  · refine .inr ⟨ex_many (row := [o "state", o "NAME", o "{", o "$extract", o "$next", o "}", o "$states"]) (by decide +kernel) (by decide +kernel) c, ?_⟩
    unfold mState mTake
    rw [if_neg fun z => c ((word_lk g3 (by decide +kernel)).mp z)]
    rfl
/-- ( .. , .. ) -/
theorem sim_listIn (L : LvOk nm lv) {X X2 first : Str} {α : List Str} {w : Int} {step : Rem → Rs} (h : Sm nm lv 0 α w 0 step) (sh : Short step) (hX : nt49 X = true) (hX2 : nt49 X2 = true) (hw : w ≤ -1)
    (e0 : expd g49 X (o ")") = some []) (e1 : expd g49 X first = some (α ++ [X2])) (e2 : ∀ l, l ≠ first → expd g49 X l = some []) (er : ∀ r, Good nm r → lookAt r ≠ first → step r = .error (lineAt r)) (f1 : first ≠ o ")")
    (m1 : expd g49 X2 (o ",") = some (o "," :: (α ++ [X2]))) (m2 : ∀ l, l ≠ o "," → expd g49 X2 l = some []) : SmL nm lv 0 [o "(", X, o ")"] (-17) 11 (mListIn (o "(") (o ")") step) := fun r hg => by
  refine tk (-8) 20 (by decide +kernel) (by decide) hg (by decide) (by decide) (by decide) fun r2 g2 => ?_
  by_cases c : wordAt (o ")") r2 = true
  · rw [if_pos c]
    have c2 := (word_lk g2 (by decide +kernel)).mp c
    refine Out.mono (w := -9 + 1) (e := 0 + 1) ?_ (by decide) (by decide)
    exact out_ntB (α := []) hX (by rw [c2]; exact e0) (out_w1 (by decide +kernel) (by decide) g2 c2 rfl)
  · rw [if_neg c]
    by_cases c2 : lookAt r2 = first
    · have key : Out nm g49 nt49 0 ((α ++ [X2]) ++ [o ")"]) (w + -8) 12 (fun (ds : List PyData) q => ds.flatMap lv = q) r2 (bd (step r2) fun p => bd (mMany (o ",") step (p.2.length + 1) p.2) fun q => bd (mTake (o ")") q.2) fun r => .ok (p.1 :: q.1, r)) := by
        rw [List.append_assoc]
        refine out_bd (α := α) (β := [X2, o ")"]) (w1 := w) (e1 := 0) (w2 := -8) (e2 := 10) (e := 12) (h r2 g2) (by decide) (by omega) fun y qy r3 _ g3 hy => ?_
        have mm := sim_many (s := o ",") (α := α) (w := w) (e := 10) hX2 (tmw (by decide +kernel)) (by decide +kernel) (by decide) (by omega) sh (fun r2 g2 => (h r2 g2).mono (Int.le_refl _) (by decide)) (by decide) m1 m2 (r3.length + 1) r3 (Nat.lt_succ_self _) g3
        refine (out_bd (α := [X2]) (β := [o ")"]) (w1 := 1) (e1 := 10) (w2 := -9) (e2 := 0) (e := 10) mm (by decide) (by decide) fun ds qd r4 _ g4 hd => ?_).mono (by decide) (by decide)
        refine tke (by decide +kernel) (by decide) g4 (by decide) (by decide) ?_
        show (y :: ds).flatMap lv = _
        rw [List.flatMap_cons, hy, hd, List.append_nil]
      exact (out_ntB hX (by rw [c2]; exact e1) key).mono (by omega) (by decide)
    · rw [er r2 g2 c2]
      refine Out.mono (w := -9 + 1) (e := 0 + 1) ?_ (by decide) (by decide)
      exact out_ntB (α := []) hX (e2 _ c2) (out_tmno (tmw (by decide +kernel)) (by decide) fun z => c ((word_lk g2 (by decide +kernel)).mpr z.symm))
theorem sim_params (L : LvOk nm lv) : SmL nm lv 0 [o "(", o "$params", o ")"] (-17) 11 mParams :=
  sim_listIn L (X := o "$params") (X2 := o "$param") (first := o "NAME") (α := [o "NAME", o ":", o "NUM"]) (sim_width L) width_short (by decide +kernel) (by decide +kernel) (by decide) (by decide +kernel) (by decide +kernel) (fun l hl => ex_many (row := [o "NAME", o ":", o "NUM", o "$param"]) (by decide +kernel) (by decide +kernel) hl)
    (fun r g c => by unfold mWidth mName mKind; rw [if_neg fun z => c ((name_lk g).mp z)]; rfl) (by decide +kernel) (by decide +kernel) (fun l hl => ex_many (row := [o ",", o "NAME", o ":", o "NUM", o "$param"]) (by decide +kernel) (by decide +kernel) hl)
theorem sim_args (L : LvOk nm lv) : SmL nm lv 0 [o "(", o "$args", o ")"] (-17) 11 mArgs :=
  sim_listIn L (X := o "$args") (X2 := o "$arg") (first := o "NUM") (α := [o "NUM"]) (sim_numD L (by decide)) numD_short (by decide +kernel) (by decide +kernel) (by decide) (by decide +kernel) (by decide +kernel) (fun l hl => ex_many (row := [o "NUM", o "$arg"]) (by decide +kernel) (by decide +kernel) hl)
    (fun r g c => by unfold mNumD mNum mKind; rw [if_neg fun z => c ((num_lk g).mp z)]; rfl) (by decide +kernel) (by decide +kernel) (fun l hl => ex_many (row := [o ",", o "NUM", o "$arg"]) (by decide +kernel) (by decide +kernel) hl)
theorem wn_okn {ws : List Str} {r : Rem} (hs : ∀ x ∈ ws, x ∈ terms) (hg : Good nm r) (h : lookAt r = o "NAME") : mWN ws r = .ok (valAt r, r.tail) ∧ inV (valAt r) (ws.map V.str) = false := by
  have n : ¬ inV (valAt r) (ws.map V.str) = true := fun z => no_terms.1 (by have := (one_lk hg hs).mp z; rw [h] at this; exact hs _ this)
  refine ⟨?_, by simpa using n⟩
  unfold mWN mName mKind
  rw [if_neg n, if_pos ((name_lk hg).mpr h)]
theorem sim_operand (L : LvOk nm lv) : Sm nm lv 0 [o "$operand"] (-7) 9 mOperand := fun r hg => by
  have hs : ∀ x ∈ ownerWords, x ∈ terms := by decide +kernel
  unfold mOperand
  by_cases c : kindAt r = Str.ofString "number"
  · rw [if_pos c]
    have c2 := (num_lk hg).mp c
    refine (out_nt (α := [o "NUM"]) (w := -9) (e := 0) (by decide +kernel) (by rw [c2]; decide +kernel) ?_).mono (by decide) (by decide)
    refine out_map (g := fun m => PyData.tuple [.str "num", tvD m]) (sim_num tmD (by decide) r hg) fun m q2 hq2 => ?_
    obtain ⟨rfl, hm⟩ := hq2
    rw [L.tup, List.flatMap_cons, List.flatMap_cons, List.flatMap_nil, L.tag _ (by decide +kernel), tv_int L hm]
    rfl
  · rw [if_neg c]
    show Out nm g49 nt49 0 [o "$operand"] (-7) 9 _ r (bd (mWN ownerWords r) _)
    have fin : ∀ (v : V) (q : List PyData) (r2 : Rem), Good nm r2 → lv (tvD v) = q → Out nm g49 nt49 0 [o ".", o "NAME"] (-18) 0 (fun d q2 => lv d = q ++ q2) r2 (bd (mTake (o ".") r2) fun r => bd (mName r) fun n => .ok (.tuple [.str "field", tvD v, tvD n.1], n.2)) := fun v q r2 g2 hq => by
      refine tk (-9) 0 (by decide +kernel) (by decide) g2 (by decide) (by decide) (by decide) fun r3 g3 => ?_
      refine out_map (g := fun m => PyData.tuple [.str "field", tvD v, tvD m]) (sim_name tmN (by decide) r3 g3) fun m q2 hq2 => ?_
      obtain ⟨rfl, hm⟩ := hq2
      rw [L.tup, List.flatMap_cons, List.flatMap_cons, List.flatMap_cons, List.flatMap_nil, L.tag _ (by decide +kernel), hq, tv_str L hm, List.append_nil]
      rfl
    by_cases c1 : lookAt r ∈ ownerWords
    · have e : expd g49 (o "$operand") (lookAt r) = some [lookAt r, o ".", o "NAME"] := (show ∀ x ∈ ownerWords, expd g49 (o "$operand") x = some [x, o ".", o "NAME"] by decide +kernel) _ c1
      refine (out_nt (w := -27) (e := 0) (by decide +kernel) e ?_).mono (by decide) (by decide)
      refine out_bd (α := [lookAt r]) (β := [o ".", o "NAME"]) (w1 := -9) (e1 := 0) (w2 := -18) (e2 := 0) (e := 0) (wn_word (dep := 0) L hs (by decide) hg c1) (by decide) (by decide) fun v q r2 hx g2 hq => ?_
      have e2 : inV v (ownerWords.map V.str) = true := by
        have hi := (one_lk hg hs).mpr c1
        unfold mWN mOne at hx
        rw [if_pos hi, if_pos hi] at hx
        cases hx
        exact hi
      dsimp only
      rw [e2]
      exact fin v q r2 g2 hq
    · by_cases c2 : lookAt r = o "NAME"
      · obtain ⟨k1, k2⟩ := wn_okn hs hg c2
        refine (out_nt (α := [o "NAME", o "$dot"]) (w := -8) (e := 0) (by decide +kernel) (by rw [c2]; decide +kernel) ?_).mono (by decide) (by decide)
        refine (out_bd (α := [o "NAME"]) (β := [o "$dot"]) (w1 := -9) (e1 := 0) (w2 := 1) (e2 := 1) (e := 0) (wn_name (dep := 0) L hs (by decide) hg c2) (by decide) (by decide) fun v q r2 hx g2 hq => ?_).mono (by decide) (by decide)
        rw [k1] at hx
        cases hx
        dsimp only
        rw [k2]
        by_cases c3 : wordAt (o ".") r.tail = true
        · rw [if_neg (by rw [c3]; decide)]
          exact (out_nt (α := [o ".", o "NAME"]) (w := -18) (e := 0) (by decide +kernel) (by rw [(word_lk g2 (by decide +kernel)).mp c3]; decide +kernel) (fin _ _ _ g2 hq)).mono (by decide) (by decide)
        · have c4 : wordAt (o ".") r.tail = false := by simpa using c3
          rw [if_pos (by rw [c4]; decide)]
          refine out_nt (α := []) (w := 0) (e := 0) (by decide +kernel) (ex_many (row := [o ".", o "NAME"]) (by decide +kernel) (by decide +kernel) fun z => c3 ((word_lk g2 (by decide +kernel)).mpr z)) (out_ret g2 ?_)
          rw [L.tup, List.flatMap_cons, List.flatMap_cons, List.flatMap_nil, L.tag _ (by decide +kernel), hq]
          rfl
      · rw [wn_err hs hg c1 c2]
        have e : expd g49 (o "$operand") (lookAt r) = none := ex_def [(o "NAME", [o "NAME", o "$dot"]), (o "meta", [o "meta", o ".", o "NAME"]), (o "packet", [o "packet", o ".", o "NAME"]), (o "NUM", [o "NUM"])] [] (by decide +kernel) (fun a ha z => by
          rcases List.mem_cons.mp ha with q | q
          · exact c2 (z.symm.trans q)
          · rcases List.mem_cons.mp q with q | q
            · exact c1 (z ▸ q ▸ (show o "meta" ∈ ownerWords by decide +kernel))
            · rcases List.mem_cons.mp q with q | q
              · exact c1 (z ▸ q ▸ (show o "packet" ∈ ownerWords by decide +kernel))
              · exact c ((num_lk hg).mpr (z.symm.trans (List.mem_singleton.mp q)))) (by decide +kernel)
        exact (out_no hg (by decide +kernel) e).mono (Int.le_refl _) (by decide)
end
end Tk
set_option Elab.async false
set_option linter.all false
set_option maxRecDepth 100000
set_option maxHeartbeats 4000000
namespace Tk
open PySem L2 SX
section
variable {nm : Str → Prop} {lv : PyData → List PyData}
theorem one_ok {ws : List Str} {r : Rem} (hs : ∀ x ∈ ws, x ∈ terms) (hg : Good nm r) (h : lookAt r ∈ ws) : mOne ws r = .ok (valAt r, r.tail) := by
  unfold mOne
  rw [if_pos ((one_lk hg hs).mpr h)]
theorem one_err {ws : List Str} {r : Rem} (hs : ∀ x ∈ ws, x ∈ terms) (hg : Good nm r) (h : lookAt r ∉ ws) : mOne ws r = .error (lineAt r) := by
  unfold mOne
  rw [if_neg fun z => h ((one_lk hg hs).mp z)]
theorem lv_word (L : LvOk nm lv) {r : Rem} {x : Str} (hx : x ∈ terms) (hg : Good nm r) (e : lookAt r = x) : lv (tvD (valAt r)) = [] := by
  rw [val_word hx hg e]
  exact L.wrd _ hx
theorem sim_expr (L : LvOk nm lv) : Sm nm lv 0 [o "$expr"] (-5) 13 mExpr := fun r hg => by
  have hs : ∀ x ∈ operators, x ∈ terms := by decide +kernel
  unfold mExpr
  refine (out_nt (α := [o "$operand", o "$tail"]) (w := -6) (e := 12) (by decide +kernel) ((ex_def [] [(o "", [o "$operand", o "$tail"])] (by decide +kernel) (fun a h => nomatch h) (fun a h => nomatch h)).trans (by unfold fnd; rw [if_pos (.inr rfl)])) ?_).mono (by decide) (by decide)
  refine (out_bd (α := [o "$operand"]) (β := [o "$tail"]) (w1 := -7) (e1 := 9) (w2 := 1) (e2 := 10) (e := 12) (sim_operand L r hg) (by decide) (by decide) fun x qx r2 _ g2 hx => ?_).mono (by decide) (by decide)
  dsimp only
  by_cases c : lookAt r2 ∈ operators
  · rw [if_pos ((one_lk g2 hs).mpr c), one_ok hs g2 c]
    have e : expd g49 (o "$tail") (lookAt r2) = some [lookAt r2, o "$operand"] := (show ∀ x ∈ operators, expd g49 (o "$tail") x = some [x, o "$operand"] by decide +kernel) _ c
    refine (out_nt (w := -16) (e := 9) (by decide +kernel) e ?_).mono (by decide) (by decide)
    refine (out_bd (α := [lookAt r2]) (β := [o "$operand"]) (w1 := -9) (e1 := 0) (w2 := -7) (e2 := 9) (e := 9) (R1 := fun v q => q = [] ∧ v = valAt r2) (out_w1 (hs _ c) (by decide) g2 rfl ⟨rfl, rfl⟩) (by decide) (by decide) fun v q r3 _ g3 hq => ?_).mono (by decide) (by decide)
    obtain ⟨rfl, rfl⟩ := hq
    refine out_map (g := fun y => PyData.tuple [tvD (valAt r2), x, y]) (sim_operand L r3 g3) fun y qy hy => ?_
    rw [L.tup, List.flatMap_cons, List.flatMap_cons, List.flatMap_cons, List.flatMap_nil, lv_word L (hs _ c) g2 rfl, hx, hy, List.append_nil]
    rfl
  · rw [if_neg fun z => c ((one_lk g2 hs).mp z)]
    have e : expd g49 (o "$tail") (lookAt r2) = some [] := (ex_def (l := lookAt r2) [(o "+", [o "+", o "$operand"]), (o "-", [o "-", o "$operand"]), (o "&", [o "&", o "$operand"]), (o "|", [o "|", o "$operand"]), (o "^", [o "^", o "$operand"])] [(o "", [])] (by decide +kernel) (fun a ha z => c (z ▸ (show ∀ a ∈ [o "+", o "-", o "&", o "|", o "^"], a ∈ operators by decide +kernel) a ha)) (by decide +kernel)).trans (by unfold fnd; rw [if_pos (.inr rfl)])
    refine (out_nt (w := 0) (e := 9) (by decide +kernel) e (out_ret g2 ?_)).mono (by decide) (by decide)
    rw [hx, List.append_nil]
/-- a word that stands for itself, then the rest of a row -/
theorem out_wd {A : Type} {dep : Int} {x : String} {β : List Str} (w0 e0 : Int) {w e : Int} {R : A → List PyData → Prop} {r : Rem} {y : Except Nat (A × Rem)} (hx : o x ∈ terms) (hd : dep ≤ 8) (hg : Good nm r) (c : lookAt r = o x) (hw : w0 - 9 ≤ w) (he : e0 - 9 ≤ e)
    (h : Good nm r.tail → Out nm g49 nt49 dep β w0 e0 R r.tail y) : Out nm g49 nt49 dep (o x :: β) w e R r y := by
  have nE : o x ≠ Str.ofString "END" := fun z => no_terms.2.2.1 (z ▸ hx)
  obtain ⟨g2, _⟩ := hg.tl (fun z => nE (c.symm.trans z))
  exact (out_tm (G := g49) (q0 := []) (R := R) (tmw hx) hd hg c.symm nE (vals_word hg hx c) (h g2)).mono hw he
theorem word_t {r : Rem} {x : String} (hx : o x ∈ terms) (hg : Good nm r) (c : lookAt r = o x) : wordAt (o x) r = true := (word_lk hg hx).mpr c
theorem word_f {r : Rem} {x : String} (hx : o x ∈ terms) (hg : Good nm r) (c : lookAt r ≠ o x) : ¬ wordAt (o x) r = true := fun z => c ((word_lk hg hx).mp z)
/-- the rows of operations -/
theorem oper_at (L : LvOk nm lv) (r : Rem) (hg : Good nm r) (hne : lookAt r ≠ o "}") :
    (∃ α, expd g49 (o "$ops") (lookAt r) = some (α ++ [o "$ops"]) ∧ Out nm g49 nt49 0 α (-9) 20 (fun d q => lv d = q) r (mOper r)) ∨ (expd g49 (o "$ops") (lookAt r) = some [] ∧ mOper r = .error (lineAt r)) := by
  have k1 : o "send" ∈ terms := by decide +kernel
  have k2 : o "drop" ∈ terms := by decide +kernel
  have k3 : o "add" ∈ terms := by decide +kernel
  have k4 : o "remove" ∈ terms := by decide +kernel
  have semi : ∀ {α : List Str} {w e : Int} {x : Rs}, w ≤ 0 → 0 ≤ e → e ≤ 20 → Out nm g49 nt49 0 α w e (fun d q => lv d = q) r x → Out nm g49 nt49 0 (α ++ [o ";"]) (-9) 20 (fun d q => lv d = q) r (bd x fun p => bd (mTake (o ";") p.2) fun r => .ok (p.1, r)) := fun hw he he2 h =>
    (out_bd (β := [o ";"]) (w2 := -9) (e2 := 0) (e := 20) h he2 (by omega) fun y q r2 _ g2 hq => tke (by decide +kernel) (by decide) g2 (by decide) (by decide) (by rw [hq, List.append_nil])).mono (by omega) (by omega)
  by_cases c1 : lookAt r = o "send"
  · refine .inl ⟨[o "send", o "$expr", o ";"], by rw [c1]; decide +kernel, semi (α := [o "send", o "$expr"]) (w := -14) (e := 13) (by decide) (by decide) (by decide) ?_⟩
    unfold mOper0
    rw [if_pos (word_t k1 hg c1)]
    refine out_wd (-5) 13 k1 (by decide) hg c1 (by decide) (by decide) fun g2 => out_map (g := fun e => PyData.tuple [.str "send", e]) (sim_expr L _ g2) fun e q hq => ?_
    rw [L.tup, List.flatMap_cons, List.flatMap_cons, List.flatMap_nil, L.wrd _ k1, hq, List.append_nil]
    rfl
  · by_cases c2 : lookAt r = o "drop"
    · refine .inl ⟨[o "drop", o ";"], by rw [c2]; decide +kernel, semi (α := [o "drop"]) (w := -9) (e := 0) (by decide) (by decide) (by decide) ?_⟩
      unfold mOper0
      rw [if_neg (word_f k1 hg c1), if_pos (word_t k2 hg c2)]
      refine out_w1 k2 (by decide) hg c2 ?_
      rw [L.tup, List.flatMap_cons, List.flatMap_nil, L.wrd _ k2]
      rfl
    · by_cases c3 : lookAt r = o "add"
      · refine .inl ⟨[o "add", o "NAME", o ";"], by rw [c3]; decide +kernel, semi (α := [o "add", o "NAME"]) (w := -18) (e := 0) (by decide) (by decide) (by decide) ?_⟩
        unfold mOper0
        rw [if_neg (word_f k1 hg c1), if_neg (word_f k2 hg c2), if_pos (word_t k3 hg c3)]
        refine out_wd (-9) 0 k3 (by decide) hg c3 (by decide) (by decide) fun g2 => out_map (g := fun n => PyData.tuple [.str "add", tvD n]) (sim_name tmN (by decide) _ g2) fun e q hq => ?_
        obtain ⟨rfl, hv⟩ := hq
        rw [L.tup, List.flatMap_cons, List.flatMap_cons, List.flatMap_nil, L.wrd _ k3, tv_str L hv, List.append_nil]
        rfl
      · by_cases c4 : lookAt r = o "remove"
        · refine .inl ⟨[o "remove", o "NAME", o ";"], by rw [c4]; decide +kernel, semi (α := [o "remove", o "NAME"]) (w := -18) (e := 0) (by decide) (by decide) (by decide) ?_⟩
          unfold mOper0
          rw [if_neg (word_f k1 hg c1), if_neg (word_f k2 hg c2), if_neg (word_f k3 hg c3), if_pos (word_t k4 hg c4)]
          refine out_wd (-9) 0 k4 (by decide) hg c4 (by decide) (by decide) fun g2 => out_map (g := fun n => PyData.tuple [.str "remove", tvD n]) (sim_name tmN (by decide) _ g2) fun e q hq => ?_
          obtain ⟨rfl, hv⟩ := hq
          rw [L.tup, List.flatMap_cons, List.flatMap_cons, List.flatMap_nil, L.wrd _ k4, tv_str L hv, List.append_nil]
          rfl
        · have hs : ∀ x ∈ ownerWords, x ∈ terms := by decide +kernel
          have e0 : mOper0 r = bd (mField r) fun f => bd (mTake "=" f.2) fun r => bd (mExpr r) fun e => .ok (.tuple [.str "set", f.1, e.1], e.2) := by
            unfold mOper0
            rw [if_neg (word_f k1 hg c1), if_neg (word_f k2 hg c2), if_neg (word_f k3 hg c3), if_neg (word_f k4 hg c4)]
          by_cases c5 : lookAt r ∈ [o "NAME", o "meta", o "packet"]
          · refine .inl ⟨[o "$field", o "=", o "$expr", o ";"], (show ∀ x ∈ [o "NAME", o "meta", o "packet"], expd g49 (o "$ops") x = some ([o "$field", o "=", o "$expr", o ";"] ++ [o "$ops"]) by decide +kernel) _ c5, semi (α := [o "$field", o "=", o "$expr"]) (w := -40) (e := 13) (by decide) (by decide) (by decide) ?_⟩
            rw [e0]
            refine st (-26) 1 (-14) 13 (sim_field L (by decide)) hg (by decide) (by decide) (by decide) fun f qf r2 g2 hf => ?_
            refine tk (-5) 13 (by decide +kernel) (by decide) g2 (by decide) (by decide) (by decide) fun r3 g3 => ?_
            refine out_map (g := fun e => PyData.tuple [.str "set", f, e]) (sim_expr L r3 g3) fun e q hq => ?_
            rw [L.tup, List.flatMap_cons, List.flatMap_cons, List.flatMap_cons, List.flatMap_nil, L.tag _ (by decide +kernel), hf, hq, List.append_nil]
            rfl
          · have n1 : lookAt r ∉ ownerWords := fun z => c5 (List.mem_cons_of_mem _ z)
            have n2 : lookAt r ≠ o "NAME" := fun z => c5 (z ▸ List.mem_cons_self)
            refine .inr ⟨?_, ?_⟩
            · refine (ex_def [(o "send", [o "send", o "$expr", o ";", o "$ops"]), (o "drop", [o "drop", o ";", o "$ops"]), (o "add", [o "add", o "NAME", o ";", o "$ops"]), (o "remove", [o "remove", o "NAME", o ";", o "$ops"]), (o "NAME", [o "$field", o "=", o "$expr", o ";", o "$ops"]), (o "meta", [o "$field", o "=", o "$expr", o ";", o "$ops"]), (o "packet", [o "$field", o "=", o "$expr", o ";", o "$ops"])] [(o "", [])] (by decide +kernel) (fun a ha z => ?_) (by decide +kernel)).trans (by unfold fnd; rw [if_pos (.inr rfl)])
              subst z
              rcases List.mem_cons.mp ha with q | q
              · exact c1 q
              rcases List.mem_cons.mp q with q | q
              · exact c2 q
              rcases List.mem_cons.mp q with q | q
              · exact c3 q
              rcases List.mem_cons.mp q with q | q
              · exact c4 q
              exact c5 q
            · show bd (mOper0 r) _ = _
              rw [e0]
              have q : mField r = .error (lineAt r) := by
                show bd (mWN ownerWords r) _ = _
                rw [wn_err hs hg n1 n2]
                rfl
              rw [q]
              rfl
theorem sim_action (L : LvOk nm lv) : Sm nm lv 0 [o "NAME", o "(", o "$params", o ")", o "{", o "$ops", o "}"] (-43) 2 mAction := fun r hg => by
  refine st (-9) 0 (-34) 11 (sim_name tmN (by decide)) hg (by decide) (by decide) (by decide) fun v q r2 g2 hq => ?_
  obtain ⟨rfl, hv⟩ := hq
  refine (out_bd (α := [o "(", o "$params", o ")"]) (β := [o "{", o "$ops", o "}"]) (w1 := -17) (e1 := 11) (w2 := -17) (e2 := 20) (e := 11) (sim_params L r2 g2) (by decide) (by decide) fun ps qp r3 _ g3 hp => ?_).mono (by decide) (by decide)
  refine tk (-8) 21 (by decide +kernel) (by decide) g3 (by decide) (by decide) (by decide) fun r4 g4 => ?_
  refine out_map (g := fun ds => PyData.tuple [.str "action", tvD v, .list ps, .list ds]) (sim_loopG (w := -9) (e := 20) (by decide +kernel) (tmw (by decide +kernel)) (by decide +kernel) (by decide) (by decide) oper_short (by decide) (by decide +kernel) (fun r g h => oper_at L r g h) (r4.length + 1) r4 (Nat.lt_succ_self _) g4) fun ds qd hd => ?_
  rw [L.tup, List.flatMap_cons, List.flatMap_cons, List.flatMap_cons, List.flatMap_cons, List.flatMap_nil, L.wrd _ (by decide +kernel), tv_str L hv, L.lst, L.lst, hp, hd, List.append_nil]
  rfl
theorem sim_actions (L : LvOk nm lv) (r : Rem) (hg : Good nm r) : Out nm g49 nt49 0 [o "$actions"] 1 10 (fun (ds : List PyData) q => ds.flatMap lv = q) r (mMany (o "action") mAction (r.length + 1) r) :=
  sim_many (s := o "action") (α := [o "NAME", o "(", o "$params", o ")", o "{", o "$ops", o "}"]) (w := -43) (e := 10) (by decide +kernel) (tmw (by decide +kernel)) (by decide +kernel) (by decide) (by decide) action_short (fun r2 g2 => (sim_action L r2 g2).mono (by decide) (by decide)) (by decide) (by decide +kernel) (fun l hl => ex_many (row := [o "action", o "NAME", o "(", o "$params", o ")", o "{", o "$ops", o "}", o "$actions"]) (by decide +kernel) (by decide +kernel) hl) (r.length + 1) r (Nat.lt_succ_self _) hg
theorem sim_one (L : LvOk nm lv) {dep : Int} {X : Str} {ws : List Str} {rows : List (Str × List Str)} (hd : dep ≤ 8) (hX : nt49 X = true) (hs : ∀ x ∈ ws, x ∈ terms) (e1 : ∀ x ∈ ws, expd g49 X x = some [x]) (e2 : g49.lookup X = some rows) (e3 : ∀ a ∈ rows.map (·.1), a ∈ ws) (e4 : ∀ a ∈ rows.map (·.1), a ≠ o "") :
    SmV nm lv dep [X] (-8) 1 (mOne ws) := fun r hg => by
  by_cases c : lookAt r ∈ ws
  · show Out nm g49 nt49 dep [X] (-8) 1 _ r (mOne ws r)
    rw [one_ok hs hg c]
    have a : Out nm g49 nt49 dep [X] (-9 + 1) (0 + 1) (fun v q => lv (tvD v) = q) r (.ok (valAt r, r.tail)) := out_nt hX (e1 _ c) (out_w1 (hs _ c) hd hg rfl (lv_word L (hs _ c) hg rfl))
    exact a.mono (by decide) (by decide)
  · show Out nm g49 nt49 dep [X] (-8) 1 _ r (mOne ws r)
    rw [one_err hs hg c]
    have e : expd g49 X (lookAt r) = none := ex_def (l := lookAt r) rows [] (by rw [List.append_nil]; exact e2) (fun a ha z => c (z ▸ e3 a ha)) e4
    exact (out_no hg hX e).mono (Int.le_refl _) (by decide)
theorem sim_kind (L : LvOk nm lv) : SmV nm lv 0 [o "$kind"] (-8) 1 (mOne keyKinds) :=
  sim_one L (rows := [(o "exact", [o "exact"]), (o "mask", [o "mask"]), (o "prefix", [o "prefix"])]) (by decide) (by decide +kernel) (by decide +kernel) (by decide +kernel) (by decide +kernel) (by decide +kernel) (by decide +kernel)
theorem sim_key (L : LvOk nm lv) : Sm nm lv 0 [o "$field", o "$kind", o ";"] (-43) 1 mKey := fun r hg => by
  refine st (-26) 1 (-17) 1 (sim_field L (by decide)) hg (by decide) (by decide) (by decide) fun f qf r2 g2 hf => ?_
  refine st (-8) 1 (-9) 0 (sim_kind L) g2 (by decide) (by decide) (by decide) fun k qk r3 g3 hk => ?_
  refine tke (by decide +kernel) (by decide) g3 (by decide) (by decide) ?_
  rw [L.tup, List.flatMap_cons, List.flatMap_cons, List.flatMap_nil, hf, hk]
theorem sim_keys (L : LvOk nm lv) (r : Rem) (hg : Good nm r) : Out nm g49 nt49 0 [o "$keys"] 1 10 (fun (ds : List PyData) q => ds.flatMap lv = q) r (mMany (o "key") mKey (r.length + 1) r) :=
  sim_many (s := o "key") (α := [o "$field", o "$kind", o ";"]) (w := -43) (e := 10) (by decide +kernel) (tmw (by decide +kernel)) (by decide +kernel) (by decide) (by decide) key_short (fun r2 g2 => (sim_key L r2 g2).mono (by decide) (by decide)) (by decide) (by decide +kernel) (fun l hl => ex_many (row := [o "key", o "$field", o "$kind", o ";", o "$keys"]) (by decide +kernel) (by decide +kernel) hl) (r.length + 1) r (Nat.lt_succ_self _) hg
theorem sim_uses (L : LvOk nm lv) (r : Rem) (hg : Good nm r) : Out nm g49 nt49 0 [o "$uses"] 1 10 (fun (ds : List PyData) q => ds.flatMap lv = q) r (mMany (o "use") mNameS (r.length + 1) r) :=
  sim_many (s := o "use") (α := [o "NAME", o ";"]) (w := -18) (e := 10) (by decide +kernel) (tmw (by decide +kernel)) (by decide +kernel) (by decide) (by decide) nameS_short (fun r2 g2 => (sim_nameS L (by decide) r2 g2).mono (by decide) (by decide)) (by decide) (by decide +kernel) (fun l hl => ex_many (row := [o "use", o "NAME", o ";", o "$uses"]) (by decide +kernel) (by decide +kernel) hl) (r.length + 1) r (Nat.lt_succ_self _) hg
theorem sim_default (L : LvOk nm lv) : Sm nm lv 0 [o "default", o "NAME", o "(", o "$args", o ")", o ";"] (-44) 0 mDefault := fun r hg => by
  refine tk (-35) 2 (by decide +kernel) (by decide) hg (by decide) (by decide) (by decide) fun r1 g1 => ?_
  refine st (-9) 0 (-26) 11 (sim_name tmN (by decide)) g1 (by decide) (by decide) (by decide) fun v q r2 g2 hq => ?_
  obtain ⟨rfl, hv⟩ := hq
  refine (out_bd (α := [o "(", o "$args", o ")"]) (β := [o ";"]) (w1 := -17) (e1 := 11) (w2 := -9) (e2 := 0) (e := 11) (sim_args L r2 g2) (by decide) (by decide) fun ps qp r3 _ g3 hp => ?_).mono (by decide) (by decide)
  refine tke (by decide +kernel) (by decide) g3 (by decide) (by decide) ?_
  rw [L.tup, List.flatMap_cons, List.flatMap_cons, List.flatMap_nil, tv_str L hv, L.lst, hp]
theorem sim_table (L : LvOk nm lv) : Sm nm lv 0 [o "NAME", o "{", o "$keys", o "$uses", o "default", o "NAME", o "(", o "$args", o ")", o ";", o "size", o "NUM", o ";", o "}"] (-96) 0 mTable := fun r hg => by
  refine st (-9) 0 (-87) 3 (sim_name tmN (by decide)) hg (by decide) (by decide) (by decide) fun v q r2 g2 hq => ?_
  obtain ⟨rfl, hv⟩ := hq
  refine tk (-78) 12 (by decide +kernel) (by decide) g2 (by decide) (by decide) (by decide) fun r3 g3 => ?_
  refine (out_bd (α := [o "$keys"]) (w1 := 1) (e1 := 10) (w2 := -79) (e2 := 11) (e := 12) (sim_keys L r3 g3) (by decide) (by decide) fun ks qk r4 _ g4 hk => ?_).mono (by decide) (by decide)
  refine (out_bd (α := [o "$uses"]) (w1 := 1) (e1 := 10) (w2 := -80) (e2 := 0) (e := 11) (sim_uses L r4 g4) (by decide) (by decide) fun us qu r5 _ g5 hu => ?_).mono (by decide) (by decide)
  refine (out_bd (α := [o "default", o "NAME", o "(", o "$args", o ")", o ";"]) (β := [o "size", o "NUM", o ";", o "}"]) (w1 := -44) (e1 := 0) (w2 := -36) (e2 := 0) (e := 0) (sim_default L r5 g5) (by decide) (by decide) fun d qd r6 _ g6 hd => ?_).mono (by decide) (by decide)
  refine tk (-27) 0 (by decide +kernel) (by decide) g6 (by decide) (by decide) (by decide) fun r7 g7 => ?_
  refine st (-9) 0 (-18) 0 (sim_num tmD (by decide)) g7 (by decide) (by decide) (by decide) fun z qz r8 g8 hz => ?_
  obtain ⟨rfl, hz⟩ := hz
  refine tk (-9) 0 (by decide +kernel) (by decide) g8 (by decide) (by decide) (by decide) fun r9 g9 => ?_
  refine tke (by decide +kernel) (by decide) g9 (by decide) (by decide) ?_
  rw [L.tup, List.flatMap_cons, List.flatMap_cons, List.flatMap_cons, List.flatMap_cons, List.flatMap_cons, List.flatMap_cons, List.flatMap_nil, L.wrd _ (by decide +kernel), tv_str L hv, L.lst, L.lst, hk, hu, hd, tv_int L hz]
  simp
theorem sim_tables (L : LvOk nm lv) (r : Rem) (hg : Good nm r) : Out nm g49 nt49 0 [o "$tables"] 1 10 (fun (ds : List PyData) q => ds.flatMap lv = q) r (mMany (o "table") mTable (r.length + 1) r) :=
  sim_many (s := o "table") (α := [o "NAME", o "{", o "$keys", o "$uses", o "default", o "NAME", o "(", o "$args", o ")", o ";", o "size", o "NUM", o ";", o "}"]) (w := -96) (e := 10) (by decide +kernel) (tmw (by decide +kernel)) (by decide +kernel) (by decide) (by decide) table_short (fun r2 g2 => (sim_table L r2 g2).mono (by decide) (by decide)) (by decide) (by decide +kernel) (fun l hl => ex_many (row := [o "table", o "NAME", o "{", o "$keys", o "$uses", o "default", o "NAME", o "(", o "$args", o ")", o ";", o "size", o "NUM", o ";", o "}", o "$tables"]) (by decide +kernel) (by decide +kernel) hl) (r.length + 1) r (Nat.lt_succ_self _) hg
theorem sim_emit (L : LvOk nm lv) : SmL nm lv 0 [o "$emit"] 1 9 (fun r => if wordAt (o "emit") r = true then mEmits r.tail else .ok ([], r)) := fun r hg => by
  have em : SmL nm lv 0 [o "NAME", o "$names", o ";"] (-17) 1 mEmits := fun r hg => by
    refine st (-9) 0 (-8) 10 (sim_name tmN (by decide)) hg (by decide) (by decide) (by decide) fun v q r2 g2 hq => ?_
    obtain ⟨rfl, hv⟩ := hq
    have mm := sim_many (s := o ",") (α := [o "NAME"]) (w := -9) (e := 10) (lv := lv) (dep := 0) (X := o "$names") (G := g49) (nt := nt49) (by decide +kernel) (tmw (by decide +kernel)) (by decide +kernel) (by decide) (by decide) nameD_short (fun r2 g2 => (sim_nameD L (by decide) r2 g2).mono (by decide) (by decide)) (by decide) (by decide +kernel) (fun l hl => ex_many (row := [o ",", o "NAME", o "$names"]) (by decide +kernel) (by decide +kernel) hl) (r2.length + 1) r2 (Nat.lt_succ_self _) g2
    refine (out_bd (α := [o "$names"]) (β := [o ";"]) (w1 := 1) (e1 := 10) (w2 := -9) (e2 := 0) (e := 10) mm (by decide) (by decide) fun ds qd r3 _ g3 hd => ?_).mono (by decide) (by decide)
    refine tke (by decide +kernel) (by decide) g3 (by decide) (by decide) ?_
    show (tvD v :: ds).flatMap lv = _
    rw [List.flatMap_cons, tv_str L hv, hd, List.append_nil]
  exact (sim_opt (s := o "emit") (α := [o "NAME", o "$names", o ";"]) (w := -17) (e := 1) (y0 := ([] : List PyData)) (R := fun (ds : List PyData) q => ds.flatMap lv = q) (by decide +kernel) (tmw (by decide +kernel)) (by decide +kernel) (by decide) (by decide) em rfl (by decide +kernel) (fun l hl => ex_many (row := [o "emit", o "NAME", o "$names", o ";"]) (by decide +kernel) (by decide +kernel) hl) r hg).mono (by decide) (by decide)
end
end Tk
set_option Elab.async false
set_option linter.all false
set_option maxRecDepth 100000
set_option maxHeartbeats 4000000
namespace Tk
open PySem L2 SX
/-- Out, from one depth to another, for the counts of "not" that P tells -/
def OutD (nm : Str → Prop) (P : Int → Prop) (dep dep2 : Int) (α : List Str) (w e : Int) {A : Type} (R : A → List PyData → Prop) (r : Rem) : Except Nat (A × Rem) → Prop
  | .ok (x, r2) => Good nm r2 ∧ r2.length ≤ r.length ∧ (∃ q, vals r = q ++ vals r2 ∧ R x q) ∧ ∃ k : Nat, (k : Int) + 10 * r2.length ≤ 10 * r.length + w ∧ ∀ n : Int, P n → ∃ n' : Int, 0 ≤ n' ∧ n' ≤ 8 ∧ ∀ f st, pd g49 nt49 (k + f) (α ++ st) dep n r = pd g49 nt49 f st dep2 n' r2
  | .error l => ∃ k : Nat, (k : Int) ≤ 10 * r.length + e ∧ ∀ n : Int, P n → ∀ f st, pd g49 nt49 (k + 1 + f) (α ++ st) dep n r = (l : Int)
abbrev N8 (n : Int) : Prop := 0 ≤ n ∧ n ≤ 8
section
variable {nm : Str → Prop} {lv : PyData → List PyData} {A B : Type} {P : Int → Prop}
theorem Out.d {dep : Int} {α : List Str} {w e : Int} {R : A → List PyData → Prop} {r : Rem} {x : Except Nat (A × Rem)} (h : Out nm g49 nt49 dep α w e R r x) (hP : ∀ n, P n → N8 n) : OutD nm P dep dep α w e R r x := by
  match x, h with
  | .ok (y, r2), ⟨g, l, q, k, hk, z⟩ => exact ⟨g, l, q, k, hk, fun n hn => z n (hP n hn).1 (hP n hn).2⟩
  | .error l, ⟨k, hk, z⟩ => exact ⟨k, hk, fun n hn => z n (hP n hn).1 (hP n hn).2⟩
theorem OutD.out {dep : Int} {α : List Str} {w e : Int} {R : A → List PyData → Prop} {r : Rem} {x : Except Nat (A × Rem)} (h : OutD nm N8 dep dep α w e R r x) : Out nm g49 nt49 dep α w e R r x := by
  match x, h with
  | .ok (y, r2), ⟨g, l, q, k, hk, z⟩ => exact ⟨g, l, q, k, hk, fun n h1 h2 => z n ⟨h1, h2⟩⟩
  | .error l, ⟨k, hk, z⟩ => exact ⟨k, hk, fun n h1 h2 => z n ⟨h1, h2⟩⟩
theorem OutD.mono {dep dep2 : Int} {α : List Str} {w e w2 e2 : Int} {R : A → List PyData → Prop} {r : Rem} {x : Except Nat (A × Rem)} (h : OutD nm P dep dep2 α w e R r x) (hw : w ≤ w2) (he : e ≤ e2) : OutD nm P dep dep2 α w2 e2 R r x := by
  match x, h with
  | .ok (y, r2), ⟨g, l, q, k, hk, z⟩ => exact ⟨g, l, q, k, by omega, z⟩
  | .error l, ⟨k, hk, z⟩ => exact ⟨k, by omega, z⟩
theorem outD_map {dep dep2 : Int} {α : List Str} {w e : Int} {R1 : A → List PyData → Prop} {R : B → List PyData → Prop} {r : Rem} {x : Except Nat (A × Rem)} {g : A → B} (h : OutD nm P dep dep2 α w e R1 r x) (hr : ∀ y q, R1 y q → R (g y) q) : OutD nm P dep dep2 α w e R r (bd x fun p => .ok (g p.1, p.2)) := by
  match x, h with
  | .ok (y, r2), ⟨a, l, ⟨q, q1, q2⟩, k⟩ => exact ⟨a, l, ⟨q, q1, hr _ _ q2⟩, k⟩
  | .error l, h => exact h
theorem outD_bd {dep dep2 dep3 : Int} {α β : List Str} {w1 e1 w2 e2 e : Int} {R1 : A → List PyData → Prop} {R : B → List PyData → Prop} {r : Rem} {x : Except Nat (A × Rem)} {F : A × Rem → Except Nat (B × Rem)} (h : OutD nm P dep dep2 α w1 e1 R1 r x) (he1 : e1 ≤ e) (he2 : w1 + e2 ≤ e)
    (hF : ∀ y q r2, x = .ok (y, r2) → Good nm r2 → R1 y q → OutD nm N8 dep2 dep3 β w2 e2 (fun z q2 => R z (q ++ q2)) r2 (F (y, r2))) : OutD nm P dep dep3 (α ++ β) (w1 + w2) e R r (bd x F) := by
  match x, h with
  | .error l, ⟨k, hk, z⟩ =>
    refine ⟨k, by omega, fun n hn f st => ?_⟩
    rw [List.append_assoc]
    exact z n hn f (β ++ st)
  | .ok (y, r2), ⟨g, l, ⟨q, q1, q2⟩, k, hk, z⟩ =>
    have h2 := hF y q r2 rfl g q2
    show OutD nm P dep dep3 (α ++ β) (w1 + w2) e R r (F (y, r2))
    match F (y, r2), h2 with
    | .error l2, ⟨k2, hk2, z2⟩ =>
      refine ⟨k + k2, by omega, fun n hn f st => ?_⟩
      obtain ⟨n', b1, b2, zz⟩ := z n hn
      rw [List.append_assoc, show k + k2 + 1 + f = k + (k2 + 1 + f) by omega, zz]
      exact z2 n' ⟨b1, b2⟩ f st
    | .ok (y2, r3), ⟨g3, l3, ⟨qq, qq1, qq2⟩, k2, hk2, z2⟩ =>
      refine ⟨g3, by omega, ⟨q ++ qq, by rw [q1, qq1, List.append_assoc], qq2⟩, k + k2, by omega, fun n hn => ?_⟩
      obtain ⟨n', b1, b2, zz⟩ := z n hn
      obtain ⟨n2, c1, c2, zz2⟩ := z2 n' ⟨b1, b2⟩
      refine ⟨n2, c1, c2, fun f st => ?_⟩
      rw [List.append_assoc, show k + k2 + f = k + (k2 + f) by omega, zz, zz2]
theorem outD_nt {dep dep2 : Int} {X : Str} {α β : List Str} {w e : Int} {R : A → List PyData → Prop} {r : Rem} {x : Except Nat (A × Rem)} (hX : nt49 X = true) (he : expd g49 X (lookAt r) = some α) (h : OutD nm P dep dep2 (α ++ β) w e R r x) : OutD nm P dep dep2 (X :: β) (w + 1) (e + 1) R r x := by
  have step : ∀ (f : Nat) (st : List Str) (n : Int), pd g49 nt49 (f + 1) (X :: β ++ st) dep n r = pd g49 nt49 f (α ++ β ++ st) dep n r := fun f st n => by
    show pd g49 nt49 (f + 1) (X :: (β ++ st)) dep n r = _
    rw [pd, if_pos hX, he, List.append_assoc]
  match x, h with
  | .error l, ⟨k, hk, z⟩ =>
    refine ⟨k + 1, by omega, fun n hn f st => ?_⟩
    rw [show k + 1 + 1 + f = (k + 1 + f) + 1 by omega, step]
    exact z n hn f st
  | .ok (y, r2), ⟨g, l, q, k, hk, z⟩ =>
    refine ⟨g, l, q, k + 1, by omega, fun n hn => ?_⟩
    obtain ⟨n', b1, b2, zz⟩ := z n hn
    refine ⟨n', b1, b2, fun f st => ?_⟩
    rw [show k + 1 + f = (k + f) + 1 by omega, step]
    exact zz f st
/-- a terminal, whatever it does to the depth and to the count -/
theorem pd_t {s : Str} (hn : nt49 s = false) {r : Rem} {dep n : Int} (f : Nat) (st : List Str) :
    pd g49 nt49 (f + 1) (s :: st) dep n r = if plainS s ≠ lookAt r ∨ dOf s dep > 8 ∨ nOf s n > 8 then (lineAt r : Int) else pd g49 nt49 f st (dOf s dep) (nOf s n) r.tail := by
  rw [pd, if_neg (by rw [hn]; decide)]
theorem outD_tno {s : Str} {β : List Str} {dep dep2 : Int} {w : Int} {R : A → List PyData → Prop} {r : Rem} (hn : nt49 s = false) (h : ∀ n, P n → plainS s ≠ lookAt r ∨ dOf s dep > 8 ∨ nOf s n > 8) : OutD nm P dep dep2 (s :: β) w 0 R r (.error (lineAt r)) := by
  refine ⟨0, by omega, fun n hP f st => ?_⟩
  show pd g49 nt49 (0 + 1 + f) (s :: (β ++ st)) dep n r = _
  rw [show 0 + 1 + f = f + 1 by omega, pd_t hn, if_pos (h n hP)]
theorem outD_t {s x : Str} {β : List Str} {dep dep2 : Int} {w e : Int} {P2 : Int → Prop} {R : A → List PyData → Prop} {r : Rem} {y : Except Nat (A × Rem)} (hn : nt49 s = false) (hx : plainS s = x) (ht : x ∈ terms) (hg : Good nm r) (c : lookAt r = x) (hd : dOf s dep ≤ 8) (hm : ∀ n, P n → nOf s n ≤ 8 ∧ P2 (nOf s n))
    (h : Good nm r.tail → OutD nm P2 (dOf s dep) dep2 β w e R r.tail y) : OutD nm P dep dep2 (s :: β) (w - 9) (e - 9) R r y := by
  have nE : x ≠ Str.ofString "END" := fun z => no_terms.2.2.1 (z ▸ ht)
  obtain ⟨g2, hl⟩ := hg.tl (fun z => nE (c.symm.trans z))
  have hv := vals_word hg ht c
  have h := h g2
  have step : ∀ (f : Nat) (st : List Str) (n : Int), P n → pd g49 nt49 (f + 1) (s :: β ++ st) dep n r = pd g49 nt49 f (β ++ st) (dOf s dep) (nOf s n) r.tail := fun f st n hP => by
    show pd g49 nt49 (f + 1) (s :: (β ++ st)) dep n r = _
    rw [pd_t hn, if_neg]
    rintro (z | z | z)
    · exact z (hx.trans c.symm)
    · omega
    · have := (hm n hP).1
      omega
  match y, h with
  | .error l, ⟨k, hk, z⟩ =>
    refine ⟨k + 1, by omega, fun n hP f st => ?_⟩
    rw [show k + 1 + 1 + f = (k + 1 + f) + 1 by omega, step _ _ _ hP]
    exact z _ (hm n hP).2 f st
  | .ok (y, r2), ⟨g, l, ⟨q, q1, q2⟩, k, hk, z⟩ =>
    refine ⟨g, by omega, ⟨q, by rw [hv, q1], q2⟩, k + 1, by omega, fun n hP => ?_⟩
    obtain ⟨n', b1, b2, zz⟩ := z _ (hm n hP).2
    refine ⟨n', b1, b2, fun f st => ?_⟩
    rw [show k + 1 + f = (k + f) + 1 by omega, step _ _ _ hP]
    exact zz f st
theorem sim_compare (L : LvOk nm lv) {dep : Int} (hd : dep ≤ 8) (r : Rem) (hg : Good nm r) (f : PyData) : Out nm g49 nt49 dep [o "$compare"] (-17) 1 (fun d q => lv d = lv f ++ q) r (bd (mOne comparisons r) fun s => bd (mNum s.2) fun n => .ok (.tuple [tvD s.1, f, tvD n.1], n.2)) := by
  have hs : ∀ x ∈ comparisons, x ∈ terms := by decide +kernel
  by_cases c : lookAt r ∈ comparisons
  · rw [one_ok hs hg c]
    have e : expd g49 (o "$compare") (lookAt r) = some [lookAt r, o "NUM"] := (show ∀ x ∈ comparisons, expd g49 (o "$compare") x = some [x, o "NUM"] by decide +kernel) _ c
    refine (out_nt (w := -18) (e := 0) (by decide +kernel) e ?_).mono (by decide) (by decide)
    refine (out_bd (α := [lookAt r]) (β := [o "NUM"]) (w1 := -9) (e1 := 0) (w2 := -9) (e2 := 0) (e := 0) (R1 := fun v q => q = [] ∧ v = valAt r) (out_w1 (hs _ c) hd hg rfl ⟨rfl, rfl⟩) (by decide) (by decide) fun v q r3 _ g3 hq => ?_).mono (by decide) (by decide)
    obtain ⟨rfl, rfl⟩ := hq
    refine out_map (g := fun n => PyData.tuple [tvD (valAt r), f, tvD n]) (sim_num tmD hd r3 g3) fun n qn hn => ?_
    obtain ⟨rfl, hn⟩ := hn
    rw [L.tup, List.flatMap_cons, List.flatMap_cons, List.flatMap_cons, List.flatMap_nil, lv_word L (hs _ c) hg rfl, tv_int L hn]
    rfl
  · rw [one_err hs hg c]
    have e : expd g49 (o "$compare") (lookAt r) = none := ex_def (l := lookAt r) [(o "==", [o "==", o "NUM"]), (o "<", [o "<", o "NUM"])] [] (by decide +kernel) (fun a ha z => c (z ▸ (show ∀ a ∈ [o "==", o "<"], a ∈ comparisons by decide +kernel) a ha)) (by decide +kernel)
    exact (out_no hg (by decide +kernel) e).mono (Int.le_refl _) (by decide)
/-- a condition that begins with no "not" -/
theorem sim_cmp (L : LvOk nm lv) {dep : Int} (hd : dep ≤ 8) (r : Rem) (hg : Good nm r) (hne : lookAt r ≠ o "not") : Out nm g49 nt49 dep [o "$test"] (-17) 2 (fun d q => lv d = q) r (mCmp r) := by
  have k1 : o "valid" ∈ terms := by decide +kernel
  have hs : ∀ x ∈ ownerWords, x ∈ terms := by decide +kernel
  unfold mCmp
  by_cases c : lookAt r = o "valid"
  · rw [if_pos (word_t k1 hg c)]
    refine (out_nt (α := [o "valid", o "NAME"]) (w := -18) (e := 0) (by decide +kernel) (by rw [c]; decide +kernel) ?_).mono (by decide) (by decide)
    refine out_wd (-9) 0 k1 hd hg c (by decide) (by decide) fun g2 => out_map (g := fun n => PyData.tuple [.str "valid", tvD n]) (sim_name tmN hd _ g2) fun e q hq => ?_
    obtain ⟨rfl, hv⟩ := hq
    rw [L.tup, List.flatMap_cons, List.flatMap_cons, List.flatMap_nil, L.wrd _ k1, tv_str L hv, List.append_nil]
    rfl
  · rw [if_neg (word_f k1 hg c)]
    by_cases c5 : lookAt r ∈ [o "NAME", o "meta", o "packet"]
    · have e : expd g49 (o "$test") (lookAt r) = some [o "$field", o "$compare"] := (show ∀ x ∈ [o "NAME", o "meta", o "packet"], expd g49 (o "$test") x = some [o "$field", o "$compare"] by decide +kernel) _ c5
      refine (out_nt (w := -43) (e := 1) (by decide +kernel) e ?_).mono (by decide) (by decide)
      refine st (-26) 1 (-17) 1 (sim_field L hd) hg (by decide) (by decide) (by decide) fun f qf r2 g2 hf => ?_
      have a := sim_compare L hd r2 g2 f
      rw [hf] at a
      exact a
    · have n1 : lookAt r ∉ ownerWords := fun z => c5 (List.mem_cons_of_mem _ z)
      have n2 : lookAt r ≠ o "NAME" := fun z => c5 (z ▸ List.mem_cons_self)
      have q : mField r = .error (lineAt r) := by
        show bd (mWN ownerWords r) _ = _
        rw [wn_err hs hg n1 n2]
        rfl
      rw [q]
      have e : expd g49 (o "$test") (lookAt r) = none := by
        refine ex_def (l := lookAt r) [(o "not", [o "NOT", o "$test"]), (o "NAME", [o "$field", o "$compare"]), (o "meta", [o "$field", o "$compare"]), (o "packet", [o "$field", o "$compare"]), (o "valid", [o "valid", o "NAME"])] [] (by decide +kernel) (fun a ha z => ?_) (by decide +kernel)
        subst z
        rcases List.mem_cons.mp ha with q | q
        · exact hne q
        rcases List.mem_cons.mp q with q | q
        · exact n2 q
        rcases List.mem_cons.mp q with q | q
        · exact n1 (q ▸ (show o "meta" ∈ ownerWords by decide +kernel))
        rcases List.mem_cons.mp q with q | q
        · exact n1 (q ▸ (show o "packet" ∈ ownerWords by decide +kernel))
        exact c (List.mem_singleton.mp q)
      exact (out_no hg (by decide +kernel) e).mono (Int.le_refl _) (by decide)
theorem cmp_not {r : Rem} (hg : Good nm r) (h : lookAt r = o "not") : mCmp r = .error (lineAt r) := by
  have hs : ∀ x ∈ ownerWords, x ∈ terms := by decide +kernel
  unfold mCmp
  rw [if_neg (word_f (by decide +kernel) hg (by rw [h]; decide +kernel))]
  show bd (bd (mWN ownerWords r) _) _ = _
  rw [wn_err hs hg (by rw [h]; decide +kernel) (by rw [h]; decide +kernel)]
  rfl
theorem nOf_not (n : Int) : nOf (o "NOT") n = n + 1 := by
  unfold nOf
  rw [if_neg (by decide +kernel), decide_eq_true rfl]
  rfl
theorem dOf_not (d : Int) : dOf (o "NOT") d = d := by
  unfold dOf
  rw [decide_eq_false (by decide +kernel), decide_eq_false (by decide +kernel)]
  show d + 0 - 0 = d
  omega
/-- a condition, where j times "not" has gone before -/
theorem sim_test (L : LvOk nm lv) {dep : Int} (hd : dep ≤ 8) : ∀ (i j : Nat) (r : Rem), i + j = 8 → Good nm r →
    OutD nm (fun n => n = (j : Int)) dep dep [o "$test"] (-17) 2 (fun d q => lv d = q) r (bd (mCmp (mNots i r).2) fun c => .ok (wrapN (mNots i r).1 c.1, c.2))
  | 0, j, r, hj, hg => by
    have ej : (j : Int) = 8 := by omega
    by_cases c : lookAt r = o "not"
    · show OutD nm _ dep dep [o "$test"] (-17) 2 _ r (bd (mCmp r) _)
      rw [cmp_not hg c]
      refine OutD.mono (w := -18 + 1) (e := 0 + 1) (outD_nt (α := [o "NOT", o "$test"]) (by decide +kernel) (by rw [c]; decide +kernel) (outD_tno (by decide +kernel) fun n hn => .inr (.inr ?_))) (by decide) (by decide)
      rw [nOf_not]
      omega
    · have a := sim_cmp L hd r hg c
      have a2 := out_map (g := fun d => wrapN 0 d) (R := fun d q => lv d = q) a fun y q hq => hq
      exact a2.d fun n hn => by
        have : n = (j : Int) := hn
        constructor <;> omega
  | i + 1, j, r, hj, hg => by
    by_cases c : lookAt r = o "not"
    · have kn : o "not" ∈ terms := by decide +kernel
      have e : mNots (i + 1) r = ((mNots i r.tail).1 + 1, (mNots i r.tail).2) := by
        rw [mNots, if_pos (word_t kn hg c)]
      rw [e]
      refine OutD.mono (w := (-17 - 9) + 1) (e := (2 - 9) + 1) (outD_nt (α := [o "NOT", o "$test"]) (by decide +kernel) (by rw [c]; decide +kernel) ?_) (by decide) (by decide)
      refine outD_t (P2 := fun n => n = ((j + 1 : Nat) : Int)) (by decide +kernel) (x := o "not") (by decide +kernel) kn hg c (by rw [dOf_not]; exact hd) (fun n hn => ?_) fun g2 => ?_
      · have : n = (j : Int) := hn
        rw [nOf_not]
        constructor <;> omega
      · rw [dOf_not]
        have ih := sim_test L hd i (j + 1) r.tail (by omega) g2
        have m2 := outD_map (g := fun d => PyData.tuple [.str "not", d]) (R := fun d q => lv d = q) ih fun y q hq => by
          rw [L.tup, List.flatMap_cons, List.flatMap_cons, List.flatMap_nil, L.wrd _ kn, hq, List.append_nil]
          rfl
        cases hc : mCmp (mNots i r.tail).2 with
        | error l =>
          rw [hc] at m2
          exact m2
        | ok p =>
          rw [hc] at m2
          exact m2
    · have e : mNots (i + 1) r = (0, r) := by
        rw [mNots, if_neg (word_f (by decide +kernel) hg c)]
      rw [e]
      have a := sim_cmp L hd r hg c
      have a2 := out_map (g := fun d => wrapN 0 d) (R := fun d q => lv d = q) a fun y q hq => hq
      exact a2.d fun n hn => by
        have : n = (j : Int) := hn
        constructor <;> omega
end
end Tk
set_option Elab.async false
set_option linter.all false
set_option maxRecDepth 100000
set_option maxHeartbeats 4000000
namespace Tk
open PySem L2 SX
section
variable {nm : Str → Prop} {lv : PyData → List PyData}
/-- the statements of a block at depth D + 1, and its end -/
theorem sim_sts {D : Int} (hD : D + 1 ≤ 8) {step : Rem → Rs} (sh : Short step)
    (x1 : ∀ r, Good nm r → lookAt r ≠ o "}" → (∃ α, expd g49 (o "$statements") (lookAt r) = some (α ++ [o "$statements"]) ∧ Out nm g49 nt49 (D + 1) α (-1) 20 (fun d q => lv d = q) r (step r)) ∨ (expd g49 (o "$statements") (lookAt r) = some [] ∧ step r = .error (lineAt r))) :
    ∀ (f : Nat) (r : Rem), r.length < f → Good nm r → OutD nm N8 (D + 1) D [o "$statements", o "CLOSE"] (-8) 21 (fun (ds : List PyData) q => ds.flatMap lv = q) r (mLoop (o "}") step f r)
  | 0, r, hf, _ => absurd hf (Nat.not_lt_zero _)
  | f + 1, r, hf, hg => by
    have kc : o "}" ∈ terms := by decide +kernel
    have dc : dOf (o "CLOSE") (D + 1) = D := by
      unfold dOf
      rw [decide_eq_false (by decide +kernel), decide_eq_true rfl]
      show D + 1 + 0 - 1 = D
      omega
    have nc : ∀ n, nOf (o "CLOSE") n = n := fun n => by
      unfold nOf
      rw [if_neg (by decide +kernel), decide_eq_false (by decide +kernel)]
      show n + 0 = n
      omega
    rw [mLoop_s]
    by_cases c : lookAt r = o "}"
    · rw [if_pos (word_t kc hg c)]
      refine OutD.mono (w := (0 - 9) + 1) (e := (9 - 9) + 1) (outD_nt (α := []) (by decide +kernel) (by rw [c]; decide +kernel) ?_) (by decide) (by decide)
      refine outD_t (P2 := N8) (by decide +kernel) (x := o "}") (by decide +kernel) kc hg c (by rw [dc]; omega) (fun n hn => by rw [nc]; exact ⟨hn.2, hn⟩) fun g2 => ?_
      rw [dc]
      have a : Out nm g49 nt49 D [] 0 9 (fun (ds : List PyData) q => ds.flatMap lv = q) r.tail (.ok ([], r.tail)) := out_ret g2 rfl
      exact a.d fun n hn => hn
    · rw [if_neg (word_f kc hg c)]
      rcases x1 r hg c with ⟨α, q, h1⟩ | ⟨q, qe⟩
      · have key : OutD nm N8 (D + 1) D (α ++ [o "$statements", o "CLOSE"]) (-1 + -8) 20 (fun (ds : List PyData) q => ds.flatMap lv = q) r (bd (step r) fun p => bd (mLoop (o "}") step f p.2) fun q => .ok (p.1 :: q.1, q.2)) := by
          refine outD_bd (β := [o "$statements", o "CLOSE"]) (w2 := -8) (e2 := 21) (R := fun (ds : List PyData) q => ds.flatMap lv = q) (h1.d fun n hn => hn) (by decide) (by decide) fun y q r3 hx g3 hq => ?_
          have lt := sh r y r3 hx
          exact outD_map (sim_sts hD sh x1 f r3 (by omega) g3) fun ds q2 hq2 => by
            show (y :: ds).flatMap lv = q ++ q2
            rw [List.flatMap_cons, hq, hq2]
        have key2 : OutD nm N8 (D + 1) D ((α ++ [o "$statements"]) ++ [o "CLOSE"]) (-1 + -8) 20 (fun (ds : List PyData) q => ds.flatMap lv = q) r (bd (step r) fun p => bd (mLoop (o "}") step f p.2) fun q => .ok (p.1 :: q.1, q.2)) := by
          rw [List.append_assoc]
          exact key
        exact (outD_nt (by decide +kernel) q key2).mono (by decide) (by decide)
      · rw [qe]
        refine OutD.mono (w := -9 + 1) (e := 0 + 1) (outD_nt (α := []) (by decide +kernel) q (outD_tno (by decide +kernel) fun n hn => .inl ?_)) (by decide) (by decide)
        rw [show plainS (o "CLOSE") = o "}" by decide +kernel]
        exact fun z => c z.symm
theorem nOf_if (n : Int) : nOf (o "if") n = 0 := by
  unfold nOf
  rw [if_pos rfl]
theorem dOf_if (d : Int) : dOf (o "if") d = d := by
  unfold dOf
  rw [decide_eq_false (by decide +kernel), decide_eq_false (by decide +kernel)]
  show d + 0 - 0 = d
  omega
theorem sim_stmt (L : LvOk nm lv) {dep : Int} (hd : dep ≤ 8) {blk : Rem → RsL} (hb : SmL nm lv dep [o "$block"] (-16) 20 blk) (r : Rem) (hg : Good nm r) (hne : lookAt r ≠ o "}") :
    (∃ α, expd g49 (o "$statements") (lookAt r) = some (α ++ [o "$statements"]) ∧ Out nm g49 nt49 dep α (-1) 20 (fun d q => lv d = q) r (mStmt blk r)) ∨ (expd g49 (o "$statements") (lookAt r) = some [] ∧ mStmt blk r = .error (lineAt r)) := by
  have k1 : o "apply" ∈ terms := by decide +kernel
  have k2 : o "if" ∈ terms := by decide +kernel
  unfold mStmt
  by_cases c1 : lookAt r = o "apply"
  · refine .inl ⟨[o "apply", o "NAME", o ";"], by rw [c1]; decide +kernel, ?_⟩
    rw [if_pos (word_t k1 hg c1)]
    refine out_wd (-18) 0 k1 hd hg c1 (by decide) (by decide) fun g2 => ?_
    refine st (-9) 0 (-9) 0 (sim_name tmN hd) g2 (by decide) (by decide) (by decide) fun v q r2 g2 hq => ?_
    obtain ⟨rfl, hv⟩ := hq
    refine tke (by decide +kernel) hd g2 (by decide) (by decide) ?_
    rw [L.tup, List.flatMap_cons, List.flatMap_cons, List.flatMap_nil, L.wrd _ k1, tv_str L hv]
    rfl
  · rw [if_neg (word_f k1 hg c1)]
    by_cases c2 : lookAt r = o "if"
    · refine .inl ⟨[o "if", o "$test", o "$block", o "$else"], by rw [c2]; decide +kernel, ?_⟩
      have et : mTake (o "if") r = .ok r.tail := by
        unfold mTake
        rw [if_pos (word_t k2 hg c2)]
      show Out nm g49 nt49 dep _ (-1) 20 _ r (bd (mTake (o "if") r) _)
      rw [et]
      refine OutD.out (OutD.mono (w := -32 - 9) (e := 20 - 9) (outD_t (P2 := fun n => n = ((0 : Nat) : Int)) (by decide +kernel) (x := o "if") (by decide +kernel) k2 hg c2 (by rw [dOf_if]; exact hd) (fun n hn => by rw [nOf_if]; exact ⟨by decide, rfl⟩) fun g2 => ?_) (by decide) (by decide))
      rw [dOf_if]
      refine OutD.mono (w := -17 + -15) (e := 20) (outD_bd (α := [o "$test"]) (β := [o "$block", o "$else"]) (e1 := 2) (e2 := 20) (sim_test L hd 8 0 r.tail (by decide) g2) (by decide) (by decide) fun y q r2 _ g3 hq => ?_) (by decide) (by decide)
      refine (Out.d ?_ fun n hn => hn)
      refine st (-16) 20 1 20 hb g3 (by decide) (by decide) (by decide) fun t qt r4 g4 ht => ?_
      have el := sim_opt (s := o "else") (α := [o "$block"]) (w := -16) (e := 20) (y0 := ([] : List PyData)) (R := fun (ds : List PyData) q => ds.flatMap lv = q) (X := o "$else") (by decide +kernel) (tmw (by decide +kernel)) (by decide +kernel) hd (by decide) hb rfl (by decide +kernel) (fun l hl => ex_many (row := [o "else", o "$block"]) (by decide +kernel) (by decide +kernel) hl) r4 g4
      have m2 := out_map (g := fun e => PyData.tuple [.str "if", y, .list t, .list e]) (R := fun d q2 => lv d = q ++ (qt ++ q2)) el fun e qe he => by
        rw [L.tup, List.flatMap_cons, List.flatMap_cons, List.flatMap_cons, List.flatMap_cons, List.flatMap_nil, L.wrd _ k2, hq, L.lst, ht, L.lst, he, List.append_nil]
        rfl
      exact m2.mono (by decide) (by decide)
    · refine .inr ⟨?_, ?_⟩
      · refine (ex_def (l := lookAt r) [(o "apply", [o "apply", o "NAME", o ";", o "$statements"]), (o "if", [o "if", o "$test", o "$block", o "$else", o "$statements"])] [(o "", [])] (by decide +kernel) (fun a ha z => ?_) (by decide +kernel)).trans (by unfold fnd; rw [if_pos (.inr rfl)])
        subst z
        rcases List.mem_cons.mp ha with q | q
        · exact c1 q
        exact c2 (List.mem_singleton.mp q)
      · have et : mTake (o "if") r = .error (lineAt r) := by
          unfold mTake
          rw [if_neg (word_f k2 hg c2)]
        show bd (mTake (o "if") r) _ = _
        rw [et]
        rfl
theorem dOf_open (d : Int) : dOf (o "OPEN") d = d + 1 := by
  unfold dOf
  rw [decide_eq_true rfl, decide_eq_false (by decide +kernel)]
  show d + 1 - 0 = d + 1
  omega
theorem nOf_open (n : Int) : nOf (o "OPEN") n = n := by
  unfold nOf
  rw [if_neg (by decide +kernel), decide_eq_false (by decide +kernel)]
  show n + 0 = n
  omega
theorem block_no {r : Rem} (h : lookAt r ≠ o "{") : expd g49 (o "$block") (lookAt r) = none :=
  ex_def (l := lookAt r) [(o "{", [o "OPEN", o "$statements", o "CLOSE"])] [] (by decide +kernel) (fun a ha z => h (z.symm.trans (List.mem_singleton.mp ha))) (by decide +kernel)
theorem sim_block (L : LvOk nm lv) : ∀ (m D : Nat), D + m = 8 → SmL nm lv (D : Int) [o "$block"] (-16) 20 (mBlock m)
  | 0, D, hD => fun r hg => by
    show Out nm g49 nt49 (D : Int) [o "$block"] (-16) 20 _ r (.error (lineAt r))
    by_cases c : lookAt r = o "{"
    · refine OutD.out (OutD.mono (w := -17 + 1) (e := 0 + 1) (outD_nt (α := [o "OPEN", o "$statements", o "CLOSE"]) (by decide +kernel) (by rw [c]; decide +kernel) (outD_tno (by decide +kernel) fun n hn => .inr (.inl ?_))) (by decide) (by decide))
      rw [dOf_open]
      omega
    · exact (out_no hg (by decide +kernel) (block_no c)).mono (Int.le_refl _) (by decide)
  | m + 1, D, hD => fun r hg => by
    have ko : o "{" ∈ terms := by decide +kernel
    show Out nm g49 nt49 (D : Int) [o "$block"] (-16) 20 _ r (bd (mTake (o "{") r) fun r => mLoop (o "}") (mStmt (mBlock m)) (r.length + 1) r)
    by_cases c : lookAt r = o "{"
    · have et : mTake (o "{") r = .ok r.tail := by
        unfold mTake
        rw [if_pos (word_t ko hg c)]
      rw [et]
      refine OutD.out (OutD.mono (w := (-8 - 9) + 1) (e := (21 - 9) + 1) (outD_nt (α := [o "OPEN", o "$statements", o "CLOSE"]) (by decide +kernel) (by rw [c]; decide +kernel) ?_) (by decide) (by decide))
      refine outD_t (P2 := N8) (by decide +kernel) (x := o "{") (by decide +kernel) ko hg c (by rw [dOf_open]; omega) (fun n hn => by rw [nOf_open]; exact ⟨hn.2, hn⟩) fun g2 => ?_
      rw [dOf_open]
      have hb := sim_block L m (D + 1) (by omega)
      rw [show ((D + 1 : Nat) : Int) = (D : Int) + 1 by omega] at hb
      exact sim_sts (D := (D : Int)) (by omega) (stmt_short (block_lt m)) (fun r g h => sim_stmt L (by omega) hb r g h) (r.tail.length + 1) r.tail (Nat.lt_succ_self _) g2
    · have et : mTake (o "{") r = .error (lineAt r) := by
        unfold mTake
        rw [if_neg (word_f ko hg c)]
      rw [et]
      exact (out_no hg (by decide +kernel) (block_no c)).mono (Int.le_refl _) (by decide)
theorem bd_assoc {A B C : Type} (x : Except Nat A) (f : A → Except Nat B) (g : B → Except Nat C) : bd (bd x f) g = bd x fun a => bd (f a) g := by
  cases x <;> rfl
/-- the program but for its end -/
def mProg0 (r : Rem) : Rs := bd (mTake "program" r) fun r => bd (mName r) fun n => bd (mMany "header" mHeader (n.2.length + 1) n.2) fun hs => bd (if wordAt "meta" hs.2 = true then mFields hs.2.tail else .ok ([], hs.2)) fun ms =>
  bd (mTake "parser" ms.2) fun r => bd (mStates r) fun ss => bd (mMany "action" mAction (ss.2.length + 1) ss.2) fun as => bd (mMany "table" mTable (as.2.length + 1) as.2) fun ts => bd (mTake "control" ts.2) fun r => bd (mBlock 8 r) fun cs =>
  bd (if wordAt "emit" cs.2 = true then mEmits cs.2.tail else .ok ([], cs.2)) fun es => .ok (.tuple [.str "program", tvD n.1, .list hs.1, .list ms.1, .list ss.1, .list as.1, .list ts.1, .list cs.1, .list es.1], es.2)
theorem prog0 (r : Rem) : mProgram r = bd (mProg0 r) fun p => bd (mEnd p.2) fun r => .ok (p.1, r) := by
  unfold mProgram mProg0
  simp only [bd_assoc]
  rfl
theorem sim_prog0 (L : LvOk nm lv) : Sm nm lv 0 [o "program", o "NAME", o "$headers", o "$meta", o "parser", o "{", o "$states", o "}", o "$actions", o "$tables", o "control", o "$block", o "$emit"] 0 20 mProg0 := fun r hg => by
  refine tk 0 20 (by decide +kernel) (by decide) hg (by decide) (by decide) (by decide) fun r1 g1 => ?_
  refine st (-9) 0 0 20 (sim_name tmN (by decide)) g1 (by decide) (by decide) (by decide) fun v q r2 g2 hq => ?_
  obtain ⟨rfl, hv⟩ := hq
  refine (out_bd (α := [o "$headers"]) (w1 := 1) (e1 := 10) (w2 := -1) (e2 := 15) (e := 16) (sim_headers L r2 g2) (by decide) (by decide) fun hs qh r3 _ g3 hh => ?_).mono (by decide) (by decide)
  refine st 1 9 (-2) 12 (sim_meta L) g3 (by decide) (by decide) (by decide) fun ms qm r4 g4 hm => ?_
  refine tk 0 20 (by decide +kernel) (by decide) g4 (by decide) (by decide) (by decide) fun r5 g5 => ?_
  refine (out_bd (α := [o "{", o "$states", o "}"]) (w1 := -17) (e1 := 0) (w2 := 0) (e2 := 20) (e := 20) (sim_states L r5 g5) (by decide) (by decide) fun ss qs r6 _ g6 hs6 => ?_).mono (by decide) (by decide)
  refine (out_bd (α := [o "$actions"]) (w1 := 1) (e1 := 10) (w2 := -1) (e2 := 15) (e := 20) (sim_actions L r6 g6) (by decide) (by decide) fun as qa r7 _ g7 ha => ?_).mono (by decide) (by decide)
  refine (out_bd (α := [o "$tables"]) (w1 := 1) (e1 := 10) (w2 := -2) (e2 := 14) (e := 15) (sim_tables L r7 g7) (by decide) (by decide) fun ts qt r8 _ g8 ht => ?_).mono (by decide) (by decide)
  refine tk 0 20 (by decide +kernel) (by decide) g8 (by decide) (by decide) (by decide) fun r9 g9 => ?_
  refine st (-16) 20 1 9 (sim_block L 8 0 (by decide)) g9 (by decide) (by decide) (by decide) fun cs qc r10 g10 hc => ?_
  refine (out_bd (α := [o "$emit"]) (β := []) (w1 := 1) (e1 := 9) (w2 := 0) (e2 := 0) (e := 9) (sim_emit L r10 g10) (by decide) (by decide) fun es qe r11 _ g11 he => ?_).mono (by decide) (by decide)
  refine out_ret g11 ?_
  rw [L.tup, List.flatMap_cons, List.flatMap_cons, List.flatMap_cons, List.flatMap_cons, List.flatMap_cons, List.flatMap_cons, List.flatMap_cons, List.flatMap_cons, List.flatMap_cons, List.flatMap_nil, L.wrd _ (by decide +kernel), tv_str L hv, L.lst, L.lst, L.lst, L.lst, L.lst, L.lst, L.lst, hh, hm, hs6, ha, ht, hc, he]
  simp
/-- the recogniser tells what the parser tells, in so many steps -/
theorem prog_pd (L : LvOk nm lv) (r : Rem) (hg : Good nm r) : ∃ k : Nat, (k : Int) ≤ 10 * r.length + 21 ∧ match mProgram r with
    | .ok (d, _) => vals r = lv d ∧ ∀ f, pd g49 nt49 (k + 1 + f) [o "$program"] 0 0 r = 0
    | .error l => ∀ f, pd g49 nt49 (k + 1 + f) [o "$program"] 0 0 r = (l : Int) := by
  by_cases c : lookAt r = o "program"
  · have ex : expd g49 (o "$program") (lookAt r) = some ([o "program", o "NAME", o "$headers", o "$meta", o "parser", o "{", o "$states", o "}", o "$actions", o "$tables", o "control", o "$block", o "$emit"] ++ [o "END"]) := by
      rw [c]
      decide +kernel
    have first : ∀ f, pd g49 nt49 (f + 1) [o "$program"] 0 0 r = pd g49 nt49 f ([o "program", o "NAME", o "$headers", o "$meta", o "parser", o "{", o "$states", o "}", o "$actions", o "$tables", o "control", o "$block", o "$emit"] ++ [o "END"]) 0 0 r := fun f => by
      rw [pd, if_pos (by decide +kernel), ex]
      rfl
    have a := sim_prog0 L r hg
    rw [prog0]
    cases hx : mProg0 r with
    | error l =>
      rw [hx] at a
      obtain ⟨k, hk, z⟩ := a
      refine ⟨k + 1, by omega, fun f => ?_⟩
      rw [show k + 1 + 1 + f = (k + 1 + f) + 1 by omega, first]
      exact z 0 (by decide) (by decide) f [o "END"]
    | ok p =>
      obtain ⟨d, r2⟩ := p
      rw [hx] at a
      obtain ⟨g2, l2, ⟨q, q1, q2⟩, k, hk, z⟩ := a
      obtain ⟨n', b1, b2, zz⟩ := z 0 (by decide) (by decide)
      have pos := g2.pos
      show ∃ k : Nat, (k : Int) ≤ 10 * r.length + 21 ∧ match bd (mEnd r2) fun r => .ok (d, r) with
        | .ok (d, _) => vals r = lv d ∧ ∀ f, pd g49 nt49 (k + 1 + f) [o "$program"] 0 0 r = 0
        | .error l => ∀ f, pd g49 nt49 (k + 1 + f) [o "$program"] 0 0 r = (l : Int)
      have last : ∀ f, pd g49 nt49 (f + 1) [o "END"] 0 n' r2 = if o "END" ≠ lookAt r2 then (lineAt r2 : Int) else pd g49 nt49 f [] 0 (nOf (o "END") n') r2.tail := fun f => by
        exact pd_tm (dep := 0) (tm_ok (by decide +kernel) (by decide +kernel) (by decide +kernel) (by decide +kernel) (by decide +kernel)) (by decide) b1 b2 f []
      unfold mEnd
      by_cases ce : kindAt r2 = Str.ofString "end"
      · rw [if_pos ce]
        have ce2 := (end_lk g2).mp ce
        refine ⟨k + 1 + 1, by omega, ?_, fun f => ?_⟩
        · have v0 : vals r2 = [] := by
            rcases g2.cases with ⟨l, rfl⟩ | ⟨t, r3, rfl, ht, _⟩
            · rfl
            · have e : t.1 = Str.ofString "end" := ce
              rcases ht.ex with ⟨h1, _⟩ | ⟨h1, _⟩ | ⟨_, _, h3, _⟩
              · exact absurd (h1.symm.trans e) (by decide +kernel)
              · exact absurd (h1.symm.trans e) (by decide +kernel)
              · exact absurd e h3
          rw [q1, v0, List.append_nil, q2]
        · rw [show k + 1 + 1 + 1 + f = (k + ((f + 1) + 1)) + 1 by omega, first, zz ((f + 1) + 1) [o "END"], last, if_neg (fun z => z ce2.symm)]
          rfl
      · rw [if_neg ce]
        refine ⟨k + 1, by omega, fun f => ?_⟩
        rw [show k + 1 + 1 + f = (k + (f + 1)) + 1 by omega, first, zz (f + 1) [o "END"], last, if_pos (fun z => ce ((end_lk g2).mpr z.symm))]
  · have e : mProgram r = .error (lineAt r) := by
      unfold mProgram
      have et : mTake (o "program") r = .error (lineAt r) := by
        unfold mTake
        rw [if_neg (word_f (by decide +kernel) hg c)]
      show bd (mTake (o "program") r) _ = _
      rw [et]
      rfl
    rw [e]
    refine ⟨0, by omega, fun f => ?_⟩
    have ex : expd g49 (o "$program") (lookAt r) = none := ex_def (l := lookAt r) [(o "program", [o "program", o "NAME", o "$headers", o "$meta", o "parser", o "{", o "$states", o "}", o "$actions", o "$tables", o "control", o "$block", o "$emit", o "END"])] [] (by decide +kernel) (fun a ha z => c (z.symm.trans (List.mem_singleton.mp ha))) (by decide +kernel)
    show pd g49 nt49 (0 + 1 + f) [o "$program"] 0 0 r = _
    rw [show 0 + 1 + f = f + 1 by omega, pd, if_pos (by decide +kernel), ex]
end
end Tk
set_option Elab.async false
set_option linter.all false
set_option maxRecDepth 100000
set_option maxHeartbeats 4000000
namespace Tk
open PySem L2 SX
def hasDig (x : Str) : Bool := x.cps.toList.any fun c => decide (48 ≤ c) && decide (c ≤ 57)
mutual
def lvD : PyData → List PyData
  | .tuple xs => lvDs xs
  | .list xs => lvDs xs
  | .str x => if hasDig x = true then [.str x] else []
  | .none => []
  | d => [d]
def lvDs : List PyData → List PyData
  | [] => []
  | x :: xs => lvD x ++ lvDs xs
end
theorem lvDs_eq : ∀ xs : List PyData, lvDs xs = xs.flatMap lvD
  | [] => by rw [lvDs, List.flatMap_nil]
  | x :: xs => by rw [lvDs, List.flatMap_cons, lvDs_eq xs]
theorem lvD_ok : LvOk (fun x => hasDig x = true) lvD where
  str x h := by rw [lvD, if_pos h]
  wrd x h := by
    have : hasDig x = false := (show ∀ x ∈ terms, hasDig x = false by decide +kernel) x h
    rw [lvD, if_neg (by rw [this]; decide)]
  int n := by simp [lvD]
  non := by simp [lvD]
  tup xs := by rw [lvD, lvDs_eq]
  lst xs := by rw [lvD, lvDs_eq]
  tag x h := by
    have : hasDig x = false := (show ∀ x ∈ [o "num", o "param", o "field", o "set"], hasDig x = false by decide +kernel) x h
    rw [lvD, if_neg (by rw [this]; decide)]
/-- a piece: kind, value, signs, the gap behind it -/
abbrev Pc := Str × V × List Nat × List Nat
def gaps : List (List Nat) := [[32], [10], [32, 32], [32, 35, 32, 105, 102, 32, 123, 10]]
def gapLn (g : List Nat) : Nat := if g.getLast? = some 10 then 1 else 0
def wText (ps : List Pc) : List Nat := ps.flatMap fun x => x.2.2.1 ++ x.2.2.2
def wToks : Nat → List Pc → List Tok
  | l, [] => [endTok l]
  | l, x :: ps => (x.1, x.2.1, l) :: wToks (l + gapLn x.2.2.2) ps
theorem toks_gap {g : List Nat} (hg : g ∈ gaps) (l : Nat) (r : List Nat) : toksT l (g ++ r) = toksT (l + gapLn g) r := by
  unfold gaps at hg
  simp only [List.mem_cons, List.not_mem_nil, or_false] at hg
  rcases hg with rfl | rfl | rfl | rfl
  · exact toksT_space l r
  · exact toksT_nl l r
  · show toksT l (32 :: 32 :: r) = _
    rw [toksT_space, toksT_space]
    rfl
  · show toksT l (32 :: 35 :: 32 :: 105 :: 102 :: 32 :: 123 :: 10 :: r) = _
    rw [toksT_space, toksT_hash]
    show toksT l (10 :: r) = _
    rw [toksT_nl]
    rfl
theorem toks_written : ∀ (ps : List Pc) (l : Nat), (∀ x ∈ ps, Pk.PieceOk x.1 x.2.1 x.2.2.1 ∧ x.2.2.2 ∈ gaps) → toksT l (wText ps) = .ok (wToks l ps)
  | [], l, _ => toksT_nil l
  | x :: ps, l, h => by
    obtain ⟨h1, h2⟩ := h x List.mem_cons_self
    show toksT l ((x.2.2.1 ++ x.2.2.2) ++ wText ps) = _
    have ha : Pk.after x.1 x.2.1 (x.2.2.2 ++ wText ps) := by
      unfold gaps at h2
      simp only [List.mem_cons, List.not_mem_nil, or_false] at h2
      rcases h2 with q | q | q | q <;> rw [q] <;> unfold Pk.after <;> dsimp only [List.cons_append, List.nil_append] <;> split <;> first | decide | (constructor <;> intro _ <;> decide)
    rw [List.append_assoc, Pk.toks_piece l h1 ha, toks_gap h2, toks_written ps (l + gapLn x.2.2.2) fun y hy => h y (List.mem_cons_of_mem _ hy)]
    rfl
theorem good_written {nm : Str → Prop} : ∀ (ps : List Pc) (l : Nat), (∀ x ∈ ps, ∀ l, TkOk nm (x.1, x.2.1, l)) → Good nm (wToks l ps)
  | [], l, _ => ⟨[], l, rfl, fun t h => nomatch h⟩
  | x :: ps, l, h => by
    obtain ⟨p, l2, e, hp⟩ := (good_written ps (l + gapLn x.2.2.2) fun y hy => h y (List.mem_cons_of_mem _ hy)).ex
    refine ⟨(x.1, x.2.1, l) :: p, l2, ?_, fun t ht => ?_⟩
    · show (x.1, x.2.1, l) :: wToks (l + gapLn x.2.2.2) ps = _
      rw [e]
      rfl
    · rcases List.mem_cons.mp ht with q | q
      · rw [q]
        exact h x List.mem_cons_self l
      · exact hp t q
end Tk
set_option Elab.async false
set_option linter.all false
set_option maxRecDepth 100000
set_option maxHeartbeats 4000000
namespace Pk
open PySem PySem.Spec PyProof.Rows L2 SX GxR Tk PySem.ErX
abbrev sOut49 : Stmt := topS 73
abbrev NOut49 : List Str := ["text", "told", "e"]
theorem scOut49 : FnScope NOut49 ["text"] (defScope sOut49) := ⟨rfl, rfl, rfl, by decide +kernel, rfl, by decide +kernel, by decide +kernel⟩
/-- what the handler of the outcome asks of TextError -/
structure OutE49 (P : Program) (K : PySem.W.Frag) (mg : Str → Option Value) (cT : Addr) : Prop where
  TE : ErT P K mg "TextError" cT "line"
  ex : ExcC K cT
  self : PySem.W.exmOne K (.ref cT) (.ref cT) = some true
  nT : PySem.W.findIn K (.ref cT) "line" = some none
/-- (0, the program) or (the line, None) -/
def spOut49 (K : PySem.W.Frag) (Pt : Addr) : Sp := fun vs H Q _ => ∃ t : List Nat, vs = [.str (S t)] ∧ t.length ≤ 1000000 ∧ TabG H Pt ∧ match progT t with
  | .ok d => ∀ H' p xs c, Sm H H' → TabG H' Pt → H' p = some (.tup xs) → xs.length = 9 → Dr (NewS H H') (.ref p) d → H' c = none → Q (.ref c) (upd H' c (.tup [.int 0, .ref p]))
  | .error l => ∀ H' c, Sm H H' → TabG H' Pt → H' c = none → Q (.ref c) (upd H' c (.tup [.int (l : Nat), .non]))
section
variable {P : Program} {w : World} {K : PySem.W.Frag} {mg : Str → Option Value} {base : Heap} {cT : Addr}
theorem ok_out49 {f Pt : Addr} {fd : FuncData} (F : Fun K "_law_outcome" "_law_outcome" sOut49 f fd) (T : OutE49 P K mg cT) (D : Df P w K mg base (L2.CX P w) 26 "parse_program" ["text"] (spProgram K Pt cT)) : FnOk P w K mg base CX0 27 f fd ["text"] (spOut49 K Pt) := by
  obtain ⟨fT, fdT, GT, gT, kT, bT⟩ := D.ex
  refine F.ok scOut49 (fun vs H Q E h => ?_) (fun cdv A outer s H vs Q E hr h => ?_)
  · obtain ⟨t, rfl, _⟩ := h
    rfl
  · obtain ⟨t, rfl, hz, tg, q⟩ := h
    have nd := scOut49.nd
    refine ⟨_, pss_cons (ps_try_as (i := 2) (tb := fun W => tAsg (tCallS (spProgram K Pt cT) (WE W) (tCons (tVar 0) tNil)) (gName 1))
        (Wout := fun _ _ _ _ => False) rfl rfl nd rfl rfl ⟨rfl, by decide, Or.inl T.TE.gC⟩ takes0
        (fun W pn xe tk _ => pss_one (ps_set (i := 1) nd rfl (Or.inl rfl) (by exact (pe_callS GT hr rfl gT kT bT (fun σ => passAt tk σ) (by exact (pa_cons (pv 0) pa_nil))))))
        (fun a oe cls d pn hz hf => pss_one (ps_ret (pe_tup (pa_cons (pe_xfA hz hf (pv 2)) (pa_cons pe_non pa_nil))))))
      (pss_one (ps_ret (pe_tup (pa_cons pe_int (pa_cons (pv 1) pa_nil))))), ?_⟩
    refine ⟨_, rfl, t, rfl, hz, tg, ?_⟩
    cases e : progT t with
    | ok d =>
      rw [e] at q
      intro H3 p xs sm tg3 hp hx hd
      exact ⟨_, rfl, by show 2 ≤ sizeLine; decide, fun c hc => q H3 p xs c sm tg3 hp hx hd hc⟩
    | error l =>
      rw [e] at q
      intro H3 x sm tg3 hx
      refine ⟨true, T.self, fun _ a na => ?_, fun z => Bool.noConfusion z⟩
      refine ⟨.ref a, rfl, rfl, cT, rfl, ⟨T.ex.hg, T.ex.hk, T.ex.hs, T.ex.hd⟩, T.nT, x, _, .int (l : Nat), rfl, hx, by simp [List.lookup], ?_⟩
      exact ⟨by show 2 ≤ sizeLine; decide, fun c hc => q H3 c sm tg3 hc⟩
end
end Pk
set_option Elab.async false
set_option linter.all false
set_option maxRecDepth 100000
set_option maxHeartbeats 4000000
namespace Pk
open PySem PySem.Spec PyProof.Rows L2 SX GxR Tk
/-- a drawn name with the number k in it -/
def runs : List Nat := [97, 90, 95, 113]
def NmD (k : Nat) (x : Str) : Prop := ∃ a r1 r2, x = S (a :: (r1 ++ (48 + k) :: r2)) ∧ a ∈ letters ∧ (∀ c ∈ r1, c ∈ runs) ∧ (∀ c ∈ r2, c ∈ runs) ∧ r1.length ≤ 6 ∧ r2.length ≤ 6
/-- names of the laws' fixed programs -/
def spcN : List Str := [S [104], S [97], S [120], S [116], S [112]]
def NmK (k : Nat) (x : Str) : Prop := NmD k x ∨ (k = 0 ∧ x ∈ spcN)
abbrev Fl := Str × Nat
/-- fields in the making: names by their places, widths -/
def WfG (fs : List Fl) : Prop := ∀ j f, fs[j]? = some f → (j < 10 → NmK j f.1) ∧ f.1.length ≤ 20 ∧ 1 ≤ f.2 ∧ f.2 ≤ 32
theorem WfG.app {fs : List Fl} {f : Fl} (h : WfG fs) (hn : fs.length < 10 → NmK fs.length f.1) (hl : f.1.length ≤ 20) (h1 : 1 ≤ f.2) (h2 : f.2 ≤ 32) : WfG (fs ++ [f]) := by
  intro j g e
  rw [List.getElem?_append] at e
  by_cases hj : j < fs.length
  · rw [if_pos hj] at e
    exact h j g e
  · rw [if_neg hj] at e
    have : j - fs.length = 0 := by
      rcases Nat.eq_zero_or_pos (j - fs.length) with h | h
      · exact h
      · rw [List.getElem?_eq_none (by show 1 ≤ _; omega)] at e
        cases e
    rw [this] at e
    cases e
    obtain rfl : j = fs.length := by omega
    exact ⟨hn, hl, h1, h2⟩
end Pk
set_option Elab.async false
set_option linter.all false
set_option maxRecDepth 100000
set_option maxHeartbeats 4000000
namespace Pk
open PySem PySem.Spec PyProof.Rows L2 SX GxR Tk
abbrev sName : Stmt := topS 64
theorem scName : FnScope ["state", "k", "letters", "name", "j"] ["state", "k"] (defScope sName) := ⟨rfl, rfl, rfl, by decide +kernel, rfl, by decide +kernel, by decide +kernel⟩
structure Bl (mg : Str → Option Value) : Prop where
  zRange : mg "range" = none
  zStr : mg "str" = none
  zMin : mg "min" = none
  zLen : mg "len" = none
theorem len52 : letters.length = 52 := by decide +kernel
theorem at_list {t : List Nat} {r : Int} (h0 : 0 ≤ r) (h1 : r < t.length) : ∃ c ∈ t, atI (S t).cps.toList r = some c := by
  obtain ⟨j, rfl⟩ : ∃ j : Nat, r = (j : Int) := ⟨r.toNat, by omega⟩
  have hj : j < t.length := by omega
  exact ⟨t[j], List.getElem_mem hj, atI_nat (by show t[j]? = some t[j]; exact List.getElem?_eq_getElem hj)⟩
theorem num_one : ∀ k < 10, (toString ((k : Nat) : Int) : Str) = S [48 + k] := by decide +kernel
theorem num_len : ∀ k < 200, (toString ((k : Nat) : Int) : Str).length ≤ 3 := by decide +kernel
theorem log_ok : ∀ k, k < 200 → k.log2 < 1920 := by decide +kernel
theorem run_pick {i : Nat} {x : V} (h : ([V.str "a", .str "Z", .str "_", .str "q"] : List V)[i]? = some x) : ∃ c ∈ runs, x = .str (S [c]) := by
  match i, h with
  | 0, e => cases e; exact ⟨97, by decide, congrArg V.str (by decide +kernel)⟩
  | 1, e => cases e; exact ⟨90, by decide, congrArg V.str (by decide +kernel)⟩
  | 2, e => cases e; exact ⟨95, by decide, congrArg V.str (by decide +kernel)⟩
  | 3, e => cases e; exact ⟨113, by decide, congrArg V.str (by decide +kernel)⟩
  | n + 4, e => cases e
section
variable {P : Program} {w : World} {K : PySem.W.Frag} {mg : Str → Option Value} {base : Heap}
def spNm : Sp := fun vs H Q _ => ∃ (s c : Addr) (k : Nat), vs = [.ref s, .int k] ∧ StAt H s c ∧ k < 200 ∧ ∀ (H' : Hp) (x : Str), (k < 10 → NmD k x) → x.length ≤ 20 → StAt H' s c → Kp s c H H' → Q (.str x) H'
theorem ok_nm {f : Addr} {fd : FuncData} (F : Fun K "_law_name" "_law_name" sName f fd) (T : Bl mg) (D1 : Df P w K mg base CX0 1 "_law_draw" ["state", "many"] spDraw) (D2 : Df P w K mg base CX0 2 "_law_pick" ["state", "row"] (spPick K)) : FnOk P w K mg base CX0 3 f fd ["state", "k"] spNm := by
  obtain ⟨f1, fd1, G1, g1, k1, b1⟩ := D1.ex
  obtain ⟨f2, fd2, G2, g2, k2, b2⟩ := D2.ex
  refine F.ok scName (fun vs H Q E h => ?_) (fun cdv A outer s0 H vs Q E hr h => ?_)
  · obtain ⟨s, c, k, rfl, _⟩ := h
    rfl
  · obtain ⟨s, c, k, rfl, hS, hk, q⟩ := h
    have nd := scName.nd
    have hr1 : Room 1 _ := hr.mono (by omega)
    refine ⟨_, pss_cons (ps_set (i := 2) nd rfl (.inl rfl) pe_str)
      (pss_cons (ps_set (i := 3) nd rfl (.inl rfl) (pe_ix ix_str (pv 2) (pe_call G1 hr1 (by rfl) g1 k1 b1 .nil pass0 (pa_cons (pv 0) (pa_cons pe_int pa_nil))) (fun _ _ => rfl)))
      (pss_cons (ps_for PassesOwn.never rfl (pi_range1 (by rfl) T.zRange (pa_cons (pe_call G1 hr1 (by rfl) g1 k1 b1 .nil pass0 (pa_cons (pv 0) (pa_cons pe_int pa_nil))) pa_nil)) (pg_name (i := 4) nd rfl (.inl rfl))
        (pss_one (ps_set (i := 3) nd rfl (.inl rfl) (pe_op op_add_str (pv 3) (pe_call G2 hr (by rfl) g2 k2 b2 .nil pass0 (pa_cons (pv 0) (pa_cons (pe_lst (pa_cons pe_str (pa_cons pe_str (pa_cons pe_str (pa_cons pe_str pa_nil))))) pa_nil)))))))
      (pss_cons (ps_set (i := 3) nd rfl (.inl rfl) (pe_op op_add_str (pv 3) (pe_callTy call_str_int (by rfl) T.zStr (by decide +kernel) (pa_cons (pv 1) pa_nil))))
      (pss_cons (ps_for PassesOwn.never rfl (pi_range1 (by rfl) T.zRange (pa_cons (pe_call G1 hr1 (by rfl) g1 k1 b1 .nil pass0 (pa_cons (pv 0) (pa_cons pe_int pa_nil))) pa_nil)) (pg_name (i := 4) nd rfl (.inl rfl))
        (pss_one (ps_set (i := 3) nd rfl (.inl rfl) (pe_op op_add_str (pv 3) (pe_call G2 hr (by rfl) g2 k2 b2 .nil pass0 (pa_cons (pv 0) (pa_cons (pe_lst (pa_cons pe_str (pa_cons pe_str (pa_cons pe_str (pa_cons pe_str pa_nil))))) pa_nil)))))))
      (pss_one (ps_ret (pv 3))))))), ?_⟩
    refine ⟨_, rfl, _, rfl, s, c, 52, rfl, hS, by decide, by decide, fun H1 r r0 r1 hS1 kp1 => ?_⟩
    obtain ⟨c0, hc0, e0⟩ := at_list (t := letters) r0 (by rw [len52]; omega)
    refine ⟨_, _, _, rfl, rfl, by decide +kernel, e0, ?_⟩
    refine ⟨_, rfl, s, c, 7, rfl, hS1, by decide, by decide, fun H2 r2 r20 r21 hS2 kp2 => ⟨r2, rfl, by omega, by omega, ?_⟩⟩
    refine for_range (lo := 0) (n := r2.toNat) (fun i σ H' => ∃ (m : List Nat) (o : Option V), σ = [some (.ref s), some (.int (k : Nat)), some (.str lettersS), some (.str (S (c0 :: m))), o] ∧ (∀ c ∈ m, c ∈ runs) ∧ m.length = i ∧ StAt H' s c ∧ Kp s c H H') ⟨[], none, rfl, (fun c h => nomatch h), rfl, hS2, kp1.trans kp2⟩ ?_ ?_
    · rintro i σ H' hi ⟨m, o, rfl, hm, hl, hS', kp'⟩
      refine ⟨_, rfl, _, rfl, by show 4 ≤ sizeLine; decide, fun p hp => ?_⟩
      have n1 := hS'.neS hp
      refine ⟨s, c, p, _, rfl, hS'.new hp, SqL.of upd_same, n1.1, n1.2, (by show 0 < 4; decide), (by show 4 ≤ 1000; decide), fun H3 i3 x3 hx3 st3 kp3 => ?_⟩
      obtain ⟨c3, hc3, rfl⟩ := run_pick hx3
      refine ⟨_, _, rfl, rfl, ?_, m ++ [c3], some (.int (0 + (i : Int))), ?_, ?_, by rw [List.length_append, hl]; rfl, st3, (kp'.trans (Kp.new hp)).trans kp3⟩
      · rw [S_len, S_len, sizeLine_eq, List.length_cons, List.length_cons, List.length_nil]
        omega
      · show ([_, _, _, some (V.str (S (c0 :: m) ++ S [c3])), _] : L2.St) = _
        rw [S_cat]
        rfl
      · intro y hy
        rcases List.mem_append.mp hy with h | h
        · exact hm y h
        · rw [List.mem_singleton.mp h]
          exact hc3
    rintro σ H3 ⟨m1, o, rfl, hm1, hl1, hS3, kp3⟩
    have hd := num_len k hk
    refine ⟨_, rfl, _, rfl, _, rfl, by rw [Int.natAbs_natCast]; exact log_ok k hk, _, _, rfl, rfl, ?_, ?_⟩
    · rw [S_len, sizeLine_eq, List.length_cons]
      omega
    have ed : ∃ ds : List Nat, (toString ((k : Nat) : Int) : Str) = S ds ∧ ds.length ≤ 3 ∧ (k < 10 → ds = [48 + k]) := by
      by_cases h10 : k < 10
      · exact ⟨[48 + k], num_one k h10, by show 1 ≤ 3; decide, fun _ => rfl⟩
      · refine ⟨(toString ((k : Nat) : Int) : Str).cps.toList, (S_tl _).symm, ?_, fun h => absurd h h10⟩
        rw [← S_len, S_tl]
        exact hd
    obtain ⟨ds, eds, hds, hd10⟩ := ed
    refine ⟨_, rfl, s, c, 7, rfl, hS3, by decide, by decide, fun H4 r4 r40 r41 hS4 kp4 => ⟨r4, rfl, by omega, by omega, ?_⟩⟩
    refine for_range (lo := 0) (n := r4.toNat) (fun i σ H' => ∃ (m : List Nat) (o : Option V), σ = [some (.ref s), some (.int (k : Nat)), some (.str lettersS), some (.str (S (c0 :: (m1 ++ (ds ++ m))))), o] ∧ (∀ c ∈ m, c ∈ runs) ∧ m.length = i ∧ StAt H' s c ∧ Kp s c H H') ⟨[], o, ?_, (fun c h => nomatch h), rfl, hS4, kp3.trans kp4⟩ ?_ ?_
    · show ([_, _, _, some (V.str (S (c0 :: m1) ++ toString ((k : Nat) : Int))), _] : L2.St) = _
      rw [eds, S_cat, List.append_nil]
      rfl
    · rintro i σ H' hi ⟨m, o, rfl, hm, hl, hS', kp'⟩
      refine ⟨_, rfl, _, rfl, by show 4 ≤ sizeLine; decide, fun p hp => ?_⟩
      have n1 := hS'.neS hp
      refine ⟨s, c, p, _, rfl, hS'.new hp, SqL.of upd_same, n1.1, n1.2, (by show 0 < 4; decide), (by show 4 ≤ 1000; decide), fun H3 i3 x3 hx3 st3 kp3 => ?_⟩
      obtain ⟨c3, hc3, rfl⟩ := run_pick hx3
      refine ⟨_, _, rfl, rfl, ?_, m ++ [c3], some (.int (0 + (i : Int))), ?_, ?_, by rw [List.length_append, hl]; rfl, st3, (kp'.trans (Kp.new hp)).trans kp3⟩
      · rw [S_len, S_len, sizeLine_eq, List.length_cons, List.length_append, List.length_append, List.length_cons, List.length_nil]
        omega
      · show ([_, _, _, some (V.str (S (c0 :: (m1 ++ (ds ++ m))) ++ S [c3])), _] : L2.St) = _
        rw [S_cat, List.cons_append, List.append_assoc, List.append_assoc]
      · intro y hy
        rcases List.mem_append.mp hy with h | h
        · exact hm y h
        · rw [List.mem_singleton.mp h]
          exact hc3
    · rintro σ H5 ⟨m2, o, rfl, hm2, hl2, hS5, kp5⟩
      refine ⟨_, rfl, q H5 _ (fun h10 => ⟨c0, m1, m2, by rw [hd10 h10]; rfl, hc0, hm1, hm2, by omega, by omega⟩) ?_ hS5 kp5⟩
      rw [S_len, List.length_cons, List.length_append, List.length_append]
      omega
end
end Pk
set_option Elab.async false
set_option linter.all false
set_option maxRecDepth 100000
set_option maxHeartbeats 4000000
namespace GxR
open PySem L2 PyProof.Rows
open Sem (wp)
section
variable {prog : Program} {w : World} {K : Type} [DecidableEq K] {knd : KeyKind prog w K} {A : Around} {E : Value → Shared → Prop} {s : Shared}
theorem display18 (ps : List (Sem Value × Sem Value)) (q : Sem Value × Sem Value) (h : ps.length = 17) :
    dictDisplay ((ps ++ [q]).map fun p => (some p.1, p.2)) = (do
      let d ← subDict ps
      let sub ← holding [.ref d] (subDict [q])
      (holding [.ref d, .ref sub] (mergeMapping d (.ref sub) false)).onRaise fun x => do let _ ← holding [.ref d, x] (runValue (.builtin "proto.let_go" {}))
      pure (.ref d)) := by
  match ps, h with
  | [a1, a2, a3, a4, a5, a6, a7, a8, a9, a10, a11, a12, a13, a14, a15, a16, a17], _ =>
    unfold dictDisplay
    simp
def stLoop (d : Addr) (ps : List (Sem Value × Sem Value)) : Sem PUnit := forIn ps PUnit.unit fun (x : Sem Value × Sem Value) (_ : PUnit) => (do
  let kv ← x.1
  let vv ← holding [kv] x.2
  holding [kv, vv] (dictSet d kv vv)
  pure (ForInStep.yield PUnit.unit) : Sem (ForInStep PUnit))
theorem subDict_long (ps : List (Sem Value × Sem Value)) (h : 15 < ps.length) : subDict ps = (do
      let d ← alloc { cls := .type "dict", data := .dict #[] }
      holding [.ref d] (do rule "dict.display.long"; stLoop d ps)
      pure d) := by
  have h2 : ¬ ps.length ≤ 15 := by omega
  unfold subDict stLoop
  simp only [if_neg h2]
  simp
theorem wpAny_dictPut_pairs {d : Addr} {kvs : List (K × Value)} {k : K} {key v : Value} {Q : Unit → Shared → Prop} (hkey : knd.is k key = true) (hm : s.heap.DictOf knd d kvs)
    (hQ : ∀ h', h'.DictOf knd d (stored kvs k v) → Heap.SameBut d s.heap h' → Q () { s with heap := h' })
    (hsz : kvs.length ≤ sizeLine) :
    wpAny (model prog w) A (dictPut d (knd.hash k) key v) Q E s := by
  obtain ⟨o, es, ep, ho, hc, hd, hk, hp, hn⟩ := hm
  have hes : es.size ≤ sizeLine := by have e1 := hp.length; have e2 : es.toList.length = es.size := by simp
                                      omega
  unfold dictPut
  refine wpAny_bind (wpAny_dictFind_of hkey ho hd hk ?_)
  have hidx : (es.findIdx? fun e => knd.is k e.key) = kvs.findIdx? fun kv => decide (kv.1 = k) := by
    rw [← hp.findIdx k]; obtain ⟨l⟩ := es; simp
  cases hi : es.findIdx? fun e => knd.is k e.key with
  | some i =>
    refine wpAny_updateDict ho hd (hQ _ ⟨_, _, ep, Heap.get?_update_self _ ho (Obj.isFreed_of_dict (Obj.data_mapDict hd _)),
      hc.mapDict _, Obj.data_mapDict hd _, hk.modify _ _, ?_, ?_⟩ (Heap.SameBut.update ..))
    · rw [stored, if_pos (any_of_findIdx_some (hidx ▸ hi))]
      have hl : (es.toList.findIdx? fun e => knd.is k e.key) = some i := by rw [← hi]; obtain ⟨l⟩ := es; simp
      have := hp.modify hn hl v
      obtain ⟨l⟩ := es
      simpa using this
    · rw [stored, if_pos (any_of_findIdx_some (hidx ▸ hi)), keys_map_store]; exact hn
  | none =>
    have hnot : k ∉ kvs.map (·.1) := not_mem_of_findIdx_none (hidx ▸ hi)
    have hany : ¬ (kvs.any fun kv => decide (kv.1 = k)) = true := by
      rw [List.any_eq_true]; rintro ⟨kv, hkv, he⟩
      exact hnot (List.mem_map.mpr ⟨kv, hkv, of_decide_eq_true he⟩)
    refine wpAny_updateDictKeys (hz := hes) ho hd (hQ _ ⟨_, _, ep + 1, Heap.get?_update_self _ ho (Obj.isFreed_of_dict (Obj.data_mapDictKeys hd _)),
      hc.mapDictKeys _, Obj.data_mapDictKeys hd _, hk.push hkey _, ?_, ?_⟩ (Heap.SameBut.update ..))
    · rw [stored, if_neg hany]
      have := hp.append hkey (knd.hash k) v
      obtain ⟨l⟩ := es
      simpa using this
    · rw [stored, if_neg hany, List.map_append, List.nodup_append]
      refine ⟨hn, by simp, ?_⟩
      intro a ha b hb
      simp only [List.map_cons, List.map_nil, List.mem_singleton] at hb
      subst hb
      exact fun e => hnot (e ▸ ha)
/-- one entry is merged into a dict that isn't empty -/
theorem wpAny_merge1 {d o : Addr} {kvs : List (K × Value)} {k : K} {v : Value} {Q : Unit → Shared → Prop} (hdo : d ≠ o) (hoS : (o == sysModules) = false)
    (hd : s.heap.DictOf knd d kvs) (ho : s.heap.DictOf knd o [(k, v)]) (h0 : kvs ≠ []) (hsz : kvs.length ≤ sizeLine)
    (hQ : ∀ h', h'.DictOf knd d (stored kvs k v) → Heap.SameBut d s.heap h' → Q () { s with heap := h' }) :
    wpAny (model prog w) A (mergeMapping d (.ref o) false) Q E s := by
  obtain ⟨od, esd, epd, hod, hcd, hdd, hkd, hpd, hnd⟩ := id hd
  obtain ⟨oo, eso, epo, hoo, hco, hdo', hko, hpo, hno⟩ := id ho
  have hlen : eso.size = 1 := by have := hpo.length; simpa using this
  unfold mergeMapping
  refine wpAny_bind (wpAny_isInstance ho.typeIs isSubtype_dict_dict ?_)
  rw [if_pos rfl]
  refine wpAny_bind (wpAny_specialOf ho.typeIs F.slot_dict_iter.lookup (wpAny_bind (wpAny_pure ?_)))
  rw [show (some (Value.builtin "dict.__iter__") == some (Value.builtin "dict.__iter__")) = true by decide +kernel]
  dsimp only
  rw [if_neg (by rw [hoS]; exact Bool.false_ne_true)]
  refine wpAny_bind (wpAny_dictEntries hod hdd ?_)
  have hne : esd.isEmpty = false := by
    cases e : esd.isEmpty with
    | false => rfl
    | true =>
      have h1 : esd = #[] := Array.isEmpty_iff.mp e
      have := hpd.length
      rw [h1] at this
      exact absurd (List.length_eq_zero_iff.mp (by simpa using this.symm)) h0
  rw [hne, if_neg (by decide)]
  refine wpAny_bind (wpAny_dictEntries hoo hdo' ?_)
  refine wpAny_bind (wpAny_dictEpoch hoo hdo' ?_)
  rw [hlen]
  rw [show List.range 1 = [0] from rfl, List.forIn_cons]
  refine wpAny_bind (wpAny_bind (wpAny_bind (wpAny_dictEntries hoo hdo' ?_)))
  have hlt : 0 < eso.size := by omega
  rw [Array.getElem?_eq_getElem hlt]
  obtain ⟨hkey, hval⟩ := hpo.get? (i := 0) (e := eso[0]) (by simp [hlt]) rfl
  obtain ⟨k', hkey', hhash⟩ := hko eso[0] (Array.getElem_mem hlt)
  obtain rfl : k' = k := knd.inj _ _ _ hkey' hkey
  dsimp only
  rw [if_neg (by decide), hhash, hval]
  refine wpAny_bind (wpAny_holding (wpAny_dictPut_pairs hkey hd (fun h'' hd'' hs'' => ?_) hsz))
  have hoo'' : h''.get? o = some oo := (hs''.2 o (Ne.symm hdo)).trans hoo
  refine wpAny_bind (wpAny_dictEpoch hoo'' hdo' ?_)
  rw [if_neg (by simp)]
  refine wpAny_pure ?_
  dsimp only
  rw [List.forIn_nil]
  exact wpAny_pure (wpAny_pure (hQ _ hd'' hs''))
end
/-- the pairs that are stored one by one in the dict at p -/
def tStores : List (TE × TE) → Addr → L2.St → Hp → (Hp → Prop) → Prop
  | [], _, _, H, Q => Q H
  | (tk, tv) :: r, p, σ, H, Q => tk σ H fun x H1 => tv σ H1 fun y H2 => ∃ (kvs : List (Key × V)) (k : Key), x = kV k ∧ H2 p = some (.dK kvs) ∧ kvs.length < sizeLine ∧ tStores r p σ (upd H2 p (.dK (putK kvs k y))) Q
structure PSt (X : Cx) (pos : Pos) (keys : List (Option Expr)) (values : List Expr) (trs : List (TE × TE)) : Prop where
  run : ∀ (pins : List (Addr × Obj)) (s : Shared) (σ : L2.St) (H : Hp) (p : Addr) (Q : Hp → Prop), Inv X pins σ H s → tStores trs p σ H Q →
    wpAny (model X.prog X.w) X.A (stLoop p (pairTrees keys values X.env pos)) (fun _ s' => ∃ H', Inv X pins σ H' s' ∧ Q H') X.xe s
theorem pst_nil {X : Cx} {pos : Pos} : PSt X pos [] [] [] := ⟨fun pins s σ H p Q I h => by
  show wpAny _ _ (forIn [] PUnit.unit _) _ _ _
  rw [List.forIn_nil]
  exact wpAny_pure ⟨H, I, h⟩⟩
theorem pst_cons {X : Cx} {pos : Pos} {k v : Expr} {ks : List (Option Expr)} {vs : List Expr} {tk tv : TE} {trs : List (TE × TE)} (hk : PE X k tk) (hv : PE X v tv) (hr : PSt X pos ks vs trs) :
    PSt X pos (some k :: ks) (v :: vs) ((tk, tv) :: trs) := ⟨fun pins s σ H p Q I h => by
  show wpAny _ _ (forIn (_ :: _) PUnit.unit _) _ _ _
  rw [List.forIn_cons]
  refine wpAny_bind (wpAny_bind (thn (hk.run pins s σ H _ I h) fun u s1 ⟨x, H1, I1, rx, q1⟩ => ?_))
  refine wpAny_bind (wpAny_holding (wpAny_bind (thn (hv.run pins s1 σ H1 _ I1 q1) fun w2 s2 ⟨y, H2, I2, ry, kvs, k2, ex, e, hl, q2⟩ => wpAny_bind (wpAny_standAt (wpAny_pure ?_)))))
  subst ex
  obtain ⟨z, hd, vs1, rel, dd⟩ := dk_of I2.hok e
  have hz : vs1.length ≤ sizeLine := by rw [← rel.length]; exact z
  have hl2 : (putK kvs k2 y).length ≤ sizeLine := by have := length_putK kvs k2 y; omega
  refine wpAny_bind (wpAny_holding (wpAny_dictSet_pairs (hsz := hz) (kV_is rx) dd fun h' dd' hs => wpAny_pure ?_))
  have he : ∃ q, h'.get? p = some q := let ⟨q, _, _, hq, _⟩ := dd'; ⟨q, hq⟩
  have I3 := d_write (t' := s2.toks + 1) I2 (by rw [e]; exact True.intro) hs he (dk_new hl2 hd (rel.put k2 ry) dd')
  exact hr.run pins _ σ _ p Q I3 q2⟩
structure PL (X : Cx) (pos : Pos) (keys : List (Option Expr)) (values : List Expr) (trs : List (TE × TE)) (tk tv : TE) : Prop where
  ex : ∃ ks vs k v, keys = ks ++ [some k] ∧ values = vs ++ [v] ∧ PSt X pos ks vs trs ∧ PE X k tk ∧ PE X v tv ∧ ks.length = vs.length ∧ ks.length = trs.length ∧ ks.all (·.isSome) = true
theorem pl_last {X : Cx} {pos : Pos} {k v : Expr} {tk tv : TE} (hk : PE X k tk) (hv : PE X v tv) : PL X pos [some k] [v] [] tk tv := ⟨[], [], k, v, rfl, rfl, pst_nil, hk, hv, rfl, rfl, rfl⟩
theorem pl_cons {X : Cx} {pos : Pos} {k v : Expr} {ks : List (Option Expr)} {vs : List Expr} {ta tb tk tv : TE} {trs : List (TE × TE)} (hk : PE X k ta) (hv : PE X v tb) (hr : PL X pos ks vs trs tk tv) :
    PL X pos (some k :: ks) (v :: vs) ((ta, tb) :: trs) tk tv := by
  obtain ⟨ks1, vs1, k1, v1, rfl, rfl, h1, h2, h3, h4, h5, h6⟩ := hr.ex
  exact ⟨some k :: ks1, v :: vs1, k1, v1, rfl, rfl, pst_cons hk hv h1, h2, h3, by rw [List.length_cons, List.length_cons, h4], by rw [List.length_cons, List.length_cons, h5], by rw [List.all_cons, h6]; rfl⟩
theorem pairTrees_append (env : Env) (pos : Pos) (k v : Expr) : ∀ (ks : List (Option Expr)) (vs : List Expr), ks.length = vs.length → ks.all (·.isSome) = true → pairTrees (ks ++ [some k]) (vs ++ [v]) env pos = pairTrees ks vs env pos ++ pairTrees [some k] [v] env pos
  | [], [], _, _ => rfl
  | [], _ :: _, h, _ => by simp at h
  | _ :: _, [], h, _ => by simp at h
  | none :: _, _ :: _, _, h => by simp at h
  | some a :: ks, b :: vs, h, h2 => by
    have ih := pairTrees_append env pos k v ks vs (by simpa using h) (by simpa using h2)
    show _ :: pairTrees (ks ++ [some k]) (vs ++ [v]) env pos = _ :: (pairTrees ks vs env pos ++ _)
    rw [ih]
def tDisp18 (trs : List (TE × TE)) (tk tv : TE) : TE := fun σ H Q => ∀ p, H p = none → tStores trs p σ (upd H p (.dK [])) fun H1 => ∀ q, H1 q = none → tk σ (upd H1 q (.dK [])) fun x H2 => tv σ H2 fun y H3 =>
  ∃ (kvs : List (Key × V)) (k : Key), x = kV k ∧ H3 q = some (.dK []) ∧ H3 p = some (.dK kvs) ∧ kvs ≠ [] ∧ kvs.length < sizeLine ∧ Q (.ref p) (upd (upd H3 q (.dK [(k, y)])) p (.dK (putK kvs k y)))
theorem pe_disp18 {X : Cx} {pos : Pos} {keys : List (Option Expr)} {values : List Expr} {trs : List (TE × TE)} {tk tv : TE} (h : PL X pos keys values trs tk tv) (h17 : trs.length = 17) : PE X (.Dict keys values pos) (tDisp18 trs tk tv) := by
  obtain ⟨ks, vs, k, v, rfl, rfl, h1, h2, h3, h4, h5, h6⟩ := h.ex
  refine ⟨fun pins s σ H Q I q => ?_⟩
  rw [arm_eval_Dict, zip_pairTrees _ _ _ _ (by rw [List.all_append, h6]; rfl) (by rw [List.length_append, List.length_append, h4]; rfl), pairTrees_append _ _ _ _ _ _ h4 h6]
  have hn : (pairTrees ks vs X.env pos).length = 17 := by rw [pairTrees_length ks vs X.env pos h6 h4, h5, h17]
  rw [show pairTrees [some k] [v] X.env pos = [((eval k X.env : Sem Value), (do let x ← eval v X.env; standAt pos; pure x : Sem Value))] from rfl, display18 _ _ hn, subDict_long _ (by omega)]
  have hf := I.hok.fresh (Nat.le_refl s.heap.objs.size)
  have I1 := I.laid (a := s.heap.objs.size) (o := .dK []) (h' := s.heap.push { cls := .type "dict", data := .dict #[] }) (t' := s.toks) (fun _ _ q => Heap.get?_push_of_some _ q) (Nat.le_refl _) (dk_empty s.heap I.big)
  refine wpAny_bind (wpAny_standAt (wpAny_bind (wpAny_bind (wpAny_alloc ?_))))
  refine wpAny_bind (wpAny_holding (wpAny_bind (wpAny_rule (thn (h1.run pins _ σ _ s.heap.objs.size _ I1 (q _ hf)) fun _ s1 ⟨H1, I2, q1⟩ => wpAny_pure ?_))))
  refine wpAny_bind (wpAny_holding ?_)
  have hf2 := I2.hok.fresh (Nat.le_refl s1.heap.objs.size)
  have I3 := I2.laid (a := s1.heap.objs.size) (o := .dK []) (h' := s1.heap.push { cls := .type "dict", data := .dict #[] }) (t' := s1.toks) (fun _ _ q => Heap.get?_push_of_some _ q) (Nat.le_refl _) (dk_empty s1.heap I2.big)
  have hp1 := (pps_cons h2 h3 (pps_nil (pos := pos))).run pins _ σ _ (fun ps H3 => match ps with
    | [(x, y)] => ∃ (kvs : List (Key × V)) (k : Key), x = kV k ∧ H3 s1.heap.objs.size = some (.dK []) ∧ H3 s.heap.objs.size = some (.dK kvs) ∧ kvs ≠ [] ∧ kvs.length < sizeLine ∧ Q (.ref s.heap.objs.size) (upd (upd H3 s1.heap.objs.size (.dK [(k, y)])) s.heap.objs.size (.dK (putK kvs k y)))
    | _ => False) I3 (q1 _ hf2)
  · refine wpAny_subDict (knd := mixKind X.prog X.w) (by show 1 ≤ 15; decide) (thn hp1 fun ws s2 ⟨ps, H3, I4, rel, qp⟩ => ?_)
    obtain ⟨x, y, rfl, kvs, k2, rfl, e2, e3, h0, hl, q2⟩ : ∃ x y, ps = [(x, y)] ∧ ∃ (kvs : List (Key × V)) (k : Key), x = kV k ∧ H3 s1.heap.objs.size = some (.dK []) ∧ H3 s.heap.objs.size = some (.dK kvs) ∧ kvs ≠ [] ∧ kvs.length < sizeLine ∧ Q (.ref s.heap.objs.size) (upd (upd H3 s1.heap.objs.size (.dK [(k, y)])) s.heap.objs.size (.dK (putK kvs k y))) := by
      match ps, qp with
      | [(x, y)], h => exact ⟨x, y, rfl, h⟩
    obtain ⟨rs, c, rk⟩ := carries_of (P := X.prog) (w := X.w) (kvs := [(k2, y)]) rel
    obtain ⟨z, hd, vs0, r0, dd⟩ := dk_of I4.hok e2
    cases r0
    refine ⟨rs, c, dd, fun h' dd' hs => ?_⟩
    have he : ∃ q, h'.get? s1.heap.objs.size = some q := let ⟨q, _, _, hq, _⟩ := dd'; ⟨q, hq⟩
    have hm : mergeK [] [(k2, y)] = [(k2, y)] := rfl
    have I5 := d_write (t' := s2.toks + ws.length) I4 (by rw [e2]; exact True.intro) hs he (dk_new (kvs := mergeK [] [(k2, y)]) (by rw [hm, sizeLine_eq]; show 1 ≤ 16777216; decide) hd (rk.merge .nil) dd')
    rw [hm] at I5
    have hpq : s.heap.objs.size ≠ s1.heap.objs.size := by
      intro z
      rw [z, e2] at e3
      cases e3
      exact h0 rfl
    have e3' : (upd H3 s1.heap.objs.size (.dK [(k2, y)])) s.heap.objs.size = some (.dK kvs) := by rw [upd_ne hpq]; exact e3
    obtain ⟨zp, hdp, vsp, relp, ddp⟩ := dk_of I5.hok e3'
    obtain ⟨zq, hdq, vsq, relq, ddq⟩ := dk_of I5.hok (upd_same (H := H3) (a := s1.heap.objs.size) (o := .dK [(k2, y)]))
    obtain ⟨k3, yv, rfl, ek, ry2⟩ : ∃ (k3 : Key) (yv : Value), vsq = [(k3, yv)] ∧ k2 = k3 ∧ RelV y yv := by
      cases relq with
      | cons a b => cases b; exact ⟨_, _, rfl, a.1, a.2⟩
    subst ek
    have hvp : vsp ≠ [] := by
      intro z
      have := relp.length
      rw [z] at this
      exact h0 (List.length_eq_zero_iff.mp this)
    refine wpAny_bind (wpAny_onRaise (wpAny_holding (wpAny_merge1 hpq hdq ddp ddq hvp (by rw [← relp.length]; omega) fun h2 d2 hs2 => ?_)))
    have he2 : ∃ q, h2.get? s.heap.objs.size = some q := let ⟨q, _, _, hq, _⟩ := d2; ⟨q, hq⟩
    have hl2 : (putK kvs k2 y).length ≤ sizeLine := by have := length_putK kvs k2 y; omega
    have I6 := d_write (t' := s2.toks + ws.length) I5 (by rw [e3']; exact True.intro) hs2 he2 (dk_new hl2 hdp (relp.put k2 ry2) d2)
    exact wpAny_pure ⟨.ref s.heap.objs.size, _, I6, rfl, q2⟩
end GxR
set_option Elab.async false
set_option linter.all false
set_option maxRecDepth 100000
set_option maxHeartbeats 4000000
namespace Tk
open PySem L2 SX
abbrev RulT := List (Str × List (Str × Str))
def gA : RulT := [
  (o "$program", [(o "program", o "program NAME $headers $meta parser { $states } $actions $tables control $block $emit END")]),
  (o "$headers", [(o "header", o "header NAME { $fields } $headers"), (o "", o "")]),
  (o "$meta", [(o "meta", o "meta { $fields }"), (o "", o "")]),
  (o "$fields", [(o "NAME", o "NAME : NUM ; $fields"), (o "", o "")]),
  (o "$states", [(o "state", o "state NAME { $extract $next } $states"), (o "", o "")]),
  (o "$extract", [(o "extract", o "extract NAME ;"), (o "", o "")]),
  (o "$next", [(o "select", o "select $field { $rows else -> $target ; }"), (o "go", o "go $target ;")]),
  (o "$rows", [(o "NUM", o "NUM $mask -> $target ; $rows"), (o "", o "")]),
  (o "$mask", [(o "&", o "& NUM"), (o "", o "")]),
  (o "$target", [(o "NAME", o "NAME"), (o "accept", o "accept"), (o "reject", o "reject")]),
  (o "$field", [(o "NAME", o "NAME . NAME"), (o "meta", o "meta . NAME"), (o "packet", o "packet . NAME")]),
  (o "$actions", [(o "action", o "action NAME ( $params ) { $ops } $actions"), (o "", o "")]),
  (o "$params", [(o "NAME", o "NAME : NUM $param"), (o "", o "")]),
  (o "$param", [(o ",", o ", NAME : NUM $param"), (o "", o "")])]
def gB1 : RulT := [
  (o "$ops", [(o "send", o "send $expr ; $ops"), (o "drop", o "drop ; $ops"), (o "add", o "add NAME ; $ops"), (o "remove", o "remove NAME ; $ops"), (o "NAME", o "$field = $expr ; $ops"), (o "meta", o "$field = $expr ; $ops"), (o "packet", o "$field = $expr ; $ops"), (o "", o "")]),
  (o "$expr", [(o "", o "$operand $tail")]),
  (o "$tail", [(o "+", o "+ $operand"), (o "-", o "- $operand"), (o "&", o "& $operand"), (o "|", o "| $operand"), (o "^", o "^ $operand"), (o "", o "")]),
  (o "$operand", [(o "NAME", o "NAME $dot"), (o "meta", o "meta . NAME"), (o "packet", o "packet . NAME"), (o "NUM", o "NUM")]),
  (o "$dot", [(o ".", o ". NAME"), (o "", o "")]),
  (o "$tables", [(o "table", o "table NAME { $keys $uses default NAME ( $args ) ; size NUM ; } $tables"), (o "", o "")]),
  (o "$keys", [(o "key", o "key $field $kind ; $keys"), (o "", o "")]),
  (o "$kind", [(o "exact", o "exact"), (o "mask", o "mask"), (o "prefix", o "prefix")]),
  (o "$uses", [(o "use", o "use NAME ; $uses"), (o "", o "")]),
  (o "$args", [(o "NUM", o "NUM $arg"), (o "", o "")]),
  (o "$arg", [(o ",", o ", NUM $arg"), (o "", o "")]),
  (o "$block", [(o "{", o "OPEN $statements CLOSE")]),
  (o "$statements", [(o "apply", o "apply NAME ; $statements"), (o "if", o "if $test $block $else $statements"), (o "", o "")]),
  (o "$else", [(o "else", o "else $block"), (o "", o "")]),
  (o "$test", [(o "not", o "NOT $test"), (o "NAME", o "$field $compare"), (o "meta", o "$field $compare"), (o "packet", o "$field $compare"), (o "valid", o "valid NAME")]),
  (o "$compare", [(o "==", o "== NUM"), (o "<", o "< NUM")]),
  (o "$emit", [(o "emit", o "emit NAME $names ;"), (o "", o "")])]
def gB2 : Str × List (Str × Str) := (o "$names", [(o ",", o ", NAME $names"), (o "", o "")])
def gB : RulT := gB1 ++ [gB2]
def gRul : RulT := gA ++ gB
theorem gRul_len : gA.length = 14 ∧ gB.length = 18 ∧ gRul.length = 32 := by decide +kernel
theorem gRul_split : gRul.map (fun g => (g.1, g.2.map fun r => (r.1, Txt.words r.2))) = g49 := by decide +kernel
theorem gRul_nodup : (gRul.map (·.1)).Nodup := by decide +kernel
end Tk
namespace Pk
open PySem PySem.Spec PyProof.Rows L2 SX GxR Tk
abbrev rowD (r : Str × Str) : PyData := .tuple [.str r.1, .str r.2]
abbrev rowsD (rows : List (Str × Str)) : PyData := .list (rows.map rowD)
/-- the entries of a dict of rules -/
def DicG (G : Hp) : List (L2.Key × V) → RulT → Prop := Paired fun kv g => kv.1 = .inr g.1 ∧ Dr G kv.2 (rowsD g.2)
section
variable {G H : Hp} {kvs : List (L2.Key × V)} {gs : RulT}
theorem DicG.sub (k : Same G H) (h : DicG G kvs gs) : DicG H kvs gs := by
  unfold DicG at h ⊢
  induction h with
  | nil => exact .nil
  | cons a r ih => exact .cons ⟨a.1, dr_sub k a.2⟩ ih
theorem DicG.len (h : DicG G kvs gs) : kvs.length = gs.length := Paired.length h
theorem DicG.keys (h : DicG G kvs gs) : kvs.map (·.1) = gs.map fun g => (.inr g.1 : L2.Key) := by
  unfold DicG at h
  induction h with
  | nil => rfl
  | cons a r ih => rw [List.map_cons, List.map_cons, ih, a.1]
theorem DicG.val (h : DicG G kvs gs) {X : Str} {rows : List (Str × Str)} (e : gs.lookup X = some rows) : ∃ v, valV kvs (.inr X) = some v ∧ Dr G v (rowsD rows) := by
  unfold DicG at h
  induction h with
  | nil => cases e
  | @cons p g kvs gs a r ih =>
    obtain ⟨Y, ys⟩ := g
    by_cases hx : X = Y
    · rw [hx, List.lookup_cons_self] at e
      cases e
      exact ⟨p.2, valV_pos (by rw [a.1, hx]), a.2⟩
    · have hb : (X == Y) = false := beq_eq_false_iff_ne.mpr hx
      rw [List.lookup_cons, hb] at e
      obtain ⟨v, h1, h2⟩ := ih e
      refine ⟨v, ?_, h2⟩
      rw [valV_neg (by rw [a.1]; exact fun z => hx (Sum.inr.inj z).symm)]
      exact h1
theorem DicG.none (h : DicG G kvs gs) {X : Str} (n : X ∉ gs.map (·.1)) : valV kvs (.inr X) = none := by
  unfold DicG at h
  induction h with
  | nil => rfl
  | @cons p g kvs gs a r ih =>
    rw [List.map_cons, List.mem_cons, not_or] at n
    rw [valV_neg (by rw [a.1]; exact fun z => n.1 (Sum.inr.inj z).symm)]
    exact ih n.2
theorem DicG.app {kvs2 : List (L2.Key × V)} {gs2 : RulT} (h : DicG G kvs gs) (h2 : DicG G kvs2 gs2) : DicG G (kvs ++ kvs2) (gs ++ gs2) := by
  unfold DicG at h ⊢
  induction h with
  | nil => exact h2
  | cons a r ih => exact .cons a ih
theorem DicG.put (h : DicG G kvs gs) {X : Str} {rows : List (Str × Str)} {v : V} (n : X ∉ gs.map (·.1)) (hv : Dr G v (rowsD rows)) : DicG G (putK kvs (.inr X) v) (gs ++ [(X, rows)]) := by
  rw [L2.putK_new v (h.none n)]
  exact h.app (.cons ⟨rfl, hv⟩ .nil)
theorem mergeK_app : ∀ (more kvs : List (L2.Key × V)), (∀ p ∈ more, ∀ q ∈ kvs, p.1 ≠ q.1) → (more.map (·.1)).Nodup → mergeK kvs more = kvs ++ more
  | [], kvs, _, _ => by rw [List.append_nil]; rfl
  | p :: r, kvs, h, hn => by
    rw [List.map_cons, List.nodup_cons] at hn
    have hv : valV kvs p.1 = none := by
      unfold valV
      rw [List.find?_eq_none.mpr]
      · rfl
      · intro q hq
        have := h p List.mem_cons_self q hq
        simp
        exact fun z => this z.symm
    show mergeK (putK kvs p.1 p.2) r = _
    rw [L2.putK_new p.2 hv, mergeK_app r _ ?_ hn.2, List.append_assoc]
    · rfl
    · intro x hx q hq
      rcases List.mem_append.mp hq with hq | hq
      · exact h x (List.mem_cons_of_mem _ hx) q hq
      · rw [List.mem_singleton.mp hq]
        exact fun z => hn.1 (List.mem_map.mpr ⟨x, hx, z⟩)
theorem DicG.nodup (h : DicG G kvs gs) (n : (gs.map (·.1)).Nodup) : (kvs.map (·.1)).Nodup := by
  rw [h.keys, show (fun g : Str × List (Str × Str) => (.inr g.1 : L2.Key)) = Sum.inr ∘ (fun g : Str × List (Str × Str) => g.1) from rfl, ← List.map_map]
  exact List.Pairwise.map _ (fun a b hab z => hab (Sum.inr.inj z)) n
theorem DicG.merge (h : DicG G kvs gs) (n : (gs.map (·.1)).Nodup) : mergeK [] kvs = kvs := by
  rw [mergeK_app kvs [] (fun p _ q hq => nomatch hq) (h.nodup n), List.nil_append]
end
inductive ZL (σ : L2.St) (G0 : Hp) : List (TE × TE) → RulT → Prop
  | nil : ZL σ G0 [] []
  | cons {X : Str} {rows : List (Str × Str)} {tv : TE} {trs : List (TE × TE)} {gs : RulT} : ZE σ G0 tv (rowsD rows) → ZL σ G0 trs gs → ZL σ G0 ((tC (.str X), tv) :: trs) ((X, rows) :: gs)
section
variable {σ : L2.St} {G0 : Hp} {trs : List (TE × TE)} {gs : RulT}
theorem ZL.pairs (h : ZL σ G0 trs gs) : ∀ (G H : Hp) (s c : Addr) (Q : List (V × V) → Hp → Prop), Same G0 G → Sg G H s c → (∀ kvs G' H', Sg G' H' s c → Gr G G' H → Same H H' → DicG G' kvs gs → Q (kvs.map fun kv => (kV kv.1, kv.2)) H') → tPairs trs σ H Q := by
  induction h with
  | nil => exact fun G H s c Q _ C q => q [] G H C (Gr.refl _ _) (Same.refl _) .nil
  | @cons X rows tv trs gs hz r ih =>
    intro G H s c Q g C q
    show tv σ H fun y H2 => tPairs trs σ H2 fun ps H3 => Q ((V.str X, y) :: ps) H3
    refine hz G H s c _ g C fun v G1 H1 C1 s1 t1 hd => ?_
    refine ih G1 H1 s c _ (g.trans s1.sub) C1 fun kvs G2 H2 C2 s2 t2 hk => ?_
    exact q ((.inr X, v) :: kvs) G2 H2 C2 (s1.trans s2 (same_none t1)) (t1.trans t2) (.cons ⟨rfl, dr_sub s2.sub hd⟩ hk)
/-- a displayed dict of at most fifteen lists of rows -/
theorem disp_z (h : ZL σ G0 trs gs) {G H : Hp} {s c : Addr} {Q : VK} (g0 : Same G0 G) (C : Sg G H s c) (nd : (gs.map (·.1)).Nodup) (hl : gs.length ≤ 15)
    (q : ∀ p kvs G' H', Sg G' H' s c → Gr G G' H → Same H H' → H p = none → G' p = none → H' p = some (.dK kvs) → DicG G' kvs gs → Q (.ref p) H') : tDisp trs σ H Q := by
  intro p hp
  have hG : G p = none := C.sub.free hp
  have n1 := C.st.neS hp
  refine h.pairs G (upd H p (.dK [])) s c _ g0 (C.set hG n1) fun kvs G1 H1 C1 s1 t1 hd => ?_
  have hG1 : G1 p = none := s1.free hG (by rw [upd_same]; exact fun z => nomatch z)
  refine ⟨t1 _ _ upd_same, kvs, rfl, by rw [hd.len]; exact hl, ?_⟩
  rw [hd.merge nd]
  refine q p kvs G1 _ (C1.set hG1 n1) ⟨s1.sub, fun b hb => ?_⟩ (fun b o e => ?_) hp hG1 upd_same hd
  · rcases s1.new b hb with z | z
    · exact .inl z
    · refine .inr ?_
      by_cases hbp : b = p
      · rw [hbp]; exact hp
      · rw [upd_ne hbp] at z; exact z
  · have hbp := ne_of_none e hp
    rw [upd_ne hbp]
    exact t1 _ _ (by rw [upd_ne hbp]; exact e)
/-- entries stored one by one -/
theorem ZL.stores {p : Addr} (h : ZL σ G0 trs gs) : ∀ (G H : Hp) (s c : Addr) (kvs0 : List (L2.Key × V)) (gs0 : RulT) (Q : Hp → Prop), Same G0 G → Sg G H s c → G p = none → p ≠ s ∧ p ≠ c → H p = some (.dK kvs0) → DicG G kvs0 gs0 → ((gs0 ++ gs).map (·.1)).Nodup → gs0.length + gs.length ≤ 1000 →
    (∀ kvs G' H', Sg G' H' s c → Gr G G' H → G' p = none → (∀ b o, b ≠ p → H b = some o → H' b = some o) → H' p = some (.dK kvs) → DicG G' kvs (gs0 ++ gs) → Q H') → tStores trs p σ H Q := by
  induction h with
  | nil =>
    intro G H s c kvs0 gs0 Q _ C hG _ hp hd _ _ q
    exact q kvs0 G H C (Gr.refl _ _) hG (fun _ _ _ e => e) hp (by rw [List.append_nil]; exact hd)
  | @cons X rows tv trs gs hz r ih =>
    intro G H s c kvs0 gs0 Q g C hG n1 hp hd nd hl q
    show tv σ H fun y H2 => ∃ (kvs : List (L2.Key × V)) (k : L2.Key), V.str X = kV k ∧ H2 p = some (.dK kvs) ∧ kvs.length < sizeLine ∧ tStores trs p σ (upd H2 p (.dK (putK kvs k y))) Q
    refine hz G H s c _ g C fun v G1 H1 C1 s1 t1 hv => ?_
    have hG1 : G1 p = none := s1.free hG (by rw [hp]; exact fun z => nomatch z)
    have hl0 := hd.len
    rw [List.length_cons] at hl
    refine ⟨kvs0, .inr X, rfl, t1 _ _ hp, small1000 (by omega), ?_⟩
    have nX : X ∉ gs0.map (·.1) := by
      rw [List.map_append, List.map_cons, List.nodup_append] at nd
      exact fun z => nd.2.2 X z X List.mem_cons_self rfl
    refine ih G1 (upd H1 p (.dK (putK kvs0 (.inr X) v))) s c _ (gs0 ++ [(X, rows)]) Q (g.trans s1.sub) (C1.set hG1 n1) hG1 n1 upd_same ((hd.sub s1.sub).put nX hv) (by rw [List.append_assoc]; exact nd) (by rw [List.length_append, List.length_cons, List.length_nil]; omega) fun kvs G2 H2 C2 s2 hG2 t2 hp2 hd2 => ?_
    refine q kvs G2 H2 C2 ⟨s1.sub.trans s2.sub, fun b hb => ?_⟩ hG2 (fun b o n e => ?_) hp2 (by rw [List.append_assoc] at hd2; exact hd2)
    · rcases s2.new b hb with z | z
      · exact s1.new b z
      · by_cases hbp : b = p
        · rw [hbp] at hb
          exact absurd hG2 hb
        · rw [upd_ne hbp] at z
          exact .inr (t1.free z)
    · exact t2 b o n (by rw [upd_ne n]; exact t1 _ _ e)
/-- a displayed dict of eighteen lists of rows -/
theorem disp18_z {tv : TE} {X : Str} {rows : List (Str × Str)} (h : ZL σ G0 trs gs) (hv : ZE σ G0 tv (rowsD rows)) {G H : Hp} {s c : Addr} {Q : VK} (g0 : Same G0 G) (C : Sg G H s c) (nd : ((gs ++ [(X, rows)]).map (·.1)).Nodup) (hl : gs.length ≤ 100) (h0 : gs ≠ [])
    (q : ∀ p kvs G' H', Sg G' H' s c → Gr G G' H → Same H H' → H p = none → G' p = none → H' p = some (.dK kvs) → DicG G' kvs (gs ++ [(X, rows)]) → Q (.ref p) H') : tDisp18 trs (tC (.str X)) tv σ H Q := by
  intro p hp
  have hG : G p = none := C.sub.free hp
  have n1 := C.st.neS hp
  have nd2 := nd
  rw [List.map_append, List.nodup_append] at nd2
  refine h.stores G (upd H p (.dK [])) s c [] [] _ g0 (C.set hG n1) hG n1 upd_same .nil (by rw [List.nil_append]; exact nd2.1) (by rw [List.length_nil]; omega) fun kvs G1 H1 C1 s1 hG1 t1 hp1 hd => ?_
  rw [List.nil_append] at hd
  intro q1 hq1
  have n2 := C1.st.neS hq1
  have hq0 : G1 q1 = none := C1.sub.free hq1
  have npq : p ≠ q1 := ne_of_none hp1 hq1
  show tv σ (upd H1 q1 (.dK [])) fun y H3 => ∃ (kvs : List (L2.Key × V)) (k : L2.Key), V.str X = kV k ∧ H3 q1 = some (.dK []) ∧ H3 p = some (.dK kvs) ∧ kvs ≠ [] ∧ kvs.length < sizeLine ∧ Q (.ref p) (upd (upd H3 q1 (.dK [(k, y)])) p (.dK (putK kvs k y)))
  refine hv G1 (upd H1 q1 (.dK [])) s c _ (g0.trans s1.sub) (C1.set hq0 n2) fun v G2 H2 C2 s2 t2 hdv => ?_
  have hG2 : G2 p = none := s2.free hG1 (by rw [upd_ne npq, hp1]; exact fun z => nomatch z)
  have hq2 : G2 q1 = none := s2.free hq0 (by rw [upd_same]; exact fun z => nomatch z)
  have hlen := hd.len
  refine ⟨kvs, .inr X, rfl, t2 _ _ upd_same, t2 _ _ (by rw [upd_ne npq]; exact hp1), fun z => h0 (List.length_eq_zero_iff.mp (by rw [← hlen, z]; rfl)), small1000 (by omega), ?_⟩
  have nX : X ∉ gs.map (·.1) := fun z => nd2.2.2 X z X List.mem_cons_self rfl
  have C3 : Sg G2 (upd H2 q1 (.dK [(.inr X, v)])) s c := C2.set hq2 n2
  refine q p (putK kvs (.inr X) v) G2 _ (C3.set hG2 n1) ⟨s1.sub.trans s2.sub, fun b hb => ?_⟩ (fun b o e => ?_) hp hG2 upd_same ((hd.sub s2.sub).put nX hdv)
  · by_cases hbp : b = p
    · rw [hbp] at hb
      exact absurd hG2 hb
    by_cases hbq : b = q1
    · rw [hbq] at hb
      exact absurd hq2 hb
    rcases s2.new b hb with z | z
    · rcases s1.new b z with y | y
      · exact .inl y
      · rw [upd_ne hbp] at y
        exact .inr y
    · rw [upd_ne hbq] at z
      refine .inr ?_
      cases e : H b with
      | none => rfl
      | some o =>
        have := t1 b o hbp (by rw [upd_ne hbp]; exact e)
        rw [z] at this
        cases this
  · have hbp := ne_of_none e hp
    have e1 := t1 b o hbp (by rw [upd_ne hbp]; exact e)
    have hbq := ne_of_none e1 hq1
    rw [upd_ne hbp, upd_ne hbq]
    exact t2 _ _ (by rw [upd_ne hbq]; exact e1)
end
end Pk
set_option Elab.async false
set_option linter.all false
set_option maxRecDepth 100000
set_option maxHeartbeats 4000000
namespace Pk
open PySem PySem.Spec PyProof.Rows L2 SX GxR Tk
/-- what stands in a row: words, signs, NAME, NUM -/
def trms : List Str := terms ++ [Str.ofString "NAME", Str.ofString "NUM"]
/-- all symbols; the terminals among them -/
def syms : List Str := o "$program" :: g49.flatMap fun g => g.2.flatMap fun r => r.2
def tsy : List Str := trms ++ [o "OPEN", o "CLOSE", o "NOT", o "END"]
theorem sym_facts : ∀ x ∈ syms, ((atI x.cps.toList 0).map fun c => S [c]) = some (o "$") ∧ (gRul.lookup x).isSome = true ∧ nt49 x = true ∨ ((atI x.cps.toList 0).isSome = true ∧ ((atI x.cps.toList 0).map fun c => S [c]) ≠ some (o "$") ∧ x ∈ tsy ∧ nt49 x = false) := by decide +kernel
theorem tsy_plain : ∀ x ∈ tsy, x ≠ o "END" → plainS x ∈ trms := by decide +kernel
theorem syms_len : ∀ x ∈ syms, x.length ≤ 20 := by decide +kernel
theorem cutLast (xs : List V) : cutV xs none (some (-1)) = xs.dropLast := by
  unfold cutV HT.sIx
  simp [List.dropLast_eq_take]
  omega
theorem nil_or_snoc {α : Type} : ∀ l : List α, l = [] ∨ ∃ r x, l = r ++ [x]
  | [] => .inl rfl
  | a :: l => .inr (by
    rcases nil_or_snoc l with rfl | ⟨r, x, rfl⟩
    · exact ⟨[], a, rfl⟩
    · exact ⟨a :: r, x, rfl⟩)
/-- the rows as they stand -/
theorem row_at {G : Hp} {ts : List V} {rows : List (Str × Str)} {x : V} (h : DrAll G ts (rows.map rowD)) (hx : x ∈ ts) : ∃ a rw, rw ∈ rows ∧ x = .ref a ∧ G a = some (.tup [.str rw.1, .str rw.2]) := by
  obtain ⟨i, hi⟩ := List.getElem?_of_mem hx
  obtain ⟨d, hd, hr⟩ := drAll_val h hi
  rw [List.getElem?_map] at hd
  obtain ⟨rw0, e1, rfl⟩ := Option.map_eq_some_iff.mp hd
  obtain ⟨a, xs, rfl, e2, e3⟩ := dr_tup hr
  obtain ⟨v1, r1, rfl, d1, e4⟩ := drAll_cons e3
  obtain ⟨v2, r2, rfl, d2, e5⟩ := drAll_cons e4
  obtain rfl := drAll_nil e5
  obtain rfl := dr_str d1
  obtain rfl := dr_str d2
  exact ⟨a, rw0, List.mem_of_getElem? e1, rfl, e2⟩
def plK : List (L2.Key × V) := [(.inr (o "OPEN"), .str (o "{")), (.inr (o "CLOSE"), .str (o "}")), (.inr (o "NOT"), .str (o "not"))]
theorem plain_get (x : Str) : (valV plK (.inr x)).getD (.str x) = .str (plainS x) := by
  unfold plK plainS
  by_cases h1 : x = o "OPEN"
  · rw [valV_pos (by rw [h1]), if_pos h1]; rfl
  rw [valV_neg (fun z => h1 (Sum.inr.inj z).symm), if_neg h1]
  by_cases h2 : x = o "CLOSE"
  · rw [valV_pos (by rw [h2]), if_pos h2]; rfl
  rw [valV_neg (fun z => h2 (Sum.inr.inj z).symm), if_neg h2]
  by_cases h3 : x = o "NOT"
  · rw [valV_pos (by rw [h3]), if_pos h3]; rfl
  rw [valV_neg (fun z => h3 (Sum.inr.inj z).symm), if_neg h3]
  rfl
theorem row_facts : ∀ g ∈ gRul, 0 < g.2.length ∧ g.2.length ≤ 20 ∧ ∀ r ∈ g.2, r.2.length ≤ 200 ∧ r.1.length ≤ 20 := by decide +kernel
theorem g49_facts : ∀ g ∈ g49, ∀ r ∈ g.2, r.2.length ≤ 20 := by decide +kernel
theorem lookup_mem {κ α : Type} [BEq κ] [LawfulBEq κ] {X : κ} {v : α} : ∀ {l : List (κ × α)}, l.lookup X = some v → (X, v) ∈ l
  | (Y, y) :: l, h => by
    by_cases e : (X == Y) = true
    · rw [List.lookup_cons, e] at h
      cases h
      rw [eq_of_beq e]
      exact List.mem_cons_self
    · rw [List.lookup_cons, Bool.eq_false_iff.mpr e] at h
      exact List.mem_cons_of_mem _ (lookup_mem h)
theorem words_in {X : Str} {rows : List (Str × Str)} {r : Str × Str} (h : gRul.lookup X = some rows) (hr : r ∈ rows) : (X, rows) ∈ gRul ∧ (Txt.words r.2).length ≤ 20 ∧ ∀ x ∈ Txt.words r.2, x ∈ syms := by
  have hm : (X, rows) ∈ gRul := lookup_mem h
  have h2 : (X, rows.map fun r => (r.1, Txt.words r.2)) ∈ g49 := by
    rw [← gRul_split]
    exact List.mem_map.mpr ⟨_, hm, rfl⟩
  have h3 : (r.1, Txt.words r.2) ∈ rows.map fun r => (r.1, Txt.words r.2) := List.mem_map.mpr ⟨r, hr, rfl⟩
  exact ⟨hm, g49_facts _ h2 _ h3, fun x hx => List.mem_cons_of_mem _ (List.mem_flatMap.mpr ⟨_, h2, List.mem_flatMap.mpr ⟨_, h3, hx⟩⟩)⟩
theorem lookup_map {κ α β : Type} [BEq κ] (f : α → β) (X : κ) : ∀ l : List (κ × α), (l.map fun g => (g.1, f g.2)).lookup X = (l.lookup X).map f
  | [] => rfl
  | (Y, y) :: l => by
    rw [List.map_cons, List.lookup_cons, List.lookup_cons, lookup_map f X l]
    cases X == Y <;> rfl
/-- the rules by their words -/
theorem g49_look (X : Str) : g49.lookup X = (gRul.lookup X).map fun rows => rows.map fun r => (r.1, Txt.words r.2) := by
  rw [← gRul_split, lookup_map (fun rows : List (Str × Str) => rows.map fun r => (r.1, Txt.words r.2))]
end Pk
set_option Elab.async false
set_option linter.all false
set_option maxRecDepth 100000
set_option maxHeartbeats 4000000
namespace Pk
open PySem PySem.Spec PyProof.Rows L2 SX GxR Tk
abbrev sTrm : Stmt := topS 68
abbrev NTrm : List Str := ["text"]
theorem scTrm : FnScope NTrm [] (defScope sTrm) := ⟨rfl, rfl, rfl, by decide +kernel, rfl, by decide +kernel, by decide +kernel⟩
section
variable {P : Program} {w : World} {K : PySem.W.Frag} {mg : Str → Option Value} {base : Heap}
def spTrm : Sp := fun vs H Q _ => vs = [] ∧ ∀ (ws : List Str) (p : Addr), (∀ x ∈ ws, x ∈ trms) → 1 ≤ ws.length → ws.length ≤ 60 → H p = none → Q (.ref p) (upd H p (.lst (ws.map V.str)))
theorem ok_trm {f : Addr} {fd : FuncData} {k : Nat} (F : Fun K "_law_terminals" "_law_terminals" sTrm f fd) : FnOk P w K mg base CX0 (k + 1) f fd [] spTrm := by
  refine F.ok scTrm (fun vs H Q E h => ?_) (fun cdv A outer s0 H vs Q E hr h => ?_)
  · obtain ⟨rfl, _⟩ := h
    rfl
  · obtain ⟨rfl, q⟩ := h
    have nd := scTrm.nd
    refine ⟨_, (pss_cons (ps_set (i := 0) nd rfl (.inl rfl) pe_str)
      (pss_cons (ps_set (i := 0) nd rfl (.inl rfl) (pe_op op_add_str (pv 0) pe_str))
      (pss_one (ps_ret (pe_words (pe_op op_add_str (pv 0) pe_str)))))), ?_⟩
    refine ⟨_, rfl, _, _, rfl, rfl, by rw [sizeLine_eq]; decide +kernel, ?_⟩
    refine ⟨_, rfl, _, _, rfl, rfl, by rw [sizeLine_eq]; decide +kernel, ?_⟩
    refine ⟨⟨_, rfl⟩, _, rfl, rfl, by rw [sizeLine_eq]; decide +kernel, fun p hp => ?_⟩
    exact q _ p (by decide +kernel) (by decide +kernel) (by decide +kernel) hp
end
end Pk
set_option Elab.async false
set_option linter.all false
set_option maxRecDepth 100000
set_option maxHeartbeats 4000000
namespace Pk
open PySem PySem.Spec PyProof.Rows L2 SX GxR Tk
abbrev sFR : Stmt := topS 65
abbrev sRul : Stmt := topS 66
abbrev NRul : List Str := ["rules", "sign", "more", "key"]
theorem scFR : FnScope [] [] (defScope sFR) := ⟨rfl, rfl, rfl, by decide +kernel, rfl, by decide +kernel, by decide +kernel⟩
theorem scRul : FnScope NRul [] (defScope sRul) := ⟨rfl, rfl, rfl, by decide +kernel, rfl, by decide +kernel, by decide +kernel⟩
/-- a dict of rules, all of it new -/
def spRulE (g : RulT) : Sp := fun vs H Q _ => vs = [] ∧ ∃ s c, StAt H s c ∧ ∀ p kvs G H', Sg G H' s c → (∀ b, G b ≠ none → H b = none) → Same H H' → H p = none → G p = none → H' p = some (.dK kvs) → DicG G kvs g → Q (.ref p) H'
theorem sg_nil {H : Hp} {s c : Addr} (h : StAt H s c) : Sg (fun _ => none) H s c := ⟨(fun b o e => nomatch e), h, rfl, rfl⟩
theorem val_none {kvs : List (L2.Key × V)} {k : L2.Key} (h : k ∉ kvs.map (·.1)) : valV kvs k = none := by
  unfold valV
  rw [List.find?_eq_none.mpr]
  · rfl
  · intro q hq
    simp
    exact fun z => h (List.mem_map.mpr ⟨q, hq, z⟩)
theorem val_of : ∀ {kvs : List (L2.Key × V)} {i : Nat} {k : L2.Key} {v : V}, (kvs.map (·.1)).Nodup → kvs[i]? = some (k, v) → valV kvs k = some v
  | p :: r, 0, k, v, _, e => by
    cases e
    exact valV_pos rfl
  | p :: r, i + 1, k, v, n, e => by
    rw [List.map_cons, List.nodup_cons] at n
    have e2 : r[i]? = some (k, v) := e
    rw [valV_neg fun z => n.1 (List.mem_map.mpr ⟨(k, v), List.mem_of_getElem? e2, z.symm⟩)]
    exact val_of n.2 e2
theorem nodup_r {a b : List (L2.Key × V)} (h : ((a ++ b).map (·.1)).Nodup) : (b.map (·.1)).Nodup := by
  rw [List.map_append, List.nodup_append] at h
  exact h.2.1
theorem nodup_at {a b : List L2.Key} {i : Nat} {k : L2.Key} (h : (a ++ b).Nodup) (e : b[i]? = some k) (z : k ∈ a ++ b.take i) : False := by
  rw [List.nodup_append] at h
  rcases List.mem_append.mp z with z | z
  · exact h.2.2 k z k (List.mem_of_getElem? e) rfl
  · obtain ⟨j, hj, ej⟩ := List.mem_take_iff_getElem.mp z
    have hi := (List.getElem?_eq_some_iff.mp e)
    obtain ⟨hi, ei⟩ := hi
    have hl := (List.pairwise_iff_getElem.mp h.2.1) j i (by omega) hi (by omega)
    exact hl (by rw [ej, ei])
section
variable {P : Program} {w : World} {K : PySem.W.Frag} {mg : Str → Option Value} {base : Heap}
theorem ok_fr {f : Addr} {fd : FuncData} {k : Nat} (F : Fun K "_law_first_rules" "_law_first_rules" sFR f fd) : FnOk P w K mg base CX0 (k + 1) f fd [] (spRulE gA) := by
  refine F.ok scFR (fun vs H Q E h => ?_) (fun cdv A outer s0 H vs Q E hr h => ?_)
  · obtain ⟨rfl, _⟩ := h
    rfl
  · obtain ⟨rfl, s, c, hS, q⟩ := h
    have nd := scFR.nd
    refine ⟨_, (pss_one (ps_ret (pe_disp (pps_cons pe_str (pe_lst (pa_cons (pe_tup (pa_cons pe_str (pa_cons pe_str pa_nil))) pa_nil)) (pps_cons pe_str (pe_lst (pa_cons (pe_tup (pa_cons pe_str (pa_cons pe_str pa_nil))) (pa_cons (pe_tup (pa_cons pe_str (pa_cons pe_str pa_nil))) pa_nil))) (pps_cons pe_str (pe_lst (pa_cons (pe_tup (pa_cons pe_str (pa_cons pe_str pa_nil))) (pa_cons (pe_tup (pa_cons pe_str (pa_cons pe_str pa_nil))) pa_nil))) (pps_cons pe_str (pe_lst (pa_cons (pe_tup (pa_cons pe_str (pa_cons pe_str pa_nil))) (pa_cons (pe_tup (pa_cons pe_str (pa_cons pe_str pa_nil))) pa_nil))) (pps_cons pe_str (pe_lst (pa_cons (pe_tup (pa_cons pe_str (pa_cons pe_str pa_nil))) (pa_cons (pe_tup (pa_cons pe_str (pa_cons pe_str pa_nil))) pa_nil))) (pps_cons pe_str (pe_lst (pa_cons (pe_tup (pa_cons pe_str (pa_cons pe_str pa_nil))) (pa_cons (pe_tup (pa_cons pe_str (pa_cons pe_str pa_nil))) pa_nil))) (pps_cons pe_str (pe_lst (pa_cons (pe_tup (pa_cons pe_str (pa_cons pe_str pa_nil))) (pa_cons (pe_tup (pa_cons pe_str (pa_cons pe_str pa_nil))) pa_nil))) (pps_cons pe_str (pe_lst (pa_cons (pe_tup (pa_cons pe_str (pa_cons pe_str pa_nil))) (pa_cons (pe_tup (pa_cons pe_str (pa_cons pe_str pa_nil))) pa_nil))) (pps_cons pe_str (pe_lst (pa_cons (pe_tup (pa_cons pe_str (pa_cons pe_str pa_nil))) (pa_cons (pe_tup (pa_cons pe_str (pa_cons pe_str pa_nil))) pa_nil))) (pps_cons pe_str (pe_lst (pa_cons (pe_tup (pa_cons pe_str (pa_cons pe_str pa_nil))) (pa_cons (pe_tup (pa_cons pe_str (pa_cons pe_str pa_nil))) (pa_cons (pe_tup (pa_cons pe_str (pa_cons pe_str pa_nil))) pa_nil)))) (pps_cons pe_str (pe_lst (pa_cons (pe_tup (pa_cons pe_str (pa_cons pe_str pa_nil))) (pa_cons (pe_tup (pa_cons pe_str (pa_cons pe_str pa_nil))) (pa_cons (pe_tup (pa_cons pe_str (pa_cons pe_str pa_nil))) pa_nil)))) (pps_cons pe_str (pe_lst (pa_cons (pe_tup (pa_cons pe_str (pa_cons pe_str pa_nil))) (pa_cons (pe_tup (pa_cons pe_str (pa_cons pe_str pa_nil))) pa_nil))) (pps_cons pe_str (pe_lst (pa_cons (pe_tup (pa_cons pe_str (pa_cons pe_str pa_nil))) (pa_cons (pe_tup (pa_cons pe_str (pa_cons pe_str pa_nil))) pa_nil))) (pps_cons pe_str (pe_lst (pa_cons (pe_tup (pa_cons pe_str (pa_cons pe_str pa_nil))) (pa_cons (pe_tup (pa_cons pe_str (pa_cons pe_str pa_nil))) pa_nil))) pps_nil)))))))))))))) (by rfl) (by rfl) (fun z => by cases z) (by decide)))), ?_⟩
    unfold tRet
    refine disp_z (gs := gA) ?_ (Same.refl _) (sg_nil hS) (by decide +kernel) (by decide +kernel) fun p kvs G' H' C g t hp hG hp' hd => ?_
    · unfold gA
      repeat' (first | exact ZL.nil | refine ZL.cons ?_ ?_ | refine ZE.lst (ds := List.map rowD _) ?_ (by decide) | refine ZE.tup ?_ (by decide) | exact ZEs.nil | refine ZEs.cons ?_ ?_ | exact ZE.str _)
    · exact q p kvs G' H' C (fun b hb => (g.new b hb).resolve_left (fun z => z rfl)) t hp hG hp' hd
theorem ok_rul {f : Addr} {fd : FuncData} (F : Fun K "_law_rules" "_law_rules" sRul f fd) (D1 : Df P w K mg base CX0 1 "_law_first_rules" [] (spRulE gA)) : FnOk P w K mg base CX0 2 f fd [] (spRulE gRul) := by
  obtain ⟨f1, fd1, G1, g1, k1, b1⟩ := D1.ex
  refine F.ok scRul (fun vs H Q E h => ?_) (fun cdv A outer s0 H vs Q E hr h => ?_)
  · obtain ⟨rfl, _⟩ := h
    rfl
  · obtain ⟨rfl, s, c, hS, q⟩ := h
    have nd := scRul.nd
    refine ⟨_, (pss_cons (ps_set (i := 0) nd rfl (.inl rfl) (pe_call0 G1 hr (by rfl) g1 k1 b1 .nil pass0))
      (pss_cons (ps_set (i := 2) nd rfl (.inl rfl) (pe_disp18 (pl_cons pe_str (pe_lst (pa_cons (pe_tup (pa_cons pe_str (pa_cons pe_str pa_nil))) (pa_cons (pe_tup (pa_cons pe_str (pa_cons pe_str pa_nil))) (pa_cons (pe_tup (pa_cons pe_str (pa_cons pe_str pa_nil))) (pa_cons (pe_tup (pa_cons pe_str (pa_cons pe_str pa_nil))) (pa_cons (pe_tup (pa_cons pe_str (pa_cons pe_str pa_nil))) (pa_cons (pe_tup (pa_cons pe_str (pa_cons pe_str pa_nil))) (pa_cons (pe_tup (pa_cons pe_str (pa_cons pe_str pa_nil))) (pa_cons (pe_tup (pa_cons pe_str (pa_cons pe_str pa_nil))) pa_nil))))))))) (pl_cons pe_str (pe_lst (pa_cons (pe_tup (pa_cons pe_str (pa_cons pe_str pa_nil))) pa_nil)) (pl_cons pe_str (pe_op op_cat (pe_lc (own := [("sign", 1)]) (g := gName 1) (tt := tYes) rfl nd (pi_list (pe_lst (pa_cons pe_str (pa_cons pe_str (pa_cons pe_str (pa_cons pe_str (pa_cons pe_str pa_nil))))))) (blkOk_by (own := [("sign", 1)]) (N := NRul) (sc := defScope sRul) (by decide +kernel)) (fun _ _ _ _ _ => (pg_name (i := 1) nd rfl (Or.inl rfl))) (fun _ _ _ _ _ => pts_nil) (fun _ _ _ _ _ => (pe_tup (pa_cons (pv 1) (pa_cons (pe_op op_add_str (pv 1) pe_str) pa_nil))))) (pe_lst (pa_cons (pe_tup (pa_cons pe_str (pa_cons pe_str pa_nil))) pa_nil))) (pl_cons pe_str (pe_lst (pa_cons (pe_tup (pa_cons pe_str (pa_cons pe_str pa_nil))) (pa_cons (pe_tup (pa_cons pe_str (pa_cons pe_str pa_nil))) (pa_cons (pe_tup (pa_cons pe_str (pa_cons pe_str pa_nil))) (pa_cons (pe_tup (pa_cons pe_str (pa_cons pe_str pa_nil))) pa_nil))))) (pl_cons pe_str (pe_lst (pa_cons (pe_tup (pa_cons pe_str (pa_cons pe_str pa_nil))) (pa_cons (pe_tup (pa_cons pe_str (pa_cons pe_str pa_nil))) pa_nil))) (pl_cons pe_str (pe_lst (pa_cons (pe_tup (pa_cons pe_str (pa_cons pe_str pa_nil))) (pa_cons (pe_tup (pa_cons pe_str (pa_cons pe_str pa_nil))) pa_nil))) (pl_cons pe_str (pe_lst (pa_cons (pe_tup (pa_cons pe_str (pa_cons pe_str pa_nil))) (pa_cons (pe_tup (pa_cons pe_str (pa_cons pe_str pa_nil))) pa_nil))) (pl_cons pe_str (pe_lst (pa_cons (pe_tup (pa_cons pe_str (pa_cons pe_str pa_nil))) (pa_cons (pe_tup (pa_cons pe_str (pa_cons pe_str pa_nil))) (pa_cons (pe_tup (pa_cons pe_str (pa_cons pe_str pa_nil))) pa_nil)))) (pl_cons pe_str (pe_lst (pa_cons (pe_tup (pa_cons pe_str (pa_cons pe_str pa_nil))) (pa_cons (pe_tup (pa_cons pe_str (pa_cons pe_str pa_nil))) pa_nil))) (pl_cons pe_str (pe_lst (pa_cons (pe_tup (pa_cons pe_str (pa_cons pe_str pa_nil))) (pa_cons (pe_tup (pa_cons pe_str (pa_cons pe_str pa_nil))) pa_nil))) (pl_cons pe_str (pe_lst (pa_cons (pe_tup (pa_cons pe_str (pa_cons pe_str pa_nil))) (pa_cons (pe_tup (pa_cons pe_str (pa_cons pe_str pa_nil))) pa_nil))) (pl_cons pe_str (pe_lst (pa_cons (pe_tup (pa_cons pe_str (pa_cons pe_str pa_nil))) pa_nil)) (pl_cons pe_str (pe_lst (pa_cons (pe_tup (pa_cons pe_str (pa_cons pe_str pa_nil))) (pa_cons (pe_tup (pa_cons pe_str (pa_cons pe_str pa_nil))) (pa_cons (pe_tup (pa_cons pe_str (pa_cons pe_str pa_nil))) pa_nil)))) (pl_cons pe_str (pe_lst (pa_cons (pe_tup (pa_cons pe_str (pa_cons pe_str pa_nil))) (pa_cons (pe_tup (pa_cons pe_str (pa_cons pe_str pa_nil))) pa_nil))) (pl_cons pe_str (pe_lst (pa_cons (pe_tup (pa_cons pe_str (pa_cons pe_str pa_nil))) (pa_cons (pe_tup (pa_cons pe_str (pa_cons pe_str pa_nil))) (pa_cons (pe_tup (pa_cons pe_str (pa_cons pe_str pa_nil))) (pa_cons (pe_tup (pa_cons pe_str (pa_cons pe_str pa_nil))) (pa_cons (pe_tup (pa_cons pe_str (pa_cons pe_str pa_nil))) pa_nil)))))) (pl_cons pe_str (pe_lst (pa_cons (pe_tup (pa_cons pe_str (pa_cons pe_str pa_nil))) (pa_cons (pe_tup (pa_cons pe_str (pa_cons pe_str pa_nil))) pa_nil))) (pl_cons pe_str (pe_lst (pa_cons (pe_tup (pa_cons pe_str (pa_cons pe_str pa_nil))) (pa_cons (pe_tup (pa_cons pe_str (pa_cons pe_str pa_nil))) pa_nil))) (pl_last pe_str (pe_lst (pa_cons (pe_tup (pa_cons pe_str (pa_cons pe_str pa_nil))) (pa_cons (pe_tup (pa_cons pe_str (pa_cons pe_str pa_nil))) pa_nil))))))))))))))))))))) rfl))
      (pss_cons (ps_lock (ps_for PassesOwn.never rfl (pi_keys (pv 2)) (pg_name (i := 3) nd rfl (.inl rfl))
        (pss_one (ps_dput (hu_of hr) (pv 0) (pv 3) (pe_dget (hu_of hr) (pv 2) (pv 3) (fun _ _ => rfl)) rfl))))
      (pss_one (ps_ret (pv 0)))))), ?_⟩
    refine ⟨rfl, s, c, hS, fun d1 kvs1 Ga H1 C1 n1 t1 hd1 hGa ed1 D1 => ?_⟩
    unfold gName
    dsimp only
    refine setany_rd ?_
    refine disp18_z (gs := gB1) (X := gB2.1) (rows := gB2.2) ?_ ?_ (Same.refl _) C1 (by decide +kernel) (by decide +kernel) (by decide +kernel) fun d2 kvs2 Gb H2 C2 g2 t2 hd2 hGb ed2 D2 => ?_
    · unfold gB1
      repeat' (first | exact ZL.nil | refine ZL.cons ?_ ?_ | refine ZE.lst (ds := List.map rowD _) ?_ (by decide) | refine ZE.tup ?_ (by decide) | exact ZEs.nil | refine ZEs.cons ?_ ?_ | exact ZE.str _)
      intro G H3 s3 c3 Q3 g3 C3 q3
      have er : (([o "+", o "-", o "&", o "|", o "^"].map fun x => (x, x ++ o " $operand")) ++ [(o "", o "")] : List (Str × Str)) = [(o "+", o "+ $operand"), (o "-", o "- $operand"), (o "&", o "& $operand"), (o "|", o "| $operand"), (o "^", o "^ $operand"), (o "", o "")] := by decide +kernel
      rw [← er] at q3
      refine ⟨(by show 5 ≤ sizeLine; decide), fun a ha => ?_⟩
      have gA0 : G a = none := C3.sub.free ha
      have na := C3.st.neS ha
      refine ⟨a, rfl, ⟨_, SqL.of upd_same⟩, fun D hD => ?_⟩
      have hD3 : H3 D = none := (same_new ha).free hD
      have gD0 : G D = none := C3.sub.free hD3
      have nD := C3.st.neS hD3
      refine L2.lc_list (g := gName 1) (K := K) (a := a) (xs := [V.str (o "+"), V.str (o "-"), V.str (o "&"), V.str (o "|"), V.str (o "^")]) (fun i Hx => ∃ Gx acc, Sg Gx Hx s3 c3 ∧ Gr G Gx H3 ∧ Gx D = none ∧ Same (upd H3 a (.lst [V.str (o "+"), V.str (o "-"), V.str (o "&"), V.str (o "|"), V.str (o "^")])) Hx ∧ Hx D = some (.lst acc) ∧ DrAll Gx acc ((([o "+", o "-", o "&", o "|", o "^"].map fun x => (x, x ++ o " $operand")).take i).map rowD))
        ⟨G, [], (C3.set gA0 na).set gD0 nD, Gr.refl _ _, gD0, same_new hD, upd_same, .nil⟩ (fun i Hx _ ⟨_, _, _, _, _, k, _⟩ => SqL.of (k _ _ upd_same)) ?_ ?_
      · rintro i x Hx hx ⟨Gx, acc, C4, g4, gD, t4, eD, dA⟩
        rw [show [V.str (o "+"), V.str (o "-"), V.str (o "&"), V.str (o "|"), V.str (o "^")] = [o "+", o "-", o "&", o "|", o "^"].map V.str from rfl, List.getElem?_map] at hx
        obtain ⟨sg, hsg, rfl⟩ := Option.map_eq_some_iff.mp hx
        have hlen : sg.length + (o " $operand").length ≤ sizeLine := (show ∀ x ∈ [o "+", o "-", o "&", o "|", o "^"], x.length + (o " $operand").length ≤ sizeLine by rw [sizeLine_eq]; decide +kernel) sg (List.mem_of_getElem? hsg)
        refine ⟨rfl, _, rfl, _, rfl, _, _, rfl, rfl, hlen, (by show 2 ≤ sizeLine; decide), fun p hp => ?_⟩
        have nDp : D ≠ p := ne_of_none eD hp
        have hGp : Gx p = none := C4.sub.free hp
        have la := drAll_len dA
        rw [List.length_map] at la
        have lb : (([o "+", o "-", o "&", o "|", o "^"].map fun x => (x, x ++ o " $operand")).take i).length ≤ 5 := by rw [List.length_take]; exact Nat.min_le_right _ _
        refine ⟨acc, by rw [upd_ne nDp]; exact eD, small1000 (by rw [la]; omega), upd Gx p (.tup [.str sg, .str (sg ++ o " $operand")]), acc ++ [.ref p], (C4.new hp).set (by rw [upd_ne nDp]; exact gD) nD, ⟨g4.sub.trans (same_new2 hGp), fun b hb => ?_⟩, by rw [upd_ne nDp]; exact gD, fun b ob e => ?_, upd_same, ?_⟩
        · by_cases hbp : b = p
          · rw [hbp]
            exact .inr ((same_new ha).free (t4.free hp))
          · rw [upd_ne hbp] at hb
            exact g4.new b hb
        · have n5 : b ≠ D := ne_of_none e hD
          rw [upd_ne n5, upd_ne (ne_of_none (t4 _ _ e) hp)]
          exact t4 _ _ e
        · rw [List.take_add_one, List.getElem?_map, hsg, List.map_append]
          exact drAll_app (drAll_sub (same_new2 hGp) dA) (.cons (.tup upd_same (.cons (.str _) (.cons (.str _) .nil))) .nil)
      · rintro Hx ⟨Gx, acc, C4, g4, gD, t4, eD, dA⟩
        refine ⟨(by show 2 ≤ sizeLine; decide), fun p hp => ⟨(by show 1 ≤ sizeLine; decide), fun r hr => ?_⟩⟩
        have nDp : D ≠ p := ne_of_none eD hp
        have hGp : Gx p = none := C4.sub.free hp
        have C5 := C4.new (o := .tup [.str (o ""), .str (o "")]) hp
        have la := drAll_len dA
        rw [List.length_map] at la
        have la2 : acc.length = 5 := la
        have e1 : (upd Hx p (.tup [.str (o ""), .str (o "")])) D = some (.lst acc) := by rw [upd_ne nDp]; exact eD
        have nDr : D ≠ r := ne_of_none e1 hr
        have hGr := C5.sub.free hr
        have C6 := C5.set (o := .lst [.ref p]) hGr (C5.st.neS hr)
        refine ⟨D, r, acc, [.ref p], rfl, rfl, by rw [upd_ne nDr]; exact e1, upd_same, Nat.le_of_lt (small1000 (by rw [la2]; show 6 ≤ 1000; decide)), fun z hz => ?_⟩
        have hGz := C6.sub.free hz
        have k3 : Same H3 Hx := (same_new ha).trans t4
        refine q3 (.ref z) (upd (upd Gx p (.tup [.str (o ""), .str (o "")])) z (.lst (acc ++ [.ref p]))) _ (C6.new hz) ⟨(g4.sub.trans (same_new2 hGp)).trans (same_new2 hGz), fun b hb => ?_⟩ (fun b ob e => ?_) (.lst upd_same (drAll_sub (same_new2 hGz) ?_))
        · by_cases hbz : b = z
          · rw [hbz]
            refine .inr (k3.free ((same_new hp).free ((same_new hr).free hz)))
          rw [upd_ne hbz] at hb
          by_cases hbp : b = p
          · rw [hbp]
            exact .inr (k3.free hp)
          · rw [upd_ne hbp] at hb
            exact g4.new b hb
        · have e2 := (same_new (o := .lst [.ref p]) hr) _ _ ((same_new (o := .tup [.str (o ""), .str (o "")]) hp) _ _ (k3 _ _ e))
          exact same_new hz _ _ e2
        · rw [List.map_append]
          exact drAll_app (drAll_sub (same_new2 hGp) dA) (.cons (.tup upd_same (.cons (.str _) (.cons (.str _) .nil))) .nil)
    · unfold gB2
      repeat' (first | exact ZL.nil | refine ZL.cons ?_ ?_ | refine ZE.lst (ds := List.map rowD _) ?_ (by decide) | refine ZE.tup ?_ (by decide) | exact ZEs.nil | refine ZEs.cons ?_ ?_ | exact ZE.str _)
    have hGb1 : Gb d1 = none := g2.free hGa (by rw [ed1]; exact fun z => nomatch z)
    have n12 : d1 ≠ d2 := ne_of_none ed1 hd2
    have ed12 := t2 _ _ ed1
    have D2 : DicG Gb kvs2 gB := D2
    have DR : DicG Gb (kvs1 ++ kvs2) gRul := (D1.sub g2.sub).app D2
    have nk := DR.nodup gRul_nodup
    have l1 : kvs1.length = 14 := D1.len.trans gRul_len.1
    have l2 : kvs2.length = 18 := D2.len.trans gRul_len.2.1
    refine ⟨d2, .dK kvs2, ed2, trivial, fun od => ?_⟩
    refine ⟨_, rfl, d2, od, rfl, .inl ⟨kvs2, upd_same, for_it (g := gName 3) (tb := sDPut (tVar 0) (tVar 3) (tDGet (tVar 2) (tVar 3))) (walk_keys (d := d2) (o := od) (kvs := kvs2)) (fun i σ Hx => (∃ o3, σ = [some (.ref d1), none, some (.ref d2), o3]) ∧ Hx = upd (upd H2 d2 (.frz od (.dK kvs2))) d1 (.dK (kvs1 ++ kvs2.take i))) ⟨⟨none, rfl⟩, ?_⟩ (fun i σ Hx _ h => ?_) ?_ ?_⟩⟩
    · funext b
      by_cases hb : b = d1
      · rw [hb, upd_same, upd_ne n12, ed12, List.take_zero, List.append_nil]
      · rw [upd_ne hb]
    · rw [h.2, upd_ne (Ne.symm n12), upd_same]
    · rintro i x σ Hx H9 hi ⟨⟨o3, rfl⟩, rfl⟩ ⟨rfl, k, v, ek, rfl⟩
      have hv := val_of (nodup_r nk) ek
      have hn : valV (kvs1 ++ kvs2.take i) k = none := val_none fun z => ?_
      · refine ⟨_, rfl, _, rfl, d2, v, rfl, .inl ⟨kvs2, k, .inr ⟨od, by rw [upd_ne (Ne.symm n12), upd_same]⟩, rfl, hv.symm⟩, _, rfl, _, rfl, d1, _, rfl, .inl ⟨_, k, upd_same, rfl, small1000 (by rw [List.length_append, List.length_take]; omega), rfl⟩, ⟨_, rfl⟩, ?_⟩
        rw [upd_upd, L2.putK_new v hn, List.append_assoc, List.take_add_one, ek]
        rfl
      · rw [List.map_append, List.map_take] at z
        rw [List.map_append] at nk
        have h1 : (kvs2.map (·.1))[i]? = some k := by rw [List.getElem?_map, ek]; rfl
        exact nodup_at nk h1 z
    · rintro σ Hx ⟨⟨o3, rfl⟩, rfl⟩
      refine ⟨by rw [upd_ne (Ne.symm n12), upd_same], _, rfl, ?_⟩
      have eH : upd (upd (upd H2 d2 (.frz od (.dK kvs2))) d1 (.dK (kvs1 ++ kvs2.take kvs2.length))) d2 (.dK kvs2) = upd H2 d1 (.dK (kvs1 ++ kvs2)) := by
        rw [List.take_length]
        funext b
        by_cases hb : b = d2
        · rw [hb, upd_same, upd_ne (Ne.symm n12), ed2]
        · rw [upd_ne hb]
          by_cases hb1 : b = d1
          · rw [hb1, upd_same, upd_same]
          · rw [upd_ne hb1, upd_ne hb1, upd_ne hb]
      rw [eH]
      refine q d1 (kvs1 ++ kvs2) Gb _ (C2.set hGb1 (hS.neS hd1)) (fun b hb => ?_) (fun b ob e => ?_) hd1 hGb1 upd_same DR
      · rcases g2.new b hb with z | z
        · exact n1 b z
        · exact t1.free z
      · rw [upd_ne (ne_of_none e hd1)]
        exact t2 _ _ (t1 _ _ e)
end
end Pk
set_option Elab.async false
set_option linter.all false
set_option maxRecDepth 100000
set_option maxHeartbeats 4000000
namespace GxR
open PySem L2 PyProof.Rows
open Sem (wp)
variable {X : Cx} {e k : Expr} {pos p2 : Pos} {te tk : TE}
/-- xs[::-1], a new list -/
def tRev (K : PySem.W.Frag) (te tk : TE) : TE := fun σ H Q => te σ H fun x H1 => tk σ H1 fun y H2 => y = .int (-1) ∧ ∃ a xs, x = .ref a ∧ SqL K H2 a xs ∧ ∀ p, H2 p = none → Q (.ref p) (upd H2 p (.lst xs.reverse))
theorem paired_rev {α β : Type} {R : α → β → Prop} : ∀ {xs : List α} {ys : List β}, Paired R xs ys → ∀ {as : List α} {bs : List β}, Paired R as bs → Paired R (xs.reverseAux as) (ys.reverseAux bs)
  | _, _, .nil, _, _, h => h
  | _, _, .cons a r, _, _, h => paired_rev r (.cons a h)
theorem pe_rev (he : PE X e te) (hk : PE X k tk) : PE X (.Subscript e (.Slice none none (some k) p2) pos) (tRev X.K te tk) := by
  refine ⟨fun pins s σ H Q I h => ?_⟩
  refine Subscript_ (thn (he.run pins s σ H _ I h) fun v s1 ⟨x, H1, I1, r1, q1⟩ => ?_)
  refine wpAny_Slice ?_
  rw [evalPart_none]
  refine wpAny_pure (wpAny_pure ?_)
  rw [evalPart_some]
  refine thn (hk.run pins s1 σ H1 _ I1 q1) fun u s2 ⟨y, H2, I2, r2, ey, a, xs, ex, hx, q2⟩ => ?_
  subst ey ex
  obtain ⟨t, rfl⟩ := r2
  cases r1
  have I4 : Inv X pins σ H2 { s2 with heap := s2.heap.push { cls := .type "slice", data := .fields #[.none, .none, .int (-1) t] } } := I2.kept (t' := s2.toks) fun b ob q => Heap.get?_push_of_some _ q
  obtain ⟨its, r, ht, hz⟩ := I4.list hx
  show wpAny (model X.prog X.w) X.A (subscriptTail e (.Slice none none (some k) p2) (.ref a) (.ref s2.heap.objs.size)) (EP X pins σ Q) X.xe { s2 with heap := s2.heap.push { cls := .type "slice", data := .fields #[.none, .none, .int (-1) t] } }
  refine tail_any (ops := [.ref a, .ref s2.heap.objs.size]) ht.isList.typeIs slot_list_getitem.lookup ?_ (by with_unfolding_all rfl)
  refine wpAny_getItem_list_slice (st := some (-1)) ht.isList (Heap.IsSliceOf.new ..) .none .none (.int (-1) t) (by decide) ?_ (by rw [List.size_toArray, ← r.length]; exact hz)
  rw [PySem.W.krv_pick]
  refine ⟨.ref (s2.heap.push { cls := .type "slice", data := .fields #[.none, .none, .int (-1) t] }).objs.size, _, I4.laid (t' := s2.toks) (o := .lst xs.reverse) (fun b ob q => Heap.get?_push_of_some _ q) (Nat.le_refl _) ?_, rfl, q2 _ (I4.hok.fresh (Nat.le_refl _))⟩
  have rr : Vals xs.reverse its.reverse := paired_rev r .nil
  exact ⟨by rw [List.length_reverse]; exact hz, _, 0, rr, Heap.get?_push_size _ rfl⟩
end GxR
set_option Elab.async false
set_option linter.all false
set_option maxRecDepth 100000
set_option maxHeartbeats 4000000
namespace Pk
open PySem PySem.Spec PyProof.Rows L2 SX GxR Tk
abbrev sSen : Stmt := topS 67
abbrev NSen : List Str := ["state", "rules", "stack", "found", "left", "k", "symbol", "rows", "row", "plain"]
theorem scSen : FnScope NSen ["state", "rules"] (defScope sSen) := ⟨rfl, rfl, rfl, by decide +kernel, rfl, by decide +kernel, by decide +kernel⟩
/-- the rules stand in the part G -/
def RulG (G : Hp) (d : Addr) : Prop := ∃ kvs, G d = some (.dK kvs) ∧ DicG G kvs gRul
theorem RulG.sub {G H : Hp} {d : Addr} (k : Same G H) (h : RulG G d) : RulG H d := by
  obtain ⟨kvs, h1, h2⟩ := h
  exact ⟨kvs, k _ _ h1, h2.sub k⟩
/-- a list of the def's own -/
structure Lf (G H : Hp) (s c p : Addr) : Prop where
  g : G p = none
  h : H p = none
  n : p ≠ s ∧ p ≠ c
theorem Lf.of {G H H' : Hp} {s c p : Addr} (C : Sg G H' s c) (k : Kp s c H H') (st : StAt H s c) (h : H' p = none) : Lf G H s c p := by
  have n := C.st.neS h
  refine ⟨C.sub.free h, ?_, n⟩
  cases e : H p with
  | none => rfl
  | some o => rw [k p o n.1 n.2 e] at h; cases h
theorem Lf.kp {G H H' : Hp} {s c p : Addr} {o : HO} (L : Lf G H s c p) (k : Kp s c H H') : Kp s c H (upd H' p o) := fun b u n1 n2 e => by
  rw [upd_ne (ne_of_none e L.h)]
  exact k b u n1 n2 e
/-- what stands between two steps -/
def SnI (G H : Hp) (s c d : Addr) (i : Nat) (σ : L2.St) (H' : Hp) : Prop := ∃ (l f2 : Addr) (st fd : List Str) (left : Int) (o5 o6 o7 o8 : Option V), σ = [some (.ref s), some (.ref d), some (.ref l), some (.ref f2), some (.int left), o5, o6, o7, o8, none] ∧ Sg G H' s c ∧ Kp s c H H' ∧ Lf G H s c l ∧ Lf G H s c f2 ∧ l ≠ f2 ∧
  H' l = some (.lst (st.map V.str)) ∧ H' f2 = some (.lst (fd.map V.str)) ∧ (∀ x ∈ st, x ∈ syms) ∧ (∀ x ∈ fd, x ∈ tsy) ∧ st.length ≤ 1 + 20 * i ∧ fd.length ≤ i
def spSen : Sp := fun vs H Q _ => ∃ (s c d : Addr) (G : Hp), vs = [.ref s, .ref d] ∧ Sg G H s c ∧ RulG G d ∧ ∀ (H' : Hp) (p : Addr) (ws : List Str), Sg G H' s c → Kp s c H H' → (∀ x ∈ ws, x ∈ trms) → ws.length ≤ 6000 → H p = none → H' p = some (.lst (ws.map V.str)) → Q (.ref p) H'
section
variable {P : Program} {w : World} {K : PySem.W.Frag} {mg : Str → Option Value} {base : Heap}
theorem ok_sen {f : Addr} {fd : FuncData} (F : Fun K "_law_sentence" "_law_sentence" sSen f fd) (T : Bl mg) (Dr1 : Df P w K mg base CX0 1 "_law_draw" ["state", "many"] spDraw) (Dr2 : Df P w K mg base CX0 2 "_law_pick" ["state", "row"] (spPick K)) : FnOk P w K mg base CX0 3 f fd ["state", "rules"] spSen := by
  obtain ⟨f1, fd1, G1, g1, k1, b1⟩ := Dr1.ex
  obtain ⟨f2, fd2, G2, g2, k2, b2⟩ := Dr2.ex
  refine F.ok scSen (fun vs H Q E h => ?_) (fun cdv A outer s0 H vs Q E hr h => ?_)
  · obtain ⟨s, c, d, G, rfl, _⟩ := h
    rfl
  · obtain ⟨s, c, d, G, rfl, C0, hR, q⟩ := h
    have nd := scSen.nd
    refine ⟨_, (pss_cons (ps_set (i := 2) nd rfl (.inl rfl) (pe_lst (pa_cons pe_str pa_nil)))
      (pss_cons (ps_set (i := 3) nd rfl (.inl rfl) (pe_lst pa_nil))
      (pss_cons (ps_set (i := 4) nd rfl (.inl rfl) (pe_op op_add pe_int (pe_call G1 (hr.mono (by omega)) (by rfl) g1 k1 b1 .nil pass0 (pa_cons (pv 0) (pa_cons pe_int pa_nil)))))
      (C8.pss_cut (ps_for PassesOwn.never rfl (pi_range1 (by rfl) T.zRange (pa_cons pe_int pa_nil)) (pg_name (i := 5) nd rfl (.inl rfl))
        (pss_cons (ps_if (pt_cmpR op_eq (pe_callB call_len_seq (by rfl) T.zLen PySem.boot_len (pa_cons (pv 2) pa_nil)) pe_int (nomark _)) (pss_one ps_break) pss_nil)
        (pss_cons (ps_set (i := 6) nd rfl (.inl rfl) (pe_bm0 PySem.F.plainAttrs_list PySem.F.slot_list_pop PySem.F.type_list_pop mt_pop (pv 2)))
        (pss_one (ps_if (pt_cmpR op_eq (pe_ix ix_str (pv 6) pe_int (fun _ _ => rfl)) pe_str (nomark _)) (pss_cons (ps_set (i := 7) nd rfl (.inl rfl) (pe_dget (hu_of hr) (pv 1) (pv 6) (fun _ _ => rfl)))
          (pss_cons (ps_set (i := 8) nd rfl (.inl rfl) (pe_ix ix_list (pv 7) (pe_un un_neg pe_int) (fun _ _ => rfl)))
          (C8.pss_cut (ps_if (PW.pt (pw_and (pt_cmpR op_gt (pv 4) pe_int (nomark _)) (pw_and1 (pt_cmpR op_ne (pe_ix ix_tup (pv 8) pe_int (fun _ _ => rfl)) pe_str (nomark _))))) (pss_one (ps_set (i := 8) nd rfl (.inl rfl) (pe_call G2 hr (by rfl) g2 k2 b2 .nil pass0 (pa_cons (pv 0) (pa_cons (pv 7) pa_nil))))) (pss_one (ps_if (PW.pt (pw_and (pt_cmpR op_gt (pv 4) pe_int (nomark _)) (pw_and (pt_cmpR op_gt (pe_callB call_len_seq (by rfl) T.zLen PySem.boot_len (pa_cons (pv 7) pa_nil)) pe_int (nomark _)) (pw_and1 (pt_cmpR op_gt (pe_call G1 (hr.mono (by omega)) (by rfl) g1 k1 b1 .nil pass0 (pa_cons (pv 0) (pa_cons pe_int pa_nil))) pe_int (nomark _)))))) (pss_one (ps_set (i := 8) nd rfl (.inl rfl) (pe_call G2 hr (by rfl) g2 k2 b2 .nil pass0 (pa_cons (pv 0) (pa_cons (pe_slice sl_list (pv 7) po_none (po_some (pe_un un_neg pe_int))) pa_nil))))) pss_nil)))
          (pss_cons (ps_set (i := 4) nd rfl (.inl rfl) (pe_op op_sub (pv 4) pe_int))
          (pss_one (ps_set (i := 2) nd rfl (.inl rfl) (pe_op op_cat (pv 2) (pe_rev (pe_words (pe_ix ix_tup (pv 8) pe_int (fun _ _ => rfl))) (pe_un un_neg pe_int))))))))) (pss_one (ps_expr (pe_bm PySem.F.plainAttrs_list PySem.F.slot_list_append PySem.F.type_list_append mt_append (pv 3) (pa_cons (pv 6) pa_nil)))))))))
      (pss_cons (ps_set (i := 9) nd rfl (.inr rfl) (pe_disp (pps_cons pe_str pe_str (pps_cons pe_str pe_str (pps_cons pe_str pe_str pps_nil))) (by rfl) (by rfl) (fun z => by cases z) (by decide)))
      (pss_one (ps_ret (pe_lc (own := [("symbol", 6)]) (g := gName 6) rfl nd (pi_list (pv 3)) (blkOk_by (own := [("symbol", 6)]) (N := NSen) (sc := defScope sSen) (by decide +kernel)) (fun _ _ _ _ _ => (pg_name (i := 6) nd rfl (Or.inl rfl))) (fun _ _ _ _ _ => (pts_one (pt_cmpR op_ne (pv 6) pe_str (nomark _)))) (fun _ _ _ _ _ => (pe_dget2 (hu_of hr) (pv 9) (pv 6) (pv 6) ⟨rfl, rfl, rfl, rfl⟩)))))))))), ?_⟩
    have hS0 := C0.st
    obtain ⟨kvs, hkd, hD⟩ := hR
    refine ⟨(by show 1 ≤ sizeLine; decide), fun l hl => ⟨Nat.zero_le _, fun f2 hf => ?_⟩⟩
    have C1 := C0.set (o := .lst [V.str (o "$program")]) (C0.sub.free hl) (C0.st.neS hl)
    have C2 := C1.set (o := .lst []) (C1.sub.free hf) (C1.st.neS hf)
    have hf0 := (same_new hl).free hf
    have nlf : l ≠ f2 := ne_of_none upd_same hf
    have Ll : Lf G H s c l := Lf.of C0 (Kp.refl _ _ _) C0.st hl
    have Lf2 : Lf G H s c f2 := Lf.of C0 (Kp.refl _ _ _) C0.st hf0
    have kp2 : Kp s c H (upd (upd H l (.lst [V.str (o "$program")])) f2 (.lst [])) := Lf2.kp (Ll.kp (Kp.refl _ _ _))
    have el : (upd (upd H l (.lst [V.str (o "$program")])) f2 (.lst [])) l = some (.lst ([o "$program"].map V.str)) := by rw [upd_ne nlf, upd_same]; rfl
    have ef : (upd (upd H l (.lst [V.str (o "$program")])) f2 (.lst [])) f2 = some (.lst (([] : List Str).map V.str)) := upd_same
    generalize upd (upd H l (.lst [V.str (o "$program")])) f2 (.lst []) = H2 at C2 kp2 el ef ⊢
    clear C1
    refine ⟨_, rfl, s, c, 150, rfl, C2.st, by decide, by decide, fun H3 r r0 r1 st3 kp3 => ⟨_, _, rfl, rfl, ?_⟩⟩
    have C3 := C2.kp kp3 st3
    have kp03 := kp2.trans kp3
    refine ⟨fun σ H' => ∃ i, i ≤ 6000 ∧ SnI G H s c d i σ H', ⟨6000, rfl, by decide, by decide, for_range (lo := 0) (n := 6000) (fun i σ H' => SnI G H s c d i σ H') ⟨l, f2, [o "$program"], [], 10 + r, none, none, none, none, rfl, C3, kp03, Ll, Lf2, nlf, kp3 _ _ Ll.n.1 Ll.n.2 el, kp3 _ _ Lf2.n.1 Lf2.n.2 ef, (fun x hx => by rw [List.mem_singleton.mp hx]; exact List.mem_cons_self), (fun x hx => nomatch hx), by show 1 ≤ 1 + 20 * 0; decide, Nat.le_refl _⟩ ?_ (fun σ H' h => ⟨6000, Nat.le_refl _, h⟩)⟩, ?_⟩
    · clear el ef C2 C3 kp2 kp3 kp03 st3 Ll Lf2 nlf hf0 hl hf C0
      rintro i σ H' hi ⟨l, f2, st, fd, left, o5, o6, o7, o8, rfl, C, kp, Ll, Lf2, nlf, el, ef, hst, hfd, bst, bfd⟩
      refine ⟨_, rfl, l, _, rfl, .inl (SqL.of el), rfl, _, rfl, ?_⟩
      rw [dcInt]
      rcases nil_or_snoc st with rfl | ⟨st0, x, rfl⟩
      · refine iteDT rfl ?_
        exact ⟨i, by omega, l, f2, [], fd, left, _, _, _, _, rfl, C, kp, Ll, Lf2, nlf, el, ef, hst, hfd, bst, bfd⟩
      refine iteDF (by rw [List.length_map, List.length_append, List.length_cons]; omega) ?_
      have hx := hst x (List.mem_append_right _ List.mem_cons_self)
      have hst0 : ∀ y ∈ st0, y ∈ syms := fun y hy => hst y (List.mem_append_left _ hy)
      rw [List.length_append, List.length_cons, List.length_nil] at bst
      have hlast : ((st0 ++ [x]).map V.str)[((st0 ++ [x]).map V.str).length - 1]? = some (V.str x) := by
        rw [List.map_append, List.length_append]
        show (st0.map V.str ++ [V.str x])[_]? = _
        rw [show (st0.map V.str).length + (List.map V.str [x]).length - 1 = (st0.map V.str).length from rfl, List.getElem?_concat_length]
      refine ⟨_, rfl, .inl ⟨rfl, _, SqL.of el⟩, l, _, _, rfl, rfl, el, hlast, ?_⟩
      rw [show ((st0 ++ [x]).map V.str).dropLast = st0.map V.str by rw [List.map_append]; exact List.dropLast_concat]
      have C5 := C.set (o := .lst (st0.map V.str)) Ll.g Ll.n
      have kp5 := Ll.kp (o := .lst (st0.map V.str)) kp
      have el5 : (upd H' l (.lst (st0.map V.str))) l = some (.lst (st0.map V.str)) := upd_same
      have ef5 : (upd H' l (.lst (st0.map V.str))) f2 = some (.lst (fd.map V.str)) := by rw [upd_ne (Ne.symm nlf)]; exact ef
      generalize upd H' l (.lst (st0.map V.str)) = H5 at C5 kp5 el5 ef5 ⊢
      clear el ef C kp hst hlast
      rcases sym_facts x hx with ⟨h0, hl, _⟩ | ⟨h0, h1, h2, _⟩
      · obtain ⟨ch, hch, ech⟩ := Option.map_eq_some_iff.mp h0
        refine ⟨_, rfl, x, 0, ch, rfl, rfl, Nat.le_of_lt (small1000 (by have := syms_len x hx; omega)), hch, rfl, _, rfl, ?_⟩
        refine iteDT (congrArg V.str ech) ?_
        obtain ⟨rows, hrows⟩ := Option.isSome_iff_exists.mp hl
        obtain ⟨v, hv, dv⟩ := hD.val hrows
        obtain ⟨r, ts, rfl, er, dts⟩ := dr_lst dv
        have hrw := row_facts _ (lookup_mem hrows)
        have lts := drAll_len dts
        rw [List.length_map] at lts
        have hrw1 : 0 < rows.length := hrw.1
        have hrw2 : rows.length ≤ 20 := hrw.2.1
        have nr : r ≠ s ∧ r ≠ c := ⟨ne_of_none er C5.gs, ne_of_none er C5.gc⟩
        refine ⟨_, rfl, _, rfl, d, .ref r, rfl, .inl ⟨kvs, .inr x, .inl (C5.sub _ _ hkd), rfl, hv.symm⟩, ?_⟩
        rcases nil_or_snoc ts with rfl | ⟨ts0, t, ets⟩
        · exact absurd lts (by rw [List.length_nil]; omega)
        obtain ⟨a0, rw0, hm0, rfl, ha0⟩ := row_at dts (by rw [ets]; exact List.mem_append_right _ List.mem_cons_self : t ∈ ts)
        refine ⟨_, rfl, 1, rfl, r, ts, -1, .ref a0, rfl, rfl, SqL.of (C5.sub _ _ er), by rw [ets]; exact L2.atI_last _ _, ?_⟩
        refine ⟨fun σ H6 => ∃ a rw, rw ∈ rows ∧ G a = some (.tup [.str rw.1, .str rw.2]) ∧ σ = [some (.ref s), some (.ref d), some (.ref l), some (.ref f2), some (.int left), some (.int (0 + (i : Int))), some (.str x), some (.ref r), some (.ref a), none] ∧ Sg G H6 s c ∧ Kp s c H H6 ∧ H6 l = some (.lst (st0.map V.str)) ∧ H6 f2 = some (.lst (fd.map V.str)), ?_, ?_⟩
        · have mid : ∀ (a : Addr) (rw : Str × Str) (H6 : Hp), rw ∈ rows → G a = some (.tup [.str rw.1, .str rw.2]) → Sg G H6 s c → Kp s c H H6 → H6 l = some (.lst (st0.map V.str)) → H6 f2 = some (.lst (fd.map V.str)) → ∃ a2 rw2, rw2 ∈ rows ∧ G a2 = some (.tup [.str rw2.1, .str rw2.2]) ∧ [some (V.ref s), some (.ref d), some (.ref l), some (.ref f2), some (.int left), some (.int (0 + (i : Int))), some (.str x), some (.ref r), some (.ref a), none] = [some (V.ref s), some (.ref d), some (.ref l), some (.ref f2), some (.int left), some (.int (0 + (i : Int))), some (.str x), some (.ref r), some (.ref a2), none] ∧ Sg G H6 s c ∧ Kp s c H H6 ∧ H6 l = some (.lst (st0.map V.str)) ∧ H6 f2 = some (.lst (fd.map V.str)) :=
            fun a rw H6 h1 h2 h3 h4 h5 h6 => ⟨a, rw, h1, h2, rfl, h3, h4, h5, h6⟩
          refine ⟨_, rfl, _, _, rfl, rfl, _, rfl, iteD (fun h1 => ?_) (fun h1 => ?_)⟩
          · refine ⟨_, rfl, a0, _, 0, _, rfl, rfl, SqT.of (C5.sub _ _ ha0), atI_nat (j := 0) rfl, rfl, _, rfl, ?_⟩
            generalize decide (V.str rw0.1 = V.str (Str.ofString "")) = bb
            cases bb
            · rw [if_pos (by rfl)]
              refine ⟨_, rfl, _, rfl, s, c, r, ts, rfl, C5.st, SqL.of (C5.sub _ _ er), nr.1, nr.2, by omega, by omega, fun H7 j y hy st7 kp7 => ?_⟩
              obtain ⟨a2, rw2, hm2, rfl, ha2⟩ := row_at dts (List.mem_of_getElem? hy)
              exact mid a2 rw2 H7 hm2 ha2 (C5.kp kp7 st7) (kp5.trans kp7) (kp7 _ _ Ll.n.1 Ll.n.2 el5) (kp7 _ _ Lf2.n.1 Lf2.n.2 ef5)
            · rw [if_neg (by decide)]
              refine ⟨_, rfl, _, _, rfl, rfl, _, rfl, iteD (fun h1 => ?_) (fun h1 => mid a0 rw0 H5 hm0 ha0 C5 kp5 el5 ef5)⟩
              refine ⟨_, rfl, r, ts, rfl, .inl (SqL.of (C5.sub _ _ er)), _, _, rfl, rfl, _, rfl, iteD (fun h2 => ?_) (fun h2 => mid a0 rw0 H5 hm0 ha0 C5 kp5 el5 ef5)⟩
              refine ⟨_, rfl, s, c, 3, rfl, C5.st, by decide, by decide, fun H7 rr _ _ st7 kp7 => ⟨_, _, rfl, rfl, _, rfl, iteD (fun h3 => ?_) (fun h3 => mid a0 rw0 H7 hm0 ha0 (C5.kp kp7 st7) (kp5.trans kp7) (kp7 _ _ Ll.n.1 Ll.n.2 el5) (kp7 _ _ Lf2.n.1 Lf2.n.2 ef5))⟩⟩
              have C7 := C5.kp kp7 st7
              have kp07 := kp5.trans kp7
              have el7 := kp7 _ _ Ll.n.1 Ll.n.2 el5
              have ef7 := kp7 _ _ Lf2.n.1 Lf2.n.2 ef5
              refine ⟨_, rfl, _, rfl, 1, rfl, _, rfl, r, ts, rfl, SqL.of (C7.sub _ _ er), fun p hp => ?_⟩
              have sm := same_new (o := .lst (cutV ts none (some (-1)))) hp
              have C8 := C7.set (o := .lst (cutV ts none (some (-1)))) (C7.sub.free hp) (C7.st.neS hp)
              have np := C7.st.neS hp
              have Lp := Lf.of C7 kp07 hS0 hp
              rw [cutLast] at sm C8 ⊢
              have hz : ts.dropLast.length = ts.length - 1 := List.length_dropLast
              refine ⟨s, c, p, ts.dropLast, rfl, C8.st, SqL.of upd_same, np.1, np.2, by omega, by omega, fun H9 j y hy st9 kp9 => ?_⟩
              obtain ⟨a2, rw2, hm2, rfl, ha2⟩ := row_at dts ((List.dropLast_sublist ts).subset (List.mem_of_getElem? hy))
              exact mid a2 rw2 H9 hm2 ha2 (C8.kp kp9 st9) ((Lp.kp kp07).trans kp9) (kp9 _ _ Ll.n.1 Ll.n.2 (sm _ _ el7)) (kp9 _ _ Lf2.n.1 Lf2.n.2 (sm _ _ ef7))
          · refine ⟨_, rfl, _, _, rfl, rfl, _, rfl, iteD (fun h1 => ?_) (fun h1 => mid a0 rw0 H5 hm0 ha0 C5 kp5 el5 ef5)⟩
            refine ⟨_, rfl, r, ts, rfl, .inl (SqL.of (C5.sub _ _ er)), _, _, rfl, rfl, _, rfl, iteD (fun h2 => ?_) (fun h2 => mid a0 rw0 H5 hm0 ha0 C5 kp5 el5 ef5)⟩
            refine ⟨_, rfl, s, c, 3, rfl, C5.st, by decide, by decide, fun H7 rr _ _ st7 kp7 => ⟨_, _, rfl, rfl, _, rfl, iteD (fun h3 => ?_) (fun h3 => mid a0 rw0 H7 hm0 ha0 (C5.kp kp7 st7) (kp5.trans kp7) (kp7 _ _ Ll.n.1 Ll.n.2 el5) (kp7 _ _ Lf2.n.1 Lf2.n.2 ef5))⟩⟩
            have C7 := C5.kp kp7 st7
            have kp07 := kp5.trans kp7
            have el7 := kp7 _ _ Ll.n.1 Ll.n.2 el5
            have ef7 := kp7 _ _ Lf2.n.1 Lf2.n.2 ef5
            refine ⟨_, rfl, _, rfl, 1, rfl, _, rfl, r, ts, rfl, SqL.of (C7.sub _ _ er), fun p hp => ?_⟩
            have sm := same_new (o := .lst (cutV ts none (some (-1)))) hp
            have C8 := C7.set (o := .lst (cutV ts none (some (-1)))) (C7.sub.free hp) (C7.st.neS hp)
            have np := C7.st.neS hp
            have Lp := Lf.of C7 kp07 hS0 hp
            rw [cutLast] at sm C8 ⊢
            have hz : ts.dropLast.length = ts.length - 1 := List.length_dropLast
            refine ⟨s, c, p, ts.dropLast, rfl, C8.st, SqL.of upd_same, np.1, np.2, by omega, by omega, fun H9 j y hy st9 kp9 => ?_⟩
            obtain ⟨a2, rw2, hm2, rfl, ha2⟩ := row_at dts ((List.dropLast_sublist ts).subset (List.mem_of_getElem? hy))
            exact mid a2 rw2 H9 hm2 ha2 (C8.kp kp9 st9) ((Lp.kp kp07).trans kp9) (kp9 _ _ Ll.n.1 Ll.n.2 (sm _ _ el7)) (kp9 _ _ Lf2.n.1 Lf2.n.2 (sm _ _ ef7))
        · rintro σ' H6 ⟨a, rw, hrw, ha, rfl, C6, kp6, el6, ef6⟩
          obtain ⟨_, hwl, hws⟩ := words_in hrows hrw
          have hrl := ((row_facts _ (lookup_mem hrows)).2.2 rw hrw).1
          refine ⟨_, rfl, _, _, rfl, rfl, ?_⟩
          refine ⟨_, rfl, _, rfl, a, _, 1, _, rfl, rfl, SqT.of (C6.sub _ _ ha), atI_nat (j := 1) rfl, ⟨_, rfl⟩, _, rfl, rfl, Nat.le_of_lt (small1000 (by omega)), fun pw hpw => ?_⟩
          refine ⟨_, rfl, rfl, pw, _, rfl, SqL.of upd_same, fun pr hpr => ?_⟩
          have s1 := same_new (o := .lst ((Txt.words rw.2).map V.str)) hpw
          have s2 := same_new (o := .lst ((Txt.words rw.2).map V.str).reverse) hpr
          have L1 := Lf.of C6 kp6 hS0 hpw
          have C7 := C6.set (o := .lst ((Txt.words rw.2).map V.str)) L1.g L1.n
          have kp7 := L1.kp (o := .lst ((Txt.words rw.2).map V.str)) kp6
          have L2' := Lf.of C7 kp7 hS0 hpr
          have C8 := C7.set (o := .lst ((Txt.words rw.2).map V.str).reverse) L2'.g L2'.n
          have kp8 := L2'.kp (o := .lst ((Txt.words rw.2).map V.str).reverse) kp7
          have el8 := s2 _ _ (s1 _ _ el6)
          have ef8 := s2 _ _ (s1 _ _ ef6)
          have hll : (st0.map V.str).length + ((Txt.words rw.2).map V.str).reverse.length ≤ 1 + 20 * (i + 1) := by
            rw [List.length_reverse, List.length_map, List.length_map]
            omega
          refine ⟨l, pr, _, _, rfl, rfl, el8, upd_same, by rw [sizeLine_eq]; omega, fun pn hpn => ?_⟩
          have L3 := Lf.of C8 kp8 hS0 hpn
          have C9 := C8.set (o := .lst (st0.map V.str ++ ((Txt.words rw.2).map V.str).reverse)) L3.g L3.n
          have kp9 := L3.kp (o := .lst (st0.map V.str ++ ((Txt.words rw.2).map V.str).reverse)) kp8
          have nfn : pn ≠ f2 := Ne.symm (ne_of_none ef8 hpn)
          have emap : st0.map V.str ++ ((Txt.words rw.2).map V.str).reverse = (st0 ++ (Txt.words rw.2).reverse).map V.str := by rw [List.map_append, List.map_reverse]
          refine ⟨pn, f2, st0 ++ (Txt.words rw.2).reverse, fd, _, _, _, _, _, rfl, C9, kp9, L3, Lf2, nfn, by rw [upd_same, emap], by rw [upd_ne (Ne.symm nfn)]; exact ef8, fun y hy => ?_, hfd, ?_, by omega⟩
          · rcases List.mem_append.mp hy with hy | hy
            · exact hst0 y hy
            · exact hws y (List.mem_reverse.mp hy)
          · rw [List.length_append, List.length_reverse]
            omega
      · obtain ⟨ch, hch⟩ := Option.isSome_iff_exists.mp h0
        refine ⟨_, rfl, x, 0, ch, rfl, rfl, Nat.le_of_lt (small1000 (by have := syms_len x hx; omega)), hch, rfl, _, rfl, ?_⟩
        refine iteDF (fun z => h1 (by rw [hch]; exact congrArg some (V.str.inj z))) ?_
        refine ⟨_, rfl, .inl ⟨rfl, _, SqL.of ef5⟩, _, rfl, f2, _, _, rfl, rfl, ef5, ?_, ?_⟩
        · rw [List.length_map, sizeLine_eq]
          omega
        · refine ⟨l, f2, st0, fd ++ [x], left, _, _, _, _, rfl, C5.set Lf2.g Lf2.n, Lf2.kp kp5, Ll, Lf2, nlf, by rw [upd_ne nlf]; exact el5, by rw [upd_same, List.map_append]; rfl, hst0, fun y hy => ?_, by omega, by rw [List.length_append, List.length_cons, List.length_nil]; omega⟩
          rcases List.mem_append.mp hy with hy | hy
          · exact hfd y hy
          · rw [List.mem_singleton.mp hy]
            exact h2
    clear el ef C2 C3 kp2 kp3 kp03 st3 Ll Lf2 nlf hf0 hl hf
    rintro σ H4 ⟨i, hi, l, f2, st, fd, left, o5, o6, o7, o8, rfl, C, kp, Ll, Lf2, nlf, el, ef, hst, hfd, bst, bfd⟩
    refine fun p hp => ⟨upd_same, plK, rfl, by decide, ?_⟩
    have Lp := Lf.of C kp hS0 hp
    have sm := same_new (o := .dK plK) hp
    have C5 := C.set (o := .dK plK) Lp.g Lp.n
    have kp5 := Lp.kp (o := .dK plK) kp
    have ep : (upd H4 p (.dK (mergeK [] plK))) p = some (.dK plK) := upd_same
    have ef5 := sm _ _ ef
    rw [show mergeK [] plK = plK from rfl] at ep ⊢
    rw [upd_upd]
    generalize upd H4 p (.dK plK) = H5 at C5 kp5 ep ef5 ⊢
    refine ⟨_, rfl, f2, rfl, ⟨_, SqL.of ef5⟩, fun D hD => ?_⟩
    have LD := Lf.of C5 kp5 hS0 hD
    refine lc_list (K := K) (a := f2) (xs := fd.map V.str) (fun j H6 => Sg G H6 s c ∧ Kp s c H H6 ∧ H6 p = some (.dK plK) ∧ H6 f2 = some (.lst (fd.map V.str)) ∧ H6 D = some (.lst ((((fd.take j).filter fun x => !decide (x = o "END")).map plainS).map V.str)))
      ⟨C5.set LD.g LD.n, LD.kp kp5, by rw [upd_ne (ne_of_none ep hD)]; exact ep, by rw [upd_ne (ne_of_none ef5 hD)]; exact ef5, upd_same⟩ (fun j H6 _ h => SqL.of h.2.2.2.1) ?_ ?_
    · rintro j y H6 hy ⟨C6, kp6, ep6, ef6, eD6⟩
      rw [List.getElem?_map] at hy
      obtain ⟨x, hx, rfl⟩ := Option.map_eq_some_iff.mp hy
      refine ⟨rfl, _, rfl, rfl, _, rfl, ?_⟩
      have hl6 : ((((fd.take j).filter fun x => !decide (x = o "END")).map plainS).map V.str).length < sizeLine := by
        rw [List.length_map, List.length_map]
        exact (by rw [sizeLine_eq]; have := List.length_filter_le (fun x => !decide (x = o "END")) (fd.take j); rw [List.length_take] at this; omega)
      rw [List.take_add_one, hx, List.filter_append]
      by_cases he : x = o "END"
      · rw [show decide (V.str x = V.str (Str.ofString "END")) = true from decide_eq_true (congrArg V.str he)]
        dsimp only
        rw [if_neg (by decide), show (Option.some x).toList.filter (fun x => !decide (x = o "END")) = [] by show [x].filter _ = []; rw [List.filter_cons, decide_eq_true he]; rfl, List.append_nil]
        exact ⟨C6, kp6, ep6, ef6, eD6⟩
      · rw [show decide (V.str x = V.str (Str.ofString "END")) = false from decide_eq_false (fun z => he (V.str.inj z))]
        dsimp only
        rw [if_pos (by rfl), show (Option.some x).toList.filter (fun x => !decide (x = o "END")) = [x] by show [x].filter _ = [x]; rw [List.filter_cons, decide_eq_false he]; rfl]
        refine ⟨_, rfl, p, rfl, .inl ⟨plK, .inl ep6⟩, _, rfl, _, rfl, _, DGet.k (k := .inr x) ep6, _, eD6, hl6, C6.set LD.g LD.n, LD.kp kp6, by rw [upd_ne (ne_of_none ep hD)]; exact ep6, by rw [upd_ne (ne_of_none ef5 hD)]; exact ef6, ?_⟩
        rw [upd_same, plain_get, List.map_append, List.map_append]
        rfl
    · rintro H6 ⟨C6, kp6, ep6, ef6, eD6⟩
      rw [List.length_map, List.take_length] at eD6
      refine q H6 D _ C6 kp6 (fun x hx => ?_) ?_ LD.h eD6
      · obtain ⟨y, hy, rfl⟩ := List.mem_map.mp hx
        obtain ⟨hy1, hy2⟩ := List.mem_filter.mp hy
        exact tsy_plain y (hfd y hy1) (by simpa using hy2)
      · rw [List.length_map]
        exact Nat.le_trans (List.length_filter_le _ _) (by omega)
end
end Pk
set_option Elab.async false
set_option linter.all false
set_option maxRecDepth 100000
set_option maxHeartbeats 4000000
namespace Pk
open PySem PySem.Spec PyProof.Rows L2 SX GxR Tk
abbrev sTur : Stmt := topS 69
abbrev NTur : List Str := ["state", "row", "at", "turn", "size"]
theorem scTur : FnScope NTur ["state", "row"] (defScope sTur) := ⟨rfl, rfl, rfl, by decide +kernel, rfl, by decide +kernel, by decide +kernel⟩
/-- te gives a new list, made of xs at l -/
def WE (σ : L2.St) (s c l : Addr) (G : Hp) (xs : List V) (te : TE) (R : List V → Prop) : Prop := ∀ (H : Hp) (Q : VK), Sg G H s c → H l = some (.lst xs) → (∀ (q : Addr) (ys : List V) (H' : Hp), Sg G H' s c → Kp s c H H' → q ≠ s ∧ q ≠ c → H' q = some (.lst ys) → R ys → Q (.ref q) H') → te σ H Q
/-- a part of a slice, of int variables alone -/
def PoR (σ : L2.St) (to : TO) (o : Option Int) : Prop := ∀ (H : Hp) (Q : Option Int → Hp → Prop), Q o H → to σ H Q
def loI (n : Nat) : Option Int → Nat
  | none => 0
  | some v => min v.toNat n
def hiI (n : Nat) : Option Int → Nat
  | none => n
  | some v => min v.toNat n
def NnO (o : Option Int) : Prop := match o with
  | none => True
  | some v => 0 ≤ v
theorem cut_len {xs : List V} {lo hi : Option Int} (h1 : NnO lo) (h2 : NnO hi) : (cutV xs lo hi).length = hiI xs.length hi - loI xs.length lo := by
  have e1 : HT.sIx xs.length 0 lo = loI xs.length lo := by
    cases lo with
    | none => rfl
    | some v =>
      have : 0 ≤ v := h1
      show (if v < 0 then _ else _) = _
      rw [if_neg (by omega)]
      rfl
  have e2 : HT.sIx xs.length xs.length hi = hiI xs.length hi := by
    cases hi with
    | none => rfl
    | some v =>
      have : 0 ≤ v := h2
      show (if v < 0 then _ else _) = _
      rw [if_neg (by omega)]
      rfl
  have e3 : hiI xs.length hi ≤ xs.length := by
    cases hi with
    | none => exact Nat.le_refl _
    | some v => exact Nat.min_le_right _ _
  unfold cutV
  rw [e1, e2, List.length_take, List.length_drop]
  omega
theorem cut_mem {xs : List V} {lo hi : Option Int} {y : V} (h : y ∈ cutV xs lo hi) : y ∈ xs := by
  unfold cutV at h
  exact List.mem_of_mem_drop (List.mem_of_mem_take h)
/-- of the row or of the terminals, n of them -/
def RL (ws : List Str) (n : Nat) (ys : List V) : Prop := (∀ y ∈ ys, y ∈ ws.map V.str ∨ ∃ x ∈ trms, y = V.str x) ∧ ys.length = n
section
variable {σ : L2.St} {s c l : Addr} {G : Hp} {xs : List V} {K : PySem.W.Frag}
theorem WE.slice {ws : List Str} {te : TE} {tl th : TO} {lo hi : Option Int} (hx : te = tVar 1) (h : σ[1]? = some (some (.ref l))) (h1 : PoR σ tl lo) (h2 : PoR σ th hi) (n1 : NnO lo) (n2 : NnO hi) : WE σ s c l G (ws.map V.str) (tSl (rSlL K) te tl th) (RL ws (hiI ws.length hi - loI ws.length lo)) := by
  subst hx
  intro H Q C hl q
  refine ⟨_, h, h1 _ _ (h2 _ _ ⟨l, _, rfl, SqL.of hl, fun p hp => ?_⟩)⟩
  exact q p _ _ (C.set (C.sub.free hp) (C.st.neS hp)) (Kp.new hp) (C.st.neS hp) upd_same ⟨fun y hy => .inl (cut_mem hy), by rw [cut_len n1 n2, List.length_map]⟩
theorem WE.cat {ws : List Str} {t1 t2 : TE} {m1 m2 : Nat} (nl : l ≠ s ∧ l ≠ c) (h1 : WE σ s c l G xs t1 (RL ws m1)) (h2 : WE σ s c l G xs t2 (RL ws m2)) (hb : m1 + m2 ≤ 100000) : WE σ s c l G xs (tOp rCat t1 t2) (RL ws (m1 + m2)) := by
  intro H Q C hl q
  refine h1 H _ C hl fun q1 a H1 C1 kp1 n1 e1 r1 => ?_
  refine h2 H1 _ C1 (kp1 _ _ nl.1 nl.2 hl) fun q2 b H2 C2 kp2 n2 e2 r2 => ?_
  refine ⟨q1, q2, a, b, rfl, rfl, kp2 _ _ n1.1 n1.2 e1, e2, by rw [r1.2, r2.2, sizeLine_eq]; omega, fun p hp => ?_⟩
  refine q p _ _ (C2.set (C2.sub.free hp) (C2.st.neS hp)) ((kp1.trans kp2).trans (Kp.new hp)) (C2.st.neS hp) upd_same ⟨fun y hy => ?_, by rw [List.length_append, r1.2, r2.2]⟩
  rcases List.mem_append.mp hy with z | z
  · exact r1.1 y z
  · exact r2.1 y z
theorem WE.pick {ws : List Str} {te : TE} (hte : te = tLst (tCons (tCall (spPick K) [] E0 (tCons (tVar 0) (tCons (tCall spTrm [] E0 tNil) tNil))) tNil)) (h : σ[0]? = some (some (.ref s))) : WE σ s c l G xs te (RL ws 1) := by
  subst hte
  intro H Q C hl q
  refine ⟨_, h, rfl, fun us p hw h1 h2 hp => ?_⟩
  have n1 := C.st.neS hp
  have C1 := C.set (o := .lst (us.map V.str)) (C.sub.free hp) n1
  refine ⟨s, c, p, us.map V.str, rfl, C1.st, SqL.of upd_same, n1.1, n1.2, by rw [List.length_map]; omega, by rw [List.length_map]; omega, fun H2 i x hx st2 kp2 => ⟨by show 1 ≤ sizeLine; decide, fun p2 hp2 => ?_⟩⟩
  have C2 := C1.kp kp2 st2
  rw [List.getElem?_map] at hx
  obtain ⟨y, hy, rfl⟩ := Option.map_eq_some_iff.mp hx
  refine q p2 _ _ (C2.set (C2.sub.free hp2) (C2.st.neS hp2)) (((Kp.new hp).trans kp2).trans (Kp.new hp2)) (C2.st.neS hp2) upd_same ⟨fun z hz => .inr ⟨y, hw y (List.mem_of_getElem? hy), List.mem_singleton.mp hz⟩, rfl⟩
end
/-- a row of terminals, one more at most -/
def spTur : Sp := fun vs H Q _ => ∃ (s c p : Addr) (G : Hp) (ws : List Str), vs = [.ref s, .ref p] ∧ Sg G H s c ∧ p ≠ s ∧ p ≠ c ∧ H p = some (.lst (ws.map V.str)) ∧ (∀ x ∈ ws, x ∈ trms) ∧ ws.length ≤ 6010 ∧
  ∀ (H' : Hp) (q : Addr) (ys : List Str), Sg G H' s c → Kp s c H H' → q ≠ s ∧ q ≠ c → H' q = some (.lst (ys.map V.str)) → (∀ x ∈ ys, x ∈ trms) → ys.length ≤ ws.length + 1 → Q (.ref q) H'
section
variable {P : Program} {w : World} {K : PySem.W.Frag} {mg : Str → Option Value} {base : Heap}
theorem strs_of : ∀ {ys : List V} {ws : List Str}, (∀ y ∈ ys, y ∈ ws.map V.str ∨ ∃ x ∈ trms, y = V.str x) → (∀ x ∈ ws, x ∈ trms) → ∃ zs : List Str, ys = zs.map V.str ∧ ∀ x ∈ zs, x ∈ trms
  | [], _, _, _ => ⟨[], rfl, fun x h => nomatch h⟩
  | y :: ys, ws, h, h2 => by
    obtain ⟨zs, e, hz⟩ := strs_of (ys := ys) (fun y hy => h y (List.mem_cons_of_mem _ hy)) h2
    obtain ⟨x, hx, rfl⟩ : ∃ x ∈ trms, y = V.str x := by
      rcases h y List.mem_cons_self with a | a
      · obtain ⟨x, hx, rfl⟩ := List.mem_map.mp a
        exact ⟨x, h2 x hx, rfl⟩
      · exact a
    refine ⟨x :: zs, by rw [e]; rfl, fun z hz2 => ?_⟩
    rcases List.mem_cons.mp hz2 with a | a
    · rw [a]; exact hx
    · exact hz z a
theorem ok_tur {f : Addr} {fd : FuncData} (F : Fun K "_law_turned" "_law_turned" sTur f fd) (T : Bl mg) (zList : mg "list" = none) (Dr1 : Df P w K mg base CX0 1 "_law_draw" ["state", "many"] spDraw) (Dr2 : Df P w K mg base CX0 2 "_law_pick" ["state", "row"] (spPick K)) (Dr3 : Df P w K mg base CX0 1 "_law_terminals" [] spTrm) : FnOk P w K mg base CX0 3 f fd ["state", "row"] spTur := by
  obtain ⟨f1, fd1, G1, g1, k1, b1⟩ := Dr1.ex
  obtain ⟨f2, fd2, G2, g2, k2, b2⟩ := Dr2.ex
  obtain ⟨f3, fd3, G3, g3, k3, b3⟩ := Dr3.ex
  refine F.ok scTur (fun vs H Q E h => ?_) (fun cdv A outer s0 H vs Q E hr h => ?_)
  · obtain ⟨s, c, p, G, ws, rfl, _⟩ := h
    rfl
  · obtain ⟨s, c, p, G, ws, rfl, C0, ns, nc, hp, hw, hl, q⟩ := h
    have nd := scTur.nd
    refine ⟨_, (pss_cons (ps_set (i := 1) nd rfl (.inl rfl) (pe_callTy call_list_of (by rfl) zList (by decide +kernel) (pa_cons (pv 1) pa_nil)))
      (pss_cons (ps_set (i := 2) nd rfl (.inl rfl) (pe_call G1 (hr.mono (by omega)) (by rfl) g1 k1 b1 .nil pass0 (pa_cons (pv 0) (pa_cons (pe_op op_add (pe_callB call_len_seq (by rfl) T.zLen PySem.boot_len (pa_cons (pv 1) pa_nil)) pe_int) pa_nil))))
      (pss_cons (ps_set (i := 3) nd rfl (.inl rfl) (pe_call G1 (hr.mono (by omega)) (by rfl) g1 k1 b1 .nil pass0 (pa_cons (pv 0) (pa_cons pe_int pa_nil))))
      (pss_cons (ps_if (pt_cmpR op_lt (pv 3) pe_int (nomark _)) (pss_one (ps_ret (pe_op op_cat (pe_slice sl_list (pv 1) po_none (po_some (pv 2))) (pe_slice sl_list (pv 1) (po_some (pe_op op_add (pv 2) pe_int)) po_none)))) pss_nil)
      (pss_cons (ps_if (pt_cmpR op_eq (pv 3) pe_int (nomark _)) (pss_one (ps_ret (pe_op op_cat (pe_op op_cat (pe_slice sl_list (pv 1) po_none (po_some (pv 2))) (pe_slice sl_list (pv 1) (po_some (pv 2)) (po_some (pe_op op_add (pv 2) pe_int)))) (pe_slice sl_list (pv 1) (po_some (pv 2)) po_none)))) pss_nil)
      (pss_cons (ps_if (pt_cmpR op_eq (pv 3) pe_int (nomark _)) (pss_one (ps_ret (pe_op op_cat (pe_op op_cat (pe_op op_cat (pe_slice sl_list (pv 1) po_none (po_some (pv 2))) (pe_slice sl_list (pv 1) (po_some (pe_op op_add (pv 2) pe_int)) (po_some (pe_op op_add (pv 2) pe_int)))) (pe_slice sl_list (pv 1) (po_some (pv 2)) (po_some (pe_op op_add (pv 2) pe_int)))) (pe_slice sl_list (pv 1) (po_some (pe_op op_add (pv 2) pe_int)) po_none)))) pss_nil)
      (pss_cons (ps_if (pt_cmpR op_eq (pv 3) pe_int (nomark _)) (pss_one (ps_ret (pe_op op_cat (pe_op op_cat (pe_slice sl_list (pv 1) po_none (po_some (pv 2))) (pe_lst (pa_cons (pe_call G2 hr (by rfl) g2 k2 b2 .nil pass0 (pa_cons (pv 0) (pa_cons (pe_call0 G3 (hr.mono (by omega)) (by rfl) g3 k3 b3 .nil pass0) pa_nil))) pa_nil))) (pe_slice sl_list (pv 1) (po_some (pe_op op_add (pv 2) pe_int)) po_none)))) pss_nil)
      (pss_cons (ps_if (pt_cmpR op_eq (pv 3) pe_int (nomark _)) (pss_one (ps_ret (pe_op op_cat (pe_op op_cat (pe_slice sl_list (pv 1) po_none (po_some (pv 2))) (pe_lst (pa_cons (pe_call G2 hr (by rfl) g2 k2 b2 .nil pass0 (pa_cons (pv 0) (pa_cons (pe_call0 G3 (hr.mono (by omega)) (by rfl) g3 k3 b3 .nil pass0) pa_nil))) pa_nil))) (pe_slice sl_list (pv 1) (po_some (pv 2)) po_none)))) pss_nil)
      (pss_cons (ps_set (i := 4) nd rfl (.inl rfl) (pe_op op_add pe_int (pe_call G1 (hr.mono (by omega)) (by rfl) g1 k1 b1 .nil pass0 (pa_cons (pv 0) (pa_cons pe_int pa_nil)))))
      (pss_one (ps_ret (pe_op op_cat (pe_op op_cat (pe_op op_cat (pe_slice sl_list (pv 1) po_none (po_some (pv 2))) (pe_slice sl_list (pv 1) (po_some (pe_op op_add (pv 2) (pv 4))) (po_some (pe_op op_add (pv 2) (pe_op op_mul pe_int (pv 4)))))) (pe_slice sl_list (pv 1) (po_some (pv 2)) (po_some (pe_op op_add (pv 2) (pv 4))))) (pe_slice sl_list (pv 1) (po_some (pe_op op_add (pv 2) (pe_op op_mul pe_int (pv 4)))) po_none))))))))))))), ?_⟩
    refine ⟨_, rfl, p, _, rfl, .inl (SqL.of hp), fun l hlN => ?_⟩
    have nl := C0.st.neS hlN
    have C1 := C0.set (o := .lst (ws.map V.str)) (C0.sub.free hlN) nl
    have kp1 : Kp s c H (upd H l (.lst (ws.map V.str))) := Kp.new hlN
    have e1 : (upd H l (.lst (ws.map V.str))) l = some (.lst (ws.map V.str)) := upd_same
    generalize upd H l (.lst (ws.map V.str)) = H1 at C1 kp1 e1 ⊢
    refine ⟨_, rfl, _, rfl, l, _, rfl, .inl (SqL.of e1), _, _, rfl, rfl, s, c, _, rfl, C1.st, ?_, ?_, fun H2 r r0 r1 st2 kp2 => ?_⟩
    · rw [List.length_map]; omega
    · rw [List.length_map]; omega
    rw [List.length_map] at r1
    have C2 := C1.kp kp2 st2
    have kp02 := kp1.trans kp2
    have e2 := kp2 _ _ nl.1 nl.2 e1
    refine ⟨_, rfl, s, c, 7, rfl, C2.st, by decide, by decide, fun H3 u u0 u1 st3 kp3 => ?_⟩
    have C3 := C2.kp kp3 st3
    have kp03 := kp02.trans kp3
    have e3 := kp3 _ _ nl.1 nl.2 e2
    clear C1 kp1 e1 C2 kp2 kp02 e2 kp3 st2 st3
    have fin : ∀ (q2 : Addr) (ys : List V) (H' : Hp), Sg G H' s c → Kp s c H3 H' → q2 ≠ s ∧ q2 ≠ c → H' q2 = some (.lst ys) → (∀ y ∈ ys, y ∈ ws.map V.str ∨ ∃ x ∈ trms, y = V.str x) → ys.length ≤ ws.length + 1 → Q (.ref q2) H' := by
      intro q2 ys H' C kp n e hm hlen
      obtain ⟨zs, rfl, hz⟩ := strs_of hm hw
      rw [List.length_map] at hlen
      exact q H' q2 zs C (kp03.trans kp) n e hz hlen
    refine ⟨_, rfl, _, _, rfl, rfl, _, rfl, iteD (fun h => ?_) (fun h => ?_)⟩
    · refine (WE.cat nl (WE.slice (lo := none) (hi := (some r)) rfl rfl (fun H Q q => q) (fun H Q q => ⟨_, rfl, _, rfl, q⟩) trivial (by show 0 ≤ r; omega)) (WE.slice (lo := (some (r + 1))) (hi := none) rfl rfl (fun H Q q => ⟨_, rfl, _, _, rfl, rfl, _, rfl, q⟩) (fun H Q q => q) (by show 0 ≤ r + 1; omega) trivial) (by dsimp only [loI, hiI]; omega)) H3 _ C3 e3 fun q2 ys H9 C9 kp9 n9 e9 r9 => fin q2 ys H9 C9 kp9 n9 e9 r9.1 ?_
      rw [r9.2]
      dsimp only [loI, hiI]
      omega
    refine ⟨_, rfl, rfl, _, rfl, ?_⟩
    rw [dcInt]
    refine iteD (fun h2 => ?_) (fun h2 => ?_)
    · refine (WE.cat nl (WE.cat nl (WE.slice (lo := none) (hi := (some r)) rfl rfl (fun H Q q => q) (fun H Q q => ⟨_, rfl, _, rfl, q⟩) trivial (by show 0 ≤ r; omega)) (WE.slice (lo := (some r)) (hi := (some (r + 1))) rfl rfl (fun H Q q => ⟨_, rfl, _, rfl, q⟩) (fun H Q q => ⟨_, rfl, _, _, rfl, rfl, _, rfl, q⟩) (by show 0 ≤ r; omega) (by show 0 ≤ r + 1; omega)) (by dsimp only [loI, hiI]; omega)) (WE.slice (lo := (some r)) (hi := none) rfl rfl (fun H Q q => ⟨_, rfl, _, rfl, q⟩) (fun H Q q => q) (by show 0 ≤ r; omega) trivial) (by dsimp only [loI, hiI]; omega)) H3 _ C3 e3 fun q2 ys H9 C9 kp9 n9 e9 r9 => fin q2 ys H9 C9 kp9 n9 e9 r9.1 ?_
      rw [r9.2]
      dsimp only [loI, hiI]
      omega
    refine ⟨_, rfl, rfl, _, rfl, ?_⟩
    rw [dcInt]
    refine iteD (fun h3 => ?_) (fun h3 => ?_)
    · refine (WE.cat nl (WE.cat nl (WE.cat nl (WE.slice (lo := none) (hi := (some r)) rfl rfl (fun H Q q => q) (fun H Q q => ⟨_, rfl, _, rfl, q⟩) trivial (by show 0 ≤ r; omega)) (WE.slice (lo := (some (r + 1))) (hi := (some (r + 2))) rfl rfl (fun H Q q => ⟨_, rfl, _, _, rfl, rfl, _, rfl, q⟩) (fun H Q q => ⟨_, rfl, _, _, rfl, rfl, _, rfl, q⟩) (by show 0 ≤ r + 1; omega) (by show 0 ≤ r + 2; omega)) (by dsimp only [loI, hiI]; omega)) (WE.slice (lo := (some r)) (hi := (some (r + 1))) rfl rfl (fun H Q q => ⟨_, rfl, _, rfl, q⟩) (fun H Q q => ⟨_, rfl, _, _, rfl, rfl, _, rfl, q⟩) (by show 0 ≤ r; omega) (by show 0 ≤ r + 1; omega)) (by dsimp only [loI, hiI]; omega)) (WE.slice (lo := (some (r + 2))) (hi := none) rfl rfl (fun H Q q => ⟨_, rfl, _, _, rfl, rfl, _, rfl, q⟩) (fun H Q q => q) (by show 0 ≤ r + 2; omega) trivial) (by dsimp only [loI, hiI]; omega)) H3 _ C3 e3 fun q2 ys H9 C9 kp9 n9 e9 r9 => fin q2 ys H9 C9 kp9 n9 e9 r9.1 ?_
      rw [r9.2]
      dsimp only [loI, hiI]
      omega
    refine ⟨_, rfl, rfl, _, rfl, ?_⟩
    rw [dcInt]
    refine iteD (fun h4 => ?_) (fun h4 => ?_)
    · refine (WE.cat nl (WE.cat nl (WE.slice (lo := none) (hi := (some r)) rfl rfl (fun H Q q => q) (fun H Q q => ⟨_, rfl, _, rfl, q⟩) trivial (by show 0 ≤ r; omega)) (WE.pick rfl rfl) (by dsimp only [loI, hiI]; omega)) (WE.slice (lo := (some (r + 1))) (hi := none) rfl rfl (fun H Q q => ⟨_, rfl, _, _, rfl, rfl, _, rfl, q⟩) (fun H Q q => q) (by show 0 ≤ r + 1; omega) trivial) (by dsimp only [loI, hiI]; omega)) H3 _ C3 e3 fun q2 ys H9 C9 kp9 n9 e9 r9 => fin q2 ys H9 C9 kp9 n9 e9 r9.1 ?_
      rw [r9.2]
      dsimp only [loI, hiI]
      omega
    refine ⟨_, rfl, rfl, _, rfl, ?_⟩
    rw [dcInt]
    refine iteD (fun h5 => ?_) (fun h5 => ?_)
    · refine (WE.cat nl (WE.cat nl (WE.slice (lo := none) (hi := (some r)) rfl rfl (fun H Q q => q) (fun H Q q => ⟨_, rfl, _, rfl, q⟩) trivial (by show 0 ≤ r; omega)) (WE.pick rfl rfl) (by dsimp only [loI, hiI]; omega)) (WE.slice (lo := (some r)) (hi := none) rfl rfl (fun H Q q => ⟨_, rfl, _, rfl, q⟩) (fun H Q q => q) (by show 0 ≤ r; omega) trivial) (by dsimp only [loI, hiI]; omega)) H3 _ C3 e3 fun q2 ys H9 C9 kp9 n9 e9 r9 => fin q2 ys H9 C9 kp9 n9 e9 r9.1 ?_
      rw [r9.2]
      dsimp only [loI, hiI]
      omega
    refine ⟨_, rfl, s, c, 6, rfl, C3.st, by decide, by decide, fun H4 v v0 v1 st4 kp4 => ⟨_, _, rfl, rfl, ?_⟩⟩
    have C4 := C3.kp kp4 st4
    have e4 := kp4 _ _ nl.1 nl.2 e3
    refine (WE.cat nl (WE.cat nl (WE.cat nl (WE.slice (lo := none) (hi := (some r)) rfl rfl (fun H Q q => q) (fun H Q q => ⟨_, rfl, _, rfl, q⟩) trivial (by show 0 ≤ r; omega)) (WE.slice (lo := (some (r + (1 + v)))) (hi := (some (r + 2 * (1 + v)))) rfl rfl (fun H Q q => ⟨_, rfl, _, rfl, _, _, rfl, rfl, _, rfl, q⟩) (fun H Q q => ⟨_, rfl, _, rfl, _, _, rfl, rfl, .inl ⟨by omega, by omega⟩, _, _, rfl, rfl, _, rfl, q⟩) (by show 0 ≤ r + (1 + v); omega) (by show 0 ≤ r + 2 * (1 + v); omega)) (by dsimp only [loI, hiI]; omega)) (WE.slice (lo := (some r)) (hi := (some (r + (1 + v)))) rfl rfl (fun H Q q => ⟨_, rfl, _, rfl, q⟩) (fun H Q q => ⟨_, rfl, _, rfl, _, _, rfl, rfl, _, rfl, q⟩) (by show 0 ≤ r; omega) (by show 0 ≤ r + (1 + v); omega)) (by dsimp only [loI, hiI]; omega)) (WE.slice (lo := (some (r + 2 * (1 + v)))) (hi := none) rfl rfl (fun H Q q => ⟨_, rfl, _, rfl, _, _, rfl, rfl, .inl ⟨by omega, by omega⟩, _, _, rfl, rfl, _, rfl, q⟩) (fun H Q q => q) (by show 0 ≤ r + 2 * (1 + v); omega) trivial) (by dsimp only [loI, hiI]; omega)) H4 _ C4 e4 fun q2 ys H9 C9 kp9 n9 e9 r9 => fin q2 ys H9 C9 (kp4.trans kp9) n9 e9 r9.1 ?_
    rw [r9.2]
    dsimp only [loI, hiI]
    omega
end
end Pk
set_option Elab.async false
set_option linter.all false
set_option maxRecDepth 100000
set_option maxHeartbeats 4000000
namespace Tk
open PySem L2 SX
def specials : List Str := ["accept", "reject", "meta", "packet", "+", "-", "&", "|", "^", "exact", "mask", "prefix", "==", "<", "{", "}", "(", ")", ":", ";", ",", ".", "=", "->", "header", "program", "parser", "action", "table", "control", "emit", "state", "extract", "go", "select", "else", "send", "drop", "add", "remove", "default", "size", "key", "use", "apply", "if", "not", "valid"].map Str.ofString
/-- two values that are the same words and signs, or none -/
def Ag (v v' : V) : Prop := ∀ w ∈ specials, decide (v = .str w) = decide (v' = .str w)
/-- lines are moved by F -/
def Sml (F : Nat → Nat) (t t' : Tok) : Prop := t.1 = t'.1 ∧ Ag t.2.1 t'.2.1 ∧ t'.2.2 = F t.2.2
abbrev Rl (F : Nat → Nat) : Rem → Rem → Prop := Paired (Sml F)
theorem Ag.non : Ag .non .non := fun _ _ => rfl
theorem Rl.kind {F : Nat → Nat} : ∀ {r r' : Rem}, Rl F r r' → kindAt r = kindAt r'
  | _, _, .nil => rfl
  | _, _, .cons h _ => h.1
theorem Rl.val {F : Nat → Nat} : ∀ {r r' : Rem}, Rl F r r' → Ag (valAt r) (valAt r')
  | _, _, .nil => Ag.non
  | _, _, .cons h _ => h.2.1
theorem Rl.tail {F : Nat → Nat} : ∀ {r r' : Rem}, Rl F r r' → Rl F r.tail r'.tail
  | _, _, .nil => .nil
  | _, _, .cons _ h => h
theorem Rl.len {F : Nat → Nat} {r r' : Rem} (h : Rl F r r') : r.length = r'.length := Paired.length h
theorem Rl.line {F : Nat → Nat} (hF : F 0 = 0) {r r' : Rem} (h : Rl F r r') : lineAt r' = F (lineAt r) := by
  cases h with
  | nil => exact hF.symm
  | cons h _ => exact h.2.2
theorem Rl.word {F : Nat → Nat} {r r' : Rem} (h : Rl F r r') {w : Str} (hw : w ∈ specials) : wordAt w r = wordAt w r' := h.val w hw
/-- what is left is alike -/
def gR (F : Nat → Nat) {α β : Type} (p : α × Rem) (q : β × Rem) : Prop := Rl F p.2 q.2
def gV (F : Nat → Nat) (p q : V × Rem) : Prop := Rl F p.2 q.2 ∧ Ag p.1 q.1
end Tk
set_option Elab.async false
set_option linter.all false
set_option maxRecDepth 100000
set_option maxHeartbeats 4000000
namespace Pk
open PySem PySem.Spec PyProof.Rows L2 SX Tk
/-- what comes first, of a line's rest or its newline -/
def hd (p : List Nat) : Nat := match p with
  | [] => 10
  | c :: _ => c
/-- a name -/
theorem piece_name {n : List Nat} {c : Nat} {r : List Nat} (e : n = c :: r) (h1 : c ∈ letters) (h2 : n.length ≤ 16) (h3 : n.all inRun = true) (h4 : S n ∉ words) : PieceOk (Str.ofString "name") (.str (S n)) n := by
  refine ⟨?_, by rw [e]; exact List.cons_ne_nil _ _, by omega, fun hm => (inRun_ne (List.all_eq_true.mp h3 10 hm)).2.2 rfl, .inl ⟨by decide +kernel, h3⟩⟩
  unfold Tk.tokOf
  rw [if_pos ⟨by rw [e]; exact decide_eq_true h1, h2⟩, if_neg h4]
end Pk
set_option Elab.async false
set_option linter.all false
set_option maxRecDepth 100000
set_option maxHeartbeats 4000000
namespace Pk
open PySem PySem.Spec PyProof.Rows L2 SX GxR Tk
theorem run_in {c : Nat} (h : c ∈ runs) : inRun c = true := (show ∀ c ∈ runs, inRun c = true by decide +kernel) c h
theorem let_in {c : Nat} (h : c ∈ letters) : inRun c = true := (show ∀ c ∈ letters, inRun c = true by decide +kernel) c h
theorem dig_in {k : Nat} (h : k < 10) : inRun (48 + k) = true := (show ∀ k, k < 10 → inRun (48 + k) = true by decide +kernel) k h
/-- a name with a digit is no word -/
theorem nmD_dig {k : Nat} {x : Str} (h : NmD k x) (hk : k < 10) : hasDig x = true := by
  obtain ⟨a, r1, r2, rfl, _⟩ := h
  unfold hasDig
  rw [List.any_eq_true]
  refine ⟨48 + k, ?_, ?_⟩
  · show 48 + k ∈ a :: (r1 ++ (48 + k) :: r2)
    simp
  · rw [decide_eq_true (by omega), decide_eq_true (by omega)]
    rfl
theorem dig_no {x : Str} (h : hasDig x = true) : x ∉ terms ∧ x ∉ words := by
  refine ⟨fun z => ?_, fun z => ?_⟩
  · have := (show ∀ x ∈ terms, hasDig x = false by decide +kernel) x z
    rw [this] at h
    cases h
  · have := (show ∀ x ∈ words, hasDig x = false by decide +kernel) x z
    rw [this] at h
    cases h
/-- a name's piece -/
theorem pc_name {k : Nat} {x : Str} (h : NmD k x) (hk : k < 10) : ∃ p : List Nat, x = S p ∧ p.length ≤ 14 ∧ PieceOk (Str.ofString "name") (.str (S p)) p ∧ ∀ l, TkOk (fun x => hasDig x = true) (Str.ofString "name", V.str (S p), l) := by
  have hd := nmD_dig h hk
  obtain ⟨n1, n2⟩ := dig_no hd
  obtain ⟨a, r1, r2, rfl, ha, h1, h2, h3, h4⟩ := h
  have hl : (a :: (r1 ++ (48 + k) :: r2)).length ≤ 14 := by
    rw [List.length_cons, List.length_append, List.length_cons]
    omega
  refine ⟨_, rfl, hl, piece_name rfl ha (by omega) ?_ n2, fun l => ⟨.inl ⟨rfl, _, rfl, n1, hd⟩⟩⟩
  rw [List.all_eq_true]
  intro c hc
  rcases List.mem_cons.mp hc with q | q
  · rw [q]; exact let_in ha
  · rcases List.mem_append.mp q with q | q
    · exact run_in (h1 c q)
    · rcases List.mem_cons.mp q with q | q
      · rw [q]; exact dig_in hk
      · exact run_in (h2 c q)
theorem word_facts : ∀ w ∈ terms, S w.cps.toList = w ∧ w.cps.toList ≠ [] ∧ w.cps.toList.length ≤ 20 ∧ 10 ∉ w.cps.toList ∧ ((w.cps.toList.all inRun = true ∧ tokOf w.cps.toList = some (Str.ofString "word", .str w)) ∨ (w ∈ signsL ∧ tokOf w.cps.toList = some (kSign, .str w))) := by decide +kernel
/-- a word's, a sign's piece -/
theorem pc_word {w : Str} (h : w ∈ terms) : ∃ (k : Str) (p : List Nat), w = S p ∧ p.length ≤ 20 ∧ PieceOk k (.str w) p ∧ ∀ l, TkOk (fun x => hasDig x = true) (k, V.str w, l) := by
  obtain ⟨h1, h2, h3, h4, h5⟩ := word_facts w h
  rcases h5 with ⟨h6, h7⟩ | ⟨h6, h7⟩
  · exact ⟨_, _, h1.symm, h3, ⟨h7, h2, h3, h4, .inl ⟨by decide +kernel, h6⟩⟩, fun l => ⟨.inr (.inr ⟨by show Str.ofString "word" ≠ _; decide +kernel, by show Str.ofString "word" ≠ _; decide +kernel, by show Str.ofString "word" ≠ _; decide +kernel, w, rfl, h⟩)⟩⟩
  · exact ⟨_, _, h1.symm, h3, ⟨h7, h2, h3, h4, .inr ⟨rfl, by rw [h1]; exact h6, by rw [h1]⟩⟩, fun l => ⟨.inr (.inr ⟨by show kSign ≠ _; decide +kernel, by show kSign ≠ _; decide +kernel, by show kSign ≠ _; decide +kernel, w, rfl, h⟩)⟩⟩
/-- a number's piece -/
theorem tk_num (n : Nat) (l : Nat) : TkOk (fun x => hasDig x = true) (Str.ofString "number", V.int (n : Nat), l) := ⟨.inr (.inl ⟨rfl, n, rfl⟩)⟩
end Pk
set_option Elab.async false
set_option linter.all false
set_option maxRecDepth 100000
set_option maxHeartbeats 4000000
namespace N49
open PySem PySem.Spec PyProof.Rows L2 SX GxR Tk Pk
theorem head_one {p : List Nat} (h : p ≠ []) : ∃ c r, p = c :: r := by
  cases p with
  | nil => exact absurd rfl h
  | cons c r => exact ⟨c, r, rfl⟩
theorem run_mem {c : Nat} (h : c ∈ letters ++ digits ++ [95]) : inRun c = true := by
  have key : ∀ c ∈ letters ++ digits ++ [95], inRun c = true := by decide +kernel
  exact key c h
theorem nl_run {p : List Nat} (h : p.all inRun = true) : 10 ∉ p := fun hm => (inRun_ne (List.all_eq_true.mp h 10 hm)).2.2 rfl
theorem dig_run {c : Nat} (h : c ∈ digits) : inRun c = true := run_mem (List.mem_append_left _ (List.mem_append_right _ h))
theorem numL_head (n : Nat) : (TL.numL n).take 1 = [48] → TL.numL n = [48] := by
  induction n using Nat.strongRecOn with
  | ind n ih =>
    intro h
    by_cases hn : n < 10
    · rw [TL.numL_lt hn] at h ⊢
      exact h
    · have e := TL.numL_step (n := n) (by omega)
      have hne := TL.numL_ne (n / 10)
      obtain ⟨c, r, ec⟩ := head_one hne
      rw [e, ec] at h
      have h2 := ih (n / 10) (by omega) (by rw [ec]; exact h)
      have h3 := TL.numL_val (n / 10)
      rw [h2] at h3
      have h4 : n / 10 = 0 := h3.symm
      omega
theorem digs_all {p : List Nat} (h : NumText.AllDigits p) : allIn p digits = true := by
  have key : ∀ c, c < 58 → 48 ≤ c → c ∈ digits := by decide +kernel
  refine List.all_eq_true.mpr fun c hc => decide_eq_true ?_
  have := h c hc
  exact key c (by omega) this.1
theorem dec_piece {n : Nat} (h : n ≤ 4294967295) : PieceOk (Str.ofString "number") (.int n) (TL.numL n) := by
  have hd := TL.numL_digits n
  have hne := TL.numL_ne n
  have hlen : (TL.numL n).length ≤ 10 := TL.numL_len (by decide) (by omega)
  have ha := digs_all hd
  have hv := TL.numL_val n
  have hx : ¬ isHexed (TL.numL n) = true := by
    intro z
    have z' : (TL.numL n).take 2 = [48, 120] := of_decide_eq_true z
    have : 120 ∈ TL.numL n := List.mem_of_mem_take (by rw [z']; exact List.mem_cons_of_mem _ List.mem_cons_self : (120 : Nat) ∈ (TL.numL n).take 2)
    have := hd 120 this
    omega
  have hn : isNum (TL.numL n) = true := by
    unfold isNum
    rw [if_neg hx]
    by_cases h0 : (TL.numL n).take 1 = [48]
    · rw [if_pos h0]
      exact decide_eq_true (numL_head n h0)
    · rw [if_neg h0, if_neg (by omega), ha, hv, Bool.true_and]
      exact decide_eq_true h
  have hr : (TL.numL n).all inRun = true := List.all_eq_true.mpr fun c hc => dig_run (of_decide_eq_true (List.all_eq_true.mp ha c hc))
  refine ⟨?_, hne, by omega, nl_run hr, .inl ⟨by decide +kernel, hr⟩⟩
  obtain ⟨c, r, e⟩ := head_one hne
  unfold Tk.tokOf
  have hl : headIn letters (TL.numL n) = false := by
    rw [e]
    refine decide_eq_false fun hc => ?_
    have k : ∀ c ∈ letters, ¬ (48 ≤ c ∧ c ≤ 57) := by decide +kernel
    exact k c hc (hd c (by rw [e]; exact List.mem_cons_self))
  rw [if_neg (by rw [hl]; exact fun z => Bool.false_ne_true z.1), if_pos hn]
  unfold numVal
  rw [if_neg hx, hv]
/-- the written number -/
theorem num_piece {n : Nat} (h : n ≤ 4294967295) : ∃ p : List Nat, (toString ((n : Nat) : Int) : Str) = S p ∧ p.length ≤ 14 ∧ PieceOk (Str.ofString "number") (.int n) p :=
  ⟨TL.numL n, num_S n, Nat.le_trans (TL.numL_len (by decide : 1 ≤ 10) (by omega)) (by decide), dec_piece h⟩
end N49
set_option Elab.async false
set_option linter.all false
set_option maxRecDepth 100000
set_option maxHeartbeats 4000000
namespace Pk
open PySem PySem.Spec PyProof.Rows L2 SX GxR Tk
/-- the line behind the pieces, and the tokens but the end -/
def lnE : Nat → List Pc → Nat
  | l, [] => l
  | l, x :: ps => lnE (l + gapLn x.2.2.2) ps
def wTk : Nat → List Pc → List Tk.Tok
  | _, [] => []
  | l, x :: ps => (x.1, x.2.1, l) :: wTk (l + gapLn x.2.2.2) ps
theorem wToks_eq : ∀ (ps : List Pc) (l : Nat), wToks l ps = wTk l ps ++ [endTok (lnE l ps)]
  | [], l => rfl
  | x :: ps, l => by
    show _ :: wToks _ ps = _
    rw [wToks_eq ps]
    rfl
theorem lnE_snoc (x : Pc) : ∀ (ps : List Pc) (l : Nat), lnE l (ps ++ [x]) = lnE l ps + gapLn x.2.2.2
  | [], l => rfl
  | y :: ps, l => lnE_snoc x ps (l + gapLn y.2.2.2)
theorem wTk_snoc (x : Pc) : ∀ (ps : List Pc) (l : Nat), wTk l (ps ++ [x]) = wTk l ps ++ [(x.1, x.2.1, lnE l ps)]
  | [], l => rfl
  | y :: ps, l => by
    show _ :: wTk _ (ps ++ [x]) = _ :: (wTk _ ps ++ _)
    rw [wTk_snoc x ps]
    rfl
theorem wText_snoc (ps : List Pc) (x : Pc) : wText (ps ++ [x]) = wText ps ++ (x.2.2.1 ++ x.2.2.2) := by
  unfold wText
  rw [List.flatMap_append]
  simp
theorem wTk_len : ∀ (ps : List Pc) (l : Nat), (wTk l ps).length = ps.length
  | [], _ => rfl
  | x :: ps, l => congrArg (· + 1) (wTk_len ps _)
def Nm2 (x : Str) : Prop := hasDig x = true ∧ x.length ≤ 20 ∧ PyData.strOk x = true
theorem ok_run {p : List Nat} (h : p.all inRun = true) : PyData.strOk (S p) = true := by
  have key : ∀ c ∈ letters ++ digits ++ [95], c < 0x110000 := by decide +kernel
  show (S p).cps.all _ = true
  unfold S
  simp only [List.all_toArray]
  rw [List.all_eq_true]
  intro c hc
  have hr := List.all_eq_true.mp h c hc
  refine decide_eq_true (key c ?_)
  unfold inRun at hr
  simp only [Bool.or_eq_true, decide_eq_true_eq] at hr
  simp only [List.mem_append, List.mem_singleton]
  exact hr
theorem terms_so : ∀ x ∈ terms, PyData.strOk x = true := by decide +kernel
theorem tk_up {t : Tk.Tok} (h : TkOk (fun x => hasDig x = true) t) (h2 : ∀ x, t.2.1 = .str x → x.length ≤ 20 ∧ PyData.strOk x = true) : TkOk Nm2 t := by
  rcases h.ex with ⟨a, x, hx, nx, hd⟩ | a | a
  · exact ⟨.inl ⟨a, x, hx, nx, hd, h2 x hx⟩⟩
  · exact ⟨.inr (.inl a)⟩
  · exact ⟨.inr (.inr a)⟩
theorem tk_down {t : Tk.Tok} (h : TkOk Nm2 t) : TkOk (fun x => hasDig x = true) t := by
  rcases h.ex with ⟨a, x, hx, nx, hd⟩ | a | a
  · exact ⟨.inl ⟨a, x, hx, nx, hd.1⟩⟩
  · exact ⟨.inr (.inl a)⟩
  · exact ⟨.inr (.inr a)⟩
/-- a piece that stands for w -/
structure PcOk (x : Pc) (w : Str) : Prop where
  pc : PieceOk x.1 x.2.1 x.2.2.1
  gp : x.2.2.2 ∈ gaps
  tk : ∀ l, TkOk Nm2 (x.1, x.2.1, l)
  ln : x.2.2.1.length ≤ 20
  lk : ∀ l, lkT (x.1, x.2.1, l) = w
abbrev PcsOk : List Pc → List Str → Prop := Paired PcOk
theorem paired_snoc {α β : Type} {R : α → β → Prop} {a : α} {b : β} (hr : R a b) : ∀ {xs : List α} {ys : List β}, Paired R xs ys → Paired R (xs ++ [a]) (ys ++ [b])
  | _, _, .nil => .cons hr .nil
  | _, _, .cons h r => .cons h (paired_snoc hr r)
theorem gap_len {g : List Nat} (h : g ∈ gaps) : g.length ≤ 8 := (show ∀ g ∈ gaps, g.length ≤ 8 by decide) g h
theorem text_len : ∀ {ps : List Pc} {ws : List Str}, PcsOk ps ws → (wText ps).length ≤ 28 * ws.length
  | [], [], .nil => Nat.zero_le _
  | x :: ps, _ :: _, .cons h r => by
    have h1 := text_len r
    have h2 := h.ln
    have h3 := gap_len h.gp
    show ((x.2.2.1 ++ x.2.2.2) ++ wText ps).length ≤ _
    rw [List.length_append, List.length_append, List.length_cons]
    omega
/-- the terminals with their lines -/
abbrev lookD (t : Tk.Tok) : PyData := .tuple [.str (lkT t), .int ((t.2.2 : Nat) : Int)]
abbrev looksD (ts : List Tk.Tok) : List PyData := ts.map lookD
theorem vals_app (a b : List Tk.Tok) : vals (a ++ b) = vals a ++ vals b := List.flatMap_append
theorem vals_end (l : Nat) : vals [endTok l] = [] := by
  show valT (endTok l) ++ [] = []
  unfold valT
  rw [if_neg (by rw [endTok_1]; exact fun z => z.elim (fun h => absurd h (by decide +kernel)) (fun h => absurd h (by decide +kernel)))]
  rfl
theorem vals_wToks (l : Nat) (ps : List Pc) : vals (wToks l ps) = vals (wTk l ps) := by
  rw [wToks_eq, vals_app, vals_end, List.append_nil]
theorem looks_wToks (l : Nat) (ps : List Pc) : looksD (wToks l ps) = looksD (wTk l ps) ++ [.tuple [.str (o "END"), .int ((lnE l ps : Nat) : Int)]] := by
  rw [wToks_eq, looksD, List.map_append]
  rfl
theorem valT_len (t : Tk.Tok) : (valT t).length ≤ 1 := by
  unfold valT
  split
  · exact Nat.le_refl 1
  · exact Nat.zero_le _
theorem vals_len : ∀ (ps : List Pc) (l : Nat), (vals (wTk l ps)).length ≤ ps.length
  | [], _ => Nat.le_refl _
  | x :: ps, l => by
    have h1 := vals_len ps (l + gapLn x.2.2.2)
    have h2 := valT_len (x.1, x.2.1, l)
    show (valT _ ++ vals (wTk _ ps)).length ≤ _
    rw [List.length_append, List.length_cons]
    omega
theorem log_big {n : Nat} (h : n < 100000000000) : ((n : Nat) : Int).natAbs.log2 < 1920 := by
  rw [Int.natAbs_natCast]
  by_cases hz : n = 0
  · subst hz
    decide
  · exact (Nat.log2_lt hz).mpr (Nat.lt_of_lt_of_le h (Nat.le_trans (by decide : 100000000000 ≤ 2 ^ 40) (Nat.pow_le_pow_right (by decide) (by decide))))
/-- a drawn gap -/
theorem gap_of {i : Nat} {x : V} (h : ([V.str (o " "), .str (o " "), .str (o " "), .str (o "\n"), .str (o "  "), .str (o " # if {\n")] : List V)[i]? = some x) : ∃ g ∈ gaps, x = .str (S g) := by
  match i, h with
  | 0, e => cases e; exact ⟨[32], by decide, congrArg V.str (by decide +kernel)⟩
  | 1, e => cases e; exact ⟨[32], by decide, congrArg V.str (by decide +kernel)⟩
  | 2, e => cases e; exact ⟨[32], by decide, congrArg V.str (by decide +kernel)⟩
  | 3, e => cases e; exact ⟨[10], by decide, congrArg V.str (by decide +kernel)⟩
  | 4, e => cases e; exact ⟨[32, 32], by decide, congrArg V.str (by decide +kernel)⟩
  | 5, e => cases e; exact ⟨[32, 35, 32, 105, 102, 32, 123, 10], by decide, congrArg V.str (by decide +kernel)⟩
  | n + 6, e => cases e
/-- its last sign -/
theorem gap_last {g : List Nat} (h : g ∈ gaps) : ∃ c, atI (S g).cps.toList (-1) = some c ∧ gapLn g = if decide (V.str (S [c]) = V.str (o "\n")) = true then 1 else 0 := by
  have key : ∀ g ∈ gaps, ∃ c, atI (S g).cps.toList (-1) = some c ∧ gapLn g = if c = 10 then 1 else 0 := by
    intro g hg
    unfold gaps at hg
    simp only [List.mem_cons, List.not_mem_nil, or_false] at hg
    rcases hg with rfl | rfl | rfl | rfl
    · exact ⟨32, by decide +kernel, by decide +kernel⟩
    · exact ⟨10, by decide +kernel, by decide +kernel⟩
    · exact ⟨32, by decide +kernel, by decide +kernel⟩
    · exact ⟨10, by decide +kernel, by decide +kernel⟩
  obtain ⟨c, h1, h2⟩ := key g h
  refine ⟨c, h1, ?_⟩
  rw [h2]
  have e10 : o "\n" = S [10] := by decide +kernel
  by_cases hc : c = 10
  · rw [if_pos hc, if_pos (decide_eq_true (by rw [hc, e10]))]
  · rw [if_neg hc, if_neg]
    rw [decide_eq_true_iff]
    intro z
    have z2 := V.str.inj z
    rw [e10] at z2
    have z3 : ([c] : List Nat) = [10] := congrArg (fun s : Str => s.cps.toList) z2
    exact hc (List.cons.inj z3).1
end Pk
set_option Elab.async false
set_option linter.all false
set_option maxRecDepth 100000
set_option maxHeartbeats 4000000
namespace Pk
open PySem PySem.Spec PyProof.Rows L2 SX GxR Tk
abbrev sWri : Stmt := topS 70
abbrev NWri : List Str := ["state", "row", "text", "line", "looks", "values", "k", "part", "gap"]
theorem scWri : FnScope NWri ["state", "row"] (defScope sWri) := ⟨rfl, rfl, rfl, by decide +kernel, rfl, by decide +kernel, by decide +kernel⟩
/-- the text, the looks with their lines, the values -/
def spWri : Sp := fun vs H Q _ => ∃ (s c p : Addr) (G : Hp) (ws : List Str), vs = [.ref s, .ref p] ∧ Sg G H s c ∧ p ≠ s ∧ p ≠ c ∧ H p = some (.lst (ws.map V.str)) ∧ (∀ x ∈ ws, x ∈ trms) ∧ ws.length ≤ 6010 ∧
  ∀ (H' G' : Hp) (q lk va : Addr) (ps : List Pc) (xl xv : List V), Sg G' H' s c → Same G G' → Kp s c H H' → H' q = some (.tup [.str (S (wText ps)), .ref lk, .ref va]) → H' lk = some (.lst xl) → DrAll H' xl (looksD (wToks 1 ps)) → H' va = some (.lst xv) → DrAll H' xv (vals (wToks 1 ps)) → PcsOk ps ws → Q (.ref q) H'
/-- what stands between two pieces -/
def WrI (G H : Hp) (s c p : Addr) (ws : List Str) (i : Nat) (σ : L2.St) (H' : Hp) : Prop := ∃ (Gx : Hp) (lk va : Addr) (ps : List Pc) (xl xv : List V) (o6 o7 o8 : Option V), σ = [some (.ref s), some (.ref p), some (.str (S (wText ps))), some (.int ((lnE 1 ps : Nat) : Int)), some (.ref lk), some (.ref va), o6, o7, o8] ∧ Sg Gx H' s c ∧ Same G Gx ∧ Kp s c H H' ∧ Lf Gx H s c lk ∧ Lf Gx H s c va ∧ lk ≠ va ∧
  H' lk = some (.lst xl) ∧ H' va = some (.lst xv) ∧ DrAll Gx xl (looksD (wTk 1 ps)) ∧ DrAll Gx xv (vals (wTk 1 ps)) ∧ PcsOk ps (ws.take i)
section
variable {P : Program} {w : World} {K : PySem.W.Frag} {mg : Str → Option Value} {base : Heap}
theorem ok_wri {f : Addr} {fd : FuncData} (F : Fun K "_law_written" "_law_written" sWri f fd) (T : Bl mg) (zInt : mg "int" = none) (Dr1 : Df P w K mg base CX0 1 "_law_draw" ["state", "many"] spDraw) (Dr2 : Df P w K mg base CX0 2 "_law_pick" ["state", "row"] (spPick K)) (Dr3 : Df P w K mg base CX0 3 "_law_name" ["state", "k"] spNm) : FnOk P w K mg base CX0 4 f fd ["state", "row"] spWri := by
  obtain ⟨f1, fd1, G1, g1, k1, b1⟩ := Dr1.ex
  obtain ⟨f2, fd2, G2, g2, k2, b2⟩ := Dr2.ex
  obtain ⟨f3, fd3, G3, g3, k3, b3⟩ := Dr3.ex
  refine F.ok scWri (fun vs H Q E h => ?_) (fun cdv A outer s0 H vs Q E hr h => ?_)
  · obtain ⟨s, c, p, G, ws, rfl, _⟩ := h
    rfl
  · obtain ⟨s, c, p, G, ws, rfl, C0, ns, nc, hp, hw, hl, q⟩ := h
    have nd := scWri.nd
    refine ⟨_, (pss_cons (ps_set (i := 2) nd rfl (.inl rfl) pe_str)
      (pss_cons (ps_set (i := 3) nd rfl (.inl rfl) pe_int)
      (pss_cons (ps_set (i := 4) nd rfl (.inl rfl) (pe_lst pa_nil))
      (pss_cons (ps_set (i := 5) nd rfl (.inl rfl) (pe_lst pa_nil))
      (pss_cons (ps_for PassesOwn.never rfl (pi_range1 (by rfl) T.zRange (pa_cons (pe_callB call_len_seq (by rfl) T.zLen PySem.boot_len (pa_cons (pv 1) pa_nil)) pa_nil)) (pg_name (i := 6) nd rfl (.inl rfl))
        (pss_cons (ps_expr (pe_bm PySem.F.plainAttrs_list PySem.F.slot_list_append PySem.F.type_list_append mt_append (pv 4) (pa_cons (pe_tup (pa_cons (pe_ix ix_list (pv 1) (pv 6) (fun _ _ => rfl)) (pa_cons (pv 3) pa_nil))) pa_nil)))
        (pss_cons (ps_set (i := 7) nd rfl (.inl rfl) (pe_ix ix_list (pv 1) (pv 6) (fun _ _ => rfl)))
        (C8.pss_cut (ps_if (pt_cmpR op_eq (pv 7) pe_str (nomark _)) (pss_cons (ps_set (i := 7) nd rfl (.inl rfl) (pe_call G3 hr (by rfl) g3 k3 b3 .nil pass0 (pa_cons (pv 0) (pa_cons (pe_op op_sub (pv 6) (pe_op op_mul (pe_op op_fdivW (pv 6) pe_int) pe_int)) pa_nil))))
          (pss_one (ps_expr (pe_bm PySem.F.plainAttrs_list PySem.F.slot_list_append PySem.F.type_list_append mt_append (pv 5) (pa_cons (pv 7) pa_nil))))) (pss_one (ps_if (pt_cmpR op_eq (pv 7) pe_str (nomark _)) (pss_cons (ps_expr (pe_bm PySem.F.plainAttrs_list PySem.F.slot_list_append PySem.F.type_list_append mt_append (pv 5) (pa_cons (pe_call G2 (hr.mono (by omega)) (by rfl) g2 k2 b2 .nil pass0 (pa_cons (pv 0) (pa_cons (pe_lst (pa_cons pe_int (pa_cons pe_int (pa_cons (pe_call G1 (hr.mono (by omega)) (by rfl) g1 k1 b1 .nil pass0 (pa_cons (pv 0) (pa_cons pe_int pa_nil))) (pa_cons (pe_call G1 (hr.mono (by omega)) (by rfl) g1 k1 b1 .nil pass0 (pa_cons (pv 0) (pa_cons pe_int pa_nil))) pa_nil))))) pa_nil))) pa_nil)))
            (pss_one (ps_set (i := 7) nd rfl (.inl rfl) (pe_callTy call_str_int (by rfl) T.zStr (by decide +kernel) (pa_cons (pe_ix ix_list (pv 5) (pe_un un_neg pe_int) (fun _ _ => rfl)) pa_nil))))) pss_nil)))
        (pss_cons (ps_set (i := 8) nd rfl (.inl rfl) (pe_call G2 (hr.mono (by omega)) (by rfl) g2 k2 b2 .nil pass0 (pa_cons (pv 0) (pa_cons (pe_lst (pa_cons pe_str (pa_cons pe_str (pa_cons pe_str (pa_cons pe_str (pa_cons pe_str (pa_cons pe_str pa_nil))))))) pa_nil))))
        (pss_cons (ps_set (i := 2) nd rfl (.inl rfl) (pe_op op_add_str (pe_op op_add_str (pv 2) (pv 7)) (pv 8)))
        (pss_one (ps_set (i := 3) nd rfl (.inl rfl) (pe_op op_add (pv 3) (pe_callTy call_int1 (by rfl) zInt (by decide +kernel) (pa_cons (pe_cmpR op_eq (pe_ix ix_str (pv 8) (pe_un un_neg pe_int) (fun _ _ => rfl)) pe_str (nomark _)) pa_nil)))))))))))
      (pss_one (ps_ret (pe_tup (pa_cons (pv 2) (pa_cons (pe_op op_cat (pv 4) (pe_lst (pa_cons (pe_tup (pa_cons pe_str (pa_cons (pv 3) pa_nil))) pa_nil))) (pa_cons (pv 5) pa_nil))))))))))), ?_⟩
    have hS0 := C0.st
    refine ⟨Nat.zero_le _, fun lk hlk => ⟨Nat.zero_le _, fun va hva => ?_⟩⟩
    have Lk := Lf.of C0 (Kp.refl _ _ _) hS0 hlk
    have Lv := Lf.of C0 (Kp.refl _ _ _) hS0 ((same_new hlk).free hva)
    have C1 := (C0.set (o := .lst []) Lk.g Lk.n).set (o := .lst []) Lv.g Lv.n
    have nkv : lk ≠ va := ne_of_none upd_same hva
    have e1 : (upd (upd H lk (.lst [])) va (.lst [])) lk = some (.lst []) := by rw [upd_ne nkv, upd_same]
    have e2 : (upd (upd H lk (.lst [])) va (.lst [])) va = some (.lst []) := upd_same
    have kp1 := Lv.kp (o := .lst []) (Lk.kp (o := .lst []) (Kp.refl s c H))
    generalize upd (upd H lk (.lst [])) va (.lst []) = H1 at C1 e1 e2 kp1 ⊢
    refine ⟨_, rfl, p, _, rfl, .inl (SqL.of (kp1 _ _ ns nc hp)), ?_⟩
    rw [List.length_map]
    refine ⟨_, rfl, by omega, by omega, for_range (lo := 0) (n := ((ws.length : Nat) : Int).toNat) (fun i σ H' => WrI G H s c p ws i σ H') ⟨G, lk, va, [], [], [], none, none, none, rfl, C1, Same.refl _, kp1, Lk, Lv, nkv, e1, e2, .nil, .nil, by rw [List.take_zero]; exact .nil⟩ ?_ ?_⟩
    · clear e1 e2 C1 kp1 nkv Lk Lv hlk hva C0 q
      rintro i σ H' hi ⟨Gx, lk, va, ps, xl, xv, o6, o7, o8, rfl, C, sG, kp, Lk, Lv, nkv, elk, eva, dl, dv, hpo⟩
      rw [Int.toNat_natCast] at hi
      have hp1 := kp _ _ ns nc hp
      have hpl := Paired.length hpo
      rw [List.length_take] at hpl
      obtain ⟨x, hx⟩ : ∃ x, ws[i]? = some x := ⟨ws[i], List.getElem?_eq_getElem hi⟩
      have hxt := hw x (List.mem_of_getElem? hx)
      have hxv : (ws.map V.str)[i]? = some (V.str x) := by rw [List.getElem?_map, hx]; rfl
      have hat : atI (ws.map V.str) (0 + ((i : Nat) : Int)) = some (V.str x) := by rw [Int.zero_add]; exact atI_nat hxv
      have ll := drAll_len dl
      rw [List.length_map, wTk_len] at ll
      refine ⟨_, rfl, .inl ⟨rfl, _, SqL.of elk⟩, _, rfl, _, rfl, p, _, _, _, rfl, rfl, SqL.of hp1, hat, _, rfl, by show 2 ≤ sizeLine; decide, fun pt hpt => ?_⟩
      have Lt := Lf.of C kp hS0 hpt
      have s1 := same_new (o := .tup [.str x, .int ((lnE 1 ps : Nat) : Int)]) hpt
      have C2 := C.new (o := .tup [.str x, .int ((lnE 1 ps : Nat) : Int)]) hpt
      have kp2 := Lt.kp (o := .tup [.str x, .int ((lnE 1 ps : Nat) : Int)]) kp
      have nlt : lk ≠ pt := ne_of_none elk hpt
      have nvt : va ≠ pt := ne_of_none eva hpt
      refine ⟨lk, _, _, rfl, rfl, s1 _ _ elk, by rw [ll, sizeLine_eq]; omega, ?_⟩
      have gk2 : (upd Gx pt (.tup [.str x, .int ((lnE 1 ps : Nat) : Int)])) lk = none := by rw [upd_ne nlt]; exact Lk.g
      have gv2 : (upd Gx pt (.tup [.str x, .int ((lnE 1 ps : Nat) : Int)])) va = none := by rw [upd_ne nvt]; exact Lv.g
      have C3 := C2.set (o := .lst (xl ++ [.ref pt])) gk2 Lk.n
      have kp3 := Lk.kp (o := .lst (xl ++ [.ref pt])) kp2
      have elk3 : (upd (upd H' pt (.tup [.str x, .int ((lnE 1 ps : Nat) : Int)])) lk (.lst (xl ++ [.ref pt]))) lk = some (.lst (xl ++ [.ref pt])) := upd_same
      have eva3 : (upd (upd H' pt (.tup [.str x, .int ((lnE 1 ps : Nat) : Int)])) lk (.lst (xl ++ [.ref pt]))) va = some (.lst xv) := by rw [upd_ne (Ne.symm nkv)]; exact s1 _ _ eva
      have sGx : Same Gx (upd Gx pt (.tup [.str x, .int ((lnE 1 ps : Nat) : Int)])) := same_new2 Lt.g
      have sG3 := sG.trans sGx
      have dl3 : DrAll (upd Gx pt (.tup [.str x, .int ((lnE 1 ps : Nat) : Int)])) (xl ++ [.ref pt]) (looksD (wTk 1 ps) ++ [.tuple [.str x, .int ((lnE 1 ps : Nat) : Int)]]) := drAll_app (drAll_sub sGx dl) (.cons (.tup upd_same (.cons (.str _) (.cons (.int _) .nil))) .nil)
      have dv3 := drAll_sub sGx dv
      have Lk3 : Lf (upd Gx pt (.tup [.str x, .int ((lnE 1 ps : Nat) : Int)])) H s c lk := ⟨gk2, Lk.h, Lk.n⟩
      have Lv3 : Lf (upd Gx pt (.tup [.str x, .int ((lnE 1 ps : Nat) : Int)])) H s c va := ⟨gv2, Lv.h, Lv.n⟩
      generalize upd (upd H' pt (.tup [.str x, .int ((lnE 1 ps : Nat) : Int)])) lk (.lst (xl ++ [.ref pt])) = H3 at C3 kp3 elk3 eva3 ⊢
      generalize upd Gx pt (.tup [.str x, .int ((lnE 1 ps : Nat) : Int)]) = G3 at C3 sG3 dl3 dv3 Lk3 Lv3
      clear C2 kp2 gk2 gv2 sGx s1 elk eva dl dv Lk Lv sG C kp nlt nvt hp1 Lt hpt
      have hp3 := kp3 _ _ ns nc hp
      refine ⟨_, rfl, _, rfl, p, _, _, _, rfl, rfl, SqL.of hp3, hat, ?_⟩
      have lv := drAll_len dv3
      have hvl : (vals (wTk 1 ps)).length ≤ ps.length := vals_len ps 1
      refine ⟨fun σ H4 => ∃ (kd : Str) (v : V) (sg : List Nat) (xv2 : List V), σ = [some (.ref s), some (.ref p), some (.str (S (wText ps))), some (.int ((lnE 1 ps : Nat) : Int)), some (.ref lk), some (.ref va), some (.int (0 + ((i : Nat) : Int))), some (.str (S sg)), o8] ∧ Sg G3 H4 s c ∧ Kp s c H H4 ∧ H4 lk = some (.lst (xl ++ [.ref pt])) ∧ H4 va = some (.lst xv2) ∧ DrAll G3 xv2 (vals (wTk 1 ps) ++ valT (kd, v, lnE 1 ps)) ∧ sg.length ≤ 20 ∧ PieceOk kd v sg ∧ (∀ l, TkOk Nm2 (kd, v, l)) ∧ ∀ l, lkT (kd, v, l) = x, ?_, ?_⟩
      · have nS : ∀ {b : Addr}, b ≠ s → b ≠ c → True := fun _ _ => trivial
        refine ⟨_, rfl, rfl, _, rfl, ?_⟩
        by_cases hN : x = o "NAME"
        · refine iteDT (congrArg V.str hN) ?_
          refine ⟨_, rfl, _, rfl, _, rfl, _, _, rfl, rfl, ⟨by decide, by decide⟩, _, _, rfl, rfl, .inr ⟨by decide, by decide⟩, _, _, rfl, rfl, s, c, i % 10, by show [V.ref s, V.int ((0 + ((i : Nat) : Int)) - (0 + ((i : Nat) : Int)) / 10 * 10)] = _; rw [show (0 + ((i : Nat) : Int)) - (0 + ((i : Nat) : Int)) / 10 * 10 = ((i % 10 : Nat) : Int) by omega], C3.st, by omega, fun H5 nm hnm _ st5 kp5 => ?_⟩
          obtain ⟨pn, rfl, hln, hpc, htk⟩ := pc_name (hnm (by omega)) (by omega)
          have C5 := C3.kp kp5 st5
          have eva5 := kp5 _ _ Lv3.n.1 Lv3.n.2 eva3
          refine ⟨_, rfl, .inl ⟨rfl, _, SqL.of eva5⟩, _, rfl, va, _, _, rfl, rfl, eva5, by rw [lv, sizeLine_eq]; omega, ?_⟩
          refine ⟨Str.ofString "name", .str (S pn), pn, xv ++ [.str (S pn)], rfl, C5.set Lv3.g Lv3.n, Lv3.kp (kp3.trans kp5), by rw [upd_ne nkv]; exact kp5 _ _ Lk3.n.1 Lk3.n.2 elk3, upd_same, ?_, by omega, hpc, fun l => tk_up (htk l) (fun z e => by cases e; exact ⟨by rw [S_len]; omega, ok_run ((hpc.alt.resolve_right (fun z => absurd z.1 (by decide +kernel))).2)⟩), fun l => (lk_name rfl).trans hN.symm⟩
          rw [show valT (Str.ofString "name", V.str (S pn), lnE 1 ps) = [.str (S pn)] by unfold valT; rw [if_pos (.inl rfl)]; rfl]
          exact drAll_app dv3 (.cons (.str _) .nil)
        refine iteDF (fun z => hN (V.str.inj z)) ?_
        refine ⟨_, rfl, rfl, _, rfl, ?_⟩
        by_cases hM : x = o "NUM"
        · refine iteDT (congrArg V.str hM) ?_
          refine ⟨_, rfl, .inl ⟨rfl, _, SqL.of eva3⟩, _, rfl, _, rfl, s, c, 300, rfl, C3.st, by decide, by decide, fun H5 r r0 r1 st5 kp5 => ⟨_, rfl, s, c, 4294967296, rfl, st5, by decide, by decide, fun H6 u u0 u1 st6 kp6 => ⟨by show 4 ≤ sizeLine; decide, fun pl hpl => ?_⟩⟩⟩
          have C6 := (C3.kp kp5 st5).kp kp6 st6
          have n6 := C6.st.neS hpl
          have kp36 := kp3.trans (kp5.trans kp6)
          have eva6 := kp6 _ _ Lv3.n.1 Lv3.n.2 (kp5 _ _ Lv3.n.1 Lv3.n.2 eva3)
          have elk6 := kp6 _ _ Lk3.n.1 Lk3.n.2 (kp5 _ _ Lk3.n.1 Lk3.n.2 elk3)
          have Lp := Lf.of C6 kp36 hS0 hpl
          have s7 := same_new (o := .lst [.int 0, .int 1, .int r, .int u]) hpl
          refine ⟨s, c, pl, _, rfl, C6.st.new hpl, SqL.of upd_same, n6.1, n6.2, by show 0 < 4; decide, by show 4 ≤ 1000; decide, fun H8 j y hy st8 kp8 => ?_⟩
          obtain ⟨n, rfl, hn⟩ : ∃ n : Nat, y = .int ((n : Nat) : Int) ∧ n ≤ 4294967295 := by
            match j, hy with
            | 0, e => cases e; exact ⟨0, rfl, by decide⟩
            | 1, e => cases e; exact ⟨1, rfl, by decide⟩
            | 2, e => cases e; exact ⟨r.toNat, by rw [Int.toNat_of_nonneg r0], by omega⟩
            | 3, e => cases e; exact ⟨u.toNat, by rw [Int.toNat_of_nonneg u0], by omega⟩
            | k + 4, e => cases e
          have C8 := (C6.set (o := .lst [.int 0, .int 1, .int r, .int u]) (C6.sub.free hpl) n6).kp kp8 st8
          have kp38 := (Lp.kp (o := .lst [.int 0, .int 1, .int r, .int u]) kp36).trans kp8
          have eva8 := kp8 _ _ Lv3.n.1 Lv3.n.2 (s7 _ _ eva6)
          have elk8 := kp8 _ _ Lk3.n.1 Lk3.n.2 (s7 _ _ elk6)
          refine ⟨va, _, _, rfl, rfl, eva8, by rw [lv, sizeLine_eq]; omega, ?_⟩
          refine ⟨_, rfl, 1, rfl, va, _, -1, _, rfl, rfl, SqL.of upd_same, L2.atI_last _ _, _, rfl, log_big (by omega), ?_⟩
          obtain ⟨pn, en, hln, hpc⟩ := N49.num_piece hn
          rw [en]
          refine ⟨Str.ofString "number", .int ((n : Nat) : Int), pn, xv ++ [.int ((n : Nat) : Int)], rfl, C8.set Lv3.g Lv3.n, Lv3.kp kp38, by rw [upd_ne nkv]; exact elk8, upd_same, ?_, by omega, hpc, fun l => tk_up (tk_num n l) (fun z e => by cases e), fun l => (lk_num rfl).trans hM.symm⟩
          rw [show valT (Str.ofString "number", V.int ((n : Nat) : Int), lnE 1 ps) = [.int ((n : Nat) : Int)] by unfold valT; rw [if_pos (.inr rfl)]; rfl]
          exact drAll_app dv3 (.cons (.int _) .nil)
        refine iteDF (fun z => hM (V.str.inj z)) ?_
        have hx2 : x ∈ terms := by
          unfold trms at hxt
          rcases List.mem_append.mp hxt with h | h
          · exact h
          · rcases List.mem_cons.mp h with h | h
            · exact absurd h hN
            · exact absurd (List.mem_singleton.mp h) hM
        obtain ⟨kd, pn, ex, hln, hpc, htk⟩ := pc_word hx2
        obtain ⟨n1, n2, n3⟩ : kd ≠ Str.ofString "name" ∧ kd ≠ Str.ofString "number" ∧ kd ≠ Str.ofString "end" := by
          rcases (htk 0).ex with ⟨_, z, hz, nz, _⟩ | ⟨_, n, hz⟩ | ⟨h1, h2, h3, _⟩
          · exact absurd (V.str.inj hz ▸ hx2) nz
          · cases hz
          · exact ⟨h1, h2, h3⟩
        refine ⟨kd, .str x, pn, xv, by rw [← ex]; rfl, C3, kp3, elk3, eva3, ?_, hln, hpc, fun l => tk_up (htk l) (fun z e => by cases e; exact ⟨by rw [ex, S_len]; omega, terms_so _ hx2⟩), fun l => lk_word n1 n2 n3 rfl⟩
        rw [show valT (kd, V.str x, lnE 1 ps) = [] by unfold valT; rw [if_neg (fun z => z.elim n1 n2)], List.append_nil]
        exact dv3
      · rintro σ H4 ⟨kd, v, sg, xv2, rfl, C4, kp4, elk4, eva4, dv4, hsg, hpc, htk, hlk⟩
        refine ⟨_, rfl, by show 6 ≤ sizeLine; decide, fun pl hpl => ?_⟩
        have n6 := C4.st.neS hpl
        have Lp := Lf.of C4 kp4 hS0 hpl
        have s5 := same_new (o := .lst [V.str (o " "), V.str (o " "), V.str (o " "), V.str (o "\n"), V.str (o "  "), V.str (o " # if {\n")]) hpl
        refine ⟨s, c, pl, _, rfl, C4.st.new hpl, SqL.of upd_same, n6.1, n6.2, by show 0 < 6; decide, by show 6 ≤ 1000; decide, fun H6 j y hy st6 kp6 => ?_⟩
        obtain ⟨g, hg, rfl⟩ := gap_of hy
        obtain ⟨ch, hch, egl⟩ := gap_last hg
        have hgl := gap_len hg
        have htl := text_len hpo
        rw [List.length_take] at htl
        have C6 := (C4.set (o := .lst [V.str (o " "), V.str (o " "), V.str (o " "), V.str (o "\n"), V.str (o "  "), V.str (o " # if {\n")]) (C4.sub.free hpl) n6).kp kp6 st6
        have kp06 := (Lp.kp (o := .lst [V.str (o " "), V.str (o " "), V.str (o " "), V.str (o "\n"), V.str (o "  "), V.str (o " # if {\n")]) kp4).trans kp6
        refine ⟨_, rfl, _, rfl, _, _, rfl, rfl, by rw [S_len, S_len, sizeLine_eq]; omega, _, rfl, _, _, rfl, rfl, by rw [S_cat, S_len, S_len, List.length_append, sizeLine_eq]; omega, ?_⟩
        refine ⟨_, rfl, _, rfl, 1, rfl, _, -1, ch, rfl, rfl, by rw [S_len, sizeLine_eq]; omega, hch, rfl, .inr ⟨_, rfl, _, _, rfl, rfl, ?_⟩⟩
        refine ⟨G3, lk, va, ps ++ [(kd, v, sg, g)], xl ++ [.ref pt], xv2, some (.int (0 + ((i : Nat) : Int))), some (.str (S sg)), some (.str (S g)), ?_, C6, sG3, kp06, Lk3, Lv3, nkv, kp6 _ _ Lk3.n.1 Lk3.n.2 (s5 _ _ elk4), kp6 _ _ Lv3.n.1 Lv3.n.2 (s5 _ _ eva4), ?_, ?_, ?_⟩
        · rw [S_cat, S_cat, List.append_assoc, wText_snoc, lnE_snoc]
          show _ = [_, _, _, some (V.int ((lnE 1 ps + gapLn g : Nat) : Int)), _, _, _, _, _]
          rw [egl]
          generalize decide (V.str (S [ch]) = V.str (o "\n")) = bb
          cases bb <;> rfl
        · rw [wTk_snoc, looksD, List.map_append]
          show DrAll G3 _ (looksD (wTk 1 ps) ++ [.tuple [.str (lkT (kd, v, lnE 1 ps)), .int ((lnE 1 ps : Nat) : Int)]])
          rw [hlk]
          exact dl3
        · rw [wTk_snoc, vals_app]
          show DrAll G3 _ (vals (wTk 1 ps) ++ (valT (kd, v, lnE 1 ps) ++ []))
          rw [List.append_nil]
          exact dv4
        · rw [List.take_add_one, hx]
          exact paired_snoc ⟨hpc, hg, htk, hsg, hlk⟩ hpo
    · rintro σ H' ⟨Gx, lk, va, ps, xl, xv, o6, o7, o8, rfl, C, sG, kp, Lk, Lv, nkv, elk, eva, dl, dv, hpo⟩
      rw [Int.toNat_natCast, List.take_length] at hpo
      have ll := drAll_len dl
      have hpl := Paired.length hpo
      rw [List.length_map, wTk_len, hpl] at ll
      refine ⟨_, rfl, _, rfl, _, rfl, by show 2 ≤ sizeLine; decide, fun p1 hp1 => ⟨by show 1 ≤ sizeLine; decide, fun p2 hp2 => ?_⟩⟩
      have s1 := same_new (o := .tup [.str (o "END"), .int ((lnE 1 ps : Nat) : Int)]) hp1
      have s2 := same_new (o := .lst [.ref p1]) hp2
      refine ⟨lk, p2, xl, [.ref p1], rfl, rfl, s2 _ _ (s1 _ _ elk), upd_same, by rw [ll, sizeLine_eq]; show _ + 1 ≤ _; omega, fun p3 hp3 => ?_⟩
      have s3 := same_new (o := .lst (xl ++ [.ref p1])) hp3
      refine ⟨_, rfl, by show 3 ≤ sizeLine; decide, fun p4 hp4 => ?_⟩
      have s4 := same_new (o := .tup [.str (S (wText ps)), .ref p3, .ref va]) hp4
      have s14 := ((s1.trans s2).trans s3).trans s4
      have e1 := s4 _ _ (s3 _ _ (s2 _ _ (upd_same (H := H') (a := p1) (o := .tup [.str (o "END"), .int ((lnE 1 ps : Nat) : Int)]))))
      refine q _ Gx p4 p3 va ps _ xv (C.same s14) sG (kp.trans (Kp.same s14)) upd_same (s4 _ _ upd_same) ?_ (s14 _ _ eva) ?_ hpo
      · rw [looks_wToks]
        exact drAll_app (drAll_sub (C.sub.trans s14) dl) (.cons (.tup e1 (.cons (.str _) (.cons (.int _) .nil))) .nil)
      · rw [vals_wToks]
        exact drAll_sub (C.sub.trans s14) dv
end
end Pk
set_option Elab.async false
set_option linter.all false
set_option maxRecDepth 100000
set_option maxHeartbeats 4000000
namespace Pk
open PySem PySem.Spec PyProof.Rows L2 SX GxR Tk
theorem fnd_filter (l : Str) : ∀ rows : List (Str × Str), fnd l (rows.map fun r => (r.1, Txt.words r.2)) = ((rows.filter fun r => decide (r.1 ∈ [l, o ""])).map fun r => Txt.words r.2).head?
  | [] => rfl
  | r :: rows => by
    rw [List.map_cons, fnd, List.filter_cons]
    by_cases h : r.1 = l ∨ r.1 = o ""
    · have h2 : r.1 ∈ [l, o ""] := by simpa using h
      rw [if_pos h, if_pos (decide_eq_true h2)]
      rfl
    · have h2 : ¬ r.1 ∈ [l, o ""] := by simpa using h
      rw [if_neg h, if_neg (fun z => h2 (of_decide_eq_true z)), fnd_filter l rows]
theorem row_ix {G : Hp} {ts : List V} {rows : List (Str × Str)} {x : V} {j : Nat} (h : DrAll G ts (rows.map rowD)) (hx : ts[j]? = some x) : ∃ a rw, rows[j]? = some rw ∧ x = .ref a ∧ G a = some (.tup [.str rw.1, .str rw.2]) := by
  obtain ⟨d, hd, hr⟩ := drAll_val h hx
  rw [List.getElem?_map] at hd
  obtain ⟨rw0, e1, rfl⟩ := Option.map_eq_some_iff.mp hd
  obtain ⟨a, xs, rfl, e2, e3⟩ := dr_tup hr
  obtain ⟨v1, r1, rfl, d1, e4⟩ := drAll_cons e3
  obtain ⟨v2, r2, rfl, d2, e5⟩ := drAll_cons e4
  obtain rfl := drAll_nil e5
  obtain rfl := dr_str d1
  obtain rfl := dr_str d2
  exact ⟨a, rw0, e1, rfl, e2⟩
/-- what a symbol that stands for others is replaced by -/
theorem expd_of {x l : Str} {rows : List (Str × Str)} (h : gRul.lookup x = some rows) : expd g49 x l = ((rows.filter fun r => decide (r.1 ∈ [l, o ""])).map fun r => Txt.words r.2).head? := by
  unfold expd
  rw [g49_look, h]
  exact fnd_filter l rows
theorem line_look (t : Tk.Tok) (r : List Tk.Tok) : lineAt (t :: r) = t.2.2 ∧ lookAt (t :: r) = lkT t := ⟨rfl, rfl⟩
/-- the stack: END stands at its ground alone -/
def SkOk (st : List Str) : Prop := st = [o "$program"] ∨ st = [] ∨ ∃ a, st = a ++ [o "END"] ∧ ∀ x ∈ a, x ≠ o "END" ∧ x ≠ o "$program"
theorem prog_words : g49.lookup (o "$program") = some [(o "program", [o "program", o "NAME", o "$headers", o "$meta", o "parser", o "{", o "$states", o "}", o "$actions", o "$tables", o "control", o "$block", o "$emit"] ++ [o "END"])] := rfl
theorem g49_inner : ∀ g ∈ g49, g.1 ≠ o "$program" → ∀ r ∈ g.2, ∀ x ∈ r.2, x ≠ o "END" ∧ x ≠ o "$program" := by decide +kernel
theorem end_no : nt49 (o "END") = false ∧ nt49 (o "$program") = true := by decide +kernel
theorem fnd_mem {l : Str} {a : List Str} : ∀ {rows : List (Str × List Str)}, fnd l rows = some a → ∃ b, (b, a) ∈ rows
  | (b, c) :: rows, h => by
    rw [fnd] at h
    split at h
    · cases h
      exact ⟨b, List.mem_cons_self⟩
    · obtain ⟨d, hd⟩ := fnd_mem h
      exact ⟨d, List.mem_cons_of_mem _ hd⟩
theorem sk_nt {x l : Str} {st a : List Str} (h : SkOk (x :: st)) (hx : nt49 x = true) (e : expd g49 x l = some a) : SkOk (a ++ st) ∧ a ++ st ≠ [] := by
  unfold expd at e
  obtain ⟨rows, e1, e2⟩ := Option.bind_eq_some_iff.mp e
  obtain ⟨b, hb⟩ := fnd_mem e2
  rcases h with h | h | ⟨a2, h, h2⟩
  · obtain ⟨rfl, rfl⟩ := List.cons.inj h
    rw [prog_words] at e1
    cases e1
    obtain ⟨rfl, rfl⟩ := Prod.mk.inj (List.mem_singleton.mp hb)
    refine ⟨.inr (.inr ⟨_, List.append_nil _, by decide +kernel⟩), by simp⟩
  · cases h
  · cases a2 with
    | nil =>
      have := (List.cons.inj h).1
      rw [this, end_no.1] at hx
      cases hx
    | cons y a3 =>
      rw [List.cons_append] at h
      obtain ⟨rfl, rfl⟩ := List.cons.inj h
      have hp := (h2 x List.mem_cons_self).2
      have hin := g49_inner (x, rows) (lookup_mem e1) hp (b, a) hb
      refine ⟨.inr (.inr ⟨a ++ a3, by rw [List.append_assoc], fun y hy => ?_⟩), by simp⟩
      rcases List.mem_append.mp hy with hy | hy
      · exact hin y hy
      · exact h2 y (List.mem_cons_of_mem _ hy)
theorem sk_tm {x : Str} {st : List Str} (h : SkOk (x :: st)) (hx : nt49 x = false) : (x = o "END" ∧ st = []) ∨ (x ≠ o "END" ∧ SkOk st) := by
  rcases h with h | h | ⟨a, h, h2⟩
  · have := (List.cons.inj h).1
    rw [this, end_no.2] at hx
    cases hx
  · cases h
  · cases a with
    | nil => exact .inl ⟨(List.cons.inj h).1, (List.cons.inj h).2⟩
    | cons y a3 =>
      rw [List.cons_append] at h
      obtain ⟨rfl, rfl⟩ := List.cons.inj h
      exact .inr ⟨(h2 x List.mem_cons_self).1, .inr (.inr ⟨a3, rfl, fun y hy => h2 y (List.mem_cons_of_mem _ hy)⟩)⟩
theorem end_trms : o "END" ∉ trms := by decide +kernel
theorem plain_end {x : Str} (h : x ∈ tsy) (hn : x ≠ o "END") : plainS x ≠ o "END" := fun z => end_trms (z ▸ tsy_plain x h hn)
/-- looks as they stand -/
theorem look_at {G : Hp} {xl : List V} {r : List Tk.Tok} {k : Nat} {t : Tk.Tok} (h : DrAll G xl (looksD r)) (e : r[k]? = some t) : ∃ a, xl[k]? = some (.ref a) ∧ G a = some (.tup [.str (lkT t), .int ((t.2.2 : Nat) : Int)]) := by
  obtain ⟨v, hv, hd⟩ := drAll_at h (i := k) (d := lookD t) (by rw [List.getElem?_map, e]; rfl)
  obtain ⟨a, xs, rfl, e2, e3⟩ := dr_tup hd
  obtain ⟨v1, r1, rfl, d1, e4⟩ := drAll_cons e3
  obtain ⟨v2, r2, rfl, d2, e5⟩ := drAll_cons e4
  obtain rfl := drAll_nil e5
  obtain rfl := dr_str d1
  obtain rfl := dr_int d2
  exact ⟨a, hv, e2⟩
theorem good_ne {nm : Str → Prop} {r : Rem} (h : Good nm r) : ∃ t r2, r = t :: r2 := by
  rcases h.cases with ⟨l, rfl⟩ | ⟨t, r2, rfl, _⟩
  · exact ⟨_, _, rfl⟩
  · exact ⟨_, _, rfl⟩
end Pk
set_option Elab.async false
set_option linter.all false
set_option maxRecDepth 100000
set_option maxHeartbeats 4000000
namespace Pk
open PySem PySem.Spec PyProof.Rows L2 SX GxR Tk
abbrev sLin : Stmt := topS 71
abbrev NLin : List Str := ["rules", "looks", "stack", "at", "depth", "nots", "k", "symbol", "look", "line", "row", "rows"]
theorem scLin : FnScope NLin ["rules", "looks"] (defScope sLin) := ⟨rfl, rfl, rfl, by decide +kernel, rfl, by decide +kernel, by decide +kernel⟩
/-- what the recogniser tells -/
def spLin : Sp := fun vs H Q _ => ∃ (d lk : Addr) (xl : List V) (r : List Tk.Tok), vs = [.ref d, .ref lk] ∧ RulG H d ∧ H lk = some (.lst xl) ∧ DrAll H xl (looksD r) ∧ Good (fun x => hasDig x = true) r ∧ r.length ≤ 6011 ∧
  ∀ H', Same H H' → Q (.int (pd g49 nt49 (30 * r.length + 60) [o "$program"] 0 0 r)) H'
/-- what stands between two steps -/
def LnI (H : Hp) (d lk : Addr) (r : List Tk.Tok) (res : Int) (n i : Nat) (σ : L2.St) (H' : Hp) : Prop := ∃ (l : Addr) (st : List Str) (k : Nat) (dp nt : Int) (o6 o7 o8 o9 o11 : Option V), σ = [some (.ref d), some (.ref lk), some (.ref l), some (.int ((k : Nat) : Int)), some (.int dp), some (.int nt), o6, o7, o8, o9, none, o11] ∧ Same H H' ∧ H l = none ∧
  H' l = some (.lst (st.reverse.map V.str)) ∧ (∀ x ∈ st, x ∈ syms) ∧ SkOk st ∧ (st ≠ [] → Good (fun x => hasDig x = true) (r.drop k)) ∧ st.length ≤ 1 + 20 * i ∧ k ≤ i ∧ pd g49 nt49 (n - i) st dp nt (r.drop k) = res
section
variable {P : Program} {w : World} {K : PySem.W.Frag} {mg : Str → Option Value} {base : Heap}
theorem ok_lin {f : Addr} {fd : FuncData} {lv : Nat} (F : Fun K "_law_line" "_law_line" sLin f fd) (T : Bl mg) (zInt : mg "int" = none) : FnOk P w K mg base CX0 (lv + 1) f fd ["rules", "looks"] spLin := by
  refine F.ok scLin (fun vs H Q E h => ?_) (fun cdv A outer s0 H vs Q E hr h => ?_)
  · obtain ⟨d, lk, xl, r, rfl, _⟩ := h
    rfl
  · obtain ⟨d, lk, xl, r, rfl, hR, elk, dl, hG, hl, q⟩ := h
    have nd := scLin.nd
    refine ⟨_, (pss_cons (ps_set (i := 2) nd rfl (.inl rfl) (pe_lst (pa_cons pe_str pa_nil)))
      (pss_cons (ps_set (i := 3) nd rfl (.inl rfl) pe_int)
      (pss_cons (ps_set (i := 4) nd rfl (.inl rfl) pe_int)
      (pss_cons (ps_set (i := 5) nd rfl (.inl rfl) pe_int)
      (pss_cons (ps_for PassesOwn.never rfl (pi_range1 (by rfl) T.zRange (pa_cons (pe_op op_add (pe_op op_mul pe_int (pe_callB call_len_seq (by rfl) T.zLen PySem.boot_len (pa_cons (pv 1) pa_nil))) pe_int) pa_nil)) (pg_name (i := 6) nd rfl (.inl rfl))
        (pss_cons (ps_if (pt_cmpR op_eq (pe_callB call_len_seq (by rfl) T.zLen PySem.boot_len (pa_cons (pv 2) pa_nil)) pe_int (nomark _)) (pss_one (ps_ret pe_int)) pss_nil)
        (pss_cons (ps_set (i := 7) nd rfl (.inl rfl) (pe_bm0 PySem.F.plainAttrs_list PySem.F.slot_list_pop PySem.F.type_list_pop mt_pop (pv 2)))
        (pss_cons (ps_asg (pe_ix ix_list (pv 1) (pv 3) (fun _ _ => rfl)) (pg_tup (by rfl) (pgs_cons (pg_name (i := 8) nd rfl (.inr rfl)) (pgs_cons (pg_name (i := 9) nd rfl (.inl rfl)) pgs_nil))))
        (pss_one (ps_if (pt_cmpR op_eq (pe_ix ix_str (pv 7) pe_int (fun _ _ => rfl)) pe_str (nomark _)) (pss_cons (ps_setLc (i := 11) (own := [("row", 10)]) (g := gName 10) rfl nd rfl rfl (sw_true rfl rfl rfl (by decide +kernel)) (pi_list (pe_dget (hu_of hr) (pv 0) (pv 7) (fun _ _ => rfl))) (blkOk_by (own := [("row", 10)]) (N := NLin) (sc := defScope sLin) (by decide +kernel)) (fun _ _ _ _ _ => (pg_name (i := 10) nd rfl (Or.inl rfl))) (fun _ _ _ _ _ => (pts_one (pt_cmpR (r := rIn K false) op_in_seq (pe_ix (r := rIxT K) ix_tup (pv 10) pe_int (fun _ _ => rfl)) (pe_tup (pa_cons (pv 8) (pa_cons pe_str pa_nil))) (by rfl)))) (fun _ _ _ _ _ => (pe_ix (r := rIxT K) ix_tup (pv 10) pe_int (fun _ _ => rfl))))
          (pss_cons (ps_if (pt_cmpR op_eq (pe_callB call_len_seq (by rfl) T.zLen PySem.boot_len (pa_cons (pv 11) pa_nil)) pe_int (nomark _)) (pss_one (ps_ret (pv 9))) pss_nil)
          (pss_one (ps_set (i := 2) nd rfl (.inl rfl) (pe_op op_cat (pv 2) (pe_rev (pe_words (pe_ix ix_list (pv 11) pe_int (fun _ _ => rfl))) (pe_un un_neg pe_int))))))) (pss_cons (ps_set (i := 4) nd rfl (.inl rfl) (pe_op op_sub (pe_op op_add (pv 4) (pe_callTy call_int1 (by rfl) zInt (by decide +kernel) (pa_cons (pe_cmpR op_eq (pv 7) pe_str (nomark _)) pa_nil))) (pe_callTy call_int1 (by rfl) zInt (by decide +kernel) (pa_cons (pe_cmpR op_eq (pv 7) pe_str (nomark _)) pa_nil))))
          (C8.pss_cut (ps_set (i := 5) nd rfl (.inl rfl) (pe_ifExp (pt_cmpR op_eq (pv 7) pe_str (nomark _)) pe_int (pe_op op_add (pv 5) (pe_callTy call_int1 (by rfl) zInt (by decide +kernel) (pa_cons (pe_cmpR op_eq (pv 7) pe_str (nomark _)) pa_nil)))))
          (pss_cons (ps_if (PW.pt (pw_or (pt_cmpR op_ne (pe_dget2 (hu_of hr) (pe_disp (pps_cons pe_str pe_str (pps_cons pe_str pe_str (pps_cons pe_str pe_str pps_nil))) (by rfl) (by rfl) (fun z => by cases z) (by decide)) (pv 7) (pv 7) ⟨rfl, rfl, rfl, rfl⟩) (pv 8) (nomark _)) (pw_or (pt_cmpR op_gt (pv 4) pe_int (nomark _)) (pw_or1 (pt_cmpR op_gt (pv 5) pe_int (nomark _)))))) (pss_one (ps_ret (pv 9))) pss_nil)
          (pss_one (ps_set (i := 3) nd rfl (.inl rfl) (pe_op op_add (pv 3) pe_int))))))))))))
      (pss_one (ps_ret (pe_un un_neg pe_int)))))))), ?_⟩
    have hll := drAll_len dl
    rw [List.length_map] at hll
    obtain ⟨kvs, hkd, hD⟩ := hR
    refine ⟨by show 1 ≤ sizeLine; decide, fun l hlN => ?_⟩
    refine ⟨_, rfl, lk, _, rfl, .inl (SqL.of ((same_new hlN) _ _ elk)), ?_⟩
    refine ⟨_, _, rfl, rfl, .inl ⟨by decide, by decide⟩, _, _, rfl, rfl, ?_⟩
    have hN : (30 * ((xl.length : Nat) : Int) + 60).toNat = 30 * r.length + 60 := by omega
    have eqv : ∃ res, pd g49 nt49 (30 * r.length + 60) [o "$program"] 0 0 r = res := ⟨_, rfl⟩
    obtain ⟨res, hres⟩ := eqv
    rw [hres] at q
    rw [← hN] at hres
    have hN2 : (30 * ((xl.length : Nat) : Int) + 60).toNat ≤ 200000 := by omega
    generalize hNN : (30 * ((xl.length : Nat) : Int) + 60).toNat = N at hres hN2
    refine ⟨_, rfl, by omega, by omega, for_range (lo := 0) (n := (30 * ((xl.length : Nat) : Int) + 60).toNat) (fun i σ H' => LnI H d lk r res N i σ H') ⟨l, [o "$program"], 0, 0, 0, none, none, none, none, none, rfl, same_new hlN, hlN, upd_same, (fun x hx => by rw [List.mem_singleton.mp hx]; exact List.mem_cons_self), .inl rfl, fun _ => hG, by show 1 ≤ 1 + 20 * 0; decide, Nat.le_refl _, hres⟩ ?_ ?_⟩
    · rw [hNN]
      clear hNN hres hN hlN l hG
      rintro i σ H' hi ⟨l, st, k, dp, nt, o6, o7, o8, o9, o11, rfl, sm, hl0, el, hst, hsk, hgd, bst, bk, hpd⟩
      obtain ⟨f1, ef⟩ : ∃ f1, N - i = f1 + 1 := ⟨N - i - 1, by omega⟩
      have ef2 : N - (i + 1) = f1 := by omega
      rw [ef] at hpd
      refine ⟨_, rfl, l, _, rfl, .inl (SqL.of el), rfl, _, rfl, ?_⟩
      rw [dcInt]
      cases st with
      | nil =>
        refine iteDT rfl ?_
        have e0 : (0 : Int) = res := hpd
        rw [← e0] at q
        exact q _ sm
      | cons x st =>
        refine iteDF (by rw [List.length_map, List.length_reverse, List.length_cons]; omega) ?_
        have hx := hst x List.mem_cons_self
        have hst0 : ∀ y ∈ st, y ∈ syms := fun y hy => hst y (List.mem_cons_of_mem _ hy)
        rw [List.length_cons] at bst
        have erev : (x :: st).reverse.map V.str = st.reverse.map V.str ++ [V.str x] := by rw [List.reverse_cons, List.map_append]; rfl
        rw [erev] at el
        have hlast : (st.reverse.map V.str ++ [V.str x])[(st.reverse.map V.str ++ [V.str x]).length - 1]? = some (V.str x) := by
          rw [List.length_append]
          show (st.reverse.map V.str ++ [V.str x])[(st.reverse.map V.str).length]? = _
          rw [List.getElem?_concat_length]
        refine ⟨_, rfl, .inl ⟨rfl, _, SqL.of el⟩, l, _, _, rfl, rfl, el, hlast, ?_⟩
        rw [List.dropLast_concat]
        have sm5 : Same H (upd H' l (.lst (st.reverse.map V.str))) := fun b u e => by
          rw [upd_ne (ne_of_none e hl0)]
          exact sm b u e
        have el5 : (upd H' l (.lst (st.reverse.map V.str))) l = some (.lst (st.reverse.map V.str)) := upd_same
        generalize upd H' l (.lst (st.reverse.map V.str)) = H5 at sm5 el5 ⊢
        clear el sm hst hlast erev
        have hg := hgd (List.cons_ne_nil _ _)
        obtain ⟨t, r2, er⟩ := good_ne hg
        have ht : r[k]? = some t := by
          have := congrArg (fun z : List Tk.Tok => z[0]?) er
          simpa [List.getElem?_drop] using this
        obtain ⟨ta, hta, gta⟩ := look_at dl ht
        rw [er] at hg hpd
        refine ⟨_, rfl, _, rfl, lk, _, _, _, rfl, rfl, SqL.of (sm5 _ _ elk), atI_nat hta, ta, _, rfl, SqT.of (sm5 _ _ gta), rfl, _, _, rfl, _, _, rfl, rfl, ?_⟩
        rw [pd] at hpd
        rw [(line_look t r2).1, (line_look t r2).2] at hpd
        rcases sym_facts x hx with ⟨h0, hl, hnt⟩ | ⟨h0, h1, h2, hnt⟩
        · obtain ⟨ch, hch, ech⟩ := Option.map_eq_some_iff.mp h0
          refine ⟨_, rfl, x, 0, ch, rfl, rfl, Nat.le_of_lt (small1000 (by have := syms_len x hx; omega)), hch, rfl, _, rfl, ?_⟩
          refine iteDT (congrArg V.str ech) ?_
          obtain ⟨rows, hrows⟩ := Option.isSome_iff_exists.mp hl
          obtain ⟨v, hv, dv⟩ := hD.val hrows
          obtain ⟨rr, ts, rfl, er2, dts⟩ := dr_lst dv
          rw [if_pos hnt] at hpd
          have hex := expd_of (l := lkT t) hrows
          have lts := drAll_len dts
          rw [List.length_map] at lts
          have hrw2 : rows.length ≤ 20 := (row_facts _ (lookup_mem hrows)).2.1
          refine ⟨_, rfl, _, rfl, d, .ref rr, rfl, .inl ⟨kvs, .inr x, .inl (sm5 _ _ hkd), rfl, hv.symm⟩, rr, rfl, ⟨_, SqL.of (sm5 _ _ er2)⟩, fun D hD5 => ?_⟩
          have hD0 : H D = none := sm5.free hD5
          refine lc_list (K := K) (a := rr) (xs := ts) (fun j H6 => Same H5 H6 ∧ H6 D = some (.lst (((rows.take j).filter fun r => decide (r.1 ∈ [lkT t, o ""])).map fun r => V.str r.2))) ⟨same_new hD5, upd_same⟩ (fun j H6 _ h => SqL.of (h.1 _ _ (sm5 _ _ er2))) ?_ ?_
          · rintro j y H6 hy ⟨sm6, eD6⟩
            obtain ⟨a0, rw0, hj, rfl, ga0⟩ := row_ix dts hy
            have ga6 := sm6 _ _ (sm5 _ _ ga0)
            refine ⟨rfl, _, rfl, a0, _, 0, _, rfl, rfl, SqT.of ga6, atI_nat (j := 0) rfl, _, rfl, by show 2 ≤ sizeLine; decide, fun pt hpt => ?_⟩
            have npD : D ≠ pt := ne_of_none eD6 hpt
            have s7 := same_new (o := .tup [.str (lkT t), .str (o "")]) hpt
            have eD7 := s7 _ _ eD6
            have sm7 := sm6.trans s7
            have ga7 := s7 _ _ ga6
            refine ⟨pt, _, rfl, .inr (SqT.of upd_same), rfl, rfl, _, rfl, ?_⟩
            rw [show inV (V.str rw0.1) [V.str (lkT t), V.str (Str.ofString "")] = decide (rw0.1 ∈ [lkT t, o ""]) from inV_strs [lkT t, o ""]]
            rw [List.take_add_one, hj, List.filter_append]
            have hlen : (((rows.take j).filter fun r => decide (r.1 ∈ [lkT t, o ""])).map fun r => V.str r.2).length < sizeLine := by
              rw [List.length_map, sizeLine_eq]
              have := List.length_filter_le (fun r : Str × Str => decide (r.1 ∈ [lkT t, o ""])) (rows.take j)
              rw [List.length_take] at this
              omega
            by_cases he : rw0.1 ∈ [lkT t, o ""]
            · rw [decide_eq_true he, show (Option.some rw0).toList.filter (fun r : Str × Str => decide (r.1 ∈ [lkT t, o ""])) = [rw0] by show [rw0].filter _ = _; rw [List.filter_cons, decide_eq_true he]; rfl]
              dsimp only
              rw [if_pos (by rfl)]
              refine ⟨_, rfl, a0, _, 1, _, rfl, rfl, SqT.of ga7, atI_nat (j := 1) rfl, _, eD7, hlen, fun b u e => ?_, ?_⟩
              · rw [upd_ne (ne_of_none e hD5)]
                exact sm7 _ _ e
              · rw [upd_same, List.map_append]
                rfl
            · rw [decide_eq_false he, show (Option.some rw0).toList.filter (fun r : Str × Str => decide (r.1 ∈ [lkT t, o ""])) = [] by show [rw0].filter _ = _; rw [List.filter_cons, decide_eq_false he]; rfl, List.append_nil]
              dsimp only
              rw [if_neg (by decide)]
              exact ⟨sm7, eD7⟩
          · rintro H6 ⟨sm6, eD6⟩
            rw [lts, List.take_length] at eD6
            have sm06 := sm5.trans sm6
            have el6 := sm6 _ _ el5
            refine ⟨_, rfl, D, _, rfl, .inl (SqL.of eD6), rfl, _, rfl, ?_⟩
            rw [dcInt, List.length_map]
            have hmem : ∀ r0 ∈ rows.filter (fun r => decide (r.1 ∈ [lkT t, o ""])), r0 ∈ rows := fun r0 h => (List.mem_filter.mp h).1
            generalize rows.filter (fun r => decide (r.1 ∈ [lkT t, o ""])) = FL at hex eD6 hmem ⊢
            cases FL with
            | nil =>
              rw [show expd g49 x (lkT t) = none from hex] at hpd
              refine iteDT rfl ⟨_, rfl, ?_⟩
              rw [show ((t.2.2 : Nat) : Int) = res from hpd]
              exact q _ sm06
            | cons r0 FL =>
              rw [show expd g49 x (lkT t) = some (Txt.words r0.2) from hex] at hpd
              refine iteDF (by rw [List.length_cons]; omega) ?_
              obtain ⟨hwm, hwl, hws⟩ := words_in hrows (hmem r0 List.mem_cons_self)
              have hrl := ((row_facts _ hwm).2.2 r0 (hmem r0 List.mem_cons_self)).1
              refine ⟨_, rfl, _, rfl, D, _, 0, _, rfl, rfl, SqL.of eD6, atI_nat (j := 0) rfl, ⟨_, rfl⟩, _, rfl, rfl, Nat.le_of_lt (small1000 (by omega)), fun pw hpw => ?_⟩
              refine ⟨_, rfl, rfl, pw, _, rfl, SqL.of upd_same, fun pr hpr => ?_⟩
              have s1 := same_new (o := .lst ((Txt.words r0.2).map V.str)) hpw
              have s2 := same_new (o := .lst ((Txt.words r0.2).map V.str).reverse) hpr
              have hll2 : (st.reverse.map V.str).length + ((Txt.words r0.2).map V.str).reverse.length ≤ 1 + 20 * (i + 1) := by
                rw [List.length_reverse, List.length_map, List.length_map, List.length_reverse]
                omega
              refine ⟨l, pr, _, _, rfl, rfl, s2 _ _ (s1 _ _ el6), upd_same, by rw [sizeLine_eq]; omega, fun pn hpn => ?_⟩
              have s3 := same_new (o := .lst (st.reverse.map V.str ++ ((Txt.words r0.2).map V.str).reverse)) hpn
              have s03 := ((sm06.trans s1).trans s2).trans s3
              obtain ⟨k1, k2⟩ := sk_nt hsk hnt hex
              refine ⟨pn, Txt.words r0.2 ++ st, k, dp, nt, _, _, _, _, _, rfl, s03, (((sm06.trans s1).trans s2)).free hpn, by rw [upd_same, List.reverse_append, List.map_append, List.map_reverse (l := Txt.words r0.2)], fun y hy => ?_, k1, fun _ => by rw [er]; exact hg, ?_, by omega, by rw [ef2, er]; exact hpd⟩
              · rcases List.mem_append.mp hy with hy | hy
                · exact hws y hy
                · exact hst0 y hy
              · rw [List.length_append]
                omega
        · obtain ⟨ch, hch⟩ := Option.isSome_iff_exists.mp h0
          refine ⟨_, rfl, x, 0, ch, rfl, rfl, Nat.le_of_lt (small1000 (by have := syms_len x hx; omega)), hch, rfl, _, rfl, ?_⟩
          refine iteDF (fun z => h1 (by rw [hch]; exact congrArg some (V.str.inj z))) ?_
          rw [if_neg (by rw [hnt]; decide)] at hpd
          refine ⟨_, rfl, _, rfl, rfl, .inr ⟨_, rfl, _, _, rfl, rfl, _, rfl, rfl, .inr ⟨_, rfl, _, _, rfl, rfl, ?_⟩⟩⟩
          rw [dcStr, dcStr]
          refine ⟨fun σ H6 => σ = [some (.ref d), some (.ref lk), some (.ref l), some (.int ((k : Nat) : Int)), some (.int (dOf x dp)), some (.int (nOf x nt)), some (.int (0 + ((i : Nat) : Int))), some (.str x), some (.str (lkT t)), some (.int ((t.2.2 : Nat) : Int)), none, o11] ∧ H6 = H5, ?_, ?_⟩
          · refine ⟨_, rfl, rfl, _, rfl, ?_⟩
            rw [dcStr]
            refine iteD (fun hif => ?_) (fun hif => ?_)
            · refine ⟨?_, rfl⟩
              unfold nOf
              rw [if_pos hif]
              rfl
            · refine ⟨_, rfl, _, rfl, rfl, .inr ⟨_, rfl, _, _, rfl, rfl, ?_⟩⟩
              rw [dcStr]
              refine ⟨?_, rfl⟩
              unfold nOf
              rw [if_neg hif]
              rfl
          · rintro σ H6 ⟨rfl, rfl⟩
            refine fun p hp => ⟨upd_same, plK, rfl, by decide, p, rfl, .inl ⟨plK, .inl upd_same⟩, _, rfl, _, rfl, _, DGet.k (k := .inr x) upd_same, ?_⟩
            rw [upd_upd, show mergeK [] plK = plK from rfl]
            have sm7 := sm5.trans (same_new (o := .dK plK) hp)
            have el7 := (same_new (o := .dK plK) hp) _ _ el5
            generalize upd H6 p (.dK plK) = H7 at sm7 el7 ⊢
            rw [plain_get]
            refine ⟨_, rfl, rfl, _, rfl, ?_⟩
            rw [dcStr]
            have bad : (plainS x ≠ lkT t ∨ dOf x dp > 8 ∨ nOf x nt > 8) → Q (.int ((t.2.2 : Nat) : Int)) H7 := fun h => by
              rw [if_pos h] at hpd
              rw [show ((t.2.2 : Nat) : Int) = res from hpd]
              exact q _ sm7
            by_cases h3 : plainS x = lkT t
            · rw [decide_eq_true h3]
              dsimp only
              rw [if_neg (by decide)]
              refine ⟨_, rfl, _, _, rfl, rfl, _, rfl, iteD (fun h4 => ⟨_, rfl, bad (.inr (.inl h4))⟩) (fun h4 => ?_)⟩
              refine ⟨_, rfl, _, _, rfl, rfl, _, rfl, iteD (fun h5 => ⟨_, rfl, bad (.inr (.inr h5))⟩) (fun h5 => ?_)⟩
              rw [if_neg (fun z => z.elim (fun z => z h3) (fun z => z.elim h4 h5))] at hpd
              refine ⟨_, rfl, _, _, rfl, rfl, ?_⟩
              have edr : r.drop (k + 1) = r2 := by
                rw [← List.tail_drop, er]
                rfl
              refine ⟨l, st, k + 1, dOf x dp, nOf x nt, _, _, _, _, _, rfl, sm7, hl0, el7, hst0, ?_, fun hne => ?_, by omega, by omega, by rw [ef2, edr]; exact hpd⟩
              · rcases sk_tm hsk hnt with ⟨_, rfl⟩ | ⟨_, h⟩
                · exact .inr (.inl rfl)
                · exact h
              · rcases sk_tm hsk hnt with ⟨_, h⟩ | ⟨hn, _⟩
                · exact absurd h hne
                · rw [edr]
                  exact (hg.tl (fun z => plain_end h2 hn (h3.trans z))).1
            · rw [decide_eq_false h3]
              dsimp only
              rw [if_pos (by rfl)]
              exact ⟨_, rfl, bad (.inl h3)⟩
    · rw [hNN]
      rintro σ H' ⟨l, st, k, dp, nt, o6, o7, o8, o9, o11, rfl, sm, hl0, el, hst, hsk, hgd, bst, bk, hpd⟩
      rw [Nat.sub_self] at hpd
      have e0 : (-1 : Int) = res := hpd
      rw [← e0] at q
      exact ⟨_, rfl, q _ sm⟩
end
end Pk
set_option Elab.async false
set_option linter.all false
set_option maxRecDepth 100000
set_option maxHeartbeats 4000000
namespace Tk
open PySem L2 SX
abbrev dpt (d : PyData) : Nat := PyData.depth d
abbrev dpl (ds : List PyData) : Nat := PyData.depthAll ds
theorem dp_tv (v : V) : PyData.depth (tvD v) = 0 := by
  unfold tvD
  split <;> rfl
theorem dp_loop {stop : Str} {step : Rem → Rs} {k : Nat} (hs : ∀ {r : Rem} {p : PyData × Rem}, step r = .ok p → dpt p.1 ≤ k) : ∀ {f : Nat} {r : Rem} {q : List PyData × Rem}, mLoop stop step f r = .ok q → dpl q.1 ≤ k
  | 0, _, _, h => by cases h
  | f + 1, r, q, h => by
    rw [mLoop_s] at h
    split at h
    · cases h
      exact Nat.zero_le _
    · obtain ⟨p, h1, h⟩ := bd_inv h
      obtain ⟨q2, h2, h⟩ := bd_inv h
      cases h
      have a := hs h1
      have b := dp_loop hs h2
      exact Nat.max_le.mpr ⟨a, b⟩
theorem dp_many {word : Str} {step : Rem → Rs} {k : Nat} (hs : ∀ {r : Rem} {p : PyData × Rem}, step r = .ok p → dpt p.1 ≤ k) : ∀ {f : Nat} {r : Rem} {q : List PyData × Rem}, mMany word step f r = .ok q → dpl q.1 ≤ k
  | 0, _, _, h => by cases h
  | f + 1, r, q, h => by
    rw [mMany_s] at h
    split at h
    · obtain ⟨p, h1, h⟩ := bd_inv h
      obtain ⟨q2, h2, h⟩ := bd_inv h
      cases h
      have a := hs h1
      have b := dp_many hs h2
      exact Nat.max_le.mpr ⟨a, b⟩
    · cases h
      exact Nat.zero_le _
theorem dp_opt {w : Str} {m : Rem → Rs} {k : Nat} (hm : ∀ {r : Rem} {p : PyData × Rem}, m r = .ok p → dpt p.1 ≤ k) {r : Rem} {p : PyData × Rem} (h : mOpt w m r = .ok p) : dpt p.1 ≤ k := by
  unfold mOpt at h
  split at h
  · exact hm h
  · cases h
    exact Nat.zero_le _
theorem dp_listIn {o c : Str} {step : Rem → Rs} {k : Nat} (hs : ∀ {r : Rem} {p : PyData × Rem}, step r = .ok p → dpt p.1 ≤ k) {r : Rem} {q : List PyData × Rem} (h : mListIn o c step r = .ok q) : dpl q.1 ≤ k := by
  unfold mListIn at h
  obtain ⟨x, h1, h⟩ := bd_inv h
  split at h
  · cases h
    exact Nat.zero_le _
  · obtain ⟨y, h3, h⟩ := bd_inv h
    obtain ⟨z, h4, h⟩ := bd_inv h
    obtain ⟨u, h5, h⟩ := bd_inv h
    cases h
    have a := hs h3
    have b := dp_many hs h4
    exact Nat.max_le.mpr ⟨a, b⟩
theorem d_mWidth {r : Rem} {p : PyData × Rem} (h : mWidth r = .ok p) : dpt p.1 ≤ 1 := by
  unfold mWidth at h
  obtain ⟨x1, e1, h⟩ := bd_inv h
  obtain ⟨x2, e2, h⟩ := bd_inv h
  obtain ⟨x3, e3, h⟩ := bd_inv h
  cases h
  (first | exact Nat.zero_le _ | (simp only [dpt, dpl, PyData.depth, PyData.depthAll, dp_tv] at *; omega))
theorem d_mFieldStep {r : Rem} {p : PyData × Rem} (h : mFieldStep r = .ok p) : dpt p.1 ≤ 1 := by
  unfold mFieldStep at h
  obtain ⟨x1, e1, h⟩ := bd_inv h
  have fe1 := d_mWidth e1
  obtain ⟨x2, e2, h⟩ := bd_inv h
  cases h
  (first | exact Nat.zero_le _ | (simp only [dpt, dpl, PyData.depth, PyData.depthAll, dp_tv] at *; omega))
theorem d_mFields {r : Rem} {p : List PyData × Rem} (h : mFields r = .ok p) : dpl p.1 ≤ 1 := by
  unfold mFields at h
  obtain ⟨x, e1, h⟩ := bd_inv h
  exact dp_loop (fun h => d_mFieldStep h) h
theorem d_mHeader {r : Rem} {p : PyData × Rem} (h : mHeader r = .ok p) : dpt p.1 ≤ 3 := by
  unfold mHeader at h
  obtain ⟨x1, e1, h⟩ := bd_inv h
  obtain ⟨x2, e2, h⟩ := bd_inv h
  have fe2 := d_mFields e2
  cases h
  (first | exact Nat.zero_le _ | (simp only [dpt, dpl, PyData.depth, PyData.depthAll, dp_tv] at *; omega))
theorem d_mField {r : Rem} {p : PyData × Rem} (h : mField r = .ok p) : dpt p.1 ≤ 1 := by
  unfold mField at h
  obtain ⟨x1, e1, h⟩ := bd_inv h
  obtain ⟨x2, e2, h⟩ := bd_inv h
  obtain ⟨x3, e3, h⟩ := bd_inv h
  cases h
  (first | exact Nat.zero_le _ | (simp only [dpt, dpl, PyData.depth, PyData.depthAll, dp_tv] at *; omega))
theorem d_mNumD {r : Rem} {p : PyData × Rem} (h : mNumD r = .ok p) : dpt p.1 ≤ 0 := by
  unfold mNumD at h
  obtain ⟨x1, e1, h⟩ := bd_inv h
  cases h
  (first | exact Nat.zero_le _ | (simp only [dpt, dpl, PyData.depth, PyData.depthAll, dp_tv] at *; omega))
theorem d_mNameD {r : Rem} {p : PyData × Rem} (h : mNameD r = .ok p) : dpt p.1 ≤ 0 := by
  unfold mNameD at h
  obtain ⟨x1, e1, h⟩ := bd_inv h
  cases h
  (first | exact Nat.zero_le _ | (simp only [dpt, dpl, PyData.depth, PyData.depthAll, dp_tv] at *; omega))
theorem d_mNameS {r : Rem} {p : PyData × Rem} (h : mNameS r = .ok p) : dpt p.1 ≤ 0 := by
  unfold mNameS at h
  obtain ⟨x1, e1, h⟩ := bd_inv h
  obtain ⟨x2, e2, h⟩ := bd_inv h
  cases h
  (first | exact Nat.zero_le _ | (simp only [dpt, dpl, PyData.depth, PyData.depthAll, dp_tv] at *; omega))
theorem d_mRow {r : Rem} {p : PyData × Rem} (h : mRow r = .ok p) : dpt p.1 ≤ 1 := by
  unfold mRow at h
  obtain ⟨x1, e1, h⟩ := bd_inv h
  obtain ⟨x2, e2, h⟩ := bd_inv h
  have fe2 := dp_opt (fun h => d_mNumD h) e2
  obtain ⟨x3, e3, h⟩ := bd_inv h
  obtain ⟨x4, e4, h⟩ := bd_inv h
  obtain ⟨x5, e5, h⟩ := bd_inv h
  cases h
  (first | exact Nat.zero_le _ | (simp only [dpt, dpl, PyData.depth, PyData.depthAll, dp_tv] at *; omega))
theorem d_mWay {r : Rem} {p : PyData × Rem} (h : mWay r = .ok p) : dpt p.1 ≤ 3 := by
  unfold mWay at h
  split at h
  · obtain ⟨x1, e1, h⟩ := bd_inv h
    obtain ⟨x2, e2, h⟩ := bd_inv h
    cases h
    (first | exact Nat.zero_le _ | (simp only [dpt, dpl, PyData.depth, PyData.depthAll, dp_tv] at *; omega))
  · obtain ⟨x3, e3, h⟩ := bd_inv h
    obtain ⟨x4, e4, h⟩ := bd_inv h
    have fe4 := d_mField e4
    obtain ⟨x5, e5, h⟩ := bd_inv h
    obtain ⟨x6, e6, h⟩ := bd_inv h
    have fe6 := dp_loop (fun h => d_mRow h) e6
    obtain ⟨x7, e7, h⟩ := bd_inv h
    cases h
    (first | exact Nat.zero_le _ | (simp only [dpt, dpl, PyData.depth, PyData.depthAll, dp_tv] at *; omega))
theorem d_mState {r : Rem} {p : PyData × Rem} (h : mState r = .ok p) : dpt p.1 ≤ 4 := by
  unfold mState at h
  obtain ⟨x1, e1, h⟩ := bd_inv h
  obtain ⟨x2, e2, h⟩ := bd_inv h
  obtain ⟨x3, e3, h⟩ := bd_inv h
  obtain ⟨x4, e4, h⟩ := bd_inv h
  have fe4 := dp_opt (fun h => d_mNameS h) e4
  obtain ⟨x5, e5, h⟩ := bd_inv h
  have fe5 := d_mWay e5
  obtain ⟨x6, e6, h⟩ := bd_inv h
  cases h
  (first | exact Nat.zero_le _ | (simp only [dpt, dpl, PyData.depth, PyData.depthAll, dp_tv] at *; omega))
theorem d_mStates {r : Rem} {p : List PyData × Rem} (h : mStates r = .ok p) : dpl p.1 ≤ 4 := by
  unfold mStates at h
  obtain ⟨x, e1, h⟩ := bd_inv h
  exact dp_loop (fun h => d_mState h) h
theorem d_mOperand {r : Rem} {p : PyData × Rem} (h : mOperand r = .ok p) : dpt p.1 ≤ 1 := by
  unfold mOperand at h
  split at h
  · obtain ⟨x1, e1, h⟩ := bd_inv h
    cases h
    (first | exact Nat.zero_le _ | (simp only [dpt, dpl, PyData.depth, PyData.depthAll, dp_tv] at *; omega))
  · obtain ⟨x2, e2, h⟩ := bd_inv h
    split at h
    · cases h
      (first | exact Nat.zero_le _ | (simp only [dpt, dpl, PyData.depth, PyData.depthAll, dp_tv] at *; omega))
    · obtain ⟨x3, e3, h⟩ := bd_inv h
      obtain ⟨x4, e4, h⟩ := bd_inv h
      cases h
      (first | exact Nat.zero_le _ | (simp only [dpt, dpl, PyData.depth, PyData.depthAll, dp_tv] at *; omega))
theorem d_mExpr {r : Rem} {p : PyData × Rem} (h : mExpr r = .ok p) : dpt p.1 ≤ 2 := by
  unfold mExpr at h
  obtain ⟨x1, e1, h⟩ := bd_inv h
  have fe1 := d_mOperand e1
  split at h
  · obtain ⟨x2, e2, h⟩ := bd_inv h
    obtain ⟨x3, e3, h⟩ := bd_inv h
    have fe3 := d_mOperand e3
    cases h
    (first | exact Nat.zero_le _ | (simp only [dpt, dpl, PyData.depth, PyData.depthAll, dp_tv] at *; omega))
  · cases h
    (first | exact Nat.zero_le _ | (simp only [dpt, dpl, PyData.depth, PyData.depthAll, dp_tv] at *; omega))
theorem d_mOper0 {r : Rem} {p : PyData × Rem} (h : mOper0 r = .ok p) : dpt p.1 ≤ 3 := by
  unfold mOper0 at h
  split at h
  · obtain ⟨x1, e1, h⟩ := bd_inv h
    have fe1 := d_mExpr e1
    cases h
    (first | exact Nat.zero_le _ | (simp only [dpt, dpl, PyData.depth, PyData.depthAll, dp_tv] at *; omega))
  · split at h
    · cases h
      (first | exact Nat.zero_le _ | (simp only [dpt, dpl, PyData.depth, PyData.depthAll, dp_tv] at *; omega))
    · split at h
      · obtain ⟨x2, e2, h⟩ := bd_inv h
        cases h
        (first | exact Nat.zero_le _ | (simp only [dpt, dpl, PyData.depth, PyData.depthAll, dp_tv] at *; omega))
      · split at h
        · obtain ⟨x3, e3, h⟩ := bd_inv h
          cases h
          (first | exact Nat.zero_le _ | (simp only [dpt, dpl, PyData.depth, PyData.depthAll, dp_tv] at *; omega))
        · obtain ⟨x4, e4, h⟩ := bd_inv h
          have fe4 := d_mField e4
          obtain ⟨x5, e5, h⟩ := bd_inv h
          obtain ⟨x6, e6, h⟩ := bd_inv h
          have fe6 := d_mExpr e6
          cases h
          (first | exact Nat.zero_le _ | (simp only [dpt, dpl, PyData.depth, PyData.depthAll, dp_tv] at *; omega))
theorem d_mOper {r : Rem} {p : PyData × Rem} (h : mOper r = .ok p) : dpt p.1 ≤ 3 := by
  unfold mOper at h
  obtain ⟨x1, e1, h⟩ := bd_inv h
  have fe1 := d_mOper0 e1
  obtain ⟨x2, e2, h⟩ := bd_inv h
  cases h
  (first | exact Nat.zero_le _ | (simp only [dpt, dpl, PyData.depth, PyData.depthAll, dp_tv] at *; omega))
theorem d_mAction {r : Rem} {p : PyData × Rem} (h : mAction r = .ok p) : dpt p.1 ≤ 5 := by
  unfold mAction at h
  obtain ⟨x1, e1, h⟩ := bd_inv h
  obtain ⟨x2, e2, h⟩ := bd_inv h
  have fe2 := dp_listIn (fun h => d_mWidth h) e2
  obtain ⟨x3, e3, h⟩ := bd_inv h
  obtain ⟨x4, e4, h⟩ := bd_inv h
  have fe4 := dp_loop (fun h => d_mOper h) e4
  cases h
  (first | exact Nat.zero_le _ | (simp only [dpt, dpl, PyData.depth, PyData.depthAll, dp_tv] at *; omega))
theorem d_mKey {r : Rem} {p : PyData × Rem} (h : mKey r = .ok p) : dpt p.1 ≤ 2 := by
  unfold mKey at h
  obtain ⟨x1, e1, h⟩ := bd_inv h
  have fe1 := d_mField e1
  obtain ⟨x2, e2, h⟩ := bd_inv h
  obtain ⟨x3, e3, h⟩ := bd_inv h
  cases h
  (first | exact Nat.zero_le _ | (simp only [dpt, dpl, PyData.depth, PyData.depthAll, dp_tv] at *; omega))
theorem d_mDefault {r : Rem} {p : PyData × Rem} (h : mDefault r = .ok p) : dpt p.1 ≤ 2 := by
  unfold mDefault at h
  obtain ⟨x1, e1, h⟩ := bd_inv h
  obtain ⟨x2, e2, h⟩ := bd_inv h
  obtain ⟨x3, e3, h⟩ := bd_inv h
  have fe3 := dp_listIn (fun h => d_mNumD h) e3
  obtain ⟨x4, e4, h⟩ := bd_inv h
  cases h
  (first | exact Nat.zero_le _ | (simp only [dpt, dpl, PyData.depth, PyData.depthAll, dp_tv] at *; omega))
theorem d_mTable {r : Rem} {p : PyData × Rem} (h : mTable r = .ok p) : dpt p.1 ≤ 4 := by
  unfold mTable at h
  obtain ⟨x1, e1, h⟩ := bd_inv h
  obtain ⟨x2, e2, h⟩ := bd_inv h
  obtain ⟨x3, e3, h⟩ := bd_inv h
  have fe3 := dp_many (fun h => d_mKey h) e3
  obtain ⟨x4, e4, h⟩ := bd_inv h
  have fe4 := dp_many (fun h => d_mNameS h) e4
  obtain ⟨x5, e5, h⟩ := bd_inv h
  have fe5 := d_mDefault e5
  obtain ⟨x6, e6, h⟩ := bd_inv h
  obtain ⟨x7, e7, h⟩ := bd_inv h
  obtain ⟨x8, e8, h⟩ := bd_inv h
  obtain ⟨x9, e9, h⟩ := bd_inv h
  cases h
  (first | exact Nat.zero_le _ | (simp only [dpt, dpl, PyData.depth, PyData.depthAll, dp_tv] at *; omega))
theorem d_mCmp {r : Rem} {p : PyData × Rem} (h : mCmp r = .ok p) : dpt p.1 ≤ 2 := by
  unfold mCmp at h
  split at h
  · obtain ⟨x1, e1, h⟩ := bd_inv h
    cases h
    (first | exact Nat.zero_le _ | (simp only [dpt, dpl, PyData.depth, PyData.depthAll, dp_tv] at *; omega))
  · obtain ⟨x2, e2, h⟩ := bd_inv h
    have fe2 := d_mField e2
    obtain ⟨x3, e3, h⟩ := bd_inv h
    obtain ⟨x4, e4, h⟩ := bd_inv h
    cases h
    (first | exact Nat.zero_le _ | (simp only [dpt, dpl, PyData.depth, PyData.depthAll, dp_tv] at *; omega))
theorem nots_n : ∀ (n : Nat) (r : Rem), (mNots n r).1 ≤ n
  | 0, _ => Nat.le_refl _
  | n + 1, r => by
    unfold mNots
    split
    · have := nots_n n r.tail
      show (mNots n r.tail).1 + 1 ≤ _
      omega
    · exact Nat.zero_le _
theorem dp_wrap (d : PyData) : ∀ n : Nat, dpt (wrapN n d) ≤ n + dpt d
  | 0 => by show dpt d ≤ _; omega
  | n + 1 => by
    have := dp_wrap d n
    show max 0 (max (dpt (wrapN n d)) 0) + 1 ≤ _
    omega
theorem d_mCond {r : Rem} {p : PyData × Rem} (h : mCond r = .ok p) : dpt p.1 ≤ 10 := by
  unfold mCond at h
  obtain ⟨x1, e1, h⟩ := bd_inv h
  have f1 := d_mCmp e1
  cases h
  have g := dp_wrap x1.1 (mNots 8 r).1
  have g2 := nots_n 8 r
  show dpt (wrapN _ _) ≤ 10
  omega
theorem d_mStmt {blk : Rem → RsL} {k : Nat} (hk : 9 ≤ k) (hb : ∀ {r : Rem} {p : List PyData × Rem}, blk r = .ok p → dpl p.1 ≤ k) {r : Rem} {p : PyData × Rem} (h : mStmt blk r = .ok p) : dpt p.1 ≤ k + 2 := by
  unfold mStmt at h
  split at h
  · obtain ⟨x1, e1, h⟩ := bd_inv h
    obtain ⟨x2, e2, h⟩ := bd_inv h
    cases h
    simp only [dpt, dpl, PyData.depth, PyData.depthAll, dp_tv] at *
    omega
  · obtain ⟨x1, e1, h⟩ := bd_inv h
    obtain ⟨x2, e2, h⟩ := bd_inv h
    have f2 := d_mCond e2
    obtain ⟨x3, e3, h⟩ := bd_inv h
    have f3 := hb e3
    obtain ⟨x4, e4, h⟩ := bd_inv h
    have f4 : dpl x4.1 ≤ k := by
      split at e4
      · exact hb e4
      · cases e4
        exact Nat.zero_le _
    cases h
    simp only [dpt, dpl, PyData.depth, PyData.depthAll, dp_tv] at f2 f3 f4 ⊢
    omega
theorem d_mBlock : ∀ (n : Nat) {r : Rem} {p : List PyData × Rem}, mBlock n r = .ok p → dpl p.1 ≤ 10 + 2 * n
  | 0, _, _, h => by cases h
  | n + 1, r, p, h => by
    unfold mBlock at h
    obtain ⟨x, e1, h⟩ := bd_inv h
    have := dp_loop (fun h => d_mStmt (k := 10 + 2 * n) (by omega) (fun h => d_mBlock n h) h) h
    omega
theorem d_mEmits {r : Rem} {p : List PyData × Rem} (h : mEmits r = .ok p) : dpl p.1 ≤ 0 := by
  unfold mEmits at h
  obtain ⟨x1, e1, h⟩ := bd_inv h
  obtain ⟨x2, e2, h⟩ := bd_inv h
  have f2 := dp_many (fun h => d_mNameD h) e2
  obtain ⟨x3, e3, h⟩ := bd_inv h
  cases h
  simp only [dpt, dpl, PyData.depth, PyData.depthAll, dp_tv] at f2 ⊢
  omega
theorem d_mProgram {r : Rem} {p : PyData × Rem} (h : mProgram r = .ok p) : dpt p.1 ≤ 30 ∧ ∃ ds, p.1 = .tuple ds ∧ ds.length = 9 := by
  unfold mProgram at h
  obtain ⟨x1, e1, h⟩ := bd_inv h
  obtain ⟨x2, e2, h⟩ := bd_inv h
  obtain ⟨x3, e3, h⟩ := bd_inv h
  have f3 := dp_many (fun h => d_mHeader h) e3
  obtain ⟨x4, e4, h⟩ := bd_inv h
  have f4 : dpl x4.1 ≤ 1 := by
    split at e4
    · exact d_mFields e4
    · cases e4
      exact Nat.zero_le _
  obtain ⟨x5, e5, h⟩ := bd_inv h
  obtain ⟨x6, e6, h⟩ := bd_inv h
  have f6 := d_mStates e6
  obtain ⟨x7, e7, h⟩ := bd_inv h
  have f7 := dp_many (fun h => d_mAction h) e7
  obtain ⟨x8, e8, h⟩ := bd_inv h
  have f8 := dp_many (fun h => d_mTable h) e8
  obtain ⟨x9, e9, h⟩ := bd_inv h
  obtain ⟨x10, e10, h⟩ := bd_inv h
  have f10 := d_mBlock 8 e10
  obtain ⟨x11, e11, h⟩ := bd_inv h
  have f11 : dpl x11.1 ≤ 0 := by
    split at e11
    · exact d_mEmits e11
    · cases e11
      exact Nat.zero_le _
  obtain ⟨x12, e12, h⟩ := bd_inv h
  cases h
  refine ⟨?_, _, rfl, rfl⟩
  simp only [dpt, dpl, PyData.depth, PyData.depthAll, dp_tv] at f3 f4 f6 f7 f8 f10 f11 ⊢
  omega
end Tk
set_option Elab.async false
set_option linter.all false
set_option maxRecDepth 100000
set_option maxHeartbeats 4000000
namespace Pk
open PySem PySem.Spec PyProof.Rows L2 SX GxR Tk
mutual
/-- as lvD, a long text told as None -/
def lvS : PyData → List PyData
  | .tuple xs => lvSs xs
  | .list xs => lvSs xs
  | .str x => if 1000 < x.length then [.none] else if hasDig x = true then [.str x] else []
  | .none => []
  | d => [d]
def lvSs : List PyData → List PyData
  | [] => []
  | x :: xs => lvS x ++ lvSs xs
end
theorem lvSs_eq : ∀ xs : List PyData, lvSs xs = xs.flatMap lvS
  | [] => by rw [lvSs, List.flatMap_nil]
  | x :: xs => by rw [lvSs, List.flatMap_cons, lvSs_eq xs]
theorem lvS_ok : LvOk Nm2 lvS where
  str x h := by
    obtain ⟨h, h2, _⟩ := h
    rw [lvS, if_neg (by omega), if_pos h]
  wrd x h := by
    obtain ⟨h1, h2⟩ := (show ∀ x ∈ terms, hasDig x = false ∧ x.length ≤ 20 by decide +kernel) x h
    rw [lvS, if_neg (by omega), if_neg (by rw [h1]; decide)]
  int n := by simp [lvS]
  non := by simp [lvS]
  tup xs := by rw [lvS, lvSs_eq]
  lst xs := by rw [lvS, lvSs_eq]
  tag x h := by
    obtain ⟨h1, h2⟩ := (show ∀ x ∈ [o "num", o "param", o "field", o "set"], hasDig x = false ∧ x.length ≤ 20 by decide +kernel) x h
    rw [lvS, if_neg (by omega), if_neg (by rw [h1]; decide)]
theorem lvD_in {x : PyData} {xs : List PyData} (h : x ∈ xs) : (lvD x).length ≤ (xs.flatMap lvD).length := by
  induction xs with
  | nil => cases h
  | cons y ys ih =>
    rw [List.flatMap_cons, List.length_append]
    rcases List.mem_cons.mp h with rfl | h
    · omega
    · have := ih h
      omega
theorem lvS_in {x : PyData} {xs : List PyData} (h : x ∈ xs) (hs : ∀ e ∈ xs.flatMap lvS, e ≠ .none) : ∀ e ∈ lvS x, e ≠ .none := fun e he => hs e (List.mem_flatMap.mpr ⟨x, h, he⟩)
theorem dep_in {x : PyData} {xs : List PyData} (h : x ∈ xs) : PyData.depth x ≤ PyData.depthAll xs := by
  induction xs with
  | nil => cases h
  | cons y ys ih =>
    show _ ≤ max _ _
    rcases List.mem_cons.mp h with rfl | h
    · exact Nat.le_max_left _ _
    · exact Nat.le_trans (ih h) (Nat.le_max_right _ _)
theorem fm_take (ds : List PyData) (i : Nat) : ((ds.take i).flatMap lvD).length ≤ (ds.flatMap lvD).length := by
  conv => rhs; rw [← List.take_append_drop i ds, List.flatMap_append, List.length_append]
  omega
/-- the signs that are digits -/
def digs (x : Str) (i : Nat) : List V := ((x.cps.toList.take i).filter fun c => decide (c ∈ (o "0123456789").cps.toList)).map fun c => V.str (S [c])
theorem dig_iff (c : Nat) : (decide (c ∈ (o "0123456789").cps.toList)) = (decide (48 ≤ c) && decide (c ≤ 57)) := by
  rw [show (o "0123456789").cps.toList = [48, 49, 50, 51, 52, 53, 54, 55, 56, 57] by decide +kernel]
  by_cases h : 48 ≤ c ∧ c ≤ 57
  · rw [decide_eq_true h.1, decide_eq_true h.2, decide_eq_true]
    · rfl
    · simp only [List.mem_cons, List.not_mem_nil, or_false]
      omega
  · have h2 : ¬ (c ∈ [48, 49, 50, 51, 52, 53, 54, 55, 56, 57]) := by
      simp only [List.mem_cons, List.not_mem_nil, or_false]
      omega
    rw [decide_eq_false h2]
    by_cases h48 : 48 ≤ c
    · rw [decide_eq_true h48, decide_eq_false (fun z => h ⟨h48, z⟩)]
      rfl
    · rw [decide_eq_false h48]
      rfl
theorem digs_has (x : Str) : (0 < (digs x x.cps.toList.length).length) ↔ hasDig x = true := by
  unfold digs hasDig
  rw [List.take_length, List.length_map, List.any_eq_true, List.length_pos_iff_exists_mem]
  constructor
  · rintro ⟨c, hc⟩
    obtain ⟨h1, h2⟩ := List.mem_filter.mp hc
    rw [dig_iff] at h2
    exact ⟨c, h1, h2⟩
  · rintro ⟨c, h1, h2⟩
    exact ⟨c, List.mem_filter.mpr ⟨h1, by rw [dig_iff]; exact h2⟩⟩
theorem digs_len (x : Str) (i : Nat) : (digs x i).length ≤ x.length := by
  unfold digs
  rw [List.length_map]
  refine Nat.le_trans (List.length_filter_le _ _) ?_
  rw [List.length_take]
  exact Nat.min_le_right _ _
theorem digs_s {x : Str} {i c : Nat} (h : x.cps.toList[i]? = some c) : digs x (i + 1) = if decide (c ∈ (o "0123456789").cps.toList) = true then digs x i ++ [.str (S [c])] else digs x i := by
  unfold digs
  rw [List.take_add_one, h, List.filter_append, List.map_append]
  show _ ++ List.map _ (List.filter _ [c]) = _
  rw [List.filter_cons]
  cases decide (c ∈ (o "0123456789").cps.toList)
  · rw [if_neg (by decide), if_neg (by decide), List.filter_nil, List.map_nil, List.append_nil]
  · rw [if_pos rfl, if_pos rfl]
    rfl
section
variable {X : Cx} {tg : Expr}
def iLT (K : PySem.W.Frag) (tl : TE) : TI := fun σ H R => tl σ H fun x H1 => ∃ a, x = .ref a ∧ (((∃ xs, SqL K H1 a xs) ∧ R (Itl K a) H1) ∨ ((∃ xs, SqT K H1 a xs) ∧ R (Itt K a) H1))
theorem pi_lt {l : Expr} {tl : TE} (hl : PE X l tl) : PI X tg l (iLT X.K tl) := by
  refine ⟨fun pins s σ H R I h => ?_⟩
  refine thn (hl.run pins s σ H _ I h) fun v s1 ⟨x, H1, I1, r1, q1⟩ => ?_
  obtain ⟨a, e, q1⟩ := q1
  subst e
  cases r1
  rcases q1 with ⟨⟨xs, hq⟩, q⟩ | ⟨⟨xs, hq⟩, q⟩
  · obtain ⟨its, rv, p, hz⟩ := I1.list hq
    refine wpAny_pyIter_list p.isList ?_
    refine ⟨s1.heap.objs.size, [s1.heap.objs.size], _, _, H1, rfl, I1.kept (t' := s1.toks) fun b o e => Heap.get?_push_of_some _ e, turn_list a _, ⟨_, Heap.get?_push_size _ rfl, rfl, rfl⟩, fun b hb => ?_, q⟩
    have e : b = s1.heap.objs.size := by simpa using hb
    subst e
    exact I1.fpOk (Nat.le_refl _) (I1.hok.fresh (Nat.le_refl _))
  · obtain ⟨its, rv, p, hz⟩ := I1.tuple hq
    refine wpAny_pyIter_tuple (show s1.heap.IsTuple a its.toArray from p) ?_
    refine ⟨s1.heap.objs.size, [s1.heap.objs.size], _, _, H1, rfl, I1.kept (t' := s1.toks) fun b o e => Heap.get?_push_of_some _ e, turn_tuple a _, ⟨_, Heap.get?_push_size _ rfl, rfl, rfl⟩, fun b hb => ?_, q⟩
    have e : b = s1.heap.objs.size := by simpa using hb
    subst e
    exact I1.fpOk (Nat.le_refl _) (I1.hok.fresh (Nat.le_refl _))
end
end Pk
set_option Elab.async false
set_option linter.all false
set_option maxRecDepth 100000
set_option maxHeartbeats 4000000
namespace Pk
open PySem PySem.Spec PyProof.Rows L2 SX GxR Tk
abbrev sLv : Stmt := topS 72
abbrev NLv : List Str := ["part", "found", "one", "char"]
theorem scLv : FnScope NLv ["part"] (defScope sLv) := ⟨rfl, rfl, rfl, by decide +kernel, rfl, by decide +kernel, by decide +kernel⟩
structure Bl49 (mg : Str → Option Value) : Prop where
  zIsi : mg "isinstance" = none
  zTuple : mg "tuple" = none
  zList : mg "list" = none
  zStr : mg "str" = none
  zLen : mg "len" = none
/-- the leaves of data of a depth less than d -/
def spLv : Nat → Sp
  | 0 => fun _ _ _ _ => False
  | d + 1 => fun vs H Q _ => ∃ (v : V) (x : PyData), vs = [v] ∧ Dr H v x ∧ PyData.depth x ≤ d ∧ (lvD x).length ≤ 100000 ∧ (∀ e ∈ lvS x, e ≠ .none) ∧ ∀ (H' : Hp) (q : Addr) (xs : List V), Same H H' → H' q = some (.lst xs) → DrAll H' xs (lvD x) → Q (.ref q) H'
section
variable {P : Program} {w : World} {K : PySem.W.Frag} {mg : Str → Option Value} {base : Heap}
theorem ok_lv0 {f : Addr} {fd : FuncData} {k : Nat} (F : Fun K "_law_leaves" "_law_leaves" sLv f fd) : FnOk P w K mg base CX0 (k + 1) f fd ["part"] (spLv 0) :=
  F.ok scLv (fun _ _ _ _ h => h.elim) (fun _ _ _ _ _ _ _ _ _ h => h.elim)
theorem ok_lv {f : Addr} {fd : FuncData} {d : Nat} (F : Fun K "_law_leaves" "_law_leaves" sLv f fd) (T : Bl49 mg) (Dr1 : Df P w K mg base CX0 (1 + d) "_law_leaves" ["part"] (spLv d)) : FnOk P w K mg base CX0 (1 + d + 1) f fd ["part"] (spLv (d + 1)) := by
  obtain ⟨f1, fd1, G1, g1, k1, b1⟩ := Dr1.ex
  refine F.ok scLv (fun vs H Q E h => ?_) (fun cdv A outer s0 H vs Q E hr h => ?_)
  · obtain ⟨v, x, rfl, _⟩ := h
    rfl
  · obtain ⟨v, x, rfl, hv, hdp, hln, hsh, q⟩ := h
    have nd := scLv.nd
    refine ⟨_, (pss_cons (ps_set (i := 1) nd rfl (.inl rfl) (pe_lst pa_nil))
      (pss_cons (ps_if (PW.pt (pw_or (pt_val (pe_callB call_isi (by rfl) T.zIsi PyProof.Rows.boot_isinstance (pa_cons (pv 0) (pa_cons (pe_bltn (v := .ty "tuple") (u := .type "tuple") rfl T.zTuple (by decide +kernel) rfl) pa_nil))) (by intro _; rfl)) (pw_or1 (pt_val (pe_callB call_isi (by rfl) T.zIsi PyProof.Rows.boot_isinstance (pa_cons (pv 0) (pa_cons (pe_bltn (v := .ty "list") (u := .type "list") rfl T.zList (by decide +kernel) rfl) pa_nil))) (by intro _; rfl))))) (pss_one (ps_for PassesOwn.never rfl (pi_lt (pv 0)) (pg_name (i := 2) nd rfl (.inl rfl))
          (pss_one (ps_set (i := 1) nd rfl (.inl rfl) (pe_op op_cat (pv 1) (pe_call G1 (hr.mono (by omega)) (by rfl) g1 k1 b1 .nil pass0 (pa_cons (pv 2) pa_nil))))))) (pss_one (ps_if (pt_val (pe_callB call_isi (by rfl) T.zIsi PyProof.Rows.boot_isinstance (pa_cons (pv 0) (pa_cons (pe_bltn (v := .ty "str") (u := .type "str") rfl T.zStr (by decide +kernel) rfl) pa_nil))) (by intro _; rfl)) (pss_one (ps_if (pt_cmpR op_gt (pe_callB call_len_seq (by rfl) T.zLen PySem.boot_len (pa_cons (pe_lc (own := [("char", 3)]) (g := gName 3) rfl nd (pi_str (pv 0)) (blkOk_by (own := [("char", 3)]) (N := NLv) (sc := defScope sLv) (by decide +kernel)) (fun _ _ _ _ _ => (pg_name (i := 3) nd rfl (Or.inl rfl))) (fun _ _ _ _ _ => (pts_one (pt_cmpR op_in_sign (pv 3) pe_str (by rfl)))) (fun _ _ _ _ _ => (pv 3))) pa_nil)) pe_int (nomark _)) (pss_one (ps_expr (pe_bm PySem.F.plainAttrs_list PySem.F.slot_list_append PySem.F.type_list_append mt_append (pv 1) (pa_cons (pv 0) pa_nil)))) pss_nil)) (pss_one (ps_if (pt_cmpR op_notN (pv 0) pe_non (nomark _)) (pss_one (ps_expr (pe_bm PySem.F.plainAttrs_list PySem.F.slot_list_append PySem.F.type_list_append mt_append (pv 1) (pa_cons (pv 0) pa_nil)))) pss_nil)))))
      (pss_one (ps_ret (pv 1))))), ?_⟩
    refine ⟨Nat.zero_le _, fun fl hfl => ?_⟩
    have s1 := same_new (o := .lst []) hfl
    have hv1 := dr_sub s1 hv
    have efl : (upd H fl (.lst [])) fl = some (.lst []) := upd_same
    generalize hH1 : upd H fl (.lst []) = H1 at s1 hv1 efl ⊢
    have app : ∀ (y : V), Same H (upd H1 fl (.lst [y])) := fun y b u e => by
      rw [upd_ne (ne_of_none e hfl)]
      exact s1 _ _ e
    cases hv1 with
    | non =>
      refine ⟨_, rfl, _, _, _, _, false, rfl, .ty _, .base .non, kit_ty (by decide +kernel), _, rfl, iteF ?_⟩
      refine ⟨_, rfl, _, _, _, _, false, rfl, .ty _, .base .non, kit_ty (by decide +kernel), _, rfl, iteF ?_⟩
      refine ⟨_, rfl, _, _, _, _, false, rfl, .ty _, .base .non, kit_ty (by decide +kernel), _, rfl, iteF ?_⟩
      refine ⟨_, rfl, rfl, _, rfl, iteF ?_⟩
      exact ⟨_, rfl, q _ fl [] s1 efl (by simp [lvD]; exact .nil)⟩
    | bl b =>
      refine ⟨_, rfl, _, _, _, _, false, rfl, .ty _, .base (.bl b), kit_ty (by decide +kernel), _, rfl, iteF ?_⟩
      refine ⟨_, rfl, _, _, _, _, false, rfl, .ty _, .base (.bl b), kit_ty (by decide +kernel), _, rfl, iteF ?_⟩
      refine ⟨_, rfl, _, _, _, _, false, rfl, .ty _, .base (.bl b), kit_ty (by decide +kernel), _, rfl, iteF ?_⟩
      refine ⟨_, rfl, rfl, _, rfl, ?_⟩
      rw [decide_eq_false (fun z => nomatch z)]
      dsimp only
      rw [if_pos (by rfl)]
      refine ⟨_, rfl, .inl ⟨rfl, _, SqL.of efl⟩, _, rfl, fl, [], _, rfl, rfl, efl, by rw [sizeLine_eq]; show 0 < 16777216; decide, _, rfl, ?_⟩
      refine q _ fl [.bl b] (app _) upd_same ?_
      rw [show lvD (.bool b) = [(.bool b)] by simp [lvD]]
      exact .cons (.bl b) .nil
    | int i =>
      refine ⟨_, rfl, _, _, _, _, false, rfl, .ty _, .base (.int i), kit_ty (by decide +kernel), _, rfl, iteF ?_⟩
      refine ⟨_, rfl, _, _, _, _, false, rfl, .ty _, .base (.int i), kit_ty (by decide +kernel), _, rfl, iteF ?_⟩
      refine ⟨_, rfl, _, _, _, _, false, rfl, .ty _, .base (.int i), kit_ty (by decide +kernel), _, rfl, iteF ?_⟩
      refine ⟨_, rfl, rfl, _, rfl, ?_⟩
      rw [decide_eq_false (fun z => nomatch z)]
      dsimp only
      rw [if_pos (by rfl)]
      refine ⟨_, rfl, .inl ⟨rfl, _, SqL.of efl⟩, _, rfl, fl, [], _, rfl, rfl, efl, by rw [sizeLine_eq]; show 0 < 16777216; decide, _, rfl, ?_⟩
      refine q _ fl [.int i] (app _) upd_same ?_
      rw [show lvD (.int i) = [(.int i)] by simp [lvD]]
      exact .cons (.int i) .nil
    | str z =>
      have hz : z.length ≤ 1000 := by
        have h := hsh .none
        rw [lvS] at h
        by_cases hc : 1000 < z.length
        · rw [if_pos hc] at h
          exact absurd rfl (h List.mem_cons_self)
        · omega
      refine ⟨_, rfl, _, _, _, _, false, rfl, .ty _, .base (.str z), kit_ty (by decide +kernel), _, rfl, iteF ?_⟩
      refine ⟨_, rfl, _, _, _, _, false, rfl, .ty _, .base (.str z), kit_ty (by decide +kernel), _, rfl, iteF ?_⟩
      refine ⟨_, rfl, _, _, _, _, true, rfl, .ty _, .base (.str z), kit_ty (by decide +kernel), _, rfl, ?_⟩
      dsimp only
      rw [if_pos rfl]
      refine ⟨_, rfl, z, rfl, fun D hD => L2.lc_it (walk_str (z := z)) (fun i H6 => Same H1 H6 ∧ H6 D = some (.lst (digs z i))) ⟨same_new hD, upd_same⟩ (fun _ _ _ _ => trivial) ?_ ?_⟩
      · rintro i y H6 H7 hi ⟨sm, eD⟩ ⟨rfl, c, hc, rfl⟩
        have hc2 : z.cps.toList[i]? = some c := by rw [Array.getElem?_toList]; exact hc
        refine ⟨rfl, _, rfl, c, _, rfl, rfl, _, rfl, ?_⟩
        rw [digs_s hc2]
        refine iteD (fun h => ?_) (fun h => ?_)
        · rw [if_pos (decide_eq_true h)]
          refine ⟨_, rfl, _, eD, (small1000 (Nat.le_trans (digs_len z i) hz)), fun b u e => ?_, upd_same⟩
          rw [upd_ne (ne_of_none e hD)]
          exact sm _ _ e
        · rw [if_neg (fun z => h (of_decide_eq_true z))]
          exact ⟨sm, eD⟩
      · rintro H6 ⟨sm, eD⟩
        refine ⟨D, _, rfl, .inl (SqL.of eD), _, _, rfl, rfl, _, rfl, ?_⟩
        have hh := digs_has z
        have el : z.cps.toList.length = z.cps.size := Array.length_toList
        rw [el] at hh
        have hl : lvD (.str z) = if hasDig z = true then [.str z] else [] := by rw [lvD]
        refine iteD (fun h => ?_) (fun h => ?_)
        · have h2 : hasDig z = true := hh.mp (by omega)
          have efl6 := sm _ _ efl
          refine ⟨_, rfl, .inl ⟨rfl, _, SqL.of efl6⟩, _, rfl, fl, [], _, rfl, rfl, efl6, by rw [sizeLine_eq]; show 0 < 16777216; decide, _, rfl, ?_⟩
          refine q _ fl [.str z] (fun b u e => ?_) upd_same ?_
          · rw [upd_ne (ne_of_none e hfl)]
            exact sm _ _ (s1 _ _ e)
          · rw [hl, if_pos h2]
            exact .cons (.str _) .nil
        · have h2 : ¬ hasDig z = true := fun k => h (by have := hh.mpr k; omega)
          refine ⟨_, rfl, q _ fl [] (s1.trans sm) (sm _ _ efl) ?_⟩
          rw [hl, if_neg h2]
          exact .nil
    | @lst a xs ds ha dl =>
      refine ⟨_, rfl, _, _, _, _, false, rfl, .ty _, .base (.lst ha), kit_ty (by decide +kernel), _, rfl, iteF ?_⟩
      refine ⟨_, rfl, _, _, _, _, true, rfl, .ty _, .base (.lst ha), kit_ty (by decide +kernel), _, rfl, ?_⟩
      dsimp only
      rw [if_pos rfl]
      rw [lvD_ok.lst] at hln q
      rw [lvS_ok.lst] at hsh
      have hdp : PyData.depthAll ds + 1 ≤ d := hdp
      refine ⟨_, rfl, a, rfl, .inl ⟨⟨_, SqL.of ha⟩, for_list (g := gName 2) (K := K) (a := a) (xs := xs) (fun i σ H' => ∃ (f2 : Addr) (acc : List V) (o2 : Option V), σ = [some (.ref a), some (.ref f2), o2, none] ∧ Same H1 H' ∧ H' f2 = some (.lst acc) ∧ DrAll H' acc ((ds.take i).flatMap lvD)) ⟨fl, [], none, rfl, Same.refl _, efl, .nil⟩ (fun i σ H' _ ⟨_, _, _, _, k, _⟩ => SqL.of (k _ _ ha)) ?_ ?_⟩⟩
      · rintro i y σ H2 hy ⟨f2, acc, o2, rfl, sm, ef, da⟩
        obtain ⟨x, hx, dx⟩ := drAll_val dl hy
        have hxm := List.mem_of_getElem? hx
        have hla := drAll_len da
        have hl1 := fm_take ds i
        have hl2 := fm_take ds (i + 1)
        rw [List.take_add_one, hx, List.flatMap_append, List.length_append] at hl2
        have hl3 : (lvD x).length = ((Option.some x).toList.flatMap lvD).length := by show _ = (List.flatMap lvD [x]).length; simp
        refine ⟨_, rfl, _, rfl, ?_⟩
        cases d with
        | zero => omega
        | succ d =>
        refine ⟨y, x, rfl, dr_sub sm dx, Nat.le_trans (dep_in hxm) (by omega), Nat.le_trans (lvD_in hxm) hln, lvS_in hxm hsh, fun H3 q2 ys sm2 e2 d2 => ?_⟩
        have hly := drAll_len d2
        refine ⟨f2, q2, acc, ys, rfl, rfl, sm2 _ _ ef, e2, by rw [sizeLine_eq]; omega, fun p hp => ?_⟩
        refine ⟨p, acc ++ ys, _, rfl, (sm.trans sm2).trans (same_new hp), upd_same, ?_⟩
        rw [List.take_add_one, hx, List.flatMap_append]
        refine drAll_sub (same_new hp) (drAll_app (drAll_sub sm2 da) ?_)
        show DrAll H3 ys (List.flatMap lvD [x])
        simpa using d2
      · rintro σ H2 ⟨f2, acc, o2, rfl, sm, ef, da⟩
        rw [drAll_len dl, List.take_length] at da
        exact ⟨_, rfl, q _ f2 acc (s1.trans sm) ef da⟩
    | @tup a xs ds ha dl =>
      refine ⟨_, rfl, _, _, _, _, true, rfl, .ty _, .base (.tup ha), kit_ty (by decide +kernel), _, rfl, ?_⟩
      dsimp only
      rw [if_pos rfl]
      rw [if_pos rfl]
      rw [lvD_ok.tup] at hln q
      rw [lvS_ok.tup] at hsh
      have hdp : PyData.depthAll ds + 1 ≤ d := hdp
      refine ⟨_, rfl, a, rfl, .inr ⟨⟨_, SqT.of ha⟩, for_tup (g := gName 2) (K := K) (a := a) (xs := xs) (fun i σ H' => ∃ (f2 : Addr) (acc : List V) (o2 : Option V), σ = [some (.ref a), some (.ref f2), o2, none] ∧ Same H1 H' ∧ H' f2 = some (.lst acc) ∧ DrAll H' acc ((ds.take i).flatMap lvD)) ⟨fl, [], none, rfl, Same.refl _, efl, .nil⟩ (fun i σ H' _ ⟨_, _, _, _, k, _⟩ => SqT.of (k _ _ ha)) ?_ ?_⟩⟩
      · rintro i y σ H2 hy ⟨f2, acc, o2, rfl, sm, ef, da⟩
        obtain ⟨x, hx, dx⟩ := drAll_val dl hy
        have hxm := List.mem_of_getElem? hx
        have hla := drAll_len da
        have hl1 := fm_take ds i
        have hl2 := fm_take ds (i + 1)
        rw [List.take_add_one, hx, List.flatMap_append, List.length_append] at hl2
        have hl3 : (lvD x).length = ((Option.some x).toList.flatMap lvD).length := by show _ = (List.flatMap lvD [x]).length; simp
        refine ⟨_, rfl, _, rfl, ?_⟩
        cases d with
        | zero => omega
        | succ d =>
        refine ⟨y, x, rfl, dr_sub sm dx, Nat.le_trans (dep_in hxm) (by omega), Nat.le_trans (lvD_in hxm) hln, lvS_in hxm hsh, fun H3 q2 ys sm2 e2 d2 => ?_⟩
        have hly := drAll_len d2
        refine ⟨f2, q2, acc, ys, rfl, rfl, sm2 _ _ ef, e2, by rw [sizeLine_eq]; omega, fun p hp => ?_⟩
        refine ⟨p, acc ++ ys, _, rfl, (sm.trans sm2).trans (same_new hp), upd_same, ?_⟩
        rw [List.take_add_one, hx, List.flatMap_append]
        refine drAll_sub (same_new hp) (drAll_app (drAll_sub sm2 da) ?_)
        show DrAll H3 ys (List.flatMap lvD [x])
        simpa using d2
      · rintro σ H2 ⟨f2, acc, o2, rfl, sm, ef, da⟩
        rw [drAll_len dl, List.take_length] at da
        exact ⟨_, rfl, q _ f2 acc (s1.trans sm) ef da⟩
end
end Pk
set_option Elab.async false
set_option linter.all false
set_option maxRecDepth 100000
set_option maxHeartbeats 4000000
namespace Tk
open PySem L2 SX
/-- tokens that end with "end", each with a line -/
structure Gl (r : Rem) : Prop where
  ex : ∃ p e, r = p ++ [endTok e] ∧ 1 ≤ e ∧ ∀ t ∈ p, 1 ≤ t.2.2
def LG {α : Type} (x : Except Nat α) (g : α → Prop) : Prop := match x with
  | .ok a => g a
  | .error l => 1 ≤ l
theorem LG.bd {α β : Type} {x : Except Nat α} {g : α → Prop} {f : α → Except Nat β} {h : β → Prop} (hx : LG x g) (hf : ∀ a, g a → LG (f a) h) : LG (bd x f) h := by
  cases x with
  | ok a => exact hf a hx
  | error l => exact hx
theorem Gl.line {r : Rem} (h : Gl r) : 1 ≤ lineAt r := by
  obtain ⟨p, e, rfl, he, hp⟩ := h.ex
  cases p with
  | nil => exact he
  | cons t p => exact hp t List.mem_cons_self
theorem Gl.tl {r : Rem} (h : Gl r) (hn : kindAt r ≠ Str.ofString "end" ∨ valAt r ≠ .str (Str.ofString "")) : Gl r.tail := by
  obtain ⟨p, e, rfl, he, hp⟩ := h.ex
  cases p with
  | nil =>
    rcases hn with z | z
    · exact absurd rfl z
    · exact absurd rfl z
  | cons t p => exact ⟨p, e, rfl, he, fun u hu => hp u (List.mem_cons_of_mem _ hu)⟩
theorem Gl.word {r : Rem} {w : Str} (h : Gl r) (hw : w ≠ Str.ofString "") (e : wordAt w r = true) : Gl r.tail := h.tl (.inr fun z => hw (by
  have e2 : valAt r = .str w := of_decide_eq_true e
  rw [z] at e2
  exact (V.str.inj e2).symm))
theorem g_mTake {r : Rem} {w : Str} (h : Gl r) (hw : w ≠ Str.ofString "") : LG (mTake w r) Gl := by
  unfold mTake
  split
  · rename_i c
    exact h.word hw c
  · exact h.line
theorem g_mKind {r : Rem} {k : Str} (h : Gl r) (hk : k ≠ Str.ofString "end") : LG (mKind k r) fun p => Gl p.2 := by
  unfold mKind
  split
  · rename_i c
    exact h.tl (.inl (by rw [c]; exact hk))
  · exact h.line
theorem g_mName {r : Rem} (h : Gl r) : LG (mName r) fun p => Gl p.2 := g_mKind h (by decide +kernel)
theorem g_mNum {r : Rem} (h : Gl r) : LG (mNum r) fun p => Gl p.2 := g_mKind h (by decide +kernel)
theorem g_mOne {r : Rem} {ws : List Str} (h : Gl r) (hw : inV (.str (Str.ofString "")) (ws.map V.str) = false) : LG (mOne ws r) fun p => Gl p.2 := by
  unfold mOne
  split
  · rename_i c
    exact h.tl (.inr fun z => by rw [z, hw] at c; cases c)
  · exact h.line
theorem g_mEnd {r : Rem} (h : Gl r) : LG (mEnd r) Gl := by
  unfold mEnd
  split
  · exact h
  · exact h.line
theorem g_mLoop {stop : Str} {step : Rem → Rs} (hw : stop ≠ Str.ofString "") (hs : ∀ {r : Rem}, Gl r → LG (step r) fun p => Gl p.2) : ∀ {f : Nat} {r : Rem}, Gl r → LG (mLoop stop step f r) fun p => Gl p.2
  | 0, r, h => h.line
  | f + 1, r, h => by
    rw [mLoop_s]
    split
    · rename_i c
      exact h.word hw c
    · exact LG.bd (hs h) fun p h => LG.bd (g_mLoop hw hs h) fun q h => h
theorem g_mMany {word : Str} {step : Rem → Rs} (hw : word ≠ Str.ofString "") (hs : ∀ {r : Rem}, Gl r → LG (step r) fun p => Gl p.2) : ∀ {f : Nat} {r : Rem}, Gl r → LG (mMany word step f r) fun p => Gl p.2
  | 0, r, h => h.line
  | f + 1, r, h => by
    rw [mMany_s]
    split
    · rename_i c
      exact LG.bd (hs (h.word hw c)) fun p h => LG.bd (g_mMany hw hs h) fun q h => h
    · exact h
theorem g_mOpt {w : Str} {m : Rem → Rs} (hw : w ≠ Str.ofString "") (hm : ∀ {r : Rem}, Gl r → LG (m r) fun p => Gl p.2) {r : Rem} (h : Gl r) : LG (mOpt w m r) fun p => Gl p.2 := by
  unfold mOpt
  split
  · rename_i c
    exact hm (h.word hw c)
  · exact h
theorem g_mListIn {o c : Str} {step : Rem → Rs} (ho : o ≠ Str.ofString "") (hc : c ≠ Str.ofString "") (hs : ∀ {r : Rem}, Gl r → LG (step r) fun p => Gl p.2) {r : Rem} (h : Gl r) : LG (mListIn o c step r) fun p => Gl p.2 := by
  unfold mListIn
  refine LG.bd (g_mTake h ho) fun r h => ?_
  split
  · rename_i cc
    exact h.word hc cc
  · exact LG.bd (hs h) fun p h => LG.bd (g_mMany (by decide +kernel) hs h) fun q h => LG.bd (g_mTake h hc) fun r h => h
theorem g_nots : ∀ (n : Nat) {r : Rem}, Gl r → Gl (mNots n r).2
  | 0, _, h => h
  | n + 1, r, h => by
    unfold mNots
    split
    · rename_i c
      exact g_nots n (h.word (by decide +kernel) c)
    · exact h
theorem g_mWidth {r : Rem} (h : Gl r) : LG (mWidth r) fun p => Gl p.2 := by
  unfold mWidth
  refine LG.bd (g_mName h) fun a h => ?_
  refine LG.bd (g_mTake h (by decide +kernel)) fun a h => ?_
  refine LG.bd (g_mNum h) fun a h => ?_
  exact h
theorem g_mFieldStep {r : Rem} (h : Gl r) : LG (mFieldStep r) fun p => Gl p.2 := by
  unfold mFieldStep
  refine LG.bd (g_mWidth h) fun a h => ?_
  refine LG.bd (g_mTake h (by decide +kernel)) fun a h => ?_
  exact h
theorem g_mFields {r : Rem} (h : Gl r) : LG (mFields r) fun p => Gl p.2 := by
  unfold mFields
  refine LG.bd (g_mTake h (by decide +kernel)) fun a h => ?_
  exact g_mLoop (by decide +kernel) (fun h => g_mFieldStep h) h
theorem g_mHeader {r : Rem} (h : Gl r) : LG (mHeader r) fun p => Gl p.2 := by
  unfold mHeader
  refine LG.bd (g_mName h) fun a h => ?_
  refine LG.bd (g_mFields h) fun a h => ?_
  exact h
theorem g_mTargetV {r : Rem} (h : Gl r) : LG (mTargetV r) fun p => Gl p.2 := by
  unfold mTargetV
  split
  · rename_i c
    exact g_mOne h (by decide +kernel)
  · exact g_mName h
theorem g_mOwnerV {r : Rem} (h : Gl r) : LG (mOwnerV r) fun p => Gl p.2 := by
  unfold mOwnerV
  split
  · rename_i c
    exact g_mOne h (by decide +kernel)
  · exact g_mName h
theorem g_mField {r : Rem} (h : Gl r) : LG (mField r) fun p => Gl p.2 := by
  unfold mField
  refine LG.bd (g_mOwnerV h) fun a h => ?_
  refine LG.bd (g_mTake h (by decide +kernel)) fun a h => ?_
  refine LG.bd (g_mName h) fun a h => ?_
  exact h
theorem g_mNumD {r : Rem} (h : Gl r) : LG (mNumD r) fun p => Gl p.2 := by
  unfold mNumD
  refine LG.bd (g_mNum h) fun a h => ?_
  exact h
theorem g_mNameD {r : Rem} (h : Gl r) : LG (mNameD r) fun p => Gl p.2 := by
  unfold mNameD
  refine LG.bd (g_mName h) fun a h => ?_
  exact h
theorem g_mNameS {r : Rem} (h : Gl r) : LG (mNameS r) fun p => Gl p.2 := by
  unfold mNameS
  refine LG.bd (g_mName h) fun a h => ?_
  refine LG.bd (g_mTake h (by decide +kernel)) fun a h => ?_
  exact h
theorem g_mRow {r : Rem} (h : Gl r) : LG (mRow r) fun p => Gl p.2 := by
  unfold mRow
  refine LG.bd (g_mNum h) fun a h => ?_
  refine LG.bd (g_mOpt (by decide +kernel) (fun h => g_mNumD h) h) fun a h => ?_
  refine LG.bd (g_mTake h (by decide +kernel)) fun a h => ?_
  refine LG.bd (g_mTargetV h) fun a h => ?_
  refine LG.bd (g_mTake h (by decide +kernel)) fun a h => ?_
  exact h
theorem g_mSelEnd {r : Rem} (h : Gl r) : LG (mSelEnd r) fun p => Gl p.2 := by
  unfold mSelEnd
  refine LG.bd (g_mTake h (by decide +kernel)) fun a h => ?_
  refine LG.bd (g_mTargetV h) fun a h => ?_
  refine LG.bd (g_mTake h (by decide +kernel)) fun a h => ?_
  refine LG.bd (g_mTake h (by decide +kernel)) fun a h => ?_
  exact h
theorem g_mWay {r : Rem} (h : Gl r) : LG (mWay r) fun p => Gl p.2 := by
  unfold mWay
  split
  · rename_i c
    refine LG.bd (g_mTargetV (h.word (by decide +kernel) c)) fun a h => ?_
    refine LG.bd (g_mTake h (by decide +kernel)) fun a h => ?_
    exact h
  · refine LG.bd (g_mTake h (by decide +kernel)) fun a h => ?_
    refine LG.bd (g_mField h) fun a h => ?_
    refine LG.bd (g_mTake h (by decide +kernel)) fun a h => ?_
    refine LG.bd (g_mLoop (by decide +kernel) (fun h => g_mRow h) h) fun a h => ?_
    refine LG.bd (g_mSelEnd h) fun a h => ?_
    exact h
theorem g_mState {r : Rem} (h : Gl r) : LG (mState r) fun p => Gl p.2 := by
  unfold mState
  refine LG.bd (g_mTake h (by decide +kernel)) fun a h => ?_
  refine LG.bd (g_mName h) fun a h => ?_
  refine LG.bd (g_mTake h (by decide +kernel)) fun a h => ?_
  refine LG.bd (g_mOpt (by decide +kernel) (fun h => g_mNameS h) h) fun a h => ?_
  refine LG.bd (g_mWay h) fun a h => ?_
  refine LG.bd (g_mTake h (by decide +kernel)) fun a h => ?_
  exact h
theorem g_mStates {r : Rem} (h : Gl r) : LG (mStates r) fun p => Gl p.2 := by
  unfold mStates
  refine LG.bd (g_mTake h (by decide +kernel)) fun a h => ?_
  exact g_mLoop (by decide +kernel) (fun h => g_mState h) h
theorem g_mOperand {r : Rem} (h : Gl r) : LG (mOperand r) fun p => Gl p.2 := by
  unfold mOperand
  split
  · rename_i c
    refine LG.bd (g_mNum h) fun a h => ?_
    exact h
  · refine LG.bd (g_mOwnerV h) fun a h => ?_
    split
    · rename_i c
      exact h
    · refine LG.bd (g_mTake h (by decide +kernel)) fun a h => ?_
      refine LG.bd (g_mName h) fun a h => ?_
      exact h
theorem g_mExpr {r : Rem} (h : Gl r) : LG (mExpr r) fun p => Gl p.2 := by
  unfold mExpr
  refine LG.bd (g_mOperand h) fun a h => ?_
  split
  · rename_i c
    refine LG.bd (g_mOne h (by decide +kernel)) fun a h => ?_
    refine LG.bd (g_mOperand h) fun a h => ?_
    exact h
  · exact h
theorem g_mOper0 {r : Rem} (h : Gl r) : LG (mOper0 r) fun p => Gl p.2 := by
  unfold mOper0
  split
  · rename_i c
    refine LG.bd (g_mExpr (h.word (by decide +kernel) c)) fun a h => ?_
    exact h
  · split
    · rename_i c
      exact h.word (by decide +kernel) c
    · split
      · rename_i c
        refine LG.bd (g_mName (h.word (by decide +kernel) c)) fun a h => ?_
        exact h
      · split
        · rename_i c
          refine LG.bd (g_mName (h.word (by decide +kernel) c)) fun a h => ?_
          exact h
        · refine LG.bd (g_mField h) fun a h => ?_
          refine LG.bd (g_mTake h (by decide +kernel)) fun a h => ?_
          refine LG.bd (g_mExpr h) fun a h => ?_
          exact h
theorem g_mOper {r : Rem} (h : Gl r) : LG (mOper r) fun p => Gl p.2 := by
  unfold mOper
  refine LG.bd (g_mOper0 h) fun a h => ?_
  refine LG.bd (g_mTake h (by decide +kernel)) fun a h => ?_
  exact h
theorem g_mAction {r : Rem} (h : Gl r) : LG (mAction r) fun p => Gl p.2 := by
  unfold mAction
  refine LG.bd (g_mName h) fun a h => ?_
  refine LG.bd (g_mListIn (by decide +kernel) (by decide +kernel) (fun h => g_mWidth h) h) fun a h => ?_
  refine LG.bd (g_mTake h (by decide +kernel)) fun a h => ?_
  refine LG.bd (g_mLoop (by decide +kernel) (fun h => g_mOper h) h) fun a h => ?_
  exact h
theorem g_mKey {r : Rem} (h : Gl r) : LG (mKey r) fun p => Gl p.2 := by
  unfold mKey
  refine LG.bd (g_mField h) fun a h => ?_
  refine LG.bd (g_mOne h (by decide +kernel)) fun a h => ?_
  refine LG.bd (g_mTake h (by decide +kernel)) fun a h => ?_
  exact h
theorem g_mDefault {r : Rem} (h : Gl r) : LG (mDefault r) fun p => Gl p.2 := by
  unfold mDefault
  refine LG.bd (g_mTake h (by decide +kernel)) fun a h => ?_
  refine LG.bd (g_mName h) fun a h => ?_
  refine LG.bd (g_mListIn (by decide +kernel) (by decide +kernel) (fun h => g_mNumD h) h) fun a h => ?_
  refine LG.bd (g_mTake h (by decide +kernel)) fun a h => ?_
  exact h
theorem g_mTable {r : Rem} (h : Gl r) : LG (mTable r) fun p => Gl p.2 := by
  unfold mTable
  refine LG.bd (g_mName h) fun a h => ?_
  refine LG.bd (g_mTake h (by decide +kernel)) fun a h => ?_
  refine LG.bd (g_mMany (by decide +kernel) (fun h => g_mKey h) h) fun a h => ?_
  refine LG.bd (g_mMany (by decide +kernel) (fun h => g_mNameS h) h) fun a h => ?_
  refine LG.bd (g_mDefault h) fun a h => ?_
  refine LG.bd (g_mTake h (by decide +kernel)) fun a h => ?_
  refine LG.bd (g_mNum h) fun a h => ?_
  refine LG.bd (g_mTake h (by decide +kernel)) fun a h => ?_
  refine LG.bd (g_mTake h (by decide +kernel)) fun a h => ?_
  exact h
theorem g_mCmp {r : Rem} (h : Gl r) : LG (mCmp r) fun p => Gl p.2 := by
  unfold mCmp
  split
  · rename_i c
    refine LG.bd (g_mName (h.word (by decide +kernel) c)) fun a h => ?_
    exact h
  · refine LG.bd (g_mField h) fun a h => ?_
    refine LG.bd (g_mOne h (by decide +kernel)) fun a h => ?_
    refine LG.bd (g_mNum h) fun a h => ?_
    exact h
theorem g_mCond {r : Rem} (h : Gl r) : LG (mCond r) fun p => Gl p.2 := LG.bd (g_mCmp (g_nots 8 h)) fun a h => h
theorem g_mStmt {blk : Rem → RsL} (hb : ∀ {r : Rem}, Gl r → LG (blk r) fun p => Gl p.2) {r : Rem} (h : Gl r) : LG (mStmt blk r) fun p => Gl p.2 := by
  unfold mStmt
  split
  · rename_i c
    refine LG.bd (g_mName (h.word (by decide +kernel) c)) fun a h => ?_
    refine LG.bd (g_mTake h (by decide +kernel)) fun a h => ?_
    exact h
  · refine LG.bd (g_mTake h (by decide +kernel)) fun a h => ?_
    refine LG.bd (g_mCond h) fun a h => ?_
    refine LG.bd (hb h) fun a h => ?_
    refine LG.bd (g := fun p => Gl p.2) (by
      split
      · rename_i c
        exact hb (h.word (by decide +kernel) c)
      · exact h) fun a h => ?_
    exact h
theorem g_mBlock : ∀ (n : Nat) {r : Rem}, Gl r → LG (mBlock n r) fun p => Gl p.2
  | 0, r, h => h.line
  | n + 1, r, h => by
    unfold mBlock
    refine LG.bd (g_mTake h (by decide +kernel)) fun r h => ?_
    exact g_mLoop (by decide +kernel) (fun h => g_mStmt (fun h => g_mBlock n h) h) h
theorem g_mEmits {r : Rem} (h : Gl r) : LG (mEmits r) fun p => Gl p.2 := by
  unfold mEmits
  refine LG.bd (g_mName h) fun a h => ?_
  refine LG.bd (g_mMany (by decide +kernel) (fun h => g_mNameD h) h) fun a h => ?_
  refine LG.bd (g_mTake h (by decide +kernel)) fun a h => ?_
  exact h
theorem g_mProgram {r : Rem} (h : Gl r) : LG (mProgram r) fun p => Gl p.2 := by
  unfold mProgram
  refine LG.bd (g_mTake h (by decide +kernel)) fun a h => ?_
  refine LG.bd (g_mName h) fun a h => ?_
  refine LG.bd (g_mMany (by decide +kernel) (fun h => g_mHeader h) h) fun a h => ?_
  refine LG.bd (g := fun p => Gl p.2) (by
    split
    · rename_i c
      exact g_mFields (h.word (by decide +kernel) c)
    · exact h) fun a h => ?_
  refine LG.bd (g_mTake h (by decide +kernel)) fun a h => ?_
  refine LG.bd (g_mStates h) fun a h => ?_
  refine LG.bd (g_mMany (by decide +kernel) (fun h => g_mAction h) h) fun a h => ?_
  refine LG.bd (g_mMany (by decide +kernel) (fun h => g_mTable h) h) fun a h => ?_
  refine LG.bd (g_mTake h (by decide +kernel)) fun a h => ?_
  refine LG.bd (g_mBlock 8 h) fun a h => ?_
  refine LG.bd (g := fun p => Gl p.2) (by
    split
    · rename_i c
      exact g_mEmits (h.word (by decide +kernel) c)
    · exact h) fun a h => ?_
  refine LG.bd (g_mEnd h) fun a h => ?_
  exact h
end Tk
set_option Elab.async false
set_option linter.all false
set_option maxRecDepth 100000
set_option maxHeartbeats 4000000
namespace Pk
open PySem PySem.Spec PyProof.Rows L2
/-- data that can be laid, of a small depth -/
def Lay (n : Nat) (d : PyData) : Prop := PyData.canLay0 d = true ∧ d.depth ≤ n
theorem lay_all {n : Nat} {l : List PyData} (h : ∀ d ∈ l, Lay n d) : PyData.canLayAll0 l = true ∧ PyData.depthAll l ≤ n := by
  induction l with
  | nil => exact ⟨rfl, Nat.zero_le _⟩
  | cons a l ih =>
    obtain ⟨h1, h2⟩ := h a List.mem_cons_self
    obtain ⟨h3, h4⟩ := ih fun x hx => h x (List.mem_cons_of_mem _ hx)
    refine ⟨?_, ?_⟩
    · show (PyData.canLay0 a && PyData.canLayAll0 l) = true
      rw [h1, h3]
      rfl
    · show max a.depth (PyData.depthAll l) ≤ n
      omega
theorem Lay.lst {n : Nat} {l : List PyData} (h : ∀ d ∈ l, Lay n d) : Lay (n + 1) (.list l) := by
  obtain ⟨h1, h2⟩ := lay_all h
  exact ⟨h1, by show PyData.depthAll l + 1 ≤ _; omega⟩
theorem Lay.tup {n : Nat} {l : List PyData} (h : ∀ d ∈ l, Lay n d) : Lay (n + 1) (.tuple l) := by
  obtain ⟨h1, h2⟩ := lay_all h
  exact ⟨h1, by show PyData.depthAll l + 1 ≤ _; omega⟩
theorem Lay.int (i : Int) (n : Nat) : Lay n (.int i) := ⟨rfl, Nat.zero_le _⟩
theorem Lay.non (n : Nat) : Lay n .none := ⟨rfl, Nat.zero_le _⟩
theorem Lay.shaped {n : Nat} {l : List PyData} (h : Lay n (.tuple l)) (hn : n ≤ 64) : SeqAt.shaped (.tuple l) = true := by
  obtain ⟨h1, h2⟩ := h
  have h1' : PyData.canLayAll0 l = true := h1
  have h2' : PyData.depthAll l + 1 ≤ n := h2
  show (PyData.canLayAll0 l && decide (PyData.depthAll l + 1 ≤ 64)) = true
  rw [h1', decide_eq_true (by omega)]
  rfl
theorem Lay.shapedL {n : Nat} {l : List PyData} (h : Lay n (.list l)) (hn : n ≤ 64) : SeqAt.shaped (.list l) = true := by
  obtain ⟨h1, h2⟩ := h
  have h1' : PyData.canLayAll0 l = true := h1
  have h2' : PyData.depthAll l + 1 ≤ n := h2
  show (PyData.canLayAll0 l && decide (PyData.depthAll l + 1 ≤ 64)) = true
  rw [h1', decide_eq_true (by omega)]
  rfl
theorem Lay.str {x : Str} (h : PyData.strOk x = true) (n : Nat) : Lay n (.str x) := ⟨h, Nat.zero_le _⟩
theorem Lay.cons {n : Nat} {a : PyData} {l : List PyData} (h : Lay n a) (r : ∀ d ∈ l, Lay n d) : ∀ d ∈ a :: l, Lay n d := fun d hd => by
  rcases List.mem_cons.mp hd with rfl | hd
  · exact h
  · exact r d hd
theorem Lay.nil {n : Nat} : ∀ d ∈ ([] : List PyData), Lay n d := fun d hd => absurd hd List.not_mem_nil
end Pk
set_option Elab.async false
set_option linter.all false
set_option maxRecDepth 100000
set_option maxHeartbeats 4000000
namespace Pk
open PySem PySem.Spec PyProof.Rows L2 SX GxR Tk
theorem pcs_at : ∀ {ps : List Pc} {ws : List Str}, PcsOk ps ws → ∀ x ∈ ps, ∃ w, PcOk x w
  | _, _, .nil, x, h => nomatch h
  | y :: ps, _ :: _, .cons h r, x, hx => by
    rcases List.mem_cons.mp hx with e | e
    · rw [e]; exact ⟨_, h⟩
    · exact pcs_at r x e
theorem lines_w : ∀ (ps : List Pc) (l : Nat), 1 ≤ l → ∀ t ∈ wTk l ps, 1 ≤ t.2.2
  | [], _, _, t, h => nomatch h
  | x :: ps, l, hl, t, h => by
    rcases List.mem_cons.mp h with e | e
    · rw [e]; exact hl
    · exact lines_w ps _ (by omega) t e
theorem lnE_pos : ∀ (ps : List Pc) (l : Nat), l ≤ lnE l ps
  | [], l => Nat.le_refl _
  | x :: ps, l => Nat.le_trans (Nat.le_add_right _ _) (lnE_pos ps _)
theorem gl_w (ps : List Pc) : Gl (wToks 1 ps) := ⟨⟨wTk 1 ps, lnE 1 ps, wToks_eq ps 1, lnE_pos ps 1, lines_w ps 1 (Nat.le_refl _)⟩⟩
theorem wToks_len (ps : List Pc) : (wToks 1 ps).length = ps.length + 1 := by
  rw [wToks_eq, List.length_append, wTk_len]
  rfl
theorem good_up {r : List Tk.Tok} (h : Good Nm2 r) : Good (fun x => hasDig x = true) r := by
  obtain ⟨p, l, e, hp⟩ := h.ex
  exact ⟨p, l, e, fun t ht => tk_down (hp t ht)⟩
theorem good_w {ps : List Pc} {ws : List Str} (h : PcsOk ps ws) : Good Nm2 (wToks 1 ps) := good_written ps 1 fun x hx l => let ⟨_, k⟩ := pcs_at h x hx; k.tk l
theorem vals_kind {r : List Tk.Tok} (h : Good Nm2 r) : ∀ d ∈ vals r, (∃ x, d = .str x ∧ PyData.strOk x = true) ∨ ∃ n : Nat, d = .int n := by
  obtain ⟨p, l, rfl, hp⟩ := h.ex
  intro d hd
  rw [vals_app, vals_end, List.append_nil] at hd
  obtain ⟨t, ht, hd⟩ := List.mem_flatMap.mp hd
  unfold valT at hd
  split at hd
  · rename_i c
    rw [List.mem_singleton.mp hd]
    rcases (hp t ht).ex with ⟨_, x, hx, _, hn⟩ | ⟨_, n, hn⟩ | ⟨h1, h2, _⟩
    · rw [hx]
      exact .inl ⟨x, rfl, hn.2.2⟩
    · rw [hn]
      exact .inr ⟨n, rfl⟩
    · exact (c.elim h1 h2).elim
  · cases hd
theorem vals_le (r : List Tk.Tok) : (vals r).length ≤ r.length := by
  induction r with
  | nil => exact Nat.le_refl _
  | cons t r ih =>
    show (valT t ++ vals r).length ≤ _
    have := valT_len t
    rw [List.length_append, List.length_cons]
    omega
/-- both tell the same of the written text -/
theorem fate49 {ps : List Pc} {ws : List Str} (h : PcsOk ps ws) : match progT (wText ps) with
    | .ok d => pd g49 nt49 (30 * (wToks 1 ps).length + 60) [o "$program"] 0 0 (wToks 1 ps) = 0 ∧ vals (wToks 1 ps) = lvD d ∧ (∀ e ∈ lvS d, e ≠ .none) ∧ PyData.depth d ≤ 30 ∧ ∃ ds, d = .tuple ds ∧ ds.length = 9
    | .error l => pd g49 nt49 (30 * (wToks 1 ps).length + 60) [o "$program"] 0 0 (wToks 1 ps) = (l : Int) ∧ 1 ≤ l := by
  have hg := good_w h
  have ht : toksT 1 (wText ps) = .ok (wToks 1 ps) := toks_written ps 1 fun x hx => let ⟨_, k⟩ := pcs_at h x hx; ⟨k.pc, k.gp⟩
  obtain ⟨k, hk, z⟩ := prog_pd lvD_ok (wToks 1 ps) (good_up hg)
  obtain ⟨k2, hk2, z2⟩ := prog_pd lvS_ok (wToks 1 ps) hg
  have hf : 30 * (wToks 1 ps).length + 60 = k + 1 + (30 * (wToks 1 ps).length + 60 - k - 1) := by omega
  have hgl := g_mProgram (gl_w ps)
  unfold progT
  rw [ht, bd_ok]
  cases e : mProgram (wToks 1 ps) with
  | error l =>
    rw [e] at z hgl
    rw [bd_err]
    exact ⟨by rw [hf]; exact z _, hgl⟩
  | ok p =>
    obtain ⟨d, r⟩ := p
    rw [e] at z z2
    rw [bd_ok]
    obtain ⟨hd, hds⟩ := d_mProgram e
    refine ⟨by rw [hf]; exact z.2 _, z.1, fun x hx => ?_, hd, hds⟩
    rw [← z2.1] at hx
    rcases vals_kind hg x hx with ⟨y, rfl, _⟩ | ⟨n, rfl⟩
    · exact fun z => nomatch z
    · exact fun z => nomatch z
end Pk
set_option Elab.async false
set_option linter.all false
set_option maxRecDepth 100000
set_option maxHeartbeats 8000000
namespace Pk
open PySem PySem.Spec PyProof.Rows L2 SX GxR Tk
abbrev sLw : Stmt := topS 74
abbrev NLw : List Str := ["script", "state", "rules", "row", "k", "text", "looks", "values", "due", "line", "told", "found", "one"]
theorem scLw : FnScope NLw ["script"] (defScope sLw) := ⟨rfl, rfl, rfl, by decide +kernel, rfl, by decide +kernel, by decide +kernel⟩
theorem tab_kp {Pt s c : Addr} {H H' : Hp} (tg : TabG H Pt) (hS : StAt H s c) (k : Kp s c H H') : TabG H' Pt := by
  obtain ⟨ps, e1, e2⟩ := tg
  obtain ⟨cells, seed, h1, h2, _⟩ := hS
  exact ⟨ps, k _ _ (fun z => by rw [z, h1] at e1; cases e1) (fun z => by rw [z, h2] at e1; cases e1) e1, e2⟩
theorem tab_same {Pt : Addr} {H H' : Hp} (tg : TabG H Pt) (k : Same H H') : TabG H' Pt := by
  obtain ⟨ps, e1, e2⟩ := tg
  exact ⟨ps, k _ _ e1, e2⟩
structure Lw49 (mg : Str → Option Value) : Prop where
  zRange : mg "range" = none
  zLen : mg "len" = none
  zIsi : mg "isinstance" = none
  zBool : mg "bool" = none
  zTuple : mg "tuple" = none
/-- a call within which nothing is raised -/
theorem passF {P : Program} {w : World} {X : Cx} : Passes (L2.CX P w) X E0 := fun _ _ _ _ _ _ _ h => by
  obtain ⟨_, _, _, _, _, _, _, _, _, _, _, _, hE⟩ := h
  exact hE.elim
theorem sm_l {G H : Hp} {a : Addr} {xs : List V} (k : Sm G H) (h : G a = some (.lst xs)) : H a = some (.lst xs) := k _ _ (fun ps z => nomatch z) h
theorem sm_t {G H : Hp} {a : Addr} {xs : List V} (k : Sm G H) (h : G a = some (.tup xs)) : H a = some (.tup xs) := k _ _ (fun ps z => nomatch z) h
mutual
theorem dr_sm {G H : Hp} (k : Sm G H) : ∀ {d : PyData} {v : V}, Dr G v d → Dr H v d
  | _, _, .non => .non
  | _, _, .bl b => .bl b
  | _, _, .int i => .int i
  | _, _, .str x => .str x
  | _, _, .lst h r => .lst (sm_l k h) (drAll_sm k r)
  | _, _, .tup h r => .tup (sm_t k h) (drAll_sm k r)
theorem drAll_sm {G H : Hp} (k : Sm G H) : ∀ {ds : List PyData} {vs : List V}, DrAll G vs ds → DrAll H vs ds
  | _, _, .nil => .nil
  | _, _, .cons h r => .cons (dr_sm k h) (drAll_sm k r)
end
theorem drAll_kind {H : Hp} : ∀ {ds : List PyData} {vs : List V}, DrAll H vs ds → (∀ d ∈ ds, (∃ x, d = .str x ∧ PyData.strOk x = true) ∨ ∃ n : Nat, d = .int n) → ∀ v ∈ vs, (∃ x, v = V.str x) ∨ ∃ n : Int, v = .int n
  | _, _, .nil, _, v, hv => nomatch hv
  | d :: ds, _, .cons (v := v0) h r, hk, v, hv => by
    rcases List.mem_cons.mp hv with e | e
    · rw [e]
      rcases hk d List.mem_cons_self with ⟨x, rfl, _⟩ | ⟨n, rfl⟩
      · exact .inl ⟨x, dr_str h⟩
      · exact .inr ⟨n, dr_int h⟩
    · exact drAll_kind r (fun d hd => hk d (List.mem_cons_of_mem _ hd)) v e
def spLaw (K : PySem.W.Frag) (Pt : Addr) : Sp := fun vs H Q _ => ∃ (a : Addr) (ns : List Int), vs = [.ref a] ∧ SqL K H a (ns.map V.int) ∧ ns.length ≤ 63 ∧ TabG H Pt ∧ ∀ H', Q (.bl true) H'
/-- between two turns -/
def LwI (G : Hp) (s c : Addr) (Pt a d : Addr) (i : Nat) (σ : L2.St) (H' : Hp) : Prop := ∃ (p : Addr) (ws : List Str) (o4 : Option V), σ = [some (.ref a), some (.ref s), some (.ref d), some (.ref p), o4, none, none, none, none, none, none, none, none] ∧ Sg G H' s c ∧ TabG H' Pt ∧ p ≠ s ∧ p ≠ c ∧ H' p = some (.lst (ws.map V.str)) ∧ (∀ x ∈ ws, x ∈ trms) ∧ ws.length ≤ 6000 + i
section
variable {P : Program} {w : World} {K : PySem.W.Frag} {mg : Str → Option Value} {base : Heap} {Pt cT : Addr}
theorem ok_law {f : Addr} {fd : FuncData} (F : Fun K "law" "law" sLw f fd) (T : Lw49 mg) (D1 : Df P w K mg base CX0 1 "_law_state" ["script"] (spState K)) (D2 : Df P w K mg base CX0 2 "_law_rules" [] (spRulE gRul)) (D3 : Df P w K mg base CX0 3 "_law_sentence" ["state", "rules"] spSen)
    (D4 : Df P w K mg base CX0 3 "_law_turned" ["state", "row"] spTur) (D5 : Df P w K mg base CX0 4 "_law_written" ["state", "row"] spWri) (D6 : Df P w K mg base CX0 1 "_law_line" ["rules", "looks"] spLin) (D7 : Df P w K mg base CX0 27 "_law_outcome" ["text"] (spOut49 K Pt))
    (D8 : Df P w K mg base CX0 32 "_law_leaves" ["part"] (spLv 31)) (D9 : Df P w K mg base CX0 2 "_law_pick" ["state", "row"] (spPick K)) (D10 : Df P w K mg base (L2.CX P w) 26 "parse_program" ["text"] (spProgram K Pt cT)) : FnG P w K mg base CX0 33 f fd ["script"] (spLaw K Pt) := by
  obtain ⟨f1, fd1, G1, g1, k1, b1⟩ := D1.ex
  obtain ⟨f2, fd2, G2, g2, k2, b2⟩ := D2.ex
  obtain ⟨f3, fd3, G3, g3, k3, b3⟩ := D3.ex
  obtain ⟨f4, fd4, G4, g4, k4, b4⟩ := D4.ex
  obtain ⟨f5, fd5, G5, g5, k5, b5⟩ := D5.ex
  obtain ⟨f6, fd6, G6, g6, k6, b6⟩ := D6.ex
  obtain ⟨f7, fd7, G7, g7, k7, b7⟩ := D7.ex
  obtain ⟨f8, fd8, G8, g8, k8, b8⟩ := D8.ex
  obtain ⟨f9, fd9, G9, g9, k9, b9⟩ := D9.ex
  obtain ⟨f10, fd10, G10, g10, k10, b10⟩ := D10.ex
  refine okG F scLw (fun vs H Q E h => ?_) (fun cdv A outer s0 H vs Q E hg hr h => ?_)
  · obtain ⟨a, ns, rfl, _⟩ := h
    rfl
  · obtain ⟨a, ns, rfl, hS, hn, tg, qq⟩ := h
    have nd := scLw.nd
    refine ⟨_, (pss_cons (ps_set (i := 1) nd rfl (.inl rfl) (pe_call G1 (hr.mono (by omega)) (by rfl) g1 k1 b1 .nil pass0 (pa_cons (pv 0) pa_nil)))
      (pss_cons (ps_set (i := 2) nd rfl (.inl rfl) (pe_call0 G2 (hr.mono (by omega)) (by rfl) g2 k2 b2 .nil pass0))
      (pss_cons (ps_set (i := 3) nd rfl (.inl rfl) (pe_call G3 (hr.mono (by omega)) (by rfl) g3 k3 b3 .nil pass0 (pa_cons (pv 1) (pa_cons (pv 2) pa_nil))))
      (pss_cons (ps_for PassesOwn.never rfl (pi_range1 (by rfl) T.zRange (pa_cons (pe_call G9 (hr.mono (by omega)) (by rfl) g9 k9 b9 .nil pass0 (pa_cons (pv 1) (pa_cons (pe_lst (pa_cons pe_int (pa_cons pe_int (pa_cons pe_int (pa_cons pe_int (pa_cons pe_int pa_nil)))))) pa_nil))) pa_nil)) (pg_name (i := 4) nd rfl (.inl rfl))
        (pss_one (ps_set (i := 3) nd rfl (.inl rfl) (pe_call G4 (hr.mono (by omega)) (by rfl) g4 k4 b4 .nil pass0 (pa_cons (pv 1) (pa_cons (pv 3) pa_nil))))))
      (pss_cons (ps_asg (pe_call G5 (hr.mono (by omega)) (by rfl) g5 k5 b5 .nil pass0 (pa_cons (pv 1) (pa_cons (pv 3) pa_nil))) (pg_tup (by rfl) (pgs_cons (pg_name (i := 5) nd rfl (.inl rfl)) (pgs_cons (pg_name (i := 6) nd rfl (.inl rfl)) (pgs_cons (pg_name (i := 7) nd rfl (.inl rfl)) pgs_nil)))))
      (pss_cons (ps_set (i := 8) nd rfl (.inl rfl) (pe_call G6 (hr.mono (by omega)) (by rfl) g6 k6 b6 .nil pass0 (pa_cons (pv 2) (pa_cons (pv 6) pa_nil))))
      (pss_cons (ps_asg (pe_call G7 (hr.mono (by omega)) (by rfl) g7 k7 b7 .nil pass0 (pa_cons (pv 5) pa_nil)) (pg_tup (by rfl) (pgs_cons (pg_name (i := 9) nd rfl (.inl rfl)) (pgs_cons (pg_name (i := 10) nd rfl (.inl rfl)) pgs_nil))))
      (pss_cons (ps_if (PW.pt (pw_or (pt_val (pe_callB call_isi (by rfl) T.zIsi PyProof.Rows.boot_isinstance (pa_cons (pv 9) (pa_cons (pe_bltn (v := .ty "bool") (u := .type "bool") rfl T.zBool (by decide +kernel) rfl) pa_nil))) (by intro _; rfl)) (pw_or1 (pt_cmpR op_ne (pv 9) (pv 8) (nomark _))))) (pss_one (ps_ret pe_bl)) pss_nil)
      (pss_cons (ps_if (pt_cmpR op_gt (pv 8) pe_int (nomark _)) (pss_one (ps_ret pe_bl)) pss_nil)
      (pss_cons (ps_set (i := 11) nd rfl (.inl rfl) (pe_call G8 (hr.mono (by omega)) (by rfl) g8 k8 b8 .nil pass0 (pa_cons (pv 10) pa_nil)))
      (pss_cons (ps_if (PW.pt (pw_or (pt_not (pt_val (pe_callB call_isi (by rfl) T.zIsi PyProof.Rows.boot_isinstance (pa_cons (pv 10) (pa_cons (pe_bltn (v := .ty "tuple") (u := .type "tuple") rfl T.zTuple (by decide +kernel) rfl) pa_nil))) (by intro _; rfl))) (pw_or (pt_cmpR op_ne (pe_callB call_len_seq (by rfl) T.zLen PySem.boot_len (pa_cons (pv 10) pa_nil)) pe_int (nomark _)) (pw_or1 (pt_cmpR (op_neD hr.units) (pv 11) (pv 7) (nomark _)))))) (pss_one (ps_ret pe_bl)) pss_nil)
      (pss_one (ps_ret (pe_and (pe_cmpR op_eq (pe_callB call_len_seq (by rfl) T.zLen PySem.boot_len (pa_cons (pe_lc (own := [("one", 12)]) (g := gName 12) rfl nd (pi_list (pv 11)) (blkOk_by (own := [("one", 12)]) (N := NLw) (sc := defScope sLw) (by decide +kernel)) (fun _ _ _ _ _ => (pg_name (i := 12) nd rfl (Or.inl rfl))) (fun _ _ _ _ _ => (pts_one (pt_val (pe_callB (r := rIsi K) call_isi (by rfl) T.zIsi PyProof.Rows.boot_isinstance (pa_cons (pv 12) (pa_cons (pe_bltn (v := .ty "bool") (u := .type "bool") rfl T.zBool (by decide +kernel) rfl) pa_nil))) (by intro _; rfl)))) (fun _ _ _ _ _ => (pv 12))) pa_nil)) pe_int (nomark _)) (pe_one (pe_cmpR (op_eqD hr.units) (pe_call G8 (hr.mono (by omega)) (by rfl) g8 k8 b8 .nil pass0 (pa_cons (pe_call G10 (hr.mono (by omega)) (by rfl) g10 k10 b10 .nil passF (pa_cons (pv 5) pa_nil)) pa_nil)) (pv 7) (nomark _))))))))))))))))), ?_⟩
    refine ⟨_, rfl, a, ns, rfl, hS, hn, fun H1 s c s1 n1 n2 st1 => ?_⟩
    have tg1 := tab_same tg s1
    refine ⟨rfl, s, c, st1, fun d kvs Gr H2 C2 _ s2 hd hGd ed DR => ?_⟩
    have nds := st1.neS hd
    have CG := C2.frz ed nds
    have hR : RulG (upd Gr d (.dK kvs)) d := ⟨kvs, upd_same, DR.sub (same_new2 hGd)⟩
    have tg2 := tab_same tg1 s2
    generalize upd Gr d (.dK kvs) = G at CG hR
    clear C2 DR ed hGd
    refine ⟨_, rfl, _, rfl, s, c, d, G, rfl, CG, hR, fun H3 p ws C3 kp3 hw hl hpn ep => ?_⟩
    have np := CG.st.neS hpn
    have tg3 := tab_kp tg2 CG.st kp3
    refine ⟨_, rfl, by show 5 ≤ sizeLine; decide, fun pl hpl => ?_⟩
    have npl := C3.st.neS hpl
    have sp := same_new (o := .lst [.int 0, .int 1, .int 1, .int 2, .int 3]) hpl
    have C4 := C3.set (o := .lst [.int 0, .int 1, .int 1, .int 2, .int 3]) (C3.sub.free hpl) npl
    refine ⟨s, c, pl, _, rfl, C4.st, SqL.of upd_same, npl.1, npl.2, by show 0 < 5; decide, by show 5 ≤ 1000; decide, fun H4 j y hy st4 kp4 => ?_⟩
    have tg4 := tab_kp (tab_same tg3 sp) C4.st kp4
    have C4' := C4.kp kp4 st4
    have ep4 := kp4 _ _ np.1 np.2 (sp _ _ ep)
    obtain ⟨m, rfl, hm⟩ : ∃ m : Nat, y = .int ((m : Nat) : Int) ∧ m ≤ 3 := by
      match j, hy with
      | 0, e => cases e; exact ⟨0, rfl, by decide⟩
      | 1, e => cases e; exact ⟨1, rfl, by decide⟩
      | 2, e => cases e; exact ⟨1, rfl, by decide⟩
      | 3, e => cases e; exact ⟨2, rfl, by decide⟩
      | 4, e => cases e; exact ⟨3, rfl, by decide⟩
      | k + 5, e => cases e
    refine ⟨_, rfl, by omega, by omega, for_range (lo := 0) (n := ((m : Nat) : Int).toNat) (fun i σ H' => LwI G s c Pt a d i σ H') ⟨p, ws, none, rfl, C4', tg4, np.1, np.2, ep4, hw, by omega⟩ ?_ ?_⟩
    · rintro i σ H5 hi ⟨p, ws, o4, rfl, C5, tg5, ns, nc, ep, hw, hl⟩
      rw [Int.toNat_natCast] at hi
      refine ⟨_, rfl, _, rfl, s, c, p, G, ws, rfl, C5, ns, nc, ep, hw, by omega, fun H6 q2 ys C6 kp6 nq eq hw2 hl2 => ?_⟩
      exact ⟨q2, ys, some (.int (0 + ((i : Nat) : Int))), rfl, C6, tab_kp tg5 C5.st kp6, nq.1, nq.2, eq, hw2, by omega⟩
    clear C3 C4 C4' kp3 kp4 st4 sp tg1 tg2 tg3 tg4 ep ep4 hw hl hpn np npl hpl CG
    rintro σ H5 ⟨p, ws, o4, rfl, C5, tg5, ns, nc, ep, hw, hl⟩
    rw [Int.toNat_natCast] at hl
    refine ⟨_, rfl, _, rfl, s, c, p, G, ws, rfl, C5, ns, nc, ep, hw, by omega, fun H7 G7 q lk va ps xl xv C7 sG7 kp7 eq elk dl eva dv hpo => ?_⟩
    have tg7 := tab_kp tg5 C5.st kp7
    have hpl := Paired.length hpo
    have hwl := wToks_len ps
    have htl := text_len hpo
    refine ⟨q, _, rfl, SqT.of eq, rfl, _, _, rfl, _, _, rfl, _, _, rfl, rfl, ?_⟩
    refine ⟨_, rfl, _, rfl, d, lk, xl, wToks 1 ps, rfl, hR.sub (sG7.trans C7.sub), elk, dl, good_up (good_w hpo), by omega, fun H8 s8 => ?_⟩
    have tg8 := tab_same tg7 s8
    have eva8 := s8 _ _ eva
    have dv8 := drAll_sub s8 dv
    have hvk := vals_kind (good_w hpo)
    have hvl := vals_le (wToks 1 ps)
    have hf := fate49 hpo
    clear C7 sG7 kp7 eq elk dl eva dv s8 C5 tg5 tg7
    refine ⟨_, rfl, wText ps, rfl, by omega, tg8, ?_⟩
    cases e : progT (wText ps) with
    | error l =>
      rw [e] at hf
      obtain ⟨hpd, hl1⟩ := hf
      intro H9 c9 sm9 tg9 hc9
      refine ⟨c9, _, rfl, SqT.of upd_same, rfl, _, _, rfl, _, _, rfl, rfl, ?_⟩
      refine ⟨_, rfl, _, _, _, _, false, rfl, .ty _, .base (.int _), kit_ty (by decide +kernel), _, rfl, iteF ?_⟩
      refine ⟨_, rfl, _, rfl, rfl, _, rfl, ?_⟩
      rw [hpd, decide_eq_true rfl]
      refine iteF ?_
      refine ⟨_, rfl, _, _, rfl, rfl, _, rfl, iteDT (by omega) ?_⟩
      exact qq _
    | ok dd =>
      rw [e] at hf
      obtain ⟨hpd, hvals, hsh, hdep, ds, hds, hdl⟩ := hf
      rw [hvals] at dv8 hvk hvl
      intro H9 p9 xs9 c9 sm9 tg9 ep9 hl9 hD9 hc9
      have s10 := same_new (o := .tup [.int 0, .ref p9]) hc9
      have hD10 := dr_sub (NewS.sub.trans s10) hD9
      have ep10 := s10 _ _ ep9
      have eva10 := s10 _ _ (sm_l sm9 eva8)
      have dv10 := drAll_sub s10 (drAll_sm sm9 dv8)
      have tg10 := tab_same tg9 s10
      refine ⟨c9, _, rfl, SqT.of upd_same, rfl, _, _, rfl, _, _, rfl, rfl, ?_⟩
      generalize upd H9 c9 (.tup [.int 0, .ref p9]) = H10 at hD10 ep10 eva10 dv10 tg10 ⊢
      refine ⟨_, rfl, _, _, _, _, false, rfl, .ty _, .base (.int _), kit_ty (by decide +kernel), _, rfl, iteF ?_⟩
      refine ⟨_, rfl, _, rfl, rfl, _, rfl, ?_⟩
      rw [hpd, decide_eq_true rfl]
      refine iteF ?_
      refine ⟨_, rfl, _, _, rfl, rfl, _, rfl, iteDF (by omega) ?_⟩
      refine ⟨_, rfl, ?_⟩
      refine ⟨.ref p9, dd, rfl, hD10, hdep, by omega, hsh, fun H11 fq fx s11 ef df => ?_⟩
      have lay : Lay 1 (.list (lvD dd)) := Lay.lst fun z hz => by
        rcases hvk z hz with ⟨x, rfl, hx⟩ | ⟨n, rfl⟩
        · exact Lay.str hx _
        · exact Lay.int _ _
      have ep11 := s11 _ _ ep10
      have eva11 := s11 _ _ eva10
      have dv11 := drAll_sub s11 dv10
      have tg11 := tab_same tg10 s11
      have hA : Dp K H11 (.ref fq) (.list (lvD dd)) := dr_dp (.lst ef df)
      have hB : Dp K H11 (.ref va) (.list (lvD dd)) := dr_dp (.lst eva11 dv11)
      have hk := drAll_kind df hvk
      refine ⟨_, rfl, _, _, _, _, true, rfl, .ty _, .base (.tup ep11), kit_ty (by decide +kernel), _, rfl, iteF ?_⟩
      refine ⟨_, rfl, p9, xs9, rfl, .inr (SqT.of ep11), rfl, _, rfl, ?_⟩
      rw [decide_eq_true (show V.int ((xs9.length : Nat) : Int) = V.int 9 by rw [hl9]; rfl)]
      refine iteF ?_
      refine ⟨_, rfl, _, rfl, _, _, hA, hB, lay.shapedL (by decide), lay.shapedL (by decide), _, rfl, ?_⟩
      rw [SeqAt.eqv_refl _ lay.1]
      refine iteF ?_
      refine ⟨_, rfl, fq, rfl, ⟨_, SqL.of ef⟩, fun D hD => ?_⟩
      refine lc_list (K := K) (a := fq) (xs := fx) (fun j H6 => Same H11 H6 ∧ H6 D = some (.lst [])) ⟨same_new hD, upd_same⟩ (fun j H6 _ h => SqL.of (h.1 _ _ ef)) ?_ ?_
      · rintro j y H6 hy ⟨sm6, eD6⟩
        rcases hk y (List.mem_of_getElem? hy) with ⟨x, rfl⟩ | ⟨n, rfl⟩
        · refine ⟨rfl, _, rfl, _, _, _, _, false, rfl, .ty _, .base (.str _), kit_ty (by decide +kernel), _, rfl, iteF ⟨sm6, eD6⟩⟩
        · refine ⟨rfl, _, rfl, _, _, _, _, false, rfl, .ty _, .base (.int _), kit_ty (by decide +kernel), _, rfl, iteF ⟨sm6, eD6⟩⟩
      · rintro H12 ⟨s12, eD⟩
        have tg12 := tab_same tg11 s12
        refine ⟨D, [], rfl, .inl (SqL.of eD), rfl, ?_⟩
        refine ⟨_, rfl, ?_⟩
        refine iteDT rfl ?_
        have dv12 := drAll_sub s12 dv11
        have eva12 := s12 _ _ eva11
        refine ⟨_, rfl, wText ps, rfl, by omega, tg12, ?_⟩
        rw [e]
        intro H13 p13 xs13 sm13 tg13 ep13 hl13 hD13
        refine ⟨.ref p13, dd, rfl, dr_sub NewS.sub hD13, hdep, by omega, hsh, fun H14 fq2 fx2 s14 ef2 df2 => ?_⟩
        have eva14 := s14 _ _ (sm_l sm13 eva12)
        have dv14 := drAll_sub s14 (drAll_sm sm13 dv12)
        refine ⟨_, rfl, _, _, dr_dp (.lst ef2 df2), dr_dp (.lst eva14 dv14), lay.shapedL (by decide), lay.shapedL (by decide), ?_⟩
        rw [SeqAt.eqv_refl _ lay.1]
        exact qq _
end
end Pk
set_option Elab.async false
set_option linter.all false
set_option maxRecDepth 100000
set_option maxHeartbeats 8000000
namespace Pk
open PySem PySem.Spec PyProof.Rows L2 SX GxR Tk PySem.ErX
/-- a method stands -/
structure AtM (K : PySem.W.Frag) (C : Addr) (x q : Str) (st : Stmt) (ps : List Str) : Prop where
  ex : ∃ (f : Addr) (fd : FuncData), Fun K x q st f fd ∧ Meth K C x f ∧ Binds K fd ps []
/-- a class's __init__ stands -/
structure AtI (K : PySem.W.Frag) (C : Addr) (q : Str) (st : Stmt) (ps : List Str) : Prop where
  ex : ∃ (f : Addr) (fd : FuncData), Fun K "__init__" q st f fd ∧ Mk K C f ∧ Binds K fd ps []
theorem AtM.mt {P : Program} {w : World} {K : PySem.W.Frag} {mg : Str → Option Value} {base : Heap} {CX : CXT} {k : Nat} {C : Addr} {x q : Str} {st : Stmt} {ps : List Str} {sp : Sp} (A : AtM K C x q st ps) (H : ∀ f fd, Fun K x q st f fd → FnOk P w K mg base CX k f fd ps sp) : Mt P w K mg base CX k C x ps sp := by
  obtain ⟨f, fd, a, b, c⟩ := A.ex
  exact ⟨f, fd, H f fd a, b, c⟩
theorem all_q {P : Program} {w : World} {K : PySem.W.Frag} {mg : Str → Option Value} {base : Heap} {fa : Addr} {fdL : FuncData} {cRd cT c Pt : Addr} (FL : Fun K "law" "law" sLw fa fdL)
    (A0 : AtD K mg "_law_state" sState ["script"])
    (A1 : AtD K mg "_law_draw" sDraw ["state", "many"])
    (A2 : AtD K mg "_law_pick" sPick ["state", "row"])
    (A3 : AtD K mg "is_reserved" sIsRes ["name"])
    (A4 : AtD K mg "in_run" sInRun ["char"])
    (A5 : AtD K mg "comment_end" sComEnd ["text", "at"])
    (A6 : AtD K mg "part_end" sPartEnd ["text", "at"])
    (A7 : AtD K mg "number_value" sNumVal ["part"])
    (A8 : AtD K mg "is_decimal" sIsDec ["part"])
    (A9 : AtD K mg "is_number" sIsNum ["part"])
    (A10 : AtD K mg "token_of" sTokenOf ["part", "line"])
    (A11 : AtD K mg "tokenize" sTokenize ["text"])
    (A12 : AtD K mg "parse_width" pWidth ["reader"])
    (A13 : AtD K mg "parse_fields" pFields ["reader"])
    (A14 : AtD K mg "parse_header" pHeader ["reader"])
    (A15 : AtD K mg "parse_target" pTarget ["reader"])
    (A16 : AtD K mg "parse_owner" pOwner ["reader"])
    (A17 : AtD K mg "parse_field" pField ["reader"])
    (A18 : AtD K mg "parse_row" pRow ["reader"])
    (A19 : AtD K mg "parse_select_end" pSelEnd ["reader"])
    (A20 : AtD K mg "parse_way" pWay ["reader"])
    (A21 : AtD K mg "parse_state" pState ["reader"])
    (A22 : AtD K mg "parse_states" pStates ["reader"])
    (A23 : AtD K mg "parse_params" pParams ["reader"])
    (A24 : AtD K mg "parse_args" pArgs ["reader"])
    (A25 : AtD K mg "parse_operand" pOperand ["reader"])
    (A26 : AtD K mg "parse_expression" pExpr ["reader"])
    (A27 : AtD K mg "parse_key" pKey ["reader"])
    (A28 : AtD K mg "parse_default" pDefault ["reader"])
    (A29 : AtD K mg "parse_comparison" pCmp ["reader"])
    (A30 : AtD K mg "parse_operation" pOper ["reader"])
    (A31 : AtD K mg "parse_action" pAction ["reader"])
    (A32 : AtD K mg "parse_table" pTable ["reader"])
    (A33 : AtD K mg "parse_emits" pEmits ["reader"])
    (A34 : AtD K mg "parse_condition" pCond ["reader"])
    (A35 : AtD K mg "parse_statement" pStmt ["reader", "outer"])
    (A36 : AtD K mg "parse_block" pBlock ["reader", "outer"])
    (A37 : AtD K mg "parse_program" pProgram ["text"])
    (A38 : AtD K mg "_law_outcome" sOut49 ["text"])
    (A39 : AtD K mg "_law_name" sName ["state", "k"])
    (A40 : AtD K mg "_law_terminals" sTrm [])
    (A41 : AtD K mg "_law_first_rules" sFR [])
    (A42 : AtD K mg "_law_rules" sRul [])
    (A43 : AtD K mg "_law_sentence" sSen ["state", "rules"])
    (A44 : AtD K mg "_law_turned" sTur ["state", "row"])
    (A45 : AtD K mg "_law_written" sWri ["state", "row"])
    (A46 : AtD K mg "_law_line" sLin ["rules", "looks"])
    (A47 : AtD K mg "_law_leaves" sLv ["part"])
    (hLNM : ∃ u, mg "LONGEST_NAME" = some u ∧ L2.RelV (.int 16) u)
    (hMDG : ∃ u, mg "MOST_DIGITS" = some u ∧ L2.RelV (.int 10) u)
    (hMHX : ∃ u, mg "MOST_HEX_DIGITS" = some u ∧ L2.RelV (.int 8) u)
    (hGRT : ∃ u, mg "GREATEST_NUMBER" = some u ∧ L2.RelV (.int 4294967295) u)
    (hMBL : ∃ u, mg "MOST_BLOCKS" = some u ∧ L2.RelV (.int 8) u)
    (hMNO : ∃ u, mg "MOST_NOTS" = some u ∧ L2.RelV (.int 8) u)
    (hLET : ∃ u, mg "LETTERS" = some u ∧ L2.RelV (.str lettersS) u)
    (hDIG : ∃ u, mg "DIGITS" = some u ∧ L2.RelV (.str digitsS) u)
    (hHEX : ∃ u, mg "HEX_DIGITS" = some u ∧ L2.RelV (.str hexS) u)
    (hEND : ∃ p, mg "END_TARGETS" = some (.ref p) ∧ TupK K p (endTargets.map V.str))
    (hOWN : ∃ p, mg "OWNER_WORDS" = some (.ref p) ∧ TupK K p (ownerWords.map V.str))
    (hOPS : ∃ p, mg "OPERATORS" = some (.ref p) ∧ TupK K p (operators.map V.str))
    (hKEY : ∃ p, mg "KEY_KINDS" = some (.ref p) ∧ TupK K p (keyKinds.map V.str))
    (hCMP : ∃ p, mg "COMPARISONS" = some (.ref p) ∧ TupK K p (comparisons.map V.str))
    (hRES : ∃ p, mg "RESERVED" = some (.ref p) ∧ TupK K p (words.map V.str))
    (hLNG : ∃ p, mg "LONG_SIGNS" = some (.ref p) ∧ TupK K p (longs.map V.str))
    (hSHT : ∃ p, mg "SHORT_SIGNS" = some (.ref p) ∧ TupK K p (shorts.map V.str))
    (zRange : mg "range" = none)
    (zStr : mg "str" = none)
    (zMin : mg "min" = none)
    (zLen : mg "len" = none)
    (zList : mg "list" = none)
    (zInt : mg "int" = none)
    (zAbs : mg "abs" = none)
    (zIsinstance : mg "isinstance" = none)
    (zAll : mg "all" = none)
    (zTuple : mg "tuple" = none)
    (zBool : mg "bool" = none)
    (zSuper : mg "super" = none)
    (gRd : mg "Reader" = some (.ref cRd))
    (RRd : RdC K cRd)
    (MRd0 : AtI K cRd "Reader.__init__" rInit ["self", "tokens"])
    (MRd1 : AtM K cRd "kind" "Reader.kind" rKind ["self"])
    (MRd2 : AtM K cRd "value" "Reader.value" rValue ["self"])
    (MRd3 : AtM K cRd "fail" "Reader.fail" rFail ["self"])
    (MRd4 : AtM K cRd "skip" "Reader.skip" rSkip ["self", "word"])
    (MRd5 : AtM K cRd "take" "Reader.take" rTake ["self", "word"])
    (MRd6 : AtM K cRd "take_kind" "Reader.take_kind" rTakeK ["self", "kind"])
    (MRd7 : AtM K cRd "take_name" "Reader.take_name" rName ["self"])
    (MRd8 : AtM K cRd "take_number" "Reader.take_number" rNumber ["self"])
    (MRd9 : AtM K cRd "check_end" "Reader.check_end" rEnd ["self"])
    (MRd10 : AtM K cRd "take_one" "Reader.take_one" rOne ["self", "words"])
    (TT : ErT P K mg "TextError" cT "line")
    (OX : ExcC K cT ∧ PySem.W.exmOne K (.ref cT) (.ref cT) = some true ∧ PySem.W.findIn K (.ref cT) "line" = some none)
    (AC : ∃ (f : Addr) (oc : Value) (od : Option Addr) (kV doc pm : Value) (an : Option Addr) (ct : Value) (osl : Array (Option Value)), K.lookup f = some ⟨oc, od, .func (PySem.W.fnOf "consists_of" "consists_of" (defArgs sCons) (defBody sCons) (defScope sCons) .none kV doc pm an (.ref c) ct), osl⟩ ∧ PySem.W.codeIn K (.ref c) "consists_of" = true ∧ PySem.W.keepIn K (.ref f) = true ∧ mg "consists_of" = some (.ref f))
    (TB : TabB base mg c Pt)
    : FnG P w K mg base CX0 33 fa fdL ["script"] (spLaw K Pt) := by
  have Bt : Blt mg := ⟨zInt, zAbs, zLen⟩
  have T : Tx K mg := ⟨zInt, zLen, zAll, hRES, hLNG, hSHT, hLET, hDIG, hHEX, hLNM, hMDG, hMHX, hGRT⟩
  have PT0 : PTx K mg := ⟨hEND, hOWN, hOPS, hKEY, hCMP, hMBL, hMNO⟩
  obtain ⟨fC, ocC, odC, kVC, docC, pmC, anC, ctC, oslC, lC, cC, kC, gC⟩ := AC
  have DC : Df P w K mg base CX0 1 "consists_of" ["part", "chars"] (spCons Pt) := ⟨_, _, ok_cons lC cC T TB, gC, kC, (fun_mk (st := sCons) lC cC kC).binds fun _ _ _ _ _ _ us hl => match us, hl with | [_, _], _ => rfl⟩
  have D9 : Df P w K mg base CX0 1 "is_reserved" ["name"] (spIsRes) := A3.df fun f fd F => ok_isres F T
  have DR : Df P w K mg base CX0 1 "in_run" ["char"] (spInRun) := A4.df fun f fd F => ok_inrun F T
  have DCE : Df P w K mg base CX0 1 "comment_end" ["text", "at"] (spComEnd) := A5.df fun f fd F => ok_comend F T
  have DPE : Df P w K mg base CX0 2 "part_end" ["text", "at"] (spPartEnd) := A6.df fun f fd F => ok_partend F T DR
  have DDe : Df P w K mg base CX0 2 "is_decimal" ["part"] (spIsDec Pt) := A8.df fun f fd F => ok_isdec F T DC
  have DNu : Df P w K mg base CX0 3 "is_number" ["part"] (spIsNum Pt) := A9.df fun f fd F => ok_isnum F T DC DDe
  have DV : Df P w K mg base CX0 1 "number_value" ["part"] (spNumVal) := A7.df fun f fd F => ok_numval F T
  have DO : Df P w K mg base (L2.CX P w) 4 "token_of" ["part", "line"] (spTokOf Pt cT) := A10.df fun f fd F => ok_tokof F T D9 DNu DV TT
  have DT : Df P w K mg base (L2.CX P w) 5 "tokenize" ["text"] (spTokenize Pt cT) := A11.df fun f fd F => ok_tokenize F T DCE DPE DO
  have D1 : Df P w K mg base CX0 1 "_law_state" ["script"] (spState K) := A0.df fun f fd F => ok_state F Bt
  have D2 : Df P w K mg base CX0 1 "_law_draw" ["state", "many"] (spDraw) := A1.df fun f fd F => ok_draw F Bt
  have DP : Df P w K mg base CX0 2 "_law_pick" ["state", "row"] (spPick K) := A2.df fun f fd F => by
    obtain ⟨fD, fdD, GD, gD, kD, bD⟩ := D2.ex
    exact ok_pick F Bt GD gD kD bD
  have Mknd : Mt P w K mg base CX0 1 cRd "kind" ["self"] (sprKind cRd) := MRd1.mt fun f fd F => ok_rKind (k := 0) F RRd
  have Mval : Mt P w K mg base CX0 1 cRd "value" ["self"] (sprValue cRd) := MRd2.mt fun f fd F => ok_rValue (k := 0) F RRd
  have Mfail : Mt P w K mg base (L2.CX P w) 1 cRd "fail" ["self"] (sprFail cRd cT) := MRd3.mt fun f fd F => ok_rFail (k := 0) F RRd TT
  have Mskip : Mt P w K mg base CX0 2 cRd "skip" ["self", "word"] (sprSkip cRd) := MRd4.mt fun f fd F => ok_rSkip (k := 0) F RRd Mval
  have Mtake : Mt P w K mg base (L2.CX P w) 3 cRd "take" ["self", "word"] (sprTake cRd cT) := MRd5.mt fun f fd F => ok_rTake (k := 0) F RRd Mskip Mfail
  have Mtkd : Mt P w K mg base (L2.CX P w) 2 cRd "take_kind" ["self", "kind"] (sprTakeK cRd cT) := MRd6.mt fun f fd F => ok_rTakeK (k := 0) F RRd Mknd Mval Mfail
  have Mname : Mt P w K mg base (L2.CX P w) 3 cRd "take_name" ["self"] (sprName cRd cT) := MRd7.mt fun f fd F => ok_rName (k := 0) F RRd Mtkd
  have Mnum : Mt P w K mg base (L2.CX P w) 3 cRd "take_number" ["self"] (sprNumber cRd cT) := MRd8.mt fun f fd F => ok_rNumber (k := 0) F RRd Mtkd
  have Mfin : Mt P w K mg base (L2.CX P w) 2 cRd "check_end" ["self"] (sprEnd cRd cT) := MRd9.mt fun f fd F => ok_rEnd (k := 0) F RRd Mknd Mfail
  have Mone : Mt P w K mg base (L2.CX P w) 2 cRd "take_one" ["self", "words"] (sprOne K cRd cT) := MRd10.mt fun f fd F => ok_rOne (k := 0) F RRd Mval Mfail
  have RMM : RM P w K mg base 0 cRd cT := ⟨RRd, Mval, Mknd, Mfail, Mskip, Mtake, Mone, Mname, Mnum, Mfin⟩
  have Qwidth : Df P w K mg base (L2.CX P w) 4 "parse_width" RP (spP K cRd cT mWidth) := A12.df fun f fd F => ok_pWidth F RMM
  have Qtarget : Df P w K mg base (L2.CX P w) 4 "parse_target" RP (spPV cRd cT mTargetV) := A15.df fun f fd F => ok_pTarget F RMM PT0
  have Qowner : Df P w K mg base (L2.CX P w) 4 "parse_owner" RP (spPV cRd cT mOwnerV) := A16.df fun f fd F => ok_pOwner F RMM PT0
  have Qargs : Df P w K mg base (L2.CX P w) 4 "parse_args" RP (spP K cRd cT (asL mArgs)) := A24.df fun f fd F => ok_pArgs F RMM
  have Qemits : Df P w K mg base (L2.CX P w) 4 "parse_emits" RP (spP K cRd cT (asL mEmits)) := A33.df fun f fd F => ok_pEmits F RMM
  have Qfields : Df P w K mg base (L2.CX P w) 5 "parse_fields" RP (spP K cRd cT (asL mFields)) := A13.df fun f fd F => ok_pFields F RMM Qwidth
  have Qheader : Df P w K mg base (L2.CX P w) 6 "parse_header" RP (spP K cRd cT mHeader) := A14.df fun f fd F => ok_pHeader F RMM Qfields
  have Qfield : Df P w K mg base (L2.CX P w) 5 "parse_field" RP (spP K cRd cT mField) := A17.df fun f fd F => ok_pField F RMM Qowner
  have Qrow : Df P w K mg base (L2.CX P w) 5 "parse_row" RP (spP K cRd cT mRow) := A18.df fun f fd F => ok_pRow F RMM Qtarget
  have QselEnd : Df P w K mg base (L2.CX P w) 5 "parse_select_end" RP (spPV cRd cT mSelEnd) := A19.df fun f fd F => ok_pSelEnd F RMM Qtarget
  have Qway : Df P w K mg base (L2.CX P w) 6 "parse_way" RP (spP K cRd cT mWay) := A20.df fun f fd F => ok_pWay F RMM Qtarget Qfield Qrow QselEnd
  have Qstate : Df P w K mg base (L2.CX P w) 7 "parse_state" RP (spP K cRd cT mState) := A21.df fun f fd F => ok_pState F RMM Qway
  have Qstates : Df P w K mg base (L2.CX P w) 8 "parse_states" RP (spP K cRd cT (asL mStates)) := A22.df fun f fd F => ok_pStates F RMM Qstate
  have Qparams : Df P w K mg base (L2.CX P w) 5 "parse_params" RP (spP K cRd cT (asL mParams)) := A23.df fun f fd F => ok_pParams F RMM Qwidth
  have Qoperand : Df P w K mg base (L2.CX P w) 5 "parse_operand" RP (spP K cRd cT mOperand) := A25.df fun f fd F => ok_pOperand F RMM PT0 Qowner
  have Qexpr : Df P w K mg base (L2.CX P w) 6 "parse_expression" RP (spP K cRd cT mExpr) := A26.df fun f fd F => ok_pExpr F RMM PT0 Qoperand
  have Qkey : Df P w K mg base (L2.CX P w) 6 "parse_key" RP (spP K cRd cT mKey) := A27.df fun f fd F => ok_pKey F RMM PT0 Qfield
  have Qdefault : Df P w K mg base (L2.CX P w) 5 "parse_default" RP (spP K cRd cT mDefault) := A28.df fun f fd F => ok_pDefault F RMM Qargs
  have Qcmp : Df P w K mg base (L2.CX P w) 6 "parse_comparison" RP (spP K cRd cT mCmp) := A29.df fun f fd F => ok_pCmp F RMM PT0 Qfield
  have Qoper : Df P w K mg base (L2.CX P w) 7 "parse_operation" RP (spP K cRd cT mOper) := A30.df fun f fd F => ok_pOper F RMM Qexpr Qfield
  have Qaction : Df P w K mg base (L2.CX P w) 8 "parse_action" RP (spP K cRd cT mAction) := A31.df fun f fd F => ok_pAction F RMM Qparams Qoper
  have Qtable : Df P w K mg base (L2.CX P w) 7 "parse_table" RP (spP K cRd cT mTable) := A32.df fun f fd F => ok_pTable F RMM Qkey Qdefault
  have Qcond : Df P w K mg base (L2.CX P w) 7 "parse_condition" RP (spP K cRd cT mCond) := A34.df fun f fd F => ok_pCond F RMM PT0 zRange Qcmp
  have Qs00 : Df P w K mg base (L2.CX P w) 8 "parse_statement" RO (fun _ _ _ _ => False) := A35.df fun f fd F => ok_none F
  have Qb0 : Df P w K mg base (L2.CX P w) 9 "parse_block" RO (spBlk K cRd cT 0) := A36.df fun f fd F => ok_pBlock0 (by decide) F RMM PT0 Qs00
  have Qs0 : Df P w K mg base (L2.CX P w) 10 "parse_statement" RO (spStm K cRd cT 0) := A35.df fun f fd F => ok_pStmt (by decide) F RMM Qcond Qb0
  have Qb1 : Df P w K mg base (L2.CX P w) 11 "parse_block" RO (spBlk K cRd cT 1) := A36.df fun f fd F => ok_pBlockS (by decide) F RMM PT0 Qs0
  have Qs1 : Df P w K mg base (L2.CX P w) 12 "parse_statement" RO (spStm K cRd cT 1) := A35.df fun f fd F => ok_pStmt (by decide) F RMM Qcond Qb1
  have Qb2 : Df P w K mg base (L2.CX P w) 13 "parse_block" RO (spBlk K cRd cT 2) := A36.df fun f fd F => ok_pBlockS (by decide) F RMM PT0 Qs1
  have Qs2 : Df P w K mg base (L2.CX P w) 14 "parse_statement" RO (spStm K cRd cT 2) := A35.df fun f fd F => ok_pStmt (by decide) F RMM Qcond Qb2
  have Qb3 : Df P w K mg base (L2.CX P w) 15 "parse_block" RO (spBlk K cRd cT 3) := A36.df fun f fd F => ok_pBlockS (by decide) F RMM PT0 Qs2
  have Qs3 : Df P w K mg base (L2.CX P w) 16 "parse_statement" RO (spStm K cRd cT 3) := A35.df fun f fd F => ok_pStmt (by decide) F RMM Qcond Qb3
  have Qb4 : Df P w K mg base (L2.CX P w) 17 "parse_block" RO (spBlk K cRd cT 4) := A36.df fun f fd F => ok_pBlockS (by decide) F RMM PT0 Qs3
  have Qs4 : Df P w K mg base (L2.CX P w) 18 "parse_statement" RO (spStm K cRd cT 4) := A35.df fun f fd F => ok_pStmt (by decide) F RMM Qcond Qb4
  have Qb5 : Df P w K mg base (L2.CX P w) 19 "parse_block" RO (spBlk K cRd cT 5) := A36.df fun f fd F => ok_pBlockS (by decide) F RMM PT0 Qs4
  have Qs5 : Df P w K mg base (L2.CX P w) 20 "parse_statement" RO (spStm K cRd cT 5) := A35.df fun f fd F => ok_pStmt (by decide) F RMM Qcond Qb5
  have Qb6 : Df P w K mg base (L2.CX P w) 21 "parse_block" RO (spBlk K cRd cT 6) := A36.df fun f fd F => ok_pBlockS (by decide) F RMM PT0 Qs5
  have Qs6 : Df P w K mg base (L2.CX P w) 22 "parse_statement" RO (spStm K cRd cT 6) := A35.df fun f fd F => ok_pStmt (by decide) F RMM Qcond Qb6
  have Qb7 : Df P w K mg base (L2.CX P w) 23 "parse_block" RO (spBlk K cRd cT 7) := A36.df fun f fd F => ok_pBlockS (by decide) F RMM PT0 Qs6
  have Qs7 : Df P w K mg base (L2.CX P w) 24 "parse_statement" RO (spStm K cRd cT 7) := A35.df fun f fd F => ok_pStmt (by decide) F RMM Qcond Qb7
  have Qb8 : Df P w K mg base (L2.CX P w) 25 "parse_block" RO (spBlk K cRd cT 8) := A36.df fun f fd F => ok_pBlockS (by decide) F RMM PT0 Qs7
  obtain ⟨fRI, fdRI, FRI, mkRI, bRI⟩ := MRd0.ex
  have QP : Df P w K mg base (L2.CX P w) 26 "parse_program" ["text"] (spProgram K Pt cT) := A37.df fun f fd F => ok_pProgram F RMM mkRI (ok_rInit (k := 0) FRI RRd) bRI gRd DT Qheader Qfields Qstates Qaction Qtable Qb8 Qemits
  have BL : Bl mg := ⟨zRange, zStr, zMin, zLen⟩
  have BL49 : Bl49 mg := ⟨zIsinstance, zTuple, zList, zStr, zLen⟩
  have OE : OutE49 P K mg cT := ⟨TT, OX.1, OX.2.1, OX.2.2⟩
  have Lnm : Df P w K mg base CX0 3 "_law_name" ["state", "k"] (spNm) := A39.df fun f fd F => ok_nm F BL D2 DP
  have Lfr : Df P w K mg base CX0 1 "_law_first_rules" [] (spRulE gA) := A41.df fun f fd F => ok_fr (k := 0) F
  have Lru : Df P w K mg base CX0 2 "_law_rules" [] (spRulE gRul) := A42.df fun f fd F => ok_rul F Lfr
  have Lse : Df P w K mg base CX0 3 "_law_sentence" ["state", "rules"] (spSen) := A43.df fun f fd F => ok_sen F BL D2 DP
  have Ltm : Df P w K mg base CX0 1 "_law_terminals" [] (spTrm) := A40.df fun f fd F => ok_trm (k := 0) F
  have Ltu : Df P w K mg base CX0 3 "_law_turned" ["state", "row"] (spTur) := A44.df fun f fd F => ok_tur F BL zList D2 DP Ltm
  have Lwr : Df P w K mg base CX0 4 "_law_written" ["state", "row"] (spWri) := A45.df fun f fd F => ok_wri F BL zInt D2 DP Lnm
  have Lli : Df P w K mg base CX0 1 "_law_line" ["rules", "looks"] (spLin) := A46.df fun f fd F => ok_lin (lv := 0) F BL zInt
  have Lv0 : Df P w K mg base CX0 1 "_law_leaves" ["part"] (spLv 0) := A47.df fun f fd F => ok_lv0 (k := 0) F
  have Lv1 : Df P w K mg base CX0 2 "_law_leaves" ["part"] (spLv 1) := A47.df fun f fd F => ok_lv (d := 0) F BL49 Lv0
  have Lv2 : Df P w K mg base CX0 3 "_law_leaves" ["part"] (spLv 2) := A47.df fun f fd F => ok_lv (d := 1) F BL49 Lv1
  have Lv3 : Df P w K mg base CX0 4 "_law_leaves" ["part"] (spLv 3) := A47.df fun f fd F => ok_lv (d := 2) F BL49 Lv2
  have Lv4 : Df P w K mg base CX0 5 "_law_leaves" ["part"] (spLv 4) := A47.df fun f fd F => ok_lv (d := 3) F BL49 Lv3
  have Lv5 : Df P w K mg base CX0 6 "_law_leaves" ["part"] (spLv 5) := A47.df fun f fd F => ok_lv (d := 4) F BL49 Lv4
  have Lv6 : Df P w K mg base CX0 7 "_law_leaves" ["part"] (spLv 6) := A47.df fun f fd F => ok_lv (d := 5) F BL49 Lv5
  have Lv7 : Df P w K mg base CX0 8 "_law_leaves" ["part"] (spLv 7) := A47.df fun f fd F => ok_lv (d := 6) F BL49 Lv6
  have Lv8 : Df P w K mg base CX0 9 "_law_leaves" ["part"] (spLv 8) := A47.df fun f fd F => ok_lv (d := 7) F BL49 Lv7
  have Lv9 : Df P w K mg base CX0 10 "_law_leaves" ["part"] (spLv 9) := A47.df fun f fd F => ok_lv (d := 8) F BL49 Lv8
  have Lv10 : Df P w K mg base CX0 11 "_law_leaves" ["part"] (spLv 10) := A47.df fun f fd F => ok_lv (d := 9) F BL49 Lv9
  have Lv11 : Df P w K mg base CX0 12 "_law_leaves" ["part"] (spLv 11) := A47.df fun f fd F => ok_lv (d := 10) F BL49 Lv10
  have Lv12 : Df P w K mg base CX0 13 "_law_leaves" ["part"] (spLv 12) := A47.df fun f fd F => ok_lv (d := 11) F BL49 Lv11
  have Lv13 : Df P w K mg base CX0 14 "_law_leaves" ["part"] (spLv 13) := A47.df fun f fd F => ok_lv (d := 12) F BL49 Lv12
  have Lv14 : Df P w K mg base CX0 15 "_law_leaves" ["part"] (spLv 14) := A47.df fun f fd F => ok_lv (d := 13) F BL49 Lv13
  have Lv15 : Df P w K mg base CX0 16 "_law_leaves" ["part"] (spLv 15) := A47.df fun f fd F => ok_lv (d := 14) F BL49 Lv14
  have Lv16 : Df P w K mg base CX0 17 "_law_leaves" ["part"] (spLv 16) := A47.df fun f fd F => ok_lv (d := 15) F BL49 Lv15
  have Lv17 : Df P w K mg base CX0 18 "_law_leaves" ["part"] (spLv 17) := A47.df fun f fd F => ok_lv (d := 16) F BL49 Lv16
  have Lv18 : Df P w K mg base CX0 19 "_law_leaves" ["part"] (spLv 18) := A47.df fun f fd F => ok_lv (d := 17) F BL49 Lv17
  have Lv19 : Df P w K mg base CX0 20 "_law_leaves" ["part"] (spLv 19) := A47.df fun f fd F => ok_lv (d := 18) F BL49 Lv18
  have Lv20 : Df P w K mg base CX0 21 "_law_leaves" ["part"] (spLv 20) := A47.df fun f fd F => ok_lv (d := 19) F BL49 Lv19
  have Lv21 : Df P w K mg base CX0 22 "_law_leaves" ["part"] (spLv 21) := A47.df fun f fd F => ok_lv (d := 20) F BL49 Lv20
  have Lv22 : Df P w K mg base CX0 23 "_law_leaves" ["part"] (spLv 22) := A47.df fun f fd F => ok_lv (d := 21) F BL49 Lv21
  have Lv23 : Df P w K mg base CX0 24 "_law_leaves" ["part"] (spLv 23) := A47.df fun f fd F => ok_lv (d := 22) F BL49 Lv22
  have Lv24 : Df P w K mg base CX0 25 "_law_leaves" ["part"] (spLv 24) := A47.df fun f fd F => ok_lv (d := 23) F BL49 Lv23
  have Lv25 : Df P w K mg base CX0 26 "_law_leaves" ["part"] (spLv 25) := A47.df fun f fd F => ok_lv (d := 24) F BL49 Lv24
  have Lv26 : Df P w K mg base CX0 27 "_law_leaves" ["part"] (spLv 26) := A47.df fun f fd F => ok_lv (d := 25) F BL49 Lv25
  have Lv27 : Df P w K mg base CX0 28 "_law_leaves" ["part"] (spLv 27) := A47.df fun f fd F => ok_lv (d := 26) F BL49 Lv26
  have Lv28 : Df P w K mg base CX0 29 "_law_leaves" ["part"] (spLv 28) := A47.df fun f fd F => ok_lv (d := 27) F BL49 Lv27
  have Lv29 : Df P w K mg base CX0 30 "_law_leaves" ["part"] (spLv 29) := A47.df fun f fd F => ok_lv (d := 28) F BL49 Lv28
  have Lv30 : Df P w K mg base CX0 31 "_law_leaves" ["part"] (spLv 30) := A47.df fun f fd F => ok_lv (d := 29) F BL49 Lv29
  have Lv31 : Df P w K mg base CX0 32 "_law_leaves" ["part"] (spLv 31) := A47.df fun f fd F => ok_lv (d := 30) F BL49 Lv30
  have Lou : Df P w K mg base CX0 27 "_law_outcome" ["text"] (spOut49 K Pt) := A38.df fun f fd F => ok_out49 F OE QP
  exact ok_law FL ⟨zRange, zLen, zIsinstance, zBool, zTuple⟩ D1 Lru Lse Ltu Lwr Lli Lou Lv31 DP QP
end Pk
set_option Elab.async false
set_option linter.all false
set_option maxRecDepth 100000
set_option maxHeartbeats 8000000
namespace Pk
open PySem PySem.Spec PyProof.Rows L2 SX GxR Tk PySem.ErX
theorem hx_meth {fa : List He.Fa} {fn : List He.DefD} {K : PySem.W.Frag} (c : He.SaysD fa fn K) (i j : Nat) {C x q : Str} {st : Stmt} {ps : List Str} (e1 : fn[i]? = some (dme C x q st)) (e2 : fa[j]? = some (.meth C x))
    (hb : ∀ (kV doc pm : Value) (an : Option Addr) (cdv ct : Value) (us : List Value), us.length = ps.length → bindArgs (PySem.W.fnOf x q (defArgs st) (defBody st) (defScope st) .none kV doc pm an cdv ct) ⟨us, []⟩ = pure (ps.zip us)) : AtM K (He.ga K C) x q st ps := by
  obtain ⟨fd, F⟩ := c.def_ i e1
  have F := fun_of_D F
  exact ⟨_, fd, F, He.meth_ok (c.fact j e2), F.binds hb⟩
theorem hx_init {fa : List He.Fa} {fn : List He.DefD} {K : PySem.W.Frag} (c : He.SaysD fa fn K) (i j : Nat) {C q : Str} {st : Stmt} {ps : List Str} (e1 : fn[i]? = some (dme C "__init__" q st)) (e2 : fa[j]? = some (.mkr C))
    (hb : ∀ (kV doc pm : Value) (an : Option Addr) (cdv ct : Value) (us : List Value), us.length = ps.length → bindArgs (PySem.W.fnOf "__init__" q (defArgs st) (defBody st) (defScope st) .none kV doc pm an cdv ct) ⟨us, []⟩ = pure (ps.zip us)) : AtI K (He.ga K C) q st ps := by
  obtain ⟨fd, F⟩ := c.def_ i e1
  have F := fun_of_D F
  exact ⟨_, fd, F, He.mkr_ok (c.fact j e2), F.binds hb⟩
theorem hx_tab {K : PySem.W.Frag} {c P : Addr} {fd : FuncData} {h : Heap} {mg : Str → Option Value} (X : K.In h) (G : h.Ns mainGlobals mg) (e : (He.Fa.glo "consists_of").ok K = true) (F : Fun K "consists_of" "consists_of" sCons (He.ga K "consists_of") fd) (t : PySem.W.tabIn K "consists_of" = some (c, P)) :
    ∃ (f : Addr) (oc : Value) (od : Option Addr) (kV doc pm : Value) (an : Option Addr) (ct : Value) (osl : Array (Option Value)), K.lookup f = some ⟨oc, od, .func (PySem.W.fnOf "consists_of" "consists_of" (defArgs sCons) (defBody sCons) (defScope sCons) .none kV doc pm an (.ref c) ct), osl⟩ ∧ PySem.W.codeIn K (.ref c) "consists_of" = true ∧ PySem.W.keepIn K (.ref f) = true ∧ mg "consists_of" = some (.ref f) := by
  obtain ⟨oc, od, kV, doc, pm, an, cdv, ct, osl, rfl, l, cd⟩ := F.ex
  have kp := F.kp
  unfold PySem.W.tabIn at t
  rw [He.eqO_ok e] at t
  dsimp only at t
  rw [l] at t
  dsimp only at t
  cases cdv with
  | ref d =>
    dsimp only at t
    split at t
    · split at t
      · cases t
        exact ⟨_, oc, od, kV, doc, pm, an, ct, osl, l, cd, kp, He.glo_ok X G e⟩
      · cases t
    · cases t
  | _ => cases t
theorem hx_all {P : Program} {w : World} {K : PySem.W.Frag} {h : Heap} {mg : Str → Option Value} {fa : Addr} (KX : K.In h) (G : h.Ns mainGlobals mg) (hfa : mg "law" = some (.ref fa)) (c : He.SaysD hxFa hxFn K) (he : hxEx K = true) (hv : (([("TextError" : Str)] : List Str)).map (fun x => fnI K (He.ma K (He.ga K x) "__init__")) = hxVe) (top : (P.main.scope.names.lookup ("super" : Str)).isSome = false) (hf : ((P.main.file : Str) == "/claim/cut.py") = true) :
    ∃ (fd : FuncData) (cc Pt : Addr), PySem.W.tabIn K "consists_of" = some (cc, Pt) ∧ K.lookup Pt = none ∧ (∀ (s : Shared) (u : Value), BindsTo s fd ⟨[u], []⟩ [("script", u)]) ∧ ∀ base : Heap, K.In base → base.Ns mainGlobals mg → (∃ mm, base.Ns sysModules mm) → LamX.TabB base mg cc Pt → FnG P w K mg base CX0 33 fa fd ["script"] (spLaw K Pt) := by
  obtain ⟨cc, Pt, ht, hn⟩ := tabB_ok (ex_at10 he)
  obtain ⟨fd, F⟩ := hx_fun c 59 (x := "law") (st := topS 74) rfl
  obtain ⟨fdC, FC⟩ := hx_fun c 60 (x := "consists_of") (st := topS 25) rfl
  have e := hfa.symm.trans (hx_glo KX G c 92 (x := "law") rfl)
  cases e
  have I := exB_ok (P := P) (pre := "line ") (p := hxPs) (ex_at9 he) (List.cons.inj hv).1 top hf (by decide +kernel)
  refine ⟨fd, cc, Pt, ht, hn, fun s u => ?_, fun base _ _ hB TBx => ?_⟩
  · obtain ⟨oc, od, kV, doc, pm, an, cdv, ct, osl, rfl, _, _⟩ := F.ex
    exact .of_eq rfl
  refine Pk.all_q (cRd := He.ga K "Reader") (cT := He.ga K "TextError") (c := cc) (Pt := Pt) F ?A0 ?A1 ?A2 ?A3 ?A4 ?A5 ?A6 ?A7 ?A8 ?A9 ?A10 ?A11 ?A12 ?A13 ?A14 ?A15 ?A16 ?A17 ?A18 ?A19 ?A20 ?A21 ?A22 ?A23 ?A24 ?A25 ?A26 ?A27 ?A28 ?A29 ?A30 ?A31 ?A32 ?A33 ?A34 ?A35 ?A36 ?A37 ?A38 ?A39 ?A40 ?A41 ?A42 ?A43 ?A44 ?A45 ?A46 ?A47 ?hLNM ?hMDG ?hMHX ?hGRT ?hMBL ?hMNO ?hLET ?hDIG ?hHEX ?hEND ?hOWN ?hOPS ?hKEY ?hCMP ?hRES ?hLNG ?hSHT ?zRange ?zStr ?zMin ?zLen ?zList ?zInt ?zAbs ?zIsinstance ?zAll ?zTuple ?zBool ?zSuper ?gRd ⟨?clRd, ?nRd0, ?nRd1⟩ ?MRd0 ?MRd1 ?MRd2 ?MRd3 ?MRd4 ?MRd5 ?MRd6 ?MRd7 ?MRd8 ?MRd9 ?MRd10 ⟨⟨_, _, _, I, by decide +kernel⟩, hx_glo KX G c 94 (x := "TextError") rfl, ?zSuper2, .inl rfl⟩ (excB_ok (ex_at8 he)) (hx_tab KX G (c.fact 93 rfl) FC ht) ⟨TBx.code, TBx.bm, TBx.gP⟩
  (case A0 => exact hx_def KX G c 0 0 rfl rfl fun _ _ _ _ _ _ us hl => (match us, hl with | [_], _ => rfl))
  (case A1 => exact hx_def KX G c 1 1 rfl rfl fun _ _ _ _ _ _ us hl => (match us, hl with | [_, _], _ => rfl))
  (case A2 => exact hx_def KX G c 2 2 rfl rfl fun _ _ _ _ _ _ us hl => (match us, hl with | [_, _], _ => rfl))
  (case A3 => exact hx_def KX G c 3 3 rfl rfl fun _ _ _ _ _ _ us hl => (match us, hl with | [_], _ => rfl))
  (case A4 => exact hx_def KX G c 4 4 rfl rfl fun _ _ _ _ _ _ us hl => (match us, hl with | [_], _ => rfl))
  (case A5 => exact hx_def KX G c 5 5 rfl rfl fun _ _ _ _ _ _ us hl => (match us, hl with | [_, _], _ => rfl))
  (case A6 => exact hx_def KX G c 6 6 rfl rfl fun _ _ _ _ _ _ us hl => (match us, hl with | [_, _], _ => rfl))
  (case A7 => exact hx_def KX G c 7 7 rfl rfl fun _ _ _ _ _ _ us hl => (match us, hl with | [_], _ => rfl))
  (case A8 => exact hx_def KX G c 8 8 rfl rfl fun _ _ _ _ _ _ us hl => (match us, hl with | [_], _ => rfl))
  (case A9 => exact hx_def KX G c 9 9 rfl rfl fun _ _ _ _ _ _ us hl => (match us, hl with | [_], _ => rfl))
  (case A10 => exact hx_def KX G c 10 10 rfl rfl fun _ _ _ _ _ _ us hl => (match us, hl with | [_, _], _ => rfl))
  (case A11 => exact hx_def KX G c 11 11 rfl rfl fun _ _ _ _ _ _ us hl => (match us, hl with | [_], _ => rfl))
  (case A12 => exact hx_def KX G c 12 12 rfl rfl fun _ _ _ _ _ _ us hl => (match us, hl with | [_], _ => rfl))
  (case A13 => exact hx_def KX G c 13 13 rfl rfl fun _ _ _ _ _ _ us hl => (match us, hl with | [_], _ => rfl))
  (case A14 => exact hx_def KX G c 14 14 rfl rfl fun _ _ _ _ _ _ us hl => (match us, hl with | [_], _ => rfl))
  (case A15 => exact hx_def KX G c 15 15 rfl rfl fun _ _ _ _ _ _ us hl => (match us, hl with | [_], _ => rfl))
  (case A16 => exact hx_def KX G c 16 16 rfl rfl fun _ _ _ _ _ _ us hl => (match us, hl with | [_], _ => rfl))
  (case A17 => exact hx_def KX G c 17 17 rfl rfl fun _ _ _ _ _ _ us hl => (match us, hl with | [_], _ => rfl))
  (case A18 => exact hx_def KX G c 18 18 rfl rfl fun _ _ _ _ _ _ us hl => (match us, hl with | [_], _ => rfl))
  (case A19 => exact hx_def KX G c 19 19 rfl rfl fun _ _ _ _ _ _ us hl => (match us, hl with | [_], _ => rfl))
  (case A20 => exact hx_def KX G c 20 20 rfl rfl fun _ _ _ _ _ _ us hl => (match us, hl with | [_], _ => rfl))
  (case A21 => exact hx_def KX G c 21 21 rfl rfl fun _ _ _ _ _ _ us hl => (match us, hl with | [_], _ => rfl))
  (case A22 => exact hx_def KX G c 22 22 rfl rfl fun _ _ _ _ _ _ us hl => (match us, hl with | [_], _ => rfl))
  (case A23 => exact hx_def KX G c 23 23 rfl rfl fun _ _ _ _ _ _ us hl => (match us, hl with | [_], _ => rfl))
  (case A24 => exact hx_def KX G c 24 24 rfl rfl fun _ _ _ _ _ _ us hl => (match us, hl with | [_], _ => rfl))
  (case A25 => exact hx_def KX G c 25 25 rfl rfl fun _ _ _ _ _ _ us hl => (match us, hl with | [_], _ => rfl))
  (case A26 => exact hx_def KX G c 26 26 rfl rfl fun _ _ _ _ _ _ us hl => (match us, hl with | [_], _ => rfl))
  (case A27 => exact hx_def KX G c 27 27 rfl rfl fun _ _ _ _ _ _ us hl => (match us, hl with | [_], _ => rfl))
  (case A28 => exact hx_def KX G c 28 28 rfl rfl fun _ _ _ _ _ _ us hl => (match us, hl with | [_], _ => rfl))
  (case A29 => exact hx_def KX G c 29 29 rfl rfl fun _ _ _ _ _ _ us hl => (match us, hl with | [_], _ => rfl))
  (case A30 => exact hx_def KX G c 30 30 rfl rfl fun _ _ _ _ _ _ us hl => (match us, hl with | [_], _ => rfl))
  (case A31 => exact hx_def KX G c 31 31 rfl rfl fun _ _ _ _ _ _ us hl => (match us, hl with | [_], _ => rfl))
  (case A32 => exact hx_def KX G c 32 32 rfl rfl fun _ _ _ _ _ _ us hl => (match us, hl with | [_], _ => rfl))
  (case A33 => exact hx_def KX G c 33 33 rfl rfl fun _ _ _ _ _ _ us hl => (match us, hl with | [_], _ => rfl))
  (case A34 => exact hx_def KX G c 34 34 rfl rfl fun _ _ _ _ _ _ us hl => (match us, hl with | [_], _ => rfl))
  (case A35 => exact hx_def KX G c 35 35 rfl rfl fun _ _ _ _ _ _ us hl => (match us, hl with | [_, _], _ => rfl))
  (case A36 => exact hx_def KX G c 36 36 rfl rfl fun _ _ _ _ _ _ us hl => (match us, hl with | [_, _], _ => rfl))
  (case A37 => exact hx_def KX G c 37 37 rfl rfl fun _ _ _ _ _ _ us hl => (match us, hl with | [_], _ => rfl))
  (case A38 => exact hx_def KX G c 38 38 rfl rfl fun _ _ _ _ _ _ us hl => (match us, hl with | [_], _ => rfl))
  (case A39 => exact hx_def KX G c 39 39 rfl rfl fun _ _ _ _ _ _ us hl => (match us, hl with | [_, _], _ => rfl))
  (case A40 => exact hx_def KX G c 40 40 rfl rfl fun _ _ _ _ _ _ us hl => (match us, hl with | [], _ => rfl))
  (case A41 => exact hx_def KX G c 41 41 rfl rfl fun _ _ _ _ _ _ us hl => (match us, hl with | [], _ => rfl))
  (case A42 => exact hx_def KX G c 42 42 rfl rfl fun _ _ _ _ _ _ us hl => (match us, hl with | [], _ => rfl))
  (case A43 => exact hx_def KX G c 43 43 rfl rfl fun _ _ _ _ _ _ us hl => (match us, hl with | [_, _], _ => rfl))
  (case A44 => exact hx_def KX G c 44 44 rfl rfl fun _ _ _ _ _ _ us hl => (match us, hl with | [_, _], _ => rfl))
  (case A45 => exact hx_def KX G c 45 45 rfl rfl fun _ _ _ _ _ _ us hl => (match us, hl with | [_, _], _ => rfl))
  (case A46 => exact hx_def KX G c 46 46 rfl rfl fun _ _ _ _ _ _ us hl => (match us, hl with | [_, _], _ => rfl))
  (case A47 => exact hx_def KX G c 47 47 rfl rfl fun _ _ _ _ _ _ us hl => (match us, hl with | [_], _ => rfl))
  (case hLNM => exact hx_int KX G c 48 rfl)
  (case hMDG => exact hx_int KX G c 49 rfl)
  (case hMHX => exact hx_int KX G c 50 rfl)
  (case hGRT => exact hx_int KX G c 51 rfl)
  (case hMBL => exact hx_int KX G c 52 rfl)
  (case hMNO => exact hx_int KX G c 53 rfl)
  (case hLET => exact hx_str KX G c 54 rfl)
  (case hDIG => exact hx_str KX G c 55 rfl)
  (case hHEX => exact hx_str KX G c 56 rfl)
  (case hEND => exact hx_tup KX G c 57 rfl (ex_at0 he))
  (case hOWN => exact hx_tup KX G c 58 rfl (ex_at1 he))
  (case hOPS => exact hx_tup KX G c 59 rfl (ex_at2 he))
  (case hKEY => exact hx_tup KX G c 60 rfl (ex_at3 he))
  (case hCMP => exact hx_tup KX G c 61 rfl (ex_at4 he))
  (case hRES => exact hx_tup KX G c 62 rfl (ex_at5 he))
  (case hLNG => exact hx_tup KX G c 63 rfl (ex_at6 he))
  (case hSHT => exact hx_tup KX G c 64 rfl (ex_at7 he))
  (case zRange => exact hx_free KX G c 65 rfl)
  (case zStr => exact hx_free KX G c 66 rfl)
  (case zMin => exact hx_free KX G c 67 rfl)
  (case zLen => exact hx_free KX G c 68 rfl)
  (case zList => exact hx_free KX G c 69 rfl)
  (case zInt => exact hx_free KX G c 70 rfl)
  (case zAbs => exact hx_free KX G c 71 rfl)
  (case zIsinstance => exact hx_free KX G c 72 rfl)
  (case zAll => exact hx_free KX G c 73 rfl)
  (case zTuple => exact hx_free KX G c 74 rfl)
  (case zBool => exact hx_free KX G c 75 rfl)
  (case zSuper => exact hx_free KX G c 76 rfl)
  (case gRd => exact hx_glo KX G c 77 rfl)
  (case clRd => exact hx_cls c 78 rfl)
  (case nRd0 => exact hx_no c 79 rfl)
  (case nRd1 => exact hx_no c 80 rfl)
  (case MRd0 => exact hx_init c 48 81 rfl rfl fun _ _ _ _ _ _ us hl => (match us, hl with | [_, _], _ => rfl))
  (case MRd1 => exact hx_meth c 49 82 rfl rfl fun _ _ _ _ _ _ us hl => (match us, hl with | [_], _ => rfl))
  (case MRd2 => exact hx_meth c 50 83 rfl rfl fun _ _ _ _ _ _ us hl => (match us, hl with | [_], _ => rfl))
  (case MRd3 => exact hx_meth c 51 84 rfl rfl fun _ _ _ _ _ _ us hl => (match us, hl with | [_], _ => rfl))
  (case MRd4 => exact hx_meth c 52 85 rfl rfl fun _ _ _ _ _ _ us hl => (match us, hl with | [_, _], _ => rfl))
  (case MRd5 => exact hx_meth c 53 86 rfl rfl fun _ _ _ _ _ _ us hl => (match us, hl with | [_, _], _ => rfl))
  (case MRd6 => exact hx_meth c 54 87 rfl rfl fun _ _ _ _ _ _ us hl => (match us, hl with | [_, _], _ => rfl))
  (case MRd7 => exact hx_meth c 55 88 rfl rfl fun _ _ _ _ _ _ us hl => (match us, hl with | [_], _ => rfl))
  (case MRd8 => exact hx_meth c 56 89 rfl rfl fun _ _ _ _ _ _ us hl => (match us, hl with | [_], _ => rfl))
  (case MRd9 => exact hx_meth c 57 90 rfl rfl fun _ _ _ _ _ _ us hl => (match us, hl with | [_], _ => rfl))
  (case MRd10 => exact hx_meth c 58 91 rfl rfl fun _ _ _ _ _ _ us hl => (match us, hl with | [_, _], _ => rfl))
  (case zSuper2 => exact hx_free KX G c 76 rfl)
end Pk
open PySem PySem.W PySem.Calls PyProof.Rows
set_option maxRecDepth 100000 in
set_option maxHeartbeats 0 in
theorem PySem.Challenge.cw_wholepackets_k49_whole_grammar_with_any_holds : PySem.Challenge.rw_wholepackets_k49_whole_grammar_with_any.Holds := by
  w_on; o_law
  refine HandSHeadRun.head_any (r := Pk.hxR) (q := view Pk.hxR.prog [25, 74]) (H := Pk.hookX Pk.hxA Pk.hxFa Pk.hxFn Pk.hxEx ["TextError"] Pk.hxVe) (ob := Pk.obX Pk.hxA Pk.hxFa Pk.hxFn Pk.hxEx ["TextError"]) (M := 6000) (loose := Pk.hxLo) (d := HandSHeadRun.topDef Pk.hxR.prog 74) (kwd := []) (Pk.obX_eq _ _ _ _ _ _)
    (by kernel_rfl) (fun s => by kernel_rfl) Pk.hx_run (by kernel_rfl) (by kernel_rfl) (by kernel_rfl) (by rfl) (by first | assumption | decide +kernel) (by decide +kernel) ⟨rfl, rfl, rfl, rfl, rfl, by decide +kernel⟩ ?hw ?hc
  case hw => w_witness2
  case hc =>
    obtain ⟨dr, hdr⟩ : ∃ dr, (recsOf (view Pk.hxR.prog [25, 74])).find? (fun e => e.name == ("consists_of" : PySem.Str)) = some dr := Option.isSome_iff_exists.mp (by decide +kernel)
    refine Pk.walk_ofGT (dr := dr) (l := PySem.Challenge.rw_wholepackets_k49_whole_grammar_with_any) (n := 63) (k := 33) (x := "script") (y := "consists_of") (by decide +kernel) rfl (by decide) (by kernel_rfl) ⟨rfl, by decide, by decide⟩ hdr ?F
    intro w mg fa h Y G hmg0
    obtain ⟨K, KX, c, he, hv⟩ := Y
    have hmg : mg ("law" : PySem.Str) = some (.ref fa) := by
      have e : (HandSHeadRun.topDef (OpenLaw.row PySem.Challenge.rw_wholepackets_k49_whole_grammar_with_any).prog 74).name = ("law" : PySem.Str) := by kernel_rfl
      rw [← e]
      exact hmg0
    obtain ⟨fd, cc, Pt, ht, hn, hb, hF⟩ := Pk.hx_all (P := (PySem.Challenge.rw_wholepackets_k49_whole_grammar_with_any).prog) (w := w) KX G hmg c he hv (by decide +kernel) (by decide +kernel)
    exact ⟨K, fd, Pk.spLaw K Pt, cc, Pt, KX, ht, hn, hb, fun H a ns hl tg _ hS => ⟨a, ns, rfl, hS, hl, tg, fun _ => rfl⟩, hF⟩
