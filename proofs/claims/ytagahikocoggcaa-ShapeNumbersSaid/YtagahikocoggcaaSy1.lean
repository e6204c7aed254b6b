/- An evaluator of the model's code, sound for every world: part 7. -/
import Derived.Test.YtagahikocoggcaaEv6
/-
  Conditions: the evaluator's steps over values that hold unknown numbers, as one formula that the kernel computes. First part: what is computed.
-/
namespace Go.Sy
open Go.Ev Go.RowKit

abbrev KO := Out4 → Prop
abbrev Spec := Fr → Option FrameMode → Hp → KO → Prop
abbrev SCall := FuncId → List Value → Hp → (Ev.End × Hp → Prop) → Prop
abbrev SRec := FuncId → List Nat → Bool → Code → Fr → Option FrameMode → Hp → KO → Prop

structure Env where
  P : Program
  /-- calls that are known -/
  T : FuncId → List Value → Hp → Option (Prop × Value × Hp)
  /-- pieces of code that are known, by function and place -/
  L : FuncId → List Nat → Option Spec
  /-- rows whose cells are a list that is not laid open -/
  sy : Nat → Bool

/-- A branch. -/
def br (b : Bool) (x y : Prop) : Prop := cond b x y

/-- An operand, where it is known. -/
def kv (tm : Tr Value) : Operand → Option Value
  | .tmp t => tm.find t
  | .const v => bif flat 12 v then some v else none
  | .func f => some (.func (.func f) #[] #[])
  | .global _ => none

/-- A value's head laid open. -/
def nv (v : Value) (k : Value → Prop) : Prop :=
  match v with
  | .int t n => k (.int t n)
  | .bool b => k (.bool b)
  | .string s => k (.string s)
  | .pointer none => k (.pointer none)
  | .pointer (some ⟨r, o, none⟩) => k (.pointer (some ⟨r, o, none⟩))
  | .slice none n c => k (.slice none n c)
  | .slice (some ⟨r, o, none⟩) n c => k (.slice (some ⟨r, o, none⟩) n c)
  | .agg ⟨l⟩ => k (.agg ⟨l⟩)
  | .tuple ⟨l⟩ => k (.tuple ⟨l⟩)
  | v => k v
theorem nv_eq (v : Value) (k : Value → Prop) : nv v k = k v := by unfold nv; split <;> rfl

def cellI (l : List Value) (i : Nat) : Int := match l[i]? with | some (.int _ n) => n | _ => 0
def cellB (l : List Value) (i : Nat) : Bool := match l[i]? with | some (.bool b) => b | _ => false
def cellS (l : List Value) (i : Nat) : ByteArray := match l[i]? with | some (.string s) => s | _ => ⟨#[]⟩
def cellF (l : List Value) (i : Nat) : Nat := match l[i]? with | some (.float _ b) => b | _ => 0

/-- A cell of the kind of a zero, out of a list that is not laid open. -/
def symCell (l : List Value) (i : Nat) : Value → Option Value
  | .int k _ => some (.int k (cellI l i))
  | .bool _ => some (.bool (cellB l i))
  | .string _ => some (.string (cellS l i))
  | .float k _ => some (.float k (cellF l i))
  | _ => none

/-- So many such cells; each is there. -/
def symCells (l : List Value) (i : Nat) : List Value → (List Value → Prop) → Prop
  | [], k => k []
  | z :: r, k => match symCell l i z with
    | some v => l[i]? = some v ∧ symCells l (i + 1) r fun vs => k (v :: vs)
    | none => False

def need (b : Bool) (p : Prop) : Prop := cond b p False

/-- Are two values the same, parts that are unknown and all? -/
def eqS (P : Program) : Nat → TypeId → Value → Value → Option Bool
  | 0, _, _, _ => none
  | d + 1, t, x, y =>
    match P.underlying t, x, y with
    | some .bool, .bool a, .bool b => some (a == b)
    | some (.int _), .int k a, .int k' b => bif decide (k = k') then some (a == b) else none
    | some .string, .string a, .string b => some (a == b)
    | some (.struct fields), .agg xs, .agg ys =>
      bif P.stoodInHeld t then none else
        fields.toList.foldr (fun f r =>
          bif decide (f.name ≠ "_") then
            match aPart P f.type xs.toList f.offset, aPart P f.type ys.toList f.offset with
            | some a, some b => (match eqS P d f.type a b, r with | some u, some v => some (u && v) | _, _ => none)
            | _, _ => none
          else r) (some true)
    | _, _, _ => none

section
variable (E : Env)

def sLoad (rows : Tr Row) (t : TypeId) (a : Value) (k : Value → Prop) : Prop :=
  match a with
  | .pointer (some ⟨r, i, none⟩) =>
    match E.sy r with
    | false => (match aLoad E.P rows t (.pointer (some ⟨r, i, none⟩)) with | some v => k v | none => False)
    | true =>
      match rows.find r, zeroOf E.P t, aggB E.P t, szOf E.P t with
      | some ⟨cells, _, .cells⟩, some z, some false, _ => (match symCell cells i z with | some v => cells[i]? = some v ∧ k v | none => False)
      | some ⟨cells, _, .cells⟩, some z, some true, some n => need (Nat.beq z.cells.toList.length n) (symCells cells i z.cells.toList fun vs => k (.agg vs.toArray))
      | _, _, _, _ => False
  | _ => False

def sBin (ρ : Operand → Option Value) (o : Oper) (op : BinOp) (t : TypeId) (x y : Operand) (k : Value → Prop) : Prop :=
  match ρ x, ρ y with
  | some (.int ka a), some (.int kb b) =>
    bif decide (ka = kb) then
      match op with
      | .quo => need (b != 0) (k (.int ka (ka.wrap (a.tdiv b))))
      | .rem => need (b != 0) (k (.int ka (a.tmod b)))
      | .shl | .shr => (match evPure E.P ρ o with | some v => k v | none => False)
      | _ => (match ibin op ka a b with | some v => k v | none => (match evPure E.P ρ o with | some v => k v | none => False))
    else (match evPure E.P ρ o with | some v => k v | none => False)
  | some (.float ka a), some (.float kb b) =>
    bif decide (ka = kb) then
      match fres op ka a b, fcmp op ka a b with
      | some (some r), _ => k (.float ka r)
      | none, some c => k (.bool c)
      | _, _ => False
    else False
  | some (.pointer a), some (.pointer b) => (match aNil E.P op t (.pointer a) (.pointer b) with | some v => k v | none => False)
  | some (.slice a n c), some (.slice b m d) => (match aNil E.P op t (.slice a n c) (.slice b m d) with | some v => k v | none => False)
  | some .nilFunc, some .nilFunc => (match aNil E.P op t .nilFunc .nilFunc with | some v => k v | none => False)
  | some (.agg a), some (.agg b) =>
    bif E.P.eqGuardType E.P.depth t || !(flat 12 (.agg a) && flat 12 (.agg b)) then False else
      match op, eqS E.P 8 t (.agg a) (.agg b) with
      | .eql, some r => k (.bool r)
      | .neq, some r => k (.bool (!r))
      | _, _ => False
  | some (.func _ _ _), _ => False
  | _, some (.func _ _ _) => False
  | _, _ => (match evPure E.P ρ o with | some v => k v | none => False)

def zOf : Int → Nat := Int.toNat

def sIndexAddr (t : TypeId) (x i : Value) (k : Value → Prop) : Prop :=
  match E.P.underlying t, x, i with
  | some (.slice elem), .slice (some ⟨r, o, none⟩) len _, .int _ z =>
    need (decide (0 ≤ z ∧ z < (len : Int))) (match szOf E.P elem with | some m => k (.pointer (some ⟨r, o + z.toNat * m, none⟩)) | none => False)
  | some (.array len elem), .pointer (some ⟨r, o, none⟩), .int _ z =>
    need (decide (0 ≤ z ∧ z < (len : Int))) (match szOf E.P elem with | some m => k (.pointer (some ⟨r, o + z.toNat * m, none⟩)) | none => False)
  | _, _, _ => False

def byteAt (s : ByteArray) (i : Nat) : Int := match s.data.toList[i]? with | some b => (b.toNat : Int) | none => 0

def sIndex (t : TypeId) (x i : Value) (k : Value → Prop) : Prop :=
  match E.P.underlying t, x, i with
  | some .string, .string s, .int _ z => need (decide (0 ≤ z ∧ z < (s.data.toList.length : Int))) (k (.int .u8 (byteAt s z.toNat)))
  | some (.array len elem), .agg cs, .int _ z =>
    need (decide (0 ≤ z ∧ z < (len : Int))) (match szOf E.P elem with | some m => (match aPart E.P elem cs.toList (z.toNat * m) with | some v => k v | none => False) | none => False)
  | _, _, _ => False

/-- A bound: none is d. -/
def sbnd (d : Nat) : Option Value → Option Int
  | none => some d
  | some (.int _ z) => some z
  | _ => none

def sSlice (t : TypeId) (x : Value) (lo hi : Option Value) (k : Value → Prop) : Prop :=
  match E.P.underlying t, x with
  | some .string, .string s =>
    match sbnd 0 lo, sbnd s.data.toList.length hi with
    | some l, some h => need (decide (0 ≤ l ∧ l ≤ h ∧ h ≤ (s.data.toList.length : Int))) (k (.string (sub s l.toNat h.toNat)))
    | _, _ => False
  | some (.slice elem), .slice (some ⟨r, o, none⟩) len e =>
    match sbnd 0 lo, sbnd len hi, szOf E.P elem with
    | some l, some h, some m => need (decide (0 ≤ l ∧ l ≤ h ∧ h ≤ (len : Int))) (need (Nat.beq m e) (k (.slice (some ⟨r, o + l.toNat * m, none⟩) (h.toNat - l.toNat) m)))
    | _, _, _ => False
  | _, _ => False

def sConv (ρ : Operand → Option Value) (rows : Tr Row) (o : Oper) (src dst : TypeId) (x : Operand) (k : Value → Prop) : Prop :=
  match ρ x with
  | some (.int _ n) => (match E.P.underlying src, E.P.underlying dst with | some (.int _), some (.int k') => k (.int k' (k'.wrap n)) | _, _ => (match evPure E.P ρ o with | some v => k v | none => False))
  | some (.slice a n c) => (match aText E.P rows src dst (.slice a n c) with | some v => k v | none => False)
  | _ => (match evPure E.P ρ o with | some v => k v | none => False)

def sQ (ρ : Operand → Option Value) (rows : Tr Row) (o : Oper) (k : Value → Prop) : Prop :=
  match o.op with
  | .move x | .assign x => (match ρ x with | some v => k v | none => False)
  | .pick c a b =>
    match ρ c with
    | some (.bool b0) =>
      match ρ a, ρ b with
      | some (.bool x), some (.bool y) => k (.bool (cond b0 x y))
      | some x, some y => br b0 (k x) (k y)
      | some x, none => need b0 (k x)
      | none, some y => need (!b0) (k y)
      | none, none => False
    | _ => False
  | .load t a => (match ρ a with | some v => sLoad E rows t v k | none => False)
  | .nilCheck x => (match ρ x with | some (.pointer (some a)) => k (.pointer (some a)) | some (.func (.func f) c d) => k (.func (.func f) c d) | _ => False)
  | .binOp op t x y _ => sBin E ρ o op t x y k
  | .makeInterface t x => (match ρ x with | some v => (bif E.P.concrete t then k (.iface t v) else False) | none => False)
  | .fieldAddr s x f => (match ρ x with | some v => (match aField E.P s f v with | some v => k v | none => False) | none => False)
  | .field t x f => (match ρ x with | some v => (match aFieldV E.P t f v with | some v => k v | none => False) | none => False)
  | .indexAddr t x i => (match ρ x, ρ i with | some v, some j => sIndexAddr E t v j k | _, _ => False)
  | .index t x i => (match ρ x, ρ i with | some v, some j => sIndex E t v j k | _, _ => False)
  | .slice t x lo hi none => (match ρ x, opt ρ lo, opt ρ hi with | some v, some l, some h => sSlice E t v l h k | _, _, _ => False)
  | .extract x i => (match ρ x with | some v => (match aExtract i v with | some v => k v | none => False) | none => False)
  | .build t parts => (match aBuild E.P ρ t parts with | some v => k v | none => False)
  | .convert src dst x => sConv E ρ rows o src dst x k
  | .call c =>
    match c.callee with
    | .builtin .len => (match evLen E.P ρ c with | some v => k v | none => False)
    | _ => (match evPure E.P ρ o with | some v => k v | none => False)
  | .makeFunc fn first cap => (match aArgs ρ first.toList, aArgs ρ cap.toList with | some a, some b => k (.func fn a.toArray b.toArray) | _, _ => False)
  | .unOp _ _ _ => (match evPure E.P ρ o with | some v => k v | none => False)
  | _ => False

/-- Cells laid over a row. -/
def sPutCells (rows : Tr Row) (r i : Nat) (vs : List Value) (k : Tr Row → Prop) : Prop :=
  match E.sy r with
  | false => (match putCells rows r i vs with | some t => k t | none => False)
  | true =>
    match rows.find r with
    | some ⟨cells, false, .cells⟩ => need (decide (i + vs.length ≤ cells.length)) (need (allOne vs && Nat.blt r Tr.top) (k (rows.put r (some ⟨ovr cells i vs, false, .cells⟩))))
    | _ => False

def sStore (rows : Tr Row) (t : TypeId) (a v : Value) (k : Tr Row → Prop) : Prop :=
  match a, szOf E.P t with
  | .pointer (some ⟨r, i, none⟩), some m => need (Nat.beq v.cells.toList.length m) (sPutCells E rows r i v.cells.toList k)
  | _, _ => False

def sE (ρ : Operand → Option Value) (h : Hp) (o : Oper) (k : Res → Hp → Prop) : Prop :=
  match o.op with
  | .store t a x =>
    match ρ a, ρ x with
    | some av, some xv => sStore E h.rows t av xv fun rows => k .skip ⟨rows, h.next⟩
    | _, _ => False
  | .makeSlice t l c =>
    match ρ l, ρ c with
    | some lv, some cv => (match aMake E.P h t lv cv with | some (v, h') => k (.val v) h' | none => False)
    | _, _ => False
  | .call c =>
    match c.callee with
    | .builtin .append => (match aAppend E.P h c ρ with | some (v, h') => k (.val v) h' | none => False)
    | .value f => (match aCall E.P ρ f c.args.toList with | some (fid, a, b, d) => k (.enter fid (a ++ b ++ d)) h | none => False)
    | _ => False
  | .panic x => (match ρ x with | some (.iface t v) => k (.panic (.iface t v)) h | _ => False)
  | .convert src dst x => (match ρ x with | some xv => (match aBytes E.P h src dst xv with | some (v, h') => k (.val v) h' | none => False) | none => False)
  | _ => False

/-- Is it a text that is made bytes? -/
def isBytes (ρ : Operand → Option Value) (rows : Tr Row) (o : Oper) : Bool :=
  match o.op with
  | .convert _ _ x => (match ρ x with | some (.string _) => (match evQ E.P ρ rows o with | none => true | some _ => false) | _ => false)
  | _ => false

def sOp (ρ : Operand → Option Value) (h : Hp) (o : Oper) (k : Res → Hp → Prop) : Prop :=
  match kind o with
  | .quiet => sQ E ρ h.rows o fun v => k (.val v) h
  | .new =>
    match evA E.P ρ o with
    | some (cs, ak) => bif Nat.blt h.next Tr.top then k (.val (ak.mk h.next)) ⟨h.rows.put h.next (some ⟨cs, false, .cells⟩), h.next + 1⟩ else False
    | none => False
  | .act => sE E ρ h o k
  | .conv => bif isBytes E ρ h.rows o then sE E ρ h o k else sQ E ρ h.rows o fun v => k (.val v) h

/-! ### Slots -/
def sPut (fr : Fr) (dst : Option Tmp) (v : Value) (k : Fr → Prop) : Prop :=
  match dst with
  | none => k fr
  | some d => bif Nat.blt d fr.nt && Nat.blt d Tr.top then Tr.putK 40 fr.tm d (some v) fun tm => k ⟨tm, fr.nt, fr.df⟩ else False

/-- A slot that is found to be so: written so. -/
def sLit (fr : Fr) (x : Operand) (b : Bool) (k : Fr → Prop) : Prop :=
  match x with
  | .tmp d => bif Nat.blt d Tr.top then Tr.putK 40 fr.tm d (some (.bool b)) fun tm => k ⟨tm, fr.nt, fr.df⟩ else k fr
  | _ => k fr

def sWant (ops : Array Oper) (o : Oper) (fr : Fr) (k : Fr → Bool → Prop) : Prop :=
  match o.guard with
  | none => k fr true
  | some (j, want) =>
    match ops[j]? with
    | some oj =>
      match oj.dst with
      | some d =>
        match fr.tm.find d with
        | some (.bool b) => br b (sLit fr (.tmp d) true fun fr => k fr want) (sLit fr (.tmp d) false fun fr => k fr (!want))
        | some _ => k fr false
        | none => False
      | none => k fr false
    | none => k fr false

def sSeq (call : SCall) (ops : Array Oper) : List Oper → Fr → Option FrameMode → Hp → KO → Prop
  | [], fr, u, h, K => K (.normal, fr, u, h)
  | o :: rest, fr, u, h, K =>
    sWant ops o fr fun fr w =>
      match w with
      | false => sPut fr o.dst undef fun fr => sSeq call ops rest fr u h K
      | true => sOp E (kv fr.tm) h o fun r h => nfHp h fun h =>
        match r with
        | .val v => nv v fun v => sPut fr o.dst v fun fr => sSeq call ops rest fr u h K
        | .skip => sPut fr o.dst undef fun fr => sSeq call ops rest fr u h K
        | .enter f args => call f args h fun x =>
          match x with
          | (.ret v, h) => nfHp h fun h => nv v fun v => sPut fr o.dst v fun fr => sSeq call ops rest fr u h K
          | (.pan c, h) => K (.panic c, fr, u, h)
        | .panic v => K (.panic [{ v, recovered := false }], fr, u, h)
        | _ => False

/-- An operation that looks at no memory. -/
def rowless (o : Oper) : Bool :=
  match o.op with
  | .move _ | .assign _ | .pick _ _ _ | .nilCheck _ | .makeInterface _ _ | .fieldAddr _ _ _ | .field _ _ _ | .indexAddr _ _ _ | .index _ _ _ | .extract _ _ | .build _ _ | .unOp _ _ _ | .binOp _ _ _ _ _ => true
  | .call c => (match c.callee with | .builtin .len | .builtin .min | .builtin .max => true | _ => false)
  | _ => false

/-! ### Open orders -/
def skV (l : List Oper) (ms : List Nat) (tm : Tr Value) (vs : List Value) (i : Nat) : Operand → Option Value
  | .tmp x =>
    match wrOf l 0 x with
    | none => tm.find x
    | some j =>
      bif Nat.testBit (mk ms i) j then vs[j]?
      else bif Nat.testBit (mk ms j) i || Nat.beq j i then tm.find x else none
  | .const v => bif flat 12 v then some v else none
  | .func f => some (.func (.func f) #[] #[])
  | .global _ => none

/-- Is a value such that it is told as the same as itself? -/
def self : Nat → Value → Bool
  | 0, _ => false
  | _ + 1, .bool _ | _ + 1, .int _ _ | _ + 1, .float _ _ | _ + 1, .string _ | _ + 1, .pointer none | _ + 1, .pointer (some ⟨_, _, none⟩)
  | _ + 1, .slice none _ _ | _ + 1, .slice (some ⟨_, _, none⟩) _ _ | _ + 1, .nilFunc | _ + 1, .nilIface => true
  | n + 1, .agg ⟨x⟩ | n + 1, .tuple ⟨x⟩ => x.all (self n)
  | n + 1, .func _ ⟨x⟩ ⟨y⟩ => x.all (self n) && y.all (self n)
  | _, _ => false

/-- A guard, and what the pass knows behind it. -/
def sdWant (l : List Oper) (ms : List Nat) (tm : Tr Value) (s : Pass) (i : Nat) (o : Oper) (k : Pass → Bool → Prop) : Prop :=
  match o.guard with
  | none => k s true
  | some (j, want) =>
    match l[j]? with
    | some oj =>
      match oj.dst with
      | some d =>
        match skV l ms tm s.vs i (.tmp d) with
        | some (.bool b) =>
          match wrOf l 0 d with
          | some j' => bif Nat.testBit (mk ms i) j' then
              br b (wrK s.vs j' [.bool true] fun vs => k ⟨vs, s.hs, s.es, s.nw⟩ want) (wrK s.vs j' [.bool false] fun vs => k ⟨vs, s.hs, s.es, s.nw⟩ (!want))
            else br b (k s want) (k s (!want))
          | none => br b (k s want) (k s (!want))
        | some .nilIface => k s false
        | some (.tuple ⟨[]⟩) => k s false
        | _ => False
      | none => k s false
    | none => k s false

def sPass (call : SCall) (l : List Oper) (ms : List Nat) (tm : Tr Value) (base : Nat) : List Oper → Nat → Pass → (Pass → Prop) → Prop
  | [], _, s, k => k s
  | o :: rest, i, s, k =>
    sdWant l ms tm s i o fun s w =>
    match w with
    | false => apK s.vs [undef] fun vs => sPass call l ms tm base rest (i + 1) ⟨vs, s.hs, s.es, s.nw⟩ k
    | true =>
      match s.hs.getLast? with
      | none => False
      | some h =>
        let q : Prop := sQ E (skV l ms tm s.vs i) (addRows h.rows base (Ev.seen ms s.es i) s.nw) o fun v => nv v fun v => need (self 20 v) (apK s.vs [v] fun vs => sPass call l ms tm base rest (i + 1) ⟨vs, s.hs, s.es, s.nw⟩ k)
        let e : Prop :=
          need (s.es.all fun j => Nat.testBit (mk ms i) j) <|
          sE E (skV l ms tm s.vs i) ⟨addRows h.rows base (Ev.seen ms s.es i) s.nw, h.next⟩ o fun r h' => nfHp h' fun h' =>
            match r with
            | .val v => nv v fun v => apK s.vs [v] fun vs => sPass call l ms tm base rest (i + 1) ⟨vs, s.hs ++ [h'], s.es ++ [i], s.nw⟩ k
            | .skip => apK s.vs [undef] fun vs => sPass call l ms tm base rest (i + 1) ⟨vs, s.hs ++ [h'], s.es ++ [i], s.nw⟩ k
            | .enter f args => call f args h' fun x =>
              match x with
              | (.ret v, h') => nfHp h' fun h' => nv v fun v => apK s.vs [v] fun vs => sPass call l ms tm base rest (i + 1) ⟨vs, s.hs ++ [h'], s.es ++ [i], s.nw⟩ k
              | _ => False
            | _ => False
        match kind o with
        | .quiet => q
        | .conv => bif isBytes E (skV l ms tm s.vs i) (addRows h.rows base (Ev.seen ms s.es i) s.nw) o then e else q
        | .new =>
          match evA E.P (skV l ms tm s.vs i) o with
          | some (cs, ak) => nv (ak.mk (base + i)) fun v => apK s.vs [v] fun vs => sPass call l ms tm base rest (i + 1) ⟨vs, s.hs, s.es, s.nw ++ [(i, cs)]⟩ k
          | none => False
        | .act => e

def sAgain (l : List Oper) (ms : List Nat) (tm : Tr Value) (base : Nat) (s : Pass) (i : Nat) (o : Oper) (v : Value) : List Hp → Nat → Prop → Prop
  | [], _, k => k
  | h :: r, n, k =>
    bif window ms s.es i n then sQ E (skV l ms tm s.vs i) (addRows h.rows base (Ev.seen ms (s.es.take n) i) s.nw) o fun v' => v' = v ∧ need (self 20 v) (sAgain l ms tm base s i o v r (n + 1) k)
    else sAgain l ms tm base s i o v r (n + 1) k

def sLook2 (l : List Oper) (ms : List Nat) (tm : Tr Value) (base : Nat) (s : Pass) : List Oper → Nat → Prop → Prop
  | [], _, k => k
  | o :: r, i, k =>
    sdWant l ms tm s i o fun s' w =>
    match w with
    | true =>
      bif s'.es.contains i || s'.nw.any (fun p => Nat.beq p.1 i) || rowless o then sLook2 l ms tm base s' r (i + 1) k
      else match s'.vs[i]? with
        | some v => sAgain E l ms tm base s' i o v s'.hs 0 (sLook2 l ms tm base s' r (i + 1) k)
        | none => False
    | false => sLook2 l ms tm base s' r (i + 1) k

def sPuts : List Oper → List Value → Fr → (Fr → Prop) → Prop
  | o :: l, v :: vs, fr, k => sPut fr o.dst v fun fr => sPuts l vs fr k
  | _, _, fr, k => k fr

/-- Numbers laid open. -/
def msK : List Nat → (List Nat → Prop) → Prop
  | [], k => k []
  | 0 :: r, k => msK r fun l => k (0 :: l)
  | (n + 1) :: r, k => msK r fun l => k (Nat.succ n :: l)
theorem msK_eq : ∀ (l : List Nat) (k : List Nat → Prop), msK l k = k l
  | [], _ => rfl
  | 0 :: r, k => by rw [msK, msK_eq r]
  | (n + 1) :: r, k => by rw [msK, msK_eq r]

def sDraw (call : SCall) (ops : Array Oper) (fr : Fr) (h : Hp) (k : Fr → Hp → Prop) : Prop :=
  need (edgesBack ops.toList 0 && dstsOnce ops.toList ops.toList 0 && Nat.ble (h.next + ops.toList.length) Tr.top) <|
    msK (masks ops.toList) fun ms =>
    nfHp ⟨h.rows, h.next + ops.toList.length⟩ fun h0 =>
    sPass E call ops.toList ms fr.tm h.next ops.toList 0 ⟨[], [h0], [], []⟩ fun s =>
      sLook2 E ops.toList ms fr.tm h.next s ops.toList 0 <|
      need (noneAt ms h.next ops.toList.length s s.hs 0) <|
        match s.hs.getLast? with
        | some hm => sPuts ops.toList s.vs fr fun fr' => nfHp ⟨addRows hm.rows h.next (fun j => !Nat.testBit (absorbed ms s.es) j) s.nw, hm.next⟩ fun h' => k fr' h'
        | none => False

/-! ### Code and calls -/
def sRes (rows : Tr Row) (tm : Tr Value) : List ResultVar → (List Value → Prop) → Prop
  | [], k => k []
  | .tmp t :: r, k => (match tm.find t with | some v => nv v fun v => sRes rows tm r fun l => k (v :: l) | none => False)
  | .cell c t :: r, k => (match tm.find c with | some a => sLoad E rows t a fun v => nv v fun v => sRes rows tm r fun l => k (v :: l) | none => False)

def sResults (rows : Tr Row) (tm : Tr Value) (fn : Func) (k : Value → Prop) : Prop :=
  sRes E rows tm fn.results.toList fun l => match l with
    | [v] => k v
    | l => k (.tuple l.toArray)

def sCallF (rec : SRec) : SCall := fun f args h k =>
  match E.T f args h with
  | some (p, v, h') => p ∧ k (.ret v, h')
  | none =>
    match E.P.funcs[f]? with
    | some fn =>
      match fn.body with
      | some c =>
        need (Nat.ble args.length fn.ntmps && Nat.ble fn.ntmps 1000000) <|
          rec f [] false c ⟨ofL args 0 .leaf, fn.ntmps, []⟩ none h fun x =>
            match x with
            | (.normal, ⟨tm, _, []⟩, _, h') => sResults E h'.rows tm fn fun v => k (.ret v, h')
            | (.ret, ⟨tm, _, []⟩, _, h') => sResults E h'.rows tm fn fun v => k (.ret v, h')
            | (.panic ch, ⟨_, _, []⟩, _, h') => k (.pan ch, h')
            | _ => False
      | none => False
    | none => False

def sRound (rec : SRec) (f : FuncId) (p : List Nat) (c : Code) (fr : Fr) (u : Option FrameMode) (h : Hp) (K : KO) : Prop :=
  rec f (0 :: p) false c fr u h fun x =>
    match x with
    | (.normal, fr', u', h') => rec f p true c fr' u' h' K
    | r => K r

def sStep (rec : SRec) : SRec
  | f, p, true, c, fr, u, h, K => sRound rec f p c fr u h K
  | f, p, false, c, fr, u, h, K =>
    match E.L f p with
    | some spec => spec fr u h K
    | none =>
      match c with
      | .skip => K (.normal, fr, u, h)
      | .ret => K (.ret, fr, u, h)
      | .exit id => K (.exit id, fr, u, h)
      | .seq x y => rec f (0 :: p) false x fr u h fun r =>
        match r with
        | (.normal, fr', u', h') => rec f (1 :: p) false y fr' u' h' K
        | r => K r
      | .cond c x y =>
        match kv fr.tm c with
        | some (.bool b) => br b (sLit fr c true fun fr => rec f (0 :: p) false x fr u h K) (sLit fr c false fun fr => rec f (1 :: p) false y fr u h K)
        | _ => False
      | .block id c => rec f (0 :: p) false c fr u h fun r =>
        match r with
        | (.exit j, fr', u', h') => bif Nat.beq j id then K (.normal, fr', u', h') else K (.exit j, fr', u', h')
        | r => K r
      | .loop c => sRound rec f p c fr u h K
      | .region _ ops false => sSeq E (sCallF E rec) ops ops.toList fr u h K
      | .region _ ops true => sDraw E (sCallF E rec) ops fr h fun fr' h' => K (.normal, fr', u, h')
      | _ => False

def sev : Nat → SRec
  | 0 => fun _ _ _ _ _ _ _ _ => False
  | n + 1 => sStep E (sev n)

/-- A function's call. -/
def scall (n : Nat) : SCall := sCallF E (sev E n)
end
end Go.Sy

/-
  Conditions, second part: more fuel, more known operands: the evaluator says the same.
-/
namespace Go.Sy
open Go.Ev Go.RowKit

/-! ### More known operands -/
def RLe (ρ ρ' : Operand → Option Value) : Prop := ∀ x v, ρ x = some v → ρ' x = some v

section
variable {P : Program} {ρ ρ' : Operand → Option Value}

theorem flatAll_get (hl : RLe ρ ρ') : ∀ (l : List Operand), flatAll ρ l = true → flatAll ρ' l = true ∧ ∀ x ∈ l, ρ' x = ρ x := by
  intro l
  induction l with
  | nil => intro _; exact ⟨rfl, fun x hx => by simp at hx⟩
  | cons a r ih =>
    intro h
    simp only [flatAll, Bool.and_eq_true] at h
    cases ha : ρ a with
    | none => rw [ha] at h; simp at h
    | some v =>
      have h' := hl _ _ ha
      obtain ⟨i1, i2⟩ := ih h.2
      refine ⟨by simp only [flatAll, h', i1]; rw [ha] at h; simpa using h.1, fun x hx => ?_⟩
      rcases List.mem_cons.1 hx with rfl | hx
      · rw [h', ha]
      · exact i2 x hx

theorem evPure_eq {o : Oper} (hsel : ∀ a b, o.op ≠ .select a b) : evPure P ρ o = bif flatAll ρ o.op.operands.toList then
      (match pureRun P (execOp (fun x => (ρ x).getD undef) o) with
      | some (.value v) => bif flat 12 v then some v else none
      | _ => none)
    else none := by
  unfold evPure
  split
  · rename_i a b e; exact absurd e (hsel a b)
  · rfl

theorem evPure_mono (hl : RLe ρ ρ') {o : Oper} {v : Value} (h : evPure P ρ o = some v) : evPure P ρ' o = some v := by
  have hsel : ∀ a b, o.op ≠ .select a b := by
    intro a b e
    unfold evPure at h; rw [e] at h; simp at h
  rw [evPure_eq hsel] at h ⊢
  cases hf : flatAll ρ o.op.operands.toList with
  | false => simp [hf] at h
  | true =>
    obtain ⟨h1, h2⟩ := flatAll_get hl _ hf
    have hc : execOp (fun x => (ρ x).getD undef) o = execOp (fun x => (ρ' x).getD undef) o :=
      execOp_congr o (fun cs b e => hsel cs b e) fun x hx => by rw [h2 x (by simpa using hx)]
    rw [h1, ← hc]
    rw [hf] at h
    exact h

theorem evPure_known {o : Oper} {v : Value} (h : evPure P ρ o = some v) : ∀ x ∈ o.op.operands, ∃ a, ρ x = some a := by
  unfold evPure at h
  split at h
  · simp at h
  · cases hf : flatAll ρ o.op.operands.toList with
    | false => simp [hf] at h
    | true =>
      have aux : ∀ (l : List Operand), flatAll ρ l = true → ∀ x ∈ l, ∃ a, ρ x = some a := by
        intro l
        induction l with
        | nil => intro _ x hx; simp at hx
        | cons a r ih =>
          intro h x hx
          simp only [flatAll, Bool.and_eq_true] at h
          rcases List.mem_cons.1 hx with rfl | hx
          · cases ha : ρ x with
            | none => rw [ha] at h; simp at h
            | some v => exact ⟨v, rfl⟩
          · exact ih h.2 x hx
      intro x hx
      exact aux _ hf x (by simpa using hx)

theorem aParts_mono (hl : RLe ρ ρ') : ∀ (l : List (Nat × Operand)) (r : List (Nat × Value)), aParts ρ l = some r → aParts ρ' l = some r := by
  intro l
  induction l with
  | nil => intro r h; exact h
  | cons a l ih =>
    intro r h
    obtain ⟨i, x⟩ := a
    simp only [aParts] at h ⊢
    cases hx : ρ x with
    | none => rw [hx] at h; simp at h
    | some v =>
      cases hr : aParts ρ l with
      | none => rw [hx, hr] at h; simp at h
      | some r' => rw [hx, hr] at h; rw [hl _ _ hx, ih _ hr]; exact h

theorem aArgs_mono (hl : RLe ρ ρ') : ∀ (l : List Operand) (r : List Value), aArgs ρ l = some r → aArgs ρ' l = some r := by
  intro l
  induction l with
  | nil => intro r h; exact h
  | cons x l ih =>
    intro r h
    simp only [aArgs] at h ⊢
    cases hx : ρ x with
    | none => rw [hx] at h; simp at h
    | some v =>
      cases hr : aArgs ρ l with
      | none => rw [hx, hr] at h; simp at h
      | some r' => rw [hx, hr] at h; rw [hl _ _ hx, ih _ hr]; exact h

theorem opt_mono (hl : RLe ρ ρ') {x : Option Operand} {r : Option Value} (h : opt ρ x = some r) : opt ρ' x = some r := by
  cases x with
  | none => exact h
  | some x =>
    simp only [opt, Option.map_eq_some_iff] at h ⊢
    obtain ⟨a, h1, h2⟩ := h
    exact ⟨a, hl _ _ h1, h2⟩

theorem aBuild_mono (hl : RLe ρ ρ') {t : TypeId} {ps : Array (Nat × Operand)} {v : Value} (h : aBuild P ρ t ps = some v) : aBuild P ρ' t ps = some v := by
  unfold aBuild at h ⊢
  cases hp : aParts ρ ps.toList with
  | none => rw [hp] at h; cases hz : zeroOf P t <;> simp [hz] at h
  | some l => rw [hp] at h; rw [aParts_mono hl _ _ hp]; exact h

theorem evA_mono (hl : RLe ρ ρ') {o : Oper} {v : List Value × AK} (h : evA P ρ o = some v) : evA P ρ' o = some v := by
  unfold evA at h ⊢
  split at h
  · exact h
  · rename_i x _
    simp only [Option.map_eq_some_iff] at h ⊢
    obtain ⟨a, h1, h2⟩ := h
    exact ⟨a, hl _ _ h1, h2⟩
  · rename_i t len parts _
    split at h
    · rename_i elem hu
      cases hp : aParts ρ parts.toList with
      | none => rw [hp] at h; cases hz : zeroOf P elem <;> cases hs : szOf P elem <;> simp [hz, hs] at h
      | some l => rw [hp] at h; rw [aParts_mono hl _ _ hp]; exact h
    · simp at h
  · simp at h

theorem evLen_mono (hl : RLe ρ ρ') {c : Call} {v : Value} (h : evLen P ρ c = some v) : evLen P ρ' c = some v := by
  unfold evLen at h ⊢
  split at h
  · rename_i x t e1 e2
    cases hx : ρ x with
    | none => rw [hx] at h; cases P.underlying t <;> simp at h
    | some a => rw [hx] at h; rw [hl _ _ hx]; exact h
  · simp at h

theorem aCall_mono (hl : RLe ρ ρ') {f : Operand} {args : List Operand} {r : FuncId × List Value × List Value × List Value} (h : aCall P ρ f args = some r) : aCall P ρ' f args = some r := by
  unfold aCall at h ⊢
  cases hf : ρ f with
  | none => rw [hf] at h; simp at h
  | some a =>
    cases hr : aArgs ρ args with
    | none => rw [hf, hr] at h; cases a <;> simp at h
    | some l => rw [hf, hr] at h; rw [hl _ _ hf, aArgs_mono hl _ _ hr]; exact h

theorem evBin_mono (hl : RLe ρ ρ') {o : Oper} {op : BinOp} {t t' : TypeId} {x y : Operand} (ho : o.op = .binOp op t x y t') {v : Value} (h : evBin P ρ o op t x y = some v) : evBin P ρ' o op t x y = some v := by
  have known : (∃ a, ρ x = some a) ∧ ∃ b, ρ y = some b := by
    cases hx : ρ x with
    | some a =>
      cases hy : ρ y with
      | some b => exact ⟨⟨a, rfl⟩, b, rfl⟩
      | none =>
        unfold evBin at h
        rw [hx, hy] at h
        have h' : evPure P ρ o = some v := by cases a <;> exact h
        have := evPure_known h' y (by rw [ho]; simp [Op.operands])
        rw [hy] at this; simp at this
    | none =>
      unfold evBin at h
      rw [hx] at h
      have h' : evPure P ρ o = some v := h
      have := evPure_known h' x (by rw [ho]; simp [Op.operands])
      rw [hx] at this; simp at this
  obtain ⟨⟨a, hx⟩, b, hy⟩ := known
  unfold evBin at h ⊢
  rw [hx, hy] at h
  rw [hl _ _ hx, hl _ _ hy]
  revert h
  split
  · rename_i k1 a1 k2 b1 _ _
    cases hk : decide (k1 = k2) with
    | true =>
      simp only [cond_true]
      split
      · exact id
      · exact fun h => evPure_mono hl h
    | false => simp only [cond_false]; exact fun h => evPure_mono hl h
  all_goals first | exact id | exact fun h => evPure_mono hl h

theorem evConv_mono (hl : RLe ρ ρ') {rows : Tr Row} {o : Oper} {src dst : TypeId} {x : Operand} (ho : o.op = .convert src dst x) {v : Value} (h : evConv P ρ rows o src dst x = some v) : evConv P ρ' rows o src dst x = some v := by
  cases hx : ρ x with
  | none =>
    unfold evConv at h
    rw [hx] at h
    have := evPure_known (show evPure P ρ o = some v from h) x (by rw [ho]; simp [Op.operands])
    rw [hx] at this; simp at this
  | some a =>
    unfold evConv at h ⊢
    rw [hx] at h
    rw [hl _ _ hx]
    revert h
    split
    · split
      · exact id
      · exact fun h => evPure_mono hl h
    · exact id
    · exact fun h => evPure_mono hl h

theorem evQ_rowless {o : Oper} (ho : rowless o = true) (rows rows' : Tr Row) : evQ P ρ rows o = evQ P ρ rows' o := by
  unfold rowless at ho
  unfold evQ
  cases hop : o.op <;> rw [hop] at ho <;> simp only at ho ⊢ <;> try (simp at ho; done)
  rename_i c
  obtain ⟨cl, as, ts⟩ := c
  cases cl <;> first | (simp at ho; done) | skip
  rename_i b
  cases b <;> first | (simp at ho; done) | rfl

theorem evQ_mono1 (hl : RLe ρ ρ') {rows : Tr Row} {o : Oper} (hr : rowless o = true) {v : Value} (h : evQ P ρ rows o = some v) : evQ P ρ' rows o = some v := by
  unfold rowless at hr
  have one : ∀ (x : Operand) (f : Value → Option Value), (match ρ x with | some v => f v | none => none) = some v → (match ρ' x with | some v => f v | none => none) = some v := by
    intro x f h
    cases hx : ρ x with
    | none => rw [hx] at h; simp at h
    | some a => rw [hx] at h; rw [hl _ _ hx]; exact h
  have two : ∀ (x y : Operand) (f : Value → Value → Option Value), (match ρ x, ρ y with | some a, some b => f a b | _, _ => none) = some v → (match ρ' x, ρ' y with | some a, some b => f a b | _, _ => none) = some v := by
    intro x y f h
    cases hx : ρ x with
    | none => rw [hx] at h; simp at h
    | some a =>
      cases hy : ρ y with
      | none => rw [hx, hy] at h; simp at h
      | some b => rw [hx, hy] at h; rw [hl _ _ hx, hl _ _ hy]; exact h
  split at hr
  · rename_i x e; unfold evQ at h ⊢; rw [e] at h ⊢; exact hl _ _ h
  · rename_i x e; unfold evQ at h ⊢; rw [e] at h ⊢; exact hl _ _ h
  · rename_i c a b e; unfold evQ at h ⊢; rw [e] at h ⊢
    simp only at h ⊢
    cases hc : ρ c with
    | none => rw [hc] at h; simp at h
    | some w => rw [hc] at h; rw [hl _ _ hc]; revert h; split <;> first | exact hl _ _ | exact fun h => by simp at h
  · rename_i x e; unfold evQ at h ⊢; rw [e] at h ⊢
    simp only at h ⊢
    cases hx : ρ x with
    | none => rw [hx] at h; simp at h
    | some a => rw [hx] at h; rw [hl _ _ hx]; exact h
  · rename_i t x e; unfold evQ at h ⊢; rw [e] at h ⊢; exact one x _ h
  · rename_i t x f e; unfold evQ at h ⊢; rw [e] at h ⊢; exact one x _ h
  · rename_i t x f e; unfold evQ at h ⊢; rw [e] at h ⊢; exact one x _ h
  · rename_i t x i e; unfold evQ at h ⊢; rw [e] at h ⊢; exact two x i _ h
  · rename_i t x i e; unfold evQ at h ⊢; rw [e] at h ⊢; exact two x i _ h
  · rename_i x i e; unfold evQ at h ⊢; rw [e] at h ⊢; exact one x _ h
  · rename_i t ps e; unfold evQ at h ⊢; rw [e] at h ⊢; exact aBuild_mono hl h
  · rename_i op t x e; unfold evQ at h ⊢; rw [e] at h ⊢; exact evPure_mono hl h
  · rename_i op t x y t' e; unfold evQ at h ⊢; rw [e] at h ⊢; exact evBin_mono hl e h
  · rename_i c e
    unfold evQ at h ⊢; rw [e] at h ⊢
    obtain ⟨cl, as, ts⟩ := c
    split at hr
    · rename_i hc; cases hc; exact evLen_mono hl h
    · rename_i hc; cases hc; exact evPure_mono hl h
    · rename_i hc; cases hc; exact evPure_mono hl h
    · simp at hr
  · simp at hr
end

/-! ### More fuel -/
def CLe (c c' : CallF) : Prop := ∀ f a h r, c f a h = some r → c' f a h = some r
def RecLe (r r' : Rec) : Prop := ∀ it c fr u h x, r it c fr u h = some x → r' it c fr u h = some x

section
variable {P : Program}

theorem putFr_def {β : Type} (fr : Fr) (dst : Option Tmp) (v : Value) (k : Fr → Option β) : putFr fr dst v k = match putFr fr dst v some with | some fr' => k fr' | none => none := by
  unfold putFr
  split
  · rfl
  · cases hc : (Nat.blt _ fr.nt && Nat.blt _ Tr.top) with
    | false => rfl
    | true => simp only [cond_true]; rename_i _ d; rw [Tr.putK_eq 40 fr.tm d (some v) (fun tm => some (Fr.mk tm fr.nt fr.df)), Tr.putK_eq]

theorem putFr_mono {β : Type} {fr : Fr} {dst : Option Tmp} {v : Value} {k k' : Fr → Option β} {r : β} (hk : ∀ fr' r, k fr' = some r → k' fr' = some r) (h : putFr fr dst v k = some r) : putFr fr dst v k' = some r := by
  rw [putFr_def] at h ⊢
  cases hp : putFr fr dst v some with
  | none => rw [hp] at h; simp at h
  | some fr' => rw [hp] at h; exact hk _ _ h

theorem evSeq_mono {c c' : CallF} (hc : CLe c c') (ops : Array Oper) : ∀ (l : List Oper) (fr : Fr) (u : Option FrameMode) (h : Hp) (x : Out4), evSeq P c ops l fr u h = some x → evSeq P c' ops l fr u h = some x := by
  intro l
  induction l with
  | nil => intro fr u h x he; exact he
  | cons o rest ih =>
    intro fr u h x he
    simp only [evSeq] at he ⊢
    revert he
    split
    · exact putFr_mono fun fr' r hr => ih _ _ _ _ hr
    · split
      · exact id
      · rename_i r h' _
        rw [nfHp_eq, nfHp_eq]
        cases r with
        | val v => simp only [nfK_eq]; exact putFr_mono fun fr' r hr => ih _ _ _ _ hr
        | skip => exact putFr_mono fun fr' r hr => ih _ _ _ _ hr
        | defer d => exact putFr_mono fun fr' r hr => ih _ _ _ _ hr
        | panic v => exact id
        | enter f args =>
          simp only
          cases hcall : c f args h' with
          | none => simp
          | some y =>
            rw [hc _ _ _ _ hcall]
            obtain ⟨e, h2⟩ := y
            cases e with
            | ret v => simp only [nfHp_eq, nfK_eq]; exact putFr_mono fun fr' r hr => ih _ _ _ _ hr
            | pan ch => exact id
        | recov =>
          simp only
          split
          · exact id
          · exact putFr_mono fun fr' r hr => ih _ _ _ _ hr
          · exact putFr_mono fun fr' r hr => ih _ _ _ _ hr

theorem passE_mono {c c' : CallF} (hc : CLe c c') {x : Option (Res × Hp)} {y : Value × Hp} (h : passE c x = some y) : passE c' x = some y := by
  unfold passE at h ⊢
  split at h
  · exact h
  · exact h
  · rename_i f args h0
    rw [nfHp_eq] at h
    rw [nfHp_eq]
    split at h
    · rename_i v h1 hcall; rw [hc _ _ _ _ hcall]; exact h
    · simp at h
  · simp at h

theorem pass_mono {c c' : CallF} (hc : CLe c c') (l : List Oper) (ms : List Nat) (tm : Tr Value) (base : Nat) : ∀ (r : List Oper) (i : Nat) (s s' : Pass), pass P c l ms tm base r i s = some s' → pass P c' l ms tm base r i s = some s' := by
  intro r
  induction r with
  | nil => intro i s s' h; exact h
  | cons o rest ih =>
    intro i s s' h
    simp only [pass] at h ⊢
    revert h
    split
    · exact id
    · exact ih _ _ _
    · split
      · exact id
      · rename_i hp _
        have q : ∀ s', (match evQ P (dV l ms tm s.vs i) (addRows hp.rows base (Ev.seen ms s.es i) s.nw) o with
            | some v => nfK v fun v => pass P c l ms tm base rest (i + 1) ⟨s.vs ++ [v], s.hs, s.es, s.nw⟩ | none => none) = some s' →
            (match evQ P (dV l ms tm s.vs i) (addRows hp.rows base (Ev.seen ms s.es i) s.nw) o with
            | some v => nfK v fun v => pass P c' l ms tm base rest (i + 1) ⟨s.vs ++ [v], s.hs, s.es, s.nw⟩ | none => none) = some s' := by
          intro s'
          split
          · rw [nfK_eq, nfK_eq]; exact ih _ _ _
          · exact id
        have e : ∀ s', (bif s.es.all fun j => Nat.testBit (mk ms i) j then
              match passE c (evE P (dV l ms tm s.vs i) ⟨addRows hp.rows base (Ev.seen ms s.es i) s.nw, hp.next⟩ o) with
              | some (v, h') => nfHp h' fun h' => nfK v fun v => pass P c l ms tm base rest (i + 1) ⟨s.vs ++ [v], s.hs ++ [h'], s.es ++ [i], s.nw⟩
              | none => none
            else none) = some s' → (bif s.es.all fun j => Nat.testBit (mk ms i) j then
              match passE c' (evE P (dV l ms tm s.vs i) ⟨addRows hp.rows base (Ev.seen ms s.es i) s.nw, hp.next⟩ o) with
              | some (v, h') => nfHp h' fun h' => nfK v fun v => pass P c' l ms tm base rest (i + 1) ⟨s.vs ++ [v], s.hs ++ [h'], s.es ++ [i], s.nw⟩
              | none => none
            else none) = some s' := by
          intro s' h
          cases ha : s.es.all fun j => Nat.testBit (mk ms i) j with
          | false => rw [ha] at h; simp at h
          | true =>
            rw [ha] at h
            simp only [cond_true] at h ⊢
            split at h
            · rename_i v h' hp'
              rw [passE_mono hc hp']
              simp only [nfHp_eq, nfK_eq] at h ⊢
              exact ih _ _ _ h
            · simp at h
        cases hk : kind o with
        | quiet => exact q s'
        | act => exact e s'
        | new =>
          simp only
          split
          · exact ih _ _ _
          · exact id
        | conv =>
          simp only
          split
          · rename_i v hv
            have := q s'
            rw [hv] at this
            exact this
          · exact e s'

theorem evDraw_mono {c c' : CallF} (hc : CLe c c') {ops : Array Oper} {fr : Fr} {h : Hp} {x : Fr × Hp} (he : evDraw P c ops fr h = some x) : evDraw P c' ops fr h = some x := by
  unfold evDraw at he ⊢
  cases hb : (edgesBack ops.toList 0 && dstsOnce ops.toList ops.toList 0 && Nat.ble (h.next + ops.toList.length) Tr.top) with
  | false => rw [hb] at he; simp at he
  | true =>
    rw [hb] at he
    simp only [cond_true] at he ⊢
    split at he
    · rename_i s hs; rw [pass_mono hc _ _ _ _ _ _ _ _ hs]; exact he
    · simp at he

theorem leaves_mono {r r' : Rec} (hr : RecLe r r') (fn : Func) (tm : Tr Value) : ∀ (ds : List Deferred) (m : FrameMode) (h : Hp) (x : Ev.End × Hp), leaves P r fn tm ds m h = some x → leaves P r' fn tm ds m h = some x := by
  intro ds
  induction ds with
  | nil => intro m h x he; cases m <;> exact he
  | cons d ds ih =>
    intro m h x he
    simp only [leaves] at he ⊢
    revert he
    split
    · exact id
    · rename_i u _ f cap _ _
      cases hok : okFn P f with
      | false => simp
      | true =>
        simp only [cond_true]
        cases hfn : P.funcs[f]? with
        | none => exact id
        | some fn' =>
          simp only
          cases hcb : fn'.body with
          | none => exact id
          | some c =>
            simp only
            cases hb : (Nat.ble (d.args.toList ++ cap.toList).length fn'.ntmps && Nat.ble fn'.ntmps 1000000) with
            | false => simp
            | true =>
              simp only [cond_true]
              intro he
              split at he
              · rename_i hx; rw [hr _ _ _ _ _ _ hx]; simp only at he ⊢; revert he; split <;> first | exact ih _ _ _ | exact id
              · rename_i hx; rw [hr _ _ _ _ _ _ hx]; simp only at he ⊢; revert he; split <;> first | exact ih _ _ _ | exact id
              · rename_i hx; rw [hr _ _ _ _ _ _ hx]; simp only; exact ih _ _ _ he
              · simp at he
    · exact id

theorem callF_mono {r r' : Rec} (hr : RecLe r r') : CLe (callF P r) (callF P r') := by
  intro f a h x he
  unfold callF at he ⊢
  revert he
  split
  · rename_i fn _
    split
    · rename_i c _
      cases hb : (Nat.ble a.length fn.ntmps && Nat.ble fn.ntmps 1000000) with
      | false => simp
      | true =>
        simp only [cond_true]
        intro he
        split at he
        · rename_i hx; rw [hr _ _ _ _ _ _ hx]; exact leaves_mono hr _ _ _ _ _ _ he
        · rename_i hx; rw [hr _ _ _ _ _ _ hx]; exact leaves_mono hr _ _ _ _ _ _ he
        · rename_i hx; rw [hr _ _ _ _ _ _ hx]; exact leaves_mono hr _ _ _ _ _ _ he
        · simp at he
    · exact id
  · exact id

theorem callO_mono (o : CallF) {r r' : Rec} (hr : RecLe r r') : CLe (callO P o r) (callO P o r') := by
  intro f a h x he
  unfold callO at he ⊢
  split at he
  · exact he
  · exact callF_mono hr _ _ _ _ he

theorem round_mono {r r' : Rec} (hr : RecLe r r') {c : Code} {fr : Fr} {u : Option FrameMode} {h : Hp} {x : Out4} (he : round r c fr u h = some x) : round r' c fr u h = some x := by
  unfold round at he ⊢
  cases h1 : r false c fr u h with
  | none => rw [h1] at he; simp at he
  | some y =>
    rw [h1] at he
    rw [hr _ _ _ _ _ _ h1]
    obtain ⟨e, fr', u', h'⟩ := y
    cases e <;> first | exact he | exact hr _ _ _ _ _ _ he

theorem evStep_mono (o : CallF) {r r' : Rec} (hr : RecLe r r') : RecLe (evStep P o r) (evStep P o r') := by
  intro it c fr u h x he
  cases it with
  | true => exact round_mono hr he
  | false =>
    cases c with
    | skip => exact he
    | ret => exact he
    | exit => exact he
    | loop c => exact round_mono hr he
    | seq a b =>
      simp only [evStep] at he ⊢
      cases h1 : r false a fr u h with
      | none => rw [h1] at he; simp at he
      | some y =>
        rw [h1] at he
        rw [hr _ _ _ _ _ _ h1]
        obtain ⟨e, fr', u', h'⟩ := y
        cases e <;> first | exact he | exact hr _ _ _ _ _ _ he
    | cond c a b =>
      simp only [evStep] at he ⊢
      revert he
      split
      · exact hr _ _ _ _ _ _
      · exact hr _ _ _ _ _ _
      · exact id
    | block id c =>
      simp only [evStep] at he ⊢
      cases h1 : r false c fr u h with
      | none => rw [h1] at he; simp at he
      | some y => rw [h1] at he; rw [hr _ _ _ _ _ _ h1]; exact he
    | region id ops d =>
      cases d with
      | false => exact evSeq_mono (callO_mono o hr) _ _ _ _ _ _ he
      | true =>
        simp only [evStep] at he ⊢
        split at he
        · rename_i fr' h' hd; rw [evDraw_mono (callO_mono o hr) hd]; exact he
        · simp at he
    | _ => exact he

theorem ev_succ (o : CallF) : ∀ n, RecLe (ev P o n) (ev P o (n + 1)) := by
  intro n
  induction n with
  | zero => intro it c fr u h x he; simp [ev] at he
  | succ n ih => exact evStep_mono o ih

theorem ev_le (o : CallF) {n m : Nat} (h : n ≤ m) : RecLe (ev P o n) (ev P o m) := by
  induction h with
  | refl => exact fun _ _ _ _ _ _ h => h
  | step _ ih => exact fun it c fr u h x he => ev_succ o _ _ _ _ _ _ _ (ih _ _ _ _ _ _ he)
end
end Go.Sy
