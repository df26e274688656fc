import PyProof.Rows.All
import Wide.All
import OpenK.AllK
import Wide.FinOn
import PyProof.EqAt
import PyProof.EqKinds
import PyProof.TupleCall
import KE.BitLaws
import Open.SpecLaws
import KE.OsHead
import KE.OsGo
import PySem.Challenge.RW_tyrepresses_s01_answers
set_option Elab.async false
set_option linter.all false
set_option maxRecDepth 100000
set_option maxHeartbeats 0
namespace Ty
section
open PySem PySem.W PyProof.Rows
/-! ### the top run over a tree of objects, whole -/
def topT (tb : String → Option Builtin) (p : Program) (w : World) (n0 : Nat) (ann : Option Value) : Nat → SharedT → Thread → Option SharedT
  | 0, _, _ => none
  | n + 1, s, t => match through t with
    | true => some s
    | false => match stepOk n0 ann t with
      | false => none
      | true => match stepT (denote tb) p w s t with
        | some r => topT tb p w n0 ann n r.1 r.2
        | none => none
theorem topT_of {tb : String → Option Builtin} {p : Program} {w : World} {n0 : Nat} {ann : Option Value} : ∀ {n : Nat} {s r : SharedT} {t : Thread}, topT tb p w n0 ann n s t = some r → topRun tb p w n0 ann n s.abs t = some r.abs
  | 0, _, _, _, h => by cases h
  | n + 1, s, r, t, h => by
    unfold topT at h
    unfold topRun
    cases ht : through t with
    | true => rw [ht] at h; cases h; rfl
    | false =>
      rw [ht] at h
      dsimp only at h ⊢
      cases hk : stepOk n0 ann t with
      | false => rw [hk] at h; cases h
      | true =>
        rw [hk] at h
        dsimp only at h ⊢
        cases hs : stepT (denote tb) p w s t with
        | none => rw [hs] at h; cases h
        | some q =>
          obtain ⟨s2, t2⟩ := q
          rw [hs] at h
          rw [stepT_spec hs]
          exact topT_of h
def toT : List Obj → Nat → BT → Option BT
  | [], _, t => some t
  | o :: l, n, t => match ((t.ins n o).get n).isSome with
    | true => toT l (n + 1) (t.ins n o)
    | false => none
theorem toT_of {life : Life} : ∀ {l : List Obj} {n : Nat} {t r : BT}, toT l n t = some r → absHeap r (n + l.length) life = ⟨(absHeap t n life).objs ++ l.toArray, life⟩
  | [], n, t, r, h => by cases h; simp [absHeap]
  | o :: l, n, t, r, h => by
    unfold toT at h
    cases hg : ((t.ins n o).get n).isSome with
    | false => rw [hg] at h; cases h
    | true =>
      rw [hg] at h
      have ih := toT_of (life := life) h
      rw [absHeap_ins hg] at ih
      rw [List.length_cons, show n + (l.length + 1) = n + 1 + l.length by omega, ih]
      congr 1
      simp [Heap.push]
def topTree (p : Program) (w : World) (N : Nat) (s0 : Shared) : Option SharedT := match s0.heap.isNs mainGlobals && s0.gens.size == 0 with
  | true => (toT s0.heap.objs.toList 0 .nil).bind fun T0 => topT treeTable p w s0.heap.objs.size (s0.heap.nsMap mainGlobals "__annotations__") N ⟨T0, s0.heap.objs.size, s0.heap.life, s0.gens, s0.drawn, s0.toks, s0.os⟩ (topStub p)
  | false => none
/-- the opening's end, and the top's -/
def runT (p : Program) (w : World) (N : Nat) : Option (Shared × SharedT) := (fencedOpening treeTable p w N).bind fun s0 => (topTree p w N s0).map fun r => (s0, r)
theorem absHeap_nil (life : Life) : absHeap .nil 0 life = ⟨#[], life⟩ := rfl
theorem topTree_of {p : Program} {w : World} {N : Nat} {s0 : Shared} {r : SharedT} (h : topTree p w N s0 = some r) (hs : (staticsOk (importedModules p.main.body) s0.heap r.abs.heap && namesBound p r.abs.heap && gensDone r.abs && laidKept s0.heap r.abs.heap) = true) : topFrom treeTable p w N s0 = some r.abs := by
  unfold topTree at h
  unfold topFrom
  cases hc : (s0.heap.isNs mainGlobals && s0.gens.size == 0) with
  | false => rw [hc] at h; cases h
  | true =>
    rw [hc] at h
    dsimp only at h ⊢
    cases hT : toT s0.heap.objs.toList 0 .nil with
    | none => rw [hT] at h; cases h
    | some T0 =>
      rw [hT] at h
      have e := toT_of (life := s0.heap.life) hT
      rw [absHeap_nil, Nat.zero_add, Array.length_toList] at e
      have e2 : absHeap T0 s0.heap.objs.size s0.heap.life = s0.heap := by
        rw [e]
        simp
      have h2 := topT_of (s := ⟨T0, s0.heap.objs.size, s0.heap.life, s0.gens, s0.drawn, s0.toks, s0.os⟩) h
      have e3 : SharedT.abs ⟨T0, s0.heap.objs.size, s0.heap.life, s0.gens, s0.drawn, s0.toks, s0.os⟩ = s0 := by
        unfold SharedT.abs
        rw [e2]
      rw [e3] at h2
      rw [h2]
      show (match (staticsOk (importedModules p.main.body) s0.heap r.abs.heap && namesBound p r.abs.heap && gensDone r.abs && laidKept s0.heap r.abs.heap) with | true => _ | false => _) = _
      rw [hs]
/-- from the run over the tree to the head's own equation -/
theorem runT_open {p : Program} {w : World} {N : Nat} {x : Shared × SharedT} (h : runT p w N = some x) (hs : (staticsOk (importedModules p.main.body) x.1.heap x.2.abs.heap && namesBound p x.2.abs.heap && gensDone x.2.abs && laidKept x.1.heap x.2.abs.heap) = true) : openEnds treeTable p w N = some x.2.abs := by
  unfold runT at h
  unfold openEnds
  cases ho : fencedOpening treeTable p w N with
  | none => rw [ho] at h; cases h
  | some s0 =>
    rw [ho] at h
    change (topTree p w N s0).map (fun r => (s0, r)) = some x at h
    show topFrom treeTable p w N s0 = _
    cases ht : topTree p w N s0 with
    | none => rw [ht] at h; cases h
    | some r =>
      rw [ht] at h
      cases h
      exact topTree_of ht hs
/-- the program without the rows that set __name__ -/
def keepS : Stmt → Bool
  | .Assign [.Name n _] _ _ => !(n == ("__name__" : Str))
  | _ => true
abbrev pwP : Program := PySem.Challenge.pw_tyrepresses_s01_answers
def viewP : Program := { pwP with main := { pwP.main with body := pwP.main.body.filter keepS } }
def modsP : List Str := importedModules pwP.main.body
def sawP (x : Shared × SharedT) := openSeen viewP [] modsP (fun s => xlAt viewP [] s && recOk [] s) true x.2.abs
def keptP (x : Shared × SharedT) : Bool := staticsOk modsP x.1.heap x.2.abs.heap && namesBound pwP x.2.abs.heap && gensDone x.2.abs && laidKept x.1.heap x.2.abs.heap
def ranP (w : World) : Option (Shared × SharedT) := runT pwP w 6752
theorem twinsMade : ((fun (_ : World → Option (Shared × SharedT)) (_ : Shared × SharedT → Bool) (_ : Program → List Str → List Str → (Shared → Bool) → Bool → Shared → Unit) => decide (viewP.main.body.length = 91)) ranP keptP (fun q l m X g s => (fun _ => ()) (openSeen q l m X g s, expectedOf q, bltViewBooted, pinGoodD (drecsOf q), plainGoodE q (looseW q l), plainGoodD q l, wideGood q, clsGoodW q l, xlAt q [] s, recOk [] s, sawP, modsP))) = true := by
  k_qdec
end
section
open PySem PySem.W PyProof.Rows PySem.Calls
theorem sawA (w : World) : (ranP w).map (fun x => ((sawP x).1, (sawP x).2.2.2.1)) = some (expectedOf viewP, true) := by
  rw [PySem.W.Fast.te11332916368411764009, PySem.W.Fast.te3147668998694821925, PySem.W.Fast.te2630408818280045978]
  kernel_rfl
theorem sawB (w : World) : (ranP w).map (fun x => ((sawP x).2.2.1, (sawP x).2.1, (sawP x).2.2.2.2.1)) = some (true, bltViewBooted, pinGoodD (drecsOf viewP)) := by
  rw [PySem.W.Fast.te11332916368411764009, PySem.W.Fast.te3147668998694821925, PySem.W.Fast.te3247288618530077131, PySem.W.Fast.te2630408818280045978]
  kernel_rfl
theorem sawC (w : World) : (ranP w).map (fun x => ((sawP x).2.2.2.2.2.1, (sawP x).2.2.2.2.2.2.2.1)) = some (plainGoodE viewP (looseW viewP []), wideGood viewP) := by
  rw [PySem.W.Fast.te11332916368411764009, PySem.W.Fast.te3147668998694821925, PySem.W.Fast.te821141287760084731, PySem.W.Fast.te2630408818280045978]
  kernel_rfl
theorem sawD (w : World) : (ranP w).map (fun x => ((sawP x).2.2.2.2.2.2.1, (sawP x).2.2.2.2.2.2.2.2, keptP x)) = some (plainGoodD viewP [], clsGoodW viewP [], true) := by
  rw [PySem.W.Fast.te11332916368411764009, PySem.W.Fast.te3147668998694821925, PySem.W.Fast.te1638680447370218404, PySem.W.Fast.te2630408818280045978]
  kernel_rfl
end
end Ty
set_option Elab.async false
set_option linter.all false
set_option maxRecDepth 100000
namespace L2
open PySem PySem.Spec PyProof.Rows
/-- a key: an int or a str -/
abbrev Key := Sum Int Str
def keyIs : Key → Value → Bool
  | .inl k, v => Value.isInt k v
  | .inr x, v => Value.isStrOf x v
def keyH (w : World) : Key → Int
  | .inl k => hashInt k
  | .inr x => hashStr w x
theorem keyIs_shape : ∀ {k : Key} {v : Value}, keyIs k v = true → (∃ i t, k = Sum.inl i ∧ v = Value.int i t) ∨ (∃ x t, k = Sum.inr x ∧ v = Value.str x t)
  | .inl i, v, h => by
    obtain ⟨t, e⟩ := Value.isInt_shape (k := i) (v := v) h
    exact .inl ⟨i, t, rfl, e⟩
  | .inr x, v, h => by
    obtain ⟨t, e⟩ := Value.isStrOf_shape (x := x) (v := v) h
    exact .inr ⟨x, t, rfl, e⟩
theorem key_ll (a b : Int) : decide ((Sum.inl a : Key) = Sum.inl b) = (a == b) := by
  by_cases e : a = b
  · subst e; simp
  · have h : ¬ (Sum.inl a : Key) = Sum.inl b := fun q => e (Sum.inl.inj q)
    rw [decide_eq_false h]
    exact (beq_eq_false_iff_ne.mpr e).symm
theorem key_rr (a b : Str) : decide ((Sum.inr a : Key) = Sum.inr b) = decide (a = b) := by
  by_cases e : a = b
  · subst e; simp
  · have h : ¬ (Sum.inr a : Key) = Sum.inr b := fun q => e (Sum.inr.inj q)
    rw [decide_eq_false h, decide_eq_false e]
theorem key_lr (a : Int) (b : Str) : decide ((Sum.inl a : Key) = Sum.inr b) = false := decide_eq_false (fun q => nomatch q)
theorem key_rl (a : Str) (b : Int) : decide ((Sum.inr a : Key) = Sum.inl b) = false := decide_eq_false (fun q => nomatch q)
def mixKind (prog : Program) (w : World) : PySem.KeyKind prog w Key where
  is := keyIs
  hash := keyH w
  inj := fun v a b ha hb => by
    rcases keyIs_shape ha with ⟨i, t, rfl, rfl⟩ | ⟨x, t, rfl, rfl⟩
    · rcases keyIs_shape hb with ⟨j, u, rfl, e⟩ | ⟨y, u, rfl, e⟩
      · injection e with e1 _; rw [e1]
      · exact nomatch e
    · rcases keyIs_shape hb with ⟨j, u, rfl, e⟩ | ⟨y, u, rfl, e⟩
      · exact nomatch e
      · injection e with e1 _; rw [e1]
  byValue := fun k v h => by
    rcases keyIs_shape h with ⟨i, t, rfl, rfl⟩ | ⟨x, t, rfl, rfl⟩ <;> rfl
  pyHash := fun hv h => by
    rcases keyIs_shape hv with ⟨i, t, rfl, rfl⟩ | ⟨x, t, rfl, rfl⟩
    · exact wpAny_pyHash_int h
    · exact wpAny_pyHash_str h
  eqBool := fun hu hv h => by
    rcases keyIs_shape hu with ⟨i, t, rfl, rfl⟩ | ⟨x, t, rfl, rfl⟩
    · rcases keyIs_shape hv with ⟨j, u, rfl, rfl⟩ | ⟨y, u, rfl, rfl⟩
      · rw [key_ll] at h; exact wpAny_eqBool_int h
      · rw [key_lr] at h; exact SeqAt.EqAt.int_str i t y u _ _ _ _ h
    · rcases keyIs_shape hv with ⟨j, u, rfl, rfl⟩ | ⟨y, u, rfl, rfl⟩
      · rw [key_rl] at h; exact SeqAt.EqAt.str_int x t j u _ _ _ _ h
      · rw [key_rr] at h; exact wpAny_eqBool_str h
  «strs» := fun k x t v h => by
    rcases keyIs_shape h with ⟨i, u, rfl, e⟩ | ⟨y, u, rfl, e⟩
    · exact nomatch e
    · injection e with e1 _
      subst e1
      cases v <;> rfl
end L2
namespace L2
open PySem PySem.Spec PyProof.Rows
/-- a value, without the heap -/
inductive V where
  | non | bl (b : Bool) | int (i : Int) | str (x : Str) | byt (b : Array UInt8) | flt (b : UInt64) | ref (a : Addr) | ty (n : String)
  deriving DecidableEq
def RelV : V → Value → Prop
  | .non, u => u = Value.none
  | .bl b, u => u = Value.bool b
  | .int i, u => ∃ t, u = Value.int i t
  | .str x, u => ∃ t, u = Value.str x t
  | .byt b, u => ∃ t, u = Value.bytes b t
  | .flt b, u => ∃ t, u = Value.float b t
  | .ref a, u => u = Value.ref a
  | .ty n, u => u = Value.type n
abbrev Vals : List V → List Value → Prop := Paired RelV
theorem Vals.length {xs : List V} {us : List Value} (r : Vals xs us) : xs.length = us.length := Paired.length r
theorem Vals.get : ∀ {xs : List V} {us : List Value} {i : Nat} {x : V}, Vals xs us → xs[i]? = some x → ∃ u, us[i]? = some u ∧ RelV x u
  | _, _, _, _, .nil, e => by simp at e
  | _, _, 0, _, .cons r _, e => by simp at e; subst e; exact ⟨_, rfl, r⟩
  | _, _, i + 1, x, .cons _ t, e => by
    obtain ⟨u, h1, h2⟩ := Vals.get (i := i) (x := x) t (by simpa using e)
    exact ⟨u, by simpa using h1, h2⟩
theorem Vals.set {x : V} {u : Value} (r : RelV x u) : ∀ {xs : List V} {us : List Value} (i : Nat), Vals xs us → Vals (xs.set i x) (us.set i u)
  | _, _, _, .nil => .nil
  | _, _, 0, .cons _ t => .cons r t
  | _, _, i + 1, .cons q t => .cons q (Vals.set r i t)
theorem Vals.append : ∀ {xs ys : List V} {us ws : List Value}, Vals xs us → Vals ys ws → Vals (xs ++ ys) (us ++ ws)
  | _, _, _, _, .nil, s => s
  | _, _, _, _, .cons r t, s => .cons r (Vals.append t s)
theorem Vals.take : ∀ {xs : List V} {us : List Value} (n : Nat), Vals xs us → Vals (xs.take n) (us.take n)
  | _, _, 0, _ => .nil
  | _, _, _ + 1, .nil => .nil
  | _, _, n + 1, .cons r t => .cons r (Vals.take n t)
theorem Vals.drop : ∀ {xs : List V} {us : List Value} (n : Nat), Vals xs us → Vals (xs.drop n) (us.drop n)
  | _, _, 0, r => r
  | _, _, _ + 1, .nil => .nil
  | _, _, n + 1, .cons _ t => Vals.drop n t
theorem Vals.none_of : ∀ {xs : List V} {us : List Value} {i : Nat}, Vals xs us → xs[i]? = none → us[i]? = none := fun {xs us i} r e => by
  have h1 := r.length
  have h2 : xs.length ≤ i := List.getElem?_eq_none_iff.mp e
  exact List.getElem?_eq_none_iff.mpr (by omega)
def RelO : Option V → Option Value → Prop
  | some v, some u => RelV v u
  | none, none => True
  | _, _ => False
def KV {κ : Type} : List (κ × V) → List (κ × Value) → Prop := Paired fun (p : κ × V) (q : κ × Value) => p.1 = q.1 ∧ RelV p.2 q.2
/-- a key of a dict (00_mix): an int or a text -/
def kV : Key → V
  | .inl i => .int i
  | .inr x => .str x
/-- what stands at a tracked address -/
inductive HO where
  /-- a list -/
  | lst (xs : List V)
  /-- a tuple (never changes) -/
  | tup (xs : List V)
  /-- a dict whose keys are ints and texts; one whose keys are tuples of ints and texts (the empty one is both) -/
  | dK (kvs : List (Key × V)) | dT (kvs : List (List Key × V))
  /-- a set of ints: its members, its size -/
  | set (S : Int → Bool) (n : Nat)
  /-- an instance of the class at C, its dict at dx, its attributes -/
  | ins (C dx : Addr) (fs : List (Str × V))
  /-- the dict of the instance at x -/
  | own (x : Addr)
  /-- the dict of an exception -/
  | xd (fs : List (Str × V))
  /-- a bound method, f of x -/
  | met (f x : Addr)
  /-- a range object lo, lo + 1, .. below hi -/
  | rng (lo hi : Int)
  /-- a thing that is known to the object (the script; a dict while a loop walks it): read, never written while it is so -/
  | frz (o : Obj) (u : HO)
  /-- a code object's table -/
  | tbl (ps : Array Value)
  /-- any other thing, by what is true of its one object (a def of one's own: SetO a S n := HO.ext fun h => ..) -/
  | ext (φ : Heap → Prop)
abbrev Hp := Addr → Option HO
def upd (H : Hp) (a : Addr) (o : HO) : Hp := fun b => if b = a then some o else H b
theorem upd_same {H : Hp} {a : Addr} {o : HO} : upd H a o a = some o := by unfold upd; rw [if_pos rfl]
theorem upd_ne {H : Hp} {a b : Addr} {o : HO} (h : b ≠ a) : upd H a o b = H b := by unfold upd; rw [if_neg h]
theorem upd_upd {H : Hp} {a : Addr} {o u : HO} : upd (upd H a o) a u = upd H a u := by
  funext b; unfold upd; split <;> rfl
/-- two objects of different content stand apart -/
theorem ne_of {H : Hp} {a b : Addr} {o u : HO} (h : H a = some o) (h' : H b = some u) (d : o ≠ u) : a ≠ b := by
  intro e; subst e; rw [h] at h'; exact d (Option.some.inj h')
theorem ne_of_none {H : Hp} {a b : Addr} {o : HO} (h : H a = some o) (h' : H b = none) : a ≠ b := by
  intro e; subst e; rw [h] at h'; cases h'
section
variable (P : Program) (w : World)
def ObjOk (H : Hp) (h : Heap) (a : Addr) : HO → Prop
  | .lst xs => xs.length ≤ sizeLine ∧ ∃ (its : List Value) (n : Nat), Vals xs its ∧ h.get? a = some { cls := .type "list", data := .seq its.toArray n }
  | .tup xs => xs.length ≤ sizeLine ∧ ∃ its : List Value, Vals xs its ∧ IsTup h a its.toArray
  | .dK kvs => kvs.length ≤ sizeLine ∧ (a == sysModules) = false ∧ ∃ vs, KV kvs vs ∧ h.DictOf (mixKind P w) a vs
  | .dT kvs => kvs.length ≤ sizeLine ∧ (a == sysModules) = false ∧ ∃ xs : List (List Key × Addr × Value),
      Paired (fun (p : List Key × V) (q : List Key × Addr × Value) => p.1 = q.1 ∧ H q.2.1 = some (.tup (p.1.map kV)) ∧ RelV p.2 q.2.2) kvs xs ∧
      ∃ o es ep, h.get? a = some o ∧ o.ExactDict ∧ o.data = .dict es ep ∧ es.toList = xs.map (entryOfKey (tupleKind (mixKind P w))) ∧ (xs.map (·.1)).Nodup
  | .set S n => h.SetOf (intKind P w) a S n
  | .ins C dx fs => H dx = some (.own a) ∧ fs.length ≤ 1000 ∧ dx ≠ a ∧ h.get? a = some (PySem.W.instObj C dx) ∧
      ∃ mA, h.Ns1 dx mA ∧ (∀ f, RelO (fs.lookup f) (mA f)) ∧ PySem.Within mA (fs.map (·.1))
  | .own _ => ∃ o, h.get? a = some o
  | .xd fs => ∃ mA, h.Ns1 a mA ∧ ∀ f, RelO (fs.lookup f) (mA f)
  | .rng lo hi => ∃ t u v, h.get? a = some { cls := .type "range", data := .fields #[.int lo t, .int hi u, .int 1 v] }
  | .frz o u => h.get? a = some o ∧ ObjOk H h a u
  | .tbl ps => h.get? a = some { cls := .none, data := .fields ps }
  | .met f x => h.get? a = some (PySem.W.methodObj (.ref f) (.ref x))
  | .ext φ => φ h ∧ (∃ o, h.get? a = some o) ∧ ∀ h1 h2 : Heap, φ h1 → (∀ o, h1.get? a = some o → h2.get? a = some o) → φ h2
/-- the abstract heap is held -/
def HOk (H : Hp) (h : Heap) : Prop := ∀ a o, H a = some o → ObjOk P w H h a o
end
section
variable {P : Program} {w : World} {H H' : Hp} {h h' : Heap} {a : Addr} {o : HO}
theorem ObjOk.lt (x : ObjOk P w H h a o) : a < h.objs.size := by
  cases o with
  | lst xs => obtain ⟨_, _, _, _, e⟩ := x; exact Heap.lt_size e
  | tup xs => obtain ⟨_, _, _, p⟩ := x; exact p.lt
  | dK kvs => obtain ⟨_, _, _, _, o, _, _, e, _⟩ := x; exact Heap.lt_size e
  | dT kvs => obtain ⟨_, _, _, _, o, _, _, e, _⟩ := x; exact Heap.lt_size e
  | set S n => obtain ⟨o, _, _, _, e, _⟩ := x; exact Heap.lt_size e
  | ins C dx fs => obtain ⟨_, _, _, e, _⟩ := x; exact Heap.lt_size e
  | own y => obtain ⟨_, e⟩ := x; exact Heap.lt_size e
  | xd fs => obtain ⟨_, ⟨_, _, _, e, _⟩, _⟩ := x; exact Heap.lt_size e
  | rng lo hi => obtain ⟨_, _, _, e⟩ := x; exact Heap.lt_size e
  | frz ob u => obtain ⟨e, _⟩ := x; exact Heap.lt_size e
  | tbl ps => exact Heap.lt_size (show h.get? a = some _ from x)
  | met f y => exact Heap.lt_size (show h.get? a = some _ from x)
  | ext φ => obtain ⟨_, ⟨_, e⟩, _⟩ := x; exact Heap.lt_size e
theorem Paired.mapP {α β : Type} {F G : α → β → Prop} : ∀ {l₁ : List α} {l₂ : List β}, Paired F l₁ l₂ → (∀ a b, F a b → G a b) → Paired G l₁ l₂
  | _, _, .nil, _ => .nil
  | _, _, .cons r t, f => .cons (f _ _ r) (Paired.mapP t f)
/-- what an object's description leans on: its own object, its own dict, the tuples -/
theorem ObjOk.stay (x : ObjOk P w H h a o) (k : ∀ b u, (b = a ∨ H b = some (.own a)) → h.get? b = some u → h'.get? b = some u)
    (ho : ∀ b, H b = some (.own a) → H' b = some (.own a)) (ht : ∀ b xs, H b = some (.tup xs) → H' b = some (.tup xs)) : ObjOk P w H' h' a o := by
  induction o with
  | lst xs => obtain ⟨z, its, n, r, e⟩ := x; exact ⟨z, its, n, r, k _ _ (.inl rfl) e⟩
  | tup xs => obtain ⟨z, its, r, ob, e, c⟩ := x; exact ⟨z, its, r, ob, k _ _ (.inl rfl) e, c⟩
  | dK kvs => obtain ⟨z, y, vs, r, ob, es, ep, e, c⟩ := x; exact ⟨z, y, vs, r, ob, es, ep, k _ _ (.inl rfl) e, c⟩
  | dT kvs =>
    obtain ⟨z, y, xs, r, ob, es, ep, e, c⟩ := x
    exact ⟨z, y, xs, Paired.mapP r fun p q z => ⟨z.1, ht _ _ z.2.1, z.2.2⟩, ob, es, ep, k _ _ (.inl rfl) e, c⟩
  | set S n => obtain ⟨ob, es, ep, t, e, c⟩ := x; exact ⟨ob, es, ep, t, k _ _ (.inl rfl) e, c⟩
  | ins C dx fs =>
    obtain ⟨d, z, ne, e, mA, ⟨od, es, ep, e2, c⟩, r⟩ := x
    exact ⟨ho _ d, z, ne, k _ _ (.inl rfl) e, mA, ⟨od, es, ep, k _ _ (.inr d) e2, c⟩, r⟩
  | own y => obtain ⟨ob, e⟩ := x; exact ⟨ob, k _ _ (.inl rfl) e⟩
  | xd fs => obtain ⟨mA, ⟨od, es, ep, e, c⟩, r⟩ := x; exact ⟨mA, ⟨od, es, ep, k _ _ (.inl rfl) e, c⟩, r⟩
  | rng lo hi => obtain ⟨t, u, v, e⟩ := x; exact ⟨t, u, v, k _ _ (.inl rfl) e⟩
  | frz ob u ih => obtain ⟨e, q⟩ := x; exact ⟨k _ _ (.inl rfl) e, ih q⟩
  | tbl ps =>
    have e : h.get? a = some { cls := .none, data := .fields ps } := x
    show h'.get? a = some { cls := .none, data := .fields ps }
    exact k a _ (.inl rfl) e
  | met f y =>
    have e : h.get? a = some (PySem.W.methodObj (.ref f) (.ref y)) := x
    show h'.get? a = some (PySem.W.methodObj (.ref f) (.ref y))
    exact k a _ (.inl rfl) e
  | ext φ => obtain ⟨p, ⟨o, e⟩, st⟩ := x; exact ⟨st _ _ p fun o q => k _ _ (.inl rfl) q, ⟨o, k _ _ (.inl rfl) e⟩, st⟩
theorem HOk.lt (x : HOk P w H h) (e : H a = some o) : a < h.objs.size := (x a o e).lt
theorem HOk.fresh (x : HOk P w H h) (e : h.objs.size ≤ a) : H a = none := by
  cases q : H a with
  | none => rfl
  | some u => exact absurd (Nat.lt_of_lt_of_le (x.lt q) e) (Nat.lt_irrefl _)
/-- every object of the heap is kept -/
theorem HOk.kept (x : HOk P w H h) (k : ∀ b u, h.get? b = some u → h'.get? b = some u) : HOk P w H h' := fun a o e =>
  (x a o e).stay (fun b u _ q => k b u q) (fun _ q => q) fun _ _ q => q
/-- a new object is laid and tracked -/
theorem HOk.laid (x : HOk P w H h) (k : ∀ b u, h.get? b = some u → h'.get? b = some u) (hp : h.objs.size ≤ a) (new : ObjOk P w (upd H a o) h' a o) : HOk P w (upd H a o) h' := fun b u e => by
  have hn := x.fresh hp
  by_cases hb : b = a
  · subst hb; rw [upd_same] at e; cases e; exact new
  · rw [upd_ne hb] at e
    exact (x b u e).stay (fun c v _ q => k c v q) (fun c q => by rw [upd_ne (ne_of_none q hn)]; exact q) fun c xs q => by rw [upd_ne (ne_of_none q hn)]; exact q
end
/-- what may be read as u: it is u, or a known u -/
def Rd (H : Hp) (a : Addr) (u : HO) : Prop := H a = some u ∨ ∃ o, H a = some (.frz o u)
theorem Rd.of {H : Hp} {a : Addr} {u : HO} (h : H a = some u) : Rd H a u := .inl h
theorem Rd.ok {P : Program} {w : World} {H : Hp} {h : Heap} {a : Addr} {u : HO} (r : Rd H a u) (x : HOk P w H h) : ObjOk P w H h a u := by
  rcases r with r | ⟨o, r⟩
  · exact x a u r
  · obtain ⟨_, q⟩ := x a _ r
    exact q
/-- what may be written -/
def Mut : Option HO → Prop
  | some (.lst _) => True
  | some (.dK _) => True
  | some (.dT _) => True
  | some (.set _ _) => True
  | some (.ins _ _ _) => True
  | some (.ext _) => True
  | _ => False
section
variable {P : Program} {w : World} {H : Hp} {h h' : Heap} {x e : Addr} {o' : HO}
/-- the object at e is changed: x itself, or the dict of the instance x -/
theorem HOk.write (ok : HOk P w H h) (mu : Mut (H x)) (he : e = x ∨ H e = some (.own x)) (k : ∀ b u, b ≠ e → h.get? b = some u → h'.get? b = some u) (heo : ∃ u, h'.get? e = some u)
    (new : ObjOk P w (upd H x o') h' x o') : HOk P w (upd H x o') h' := fun b u q => by
  have nown : ∀ c y, H c = some (.own y) → c ≠ x := fun c y r z => by subst z; rw [r] at mu; exact mu
  have ntup : ∀ c xs, H c = some (.tup xs) → c ≠ x := fun c xs r z => by subst z; rw [r] at mu; exact mu
  by_cases hb : b = x
  · subst hb; rw [upd_same] at q; cases q; exact new
  · rw [upd_ne hb] at q
    by_cases hbe : b = e
    · have q' : H b = some (.own x) := by
        rcases he with z | z
        · exact absurd (hbe.trans z) hb
        · rw [hbe]; exact z
      rw [q] at q'; cases q'
      obtain ⟨v, hv⟩ := heo
      exact ⟨v, by rw [hbe]; exact hv⟩
    · refine (ok b u q).stay (fun c v hc r => k c v ?_ r) (fun c r => by rw [upd_ne (nown c b r)]; exact r) fun c xs r => by rw [upd_ne (ntup c xs r)]; exact r
      rcases hc with rfl | hc
      · exact hbe
      · rintro rfl
        rcases he with z | z
        · exact nown c b hc z
        · rw [hc] at z; cases z; exact hb rfl
end
structure Un (fs ex : List Addr) (H H' : Hp) (h h' : Heap) : Prop where
  keep : ∀ b o, h.get? b = some o → H b = none → b ∉ fs → b ∉ ex → h'.get? b = some o
  slot : ∀ b o, h.get? b = some o → H b = none → b ∈ fs → b ∉ ex → ∃ sl, h'.get? b = some { o with slots := sl }
  free : ∀ b o, h.get? b = some o → H b = none → b ∉ ex → H' b = none
  there : ∀ b o, h.get? b = some o → b ∉ ex → ∃ o', h'.get? b = some o'
  tups : ∀ b xs, H b = some (.tup xs) → H' b = some (.tup xs)
  frzs : ∀ b o u, H b = some (.frz o u) → H' b = some (.frz o u)
  tbls : ∀ b ps, H b = some (.tbl ps) → ∃ more, H' b = some (.tbl (ps ++ more))
section
variable {fs fs' ex ex' : List Addr} {H H1 H2 : Hp} {h h1 h2 h' : Heap} {a x e : Addr} {o : HO}
theorem Un.any (u : Un fs ex H H1 h h1) {b : Addr} {ob : Obj} (q : h.get? b = some ob) (n : H b = none) (hx : b ∉ ex) : ∃ sl, h1.get? b = some { ob with slots := sl } := by
  by_cases hb : b ∈ fs
  · exact u.slot b ob q n hb hx
  · exact ⟨ob.slots, u.keep b ob q n hb hx⟩
theorem Un.trans (a : Un fs ex H H1 h h1) (b : Un fs ex H1 H2 h1 h2) : Un fs ex H H2 h h2 where
  keep := fun c ob q n hc hx => b.keep c ob (a.keep c ob q n hc hx) (a.free c ob q n hx) hc hx
  slot := fun c ob q n hc hx => by
    obtain ⟨sl, e1⟩ := a.slot c ob q n hc hx
    obtain ⟨sl', e2⟩ := b.slot c _ e1 (a.free c ob q n hx) hc hx
    exact ⟨sl', e2⟩
  free := fun c ob q n hx => by
    obtain ⟨o', e1⟩ := a.there c ob q hx
    exact b.free c o' e1 (a.free c ob q n hx) hx
  there := fun c ob q hx => by
    obtain ⟨o', e1⟩ := a.there c ob q hx
    exact b.there c o' e1 hx
  tups := fun c xs q => b.tups c xs (a.tups c xs q)
  frzs := fun c ob xs q => b.frzs c ob xs (a.frzs c ob xs q)
  tbls := fun c ps q => by
    obtain ⟨m1, e1⟩ := a.tbls c ps q
    obtain ⟨m2, e2⟩ := b.tbls c _ e1
    exact ⟨m1 ++ m2, by rw [e2, Array.append_assoc]⟩
theorem Un.kept (k : ∀ b u, h.get? b = some u → h'.get? b = some u) : Un fs ex H H h h' :=
  ⟨fun b ob q _ _ _ => k b ob q, fun b ob q _ _ _ => ⟨ob.slots, k b ob q⟩, fun _ _ _ n _ => n, fun b ob q _ => ⟨ob, k b ob q⟩, fun _ _ q => q, fun _ _ _ q => q, fun _ ps q => ⟨#[], by rw [q]; simp⟩⟩
theorem Un.refl : Un fs ex H H h h := Un.kept fun _ _ q => q
theorem Un.laid (k : ∀ b u, h.get? b = some u → h'.get? b = some u) (hp : h.objs.size ≤ a) (hn : H a = none) : Un fs ex H (upd H a o) h h' where
  keep := fun b u q _ _ _ => k b u q
  slot := fun b u q _ _ _ => ⟨u.slots, k b u q⟩
  free := fun b u q n _ => by rw [upd_ne (Nat.ne_of_lt (Nat.lt_of_lt_of_le (Heap.lt_size q) hp))]; exact n
  there := fun b u q _ => ⟨u, k b u q⟩
  tups := fun b xs q => by rw [upd_ne (ne_of_none q hn)]; exact q
  frzs := fun b u xs q => by rw [upd_ne (ne_of_none q hn)]; exact q
  tbls := fun b ps q => ⟨#[], by rw [upd_ne (ne_of_none q hn), q]; simp⟩
theorem Un.write (mu : Mut (H x)) (he : e = x ∨ H e = some (.own x)) (k : ∀ b u, b ≠ e → h.get? b = some u → h'.get? b = some u) (heo : ∃ u, h'.get? e = some u) : Un fs ex H (upd H x o) h h' := by
  have hx : ∀ b, H b = none → b ≠ x := fun b n z => by subst z; rw [n] at mu; exact mu
  have hb : ∀ b, H b = none → b ≠ e := fun b n z => by
    subst z
    rcases he with r | r
    · exact hx b n r
    · rw [n] at r; cases r
  have hm : ∀ b u, H b = some u → ¬ Mut (some u) → b ≠ x := fun b u q nm z => by subst z; rw [q] at mu; exact nm mu
  refine ⟨fun b u q n _ _ => k b u (hb b n) q, fun b u q n _ _ => ⟨u.slots, k b u (hb b n) q⟩, fun b u q n _ => by rw [upd_ne (hx b n)]; exact n, fun b u q _ => ?_,
    fun b xs q => by rw [upd_ne (hm b _ q fun z => z)]; exact q, fun b u xs q => by rw [upd_ne (hm b _ q fun z => z)]; exact q, fun b ps q => ⟨#[], by rw [upd_ne (hm b _ q fun z => z), q]; simp⟩⟩
  by_cases hbe : b = e
  · subst hbe; exact heo
  · exact ⟨u, k b u hbe q⟩
theorem Un.mono (u : Un fs ex H H1 h h1) (hs : ∀ b ∈ fs, b ∈ fs') (hx : ∀ b ∈ ex, b ∈ ex') : Un fs' ex' H H1 h h1 :=
  ⟨fun b ob q n hb he => u.keep b ob q n (fun z => hb (hs b z)) fun z => he (hx b z), fun _ _ q n _ he => u.any q n fun z => he (hx _ z), fun b ob q n he => u.free b ob q n fun z => he (hx b z), fun b ob q he => u.there b ob q fun z => he (hx b z), u.tups, u.frzs, u.tbls⟩
end
def trk (h : Heap) (H : Hp) : List Addr := (List.range h.objs.size).filter fun a => (H a).isSome
def hidT (h : Heap) (H : Hp) : Heap := PySem.W.hideAll h (trk h H)
theorem hidT_size (h : Heap) (H : Hp) : (hidT h H).objs.size = h.objs.size := PySem.W.hideAll_size _ _
theorem hidT_get {h : Heap} {H : Hp} {b : Addr} {o : Obj} (e : h.get? b = some o) (n : H b = none) : (hidT h H).get? b = some o :=
  PySem.W.hideAll_get _ e fun hm => by
    have q : (H b).isSome = true := (List.mem_filter.mp hm).2
    rw [n] at q; simp at q
theorem of_hidT {h : Heap} {H : Hp} {b : Addr} {o : Obj} (e : (hidT h H).get? b = some o) : h.get? b = some o ∧ H b = none := by
  have e' : h.get? b = some o := PySem.W.of_hideAll (trk h H) e
  refine ⟨e', ?_⟩
  cases q : H b with
  | none => rfl
  | some x =>
    have hm : b ∈ trk h H := List.mem_filter.mpr ⟨List.mem_range.mpr (Heap.lt_size e'), by simp [q]⟩
    have z : (hidT h H).get? b = none := PySem.W.hideAll_none (trk h H) hm
    rw [z] at e; cases e
def allNews (g h : Heap) (L : Addr) : List (Addr × Obj) := (List.range h.objs.size).filterMap fun a => if a = L ∨ (g.get? a).isSome = true then none else (h.get? a).map fun o => (a, o)
def rest (g h : Heap) (L d : Addr) : List (Addr × Obj) := (allNews g h L).filter fun p => decide (p.1 ≠ d)
end L2
namespace L2
open PySem PySem.Spec PyProof.Rows
/-- the module's facts, over the base: the heap at the law's entry without what is tracked there -/
structure Mod (K : PySem.W.Frag) (mg : Str → Option Value) (base : Heap) : Prop where
  kin : K.In base
  glob : base.Ns mainGlobals mg
  blt : ∃ mb, base.Ns builtinsNs mb ∧ ∀ x : Str, x ≠ "__name__" → mb x = bootBuiltins x
  nolimit : base.NoLimit
/-- the context: a def's body (or a comprehension's block) running. base: fixed through the whole law; s₀, H₀: the entry; outer: the frames whose slots others may change (a def's callers); stack: all frames that run;
   ex: iterators that were made ahead of the entry and are walked here (a comprehension's); fn: the names whose cells were made at the entry (a def: all; a comprehension's block: its own); calm: not within an except suite; pn: pins that every state bears; xe: what is wanted of an exception that leaves the code -/
structure Cx where
  prog : Program
  w : World
  K : PySem.W.Frag
  mg : Str → Option Value
  base : Heap
  A : Around
  N : List Str
  s_0 : Shared
  H_0 : Hp
  env : Env
  outer : List Env
  stack : List Env
  ex : List Addr
  fn : Str → Bool
  calm : Bool
  pn : List (Addr × Obj)
  xe : Value → Shared → Prop
/-- the callers' frames -/
def frs (l : List Env) : List Addr := l.filterMap (·.frame)
abbrev Cx.fs (X : Cx) : List Addr := frs X.outer
def Vis (sc : Scope) (x : Str) : Prop := sc.names.lookup x = some .local ∨ sc.names.lookup x = some .cell ∨ sc.names.lookup x = some .free
def Loc (sc : Scope) (x : Str) : Prop := sc.names.lookup x = some .local ∨ sc.names.lookup x = some .cell
def Look (env : Env) (h : Heap) (m : Str → Option Value) (x : Str) (u : Value) : Prop :=
  (env.kindOf x = some .local ∧ m x = some u) ∨ ((env.kindOf x = some .cell ∨ env.kindOf x = some .free) ∧ ∃ c, env.cells.lookup x = some c ∧ h.IsCell c (some u))
structure Cx.Ok (X : Cx) : Prop where
  mod : Mod X.K X.mg X.base
  kind : X.env.scope.kind = .function
  glob : X.env.globals = mainGlobals
  blt : X.env.builtins = builtinsNs
  above : X.s_0.heap.objs.size ≤ X.env.locals
  inj : ∀ x y c, X.env.cells.lookup x = some c → X.env.cells.lookup y = some c → x = y
  has : ∀ x, (X.env.kindOf x = some .cell ∨ X.env.kindOf x = some .free) → ∃ c, X.env.cells.lookup x = some c
  cab : ∀ x c, X.fn x = true → X.env.cells.lookup x = some c → X.s_0.heap.objs.size ≤ c
  hd : X.calm = true → X.A.handled = none
  frames : X.A.frames = some X.stack
  stk : X.stack = X.outer ∨ (X.stack = X.env :: X.outer ∧ X.env.frame = some X.env.locals)
  exf : ∀ b ∈ X.ex, b ≠ X.env.locals ∧ ∀ x c, X.env.cells.lookup x = some c → c ≠ b
  bs : ∀ b o, X.base.get? b = some o → X.s_0.heap.get? b = some o ∧ X.H_0 b = none
  bsz : X.base.objs.size ≤ X.s_0.heap.objs.size
  noex : ∀ b o, X.base.get? b = some o → b ∉ X.ex
  exfs : ∀ b ∈ X.ex, b ∉ X.fs
  funs : X.s_0.heap.FunFrames X.base X.outer
  frf : ∀ b ∈ X.fs, X.H_0 b = none
structure Inv (X : Cx) (pins : List (Addr × Obj)) (σ : List (Option V)) (H : Hp) (s : Shared) : Prop where
  ok : X.Ok
  os : s.os = X.s_0.os
  bare : AllBare s.gens
  base : Un X.fs X.ex X.H_0 H X.s_0.heap s.heap
  loc : ∃ m, s.heap.Ns X.env.locals m ∧ ∀ (i : Nat) (x : Str) (v : V), X.N[i]? = some x → σ[i]? = some (some v) → Vis X.env.scope x → ∃ u, RelV v u ∧ Look X.env s.heap m x u
  cell : ∀ x c, X.env.cells.lookup x = some c → ∃ v, s.heap.IsCell c v
  free : H X.env.locals = none
  freeC : ∀ x c, X.env.cells.lookup x = some c → H c = none
  pin : ∀ p ∈ X.pn ++ pins, s.heap.get? p.1 = some p.2 ∧ H p.1 = none ∧ p.1 ≠ X.env.locals ∧ p.1 ∉ X.fs ∧ ∀ v, p.2.data ≠ .cell v
  hok : HOk X.prog X.w H s.heap
  len : σ.length = X.N.length
section
variable {X : Cx} {pins : List (Addr × Obj)} {σ : List (Option V)} {H H' : Hp} {s : Shared} {h' : Heap}
theorem Cx.Ok.nofr (ok : X.Ok) {b : Addr} {o : Obj} (e : X.base.get? b = some o) : b ∉ X.fs := fun hb => by
  have := (ok.funs.mem hb).1
  rw [e] at this; cases this
theorem Inv.bs (I : Inv X pins σ H s) : ∀ b o, X.base.get? b = some o → s.heap.get? b = some o ∧ H b = none := fun b o e =>
  ⟨I.base.keep b o (I.ok.bs b o e).1 (I.ok.bs b o e).2 (I.ok.nofr e) (I.ok.noex b o e), I.base.free b o (I.ok.bs b o e).1 (I.ok.bs b o e).2 (I.ok.noex b o e)⟩
theorem Inv.bk (I : Inv X pins σ H s) : ∀ b o, X.base.get? b = some o → s.heap.get? b = some o := fun b o e => (I.bs b o e).1
theorem Inv.mod (I : Inv X pins σ H s) : Mod X.K X.mg X.base := I.ok.mod
theorem Inv.kIn (I : Inv X pins σ H s) : X.K.In s.heap := I.ok.mod.kin.keeps I.bk
theorem Inv.nolimit (I : Inv X pins σ H s) : s.heap.NoLimit := I.ok.mod.nolimit.keeps I.bk
theorem Inv.lt (I : Inv X pins σ H s) : X.env.locals < s.heap.objs.size := let ⟨_, hn, _⟩ := I.loc; hn.lt
theorem Inv.sz (I : Inv X pins σ H s) : X.s_0.heap.objs.size ≤ s.heap.objs.size := Nat.le_trans I.ok.above (Nat.le_of_lt I.lt)
theorem Inv.nofs (I : Inv X pins σ H s) {a : Addr} (h : s.heap.objs.size ≤ a) : a ∉ X.fs := fun hb => by
  obtain ⟨_, o, ho, _⟩ := I.ok.funs.mem hb
  exact absurd (Nat.lt_of_lt_of_le (Heap.lt_size ho) (Nat.le_trans I.sz h)) (Nat.lt_irrefl _)
theorem Inv.cne (I : Inv X pins σ H s) : ∀ x c, X.env.cells.lookup x = some c → c ≠ X.env.locals := fun x c e z => by
  obtain ⟨v, o, ho, hd⟩ := I.cell x c e
  obtain ⟨m, ⟨o', es, ep, ho', hd', _⟩, _⟩ := I.loc
  rw [z, ho'] at ho; cases ho; rw [hd'] at hd; cases hd
theorem Inv.funs (I : Inv X pins σ H s) : s.heap.FunFrames X.base X.outer := by
  have all : ∀ (l : List Env), (∀ b ∈ frs l, b ∈ X.fs) → X.s_0.heap.FunFrames X.base l → s.heap.FunFrames X.base l := by
    intro l
    induction l with
    | nil => intro _ _; trivial
    | cons env r ih =>
      intro hs hl
      obtain ⟨hk, ⟨L, o, hf, hn, ho, hd⟩, hr⟩ := hl
      have hL : L ∈ X.fs := hs L (by unfold frs; rw [List.filterMap_cons, hf]; exact List.mem_cons_self)
      obtain ⟨sl, e⟩ := I.base.slot L o ho (I.ok.frf L hL) hL fun z => I.ok.exfs L z hL
      exact ⟨hk, ⟨L, _, hf, hn, e, hd⟩, ih (fun b hb => hs b (by unfold frs; rw [List.filterMap_cons, hf]; exact List.mem_cons_of_mem _ hb)) hr⟩
  exact all X.outer (fun _ hb => hb) I.ok.funs
/-- the frames that run, for a call -/
theorem Inv.stack (I : Inv X pins σ H s) : s.heap.FunFrames X.base X.stack := by
  rcases I.ok.stk with e | ⟨e, hf⟩
  · rw [e]; exact I.funs
  · rw [e]
    obtain ⟨m, hn, _⟩ := I.loc
    refine .cons (by rw [I.ok.kind]; decide) hf hn ?_ I.funs
    exact Heap.get?_none_of_le (Nat.le_trans I.ok.bsz I.ok.above)
theorem Inv.stkSub (I : Inv X pins σ H s) : ∀ b ∈ frs X.stack, b ∈ X.env.locals :: X.fs := fun b hb => by
  rcases I.ok.stk with e | ⟨e, hf⟩
  · rw [e] at hb; exact List.mem_cons_of_mem _ hb
  · rw [e] at hb
    unfold frs at hb
    rw [List.filterMap_cons, hf] at hb
    exact hb
theorem Inv.stkFree (I : Inv X pins σ H s) : ∀ b ∈ frs X.stack, H b = none := fun b hb => by
  rcases List.mem_cons.mp (I.stkSub b hb) with e | hb
  · rw [e]; exact I.free
  · obtain ⟨_, o, ho, _⟩ := I.ok.funs.mem hb
    exact I.base.free b o ho (I.ok.frf b hb) fun z => I.ok.exfs b z hb
/-- THE STEP: the untracked objects but the frame and the records at ch are kept (the callers' frames up to slots), the frame's map is kept, the new abstract heap is held -/
theorem Inv.step {g' : Array GenState} {t' : Nat} {d' : Drawn} {ch : List Addr} (I : Inv X pins σ H s)
    (hch : ∀ b ∈ ch, (b ∈ X.ex ∨ X.s_0.heap.objs.size ≤ b) ∧ b ≠ X.env.locals ∧ (∀ x c, X.env.cells.lookup x = some c → c ≠ b) ∧ ∀ p ∈ X.pn ++ pins, p.1 ≠ b)
    (keep : ∀ b o, b ≠ X.env.locals → b ∉ X.fs → b ∉ ch → s.heap.get? b = some o → H b = none → h'.get? b = some o)
    (slot : ∀ b o, b ≠ X.env.locals → b ∈ X.fs → b ∉ ch → s.heap.get? b = some o → H b = none → ∃ sl, h'.get? b = some { o with slots := sl }) (free : ∀ b o, b ∉ ch → s.heap.get? b = some o → H b = none → H' b = none)
    (there : ∀ b o, b ∉ ch → s.heap.get? b = some o → ∃ o', h'.get? b = some o')
    (tups : ∀ b xs, H b = some (.tup xs) → H' b = some (.tup xs)) (frzs : ∀ b o u, H b = some (.frz o u) → H' b = some (.frz o u)) (tbls : ∀ b ps, H b = some (.tbl ps) → ∃ more, H' b = some (.tbl (ps ++ more)))
    (ns : ∀ m, s.heap.Ns X.env.locals m → h'.Ns X.env.locals m) (hok : HOk X.prog X.w H' h') (hg : AllBare g') :
    Inv X pins σ H' { s with heap := h', gens := g', drawn := d', toks := t' } := by
  have neL : ∀ b o, X.s_0.heap.get? b = some o → b ≠ X.env.locals := fun b o e => Nat.ne_of_lt (Nat.lt_of_lt_of_le (Heap.lt_size e) I.ok.above)
  have neC : ∀ b o, X.s_0.heap.get? b = some o → b ∉ X.ex → b ∉ ch := fun b o e hx hb => by
    rcases (hch b hb).1 with z | z
    · exact hx z
    · exact absurd (Nat.lt_of_lt_of_le (Heap.lt_size e) z) (Nat.lt_irrefl _)
  have cellK : ∀ x c, X.env.cells.lookup x = some c → ∀ v, s.heap.IsCell c v → h'.IsCell c v := fun x c e v ⟨o, ho, hd⟩ => by
    have nch : c ∉ ch := fun z => (hch c z).2.2.1 x c e rfl
    by_cases hc : c ∈ X.fs
    · obtain ⟨sl, q⟩ := slot c o (I.cne x c e) hc nch ho (I.freeC x c e)
      exact ⟨_, q, hd⟩
    · exact ⟨o, keep c o (I.cne x c e) hc nch ho (I.freeC x c e), hd⟩
  refine ⟨I.ok, I.os, hg, ⟨fun b o e n hb hx => ?_, fun b o e n hb hx => ?_, fun b o e n hx => ?_, fun b o e hx => ?_, fun b xs e => tups b xs (I.base.tups b xs e), fun b o xs e => frzs b o xs (I.base.frzs b o xs e), fun b ps e => ?_⟩, ?_, fun x c e => ?_, ?_, fun x c e => ?_, fun p hp => ?_, hok, I.len⟩
  · exact keep b o (neL b o e) hb (neC b o e hx) (I.base.keep b o e n hb hx) (I.base.free b o e n hx)
  · obtain ⟨sl, e1⟩ := I.base.slot b o e n hb hx
    obtain ⟨sl', e2⟩ := slot b _ (neL b o e) hb (neC b o e hx) e1 (I.base.free b o e n hx)
    exact ⟨sl', e2⟩
  · obtain ⟨o', e1⟩ := I.base.there b o e hx
    exact free b o' (neC b o e hx) e1 (I.base.free b o e n hx)
  · obtain ⟨o', e1⟩ := I.base.there b o e hx
    exact there b o' (neC b o e hx) e1
  · obtain ⟨m1, e1⟩ := I.base.tbls b ps e
    obtain ⟨m2, e2⟩ := tbls b _ e1
    exact ⟨m1 ++ m2, by rw [e2, Array.append_assoc]⟩
  · obtain ⟨m, hn, hl⟩ := I.loc
    refine ⟨m, ns m hn, fun i x v e1 e2 e3 => ?_⟩
    obtain ⟨u, r, l⟩ := hl i x v e1 e2 e3
    refine ⟨u, r, ?_⟩
    rcases l with l | ⟨k, c, e, z⟩
    · exact .inl l
    · exact .inr ⟨k, c, e, cellK x c e _ z⟩
  · obtain ⟨v, z⟩ := I.cell x c e
    exact ⟨v, cellK x c e v z⟩
  · obtain ⟨m, ⟨o, _, _, ho, _⟩, _⟩ := I.loc
    exact free _ o (fun z => (hch _ z).2.1 rfl) ho I.free
  · obtain ⟨v, o, ho, hd⟩ := I.cell x c e
    exact free c o (fun z => (hch c z).2.2.1 x c e rfl) ho (I.freeC x c e)
  · obtain ⟨e, n, ne, nf, d⟩ := I.pin p hp
    have nch : p.1 ∉ ch := fun z => (hch p.1 z).2.2.2 p hp rfl
    exact ⟨keep p.1 p.2 ne nf nch e n, free p.1 p.2 nch e n, ne, nf, d⟩
/-- .. where the frame's own object is kept too -/
theorem Inv.un {t' : Nat} (I : Inv X pins σ H s) (u : Un X.fs [] H H' s.heap h') (hok : HOk X.prog X.w H' h') : Inv X pins σ H' { s with heap := h', toks := t' } := by
  obtain ⟨m, ⟨o, es, ep, ho, r⟩, _⟩ := id I.loc
  obtain ⟨sl, hL⟩ := u.any ho I.free (by simp)
  exact I.step (g' := s.gens) (d' := s.drawn) (ch := []) (fun _ z => nomatch z) (fun b o _ hb _ e n => u.keep b o e n hb (by simp)) (fun b o _ hb _ e n => u.slot b o e n hb (by simp)) (fun b o _ e n => u.free b o e n (by simp)) (fun b o _ e => u.there b o e (by simp)) u.tups u.frzs u.tbls (fun m' hm => by
    obtain ⟨o', es', ep', ho', r'⟩ := hm
    rw [ho] at ho'; cases ho'
    exact ⟨_, es', ep', hL, r'⟩) hok I.bare
/-- behind a call (or a comprehension's block): the slots of this frame may have changed too, the records at ch may have turned -/
theorem Inv.call {g' : Array GenState} {t' : Nat} {d' : Drawn} {ch : List Addr} (I : Inv X pins σ H s) (u : Un (frs X.stack) ch H H' s.heap h') (hok : HOk X.prog X.w H' h') (hg : AllBare g')
    (hch : ∀ b ∈ ch, (b ∈ X.ex ∨ X.s_0.heap.objs.size ≤ b) ∧ b ≠ X.env.locals ∧ (∀ x c, X.env.cells.lookup x = some c → c ≠ b) ∧ ∀ p ∈ X.pn ++ pins, p.1 ≠ b) :
    Inv X pins σ H' { s with heap := h', gens := g', drawn := d', toks := t' } := by
  obtain ⟨m, ⟨o, es, ep, ho, r⟩, _⟩ := id I.loc
  obtain ⟨sl, hL⟩ := u.any ho I.free fun z => (hch _ z).2.1 rfl
  exact I.step (ch := ch) hch (fun b o hL hb hc e n => u.keep b o e n (fun z => (List.mem_cons.mp (I.stkSub b z)).elim hL hb) hc) (fun b o _ _ hc e n => u.any e n hc) (fun b o hc e n => u.free b o e n hc) (fun b o hc e => u.there b o e hc) u.tups u.frzs u.tbls (fun m' hm => by
    obtain ⟨o', es', ep', ho', r'⟩ := hm
    rw [ho] at ho'; cases ho'
    exact ⟨_, es', ep', hL, r'⟩) hok hg
/-- an untracked record of ours (an iterator) has turned -/
theorem Inv.turned {t' : Nat} {it : Addr} (I : Inv X pins σ H s) (k : ∀ b o, b ≠ it → s.heap.get? b = some o → h'.get? b = some o) (hn : H it = none) (hL : it ≠ X.env.locals)
    (h1 : it ∈ X.ex ∨ X.s_0.heap.objs.size ≤ it) (h2 : ∀ x c, X.env.cells.lookup x = some c → c ≠ it) (h3 : ∀ p ∈ X.pn ++ pins, p.1 ≠ it) : Inv X pins σ H { s with heap := h', toks := t' } := by
  have nit : ∀ b u, H b = some u → b ≠ it := fun b u e z => by rw [z, hn] at e; cases e
  refine I.step (g' := s.gens) (d' := s.drawn) (ch := [it]) (fun b hb => ?_) (fun b o _ _ hc e _ => k b o (fun z => hc (by simp [z])) e) (fun b o _ _ hc e _ => ⟨o.slots, k b o (fun z => hc (by simp [z])) e⟩) (fun _ _ _ _ n => n)
    (fun b o hc e => ⟨o, k b o (fun z => hc (by simp [z])) e⟩) (fun _ _ e => e) (fun _ _ _ e => e) (fun b ps e => ⟨#[], by rw [e]; simp⟩) (fun m hm => ?_) (fun b u e => ?_) I.bare
  · have e : b = it := by simpa using hb
    subst e
    exact ⟨h1, hL, h2, h3⟩
  · obtain ⟨o, es, ep, ho, r⟩ := hm
    exact ⟨o, es, ep, k _ o (Ne.symm hL) ho, r⟩
  · refine (I.hok b u e).stay (fun c v hc q => k c v ?_ q) (fun _ q => q) fun _ _ q => q
    rcases hc with z | z
    · rw [z]; exact nit b u e
    · exact nit c _ z
theorem Inv.tok (I : Inv X pins σ H s) (t : Nat) : Inv X pins σ H { s with toks := t } := I.un (h' := s.heap) (t' := t) Un.refl I.hok
/-- all objects kept -/
theorem Inv.kept {t' : Nat} (I : Inv X pins σ H s) (k : ∀ b u, s.heap.get? b = some u → h'.get? b = some u) : Inv X pins σ H { s with heap := h', toks := t' } := I.un (Un.kept k) (I.hok.kept k)
/-- a new object laid and tracked -/
theorem Inv.laid {a : Addr} {o : HO} {t' : Nat} (I : Inv X pins σ H s) (k : ∀ b u, s.heap.get? b = some u → h'.get? b = some u) (hp : s.heap.objs.size ≤ a) (new : ObjOk X.prog X.w (upd H a o) h' a o) :
    Inv X pins σ (upd H a o) { s with heap := h', toks := t' } := I.un (Un.laid k hp (I.hok.fresh hp)) (I.hok.laid k hp new)
/-- an object written -/
theorem Inv.write {x e : Addr} {o : HO} {t' : Nat} (I : Inv X pins σ H s) (mu : Mut (H x)) (he : e = x ∨ H e = some (.own x)) (k : ∀ b u, b ≠ e → s.heap.get? b = some u → h'.get? b = some u) (heo : ∃ u, h'.get? e = some u)
    (new : ObjOk X.prog X.w (upd H x o) h' x o) : Inv X pins σ (upd H x o) { s with heap := h', toks := t' } := I.un (Un.write mu he k heo) (I.hok.write mu he k heo new)
/-- forgetting slots, pins -/
theorem Inv.weak {σ' : List (Option V)} (I : Inv X pins σ H s) (hl : σ'.length = σ.length) (w : ∀ (i : Nat) v, σ'[i]? = some (some v) → σ[i]? = some (some v)) : Inv X pins σ' H s :=
  ⟨I.ok, I.os, I.bare, I.base, let ⟨m, hn, hl'⟩ := I.loc; ⟨m, hn, fun i x v e1 e2 e3 => hl' i x v e1 (w i v e2) e3⟩, I.cell, I.free, I.freeC, I.pin, I.hok, hl.trans I.len⟩
theorem Inv.pins_of {pins' : List (Addr × Obj)} (I : Inv X pins σ H s) (h : ∀ p ∈ pins', s.heap.get? p.1 = some p.2 ∧ H p.1 = none ∧ p.1 ≠ X.env.locals ∧ p.1 ∉ X.fs ∧ ∀ v, p.2.data ≠ .cell v) : Inv X pins' σ H s :=
  ⟨I.ok, I.os, I.bare, I.base, I.loc, I.cell, I.free, I.freeC, fun p hp => (List.mem_append.mp hp).elim (fun z => I.pin p (List.mem_append_left _ z)) (h p), I.hok, I.len⟩
theorem nodup_ix {N : List Str} (hN : N.Nodup) {i j : Nat} {x : Str} (a : N[i]? = some x) (b : N[j]? = some x) : i = j := by
  obtain ⟨h1, e1⟩ := List.getElem?_eq_some_iff.mp a
  obtain ⟨h2, e2⟩ := List.getElem?_eq_some_iff.mp b
  exact (List.getElem_inj hN).mp (e1.trans e2.symm)
/-- a name is stored; what changed -/
theorem store_ok2 {M : Model} {A : Around} {E : Value → Shared → Prop} {i : Nat} {x : Str} {v : V} {u : Value} {Q : Unit → Shared → Prop} (I : Inv X pins σ H s) (hN : X.N.Nodup) (hi : X.N[i]? = some x) (hx : Loc X.env.scope x) (r : RelV v u)
    (h : ∀ s', Inv X pins (σ.set i (some v)) H s' → (∃ a, Heap.SameBut a s.heap s'.heap ∧ (a = X.env.locals ∨ X.env.cells.lookup x = some a)) → Q () s') (hf : X.fn x = true ∨ X.env.scope.names.lookup x = some .local := by first | exact .inl rfl | exact .inr rfl | assumption) : wpAny M A (storeName X.env x u) Q E s := by
  obtain ⟨m, hn, hl⟩ := id I.loc
  have hcls : (X.env.scope.kind == .class || (X.env.scope.kind == .module && X.env.locals != X.env.globals)) = false := by rw [I.ok.kind]; rfl
  have hiσ : i < σ.length := by rw [I.len]; exact (List.getElem?_eq_some_iff.mp hi).1
  have cne := I.cne
  have tracked : ∀ {a : Addr} {h' : Heap}, (∃ o, s.heap.get? a = some o ∧ H a = none) → Heap.SameBut a s.heap h' → HOk X.prog X.w H h' := fun {a h'} ha hs b ob e => by
    obtain ⟨_, _, hfree⟩ := ha
    refine (I.hok b ob e).stay (fun c w' hc q => (hs.2 c ?_).trans q) (fun _ q => q) fun _ _ q => q
    rintro rfl
    rcases hc with rfl | hc
    · rw [hfree] at e; cases e
    · rw [hfree] at hc; cases hc
  rcases hx with hk | hk
  · refine wpAny_storeName_local hk hn (fun h' hn' hs => ?_) hcls
    obtain ⟨oL, _, _, hoL, _⟩ := id hn
    refine h _ ⟨I.ok, I.os, I.bare, ⟨fun b o e n hb hx => ?_, fun b o e n hb hx => ?_, I.base.free, fun b o e hx => ?_, I.base.tups, I.base.frzs, I.base.tbls⟩, ⟨_, hn', fun j y v' e1 e2 e3 => ?_⟩, fun y c e => ?_, I.free, I.freeC, fun p hp => ?_, tracked ⟨oL, hoL, I.free⟩ hs, by simpa using I.len⟩ ⟨_, hs, .inl rfl⟩
    · exact (hs.2 b (Nat.ne_of_lt (Nat.lt_of_lt_of_le (Heap.lt_size e) I.ok.above))).trans (I.base.keep b o e n hb hx)
    · obtain ⟨sl, e1⟩ := I.base.slot b o e n hb hx
      exact ⟨sl, (hs.2 b (Nat.ne_of_lt (Nat.lt_of_lt_of_le (Heap.lt_size e) I.ok.above))).trans e1⟩
    · obtain ⟨o', e1⟩ := I.base.there b o e hx
      exact ⟨o', (hs.2 b (Nat.ne_of_lt (Nat.lt_of_lt_of_le (Heap.lt_size e) I.ok.above))).trans e1⟩
    · by_cases hj : j = i
      · subst hj
        rw [hi] at e1; cases e1
        rw [List.getElem?_set_self hiσ] at e2
        cases e2
        exact ⟨u, r, .inl ⟨hk, by simp⟩⟩
      · rw [List.getElem?_set_ne (Ne.symm hj)] at e2
        obtain ⟨u', r', q⟩ := hl j y v' e1 e2 e3
        refine ⟨u', r', ?_⟩
        rcases q with ⟨k, e⟩ | ⟨k, c, e, z⟩
        · refine .inl ⟨k, ?_⟩
          have : y ≠ x := fun e => hj (nodup_ix hN e1 (e ▸ hi))
          simp [this, e]
        · exact .inr ⟨k, c, e, z.sameBut hs (cne y c e)⟩
    · obtain ⟨w', z⟩ := I.cell y c e
      exact ⟨w', z.sameBut hs (cne y c e)⟩
    · obtain ⟨e, n, ne, nf, d⟩ := I.pin p hp
      exact ⟨(hs.2 p.1 ne).trans e, n, ne, nf, d⟩
  · have hfn : X.fn x = true := by
      rcases hf with z | z
      · exact z
      · rw [z] at hk; cases hk
    obtain ⟨c, hc⟩ := I.ok.has x (.inl hk)
    obtain ⟨w', z⟩ := I.cell x c hc
    refine wpAny_storeName_cell I.ok.kind hk hc z (fun h' hc' hs => ?_)
    obtain ⟨oc, hoc, hocd⟩ := id z
    refine h { s with heap := h' } ⟨I.ok, I.os, I.bare, ⟨fun b o e n hb hx => ?_, fun b o e n hb hx => ?_, I.base.free, fun b o e hx => ?_, I.base.tups, I.base.frzs, I.base.tbls⟩, ⟨m, hn.sameBut hs (Ne.symm (cne x c hc)), fun j y v' e1 e2 e3 => ?_⟩, fun y c' e => ?_, I.free, I.freeC, fun p hp => ?_, tracked ⟨oc, hoc, I.freeC x c hc⟩ hs, by simpa using I.len⟩ ⟨c, hs, .inr hc⟩
    · exact (hs.2 b (Nat.ne_of_lt (Nat.lt_of_lt_of_le (Heap.lt_size e) (I.ok.cab x c hfn hc)))).trans (I.base.keep b o e n hb hx)
    · obtain ⟨sl, e1⟩ := I.base.slot b o e n hb hx
      exact ⟨sl, (hs.2 b (Nat.ne_of_lt (Nat.lt_of_lt_of_le (Heap.lt_size e) (I.ok.cab x c hfn hc)))).trans e1⟩
    · obtain ⟨o', e1⟩ := I.base.there b o e hx
      exact ⟨o', (hs.2 b (Nat.ne_of_lt (Nat.lt_of_lt_of_le (Heap.lt_size e) (I.ok.cab x c hfn hc)))).trans e1⟩
    · by_cases hj : j = i
      · subst hj
        rw [hi] at e1; cases e1
        rw [List.getElem?_set_self hiσ] at e2
        cases e2
        exact ⟨u, r, .inr ⟨.inl hk, c, hc, hc'⟩⟩
      · rw [List.getElem?_set_ne (Ne.symm hj)] at e2
        obtain ⟨u', r', q⟩ := hl j y v' e1 e2 e3
        refine ⟨u', r', ?_⟩
        rcases q with q | ⟨k, c', e, z'⟩
        · exact .inl q
        · refine .inr ⟨k, c', e, z'.sameBut hs ?_⟩
          rintro rfl
          exact hj (nodup_ix hN e1 (I.ok.inj _ _ _ e hc ▸ hi))
    · by_cases hcc : c' = c
      · subst hcc; exact ⟨_, hc'⟩
      · obtain ⟨w2, z2⟩ := I.cell y c' e
        exact ⟨w2, z2.sameBut hs hcc⟩
    · obtain ⟨e, n, ne, nf, d⟩ := I.pin p hp
      refine ⟨(hs.2 p.1 ?_).trans e, n, ne, nf, d⟩
      intro q
      rw [q, hoc] at e
      have q' : oc = p.2 := Option.some.inj e
      exact d w' (by rw [← q']; exact hocd)
theorem store_ok {M : Model} {A : Around} {E : Value → Shared → Prop} {i : Nat} {x : Str} {v : V} {u : Value} {Q : Unit → Shared → Prop} (I : Inv X pins σ H s) (hN : X.N.Nodup) (hi : X.N[i]? = some x) (hx : Loc X.env.scope x) (r : RelV v u)
    (h : ∀ s', Inv X pins (σ.set i (some v)) H s' → Q () s') (hf : X.fn x = true ∨ X.env.scope.names.lookup x = some .local := by first | exact .inl rfl | exact .inr rfl | assumption) : wpAny M A (storeName X.env x u) Q E s :=
  store_ok2 I hN hi hx r (fun s' I' _ => h s' I') hf
/-- behind a call or a block, the state as it is -/
theorem Inv.call' {s' : Shared} {ch : List Addr} (I : Inv X pins σ H s) (ho : s'.os = s.os) (u : Un (frs X.stack) ch H H' s.heap s'.heap) (hok : HOk X.prog X.w H' s'.heap) (hg : AllBare s'.gens)
    (hch : ∀ b ∈ ch, (b ∈ X.ex ∨ X.s_0.heap.objs.size ≤ b) ∧ b ≠ X.env.locals ∧ (∀ x c, X.env.cells.lookup x = some c → c ≠ b) ∧ ∀ p ∈ X.pn ++ pins, p.1 ≠ b) : Inv X pins σ H' s' := by
  obtain ⟨h', g', d', t', o'⟩ := s'
  have e : o' = s.os := ho
  subst e
  exact I.call (g' := g') (t' := t') (d' := d') u hok hg hch
end
/-- an exception: its class, its own dict's address (where it has one), the abstract heap behind it -/
abbrev XK := Value → Option Addr → Hp → Prop
abbrev St := List (Option V)
abbrev VK := V → Hp → Prop
/-- an expression's reading; a test's; an argument list's -/
abbrev TE := St → Hp → VK → Prop
abbrev TT := St → Hp → (Bool → Hp → Prop) → Prop
abbrev TA := St → Hp → (List V → Hp → Prop) → Prop
/-- what is wanted behind a statement -/
structure Ends where
  nx : St → Hp → Prop
  rt : VK
  bk : St → Hp → Prop := fun _ _ => False
  ct : St → Hp → Prop := fun _ _ => False
abbrev TS := Ends → St → Hp → Prop
def EP (X : Cx) (pins : List (Addr × Obj)) (σ : St) (Q : VK) (u : Value) (s' : Shared) : Prop := ∃ v H', Inv X pins σ H' s' ∧ RelV v u ∧ Q v H'
def TP (X : Cx) (pins : List (Addr × Obj)) (σ : St) (Q : Bool → Hp → Prop) (b : Bool) (s' : Shared) : Prop := ∃ H', Inv X pins σ H' s' ∧ Q b H'
def AP (X : Cx) (pins : List (Addr × Obj)) (σ : St) (Q : List V → Hp → Prop) (us : List Value) (s' : Shared) : Prop := ∃ vs H', Inv X pins σ H' s' ∧ Vals vs us ∧ Q vs H'
def SP (X : Cx) (pins : List (Addr × Obj)) (D : Ends) (f : Flow) (s' : Shared) : Prop :=
  match f with
  | .next => ∃ σ' H', Inv X pins σ' H' s' ∧ D.nx σ' H'
  | .brk => ∃ σ' H', Inv X pins σ' H' s' ∧ D.bk σ' H'
  | .cont => ∃ σ' H', Inv X pins σ' H' s' ∧ D.ct σ' H'
  | .ret u => ∃ v σ' H', Inv X pins σ' H' s' ∧ RelV v u ∧ D.rt v H'
def PE (X : Cx) (e : Expr) (t : TE) : Prop :=
  ∀ (pins : List (Addr × Obj)) (s : Shared) (σ : St) (H : Hp) (Q : VK), Inv X pins σ H s → t σ H Q → wpAny (model X.prog X.w) X.A (eval e X.env) (EP X pins σ Q) X.xe s
def PT (X : Cx) (e : Expr) (t : TT) : Prop :=
  ∀ (pins : List (Addr × Obj)) (s : Shared) (σ : St) (H : Hp) (Q : Bool → Hp → Prop), Inv X pins σ H s → t σ H Q → wpAny (model X.prog X.w) X.A (isTrue e X.env (eval e X.env)) (TP X pins σ Q) X.xe s
/-- a test whatever its 'whole' is (and, or) -/
def PW (X : Cx) (e : Expr) (t : TT) : Prop :=
  ∀ (whole : Sem Value) (pins : List (Addr × Obj)) (s : Shared) (σ : St) (H : Hp) (Q : Bool → Hp → Prop), Inv X pins σ H s → t σ H Q → wpAny (model X.prog X.w) X.A (isTrue e X.env whole) (TP X pins σ Q) X.xe s
theorem PW.pt {X : Cx} {e : Expr} {t : TT} (h : PW X e t) : PT X e t := h _
/-- an argument list (no star), from the left -/
def PA (X : Cx) (es : List Expr) (t : TA) : Prop :=
  ∀ (pos : Pos) (pins : List (Addr × Obj)) (s : Shared) (σ : St) (H : Hp) (Q : List V → Hp → Prop), Inv X pins σ H s → t σ H Q → wpAny (model X.prog X.w) X.A (spliced (backTo pos (starEach es X.env))) (AP X pins σ Q) X.xe s
def PS (X : Cx) (st : Stmt) (t : TS) : Prop :=
  ∀ (pins : List (Addr × Obj)) (s : Shared) (σ : St) (H : Hp) (D : Ends), Inv X pins σ H s → t D σ H → wpAny (model X.prog X.w) X.A (exec st X.env) (SP X pins D) X.xe s
def PSs (X : Cx) (st : List Stmt) (t : TS) : Prop :=
  ∀ (pins : List (Addr × Obj)) (s : Shared) (σ : St) (H : Hp) (D : Ends), Inv X pins σ H s → t D σ H → wpAny (model X.prog X.w) X.A (execs st X.env) (SP X pins D) X.xe s
/-- weaken the end -/
theorem thn {α : Type} {t : Sem α} {Q Q' : α → Shared → Prop} {M : Model} {A : Around} {E : Value → Shared → Prop} {s : Shared} (h : wpAny M A t Q E s) (hQ : ∀ a s, Q a s → Q' a s) : wpAny M A t Q' E s := wpAny_mono h hQ fun _ _ x => x
end L2
namespace L2
open PySem PySem.Spec PyProof.Rows
section
variable {X : Cx}
def tVar (i : Nat) : TE := fun σ H Q => ∃ v, σ[i]? = some (some v) ∧ Q v H
def tC (v : V) : TE := fun _ H Q => Q v H
theorem pe_var {i : Nat} {x : Str} {pos : Pos} (hN : X.N[i]? = some x) (hv : Vis X.env.scope x) (hd : (x == ("__debug__" : Str)) = false := by decide) (hcd : (x == ("__classdict__" : Str)) = false := by decide) : PE X (.Name x pos) (tVar i) := by
  intro pins s σ H Q I h
  obtain ⟨v, e, h⟩ := h
  obtain ⟨m, hn, hl⟩ := I.loc
  obtain ⟨u, r, l⟩ := hl i x v hN e hv
  have fin : EP X pins σ Q u s := ⟨v, H, I, r, h⟩
  rcases l with ⟨hk, hm⟩ | ⟨hk, c, hc, hcell⟩
  · exact wpAny_Name (wpAny_loadName_local I.ok.kind hk hn hm fin) hd
  · rcases hk with hk | hk
    · exact wpAny_Name (wpAny_loadName_cell I.ok.kind hk hc hcell fin) hd
    · exact wpAny_Name (wpAny_loadName_free I.ok.kind hk hc hcell fin hcd) hd
theorem pe_int {i j pos} : PE X (.Constant (.int i) j pos) (tC (.int i)) := fun _ _ _ H _ I h => wpAny_Constant_int ⟨.int i, H, I.tok _, ⟨_, rfl⟩, h⟩
theorem pe_bl {b j pos} : PE X (.Constant (.bool b) j pos) (tC (.bl b)) := fun _ _ _ H _ I h => Constant_bool ⟨.bl b, H, I, rfl, h⟩
theorem pe_non {j pos} : PE X (.Constant .none j pos) (tC .non) := fun _ _ _ H _ I h => Constant_none ⟨.non, H, I, rfl, h⟩
/-- a global name of the def -/
def Gl (X : Cx) (x : Str) : Prop := X.env.kindOf x = some .globalImplicit
theorem ld_glob {E : Value → Shared → Prop} {pins : List (Addr × Obj)} {s : Shared} {σ : St} {H : Hp} {x : Str} {u : Value} {pos : Pos} {Q : Value → Shared → Prop} (I : Inv X pins σ H s) (hg : Gl X x) (hm : X.mg x = some u) (h : Q u s)
    (hd : (x == ("__debug__" : Str)) = false := by decide) : wpAny (model X.prog X.w) X.A (eval (.Name x pos) X.env) Q E s :=
  Calls.Name_function_global I.ok.kind hg (Calls.loadGlobal_global (by rw [I.ok.glob]; exact I.mod.glob.keeps I.bk) hm h) hd
theorem ld_blt {E : Value → Shared → Prop} {pins : List (Addr × Obj)} {s : Shared} {σ : St} {H : Hp} {x : Str} {u : Value} {pos : Pos} {Q : Value → Shared → Prop} (I : Inv X pins σ H s) (hg : Gl X x) (hm : X.mg x = none) (hv : bootBuiltins x = some u) (h : Q u s)
    (hn : x ≠ "__name__" := by decide) (hd : (x == ("__debug__" : Str)) = false := by decide) : wpAny (model X.prog X.w) X.A (eval (.Name x pos) X.env) Q E s := by
  obtain ⟨mb, h1, h2⟩ := I.mod.blt
  exact Calls.Name_function_global I.ok.kind hg (Calls.loadGlobal_builtin (by rw [I.ok.glob]; exact I.mod.glob.keeps I.bk) hm (by rw [I.ok.blt]; exact h1.keeps I.bk) ((h2 x hn).trans hv) h) hd
/-- a module's constant, a class, a function, as a value -/
theorem pe_glob {x : Str} {v : V} {u : Value} {pos : Pos} (hg : Gl X x) (hm : X.mg x = some u) (r : RelV v u) (hd : (x == ("__debug__" : Str)) = false := by decide) : PE X (.Name x pos) (tC v) :=
  fun _ _ _ H _ I h => ld_glob I hg hm ⟨v, H, I, r, h⟩ hd
variable {a b : Expr} {ta tb : TE} {pos : Pos}
/-- a comparison as a value, as a test -/
def tB (t : TE) : TT := fun σ H Q => t σ H fun x H1 => ∃ c, x = .bl c ∧ Q c H1
/-- an expression whose value is a bool, as a test -/
theorem pt_val {e : Expr} {t : TE} (h : PE X e t) (he : ∀ whole, isTrue e X.env whole = (do let v ← whole; standAt e.pos; holding [v] (truthy v)) := by intro _; rfl) : PT X e (tB t) := by
  intro pins s σ H Q I hw
  refine isTrue_plain (thn (h pins s σ H _ I hw) fun v s1 ⟨x, H1, I1, r1, q1⟩ => ?_) (he _)
  obtain ⟨d, rfl, q⟩ := q1
  cases r1
  exact wpAny_truthy_bool ⟨H1, I1, q⟩
variable {tA tB' : TT} {rest : List Expr}
def tAnd (t u : TT) : TT := fun σ H Q => t σ H fun c H1 => if c = true then u σ H1 Q else Q false H1
def tOr (t u : TT) : TT := fun σ H Q => t σ H fun c H1 => if c = true then Q true H1 else u σ H1 Q
def tNot (t : TT) : TT := fun σ H Q => t σ H fun c H1 => Q (!c) H1
theorem pw_and1 (ha : PT X a tA) : PW X (.BoolOp .And [a] pos) tA := by
  intro wh pins s σ H Q I h
  refine isTrue_and (thn (ha pins s σ H Q I h) fun c s1 e => ?_)
  cases c with
  | true => exact isTrue_and_nil e
  | false => exact e
theorem pw_or1 (ha : PT X a tA) : PW X (.BoolOp .Or [a] pos) tA := by
  intro wh pins s σ H Q I h
  refine isTrue_or (thn (ha pins s σ H Q I h) fun c s1 e => ?_)
  cases c with
  | false => exact isTrue_or_nil e
  | true => exact e
theorem pw_and (ha : PT X a tA) (hb : PW X (.BoolOp .And (b :: rest) pos) tB') : PW X (.BoolOp .And (a :: b :: rest) pos) (tAnd tA tB') := by
  intro wh pins s σ H Q I h
  refine isTrue_and (thn (ha pins s σ H _ I h) fun c s1 ⟨H1, I1, q1⟩ => ?_)
  cases c with
  | true => exact hb wh pins s1 σ H1 Q I1 q1
  | false => exact ⟨H1, I1, q1⟩
theorem pw_or (ha : PT X a tA) (hb : PW X (.BoolOp .Or (b :: rest) pos) tB') : PW X (.BoolOp .Or (a :: b :: rest) pos) (tOr tA tB') := by
  intro wh pins s σ H Q I h
  refine isTrue_or (thn (ha pins s σ H _ I h) fun c s1 ⟨H1, I1, q1⟩ => ?_)
  cases c with
  | true => exact ⟨H1, I1, q1⟩
  | false => exact hb wh pins s1 σ H1 Q I1 q1
theorem pt_not (ha : PT X a tA) : PT X (.UnaryOp .Not a pos) (tNot tA) := by
  intro pins s σ H Q I h
  exact isTrue_not (ha pins s σ H (fun c H1 => Q (!c) H1) I h)
/-- .. as values (bools) -/
def tAndV (ta tb : TE) : TE := fun σ H Q => ta σ H fun x H1 => ∃ c, x = .bl c ∧ if c = true then tb σ H1 Q else Q (.bl false) H1
def tOrV (ta tb : TE) : TE := fun σ H Q => ta σ H fun x H1 => ∃ c, x = .bl c ∧ if c = true then Q (.bl true) H1 else tb σ H1 Q
def tNotV (ta : TE) : TE := fun σ H Q => ta σ H fun x H1 => ∃ c, x = .bl c ∧ Q (.bl (!c)) H1
/-- a if t else b -/
def tIf (t : TT) (ta tb : TE) : TE := fun σ H Q => t σ H fun c H1 => if c = true then ta σ H1 Q else tb σ H1 Q
end
end L2
namespace L2
open PySem PySem.Spec PyProof.Rows
def SqL (K : PySem.W.Frag) (H : Hp) (a : Addr) (xs : List V) : Prop :=
  Rd H a (.lst xs) ∨
    ∃ (o : Obj) (its : Array Value) (n : Nat), K.lookup a = some o ∧ o.cls = .type "list" ∧ o.dict = none ∧ o.data = .seq its n ∧ its.size ≤ sizeLine ∧ Vals xs its.toList
def SqT (K : PySem.W.Frag) (H : Hp) (a : Addr) (xs : List V) : Prop :=
  Rd H a (.tup xs) ∨
    ∃ (o : Obj) (its : Array Value) (n : Nat), K.lookup a = some o ∧ o.cls = .type "tuple" ∧ o.data = .seq its n ∧ its.size ≤ sizeLine ∧ Vals xs its.toList
def absV : Value → Option V
  | .none => some .non
  | .bool b => some (.bl b)
  | .int i _ => some (.int i)
  | .str x _ => some (.str x)
  | .bytes b _ => some (.byt b)
  | .float b _ => some (.flt b)
  | .ref a => some (.ref a)
  | .type n => some (.ty n)
  | _ => none
theorem RelV.abs {x : V} {u : Value} (r : RelV x u) : absV u = some x := by
  cases x with
  | non => cases r; rfl
  | bl _ => cases r; rfl
  | int _ => obtain ⟨t, rfl⟩ := r; rfl
  | str _ => obtain ⟨t, rfl⟩ := r; rfl
  | byt _ => obtain ⟨t, rfl⟩ := r; rfl
  | flt _ => obtain ⟨t, rfl⟩ := r; rfl
  | ref _ => cases r; rfl
  | ty _ => cases r; rfl
theorem RelV.inj {x y : V} {u : Value} (r : RelV x u) (q : RelV y u) : x = y := Option.some.inj (r.abs.symm.trans q.abs)
theorem Vals.inj : ∀ {xs ys : List V} {us : List Value}, Vals xs us → Vals ys us → xs = ys
  | _, _, _, .nil, .nil => rfl
  | _, _, _, .cons r t, .cons r' t' => by rw [r.inj r', Vals.inj t t']
section
variable {X : Cx} {pins : List (Addr × Obj)} {σ : St} {H : Hp} {s : Shared} {a : Addr} {xs ys : List V}
theorem SqL.of {K : PySem.W.Frag} (h : H a = some (.lst xs)) : SqL K H a xs := .inl (.inl h)
theorem SqT.of {K : PySem.W.Frag} (h : H a = some (.tup xs)) : SqT K H a xs := .inl (.inl h)
theorem Inv.list (I : Inv X pins σ H s) (h : SqL X.K H a xs) : ∃ its : List Value, Vals xs its ∧ PlainL s.heap a its.toArray ∧ xs.length ≤ sizeLine := by
  rcases h with h | ⟨o, its, n, hk, hc, hd, hs, hz, r⟩
  · obtain ⟨z, its, n, r, e⟩ := h.ok I.hok
    exact ⟨its, r, ⟨_, n, e, rfl, rfl, rfl⟩, z⟩
  · refine ⟨its.toList, r, ⟨o, n, I.kIn a o hk, hc, hd, by simpa using hs⟩, ?_⟩
    have e := r.length
    simp only [Array.length_toList] at e
    omega
theorem Inv.tuple (I : Inv X pins σ H s) (h : SqT X.K H a xs) : ∃ its : List Value, Vals xs its ∧ IsTup s.heap a its.toArray ∧ xs.length ≤ sizeLine := by
  rcases h with h | ⟨o, its, n, hk, hc, hs, hz, r⟩
  · obtain ⟨z, its, r, p⟩ := h.ok I.hok
    exact ⟨its, r, p, z⟩
  · refine ⟨its.toList, r, ⟨o, I.kIn a o hk, hc, n, by simpa using hs⟩, ?_⟩
    have e := r.length
    simp only [Array.length_toList] at e
    omega
theorem Inv.list_inj (I : Inv X pins σ H s) (h : SqL X.K H a xs) (h' : SqL X.K H a ys) : xs = ys := by
  obtain ⟨its, r, ⟨o, n, e, _, _, d⟩, _⟩ := I.list h
  obtain ⟨its', r', ⟨o', n', e', _, _, d'⟩, _⟩ := I.list h'
  rw [e] at e'; cases e'
  rw [d] at d'
  injection d' with d1 _
  have : its = its' := by simpa using congrArg Array.toList d1
  subst this
  exact r.inj r'
theorem Inv.tuple_inj (I : Inv X pins σ H s) (h : SqT X.K H a xs) (h' : SqT X.K H a ys) : xs = ys := by
  obtain ⟨its, r, ⟨o, e, _, n, d⟩, _⟩ := I.tuple h
  obtain ⟨its', r', ⟨o', e', _, n', d'⟩, _⟩ := I.tuple h'
  rw [e] at e'; cases e'
  rw [d] at d'
  injection d' with d1 _
  have : its = its' := by simpa using congrArg Array.toList d1
  subst this
  exact r.inj r'
end
abbrev Cx.wish (X : Cx) (E : Value → Shared → Prop) : Cx := { X with xe := E }
/-- no exception leaves -/
abbrev Cx.nox (X : Cx) : Cx := X.wish fun _ _ => False
theorem Cx.Ok.wish {X : Cx} (ok : X.Ok) (E : Value → Shared → Prop) : (X.wish E).Ok :=
  ⟨ok.mod, ok.kind, ok.glob, ok.blt, ok.above, ok.inj, ok.has, ok.cab, ok.hd, ok.frames, ok.stk, ok.exf, ok.bs, ok.bsz, ok.noex, ok.exfs, ok.funs, ok.frf⟩
theorem Cx.Ok.unwish {X : Cx} {E : Value → Shared → Prop} (ok : (X.wish E).Ok) : X.Ok :=
  ⟨ok.mod, ok.kind, ok.glob, ok.blt, ok.above, ok.inj, ok.has, ok.cab, ok.hd, ok.frames, ok.stk, ok.exf, ok.bs, ok.bsz, ok.noex, ok.exfs, ok.funs, ok.frf⟩
section
variable {X : Cx} {pins : List (Addr × Obj)} {σ : St} {H : Hp} {s : Shared} {E : Value → Shared → Prop}
theorem Inv.wish (I : Inv X pins σ H s) (E : Value → Shared → Prop) : Inv (X.wish E) pins σ H s := ⟨I.ok.wish E, I.os, I.bare, I.base, I.loc, I.cell, I.free, I.freeC, I.pin, I.hok, I.len⟩
theorem Inv.unwish (I : Inv (X.wish E) pins σ H s) : Inv X pins σ H s := ⟨I.ok.unwish, I.os, I.bare, I.base, I.loc, I.cell, I.free, I.freeC, I.pin, I.hok, I.len⟩
theorem SP.unwish {D : Ends} {f : Flow} {s' : Shared} (h : SP (X.wish E) pins D f s') : SP X pins D f s' := by
  cases f with
  | next => obtain ⟨σ', H', I, q⟩ := h; exact ⟨σ', H', I.unwish, q⟩
  | brk => obtain ⟨σ', H', I, q⟩ := h; exact ⟨σ', H', I.unwish, q⟩
  | cont => obtain ⟨σ', H', I, q⟩ := h; exact ⟨σ', H', I.unwish, q⟩
  | ret u => obtain ⟨v, σ', H', I, r, q⟩ := h; exact ⟨v, σ', H', I.unwish, r, q⟩
theorem PE.nox {e : Expr} {t : TE} (h : PE X.nox e t) : PE X e t := fun pins s σ H Q I hw =>
  wpAny_mono (h pins s σ H Q (I.wish _) hw) (fun _ _ ⟨v, H', I', r, q⟩ => ⟨v, H', I'.unwish, r, q⟩) fun _ _ z => False.elim z
theorem PT.nox {e : Expr} {t : TT} (h : PT X.nox e t) : PT X e t := fun pins s σ H Q I hw =>
  wpAny_mono (h pins s σ H Q (I.wish _) hw) (fun _ _ ⟨H', I', q⟩ => ⟨H', I'.unwish, q⟩) fun _ _ z => False.elim z
theorem PSs.nox {st : List Stmt} {t : TS} (h : PSs X.nox st t) : PSs X st t := fun pins s σ H D I hw =>
  wpAny_mono (h pins s σ H D (I.wish _) hw) (fun _ _ q => q.unwish) fun _ _ z => False.elim z
end
section
variable {X : Cx} {st : Stmt} {rest : List Stmt} {t u : TS} {e : Expr} {te : TE} {pos : Pos}
def tNext : TS := fun D σ H => D.nx σ H
def tSeq (t u : TS) : TS := fun D σ H => t { D with nx := u D } σ H
theorem pss_nil : PSs X [] tNext := fun _ _ σ H _ I h => wpAny_execs_nil ⟨σ, H, I, h⟩
theorem pss_cons (h1 : PS X st t) (h2 : PSs X rest u) : PSs X (st :: rest) (tSeq t u) := by
  intro pins s σ H D I h
  refine wpAny_execs_cons (thn (h1 pins s σ H { D with nx := u D } I h) fun f s1 q => ?_)
  cases f with
  | next =>
    obtain ⟨σ', H', I', q⟩ := q
    exact h2 pins s1 σ' H' D I' q
  | ret v => exact q
  | brk => exact q
  | cont => exact q
theorem pss_one (h1 : PS X st t) : PSs X [st] t := by
  intro pins s σ H D I h
  refine wpAny_execs_cons (thn (h1 pins s σ H D I h) fun f s1 q => ?_)
  cases f with
  | next => exact wpAny_execs_nil q
  | ret v => exact q
  | brk => exact q
  | cont => exact q
/-- in a def's body nothing is shown -/
theorem Inv.quiet {pins : List (Addr × Obj)} {σ : St} {H : Hp} {s : Shared} (I : Inv X pins σ H s) : interactive X.env = false := by simp [interactive, I.ok.kind]
/-- an expression whose value is dropped -/
def tDrop (te : TE) : TS := fun D σ H => te σ H fun _ H1 => D.nx σ H1
theorem ps_expr (he : PE X e te) (hs : swapsWith e none pos.line X.env = pure false := by rfl) : PS X (.Expr e pos) (tDrop te) := by
  intro pins s σ H D I h
  exact wpAny_Expr_any (thn (he pins s σ H _ I h) fun v s1 ⟨x, H1, I1, r1, q1⟩ => ⟨σ, H1, I1, q1⟩) I.quiet hs
def tRet (te : TE) : TS := fun D σ H => te σ H D.rt
theorem ps_ret (he : PE X e te) : PS X (.Return (some e) pos) (tRet te) := by
  intro pins s σ H D I h
  exact wpAny_Return_some (thn (he pins s σ H _ I h) fun v s1 ⟨x, H1, I1, r1, q1⟩ => ⟨x, σ, H1, I1, r1, q1⟩)
def tRetN : TS := fun D _ H => D.rt .non H
def tIfS (c : TT) (t u : TS) : TS := fun D σ H => c σ H fun b H1 => if b = true then t D σ H1 else u D σ H1
theorem ps_if {c : Expr} {a b : List Stmt} {tc : TT} (hc : PT X c tc) (ha : PSs X a t) (hb : PSs X b u) : PS X (.If c a b pos) (tIfS tc t u) := by
  intro pins s σ H D I h
  refine wpAny_If (thn (hc pins s σ H _ I h) fun d s1 ⟨H1, I1, q1⟩ => ?_)
  cases d with
  | true => exact ha pins s1 σ H1 D I1 q1
  | false => exact hb pins s1 σ H1 D I1 q1
end
abbrev TG := V → St → Hp → (St → Hp → Prop) → Prop
abbrev TGs := List V → St → Hp → (St → Hp → Prop) → Prop
def PG (X : Cx) (target : Expr) (t : TG) : Prop :=
  ∀ (pins : List (Addr × Obj)) (s : Shared) (σ : St) (H : Hp) (v : V) (u : Value) (Q : St → Hp → Prop), Inv X pins σ H s → RelV v u → t v σ H Q →
    wpAny (model X.prog X.w) X.A (assign target X.env u) (fun _ s' => ∃ σ' H', Inv X pins σ' H' s' ∧ Q σ' H') X.xe s
/-- several targets, one after another -/
def PGs (X : Cx) (ts : List Expr) (t : TGs) : Prop :=
  ∀ (pins : List (Addr × Obj)) (s : Shared) (σ : St) (H : Hp) (vs : List V) (us : List Value) (Q : St → Hp → Prop), Inv X pins σ H s → Vals vs us → t vs σ H Q →
    wpAny (model X.prog X.w) X.A (assignInOrder ((assignEach ts X.env).map (·.2)) us) (fun _ s' => ∃ σ' H', Inv X pins σ' H' s' ∧ Q σ' H') X.xe s
/-- a op= b, by values -/
abbrev TIp := V → V → Hp → VK → Prop
def PIp (X : Cx) (op : Operator) (t : TIp) : Prop :=
  ∀ (pins : List (Addr × Obj)) (s : Shared) (σ : St) (H : Hp) (x y : V) (v u : Value) (Q : VK), Inv X pins σ H s → RelV x v → RelV y u → t x y H Q →
    wpAny (model X.prog X.w) X.A (inplaceOp op v u) (EP X pins σ Q) X.xe s
section
variable {X : Cx} {pos : Pos}
def gName (i : Nat) : TG := fun v σ H Q => Q (σ.set i (some v)) H
theorem pg_name {i : Nat} {x : Str} (hN : X.N.Nodup) (hi : X.N[i]? = some x) (hx : Loc X.env.scope x) (hf : X.fn x = true ∨ X.env.scope.names.lookup x = some .local := by first | exact .inl rfl | exact .inr rfl | assumption) : PG X (.Name x pos) (gName i) := by
  intro pins s σ H v u Q I r h
  exact wpAny_assign_Name (store_ok I hN hi hx r (fun s' I' => ⟨_, H, I', h⟩) hf)
def gNil : TGs := fun vs σ H Q => vs = [] ∧ Q σ H
def gCons (t : TG) (u : TGs) : TGs := fun vs σ H Q => ∃ v r, vs = v :: r ∧ t v σ H fun σ' H' => u r σ' H' Q
theorem pgs_nil : PGs X [] gNil := by
  intro pins s σ H vs us Q I r h
  obtain ⟨e, h⟩ := h
  subst e
  cases r
  exact assignInOrder_nil ⟨σ, H, I, h⟩
theorem pgs_cons {e : Expr} {es : List Expr} {t : TG} {u : TGs} (h1 : PG X e t) (h2 : PGs X es u)
    (hs : (assignEach (e :: es) X.env).map (·.2) = assign e X.env :: (assignEach es X.env).map (·.2) := by rfl) : PGs X (e :: es) (gCons t u) := by
  intro pins s σ H vs us Q I r h
  obtain ⟨v, vr, e1, h⟩ := h
  subst e1
  cases r with
  | cons r rr =>
    rw [hs]
    refine assignInOrder_cons (thn (h1 pins s σ H _ _ _ I r h) fun _ s1 ⟨σ1, H1, I1, q1⟩ => ?_)
    exact h2 pins s1 σ1 H1 _ _ Q I1 rr q1
/-- (a, b, ..) = a tuple of that length -/
def gTup (K : PySem.W.Frag) (n : Nat) (t : TGs) : TG := fun v σ H Q => ∃ a xs, v = .ref a ∧ SqT K H a xs ∧ xs.length = n ∧ t xs σ H Q
theorem pg_tup {es : List Expr} {k : Nat} {t : TGs} {n : Nat} (hc : X.calm = true) (h : PGs X es t)
    (hn : (assignEach es X.env).length = n := by rfl) (hst : (assignEach es X.env).findIdx? (·.1) = none := by rfl) : PG X (.Tuple es k pos) (gTup X.K n t) := by
  intro pins s σ H v u Q I r hw
  obtain ⟨a, xs, e1, hq, hl, hw⟩ := hw
  subst e1
  cases r
  obtain ⟨its, rv, ht, hz⟩ := I.tuple hq
  refine assign_Tuple_tuple (I.ok.hd hc) ht (by simp [hn, ← hl, rv.length]) hst fun h' hx => ?_
  have I1 : Inv X pins σ H { s with heap := h' } := I.kept (t' := s.toks) fun b o e => hx b o (Nat.ne_of_lt (Heap.lt_size e)) e
  exact h pins _ σ H xs _ Q I1 (by simpa using rv) hw
/-- target = value -/
def tAsg (te : TE) (g : TG) : TS := fun D σ H => te σ H fun x H1 => g x σ H1 D.nx
/-- name = value -/
theorem ps_set {i : Nat} {x : Str} {e : Expr} {te : TE} {pos' : Pos} (hN : X.N.Nodup) (hi : X.N[i]? = some x) (hx : Loc X.env.scope x) (he : PE X e te) (hs : swapsWith e (some (.Name x pos')) pos.line X.env = pure false := by rfl) (hf : X.fn x = true ∨ X.env.scope.names.lookup x = some .local := by first | exact .inl rfl | exact .inr rfl | assumption) :
    PS X (.Assign [.Name x pos'] e pos) (tAsg te (gName i)) := by
  intro pins s σ H D I h
  refine wpAny_Assign_Name (thn (he pins s σ H _ I h) fun v s1 ⟨y, H1, I1, r1, q1⟩ => ?_) hs
  exact store_ok I1 hN hi hx r1 (fun s2 I2 => ⟨_, H1, I2, q1⟩) hf
/-- name op= e -/
def tAug (i : Nat) (te : TE) (ti : TIp) : TS := fun D σ H => ∃ x, σ[i]? = some (some x) ∧ te σ H fun y H1 => ti x y H1 fun z H2 => D.nx (σ.set i (some z)) H2
theorem ps_aug {i : Nat} {x : Str} {e : Expr} {te : TE} {op : Operator} {ti : TIp} {pos' : Pos} (hN : X.N.Nodup) (hi : X.N[i]? = some x) (hx : Loc X.env.scope x) (he : PE X e te) (ho : PIp X op ti) (hf : X.fn x = true ∨ X.env.scope.names.lookup x = some .local := by first | exact .inl rfl | exact .inr rfl | assumption) :
    PS X (.AugAssign (.Name x pos') op e pos) (tAug i te ti) := by
  intro pins s σ H D I h
  obtain ⟨v, e1, h⟩ := h
  obtain ⟨m, hn, hl⟩ := I.loc
  have vis : Vis X.env.scope x := by rcases hx with k | k; exact .inl k; exact .inr (.inl k)
  obtain ⟨u, r, l⟩ := hl i x v hi e1 vis
  refine wpAny_AugAssign_Name ?_
  have go : wpAny (model X.prog X.w) X.A (eval e X.env) (fun w s₂ => wpAny (model X.prog X.w) X.A (inplaceOp op u w) (fun r s₃ => wpAny (model X.prog X.w) X.A (storeName X.env x r) (fun _ => SP X pins D .next) X.xe s₃) X.xe s₂) X.xe s := by
    refine thn (he pins s σ H _ I h) fun w s1 ⟨y, H1, I1, r1, q1⟩ => ?_
    refine thn (ho pins s1 σ H1 v y u w _ I1 r r1 q1) fun z s2 ⟨zv, H2, I2, r2, q2⟩ => ?_
    exact store_ok I2 hN hi hx r2 (fun s3 I3 => ⟨_, H2, I3, q2⟩) hf
  rcases l with ⟨hk, hm⟩ | ⟨hk, c, hc, hcell⟩
  · exact wpAny_loadName_local I.ok.kind hk hn hm go
  · rcases hk with hk | hk
    · exact wpAny_loadName_cell I.ok.kind hk hc hcell go
    · rcases hx with k | k
      · have : X.env.scope.names.lookup x = some .free := hk
        rw [k] at this; cases this
      · have : X.env.scope.names.lookup x = some .free := hk
        rw [k] at this; cases this
/-- ints -/
def ipI (f : Int → Int → Int) : TIp := fun x y H Q => ∃ i j, x = .int i ∧ y = .int j ∧ Q (.int (f i j)) H
theorem ip_sub : PIp X .Sub (ipI fun i j => i - j) := by
  intro pins s σ H x y v u Q I r1 r2 h
  obtain ⟨i, j, e1, e2, q⟩ := h
  subst e1; subst e2
  obtain ⟨t, rfl⟩ := r1
  obtain ⟨t', rfl⟩ := r2
  exact isub_int ⟨.int _, H, I.tok _, ⟨_, rfl⟩, q⟩
end
section
variable {X : Cx} {pos : Pos}
/-- the invariant W with its measure -/
def tWhile (c : TT) (tb : TS) : TS := fun D σ H => ∃ W : Nat → St → Hp → Prop, (∃ m, W m σ H) ∧ ∀ m σ H, W m σ H →
  c σ H fun b H1 => if b = true then ∃ N : St → Hp → Prop, (∀ σ' H', N σ' H' → ∃ m', m' < m ∧ W m' σ' H') ∧ tb { D with nx := N, ct := N, bk := D.nx } σ H1 else D.nx σ H1
theorem ps_while {c : Expr} {body : List Stmt} {tc : TT} {tb : TS} (hp : PassesOwn (model X.prog X.w) X.A X.env X.xe) (hc : PT X c tc) (hb : PSs X body tb) : PS X (.While c body [] pos) (tWhile tc tb) := by
  intro pins s σ H D I h
  obtain ⟨W, ⟨m0, w0⟩, turn⟩ := h
  refine wpAny_While (codeAny_whileLoop (fun n s' => ∃ σ' H', Inv X pins σ' H' s' ∧ W n σ' H') ?_ m0 ⟨σ, H, I, w0⟩)
  rintro n s1 ⟨σ1, H1, I1, w1⟩
  refine wpAny_passesOwn hp (thn (hc pins s1 σ1 H1 _ I1 (turn n σ1 H1 w1)) fun b s2 ⟨H2, I2, q2⟩ => ?_)
  cases b with
  | true =>
    obtain ⟨N, hN, q2⟩ := q2
    rw [if_pos rfl]
    refine wpAny_passesOwn hp (thn (hb pins s2 σ1 H2 _ I2 q2) fun f s3 q3 => ?_)
    cases f with
    | next =>
      obtain ⟨σ3, H3, I3, n3⟩ := q3
      obtain ⟨m', hm, w3⟩ := hN σ3 H3 n3
      exact ⟨m', hm, σ3, H3, I3, w3⟩
    | cont =>
      obtain ⟨σ3, H3, I3, n3⟩ := q3
      obtain ⟨m', hm, w3⟩ := hN σ3 H3 n3
      exact ⟨m', hm, σ3, H3, I3, w3⟩
    | brk => exact q3
    | ret v => exact q3
  | false =>
    rw [if_neg Bool.false_ne_true]
    exact wpAny_execs_nil ⟨σ1, H2, I2, q2⟩
end
/-- at turn i: it yields x (the heap may grow), or it stops -/
structure It where
  go : Nat → Hp → Prop
  yld : Nat → Hp → V → Hp → Prop
  stop : Nat → Hp → Prop
/-- the iterator's own objects may turn: they are not the frame's, not pinned, younger than the entry (or a comprehension's own) -/
def FpOk (X : Cx) (pins : List (Addr × Obj)) (H : Hp) (b : Addr) : Prop :=
  H b = none ∧ b ≠ X.env.locals ∧ b ∉ X.fs ∧ (b ∈ X.ex ∨ X.s_0.heap.objs.size ≤ b) ∧ (∀ x c, X.env.cells.lookup x = some c → c ≠ b) ∧ ∀ p ∈ X.pn ++ pins, p.1 ≠ b
theorem Inv.fpOk {X : Cx} {pins : List (Addr × Obj)} {σ : St} {H H' : Hp} {s : Shared} {b : Addr} (I : Inv X pins σ H s) (hb : s.heap.objs.size ≤ b) (hn : H' b = none) : FpOk X pins H' b := by
  refine ⟨hn, Nat.ne_of_gt (Nat.lt_of_lt_of_le I.lt hb), I.nofs hb, .inr (Nat.le_trans I.sz hb), fun x c e z => ?_, fun p hp z => ?_⟩
  · obtain ⟨v, q⟩ := I.cell x c e
    exact absurd (Nat.lt_of_lt_of_le q.lt (by rw [z]; exact hb)) (Nat.lt_irrefl _)
  · exact absurd (Nat.lt_of_lt_of_le (Heap.lt_size (I.pin p hp).1) (by rw [z]; exact hb)) (Nat.lt_irrefl _)
structure Turn (P : Program) (w : World) (K : PySem.W.Frag) (tg : Expr) (J : It) (fp : List Addr) (it : Addr) (tn : Nat → Heap → Prop) : Prop where
  mem : it ∈ fp
  obj : ∀ i h, tn i h → ∀ b ∈ fp, ∃ o, h.get? b = some o ∧ ∀ v, o.data ≠ .cell v
  keep : ∀ i h h', tn i h → (∀ b ∈ fp, ∀ o, h.get? b = some o → h'.get? b = some o) → tn i h'
  item : ∀ (X : Cx), X.prog = P → X.w = w → X.K = K → X.calm = true → ∀ (i : Nat) (pins : List (Addr × Obj)) (s : Shared) (σ : St) (H : Hp) (E : Value → Shared → Prop), Inv X pins σ H s → (∀ b ∈ fp, FpOk X pins H b) → tn i s.heap → J.go i H →
    wpAny (model P w) X.A (pyNext (.ref it)) (fun r s1 => ∃ u, r = some u ∧
      wpAny (model P w) X.A (letOwnedTupleGo tg (.ref it) u) (fun _ s2 => ∃ x H', Inv X pins σ H' s2 ∧ RelV x u ∧ J.yld i H x H' ∧ tn (i + 1) s2.heap ∧ ∀ b ∈ fp, H' b = none) E s1) E s
  done : ∀ (X : Cx), X.prog = P → X.w = w → X.K = K → X.calm = true → ∀ (i : Nat) (pins : List (Addr × Obj)) (s : Shared) (σ : St) (H : Hp) (E : Value → Shared → Prop), Inv X pins σ H s → (∀ b ∈ fp, FpOk X pins H b) → tn i s.heap → J.stop i H →
    wpAny (model P w) X.A (pyNext (.ref it)) (fun r s1 => r = none ∧ Inv X pins σ H s1) E s
  self : ∀ (A : Around) (i : Nat) (s : Shared) (Q : Value → Shared → Prop) (E : Value → Shared → Prop), tn i s.heap → Q (.ref it) s → wpAny (model P w) A (pyIter (.ref it)) Q E s
abbrev TI := St → Hp → (It → Hp → Prop) → Prop
/-- an iterator has come -/
def PIE (X : Cx) (pins : List (Addr × Obj)) (σ : St) (tg : Expr) (R : It → Hp → Prop) (itv : Value) (s2 : Shared) : Prop :=
  ∃ (it : Addr) (fp : List Addr) (tn : Nat → Heap → Prop) (J : It) (H' : Hp), itv = .ref it ∧ Inv X pins σ H' s2 ∧ Turn X.prog X.w X.K tg J fp it tn ∧ tn 0 s2.heap ∧ (∀ b ∈ fp, FpOk X pins H' b) ∧ R J H'
def PI (X : Cx) (tg iter : Expr) (wi : TI) : Prop :=
  ∀ (pins : List (Addr × Obj)) (s : Shared) (σ : St) (H : Hp) (R : It → Hp → Prop), Inv X pins σ H s → wi σ H R →
    wpAny (model X.prog X.w) X.A (eval iter X.env) (fun v s1 => wpAny (model X.prog X.w) X.A (pyIter v) (PIE X pins σ tg R) X.xe s1) X.xe s
/-- the step ahead of the store is nothing for an iterator that keeps no tuple -/
theorem go_of {M : Model} {A : Around} {E : Value → Shared → Prop} {s : Shared} {tg : Expr} {it : Addr} {u : Value} {o : Obj} {n : String} {vs : Array Value} {Q : Unit → Shared → Prop} (ho : s.heap.get? it = some o) (hc : o.cls = .type n) (hd : o.data = .fields vs)
    (hn : ["enumerate", "zip", "dict_itemiterator", "dict_reverseitemiterator", "odict_iterator", "itertools.zip_longest", "itertools.pairwise"].contains n = false) (hQ : Q () s) : wpAny M A (letOwnedTupleGo tg (.ref it) u) Q E s := by
  unfold letOwnedTupleGo
  cases tg <;> first
    | exact wpAny_pure hQ
    | (cases u <;> first
        | exact wpAny_pure hQ
        | (refine wpAny_bind (wpAny_load ho ?_)
           rw [hc, hd]
           show wpAny M A (if (["enumerate", "zip", "dict_itemiterator", "dict_reverseitemiterator", "odict_iterator", "itertools.zip_longest", "itertools.pairwise"].contains n && vs[0]? == some (rawInt _)) = true then _ else _) Q E s
           rw [if_neg (by intro h; rw [hn, Bool.false_and] at h; cases h)]
           exact wpAny_pure hQ))
/-- the list at a, as it stands at each turn (a loop may append to it) -/
def Itl (K : PySem.W.Frag) (a : Addr) : It :=
  ⟨fun i H => ∃ xs x, SqL K H a xs ∧ xs[i]? = some x, fun i H x H' => H' = H ∧ ∀ xs, SqL K H a xs → xs[i]? = some x, fun i H => ∃ xs, SqL K H a xs ∧ xs.length ≤ i⟩
def Itt (K : PySem.W.Frag) (a : Addr) : It :=
  ⟨fun i H => ∃ xs x, SqT K H a xs ∧ xs[i]? = some x, fun i H x H' => H' = H ∧ ∀ xs, SqT K H a xs → xs[i]? = some x, fun i H => ∃ xs, SqT K H a xs ∧ xs.length ≤ i⟩
/-- lo, lo + 1, .. (n of them) -/
def Itr (lo : Int) (n : Nat) : It := ⟨fun i _ => i < n, fun i H x H' => H' = H ∧ x = .int (lo + i), fun i _ => n ≤ i⟩
theorem turn_list {P : Program} {w : World} {K : PySem.W.Frag} {tg : Expr} (a it : Addr) : Turn P w K tg (Itl K a) [it] it (fun i h => h.IsListIter it a i) where
  mem := by simp
  obj := fun i h st b hb => by
    have e : b = it := by simpa using hb
    subst e
    obtain ⟨o, e, c, d⟩ := st
    exact ⟨o, e, fun v z => by rw [d] at z; cases z⟩
  keep := fun i h h' st k => st.at fun o e => k it (by simp) o e
  item := by
    intro X hP hw hK hc i pins s σ H E I hf st hg
    subst hP hw hK
    obtain ⟨xs, x, hq, hx⟩ := hg
    obtain ⟨its, rv, p, hz⟩ := I.list hq
    obtain ⟨u, hu, ru⟩ := rv.get hx
    obtain ⟨f0, f1, f2, f3, f4, f5⟩ := hf it (by simp)
    refine wpAny_pyNext_list_item st p.isList (x := u) (by simpa using hu) fun h' st' sb => ?_
    have I1 : Inv X pins σ H { s with heap := h' } := I.turned (t' := s.toks) (fun b o hb e => (sb.2 b hb).trans e) f0 f1 f3 f4 f5
    obtain ⟨o, e, c, d⟩ := id st'
    exact ⟨u, rfl, go_of (s := { s with heap := h' }) e c d (by decide) ⟨x, H, I1, ru, ⟨rfl, fun ys hy => by rw [I.list_inj hy hq]; exact hx⟩, st', fun b hb => (hf b hb).1⟩⟩
  done := by
    intro X hP hw hK hc i pins s σ H E I hf st hg
    subst hP hw hK
    obtain ⟨xs, hq, hx⟩ := hg
    obtain ⟨its, rv, p, hz⟩ := I.list hq
    obtain ⟨f0, f1, f2, f3, f4, f5⟩ := hf it (by simp)
    have hl := rv.length
    exact wpAny_pyNext_list_end (I.ok.hd hc) st p.isList (by simp; omega) fun h' eb => ⟨rfl, I.turned (t' := s.toks) (fun b o hb e => eb b o hb e) f0 f1 f3 f4 f5⟩
  self := fun _ _ _ _ _ st h => wpAny_pyIter_listiter st h
theorem turn_tuple {P : Program} {w : World} {K : PySem.W.Frag} {tg : Expr} (a it : Addr) : Turn P w K tg (Itt K a) [it] it (fun i h => h.IsTupleIter it a i) where
  mem := by simp
  obj := fun i h st b hb => by
    have e : b = it := by simpa using hb
    subst e
    obtain ⟨o, e, c, d⟩ := st
    exact ⟨o, e, fun v z => by rw [d] at z; cases z⟩
  keep := fun i h h' st k => st.at fun o e => k it (by simp) o e
  item := by
    intro X hP hw hK hc i pins s σ H E I hf st hg
    subst hP hw hK
    obtain ⟨xs, x, hq, hx⟩ := hg
    obtain ⟨its, rv, p, hz⟩ := I.tuple hq
    obtain ⟨u, hu, ru⟩ := rv.get hx
    obtain ⟨f0, f1, f2, f3, f4, f5⟩ := hf it (by simp)
    refine wpAny_pyNext_tuple_item st (show s.heap.IsTuple a its.toArray from p) (x := u) (by simpa using hu) fun h' st' sb => ?_
    have I1 : Inv X pins σ H { s with heap := h' } := I.turned (t' := s.toks) (fun b o hb e => (sb.2 b hb).trans e) f0 f1 f3 f4 f5
    obtain ⟨o, e, c, d⟩ := id st'
    exact ⟨u, rfl, go_of (s := { s with heap := h' }) e c d (by decide) ⟨x, H, I1, ru, ⟨rfl, fun ys hy => by rw [I.tuple_inj hy hq]; exact hx⟩, st', fun b hb => (hf b hb).1⟩⟩
  done := by
    intro X hP hw hK hc i pins s σ H E I hf st hg
    subst hP hw hK
    obtain ⟨xs, hq, hx⟩ := hg
    obtain ⟨its, rv, p, hz⟩ := I.tuple hq
    obtain ⟨f0, f1, f2, f3, f4, f5⟩ := hf it (by simp)
    have hl := rv.length
    exact wpAny_pyNext_tuple_end (I.ok.hd hc) st (show s.heap.IsTuple a its.toArray from p) (by simp; omega) fun h' eb => ⟨rfl, I.turned (t' := s.toks) (fun b o hb e => eb b o hb e) f0 f1 f3 f4 f5⟩
  self := fun _ _ _ _ _ st h => wpAny_pyIter_tupleiter st h
theorem turn_range {P : Program} {w : World} {K : PySem.W.Frag} {tg : Expr} (it : Addr) (lo : Int) (n : Nat) : Turn P w K tg (Itr lo n) [it] it (fun i h => IsRangeIter h it (lo + (i : Nat) * 1) ((n : Int) - (i : Nat)) 1) where
  mem := by simp
  obj := fun i h st b hb => by
    have e : b = it := by simpa using hb
    subst e
    exact ⟨_, st, fun v z => by
      have z' : Data.fields _ = Data.cell v := z
      cases z'⟩
  keep := fun i h h' st k => k it (by simp) _ st
  item := by
    intro X hP hw hK hc i pins s σ H E I hf st hg
    subst hP hw hK
    obtain ⟨f0, f1, f2, f3, f4, f5⟩ := hf it (by simp)
    have W := Walks.range (prog := X.prog) (w := X.w) (I.ok.hd hc) it lo 1 n
    refine W.item i s _ _ hg st fun v h' tk hv st' kk => ?_
    obtain ⟨t, rfl⟩ := hv
    have I1 : Inv X pins σ H { s with heap := h', toks := tk } := I.turned (fun b o hb e => kk b o (by simpa using hb) e) f0 f1 f3 f4 f5
    refine ⟨_, rfl, go_of (s := { s with heap := h', toks := tk }) (n := "range_iterator") st' rfl rfl (by decide) ⟨.int (lo + i), H, I1, ⟨t, ?_⟩, ⟨rfl, rfl⟩, st', fun b hb => (hf b hb).1⟩⟩
    rw [Int.mul_one]
  done := by
    intro X hP hw hK hc i pins s σ H E I hf st hg
    subst hP hw hK
    obtain ⟨f0, f1, f2, f3, f4, f5⟩ := hf it (by simp)
    exact wpAny_pyNext_range_end (I.ok.hd hc) st (by have : n ≤ i := hg; omega) fun h' eb => ⟨rfl, I.turned (t' := s.toks) (fun b o hb e => eb b o hb e) f0 f1 f3 f4 f5⟩
  self := fun _ _ _ _ _ st h => wpAny_pyIter_rangeiter st h
end L2
namespace L2
open PySem PySem.Spec PyProof.Rows
section
variable {X : Cx} {tg : Expr}
def iList (K : PySem.W.Frag) (tl : TE) : TI := fun σ H R => tl σ H fun x H1 => ∃ a, x = .ref a ∧ (∃ xs, SqL K H1 a xs) ∧ R (Itl K a) H1
def iTup (K : PySem.W.Frag) (tl : TE) : TI := fun σ H R => tl σ H fun x H1 => ∃ a, x = .ref a ∧ (∃ xs, SqT K H1 a xs) ∧ R (Itt K a) H1
theorem pi_list {l : Expr} {tl : TE} (hl : PE X l tl) : PI X tg l (iList X.K tl) := by
  intro pins s σ H R I h
  refine thn (hl pins s σ H _ I h) fun v s1 ⟨x, H1, I1, r1, q1⟩ => ?_
  obtain ⟨a, e, ⟨xs, hq⟩, q⟩ := q1
  subst e
  cases r1
  obtain ⟨its, rv, p, hz⟩ := I1.list hq
  refine wpAny_pyIter_list p.isList ?_
  refine ⟨s1.heap.objs.size, [s1.heap.objs.size], _, _, H1, rfl, I1.kept (t' := s1.toks) fun b o e => Heap.get?_push_of_some _ e, turn_list a _, ⟨_, Heap.get?_push_size _ rfl, rfl, rfl⟩, fun b hb => ?_, q⟩
  have e : b = s1.heap.objs.size := by simpa using hb
  subst e
  exact I1.fpOk (Nat.le_refl _) (I1.hok.fresh (Nat.le_refl _))
theorem pi_tup {l : Expr} {tl : TE} (hl : PE X l tl) : PI X tg l (iTup X.K tl) := by
  intro pins s σ H R I h
  refine thn (hl pins s σ H _ I h) fun v s1 ⟨x, H1, I1, r1, q1⟩ => ?_
  obtain ⟨a, e, ⟨xs, hq⟩, q⟩ := q1
  subst e
  cases r1
  obtain ⟨its, rv, p, hz⟩ := I1.tuple hq
  refine wpAny_pyIter_tuple (show s1.heap.IsTuple a its.toArray from p) ?_
  refine ⟨s1.heap.objs.size, [s1.heap.objs.size], _, _, H1, rfl, I1.kept (t' := s1.toks) fun b o e => Heap.get?_push_of_some _ e, turn_tuple a _, ⟨_, Heap.get?_push_size _ rfl, rfl, rfl⟩, fun b hb => ?_, q⟩
  have e : b = s1.heap.objs.size := by simpa using hb
  subst e
  exact I1.fpOk (Nat.le_refl _) (I1.hok.fresh (Nat.le_refl _))
/-- a range object just made, walked -/
theorem range_it {pins : List (Addr × Obj)} {σ : St} {H : Hp} {s : Shared} {R : It → Hp → Prop} {E : Value → Shared → Prop} {lo hi : Int} {t u v : Tok} {tk : Nat} (I : Inv X pins σ H s) (h1 : -(2 ^ 62) ≤ lo) (h2 : lo < 2 ^ 62) (h3 : -(2 ^ 62) ≤ hi) (h4 : hi < 2 ^ 62)
    (q : R (Itr lo (hi - lo).toNat) H) : wpAny (model X.prog X.w) X.A (pyIter (.ref s.heap.objs.size)) (PIE X pins σ tg R) E { s with heap := s.heap.push { cls := .type "range", data := .fields #[.int lo t, .int hi u, .int 1 v] }, toks := tk } := by
  refine wpAny_pyIter_range (IsRange.new ..) (small_one h1 h2 h3 h4) ?_
  have I1 : Inv X pins σ H { s with heap := s.heap.push { cls := .type "range", data := .fields #[.int lo t, .int hi u, .int 1 v] }, toks := tk } := I.kept fun b o e => Heap.get?_push_of_some _ e
  refine ⟨(s.heap.push { cls := .type "range", data := .fields #[.int lo t, .int hi u, .int 1 v] }).objs.size, [(s.heap.push { cls := .type "range", data := .fields #[.int lo t, .int hi u, .int 1 v] }).objs.size], _, _, H, rfl,
    I1.kept (t' := tk) fun b o e => Heap.get?_push_of_some _ e, turn_range _ lo (hi - lo).toNat, ?_, fun b hb => ?_, q⟩
  · have e1 : lo + ((0 : Nat) : Int) * 1 = lo := by simp
    have e2 : (((hi - lo).toNat : Nat) : Int) - ((0 : Nat) : Int) = Builtin.Range.rangeSize lo hi 1 := by rw [rangeSize_one]; split <;> omega
    show IsRangeIter _ _ (lo + ((0 : Nat) : Int) * 1) ((((hi - lo).toNat : Nat) : Int) - ((0 : Nat) : Int)) 1
    rw [e1, e2]
    exact Heap.get?_push_size _ rfl
  · have e : b = (s.heap.push { cls := .type "range", data := .fields #[.int lo t, .int hi u, .int 1 v] }).objs.size := by simpa using hb
    subst e
    exact I1.fpOk (Nat.le_refl _) (I1.hok.fresh (Nat.le_refl _))
def iRng1 (ta : TA) : TI := fun σ H R => ta σ H fun vs H1 => ∃ j : Int, vs = [.int j] ∧ -(2 ^ 62) ≤ j ∧ j < 2 ^ 62 ∧ R (Itr 0 j.toNat) H1
def iRng2 (ta : TA) : TI := fun σ H R => ta σ H fun vs H1 => ∃ i j : Int, vs = [.int i, .int j] ∧ (-(2 ^ 62) ≤ i ∧ i < 2 ^ 62 ∧ -(2 ^ 62) ≤ j ∧ j < 2 ^ 62) ∧ R (Itr i (j - i).toNat) H1
theorem pi_range1 {a : Expr} {ta : TA} {p pos : Pos} (hg : Gl X "range") (hm : X.mg "range" = none) (ha : PA X [a] ta) (hs : starEach [a] X.env = [(false, eval a X.env)] := by rfl) : PI X tg (.Call (.Name "range" p) [a] [] pos) (iRng1 ta) := by
  intro pins s σ H R I h
  refine Call_ (ld_blt I hg hm boot_range (PyProof.Rows.callWith_type1 (thn (ha pos pins s σ H _ I h) fun us s1 ⟨vs, H1, I1, r1, q1⟩ => ?_) hs rfl))
  obtain ⟨j, e, q1, q2, q⟩ := q1
  subst e
  cases r1 with
  | cons r rr =>
    cases rr
    obtain ⟨t, rfl⟩ := r
    exact call_range_1 (range_it I1 (by omega) (by omega) q1 q2 (by simpa using q))
theorem pi_range2 {a b : Expr} {ta : TA} {p pos : Pos} (hg : Gl X "range") (hm : X.mg "range" = none) (ha : PA X [a, b] ta) (hs : starEach [a, b] X.env = [(false, eval a X.env), (false, eval b X.env)] := by rfl) (hs2 : starEach [b] X.env = [(false, eval b X.env)] := by rfl) :
    PI X tg (.Call (.Name "range" p) [a, b] [] pos) (iRng2 ta) := by
  intro pins s σ H R I h
  refine Call_ (ld_blt I hg hm boot_range (PyProof.Rows.callWith_type1 (thn (ha pos pins s σ H _ I h) fun us s1 ⟨vs, H1, I1, r1, q1⟩ => ?_) (by rw [hs, hs2]) (by rw [hs2]; rfl)))
  obtain ⟨i, j, e, ⟨q1, q2, q3, q4⟩, q⟩ := q1
  subst e
  cases r1 with
  | cons r rr =>
    cases rr with
    | cons r' rr =>
      cases rr
      obtain ⟨t, rfl⟩ := r
      obtain ⟨t', rfl⟩ := r'
      exact call_range_2 (range_it I1 q1 q2 q3 q4 q)
/-- W: the invariant by the turn and a measure; N: what the body is to reach -/
def tFor (wi : TI) (g : TG) (tb : TS) : TS := fun D σ H => wi σ H fun J H1 => ∃ W : Nat → Nat → St → Hp → Prop, (∃ m, W 0 m σ H1) ∧ ∀ i m σ H, W i m σ H →
  (J.stop i H ∧ D.nx σ H) ∨ (J.go i H ∧ ∃ N : St → Hp → Prop, (∀ σ' H', N σ' H' → ∃ m', m' < m ∧ W (i + 1) m' σ' H') ∧ ∀ x H', J.yld i H x H' → g x σ H' fun σ2 H2 => tb { D with nx := N, ct := N, bk := D.nx } σ2 H2)
/-- the records at fp as they stand -/
def pinsAt (fp : List Addr) (h : Heap) : List (Addr × Obj) := fp.filterMap fun b => (h.get? b).map fun o => (b, o)
theorem mem_pinsAt {fp : List Addr} {h : Heap} {b : Addr} {o : Obj} (hb : b ∈ fp) (e : h.get? b = some o) : (b, o) ∈ pinsAt fp h := List.mem_filterMap.mpr ⟨b, hb, by rw [e]; rfl⟩
theorem of_pinsAt {fp : List Addr} {h : Heap} {p : Addr × Obj} (hp : p ∈ pinsAt fp h) : p.1 ∈ fp ∧ h.get? p.1 = some p.2 := by
  obtain ⟨b, hb, e⟩ := List.mem_filterMap.mp hp
  cases q : h.get? b with
  | none => rw [q] at e; cases e
  | some o =>
    rw [q] at e
    have e' : (b, o) = p := Option.some.inj e
    subst e'
    exact ⟨hb, q⟩
theorem Inv.pinned {pins : List (Addr × Obj)} {σ : St} {H : Hp} {s : Shared} {fp : List Addr} (I : Inv X pins σ H s) (hf : ∀ b ∈ fp, FpOk X pins H b) (ho : ∀ b ∈ fp, ∃ o, s.heap.get? b = some o ∧ ∀ v, o.data ≠ .cell v) : Inv X (pins ++ pinsAt fp s.heap) σ H s :=
  I.pins_of fun p hp => (List.mem_append.mp hp).elim (fun z => I.pin p (List.mem_append_right _ z)) fun z => by
    obtain ⟨hb, e⟩ := of_pinsAt z
    obtain ⟨f0, f1, f2, _⟩ := hf p.1 hb
    obtain ⟨o, e', d⟩ := ho p.1 hb
    rw [e] at e'; cases e'
    exact ⟨e, f0, f1, f2, d⟩
theorem Inv.unpinned {pins pl : List (Addr × Obj)} {σ : St} {H : Hp} {s : Shared} (I : Inv X (pins ++ pl) σ H s) : Inv X pins σ H s := I.pins_of fun p hp => I.pin p (List.mem_append_right _ (List.mem_append_left _ hp))
theorem ps_for {iter : Expr} {body : List Stmt} {wi : TI} {g : TG} {tb : TS} {pos : Pos} (hp : PassesOwn (model X.prog X.w) X.A X.env X.xe) (hc : X.calm = true) (hi : PI X tg iter wi) (hg : PG X tg g) (hb : PSs X body tb)
    (hs : ∀ x, foldedSetIterable iter X.env x = pure x := by intro _; rfl) : PS X (.For tg iter body [] pos) (tFor wi g tb) := by
  intro pins s σ H D I h
  refine wpAny_For (thn (hi pins s σ H _ I h) fun v s1 h1 => thn h1 fun itv s2 h2 => ?_) hs
  obtain ⟨it, fp, tn, J, H2, e, I2, T, st2, f2, W, ⟨m0, w0⟩, turn⟩ := h2
  subst e
  -- what stays true of the iterator's objects through the loop
  have stat : ∀ {H' : Hp}, (∀ b ∈ fp, H' b = none) → ∀ b ∈ fp, FpOk X pins H' b := fun hn b hb => ⟨hn b hb, (f2 b hb).2⟩
  refine codeAny_forLoop_any (fun n s' => ∃ i σ' H', Inv X pins σ' H' s' ∧ tn i s'.heap ∧ (∀ b ∈ fp, H' b = none) ∧ W i n σ' H') ?_ m0 ⟨0, σ, H2, I2, st2, fun b hb => (f2 b hb).1, w0⟩
  rintro n s3 ⟨i, σ3, H3, I3, st3, fr3, w3⟩
  rcases turn i n σ3 H3 w3 with ⟨stop, qn⟩ | ⟨go, N, hN, step⟩
  · refine wpAny_passesOwn hp (thn (T.done X rfl rfl rfl hc i pins s3 σ3 H3 X.xe I3 (stat fr3) st3 stop) fun r s4 ⟨hr, I4⟩ => ?_)
    subst hr
    exact wpAny_execs_nil ⟨σ3, H3, I4, qn⟩
  · refine wpAny_passesOwn hp (thn (T.item X rfl rfl rfl hc i pins s3 σ3 H3 X.xe I3 (stat fr3) st3 go) fun r s4 ⟨u, hr, h4⟩ => ?_)
    subst hr
    refine wpAny_passesOwn hp (thn h4 fun _ s5 ⟨x, H5, I5, r5, y5, st5, fr5⟩ => ?_)
    have I5' := I5.pinned (stat fr5) (T.obj _ _ st5)
    refine wpAny_passesOwn hp (thn (hg _ s5 σ3 H5 x u _ I5' r5 (step x H5 y5)) fun _ s6 ⟨σ6, H6, I6, q6⟩ => ?_)
    refine wpAny_passesOwn hp (thn (hb _ s6 σ6 H6 _ I6 q6) fun f s7 q7 => ?_)
    have again : ∀ {σ7 : St} {H7 : Hp}, Inv X (pins ++ pinsAt fp s5.heap) σ7 H7 s7 → N σ7 H7 → ∃ m, m < n ∧ ∃ i σ' H', Inv X pins σ' H' s7 ∧ tn i s7.heap ∧ (∀ b ∈ fp, H' b = none) ∧ W i m σ' H' := fun {σ7 H7} I7 n7 => by
      obtain ⟨m', hm, w7⟩ := hN σ7 H7 n7
      refine ⟨m', hm, i + 1, σ7, H7, I7.unpinned, T.keep _ _ _ st5 fun b hb o e => (I7.pin (b, o) (List.mem_append_right _ (List.mem_append_right _ (mem_pinsAt hb e)))).1, fun b hb => ?_, w7⟩
      obtain ⟨o, e, d⟩ := T.obj _ _ st5 b hb
      exact (I7.pin (b, o) (List.mem_append_right _ (List.mem_append_right _ (mem_pinsAt hb e)))).2.1
    cases f with
    | next => obtain ⟨σ7, H7, I7, n7⟩ := q7; exact again I7 n7
    | cont => obtain ⟨σ7, H7, I7, n7⟩ := q7; exact again I7 n7
    | brk => obtain ⟨σ7, H7, I7, q7⟩ := q7; exact ⟨σ7, H7, I7.unpinned, q7⟩
    | ret v => obtain ⟨x7, σ7, H7, I7, r7, q7⟩ := q7; exact ⟨x7, σ7, H7, I7.unpinned, r7, q7⟩
end
/-- over a list that the body leaves as it is -/
theorem for_list {K : PySem.W.Frag} {a : Addr} {xs : List V} {g : TG} {tb : TS} {D : Ends} {σ : St} {H : Hp} (Pv : Nat → St → Hp → Prop) (h0 : Pv 0 σ H) (hl : ∀ i σ H, i ≤ xs.length → Pv i σ H → SqL K H a xs)
    (hs : ∀ i x σ H, xs[i]? = some x → Pv i σ H → g x σ H fun σ2 H2 => tb { D with nx := Pv (i + 1), ct := Pv (i + 1), bk := D.nx } σ2 H2) (hd : ∀ σ H, Pv xs.length σ H → D.nx σ H) :
    ∃ W : Nat → Nat → St → Hp → Prop, (∃ m, W 0 m σ H) ∧ ∀ i m σ H, W i m σ H →
      ((Itl K a).stop i H ∧ D.nx σ H) ∨ ((Itl K a).go i H ∧ ∃ N : St → Hp → Prop, (∀ σ' H', N σ' H' → ∃ m', m' < m ∧ W (i + 1) m' σ' H') ∧ ∀ x H', (Itl K a).yld i H x H' → g x σ H' fun σ2 H2 => tb { D with nx := N, ct := N, bk := D.nx } σ2 H2) := by
  refine ⟨fun i m σ H => m = xs.length - i ∧ i ≤ xs.length ∧ Pv i σ H, ⟨xs.length, by simp, Nat.zero_le _, h0⟩, ?_⟩
  rintro i m σ H ⟨rfl, hi, p⟩
  have q := hl i σ H hi p
  by_cases hlt : i < xs.length
  · refine .inr ⟨⟨xs, xs[i], q, by simp [hlt]⟩, Pv (i + 1), fun σ' H' p' => ⟨xs.length - (i + 1), by omega, rfl, hlt, p'⟩, fun x H' y => ?_⟩
    obtain ⟨e, y⟩ := y
    subst e
    exact hs i x σ _ (y xs q) p
  · have e : i = xs.length := by omega
    subst e
    exact .inl ⟨⟨xs, q, Nat.le_refl _⟩, hd σ H p⟩
theorem for_range {lo : Int} {n : Nat} {g : TG} {tb : TS} {D : Ends} {σ : St} {H : Hp} (Pv : Nat → St → Hp → Prop) (h0 : Pv 0 σ H)
    (hs : ∀ i σ H, i < n → Pv i σ H → g (.int (lo + i)) σ H fun σ2 H2 => tb { D with nx := Pv (i + 1), ct := Pv (i + 1), bk := D.nx } σ2 H2) (hd : ∀ σ H, Pv n σ H → D.nx σ H) :
    ∃ W : Nat → Nat → St → Hp → Prop, (∃ m, W 0 m σ H) ∧ ∀ i m σ H, W i m σ H →
      ((Itr lo n).stop i H ∧ D.nx σ H) ∨ ((Itr lo n).go i H ∧ ∃ N : St → Hp → Prop, (∀ σ' H', N σ' H' → ∃ m', m' < m ∧ W (i + 1) m' σ' H') ∧ ∀ x H', (Itr lo n).yld i H x H' → g x σ H' fun σ2 H2 => tb { D with nx := N, ct := N, bk := D.nx } σ2 H2) := by
  refine ⟨fun i m σ H => m = n - i ∧ i ≤ n ∧ Pv i σ H, ⟨n, by simp, Nat.zero_le _, h0⟩, ?_⟩
  rintro i m σ H ⟨rfl, hi, p⟩
  by_cases hlt : i < n
  · refine .inr ⟨hlt, Pv (i + 1), fun σ' H' p' => ⟨n - (i + 1), by omega, rfl, hlt, p'⟩, fun x H' y => ?_⟩
    obtain ⟨e, y⟩ := y
    subst e y
    exact hs i σ _ hlt p
  · have e : i = n := by omega
    subst e
    exact .inl ⟨Nat.le_refl _, hd σ H p⟩
/-- while, by a word and a measure of the state -/
theorem while_by {c : TT} {tb : TS} {D : Ends} {σ : St} {H : Hp} (Pv : St → Hp → Prop) (μ : St → Hp → Nat) (h0 : Pv σ H)
    (hs : ∀ σ H, Pv σ H → c σ H fun b H1 => if b = true then tb { D with nx := fun σ' H' => Pv σ' H' ∧ μ σ' H' < μ σ H, ct := fun σ' H' => Pv σ' H' ∧ μ σ' H' < μ σ H, bk := D.nx } σ H1 else D.nx σ H1)
    (mono : ∀ σ H Q Q', (∀ b H1, Q b H1 → Q' b H1) → c σ H Q → c σ H Q') : tWhile c tb D σ H := by
  refine ⟨fun m σ H => m = μ σ H ∧ Pv σ H, ⟨_, rfl, h0⟩, ?_⟩
  rintro m σ H ⟨rfl, p⟩
  refine mono σ H _ _ (fun b H1 q => ?_) (hs σ H p)
  cases b with
  | true => exact ⟨_, fun σ' H' ⟨p', l⟩ => ⟨_, l, rfl, p'⟩, q⟩
  | false => exact q
end L2
namespace L2
open PySem PySem.Spec PyProof.Rows
abbrev R2 := V → V → Hp → VK → Prop
/-- a two-place operation on values: f is binaryOp op, inplaceOp op or compareOp op -/
def OpR (X : Cx) (f : Value → Value → Sem Value) (r : R2) : Prop :=
  ∀ (pins : List (Addr × Obj)) (s : Shared) (σ : St) (H : Hp) (x y : V) (v u : Value) (Q : VK), Inv X pins σ H s → RelV x v → RelV y u → r x y H Q →
    wpAny (model X.prog X.w) X.A (f v u) (EP X pins σ Q) X.xe s
/-- a call of a value that is known (a builtin, a type) with values -/
def CallR (X : Cx) (f : Value) (r : List V → Hp → VK → Prop) : Prop :=
  ∀ (pins : List (Addr × Obj)) (s : Shared) (σ : St) (H : Hp) (xs : List V) (us : List Value) (Q : VK), Inv X pins σ H s → Vals xs us → r xs H Q →
    wpAny (model X.prog X.w) X.A (call f us) (EP X pins σ Q) X.xe s
def tOp (r : R2) (ta tb : TE) : TE := fun σ H Q => ta σ H fun x H1 => tb σ H1 fun y H2 => r x y H2 Q
def tUn (r : V → Hp → VK → Prop) (ta : TE) : TE := fun σ H Q => ta σ H fun x H1 => r x H1 Q
/-- ints in, under C, and a value out -/
def rI (C : Int → Int → Prop) (g : Int → Int → V) : R2 := fun x y H Q => ∃ i j, x = .int i ∧ y = .int j ∧ C i j ∧ Q (g i j) H
def rI0 (g : Int → Int → V) : R2 := fun x y H Q => ∃ i j, x = .int i ∧ y = .int j ∧ Q (g i j) H
section
variable {X : Cx} {a b c : Expr} {ta tb tc : TE} {pos : Pos}
theorem binT (ha : PE X a ta) (hb : PE X b tb) {pins : List (Addr × Obj)} {s : Shared} {σ : St} {H : Hp} {R : V → V → Hp → Prop} (I : Inv X pins σ H s)
    (h : ta σ H fun x H1 => tb σ H1 fun y H2 => R x y H2) {Q : Value → Shared → Prop} {f : Value → Value → Sem Value}
    (hf : ∀ v u s2 x y H2, Inv X pins σ H2 s2 → RelV x v → RelV y u → R x y H2 → wpAny (model X.prog X.w) X.A (f v u) Q X.xe s2) :
    wpAny (model X.prog X.w) X.A (eval a X.env) (fun v s₁ => wpAny (model X.prog X.w) X.A (eval b X.env) (fun u s₂ => wpAny (model X.prog X.w) X.A (f v u) Q X.xe s₂) X.xe s₁) X.xe s := by
  refine thn (ha pins s σ H _ I h) fun v s1 ⟨x, H1, I1, r1, q1⟩ => ?_
  refine thn (hb pins s1 σ H1 _ I1 q1) fun u s2 ⟨y, H2, I2, r2, q2⟩ => ?_
  exact hf v u s2 x y H2 I2 r1 r2 q2
theorem pe_op {op : Operator} {r : R2} (ho : OpR X (binaryOp op) r) (ha : PE X a ta) (hb : PE X b tb) : PE X (.BinOp a op b pos) (tOp r ta tb) := by
  intro pins s σ H Q I h
  exact wpAny_BinOp (binT ha hb I h fun v u s2 x y H2 I2 rx ry q => ho pins s2 σ H2 x y v u Q I2 rx ry q)
theorem opI {f : Value → Value → Sem Value} {C : Int → Int → Prop} {g : Int → Int → Int}
    (rule : ∀ (i j : Int) (t u : Tok) (s : Shared) (Q : Value → Shared → Prop) (E : Value → Shared → Prop), C i j → Q (.int (g i j) s.toks) { s with toks := s.toks + 1 } → wpAny (model X.prog X.w) X.A (f (.int i t) (.int j u)) Q E s) :
    OpR X f (rI C fun i j => .int (g i j)) := by
  intro pins s σ H x y v u Q I rx ry h
  obtain ⟨i, j, rfl, rfl, hc, q⟩ := h
  obtain ⟨t, rfl⟩ := rx
  obtain ⟨t', rfl⟩ := ry
  exact rule i j t t' s _ _ hc ⟨.int (g i j), H, I.tok _, ⟨_, rfl⟩, q⟩
theorem opI0 {f : Value → Value → Sem Value} {g : Int → Int → Int}
    (rule : ∀ (i j : Int) (t u : Tok) (s : Shared) (Q : Value → Shared → Prop) (E : Value → Shared → Prop), Q (.int (g i j) s.toks) { s with toks := s.toks + 1 } → wpAny (model X.prog X.w) X.A (f (.int i t) (.int j u)) Q E s) :
    OpR X f (rI0 fun i j => .int (g i j)) := by
  intro pins s σ H x y v u Q I rx ry h
  obtain ⟨i, j, rfl, rfl, q⟩ := h
  obtain ⟨t, rfl⟩ := rx
  obtain ⟨t', rfl⟩ := ry
  exact rule i j t t' s _ _ ⟨.int (g i j), H, I.tok _, ⟨_, rfl⟩, q⟩
theorem opB0 {f : Value → Value → Sem Value} {g : Int → Int → Bool}
    (rule : ∀ (i j : Int) (t u : Tok) (s : Shared) (Q : Value → Shared → Prop) (E : Value → Shared → Prop), Q (.bool (g i j)) s → wpAny (model X.prog X.w) X.A (f (.int i t) (.int j u)) Q E s) :
    OpR X f (rI0 fun i j => .bl (g i j)) := by
  intro pins s σ H x y v u Q I rx ry h
  obtain ⟨i, j, rfl, rfl, q⟩ := h
  obtain ⟨t, rfl⟩ := rx
  obtain ⟨t', rfl⟩ := ry
  exact rule i j t t' s _ _ ⟨.bl (g i j), H, I, rfl, q⟩
def CDiv (i j : Int) : Prop := 0 < j ∧ j < 1073741824
def CMul (i j : Int) : Prop := (-(2 ^ 64) < i ∧ i < 2 ^ 64) ∨ (-(2 ^ 64) < j ∧ j < 2 ^ 64)
theorem CMul.ok {i j : Int} (h : CMul i j) : IntMulOk i j := by
  rcases h with ⟨h1, h2⟩ | ⟨h1, h2⟩
  · exact .of_left (intBits_le_64 h1 h2)
  · exact .of_right (intBits_le_64 h1 h2)
theorem op_add : OpR X (binaryOp .Add) (rI0 fun i j => .int (i + j)) := opI0 fun _ _ _ _ _ _ _ q => add_int q
theorem op_sub : OpR X (binaryOp .Sub) (rI0 fun i j => .int (i - j)) := opI0 fun _ _ _ _ _ _ _ q => sub_int q
theorem op_mul : OpR X (binaryOp .Mult) (rI CMul fun i j => .int (i * j)) := opI fun _ _ _ _ _ _ _ hc q => mul_int q hc.ok
/-- // by a positive divisor -/
theorem op_fdiv : OpR X (binaryOp .FloorDiv) (rI CDiv fun i j => .int (i / j)) := opI fun i j _ _ _ _ _ hc q => by
  have h1 : (0 : Int) < j := hc.1
  have h2 : j < 1073741824 := hc.2
  exact floordiv_int (by omega) (by rw [Int.fdiv_eq_ediv_of_nonneg i (by omega)]; exact q) (.inl (PyProof.noPylong_small (by omega)))
end
/-- the scalars that == tells apart as data does -/
def scal : V → V → Bool
  | .non, .non => true | .non, .int _ => true | .int _, .non => true | .non, .bl _ => true | .bl _, .non => true | .non, .str _ => true | .str _, .non => true
  | .int _, .int _ => true | .bl _, .bl _ => true | .str _, .str _ => true | .byt _, .byt _ => true
  | .int _, .str _ => true | .str _, .int _ => true | .bl _, .str _ => true | .str _, .bl _ => true
  | _, _ => false
def rEq : R2 := fun x y H Q => scal x y = true ∧ Q (.bl (decide (x = y))) H
def rNe : R2 := fun x y H Q => scal x y = true ∧ Q (.bl (!decide (x = y))) H
theorem dec_int {i j : Int} : decide (V.int i = V.int j) = (i == j) := by
  rw [Bool.eq_iff_iff]
  simp
theorem dec_bl {i j : Bool} : decide (V.bl i = V.bl j) = (i == j) := by
  rw [Bool.eq_iff_iff]
  simp
theorem dec_str {i j : Str} : decide (V.str i = V.str j) = (i == j) := by
  rw [Bool.eq_iff_iff]
  simp
theorem dec_byt {i j : Array UInt8} : decide (V.byt i = V.byt j) = (i.toList == j.toList) := by
  rw [Bool.eq_iff_iff]
  cases i
  cases j
  simp
section
variable {X : Cx} {a b c : Expr} {ta tb tc : TE} {pos : Pos}
theorem fin_bl {pins : List (Addr × Obj)} {σ : St} {H : Hp} {s : Shared} {Q : VK} {k k' : Bool} (I : Inv X pins σ H s) (q : Q (.bl k) H) (e : k = k') : EP X pins σ Q (.bool k') s := by
  subst e
  exact ⟨.bl k, H, I, rfl, q⟩
theorem op_eq : OpR X (compareOp .Eq) rEq := by
  intro pins s σ H x y v u Q I rx ry h
  obtain ⟨hs, q⟩ := h
  cases x with
  | non =>
    cases rx
    cases y with
    | non => cases ry; exact PySem.EqNone.eq_none_none (fin_bl I q (by simp))
    | bl j => cases ry; exact PySem.EqNone.eq_none_bool (fin_bl I q (by simp))
    | int j => obtain ⟨t', rfl⟩ := ry; exact PySem.EqNone.eq_none_int (fin_bl I q (by simp))
    | str j => obtain ⟨t', rfl⟩ := ry; exact PySem.EqNone.eq_none_str (fin_bl I q (by simp))
    | _ => exact absurd (show false = true from hs) Bool.false_ne_true
  | bl i =>
    cases rx
    cases y with
    | non => cases ry; exact PySem.EqNone.eq_bool_none (fin_bl I q (by simp))
    | bl j => cases ry; exact eq_bool (fin_bl I q dec_bl)
    | str j => obtain ⟨t', rfl⟩ := ry; exact PySem.EqMixed.eq_bool_str (fin_bl I q (by simp))
    | _ => exact absurd (show false = true from hs) Bool.false_ne_true
  | int i =>
    obtain ⟨t, rfl⟩ := rx
    cases y with
    | non => cases ry; exact PySem.EqNone.eq_int_none (fin_bl I q (by simp))
    | int j => obtain ⟨t', rfl⟩ := ry; exact eq_int (fin_bl I q dec_int)
    | str j => obtain ⟨t', rfl⟩ := ry; exact PySem.EqMixed.eq_int_str (fin_bl I q (by simp))
    | _ => exact absurd (show false = true from hs) Bool.false_ne_true
  | str i =>
    obtain ⟨t, rfl⟩ := rx
    cases y with
    | non => cases ry; exact PySem.EqNone.eq_str_none (fin_bl I q (by simp))
    | bl j => cases ry; exact PySem.EqMixed.eq_str_bool (fin_bl I q (by simp))
    | int j => obtain ⟨t', rfl⟩ := ry; exact PySem.EqMixed.eq_str_int (fin_bl I q (by simp))
    | str j => obtain ⟨t', rfl⟩ := ry; exact eq_str (fin_bl I q dec_str)
    | _ => exact absurd (show false = true from hs) Bool.false_ne_true
  | byt i =>
    obtain ⟨t, rfl⟩ := rx
    cases y with
    | byt j => obtain ⟨t', rfl⟩ := ry; exact PySem.W.eq_bytes (fin_bl I q dec_byt)
    | _ => exact absurd (show false = true from hs) Bool.false_ne_true
  | _ => cases y <;> exact absurd (show false = true from hs) Bool.false_ne_true
theorem op_ne : OpR X (compareOp .NotEq) rNe := by
  intro pins s σ H x y v u Q I rx ry h
  obtain ⟨hs, q⟩ := h
  cases x with
  | non =>
    cases rx
    cases y with
    | non => cases ry; exact PySem.EqNone.ne_none_none (fin_bl I q (by simp))
    | bl j => cases ry; exact PySem.EqNone.ne_none_bool (fin_bl I q (by simp))
    | int j => obtain ⟨t', rfl⟩ := ry; exact PySem.EqNone.ne_none_int (fin_bl I q (by simp))
    | str j => obtain ⟨t', rfl⟩ := ry; exact PySem.EqNone.ne_none_str (fin_bl I q (by simp))
    | _ => exact absurd (show false = true from hs) Bool.false_ne_true
  | bl i =>
    cases rx
    cases y with
    | non => cases ry; exact PySem.EqNone.ne_bool_none (fin_bl I q (by simp))
    | bl j => cases ry; exact ne_bool (fin_bl I q (congrArg not dec_bl))
    | str j => obtain ⟨t', rfl⟩ := ry; exact PySem.EqMixed.ne_bool_str (fin_bl I q (by simp))
    | _ => exact absurd (show false = true from hs) Bool.false_ne_true
  | int i =>
    obtain ⟨t, rfl⟩ := rx
    cases y with
    | non => cases ry; exact PySem.EqNone.ne_int_none (fin_bl I q (by simp))
    | int j => obtain ⟨t', rfl⟩ := ry; exact ne_int (fin_bl I q (congrArg not dec_int))
    | str j => obtain ⟨t', rfl⟩ := ry; exact PySem.EqMixed.ne_int_str (fin_bl I q (by simp))
    | _ => exact absurd (show false = true from hs) Bool.false_ne_true
  | str i =>
    obtain ⟨t, rfl⟩ := rx
    cases y with
    | non => cases ry; exact PySem.EqNone.ne_str_none (fin_bl I q (by simp))
    | bl j => cases ry; exact PySem.EqMixed.ne_str_bool (fin_bl I q (by simp))
    | int j => obtain ⟨t', rfl⟩ := ry; exact PySem.EqMixed.ne_str_int (fin_bl I q (by simp))
    | str j => obtain ⟨t', rfl⟩ := ry; exact ne_str (fin_bl I q (congrArg not dec_str))
    | _ => exact absurd (show false = true from hs) Bool.false_ne_true
  | byt i =>
    obtain ⟨t, rfl⟩ := rx
    cases y with
    | byt j => obtain ⟨t', rfl⟩ := ry; exact PySem.W.ne_bytes (fin_bl I q (congrArg not dec_byt))
    | _ => exact absurd (show false = true from hs) Bool.false_ne_true
  | _ => cases y <;> exact absurd (show false = true from hs) Bool.false_ne_true
theorem op_lt : OpR X (compareOp .Lt) (rI0 fun i j => .bl (decide (i < j))) := opB0 fun _ _ _ _ _ _ _ q => lt_int q
theorem op_le : OpR X (compareOp .LtE) (rI0 fun i j => .bl (decide (i ≤ j))) := opB0 fun _ _ _ _ _ _ _ q => le_int q
theorem op_gt : OpR X (compareOp .Gt) (rI0 fun i j => .bl (decide (j < i))) := opB0 fun _ _ _ _ _ _ _ q => gt_int q
theorem op_ge : OpR X (compareOp .GtE) (rI0 fun i j => .bl (decide (j ≤ i))) := opB0 fun _ _ _ _ _ _ _ q => ge_int q
/-- is None, is not None: the right side a value none -/
theorem op_isN : OpR X (compareOp .Is) (fun x y H Q => y = .non ∧ Q (.bl (decide (x = .non))) H) := by
  intro pins s σ H x y v u Q I rx ry h
  obtain ⟨rfl, q⟩ := h
  cases ry
  refine is_none_gen (fin_bl I q ?_)
  cases x <;> first
    | (cases rx; rfl)
    | (obtain ⟨t, rfl⟩ := rx; rfl)
theorem op_notN : OpR X (compareOp .IsNot) (fun x y H Q => y = .non ∧ Q (.bl (!decide (x = .non))) H) := by
  intro pins s σ H x y v u Q I rx ry h
  obtain ⟨rfl, q⟩ := h
  cases ry
  refine isnot_none_gen (fin_bl I q ?_)
  cases x <;> first
    | (cases rx; rfl)
    | (obtain ⟨t, rfl⟩ := rx; rfl)
theorem nomark (b : Expr) {op : CmpOp} (h : op ≠ .In := by decide) (h2 : op ≠ .NotIn := by decide) : behindInMarks op b = false := by
  have e1 : (op == CmpOp.In) = false := by cases op <;> first | rfl | exact absurd rfl h
  have e2 : (op == CmpOp.NotIn) = false := by cases op <;> first | rfl | exact absurd rfl h2
  cases b <;> simp [behindInMarks, e1, e2]
/-- a comparison as a value; hm: nomark b, or (for in, not in) by with_unfolding_all rfl -/
theorem pe_cmpR {op : CmpOp} {r : R2} (ho : OpR X (compareOp op) r) (ha : PE X a ta) (hb : PE X b tb) (hm : behindInMarks op b = false) : PE X (.Compare a [op] [b] pos) (tOp r ta tb) := by
  intro pins s σ H Q I h
  exact wpAny_Compare1 (binT ha hb I h fun v u s2 x y H2 I2 rx ry q => ho pins s2 σ H2 x y v u Q I2 rx ry q) hm
/-- a reading of a value as a test -/
def tTest (t : TE) : TT := fun σ H Q => t σ H fun x H' => ∃ k, x = .bl k ∧ Q k H'
theorem pt_cmpR {op : CmpOp} {r : R2} (ho : OpR X (compareOp op) r) (ha : PE X a ta) (hb : PE X b tb) (hm : behindInMarks op b = false) : PT X (.Compare a [op] [b] pos) (tTest (tOp r ta tb)) := by
  intro pins s σ H Q I h
  refine wpAny_isTrue_Compare1 (thn (ha pins s σ H _ I h) fun v s1 ⟨x, H1, I1, r1, q1⟩ => thn (hb pins s1 σ H1 _ I1 q1) fun u s2 ⟨y, H2, I2, r2, q2⟩ =>
    thn (ho pins s2 σ H2 x y v u _ I2 r1 r2 q2) fun c s3 ⟨z, H3, I3, r3, k, e, q3⟩ => ?_) hm
  subst e
  cases r3
  exact wpAny_truthy_bool ⟨H3, I3, q3⟩
theorem line63 : (sizeLine : Nat) < 2 ^ 63 := by rw [sizeLine_eq]; decide
theorem vals1 {x : V} {us : List Value} (r : Vals [x] us) : ∃ u, us = [u] ∧ RelV x u := by
  cases r with
  | cons r1 r2 => cases r2; exact ⟨_, rfl, r1⟩
theorem vals2 {x y : V} {us : List Value} (r : Vals [x, y] us) : ∃ u w', us = [u, w'] ∧ RelV x u ∧ RelV y w' := by
  cases r with
  | cons r1 r2 =>
    cases r2 with
    | cons r3 r4 => cases r4; exact ⟨_, _, rfl, r1, r3⟩
theorem call_max2 (hc : X.calm = true) : CallR X (.builtin "max") (fun xs H Q => ∃ i j, xs = [.int i, .int j] ∧ Q (.int (if j > i then j else i)) H) := by
  intro pins s σ H xs us Q I r h
  obtain ⟨i, j, rfl, q⟩ := h
  obtain ⟨u, w', rfl, ⟨t, rfl⟩, ⟨t', rfl⟩⟩ := vals2 r
  refine max_two_ints (I.ok.hd hc) fun h' tk k => ⟨_, H, I.kept k, ?_, q⟩
  by_cases hj : j > i
  · rw [if_pos hj, if_pos hj]; exact ⟨_, rfl⟩
  · rw [if_neg hj, if_neg hj]; exact ⟨_, rfl⟩
theorem call_min2 (hc : X.calm = true) : CallR X (.builtin "min") (fun xs H Q => ∃ i j, xs = [.int i, .int j] ∧ Q (.int (if j < i then j else i)) H) := by
  intro pins s σ H xs us Q I r h
  obtain ⟨i, j, rfl, q⟩ := h
  obtain ⟨u, w', rfl, ⟨t, rfl⟩, ⟨t', rfl⟩⟩ := vals2 r
  refine min_two_ints (I.ok.hd hc) fun h' tk k => ⟨_, H, I.kept k, ?_, q⟩
  by_cases hj : j < i
  · rw [if_pos hj, if_pos hj]; exact ⟨_, rfl⟩
  · rw [if_neg hj, if_neg hj]; exact ⟨_, rfl⟩
end
end L2
namespace L2
open PySem PySem.Spec PyProof.Rows
structure ObjM (h : Heap) (x dx C : Addr) (mA : Str → Option Value) : Prop where
  obj : h.get? x = some (PySem.W.instObj C dx)
  ns : h.Ns1 dx mA
  ne : dx ≠ x
theorem lookIn_ns {h : Heap} {dx : Addr} {mA : Str → Option Value} (n : h.Ns1 dx mA) : ∃ od, h.get? dx = some od ∧ ∀ name, PySem.W.lookIn name od = some (mA name) := by
  obtain ⟨o, es, ep, ho, hd, hk, _, hm⟩ := n
  refine ⟨o, ho, fun name => ?_⟩
  have e := hm name
  unfold nsFind findBy at e
  rw [← Array.find?_toList] at e
  unfold PySem.W.lookIn
  rw [hd]
  dsimp only
  split
  · rename_i y q
    rw [q] at e
    exact congrArg some e
  · rename_i q
    rw [q] at e
    have a : es.toList.any (·.refKey) = false := by
      rw [List.any_eq_false]
      intro y hy
      obtain ⟨z, t, hkey⟩ := hk y (Array.mem_toList_iff.mp hy)
      simp [DictEntry.refKey, hkey]
    have a' : ¬ es.toList.any (·.refKey) = true := by rw [a]; exact Bool.false_ne_true
    rw [if_neg a']
    exact congrArg some e
theorem ObjM.look {h : Heap} {x dx C : Addr} {mA : Str → Option Value} (I : ObjM h x dx C mA) : ∃ od, PySem.W.InstAt h x (PySem.W.instObj C dx) C (some od) ∧ ∀ name, PySem.W.lookIn name od = some (mA name) :=
  let ⟨od, ho, hl⟩ := lookIn_ns I.ns
  ⟨od, ⟨I.obj, rfl, rfl, ho⟩, hl⟩
section
variable {prog : Program} {w : World} {A : Around} {E : Value → Shared → Prop} {s : Shared} {K : PySem.W.Frag} {x dx C f : Addr} {mA : Str → Option Value} {name : Str} {v : Value}
theorem get_map {expr : Bool} {Q : Value → Shared → Prop} (X : K.In s.heap) (I : ObjM s.heap x dx C mA) (hg : PySem.W.plainGet K C name = true) (hh : PySem.W.hasDictIn K C = true)
    (ha : PySem.W.findIn K (.ref C) name = some none) (hv : mA name = some v) (hv' : PySem.W.handedIn v = true) (h : Q v { s with toks := s.toks + 1 }) :
    wpAny (model prog w) A (getAttr (.ref x) name expr) Q E s := by
  obtain ⟨od, J, hl⟩ := I.look
  exact PySem.W.get_value X J (PySem.W.plainGet_of hg).1 (PySem.W.findObj_own hh ha rfl (by rw [hl, hv])) hv' h
theorem get_meth {pl : Sem Bool} {Q : Value × List Value → Shared → Prop} (X : K.In s.heap) (I : ObjM s.heap x dx C mA) (hg : PySem.W.plainGet K C name = true)
    (hf : PySem.W.findIn K (.ref C) name = some (some (.ref f))) (ht : PySem.W.isFn K (.ref f) = true) (hv : mA name = none) (h : Q (.ref f, [.ref x]) s) :
    wpAny (model prog w) A (getMethod (.ref x) name pl) Q E s := by
  obtain ⟨od, J, hl⟩ := I.look
  exact PySem.W.method_fn X J (PySem.W.plainGet_of hg).1 (PySem.W.plainGet_of hg).2 hf (beq_iff_eq.mp ht) (by show (PySem.W.lookIn name od).map (·.isSome) = some false; rw [hl, hv]; rfl) h
theorem set_map {ns : List Str} {Q : Unit → Shared → Prop} (X : K.In s.heap) (I : ObjM s.heap x dx C mA)
    (hs : PySem.W.findIn K (.ref C) "__setattr__" = some (some (.builtin "object.__setattr__"))) (hp : PySem.W.plainOver K C = true) (ht : PySem.W.takerIn K C name = some none) (hh : PySem.W.hasDictIn K C = true)
    (hw : PySem.Within mA ns) (hsz : ns.length ≤ sizeLine)
    (h : ∀ h', ObjM h' x dx C (fun y => if y = name then some v else mA y) → Heap.SameBut dx s.heap h' → Q () { s with heap := h', toks := s.toks + 2 }) :
    wpAny (model prog w) A (setAttr (.ref x) name v) Q E s := by
  obtain ⟨od, J, hl⟩ := I.look
  refine PySem.W.set_plain X J hs (PySem.W.osa_open (s := { s with toks := s.toks + 1 }) (r := none) X J hp ht fun b => ?_)
  obtain ⟨cd, hc, hd'⟩ := PySem.W.any_some hh
  have hx : s.heap.get? x = some ⟨.ref C, some dx, .plain, #[]⟩ := I.obj
  refine wpAny_bind (wpAny_pure (wpAny_bind (wpAny_bind (wpAny_loadPart hx (wpAny_bind (PySem.W.Looks.here (s := { s with toks := s.toks + 1 }) (PySem.W.looks_clsIn X hc) ?_))))))
  rw [hd']
  refine wpAny_pure (a := some dx) (wpAny_bind (wpAny_pure (wpAny_bind ?_)))
  refine wpAny_nsSet1 (s := { s with toks := s.toks + 1 }) I.ns fun h' hn2 hs2 => ?_
  obtain ⟨oD, esD, epD, hoD, hdD, hcD⟩ := hn2.count (PySem.Within.cons name v hw)
  refine wpAny_bind (wpAny_lookBehind hoD (by rw [hdD]; exact pastItsLine_dict (Nat.le_trans hcD (by rw [List.length_cons]; omega))) ?_)
  exact wpAny_pure (h _ ⟨(hs2.2 _ (Ne.symm I.ne)).trans I.obj, hn2, I.ne⟩ hs2)
/-- C(..): the dict at the heap's end, the instance behind it; then its __init__ -/
theorem make_map {R : Result → Shared → Prop} {vs : List Value} {kw : List (Str × Value)} (X : K.In s.heap) (hm : PySem.W.makesIn K C = true)
    (hi : PySem.W.findIn K (.ref C) "__init__" = some (some (.ref f))) (hf : PySem.W.typeIn K (.ref f) = some (.type "function"))
    (h : codeAny (model prog w) (A.under (.builtin "type.__call__" ⟨.ref C :: vs, kw⟩)) (.call (.ref f) ⟨.ref (s.heap.objs.size + 1) :: vs, kw⟩) (PySem.W.InitBack (s.heap.objs.size + 1) R)
      { s with heap := (s.heap.push PySem.W.emptyDict).push (PySem.W.instObj C s.heap.objs.size) }) :
    codeAny (model prog w) A (.call (.ref C) ⟨vs, kw⟩) R s := by
  obtain ⟨hh, g, d, t, os⟩ := s
  exact PySem.W.make_core (PySem.W.makes_of X hm) (PySem.W.looks_findIn X hi) (fun self => PySem.W.bind_fn X self hf) (.inl rfl) h
end
def putF (f : Str) (v : V) : List (Str × V) → List (Str × V)
  | [] => [(f, v)]
  | (g, x) :: r => if g = f then (g, v) :: r else (g, x) :: putF f v r
theorem lookup_putF (f g : Str) (v : V) : ∀ fs : List (Str × V), (putF f v fs).lookup g = if g = f then some v else fs.lookup g
  | [] => by
    show List.lookup g [(f, v)] = _
    by_cases h : g = f
    · have hb : (g == f) = true := beq_iff_eq.mpr h
      simp only [List.lookup, hb, if_pos h]
    · have hb : (g == f) = false := beq_eq_false_iff_ne.mpr h
      simp only [List.lookup, hb, if_neg h]
  | (k, x) :: r => by
    have ih := lookup_putF f g v r
    rw [show putF f v ((k, x) :: r) = (if k = f then (k, v) :: r else (k, x) :: putF f v r) from rfl]
    by_cases hk : k = f
    · rw [if_pos hk]
      by_cases h : g = k
      · have hb : (g == k) = true := beq_iff_eq.mpr h
        simp only [List.lookup, hb, if_pos (h.trans hk)]
      · have hb : (g == k) = false := beq_eq_false_iff_ne.mpr h
        simp only [List.lookup, hb, if_neg (fun e : g = f => h (e.trans hk.symm))]
    · rw [if_neg hk]
      by_cases h : g = k
      · have hb : (g == k) = true := beq_iff_eq.mpr h
        simp only [List.lookup, hb, if_neg (fun e : g = f => hk (h.symm.trans e))]
      · have hb : (g == k) = false := beq_eq_false_iff_ne.mpr h
        simp only [List.lookup, hb]
        exact ih
theorem keys_putF (f : Str) (v : V) : ∀ fs : List (Str × V), f ∈ (putF f v fs).map (·.1) ∧ ∀ g, g ∈ fs.map (·.1) → g ∈ (putF f v fs).map (·.1)
  | [] => ⟨by simp [putF], fun g h => by simp at h⟩
  | (k, x) :: r => by
    obtain ⟨i1, i2⟩ := keys_putF f v r
    rw [show putF f v ((k, x) :: r) = (if k = f then (k, v) :: r else (k, x) :: putF f v r) from rfl]
    by_cases hk : k = f
    · rw [if_pos hk]
      subst hk
      exact ⟨by simp, fun g h => by simpa using h⟩
    · rw [if_neg hk]
      refine ⟨?_, fun g h => ?_⟩
      · rw [List.map_cons]
        exact List.mem_cons_of_mem _ i1
      · rw [List.map_cons] at h ⊢
        rcases List.mem_cons.mp h with e | e
        · exact List.mem_cons.mpr (.inl e)
        · exact List.mem_cons_of_mem _ (i2 g e)
theorem length_putF (f : Str) (v : V) : ∀ fs : List (Str × V), (putF f v fs).length ≤ fs.length + 1
  | [] => by simp [putF]
  | (k, x) :: r => by
    have ih := length_putF f v r
    rw [show putF f v ((k, x) :: r) = (if k = f then (k, v) :: r else (k, x) :: putF f v r) from rfl]
    by_cases hk : k = f
    · rw [if_pos hk, List.length_cons, List.length_cons]; omega
    · rw [if_neg hk, List.length_cons, List.length_cons]; omega
theorem RelO.some_of {v : V} {o : Option Value} (r : RelO (some v) o) : ∃ u, o = some u ∧ RelV v u := by
  cases o with
  | none => exact (show False from r).elim
  | some u => exact ⟨u, rfl, r⟩
theorem RelO.none_of {o : Option Value} (r : RelO none o) : o = none := by
  cases o with
  | none => rfl
  | some u => exact (show False from r).elim
theorem handed_of {v : V} {u : Value} (r : RelV v u) : PySem.W.handedIn u = true := by
  cases v with
  | non => cases (show u = Value.none from r); rfl
  | bl b => cases (show u = Value.bool b from r); rfl
  | int i => obtain ⟨t, e⟩ := (show ∃ t, u = Value.int i t from r); cases e; rfl
  | str x => obtain ⟨t, e⟩ := (show ∃ t, u = Value.str x t from r); cases e; rfl
  | byt b => obtain ⟨t, e⟩ := (show ∃ t, u = Value.bytes b t from r); cases e; rfl
  | flt b => obtain ⟨t, e⟩ := (show ∃ t, u = Value.float b t from r); cases e; rfl
  | ref a => cases (show u = Value.ref a from r); rfl
  | ty n => cases (show u = Value.type n from r); rfl
section
variable {P : Program} {w : World} {H H' : Hp} {h h' : Heap} {a C dx : Addr} {fs fs' : List (Str × V)}
theorem ins_get (hok : HOk P w H h) (e : H a = some (.ins C dx fs)) : ∃ mA, ObjM h a dx C mA ∧ (∀ f, RelO (fs.lookup f) (mA f)) ∧ PySem.Within mA (fs.map (·.1)) ∧ fs.length ≤ 1000 ∧ H dx = some (.own a) := by
  obtain ⟨d, z, ne, ob, mA, n, r, q⟩ := (show ObjOk P w H h a (.ins C dx fs) from hok a _ e)
  exact ⟨mA, ⟨ob, n, ne⟩, r, q, z, d⟩
end
structure Cls (K : PySem.W.Frag) (C : Addr) : Prop where
  pg : PySem.W.plainGet K C Str.empty = true
  hd : PySem.W.hasDictIn K C = true
  po : PySem.W.plainOver K C = true
  sa : PySem.W.findIn K (.ref C) "__setattr__" = some (some (.builtin "object.__setattr__"))
theorem Cls.get {K : PySem.W.Frag} {C : Addr} (c : Cls K C) (f : Str) : PySem.W.plainGet K C f = true := c.pg
/-- no class of it has the name -/
def NoAttr (K : PySem.W.Frag) (C : Addr) (f : Str) : Prop := PySem.W.findIn K (.ref C) f = some none
theorem NoAttr.taker {K : PySem.W.Frag} {C : Addr} {f : Str} (n : NoAttr K C f) : PySem.W.takerIn K C f = some none := by
  unfold PySem.W.takerIn
  rw [show PySem.W.findIn K (.ref C) f = some none from n]
  rfl
/-- a method: a plain def of the class or of one above it -/
structure Meth (K : PySem.W.Frag) (C : Addr) (m : Str) (f : Addr) : Prop where
  at_ : PySem.W.findIn K (.ref C) m = some (some (.ref f))
  fn : PySem.W.isFn K (.ref f) = true
  kp : PySem.W.keepIn K (.ref f) = true
section
variable {X : Cx} {pins : List (Addr × Obj)} {σ : St} {H : Hp} {s : Shared} {a C dx : Addr} {fs : List (Str × V)} {f : Str} {v : V} {A : Around} {E : Value → Shared → Prop}
theorem getattr_ok {b : Bool} {Q : Value → Shared → Prop} (I : Inv X pins σ H s) (e : H a = some (.ins C dx fs)) (c : Cls X.K C) (n : NoAttr X.K C f) (l : fs.lookup f = some v)
    (h : ∀ u s', Inv X pins σ H s' → RelV v u → Q u s') : wpAny (model X.prog X.w) A (getAttr (.ref a) f b) Q E s := by
  obtain ⟨mA, O, r, _, _, _⟩ := ins_get I.hok e
  obtain ⟨u, hu, ru⟩ := RelO.some_of (v := v) (o := mA f) (by rw [← l]; exact r f)
  exact get_map I.kIn O (c.get f) c.hd n hu (handed_of ru) (h u _ (I.tok _) ru)
theorem getmeth_ok {m : Str} {g : Addr} {pl : Sem Bool} {Q : Value × List Value → Shared → Prop} (I : Inv X pins σ H s) (e : H a = some (.ins C dx fs)) (c : Cls X.K C) (k : Meth X.K C m g) (l : fs.lookup m = none)
    (h : Q (.ref g, [.ref a]) s) : wpAny (model X.prog X.w) A (getMethod (.ref a) m pl) Q E s := by
  obtain ⟨mA, O, r, _, _, _⟩ := ins_get I.hok e
  have hn : mA m = none := RelO.none_of (by rw [← l]; exact r m)
  exact get_meth I.kIn O (c.get m) k.at_ k.fn hn h
theorem setattr_ok {y : V} {u : Value} {Q : Unit → Shared → Prop} (I : Inv X pins σ H s) (e : H a = some (.ins C dx fs)) (c : Cls X.K C) (n : NoAttr X.K C f) (hl : fs.length < 1000) (ry : RelV y u)
    (h : ∀ s', Inv X pins σ (upd H a (.ins C dx (putF f y fs))) s' → Q () s') : wpAny (model X.prog X.w) A (setAttr (.ref a) f u) Q E s := by
  obtain ⟨mA, O, r, wi, _, ho⟩ := ins_get I.hok e
  have hz : (fs.map (·.1)).length ≤ sizeLine := by rw [List.length_map, sizeLine_eq]; omega
  refine set_map I.kIn O c.sa c.po n.taker c.hd wi hz fun h' O' sb => h _ ?_
  have hd : ∃ o, h'.get? dx = some o := let ⟨o, _, _, e', _⟩ := O'.ns; ⟨o, e'⟩
  refine I.write (x := a) (e := dx) (by rw [e]; exact True.intro) (.inr ho) (fun b q hb z => (sb.2 b hb).trans z) hd ?_
  refine ⟨by rw [upd_ne O.ne]; exact ho, ?_, O.ne, O'.obj, _, O'.ns, fun g => ?_, fun g hg => ?_⟩
  · have := length_putF f y fs; omega
  · show RelO ((putF f y fs).lookup g) (if g = f then some u else mA g)
    rw [lookup_putF]
    by_cases q : g = f
    · rw [if_pos q, if_pos q]; exact ry
    · rw [if_neg q, if_neg q]; exact r g
  · by_cases q : g = f
    · rw [q]; exact (keys_putF f y fs).1
    · refine (keys_putF f y fs).2 g (wi g fun z => hg ?_)
      show (if g = f then some u else mA g) = none
      rw [if_neg q]; exact z
/-- a new instance, tracked, without attributes -/
theorem Inv.made (I : Inv X pins σ H s) : Inv X pins σ (upd (upd H s.heap.objs.size (.own (s.heap.objs.size + 1))) (s.heap.objs.size + 1) (.ins C s.heap.objs.size []))
    { s with heap := (s.heap.push PySem.W.emptyDict).push (PySem.W.instObj C s.heap.objs.size) } := by
  have e1 : (s.heap.push PySem.W.emptyDict).get? s.heap.objs.size = some PySem.W.emptyDict := Heap.get?_push_size s.heap rfl
  have e2 : ((s.heap.push PySem.W.emptyDict).push (PySem.W.instObj C s.heap.objs.size)).get? (s.heap.objs.size + 1) = some (PySem.W.instObj C s.heap.objs.size) := by
    have := Heap.get?_push_size (s.heap.push PySem.W.emptyDict) (o := PySem.W.instObj C s.heap.objs.size) rfl
    rwa [Heap.size_push] at this
  have e3 : (s.heap.push PySem.W.emptyDict).Ns s.heap.objs.size (fun _ => none) := ⟨PySem.W.emptyDict, #[], _, e1, rfl, (fun e he => absurd he (by simp)), fun _ => rfl⟩
  have I1 := I.laid (a := s.heap.objs.size) (o := .own (s.heap.objs.size + 1)) (h' := s.heap.push PySem.W.emptyDict) (t' := s.toks) (fun b u q => Heap.get?_push_of_some _ q) (Nat.le_refl _) ⟨_, e1⟩
  refine I1.laid (a := s.heap.objs.size + 1) (o := .ins C s.heap.objs.size []) (t' := s.toks) (fun b u q => Heap.get?_push_of_some _ q) (Nat.le_of_eq (Heap.size_push _ _)) ?_
  have ne : s.heap.objs.size ≠ s.heap.objs.size + 1 := Nat.ne_of_lt (Nat.lt_succ_self _)
  refine ⟨by rw [upd_ne ne, upd_same], Nat.zero_le _, ne, e2, fun _ => none, (Heap.Ns1.of_empty e3).at fun o q => Heap.get?_push_of_some _ q, fun _ => True.intro, fun y hy => absurd rfl hy⟩
/-- e.f where nothing but the object is asked: through attributeBase (super) and the last hold -/
theorem attr_of {prog : Program} {w : World} {env : Env} {e : Expr} {f : Str} {pos : Pos} {s : Shared} {Q : Value → Shared → Prop} (hb : attributeBase e f env (eval e env) = eval e env)
    (h : wpAny (model prog w) A (eval e env) (fun o s₁ => wpAny (model prog w) A (getAttr o f true) Q E s₁) E s) : wpAny (model prog w) A (eval (.Attribute e f pos) env) Q E s :=
  Attribute_any_ h (by rw [arm_eval_Attribute, hb])
end
/-- e.f, an attribute of the instance -/
def tFld (K : PySem.W.Frag) (ta : TE) (f : Str) : TE := fun σ H Q => ta σ H fun x H1 => ∃ a C dx fs v, x = .ref a ∧ H1 a = some (.ins C dx fs) ∧ Cls K C ∧ NoAttr K C f ∧ fs.lookup f = some v ∧ Q v H1
/-- e.f = value -/
def sFld (K : PySem.W.Frag) (ta tv : TE) (f : Str) : TS := fun D σ H => tv σ H fun y H1 => ta σ H1 fun x H2 => ∃ a C dx fs, x = .ref a ∧ H2 a = some (.ins C dx fs) ∧ Cls K C ∧ NoAttr K C f ∧ fs.length < 1000 ∧
  D.nx σ (upd H2 a (.ins C dx (putF f y fs)))
/-- an augmented operator on two values -/
def InOp (X : Cx) (op : Operator) (rd : V → V → Hp → VK → Prop) : Prop :=
  ∀ (pins : List (Addr × Obj)) (s : Shared) (σ : St) (H : Hp) (x y : V) (u v : Value) (Q : VK), Inv X pins σ H s → RelV x u → RelV y v → rd x y H Q → wpAny (model X.prog X.w) X.A (inplaceOp op u v) (EP X pins σ Q) X.xe s
/-- e.f op= value -/
def sFldAug (K : PySem.W.Frag) (ta tv : TE) (rd : V → V → Hp → VK → Prop) (f : Str) : TS := fun D σ H => ta σ H fun x H1 => ∃ a C dx fs v, x = .ref a ∧ H1 a = some (.ins C dx fs) ∧ Cls K C ∧ NoAttr K C f ∧ fs.lookup f = some v ∧
  tv σ H1 fun y H2 => rd v y H2 fun z H3 => ∃ dx' fs', H3 a = some (.ins C dx' fs') ∧ fs'.length < 1000 ∧ D.nx σ (upd H3 a (.ins C dx' (putF f z fs')))
section
variable {X : Cx} {o e value : Expr} {f : Str} {pos pos' tpos : Pos} {ta tv : TE}
theorem pe_fld (he : PE X e ta) (hb : attributeBase e f X.env (eval e X.env) = eval e X.env) : PE X (.Attribute e f pos) (tFld X.K ta f) := by
  intro pins s σ H Q I h
  refine attr_of hb (thn (he pins s σ H _ I h) fun u s1 ⟨x, H1, I1, rx, a, C, dx, fs, v, ex, ea, c, n, l, q⟩ => ?_)
  subst ex
  obtain rfl : u = Value.ref a := rx
  exact getattr_ok I1 ea c n l fun u' s2 I2 ru => ⟨v, H1, I2, ru, q⟩
theorem ps_fld (ha : PE X o ta) (hv : PE X value tv) (hs : swapsWith value (some (.Attribute o f pos')) pos.line X.env = pure false) : PS X (.Assign [.Attribute o f pos'] value pos) (sFld X.K ta tv f) := by
  intro pins s σ H D I h
  refine plainObj_wpAny_Assign_Attribute (thn (hv pins s σ H _ I h) fun u s1 ⟨y, H1, I1, ry, q⟩ => thn (ha pins s1 σ H1 _ I1 q) fun ov s2 ⟨x, H2, I2, rx, a, C, dx, fs, ex, ea, c, n, l, q2⟩ => ?_) hs
  subst ex
  obtain rfl : ov = Value.ref a := rx
  exact setattr_ok I2 ea c n l ry fun s3 I3 => ⟨σ, _, I3, q2⟩
theorem ps_fldaug {op : Operator} {rd : V → V → Hp → VK → Prop} (ha : PE X o ta) (hv : PE X value tv) (hop : InOp X op rd) : PS X (.AugAssign (.Attribute o f tpos) op value pos) (sFldAug X.K ta tv rd f) := by
  intro pins s σ H D I h
  refine wpAny_AugAssign_AttributeAny (thn (ha pins s σ H _ I h) fun ov s1 ⟨x, H1, I1, rx, a, C, dx, fs, v, ex, ea, c, n, l, q⟩ => ?_)
  subst ex
  obtain rfl : ov = Value.ref a := rx
  refine getattr_ok I1 ea c n l fun u s2 I2 ru => thn (hv pins s2 σ H1 _ I2 q) fun w3 s3 ⟨y, H2, I3, ry, q3⟩ => thn (hop pins s3 σ H2 v y u w3 _ I3 ru ry q3) fun w4 s4 ⟨z, H3, I4, rz, dx', fs', ea', l', q4⟩ => ?_
  exact setattr_ok I4 ea' c n l' rz fun s5 I5 => ⟨σ, _, I5, q4⟩
def rAdd : V → V → Hp → VK → Prop := fun x y H Q => ∃ i j, x = .int i ∧ y = .int j ∧ Q (.int (i + j)) H
def rSub : V → V → Hp → VK → Prop := fun x y H Q => ∃ i j, x = .int i ∧ y = .int j ∧ Q (.int (i - j)) H
theorem in_add : InOp X .Add rAdd := by
  rintro pins s σ H x y u v Q I rx ry ⟨i, j, rfl, rfl, q⟩
  obtain ⟨t, rfl⟩ := (show ∃ t, u = Value.int i t from rx)
  obtain ⟨t', rfl⟩ := (show ∃ t', v = Value.int j t' from ry)
  exact PyProof.Rows.iadd_int ⟨.int (i + j), H, I.tok _, ⟨_, rfl⟩, q⟩
theorem in_sub : InOp X .Sub rSub := by
  rintro pins s σ H x y u v Q I rx ry ⟨i, j, rfl, rfl, q⟩
  obtain ⟨t, rfl⟩ := (show ∃ t, u = Value.int i t from rx)
  obtain ⟨t', rfl⟩ := (show ∃ t', v = Value.int j t' from ry)
  exact PyProof.Rows.isub_int ⟨.int (i - j), H, I.tok _, ⟨_, rfl⟩, q⟩
end
section
variable {X : Cx} {pins : List (Addr × Obj)} {σ : St} {H : Hp} {s : Shared} {A : Around} {E : Value → Shared → Prop} {Q : Value → Shared → Prop} {c : Value} {b : Bool}
end
end L2
namespace L2
open PySem PySem.Spec PyProof.Rows
structure Room (k : Nat) (A : Around) : Prop where
  hd : A.handled = none
  dp : A.depth + 3 * k + 5 < recursionLimit
  un : A.units + 16 * k + 200 < cLine
theorem Room.mono {j k : Nat} {A : Around} (r : Room k A) (h : j ≤ k) : Room j A := ⟨r.hd, by have := r.dp; omega, by have := r.un; omega⟩
theorem Room.deeper {k : Nat} {A : Around} (r : Room (k + 1) A) (env : Env) : Room k (A.deeper env) :=
  ⟨r.hd, by have := r.dp; show A.depth + 1 + 3 * k + 5 < _; omega, by have := r.un; show A.units + 3 + 16 * k + 200 < _; omega⟩
theorem make_depth {A : Around} {C : Addr} {us : List Value} {kw : List (Str × Value)} : (A.under (.builtin "type.__call__" ⟨.ref C :: us, kw⟩)).depth = A.depth + 1 := by
  first | rfl | simp [Around.under, Code.weight, Code.isCreation, Code.isGuard, Code.isCaller, Code.frames, Code.isFrame, guardIds]
theorem make_units {A : Around} {C : Addr} {us : List Value} {kw : List (Str × Value)} : (A.under (.builtin "type.__call__" ⟨.ref C :: us, kw⟩)).units = A.units + 1 := by
  first | rfl | simp [Around.under, Code.cUnits, Code.frames, Code.isFrame]
theorem Room.make {k : Nat} {A : Around} (r : Room (k + 1) A) (C : Addr) (us : List Value) (kw : List (Str × Value)) : Room k (A.under (.builtin "type.__call__" ⟨.ref C :: us, kw⟩)) :=
  ⟨r.hd, by have := r.dp; rw [make_depth]; omega, by have := r.un; rw [make_units]; omega⟩
theorem Room.depth {k : Nat} {A : Around} (r : Room k A) : A.depth < recursionLimit := by have := r.dp; omega
theorem Room.units {k : Nat} {A : Around} (r : Room k A) : A.units + 64 < cLine := by have := r.un; omega
def tNil : TA := fun _ H Q => Q [] H
def tCons (ta : TE) (tr : TA) : TA := fun σ H Q => ta σ H fun x H1 => tr σ H1 fun xs H2 => Q (x :: xs) H2
section
variable {X : Cx} {e : Expr} {es : List Expr} {te : TE} {t : TA} {pos : Pos}
theorem pa_nil : PA X [] tNil := fun _ _ _ _ H Q I h => Calls.spliced_nil ⟨[], H, I, .nil, h⟩
theorem pa_cons (ha : PE X e te) (hr : PA X es t) (hs : starEach (e :: es) X.env = (false, eval e X.env) :: starEach es X.env := by rfl) : PA X (e :: es) (tCons te t) := by
  intro pos pins s σ H Q I h
  rw [hs]
  show wpAny _ _ (spliced ((false, eval e X.env) :: backTo pos (starEach es X.env))) _ _ s
  refine Calls.spliced_cons (thn (ha pins s σ H _ I h) fun u s1 ⟨x, H1, I1, r1, q1⟩ => ?_)
  exact thn (hr pos pins s1 σ H1 _ I1 q1) fun us s2 ⟨xs, H2, I2, r2, q2⟩ => ⟨x :: xs, H2, I2, .cons r1 r2, q2⟩
/-- a tuple, a list of written items -/
def tTup (t : TA) : TE := fun σ H Q => t σ H fun xs H1 => xs.length ≤ sizeLine ∧ ∀ p, H1 p = none → Q (.ref p) (upd H1 p (.tup xs))
def tLst (t : TA) : TE := fun σ H Q => t σ H fun xs H1 => xs.length ≤ sizeLine ∧ ∀ p, H1 p = none → Q (.ref p) (upd H1 p (.lst xs))
theorem pe_tup {x1} (h : PA X es t) : PE X (.Tuple es x1 pos) (tTup t) := by
  intro pins s σ H Q I hq
  refine wpAny_Tuple_spliced (thn (h pos pins s σ H _ I hq) fun us s1 ⟨xs, H1, I1, r, z, q⟩ => ⟨by rw [← r.length]; exact z, ?_⟩)
  have hf : H1 s1.heap.objs.size = none := I1.hok.fresh (Nat.le_refl _)
  refine ⟨.ref s1.heap.objs.size, upd H1 s1.heap.objs.size (.tup xs), I1.laid (t' := s1.toks) (fun b u e => Heap.get?_push_of_some _ e) (Nat.le_refl _) ?_, rfl, q _ hf⟩
  exact ⟨z, us, r, ⟨_, Heap.get?_push_size _ rfl, rfl, _, rfl⟩⟩
theorem pe_lst (h : PA X es t) : PE X (.List es pos) (tLst t) := by
  intro pins s σ H Q I hq
  refine wpAny_List_spliced (thn (h pos pins s σ H _ I hq) fun us s1 ⟨xs, H1, I1, r, z, q⟩ => ⟨by rw [← r.length]; exact z, ?_⟩)
  have hf : H1 s1.heap.objs.size = none := I1.hok.fresh (Nat.le_refl _)
  refine ⟨.ref s1.heap.objs.size, upd H1 s1.heap.objs.size (.lst xs), I1.laid (t' := s1.toks) (fun b u e => Heap.get?_push_of_some _ e) (Nat.le_refl _) ?_, rfl, q _ hf⟩
  exact ⟨z, us, 0, r, Heap.get?_push_size _ rfl⟩
end
/-- a def's promise: the bound arguments in the parameters' order, the heap, the wanted end, the wanted exception -/
abbrev Sp := List V → Hp → VK → XK → Prop
/-- how an exception lies behind a call (file 08 gives it): the callers' frames, abstract heap and state ahead of the call, the wish, the exception, the state -/
abbrev CXT := List Env → Hp → Shared → XK → Value → Shared → Prop
/-- the state at a call -/
structure Env0 (P : Program) (w : World) (K : PySem.W.Frag) (mg : Str → Option Value) (base : Heap) (A : Around) (outer : List Env) (s : Shared) (H : Hp) : Prop where
  frames : A.frames = some outer
  mod : Mod K mg base
  bs : ∀ b o, base.get? b = some o → s.heap.get? b = some o ∧ H b = none
  bsz : base.objs.size ≤ s.heap.objs.size
  funs : s.heap.FunFrames base outer
  frf : ∀ b ∈ frs outer, H b = none
  hok : HOk P w H s.heap
  bare : AllBare s.gens
/-- a call's end -/
def CE (outer : List Env) (P : Program) (w : World) (H : Hp) (s : Shared) (Q : VK) (u : Value) (s' : Shared) : Prop :=
  ∃ v H', s'.os = s.os ∧ AllBare s'.gens ∧ Un (frs outer) [] H H' s.heap s'.heap ∧ HOk P w H' s'.heap ∧ RelV v u ∧ Q v H'
def CR (CX : CXT) (outer : List Env) (P : Program) (w : World) (H : Hp) (s : Shared) (Q : VK) (E : XK) (r : Result) (s' : Shared) : Prop :=
  match r with
  | .ok (.ret u) => CE outer P w H s Q u s'
  | .ok _ => False
  | .error e => CX outer H s E e s'
structure FnOk (P : Program) (w : World) (K : PySem.W.Frag) (mg : Str → Option Value) (base : Heap) (CX : CXT) (k : Nat) (f : Addr) (fd : FuncData) (ps : List Str) (sp : Sp) : Prop where
  len : ∀ vs H Q E, sp vs H Q E → vs.length = ps.length
  run : ∀ (A : Around) (outer : List Env) (s : Shared) (H : Hp) (args : Args) (us : List Value) (vs : List V) (Q : VK) (E : XK), Room k A → Env0 P w K mg base A outer s H → BindsTo s fd args (ps.zip us) → Vals vs us → sp vs H Q E →
    codeAny (model P w) A (.call (.ref f) args) (CR CX outer P w H s Q E) s
theorem FnOk.mono {P : Program} {w : World} {K : PySem.W.Frag} {mg : Str → Option Value} {base : Heap} {CX : CXT} {j k : Nat} {f : Addr} {fd : FuncData} {ps : List Str} {sp : Sp} (F : FnOk P w K mg base CX j f fd ps sp) (h : j ≤ k) :
    FnOk P w K mg base CX k f fd ps sp := ⟨F.len, fun A outer s H args us vs Q E hr => F.run A outer s H args us vs Q E (hr.mono h)⟩
/-- a weaker promise -/
theorem FnOk.imp {P : Program} {w : World} {K : PySem.W.Frag} {mg : Str → Option Value} {base : Heap} {CX : CXT} {k : Nat} {f : Addr} {fd : FuncData} {ps : List Str} {sp sp' : Sp} (F : FnOk P w K mg base CX k f fd ps sp)
    (h : ∀ vs H Q E, sp' vs H Q E → sp vs H Q E) : FnOk P w K mg base CX k f fd ps sp' :=
  ⟨fun vs H Q E q => F.len vs H Q E (h _ _ _ _ q), fun A outer s H args us vs Q E hr he hb hv hs => F.run A outer s H args us vs Q E hr he hb hv (h _ _ _ _ hs)⟩
theorem Env0.make {P : Program} {w : World} {K : PySem.W.Frag} {mg : Str → Option Value} {base : Heap} {A : Around} {outer : List Env} {s : Shared} {H : Hp} (e : Env0 P w K mg base A outer s H) (C : Addr) (us : List Value) (kw : List (Str × Value)) :
    Env0 P w K mg base (A.under (.builtin "type.__call__" ⟨.ref C :: us, kw⟩)) outer s H := ⟨by first | exact e.frames | (simpa [Around.under, Code.envs, Code.isFrame, pushEnvs] using e.frames), e.mod, e.bs, e.bsz, e.funs, e.frf, e.hok, e.bare⟩
section
variable {X : Cx} {pins : List (Addr × Obj)} {σ : St} {H : Hp} {s s' : Shared}
/-- from a body: what a callee wants -/
theorem Inv.env0 (I : Inv X pins σ H s) : Env0 X.prog X.w X.K X.mg X.base X.A X.stack s H :=
  ⟨I.ok.frames, I.ok.mod, I.bs, Nat.le_trans I.ok.bsz I.sz, I.stack, I.stkFree, I.hok, I.bare⟩
/-- behind a call -/
theorem Inv.after {Q : VK} {u : Value} (I : Inv X pins σ H s) (h : CE X.stack X.prog X.w H s Q u s') : EP X pins σ Q u s' := by
  obtain ⟨v, H', os, bare, un, hok, r, q⟩ := h
  obtain ⟨hh, g, d, t, os'⟩ := s'
  obtain rfl : os' = s.os := os
  exact ⟨v, H', I.call (h' := hh) (g' := g) (d' := d) (t' := t) (ch := []) un hok bare (fun b z => absurd z (by simp)), r, q⟩
end
/-- f(..): the written arguments, then the defaults dvs; E: what is wanted of an exception -/
def tCall (sp : Sp) (dvs : List V) (E : XK) (t : TA) : TE := fun σ H Q => t σ H fun vs H1 => sp (vs ++ dvs) H1 Q E
/-- o.m(..) of an instance of the class at C -/
def tMeth (C : Addr) (m : Str) (sp : Sp) (dvs : List V) (E : XK) (ta : TE) (t : TA) : TE := fun σ H Q => ta σ H fun x H1 => ∃ a dx fs, x = .ref a ∧ H1 a = some (.ins C dx fs) ∧ fs.lookup m = none ∧
  t σ H1 fun vs H2 => sp (x :: (vs ++ dvs)) H2 Q E
/-- C(..): a new instance and its dict, then __init__ -/
def tMake (C : Addr) (sp : Sp) (dvs : List V) (E : XK) (t : TA) : TE := fun σ H Q => t σ H fun vs H1 => ∀ x dx, H1 x = none → H1 dx = none → dx ≠ x →
  sp (.ref x :: (vs ++ dvs)) (upd (upd H1 dx (.own x)) x (.ins C dx [])) (fun v H2 => v = .non ∧ Q (.ref x) H2) E
/-- how the parameters are bound: us the positional arguments, kw the keywords' values by name, ds the defaults that fill up -/
def Binds (K : PySem.W.Frag) (fd : FuncData) (ps : List Str) (ds : List Value) : Prop :=
  ∀ (s : Shared) (us : List Value), K.In s.heap → (us ++ ds).length = ps.length → BindsTo s fd ⟨us, []⟩ (ps.zip (us ++ ds))
/-- every parameter is given -/
theorem Binds.all {K : PySem.W.Frag} {fd : FuncData} {ps : List Str} (h : ∀ us : List Value, us.length = ps.length → bindArgs fd ⟨us, []⟩ = pure (ps.zip us)) : Binds K fd ps [] := fun s us _ hl => by
  rw [List.append_nil] at hl ⊢
  exact .of_eq (h us hl)
/-- an exception of a callee reaches what this body wants of exceptions -/
def Passes (CX : CXT) (X : Cx) (E : XK) : Prop := ∀ (pins : List (Addr × Obj)) (σ : St) (H : Hp) (s : Shared) (e : Value) (s' : Shared), Inv X pins σ H s → CX X.stack H s E e s' → X.xe e s'
section
variable {X : Cx} {CX : CXT} {k : Nat} {f C : Addr} {fd : FuncData} {ps : List Str} {sp : Sp} {dvs : List V} {ds : List Value} {E : XK} {x m : Str} {p pos apos : Pos} {e o : Expr} {es : List Expr} {ta : TE} {t : TA}
/-- the callee runs -/
theorem run_fn {pins : List (Addr × Obj)} {σ : St} {H : Hp} {s : Shared} {Q : VK} {us : List Value} {vs : List V} (F : FnOk X.prog X.w X.K X.mg X.base CX k f fd ps sp) (hr : Room k X.A) (hb : Binds X.K fd ps ds) (hd : Vals dvs ds) (hx : Passes CX X E)
    (I : Inv X pins σ H s) (r : Vals vs us) (h : sp (vs ++ dvs) H Q E) : wpAny (model X.prog X.w) X.A (call (.ref f) us) (EP X pins σ Q) X.xe s := by
  have r2 : Vals (vs ++ dvs) (us ++ ds) := r.append hd
  have hl : (us ++ ds).length = ps.length := by rw [← r2.length]; exact F.len _ _ _ _ h
  refine wpAny_call (codeAny_mono (F.run X.A X.stack s H ⟨us, []⟩ (us ++ ds) (vs ++ dvs) Q E hr I.env0 (hb s us I.kIn hl) r2 h) fun r s' hq => ?_)
  cases r with
  | error e => exact hx pins σ H s e s' I hq
  | ok fl =>
    cases fl with
    | ret u => exact I.after hq
    | next => exact False.elim hq
    | brk => exact False.elim hq
    | cont => exact False.elim hq
theorem pe_call (F : FnOk X.prog X.w X.K X.mg X.base CX k f fd ps sp) (hr : Room k X.A) (hg : Gl X x) (hm : X.mg x = some (.ref f)) (hk : PySem.W.keepIn X.K (.ref f) = true) (hb : Binds X.K fd ps ds) (hd : Vals dvs ds) (hx : Passes CX X E)
    (ha : PA X (e :: es) t) (hdb : (x == ("__debug__" : Str)) = false := by decide) (he : starEach (e :: es) X.env = (false, eval e X.env) :: starEach es X.env := by rfl) (hpl : (backTo pos (starEach es X.env)).any (·.1) = false := by rfl) :
    PE X (.Call (.Name x p) (e :: es) [] pos) (tCall sp dvs E t) := by
  intro pins s σ H Q I h
  refine wpAny_Call_Name_kw (ld_glob I hg hm ?_ hdb)
  refine PySem.W.callWith_K (h₀ := X.base) I.ok.mod.kin hk (thn (ha pos pins s σ H _ I h) fun us s1 ⟨vs, H1, I1, r, q⟩ => ⟨I1.kIn, ?_⟩) he hpl
  exact run_fn F hr hb hd hx I1 r q
/-- o.m(e, ..) -/
theorem pe_meth {pl : Sem Bool} (he : PE X o ta) (c : Cls X.K C) (hm : Meth X.K C m f) (F : FnOk X.prog X.w X.K X.mg X.base CX k f fd ps sp) (hr : Room k X.A) (hb : Binds X.K fd ps ds) (hd : Vals dvs ds) (hx : Passes CX X E) (ha : PA X (e :: es) t)
    (hst : starEach (e :: es) X.env = (false, eval e X.env) :: starEach es X.env := by rfl) (hpl : (backTo pos (starEach es X.env)).any (·.1) = false := by rfl)
    (ht : eval (.Call (.Attribute o m apos) (e :: es) [] pos) X.env = (do
      let ov ← eval o X.env
      standAt apos.atName
      let (f, first) ← holding [ov] (getMethod ov m pl)
      callWith pos f first (backTo pos (starEach (e :: es) X.env)) (backToKw pos (keywordEach [] X.env))) := by rfl) :
    PE X (.Call (.Attribute o m apos) (e :: es) [] pos) (tMeth C m sp dvs E ta t) := by
  intro pins s σ H Q I h
  refine PySem.W.methodCall_KW (pl := pl) (thn (he pins s σ H _ I h) fun u s1 ⟨x, H1, I1, rx, a, dx, fs, ex, ea, l, q⟩ => ?_) ht
  subst ex
  obtain rfl : u = Value.ref a := rx
  refine getmeth_ok I1 ea c hm l ?_
  refine PySem.W.callWith_K (first := [.ref a]) (h₀ := X.base) I.ok.mod.kin hm.kp (thn (ha pos pins s1 σ H1 _ I1 q) fun us s2 ⟨vs, H2, I2, r, q2⟩ => ⟨I2.kIn, ?_⟩) hst hpl
  exact run_fn (us := .ref a :: us) (vs := .ref a :: vs) F hr hb hd hx I2 (.cons rfl r) q2
/-- what a class must have to be made -/
structure Mk (K : PySem.W.Frag) (C f : Addr) : Prop where
  makes : PySem.W.makesIn K C = true
  init : PySem.W.findIn K (.ref C) "__init__" = some (some (.ref f))
  fn : PySem.W.isFn K (.ref f) = true
  kp : PySem.W.keepIn K (.ref C) = true
theorem run_make {pins : List (Addr × Obj)} {σ : St} {H : Hp} {s : Shared} {Q : VK} {us : List Value} {vs : List V} (M : Mk X.K C f) (F : FnOk X.prog X.w X.K X.mg X.base CX k f fd ps sp) (hr : Room (k + 1) X.A) (hb : Binds X.K fd ps ds) (hd : Vals dvs ds)
    (hx : Passes CX X E) (I : Inv X pins σ H s) (r : Vals vs us)
    (h : ∀ x dx, H x = none → H dx = none → dx ≠ x → sp (.ref x :: (vs ++ dvs)) (upd (upd H dx (.own x)) x (.ins C dx [])) (fun v H2 => v = .non ∧ Q (.ref x) H2) E) :
    wpAny (model X.prog X.w) X.A (call (.ref C) us) (EP X pins σ Q) X.xe s := by
  have hq := h (s.heap.objs.size + 1) s.heap.objs.size (I.hok.fresh (Nat.le_succ _)) (I.hok.fresh (Nat.le_refl _)) (Nat.ne_of_lt (Nat.lt_succ_self _))
  have I2 := Inv.made (C := C) I
  have r2 : Vals (V.ref (s.heap.objs.size + 1) :: (vs ++ dvs)) (Value.ref (s.heap.objs.size + 1) :: (us ++ ds)) := .cons rfl (r.append hd)
  have hl : (Value.ref (s.heap.objs.size + 1) :: us ++ ds).length = ps.length := by
    have e := r2.length
    rw [F.len _ _ _ _ hq] at e
    exact e.symm
  refine wpAny_call (make_map (f := f) I.kIn M.makes M.init (beq_iff_eq.mp M.fn) (codeAny_mono (F.run _ X.stack _ _ ⟨Value.ref (s.heap.objs.size + 1) :: us, []⟩ (Value.ref (s.heap.objs.size + 1) :: (us ++ ds)) _ _ E (hr.make C us [])
    (I2.env0.make C us []) (hb _ (Value.ref (s.heap.objs.size + 1) :: us) I2.kIn hl) r2 hq) fun r s' hq' => ?_))
  cases r with
  | error e => exact hx pins σ _ _ e s' I2 hq'
  | ok fl =>
    cases fl with
    | ret u =>
      obtain ⟨v, H', I3, rv, ev, q3⟩ := I2.after hq'
      subst ev
      exact ⟨rv, ⟨V.ref (s.heap.objs.size + 1), H', I3, rfl, q3⟩⟩
    | next => exact False.elim hq'
    | brk => exact False.elim hq'
    | cont => exact False.elim hq'
theorem pe_make (M : Mk X.K C f) (F : FnOk X.prog X.w X.K X.mg X.base CX k f fd ps sp) (hr : Room (k + 1) X.A) (hg : Gl X x) (hm : X.mg x = some (.ref C)) (hb : Binds X.K fd ps ds) (hd : Vals dvs ds) (hx : Passes CX X E)
    (ha : PA X (e :: es) t) (hdb : (x == ("__debug__" : Str)) = false := by decide) (he : starEach (e :: es) X.env = (false, eval e X.env) :: starEach es X.env := by rfl) (hpl : (backTo pos (starEach es X.env)).any (·.1) = false := by rfl) :
    PE X (.Call (.Name x p) (e :: es) [] pos) (tMake C sp dvs E t) := by
  intro pins s σ H Q I h
  refine wpAny_Call_Name_kw (ld_glob I hg hm ?_ hdb)
  refine PySem.W.callWith_K (h₀ := X.base) I.ok.mod.kin M.kp (thn (ha pos pins s σ H _ I h) fun us s1 ⟨vs, H1, I1, r, q⟩ => ⟨I1.kIn, ?_⟩) he hpl
  exact run_make M F hr hb hd hx I1 r q
theorem pe_make0 (M : Mk X.K C f) (F : FnOk X.prog X.w X.K X.mg X.base CX k f fd ps sp) (hr : Room (k + 1) X.A) (hg : Gl X x) (hm : X.mg x = some (.ref C)) (hb : Binds X.K fd ps ds) (hd : Vals dvs ds) (hx : Passes CX X E)
    (hdb : (x == ("__debug__" : Str)) = false := by decide) : PE X (.Call (.Name x p) [] [] pos) (tMake C sp dvs E tNil) := by
  intro pins s σ H Q I h
  refine wpAny_Call_Name_kw (ld_glob I hg hm ?_ hdb)
  exact PySem.W.callWith_K0 I.kIn M.kp (run_make (us := []) M F hr hb hd hx I .nil h)
end
section
variable {X : Cx} {CX : CXT} {k : Nat} {f C : Addr} {fd : FuncData} {ps ks : List Str} {sp : Sp} {E : XK} {x m : Str} {p pos apos kpos : Pos} {e o : Expr} {es : List Expr} {kws : List Keyword} {te ta : TE} {t tk : TA} {nm : Option Str}
variable {g : List Value → List Value → List Value} {gV : List V → List V → List V}
end
/-- names: the parameters first -/
structure FnScope (N P : List Str) (sc : Scope) : Prop where
  kind : sc.kind = .function
  co : sc.isCoroutine = false
  gen : sc.isGenerator = false
  nd : N.Nodup
  pre : N.take P.length = P
  par : ∀ x ∈ P, sc.names.lookup x = some .local ∨ sc.names.lookup x = some .cell
  nofree : ∀ y ∈ sc.names, y.2 ≠ .free
theorem bindL_out {kindOf : Str → Option NameKind} {x : Str} : ∀ {binds : List (Str × Value)} {m : Str → Option Value}, (∀ v, (x, v) ∉ binds) → bindL kindOf binds m x = m x
  | [], _, _ => rfl
  | (n, v) :: r, m, h => by
    unfold bindL
    rw [bindL_out fun w hw => h w (List.mem_cons_of_mem _ hw)]
    split
    · have : x ≠ n := by rintro rfl; exact h v List.mem_cons_self
      simp [this]
    · rfl
theorem bindC_out {kindOf : Str → Option NameKind} {x : Str} : ∀ {binds : List (Str × Value)} {m : Str → Option Value}, (∀ v, (x, v) ∉ binds) → bindC kindOf binds m x = m x
  | [], _, _ => rfl
  | (n, v) :: r, m, h => by
    unfold bindC
    rw [bindC_out fun w hw => h w (List.mem_cons_of_mem _ hw)]
    split
    · rfl
    · have : x ≠ n := by rintro rfl; exact h v List.mem_cons_self
      simp [this]
theorem bindL_get {kindOf : Str → Option NameKind} {x : Str} {v : Value} : ∀ {P : List Str} {vs : List Value} {i : Nat} {m : Str → Option Value}, P.Nodup → P[i]? = some x → vs[i]? = some v → kindOf x = some .local →
    bindL kindOf (P.zip vs) m x = some v
  | [], _, _, _, _, h, _, _ => by simp at h
  | _ :: _, [], _, _, _, _, h, _ => by simp at h
  | p :: P, w :: vs, 0, m, nd, h1, h2, hk => by
    simp at h1 h2; subst h1; subst h2
    show bindL kindOf ((p, w) :: P.zip vs) m p = _
    unfold bindL
    rw [bindL_out fun v hv => (List.nodup_cons.mp nd).1 (List.of_mem_zip hv).1, if_pos hk]
    simp
  | p :: P, w :: vs, i + 1, m, nd, h1, h2, hk => by
    show bindL kindOf ((p, w) :: P.zip vs) m x = _
    unfold bindL
    exact bindL_get (i := i) (List.nodup_cons.mp nd).2 (by simpa using h1) (by simpa using h2) hk
theorem bindC_get {kindOf : Str → Option NameKind} {x : Str} {v : Value} : ∀ {P : List Str} {vs : List Value} {i : Nat} {m : Str → Option Value}, P.Nodup → P[i]? = some x → vs[i]? = some v → kindOf x ≠ some .local →
    bindC kindOf (P.zip vs) m x = some v
  | [], _, _, _, _, h, _, _ => by simp at h
  | _ :: _, [], _, _, _, _, h, _ => by simp at h
  | p :: P, w :: vs, 0, m, nd, h1, h2, hk => by
    simp at h1 h2; subst h1; subst h2
    show bindC kindOf ((p, w) :: P.zip vs) m p = _
    unfold bindC
    rw [bindC_out fun v hv => (List.nodup_cons.mp nd).1 (List.of_mem_zip hv).1, if_neg hk]
    simp
  | p :: P, w :: vs, i + 1, m, nd, h1, h2, hk => by
    show bindC kindOf ((p, w) :: P.zip vs) m x = _
    unfold bindC
    exact bindC_get (i := i) (List.nodup_cons.mp nd).2 (by simpa using h1) (by simpa using h2) hk
/-- the names' values at the entry -/
def start (N : List Str) (vs : List V) : St := vs.map some ++ List.replicate (N.length - vs.length) none
/-- the context of a def's body, at its entry; an exception leaves the frame, then lies as CX says -/
def cxOf (CX : CXT) (P : Program) (w : World) (K : PySem.W.Frag) (mg : Str → Option Value) (base : Heap) (N : List Str) (qual : Str) (scope : Scope) (f : Addr) (cd : Value) (A : Around) (outer : List Env) (s : Shared) (H : Hp) (E : XK) : Cx where
  prog := P
  w := w
  K := K
  mg := mg
  base := base
  A := A.deeper (envOfC qual scope s.heap.objs.size f cd)
  N := N
  s_0 := s
  H_0 := H
  env := envOfC qual scope s.heap.objs.size f cd
  outer := outer
  stack := envOfC qual scope s.heap.objs.size f cd :: outer
  ex := []
  calm := true
  fn := fun _ => true
  pn := []
  xe := fun e s' => wpAny (model P w) (A.deeper (envOfC qual scope s.heap.objs.size f cd)) (leaving (envOfC qual scope s.heap.objs.size f cd) e) (fun _ s'' => CX outer H s E e s'') (fun e' s'' => CX outer H s E e' s'') s'
theorem cell_has {sc : Scope} {n : Nat} {x : Str} (h : sc.names.lookup x = some .cell) : ∃ c, (cellsFrom n sc.names []).lookup x = some c := by
  have q := PySem.W.cellsFrom_some sc.names n [] (.inl h)
  exact Option.isSome_iff_exists.mp q
theorem inv_start {CX : CXT} {P : Program} {w : World} {K : PySem.W.Frag} {mg : Str → Option Value} {base : Heap} {N ps : List Str} {qual : Str} {scope : Scope} {f : Addr} {cd : Value} {A : Around} {outer : List Env} {s s1 : Shared} {H : Hp} {E : XK} {us : List Value} {vs : List V}
    (S : FnScope N ps scope) (hd : A.handled = none) (e0 : Env0 P w K mg base A outer s H) (hl : vs.length = ps.length) (r : Vals vs us)
    (x : InCallC s s.heap.objs.size (bindL (envOfC qual scope s.heap.objs.size f cd).kindOf (ps.zip us) fun _ => none) (cellsFrom (s.heap.objs.size + 1) scope.names []) (bindC (envOfC qual scope s.heap.objs.size f cd).kindOf (ps.zip us) fun _ => none) s1) :
    Inv (cxOf CX P w K mg base N qual scope f cd A outer s H E) [] (start N vs) H s1 := by
  have hpl : ps.length ≤ N.length := by have := congrArg List.length S.pre; rw [List.length_take] at this; omega
  obtain ⟨h1, tk, rfl, hk⟩ := x.done
  have noA : ∀ b : Addr, b ∉ (cxOf CX P w K mg base N qual scope f cd A outer s H E).ex := fun b z => absurd (show b ∈ ([] : List Addr) from z) (by simp)
  refine ⟨⟨e0.mod, S.kind, rfl, rfl, Nat.le_refl _, fun y z c h1 h2 => ?_, fun y hy => ?_, fun y c _ h => ?_, fun _ => hd, Around.frames_deeper e0.frames, .inr ⟨rfl, rfl⟩, fun b z => absurd z (noA b), e0.bs, e0.bsz, fun b _ _ => noA b, fun b z => absurd z (noA b), e0.funs, e0.frf⟩,
    rfl, e0.bare, Un.kept hk, ⟨_, x.toInCall.ns, fun i y v h1 h2 h3 => ?_⟩, fun y c h => ⟨_, x.cell y c h⟩, e0.hok.fresh (Nat.le_refl _), fun y c h => ?_, fun p hp => absurd (show p ∈ ([] : List (Addr × Obj)) from hp) (by simp), e0.hok.kept hk, ?_⟩
  · exact name_of_addr x.apart (PySem.mem_of_lookup h1) (PySem.mem_of_lookup h2)
  · have hy : scope.names.lookup y = some .cell ∨ scope.names.lookup y = some .free := hy
    rcases hy with hy | hy
    · exact cell_has hy
    · exact absurd rfl (S.nofree _ (PySem.mem_of_lookup hy))
  · exact Nat.le_of_lt (x.above y c (PySem.mem_of_lookup h))
  · have hi : i < vs.length := by
      unfold start at h2
      by_cases hi : i < vs.length
      · exact hi
      · rw [List.getElem?_append_right (by simpa using hi)] at h2
        rw [List.getElem?_replicate] at h2
        split at h2 <;> cases h2
    have ha : vs[i]? = some v := by
      unfold start at h2
      rw [List.getElem?_append_left (by simpa using hi), List.getElem?_map] at h2
      cases e : vs[i]? with
      | none => rw [e] at h2; cases h2
      | some a => rw [e] at h2; cases h2; rfl
    obtain ⟨u, hu, rv⟩ := r.get ha
    have hp : ps[i]? = some y := by
      rw [← S.pre, List.getElem?_take_of_lt (by omega)]; exact h1
    have ndP : ps.Nodup := by rw [← S.pre]; exact S.nd.sublist (List.take_sublist _ _)
    refine ⟨u, rv, ?_⟩
    rcases S.par y (List.mem_of_getElem? hp) with k | k
    · exact .inl ⟨k, bindL_get ndP hp hu k⟩
    · obtain ⟨c, e⟩ := cell_has (n := s.heap.objs.size + 1) k
      refine .inr ⟨.inl k, c, e, ?_⟩
      have q := x.cell y c e
      rw [bindC_get ndP hp hu (by show scope.names.lookup y ≠ _; rw [k]; decide)] at q
      exact q
  · exact e0.hok.fresh (Nat.le_of_lt (x.above y c (PySem.mem_of_lookup h)))
  · unfold start
    show _ = N.length
    rw [List.length_append, List.length_map, List.length_replicate]
    omega
/-- THE RULE: a def (or a method) of the text, by its body. The body's reading t is chosen for each entry; it is run at the parameters' values -/
theorem fn_of {CX : CXT} {P : Program} {w : World} {K : PySem.W.Frag} {mg : Str → Option Value} {base : Heap} {k : Nat} {f : Addr} {name qual : Str} {params : Arguments} {body : List Stmt} {scope : Scope} {dV kV doc pm cdv ct oc : Value} {an od : Option Addr}
    {osl : Array (Option Value)} {N ps : List Str} {sp : Sp} (lk : K.lookup f = some ⟨oc, od, .func (PySem.W.fnOf name qual params body scope dV kV doc pm an cdv ct), osl⟩) (hcd : PySem.W.codeIn K cdv qual = true) (S : FnScope N ps scope)
    (len : ∀ vs H Q E, sp vs H Q E → vs.length = ps.length)
    (hbody : ∀ (A : Around) (outer : List Env) (s : Shared) (H : Hp) (vs : List V) (Q : VK) (E : XK), Room k (A.deeper (envOfC qual scope s.heap.objs.size f cdv)) → sp vs H Q E →
      ∃ t, PSs (cxOf CX P w K mg base N qual scope f cdv A outer s H E) body t ∧ t { nx := fun _ H' => Q .non H', rt := Q } (start N vs) H) :
    FnOk P w K mg base CX (k + 1) f (PySem.W.fnOf name qual params body scope dV kV doc pm an cdv ct) ps sp := by
  refine ⟨len, fun A outer s H args us vs Q E hr e0 hb r hsp => ?_⟩
  have hl := len _ _ _ _ hsp
  have KX : K.In s.heap := e0.mod.kin.keeps fun b o e => (e0.bs b o e).1
  have lim : s.heap.NoLimit := e0.mod.nolimit.keeps fun b o e => (e0.bs b o e).1
  have hkind : ∀ y ∈ ps.zip us, scope.names.lookup y.1 = some .local ∨ (scope.names.lookup y.1 = some .cell ∧ ((cellsFrom (s.heap.objs.size + 1) scope.names []).lookup y.1).isSome = true) := fun ⟨n, v⟩ hy => by
    rcases S.par n (List.of_mem_zip hy).1 with q | q
    · exact .inl q
    · exact .inr ⟨q, PySem.W.cellsFrom_some _ _ _ (.inl q)⟩
  refine codeAny_call_function hr.depth (KX _ _ lk) rfl S.co S.gen rfl (PySem.W.codeRec_of KX hcd) (hb _ _ _ _ ?_)
  refine wpAny_newFunctionEnv_cells S.kind hkind fun env he s1 x => ?_
  subst he
  refine ⟨lim.keeps x.toInCall.keep, codeAny_func ?_⟩
  obtain ⟨t, ht, hq⟩ := hbody A outer s H vs Q E (hr.deeper _) hsp
  have I : Inv (cxOf CX P w K mg base N qual scope f cdv A outer s H E) [] (start N vs) H s1 := inv_start S hr.hd e0 hl r x
  refine wpAny_mono (ht [] s1 (start N vs) H _ I hq) (fun fl s' hs => ?_) fun e s' hs => hs
  have fin : ∀ {σ' : St} {H' : Hp} {v : V} {u : Value}, Inv (cxOf CX P w K mg base N qual scope f cdv A outer s H E) [] σ' H' s' → RelV v u → Q v H' → CE outer P w H s Q u s' :=
    fun {σ' H' v u} J rv q => ⟨v, H', J.os, J.bare, J.base, J.hok, rv, q⟩
  cases fl with
  | ret u =>
    obtain ⟨v, σ', H', J, rv, q⟩ := hs
    exact fin J rv q
  | next =>
    obtain ⟨σ', H', J, q⟩ := hs
    exact fin (v := V.non) (u := Value.none) J rfl q
  | brk =>
    obtain ⟨_, _, _, q⟩ := hs
    exact False.elim q
  | cont =>
    obtain ⟨_, _, _, q⟩ := hs
    exact False.elim q
end L2
namespace L2
open PySem PySem.Spec PyProof.Rows
section
variable {X : Cx} {x : Str} {p pos : Pos} {e : Expr} {es : List Expr} {t : TA} {id T : String} {r : List V → Hp → VK → Prop}
def tCB (r : List V → Hp → VK → Prop) (t : TA) : TE := fun σ H Q => t σ H fun vs H1 => r vs H1 Q
/-- f(e, ..), f a built-in function -/
theorem pe_callB (hc : CallR X (.builtin id) r) (hg : Gl X x) (hm : X.mg x = none) (hv : bootBuiltins x = some (.builtin id)) (ha : PA X (e :: es) t) (hn : x ≠ "__name__" := by decide) (hdb : (x == ("__debug__" : Str)) = false := by decide)
    (he : starEach (e :: es) X.env = (false, eval e X.env) :: starEach es X.env := by rfl) (hpl : (backTo pos (starEach es X.env)).any (·.1) = false := by rfl) : PE X (.Call (.Name x p) (e :: es) [] pos) (tCB r t) := by
  intro pins s σ H Q I h
  refine wpAny_Call_Name_kw (ld_blt I hg hm hv ?_ hn hdb)
  exact PyProof.Rows.callWith_builtin1 (thn (ha pos pins s σ H _ I h) fun us s1 ⟨vs, H1, I1, r1, q1⟩ => hc pins s1 σ H1 vs us Q I1 r1 q1) he hpl
end
end L2
namespace HT
open PySem PyProof.Rows
section
open PySem.SeqAt
open PySem.AutoSeq1 (wpAny_loadPart')
open PySem.MeetsSeq PySem.MeetsSeq2 PySem.MeetsSeq3
end
section
variable {prog : Program} {w : World} {A : Around} {E : Value → Shared → Prop} {s : Shared}
/-- a slice's bound as a place among n (d where it is left out) -/
def sIx (n d : Nat) : Option Int → Nat
  | none => d
  | some v => if v < 0 then (v + (n : Int)).toNat else min v.toNat n
theorem sIx_nat (n d k : Nat) : sIx n d (some (k : Int)) = min k n := by
  show (if (k : Int) < 0 then ((k : Int) + (n : Int)).toNat else min (k : Int).toNat n) = min k n
  rw [if_neg (by omega), Int.toNat_natCast]
end
end HT
namespace L2
open PySem PySem.Spec PyProof.Rows
abbrev TO := St → Hp → (Option Int → Hp → Prop) → Prop
/-- a slice's part (left out, or an int) -/
def PO (X : Cx) (e : Option Expr) (t : TO) : Prop :=
  ∀ (pins : List (Addr × Obj)) (s : Shared) (σ : St) (H : Hp) (Q : Option Int → Hp → Prop), Inv X pins σ H s → t σ H Q →
    wpAny (model X.prog X.w) X.A (evalPart e X.env) (fun u s' => ∃ o H', Inv X pins σ H' s' ∧ IsPart u o ∧ Q o H') X.xe s
def tPart (t : TE) : TO := fun σ H Q => t σ H fun x H1 => ∃ i, x = .int i ∧ Q (some i) H1
section
variable {X : Cx} {e : Expr} {te : TE} {lo hi : Option Expr} {tl th : TO} {pos p2 : Pos}
theorem po_some (h : PE X e te) : PO X (some e) (tPart te) := by
  intro pins s σ H Q I hw
  rw [evalPart_some]
  refine thn (h pins s σ H _ I hw) fun u s1 ⟨x, H1, I1, r1, q1⟩ => ?_
  obtain ⟨i, rfl, q⟩ := q1
  obtain ⟨t, rfl⟩ := r1
  exact ⟨some i, H1, I1, .int i t, q⟩
/-- what a slice of a value is, by values: the slice object stands at sl -/
def SlR (X : Cx) (r : V → Option Int → Option Int → Hp → VK → Prop) : Prop :=
  ∀ (pins : List (Addr × Obj)) (s : Shared) (σ : St) (H : Hp) (x : V) (v vl vu : Value) (lo hi : Option Int) (sl : Addr) (Q : VK), Inv X pins σ H s → RelV x v → s.heap.IsSliceOf sl vl vu .none → IsPart vl lo → IsPart vu hi → r x lo hi H Q →
    ∃ T id, typeLookup (.type T) "__getitem__" = pure (some (.builtin id)) ∧ s.TypeIs v T ∧ wpAny (model X.prog X.w) X.A (getItem v (.ref sl)) (EP X pins σ Q) X.xe s
def tSl (r : V → Option Int → Option Int → Hp → VK → Prop) (te : TE) (tl th : TO) : TE := fun σ H Q => te σ H fun x H1 => tl σ H1 fun l H2 => th σ H2 fun u H3 => r x l u H3 Q
/-- a[lo:hi], any a -/
theorem pe_slice {r : V → Option Int → Option Int → Hp → VK → Prop} (hr : SlR X r) (he : PE X e te) (hl : PO X lo tl) (hu : PO X hi th) : PE X (.Subscript e (.Slice lo hi none p2) pos) (tSl r te tl th) := by
  intro pins s σ H Q I h
  refine Subscript_ (thn (he pins s σ H _ I h) fun v s1 ⟨x, H1, I1, r1, q1⟩ => ?_)
  refine wpAny_Slice (thn (hl pins s1 σ H1 _ I1 q1) fun vl s2 ⟨l, H2, I2, pl, q2⟩ => thn (hu pins s2 σ H2 _ I2 q2) fun vu s3 ⟨u, H3, I3, pu, q3⟩ => ?_)
  rw [evalPart_none]
  refine wpAny_pure ?_
  have I4 : Inv X pins σ H3 { s3 with heap := s3.heap.push { cls := .type "slice", data := .fields #[vl, vu, .none] } } := I3.kept (t' := s3.toks) fun b ob q => Heap.get?_push_of_some _ q
  obtain ⟨T, id, hT, ht, hg⟩ := hr pins { s3 with heap := s3.heap.push { cls := .type "slice", data := .fields #[vl, vu, .none] } } σ H3 x v vl vu l u s3.heap.objs.size Q I4 r1 (Heap.IsSliceOf.new ..) pl pu q3
  show wpAny (model X.prog X.w) X.A (subscriptTail e (.Slice lo hi none p2) v (.ref s3.heap.objs.size)) (EP X pins σ Q) X.xe { s3 with heap := s3.heap.push { cls := .type "slice", data := .fields #[vl, vu, .none] } }
  exact tail_any (ops := [.ref s3.heap.objs.size, v]) ht hT hg (by with_unfolding_all rfl)
/-- the items of xs[lo:hi] -/
def cutV (xs : List V) (lo hi : Option Int) : List V := (xs.drop (HT.sIx xs.length 0 lo)).take (HT.sIx xs.length xs.length hi - HT.sIx xs.length 0 lo)
theorem cutV_length (xs : List V) (lo hi : Option Int) : (cutV xs lo hi).length ≤ xs.length := by
  unfold cutV
  rw [List.length_take, List.length_drop]
  omega
end
end L2
namespace L2
open PySem PySem.Spec PyProof.Rows
/-- the place that an index of any sign means -/
def ixN (n : Nat) (i : Int) : Option Nat := if 0 ≤ i then (if i < n then some i.toNat else none) else if -(n : Int) ≤ i then some (i + n).toNat else none
def atI {α : Type} (xs : List α) (i : Int) : Option α := (ixN xs.length i).bind fun j => xs[j]?
theorem ixN_seq {n : Nat} {i : Int} {j : Nat} (h : ixN n i = some j) : seqIndex? i n = some j ∧ j < n ∧ -(n : Int) ≤ i ∧ i < n := by
  unfold ixN at h
  by_cases h0 : 0 ≤ i
  · rw [if_pos h0] at h
    by_cases h1 : i < n
    · rw [if_pos h1] at h
      have e : i.toNat = j := Option.some.inj h
      exact ⟨by rw [seqIndex_of h0 h1, e], by omega, by omega, h1⟩
    · rw [if_neg h1] at h; cases h
  · rw [if_neg h0] at h
    by_cases h1 : -(n : Int) ≤ i
    · rw [if_pos h1] at h
      have e : (i + n).toNat = j := Option.some.inj h
      exact ⟨by rw [seqIndex_neg (by omega) h1, e], by omega, h1, by omega⟩
    · rw [if_neg h1] at h; cases h
theorem atI_get {α : Type} {xs : List α} {i : Int} {v : α} (h : atI xs i = some v) : ∃ j, seqIndex? i xs.length = some j ∧ xs[j]? = some v ∧ j < xs.length ∧ -(xs.length : Int) ≤ i ∧ i < xs.length := by
  unfold atI at h
  cases e : ixN xs.length i with
  | none => rw [e] at h; cases h
  | some j =>
    rw [e] at h
    obtain ⟨h1, h2, h3, h4⟩ := ixN_seq e
    exact ⟨j, h1, h, h2, h3, h4⟩
theorem atI_nat {α : Type} {xs : List α} {j : Nat} {v : α} (h : xs[j]? = some v) : atI xs (j : Int) = some v := by
  have hj : j < xs.length := (List.getElem?_eq_some_iff.mp h).1
  have e : ixN xs.length (j : Int) = some j := by
    unfold ixN
    rw [if_pos (by omega), if_pos (by omega)]; simp
  unfold atI; rw [e]; exact h
/-- what stands as an index of a plain subscript -/
def PlainIx (b : Expr) : Prop := ∀ o i, subscripted b false o i = operate [o, i] (getItem o i)
/-- a subscript by values -/
def IxR (X : Cx) (r : R2) : Prop :=
  ∀ (value slice : Expr) (pins : List (Addr × Obj)) (s : Shared) (σ : St) (H : Hp) (x y : V) (v u : Value) (Q : VK), Inv X pins σ H s → RelV x v → RelV y u → r x y H Q →
    subscripted slice false v u = operate [v, u] (getItem v u) → wpAny (model X.prog X.w) X.A (subscriptTail value slice v u) (EP X pins σ Q) X.xe s
/-- a call of a builtin's method by values: the receiver, the arguments -/
def MtR (X : Cx) (id : String) (r : V → List V → Hp → VK → Prop) : Prop :=
  ∀ (pins : List (Addr × Obj)) (s : Shared) (σ : St) (H : Hp) (x : V) (xs : List V) (v : Value) (us : List Value) (Q : VK), Inv X pins σ H s → RelV x v → Vals xs us → r x xs H Q →
    wpAny (model X.prog X.w) X.A (call (.builtin id) (v :: us)) (EP X pins σ Q) X.xe s
section
variable {X : Cx} {a b : Expr} {ta tb : TE} {pos : Pos}
/-- a[b] -/
theorem pe_ix {r : R2} (hr : IxR X r) (ha : PE X a ta) (hb : PE X b tb) (hs : PlainIx b) : PE X (.Subscript a b pos) (tOp r ta tb) := by
  intro pins s σ H Q I h
  exact Subscript_ (binT ha hb I h fun v u s2 x y H2 I2 rx ry q => hr a b pins s2 σ H2 x y v u Q I2 rx ry q (hs _ _))
def rIxL (K : PySem.W.Frag) : R2 := fun x y H Q => ∃ p xs i v, x = .ref p ∧ y = .int i ∧ SqL K H p xs ∧ atI xs i = some v ∧ Q v H
def rIxT (K : PySem.W.Frag) : R2 := fun x y H Q => ∃ p xs i v, x = .ref p ∧ y = .int i ∧ SqT K H p xs ∧ atI xs i = some v ∧ Q v H
theorem ix_list : IxR X (rIxL X.K) := by
  intro value slice pins s σ H x y v u Q I rx ry h hs
  obtain ⟨p, xs, i, z, rfl, rfl, hq, he, q⟩ := h
  cases rx
  obtain ⟨t, rfl⟩ := ry
  obtain ⟨its, r, pl, hz⟩ := I.list hq
  obtain ⟨j, h1, h2, h3, h4, h5⟩ := atI_get he
  obtain ⟨w, ew, rw'⟩ := r.get h2
  have hl := r.length
  have hn := line63
  have fin : EP X pins σ Q w s := ⟨z, H, I, rw', q⟩
  by_cases h0 : 0 ≤ i
  · have hj : i.toNat = j := by
      rw [seqIndex_of h0 h5] at h1
      exact Option.some.inj h1
    exact item_listR pl.isList h0 (by omega) (by rw [hj]; simpa using ew) fin hs
  · have hj : (i + (its.toArray.size : Int)).toNat = j := by
      rw [seqIndex_neg (by omega) h4] at h1
      rw [List.size_toArray, ← hl]
      exact Option.some.inj h1
    exact subscriptTail_builtinR (x := w) pl.isList.typeIs slot_list_getitem.lookup
      (wpAny_getItem_list_neg (Q := fun r s' => r = w ∧ EP X pins σ Q r s') pl.isList (by omega) (by rw [List.size_toArray] <;> omega) (by omega) (by rw [hj]; simpa using ew) ⟨rfl, fin⟩) hs
theorem ix_tup : IxR X (rIxT X.K) := by
  intro value slice pins s σ H x y v u Q I rx ry h hs
  obtain ⟨p, xs, i, z, rfl, rfl, hq, he, q⟩ := h
  cases rx
  obtain ⟨t, rfl⟩ := ry
  obtain ⟨its, r, pl, hz⟩ := I.tuple hq
  obtain ⟨j, h1, h2, h3, h4, h5⟩ := atI_get he
  obtain ⟨w, ew, rw'⟩ := r.get h2
  have hl := r.length
  have hn := line63
  have fin : EP X pins σ Q w s := ⟨z, H, I, rw', q⟩
  exact subscriptTail_builtinR (x := w) pl.typeIs slot_tuple_getitem.lookup
    (getItem_tuple (j := j) (Q := fun r s' => r = w ∧ EP X pins σ Q r s') pl (by omega) (by omega) (by rw [List.size_toArray, ← hl]; exact h1) (by simpa using ew) ⟨rfl, fin⟩) hs
theorem Inv.lst {pins : List (Addr × Obj)} {σ : St} {H : Hp} {s : Shared} {p : Addr} {xs : List V} (I : Inv X pins σ H s) (h : H p = some (.lst xs)) :
    ∃ (its : List Value) (n : Nat), Vals xs its ∧ s.heap.get? p = some { cls := .type "list", data := .seq its.toArray n } ∧ xs.length ≤ sizeLine := by
  obtain ⟨z, its, n, r, e⟩ := I.hok p _ h
  exact ⟨its, n, r, e, z⟩
theorem slice_bounds (lo hi : Option Int) (n : Nat) : (sliceBounds lo hi none n).1 = ((HT.sIx n 0 lo : Nat) : Int) ∧ (sliceBounds lo hi none n).2.1 = ((HT.sIx n n hi : Nat) : Int) ∧ (sliceBounds lo hi none n).2.2 = 1 := by
  refine ⟨?_, ?_, rfl⟩
  · cases lo with
    | none => simp [sliceBounds, HT.sIx]
    | some i =>
      simp only [sliceBounds, HT.sIx, Option.getD_none, show (1 : Int) > 0 by decide, if_true]
      by_cases h : i < 0
      · simp only [h, if_true] <;> omega
      · simp only [h, if_false] <;> omega
  · cases hi with
    | none => simp [sliceBounds, HT.sIx]
    | some i =>
      simp only [sliceBounds, HT.sIx, Option.getD_none, show (1 : Int) > 0 by decide, if_true]
      by_cases h : i < 0
      · simp only [h, if_true] <;> omega
      · simp only [h, if_false] <;> omega
theorem slicePick_cut (its : List Value) (lo hi : Option Int) : slicePick its.toArray lo hi none = ((its.drop (HT.sIx its.length 0 lo)).take (HT.sIx its.length its.length hi - HT.sIx its.length 0 lo)).toArray := by
  obtain ⟨h1, h2, h3⟩ := slice_bounds lo hi its.toArray.size
  unfold slicePick
  rw [h1, h2, h3]
  simp only [sliceRange_one, pick_run, List.size_toArray] <;> rfl
/-- xs[lo:hi] of a list: a new list -/
def rSlL (K : PySem.W.Frag) : V → Option Int → Option Int → Hp → VK → Prop := fun x lo hi H Q => ∃ a xs, x = .ref a ∧ SqL K H a xs ∧ ∀ p, H p = none → Q (.ref p) (upd H p (.lst (cutV xs lo hi)))
theorem sl_list : SlR X (rSlL X.K) := by
  intro pins s σ H x v vl vu lo hi sl Q I rx hs pl pu h
  obtain ⟨a, xs, rfl, hx, q⟩ := h
  cases rx
  obtain ⟨its, r, ht, hz⟩ := I.list hx
  have hlen := r.length
  refine ⟨"list", _, slot_list_getitem.lookup, ht.isList.typeIs, ?_⟩
  refine wpAny_getItem_list_slice ht.isList hs pl pu .none (by simp) ?_ (by rw [List.size_toArray] <;> omega)
  rw [slicePick_cut, ← hlen]
  refine ⟨.ref s.heap.objs.size, _, I.laid (t' := s.toks) (o := .lst (cutV xs lo hi)) (fun b ob q => Heap.get?_push_of_some _ q) (Nat.le_refl _) ?_, rfl, q _ (I.hok.fresh (Nat.le_refl _))⟩
  exact ⟨Nat.le_trans (cutV_length xs lo hi) hz, _, 0, (r.drop (HT.sIx xs.length 0 lo)).take (HT.sIx xs.length xs.length hi - HT.sIx xs.length 0 lo), Heap.get?_push_size _ rfl⟩
theorem call_len_seq : CallR X (.builtin "len") (fun xs H Q => ∃ p ys, xs = [.ref p] ∧ (SqL X.K H p ys ∨ SqT X.K H p ys) ∧ Q (.int ys.length) H) := by
  intro pins s σ H xs us Q I r h
  obtain ⟨p, ys, rfl, hq, q⟩ := h
  obtain ⟨u, rfl, rx⟩ := vals1 r
  cases rx
  have hn := line63
  rcases hq with hq | hq
  · obtain ⟨its, r', pl, hz⟩ := I.list hq
    have hlen := r'.length
    exact Calls.call_len_list pl.isList (by simp only [List.size_toArray] <;> omega) ⟨.int ys.length, H, I.tok _, ⟨s.toks + 1, by rw [List.size_toArray, hlen]⟩, q⟩
  · obtain ⟨its, r', pl, hz⟩ := I.tuple hq
    have hlen := r'.length
    exact len_tuple pl (by simp only [List.size_toArray] <;> omega) ⟨.int ys.length, H, I.tok _, ⟨s.toks + 1, by rw [List.size_toArray, hlen]⟩, q⟩
/-- the value is of that builtin type -/
def tyV (K : PySem.W.Frag) (T : String) (x : V) (H : Hp) : Prop := match x with
  | .str _ => T = "str"
  | .int _ => T = "int"
  | .ref p => (T = "list" ∧ ∃ xs, SqL K H p xs) ∨ (T = "tuple" ∧ ∃ o, K.lookup p = some o ∧ o.cls = .type "tuple" ∧ o.dict = none) ∨
      (T = "dict" ∧ ((∃ kvs, H p = some (.dK kvs)) ∨ ∃ kvs, H p = some (.dT kvs))) ∨ (T = "set" ∧ ∃ S n, H p = some (.set S n))
  | _ => False
theorem tyV_is {pins : List (Addr × Obj)} {σ : St} {H : Hp} {s : Shared} {T : String} {x : V} {v : Value} (I : Inv X pins σ H s) (r : RelV x v) (ty : tyV X.K T x H) :
    s.TypeIs v T ∧ ∀ a, v = .ref a → ∃ ob, s.heap.get? a = some ob ∧ ob.dict = none := by
  cases x with
  | str z =>
    obtain ⟨t, rfl⟩ := r
    cases (show T = "str" from ty)
    exact ⟨typeIs_str s z t, fun _ e => nomatch e⟩
  | int i =>
    obtain ⟨t, rfl⟩ := r
    cases (show T = "int" from ty)
    exact ⟨typeIs_int s i t, fun _ e => nomatch e⟩
  | ref p =>
    cases r
    rcases ty with ⟨rfl, xs, hq⟩ | ⟨rfl, o, hk, hc, hd⟩ | ⟨rfl, hk⟩ | ⟨rfl, S, n, hk⟩
    · obtain ⟨its, _, pl, _⟩ := I.list hq
      refine ⟨pl.isList.typeIs, fun a e => ?_⟩
      cases e
      obtain ⟨o, n, e, c, hd, _⟩ := pl
      exact ⟨o, e, hd⟩
    · refine ⟨⟨o, I.kIn p o hk, hc⟩, fun a e => ?_⟩
      cases e
      exact ⟨o, I.kIn _ o hk, hd⟩
    · have z : ∃ o, s.heap.get? p = some o ∧ o.ExactDict := by
        rcases hk with ⟨kvs, hk⟩ | ⟨kvs, hk⟩
        · obtain ⟨_, _, _, _, o, _, _, e, ex, _⟩ := I.hok p _ hk
          exact ⟨o, e, ex⟩
        · obtain ⟨_, _, _, _, o, _, _, e, ex, _⟩ := I.hok p _ hk
          exact ⟨o, e, ex⟩
      obtain ⟨o, e, ex⟩ := z
      refine ⟨⟨o, e, ex.1⟩, fun a e2 => ?_⟩
      cases e2
      exact ⟨o, e, ex.2.1⟩
    · obtain ⟨o, _, _, _, e, ex, _⟩ := I.hok p _ hk
      refine ⟨⟨o, e, ex.1⟩, fun a e2 => ?_⟩
      cases e2
      exact ⟨o, e, ex.2.1⟩
  | _ => exact False.elim ty
def tBM (K : PySem.W.Frag) (T : String) (r : V → List V → Hp → VK → Prop) (to : TE) (t : TA) : TE := fun σ H Q => to σ H fun x H1 => tyV K T x H1 ∧ t σ H1 fun xs H2 => r x xs H2 Q
variable {o e : Expr} {es : List Expr} {to : TE} {t : TA} {name : Str} {apos cpos : Pos} {T id : String} {r : V → List V → Hp → VK → Prop}
theorem pe_bm (pa : PlainAttrs T) (slot : Slot T name id) (hty : typeOf (.builtin id) = pure (.type "method_descriptor")) (hm : MtR X id r) (ho : PE X o to) (ha : PA X (e :: es) t)
    (hbase : attributeBase o name X.env (eval o X.env) = eval o X.env := by rfl)
    (hfew : ((backTo cpos (starEach (e :: es) X.env)).all (fun x => !x.1) && (backToKw cpos (keywordEach [] X.env)).all (fun x => x.1.isSome)
      && decide ((e :: es).length + ([] : List Keyword).length + (if ([] : List Keyword).isEmpty then 0 else 1) < 30)) = true := by rfl)
    (hline : (apos.endLine == cpos.line) = true := by rfl) (hs : starEach (e :: es) X.env = (false, eval e X.env) :: starEach es X.env := by rfl) (hplain : (backTo cpos (starEach es X.env)).any (·.1) = false := by rfl) :
    PE X (.Call (.Attribute o name apos) (e :: es) [] cpos) (tBM X.K T r to t) := by
  intro pins s σ H Q I h
  refine wpAny_Call_method_late hbase hfew hline rfl (thn (ho pins s σ H _ I h) fun v s1 ⟨x, H1, I1, r1, ty, q1⟩ => ?_)
  obtain ⟨h1, h2⟩ := tyV_is I1 r1 ty
  refine ⟨T, id, pa, slot, hty, h1, h2, ?_⟩
  have hA := ha cpos pins s1 σ H1 _ I1 q1
  rw [hs] at hA ⊢
  refine Calls.callWith_builtin (by show (false || (backTo cpos (starEach es X.env)).any (·.1)) = false; rw [hplain] <;> rfl) (Calls.evalArgs_plain ?_)
  exact thn hA fun us s2 ⟨vs, H2, I2, r2, q2⟩ => hm pins s2 σ H2 x vs v us Q I2 r1 r2 q2
end
end L2
namespace L2
open PySem PySem.Spec PyProof.Rows
def MtM (X : Cx) (id : String) (r : V → List V → Hp → VK → Prop) : Prop :=
  ∀ (pins : List (Addr × Obj)) (s : Shared) (σ : St) (H : Hp) (x : V) (xs : List V) (v : Value) (us : List Value) (Q : VK), Inv X pins σ H s → RelV x v → Vals xs us → r x xs H Q →
    wpAny (model X.prog X.w) X.A (call (.builtin id) (v :: us)) (EP X pins σ Q) X.xe s
theorem Vals.one : ∀ {x : V} {us : List Value}, Vals [x] us → ∃ u, us = [u] ∧ RelV x u
  | _, _, .cons r .nil => ⟨_, rfl, r⟩
theorem Vals.zero : ∀ {us : List Value}, Vals [] us → us = []
  | _, .nil => rfl
theorem Vals.rep {xs : List V} {us : List Value} (h : Vals xs us) : ∀ k : Nat, Vals (List.replicate k xs).flatten (List.replicate k us).flatten
  | 0 => .nil
  | k + 1 => by
    rw [List.replicate_succ, List.replicate_succ, List.flatten_cons, List.flatten_cons]
    exact Vals.append h (Vals.rep h k)
section
variable {X : Cx} {pins : List (Addr × Obj)} {σ : St} {H : Hp} {s : Shared} {l b : Addr} {xs ys zs : List V}
theorem Inv.lset {its its' : List Value} {n : Nat} {f : Array Value → Array Value} {t' : Nat} (I : Inv X pins σ H s) (hH : H l = some (.lst xs))
    (e : s.heap.get? l = some { cls := .type "list", data := .seq its.toArray n }) (hf : f its.toArray = its'.toArray) (hv : Vals ys its') (hz : ys.length ≤ sizeLine) :
    Inv X pins σ (upd H l (.lst ys)) { s with heap := s.heap.update l (Obj.mapSeq f), toks := t' } := by
  have q := PySem.IsL.update e f
  rw [hf] at q
  refine I.write (x := l) (e := l) (by rw [hH]; exact trivial) (.inl rfl) (fun b' u hb hu => (Heap.get?_update_other s.heap (Obj.mapSeq f) (Ne.symm hb)).trans hu) ⟨_, q⟩ ?_
  exact ⟨hz, its', _, hv, q⟩
theorem Inv.lnew {its : List Value} {t' : Nat} (I : Inv X pins σ H s) (hv : Vals ys its) (hz : ys.length ≤ sizeLine) :
    Inv X pins σ (upd H s.heap.objs.size (.lst ys)) { s with heap := s.heap.push { cls := .type "list", data := .seq its.toArray }, toks := t' } :=
  I.laid (fun _ _ q => Heap.get?_push_of_some _ q) (Nat.le_refl _) ⟨hz, its, 0, hv, Heap.get?_push_size _ rfl⟩
theorem Inv.fresh (I : Inv X pins σ H s) : H s.heap.objs.size = none := I.hok.fresh (Nat.le_refl _)
theorem Inv.lstM (I : Inv X pins σ H s) (hH : H l = some (.lst xs)) : xs.length ≤ sizeLine ∧ ∃ (its : List Value) (n : Nat), Vals xs its ∧ xs.length = its.length ∧ s.heap.get? l = some { cls := .type "list", data := .seq its.toArray n } := by
  obtain ⟨z, its, n, r, e⟩ := I.hok l _ hH
  exact ⟨z, its, n, r, r.length, e⟩
theorem notLongL {n : Nat} (h : n ≤ sizeLine) : Builtin.List.listTooLong n = false := by
  unfold Builtin.List.listTooLong
  exact decide_eq_false (by omega)
end
section
variable {X : Cx}
def rAppend : V → List V → Hp → VK → Prop := fun x vs H Q => ∃ l xs y, x = .ref l ∧ vs = [y] ∧ H l = some (.lst xs) ∧ xs.length < sizeLine ∧ Q .non (upd H l (.lst (xs ++ [y])))
theorem mt_append : MtM X "list.append" rAppend := by
  intro pins s σ H x vs v us Q I rx rv h
  obtain ⟨l, xs, y, rfl, rfl, hH, hz, q⟩ := h
  cases rx
  obtain ⟨u, rfl, ru⟩ := rv.one
  obtain ⟨z, its, n, r, hl, e⟩ := I.lstM hH
  refine call_meets F.slot_list_append ⟨_, e, rfl⟩ F.entry_list_append (F.args_list_append_2 _ _) (PySem.list_append l its.toArray n u (by rw [List.size_toArray]; omega)) ⟨e, ?_⟩
  refine ⟨.non, _, I.lset (its' := its ++ [u]) hH e (by simp) (r.append (.cons ru .nil)) ?_, rfl, q⟩
  rw [List.length_append, List.length_singleton]
  omega
def rExtend : V → List V → Hp → VK → Prop := fun x vs H Q => ∃ l b xs zs, x = .ref l ∧ vs = [.ref b] ∧ H l = some (.lst xs) ∧ H b = some (.lst zs) ∧ xs.length + zs.length ≤ sizeLine ∧ Q .non (upd H l (.lst (xs ++ zs)))
theorem mt_extend : MtM X "list.extend" rExtend := by
  intro pins s σ H x vs v us Q I rx rv h
  obtain ⟨l, b, xs, zs, rfl, rfl, hH, hB, hz, q⟩ := h
  cases rx
  obtain ⟨u, rfl, ru⟩ := rv.one
  cases ru
  obtain ⟨z, its, n, r, hl, e⟩ := I.lstM hH
  obtain ⟨z2, its2, n2, r2, hl2, e2⟩ := I.lstM hB
  have hsz : its.toArray.size + its2.toArray.size ≤ sizeLine := by rw [List.size_toArray, List.size_toArray]; omega
  have hlong : ¬ (!its.toArray.isEmpty && Builtin.List.listTooLong (its.toArray.size + its2.toArray.size)) = true := by
    rw [notLongL hsz, Bool.and_false]
    exact Bool.false_ne_true
  refine call_meets F.slot_list_extend ⟨_, e, rfl⟩ F.entry_list_extend (F.args_list_extend_2 _ _)
    (AutoSeq1.list_extend_list_list_0 l its.toArray n b its2.toArray n2 hlong (by rw [List.size_toArray]; omega) (by omega)) ⟨e, e2, ?_⟩
  refine ⟨.non, _, I.lset (its' := its ++ its2) hH e (by simp) (r.append r2) ?_, rfl, q⟩
  rw [List.length_append]
  omega
def rCat : R2 := fun x y H Q => ∃ l b xs zs, x = .ref l ∧ y = .ref b ∧ H l = some (.lst xs) ∧ H b = some (.lst zs) ∧ xs.length + zs.length ≤ sizeLine ∧ ∀ p, H p = none → Q (.ref p) (upd H p (.lst (xs ++ zs)))
theorem op_cat : OpR X (binaryOp .Add) rCat := by
  intro pins s σ H x y v u Q I rx ry h
  obtain ⟨l, b, xs, zs, rfl, rfl, hH, hB, hz, q⟩ := h
  cases rx
  cases ry
  obtain ⟨z, its, n, r, hl, e⟩ := I.lstM hH
  obtain ⟨z2, its2, n2, r2, hl2, e2⟩ := I.lstM hB
  refine PySem.P.add_list e e2 ?_ (by rw [List.size_toArray, List.size_toArray]; omega)
  have ea : its.toArray ++ its2.toArray = (its ++ its2).toArray := by simp
  rw [ea]
  exact ⟨.ref _, _, I.lnew (t' := s.toks) (r.append r2) (by rw [List.length_append]; omega), rfl, q _ I.fresh⟩
end
section
variable {prog : Program} {w : World} {A : Around} {E : Value → Shared → Prop} {s : Shared}
end
section
variable {X : Cx}
end
end L2
namespace L2
open PySem PySem.Spec PyProof.Rows
theorem Vals.ints : ∀ {ns : List Int} {us : List Value}, Vals (ns.map V.int) us → IntsAre us ns
  | [], us, h => by
    rw [List.map_nil] at h
    cases h
    exact IntsAre.nil
  | n :: ns, us, h => by
    rw [List.map_cons] at h
    cases h with
    | cons r t =>
      obtain ⟨k, rfl⟩ := r
      exact IntsAre.cons n k (Vals.ints t)
theorem Vals.strs : ∀ {xs : List Str} {us : List Value}, Vals (xs.map V.str) us → StrsAre us xs
  | [], us, h => by
    rw [List.map_nil] at h
    cases h
    exact StrsAre.nil
  | x :: xs, us, h => by
    rw [List.map_cons] at h
    cases h with
    | cons r t =>
      obtain ⟨k, rfl⟩ := r
      exact StrsAre.cons x k (Vals.strs t)
theorem Vals.ref1 {a : Addr} {us : List Value} (r : Vals [V.ref a] us) : us = [Value.ref a] := by
  cases r with
  | cons r t =>
    cases t
    cases r
    rfl
section
variable {prog : Program} {w : World} {A : Around} {E : Value → Shared → Prop} {s : Shared} {l : Addr} {its : List Value} {ns : List Int} {Q : Value → Shared → Prop}
theorem sum_raw (hh : A.handled = none) (hl : s.heap.IsList l its.toArray) (hi : IntsAre its ns)
    (h : ∀ h' tk t', (∀ b o, s.heap.get? b = some o → h'.get? b = some o) → Q (.int ns.sum t') { s with heap := h', toks := tk }) : wpAny (model prog w) A (call (.builtin "sum") [.ref l]) Q E s := by
  obtain ⟨xs, e⟩ := hi.allInts.items
  have hn : numsOf (intItems xs).toList = ns := by rw [← e]; exact hi.numsOf
  rw [nums_intItems] at hn
  rw [e] at hl
  refine PySem.sum_intListG hh hl fun h' tk t' hk => ?_
  have := h h' tk t' hk
  rw [preSum_eq, List.take_of_length_le (by simp), hn]; exact this
theorem min_raw (hh : A.handled = none) (hl : s.heap.IsList l its.toArray) (hi : IntsAre its ns) (hne : 0 < ns.length)
    (h : ∀ h' tk M t', (∀ b o, s.heap.get? b = some o → h'.get? b = some o) → M ∈ ns → (∀ a, a ∈ ns → M ≤ a) → Q (.int M t') { s with heap := h', toks := tk }) : wpAny (model prog w) A (call (.builtin "min") [.ref l]) Q E s := by
  obtain ⟨xs, e⟩ := hi.allInts.items
  have hn : numsOf (intItems xs).toList = ns := by rw [← e]; exact hi.numsOf
  rw [nums_intItems] at hn
  subst hn
  rw [e] at hl
  have hsz : 0 < xs.size := by simpa using hne
  refine PySem.min_intList hh hl hsz fun v h' tk hv hk => ?_
  obtain ⟨t, rfl⟩ := intItems_at hv
  obtain ⟨h1, h2⟩ := argBest_lt (numAt xs) (xs.size - 1)
  refine h h' tk _ t hk ?_ fun a ha => ?_
  · rw [numAt_eq]; exact PySem.getD_mem (by rw [List.length_map, Array.length_toList]; omega)
  · obtain ⟨j, hj, rfl⟩ := mem_getD ha
    rw [List.length_map, Array.length_toList] at hj
    rw [← numAt_eq]; exact h2 j (by omega)
end
section
variable {X : Cx}
/-- sum(xs) of a list of ints -/
def rSum (K : PySem.W.Frag) : List V → Hp → VK → Prop := fun vs H Q => ∃ (a : Addr) (ns : List Int), vs = [V.ref a] ∧ SqL K H a (ns.map V.int) ∧ Q (.int ns.sum) H
def rMin (K : PySem.W.Frag) : List V → Hp → VK → Prop := fun vs H Q => ∃ (a : Addr) (ns : List Int), vs = [V.ref a] ∧ SqL K H a (ns.map V.int) ∧ 0 < ns.length ∧ ∀ m, m ∈ ns → (∀ y, y ∈ ns → m ≤ y) → Q (.int m) H
theorem cr_sum (hc : X.calm = true) : CallR X (.builtin "sum") (rSum X.K) := by
  intro pins s σ H vs us Q I r h
  obtain ⟨a, ns, rfl, hs, q⟩ := h
  obtain ⟨its, rv, hl, _⟩ := I.list hs
  rw [Vals.ref1 r]
  exact sum_raw (I.ok.hd hc) hl.isList rv.ints fun h' tk t' hk => ⟨.int _, H, I.kept hk, ⟨_, rfl⟩, q⟩
theorem cr_min (hc : X.calm = true) : CallR X (.builtin "min") (rMin X.K) := by
  intro pins s σ H vs us Q I r h
  obtain ⟨a, ns, rfl, hs, hne, q⟩ := h
  obtain ⟨its, rv, hl, _⟩ := I.list hs
  rw [Vals.ref1 r]
  exact min_raw (I.ok.hd hc) hl.isList rv.ints hne fun h' tk m t' hk h1 h2 => ⟨.int _, H, I.kept hk, ⟨_, rfl⟩, q m h1 h2⟩
end
section
variable {X : Cx}
end
section
variable {X : Cx}
end
section
variable {X : Cx}
end
mutual
inductive Dp (K : PySem.W.Frag) (H : Hp) : V → PyData → Prop
  | non : Dp K H .non .none
  | bl (b : Bool) : Dp K H (.bl b) (.bool b)
  | int (i : Int) : Dp K H (.int i) (.int i)
  | str (x : Str) : Dp K H (.str x) (.str x)
  | lst {a : Addr} {xs : List V} {ds : List PyData} : SqL K H a xs → DpAll K H xs ds → Dp K H (.ref a) (.list ds)
  | tup {a : Addr} {xs : List V} {ds : List PyData} : SqT K H a xs → DpAll K H xs ds → Dp K H (.ref a) (.tuple ds)
inductive DpAll (K : PySem.W.Frag) (H : Hp) : List V → List PyData → Prop
  | nil : DpAll K H [] []
  | cons {v : V} {vs : List V} {d : PyData} {ds : List PyData} : Dp K H v d → DpAll K H vs ds → DpAll K H (v :: vs) (d :: ds)
end
section
variable {X : Cx} {pins : List (Addr × Obj)} {σ : St} {H : Hp} {s : Shared}
mutual
theorem Dp.reads (I : Inv X pins σ H s) : ∀ (d : PyData) (v : V) (u : Value), Dp X.K H v d → RelV v u → ∃ as, Reads s.heap u d as
  | .none, _, _, h, r => by
    cases h
    cases r
    exact ⟨_, Reads.none⟩
  | .bool b, _, _, h, r => by
    cases h
    cases r
    exact ⟨_, Reads.bool b⟩
  | .int i, _, _, h, r => by
    cases h
    obtain ⟨t, rfl⟩ := r
    exact ⟨_, Reads.int i t⟩
  | .str x, _, _, h, r => by
    cases h
    obtain ⟨t, rfl⟩ := r
    exact ⟨_, Reads.str x t⟩
  | .list ds, _, _, h, r => by
    cases h with
    | lst hs ha =>
      cases r
      obtain ⟨its, rv, ⟨o, n, ho, hc, _, hd⟩, _⟩ := I.list hs
      obtain ⟨as, hr⟩ := Dp.readsAll I ds _ its ha rv
      exact ⟨_, Reads.list ho hc hd hr⟩
  | .tuple ds, _, _, h, r => by
    cases h with
    | tup hs ha =>
      cases r
      obtain ⟨its, rv, ⟨o, ho, hc, n, hd⟩, _⟩ := I.tuple hs
      obtain ⟨as, hr⟩ := Dp.readsAll I ds _ its ha rv
      exact ⟨_, Reads.tuple ho hc hd hr⟩
  | .dict _, _, _, h, _ => by cases h
theorem Dp.readsAll (I : Inv X pins σ H s) : ∀ (ds : List PyData) (vs : List V) (us : List Value), DpAll X.K H vs ds → Vals vs us → ∃ as, ReadsAll s.heap us ds as
  | [], _, _, h, r => by
    cases h
    cases r
    exact ⟨_, ReadsAll.nil⟩
  | d :: ds, _, _, h, r => by
    cases h with
    | cons h1 h2 =>
      cases r with
      | cons r1 r2 =>
        obtain ⟨as, q1⟩ := Dp.reads I d _ _ h1 r1
        obtain ⟨bs, q2⟩ := Dp.readsAll I ds _ _ h2 r2
        exact ⟨_, ReadsAll.cons q1 q2⟩
end
end
section
variable {X : Cx}
end
end L2
namespace L2
open PySem PySem.Spec PyProof.Rows
abbrev CellAt (h : Heap) (c : Addr) (v : Option Value) : Prop := h.IsCell c v
def relS (scope sc : Scope) : Scope :=
  { scope with names := scope.names.map fun (n, k) => if (k == .free && sc.kind == .function && sc.names.lookup n == some .cell) then (n, .cell) else (n, k) }
def cloFrom (cells : List (Str × Addr)) : List (Str × NameKind) → List (Str × Addr) → List (Str × Addr)
  | [], acc => acc
  | (n, k) :: r, acc => if k == .free then cloFrom cells r ((n, (cells.lookup n).getD 0) :: acc) else cloFrom cells r acc
theorem closure_loop (env : Env) (f : Str × NameKind → List (Str × Addr) → Sem (ForInStep (List (Str × Addr))))
    (hf : ∀ n k c, f (n, k) c = if k == .free then (do let a ← cellOf env n; pure (.yield ((n, a) :: c))) else pure (.yield c)) :
    ∀ (names : List (Str × NameKind)) (acc : List (Str × Addr)), (∀ y ∈ names, y.2 = .free → ∃ c, env.cells.lookup y.1 = some c) → forIn names acc f = pure (cloFrom env.cells names acc)
  | [], acc, _ => by rw [List.forIn_nil]; rfl
  | (n, k) :: r, acc, h => by
    rw [List.forIn_cons, hf]
    have ih := fun acc => closure_loop env f hf r acc fun y hy => h y (List.mem_cons_of_mem _ hy)
    unfold cloFrom
    by_cases hk : (k == NameKind.free) = true
    · rw [if_pos hk, if_pos hk]
      obtain ⟨c, hc⟩ := h (n, k) List.mem_cons_self (by simpa using hk)
      have e : cellOf env n = pure c := by unfold cellOf; rw [hc]
      rw [e]
      have e2 : (env.cells.lookup n).getD 0 = c := by rw [hc]; rfl
      rw [e2]
      exact ih _
    · rw [if_neg hk, if_neg hk]
      exact ih _
theorem closure_ok {scope : Scope} {env : Env} (h : ∀ y ∈ scope.names, y.2 = .free → ∃ c, env.cells.lookup y.1 = some c) : closureFor scope env = pure (cloFrom env.cells scope.names []) := by
  simp only [closureFor]
  rw [closure_loop env _ (fun n k c => rfl) scope.names [] h]
  rfl
theorem mem_lookup {α : Type} : ∀ {l : List (Str × α)} {n : Str} {c : α}, (n, c) ∈ l → ∃ c', l.lookup n = some c'
  | (k, v) :: r, n, c, h => by
    rw [List.lookup_cons]
    cases hb : n == k with
    | true => exact ⟨_, rfl⟩
    | false =>
      rcases List.mem_cons.mp h with e | h
      · cases e; simp at hb
      · exact mem_lookup h
theorem cloFrom_mem {cells : List (Str × Addr)} : ∀ {names : List (Str × NameKind)} {acc : List (Str × Addr)} {n : Str} {c : Addr}, (n, c) ∈ cloFrom cells names acc → (n, c) ∈ acc ∨ ((n, .free) ∈ names ∧ c = (cells.lookup n).getD 0)
  | [], _, _, _, h => .inl h
  | (m, k) :: r, acc, n, c, h => by
    unfold cloFrom at h
    split at h
    · rename_i hk
      have hk : k = .free := by simpa using hk
      rcases cloFrom_mem h with h | ⟨h1, h2⟩
      · rcases List.mem_cons.mp h with e | h
        · cases e; exact .inr ⟨hk ▸ List.mem_cons_self, rfl⟩
        · exact .inl h
      · exact .inr ⟨List.mem_cons_of_mem _ h1, h2⟩
    · rcases cloFrom_mem h with h | ⟨h1, h2⟩
      · exact .inl h
      · exact .inr ⟨List.mem_cons_of_mem _ h1, h2⟩
theorem cloFrom_acc {cells : List (Str × Addr)} : ∀ {names : List (Str × NameKind)} {acc : List (Str × Addr)} {p : Str × Addr}, p ∈ acc → p ∈ cloFrom cells names acc
  | [], _, _, h => h
  | (m, k) :: r, acc, p, h => by
    unfold cloFrom
    split
    · exact cloFrom_acc (List.mem_cons_of_mem _ h)
    · exact cloFrom_acc h
theorem cloFrom_has {cells : List (Str × Addr)} : ∀ {names : List (Str × NameKind)} {acc : List (Str × Addr)} {n : Str}, (n, .free) ∈ names → (n, (cells.lookup n).getD 0) ∈ cloFrom cells names acc
  | (m, k) :: r, acc, n, h => by
    unfold cloFrom
    rcases List.mem_cons.mp h with e | h
    · cases e
      exact cloFrom_acc List.mem_cons_self
    · split
      · exact cloFrom_has h
      · exact cloFrom_has h
theorem cells_mem : ∀ {names : List (Str × NameKind)} {h : Heap} {acc : List (Str × Addr)} {x : Str} {c : Addr}, (x, c) ∈ cellsFrom h.objs.size names acc →
    (x, c) ∈ acc ∨ ((x, .cell) ∈ names ∧ h.objs.size ≤ c ∧ CellAt (pushCells h names) c none)
  | [], _, _, _, _, h => .inl h
  | (n, k) :: r, h, acc, x, c, hm => by
    unfold cellsFrom at hm
    unfold pushCells
    split at hm
    · rename_i hk
      rw [if_pos hk]
      have hk : k = .cell := by simpa using hk
      rw [← Heap.size_push h { cls := .type "cell", data := .cell none }] at hm
      rcases cells_mem hm with hm | ⟨h1, h2, h3⟩
      · rcases List.mem_cons.mp hm with e | hm
        · cases e
          exact .inr ⟨hk ▸ List.mem_cons_self, Nat.le_refl _, _, pushCells_keeps r _ _ _ (Heap.get?_push_size _ rfl), rfl⟩
        · exact .inl hm
      · rw [Heap.size_push] at h2
        exact .inr ⟨List.mem_cons_of_mem _ h1, Nat.le_of_succ_le h2, h3⟩
    · rename_i hk
      rw [if_neg hk]
      rcases cells_mem hm with hm | ⟨h1, h2, h3⟩
      · exact .inl hm
      · exact .inr ⟨List.mem_cons_of_mem _ h1, h2, h3⟩
theorem cells_acc : ∀ {names : List (Str × NameKind)} {n : Nat} {acc : List (Str × Addr)} {p : Str × Addr}, p ∈ acc → p ∈ cellsFrom n names acc
  | [], _, _, _, h => h
  | (m, k) :: r, n, acc, p, h => by
    unfold cellsFrom
    split
    · exact cells_acc (List.mem_cons_of_mem _ h)
    · exact cells_acc h
theorem cells_has : ∀ {names : List (Str × NameKind)} {n : Nat} {acc : List (Str × Addr)} {x : Str}, (x, .cell) ∈ names → ∃ c, (x, c) ∈ cellsFrom n names acc
  | (m, k) :: r, n, acc, x, h => by
    unfold cellsFrom
    rcases List.mem_cons.mp h with e | h
    · cases e
      exact ⟨n, cells_acc List.mem_cons_self⟩
    · split
      · exact cells_has h
      · exact cells_has h
theorem cells_inj : ∀ {names : List (Str × NameKind)} {h : Heap} {acc : List (Str × Addr)} {x y : Str} {c : Addr}, (∀ p ∈ acc, p.2 < h.objs.size) → (∀ x y c, (x, c) ∈ acc → (y, c) ∈ acc → x = y) →
    (x, c) ∈ cellsFrom h.objs.size names acc → (y, c) ∈ cellsFrom h.objs.size names acc → x = y
  | [], _, _, _, _, _, _, hi, h1, h2 => hi _ _ _ h1 h2
  | (n, k) :: r, h, acc, x, y, c, hl, hi, h1, h2 => by
    unfold cellsFrom at h1 h2
    split at h1
    · rename_i hk
      rw [if_pos hk] at h2
      rw [← Heap.size_push h { cls := .type "cell", data := .cell none }] at h1 h2
      refine cells_inj (h := h.push _) (fun p hp => ?_) (fun x y c a b => ?_) h1 h2
      · rw [Heap.size_push]
        rcases List.mem_cons.mp hp with rfl | hp
        · exact Nat.lt_succ_self _
        · exact Nat.lt_succ_of_lt (hl p hp)
      · rcases List.mem_cons.mp a with e | a <;> rcases List.mem_cons.mp b with e' | b
        · cases e; cases e'; rfl
        · cases e; exact absurd (hl _ b) (Nat.lt_irrefl _)
        · cases e'; exact absurd (hl _ a) (Nat.lt_irrefl _)
        · exact hi _ _ _ a b
    · rename_i hk
      rw [if_neg hk] at h2
      exact cells_inj hl hi h1 h2
theorem newEnv_comp {M : Model} {A : Around} {E : Value → Shared → Prop} {s : Shared} {scope : Scope} {globals : Addr} {closure : List (Str × Addr)} {qual : Str} {func : Option Addr} {code : Value} {around : Env} {builtins : Addr} {Q : Env → Shared → Prop}
    (h : Q (newEnv scope s.heap.objs.size globals (cellsFrom (s.heap.objs.size + 1) scope.names closure) qual func code (some around) builtins)
      { s with heap := pushCells (s.heap.push { cls := .type "dict", data := .dict #[] }) scope.names }) :
    wpAny M A (newFunctionEnv scope globals closure [] qual func code (some around) builtins) Q E s := by
  simp only [newFunctionEnv, Option.isSome_some, if_true]
  refine wpAny_bind (wpAny_alloc ?_)
  refine wpAny_bind (wpAny_layCells _ (fun n k c => rfl) scope.names closure _ _ ?_)
  rw [show ({ s with heap := s.heap.push { cls := .type "dict", data := .dict #[] } } : Shared).heap.objs.size = s.heap.objs.size + 1 from Heap.size_push ..]
  rw [List.forIn_nil]
  exact wpAny_bind (wpAny_pure (wpAny_pure h))
/-- every name of the written scope, in the scope that runs -/
theorem lookup_relS {sc : Scope} : ∀ {names : List (Str × NameKind)} {x : Str} {k : NameKind},
    (names.map fun (n, k) => if (k == NameKind.free && sc.kind == .function && sc.names.lookup n == some .cell) then (n, NameKind.cell) else (n, k)).lookup x = some k →
    ∃ k', names.lookup x = some k' ∧ (k = k' ∨ (k' = .free ∧ k = .cell))
  | [], _, _, h => by simp at h
  | (n, k₀) :: r, x, k, h => by
    have ih := @lookup_relS sc r x k
    have h' : List.lookup x ((if (k₀ == NameKind.free && sc.kind == .function && sc.names.lookup n == some .cell) = true then (n, NameKind.cell) else (n, k₀)) :: (r.map _)) = some k := h
    cases hx : x == n with
    | true =>
      simp only [List.lookup_cons, hx]
      by_cases hc : (k₀ == NameKind.free && sc.kind == .function && sc.names.lookup n == some .cell) = true
      · rw [if_pos hc] at h'
        simp only [List.lookup_cons, hx] at h'
        cases h'
        simp only [Bool.and_eq_true, beq_iff_eq] at hc
        exact ⟨k₀, rfl, .inr ⟨hc.1.1, rfl⟩⟩
      · rw [if_neg hc] at h'
        simp only [List.lookup_cons, hx] at h'
        cases h'
        exact ⟨_, rfl, .inl rfl⟩
    | false =>
      simp only [List.lookup_cons, hx]
      by_cases hc : (k₀ == NameKind.free && sc.kind == .function && sc.names.lookup n == some .cell) = true
      · rw [if_pos hc] at h'
        simp only [List.lookup_cons, hx] at h'
        exact ih h'
      · rw [if_neg hc] at h'
        simp only [List.lookup_cons, hx] at h'
        exact ih h'
/-- the names of a comprehension's block: its own (with their places in N), or captured -/
structure BlkOk (N : List Str) (sc scope : Scope) (own : List (Str × Nat)) : Prop where
  kind : scope.kind = .function
  uniq : ∀ y ∈ scope.names, scope.names.lookup y.1 = some y.2
  ix : ∀ p ∈ own, N[p.2]? = some p.1
  free : ∀ y ∈ scope.names, y.2 = .free → sc.names.lookup y.1 = some .cell ∨ sc.names.lookup y.1 = some .free
  own : ∀ y ∈ scope.names, y.2 = .local ∨ y.2 = .cell → y.1 ∈ own.map (·.1) ∨ y.1 ∉ N
/-- the slots of the block's own names forgotten -/
def wipe (σ : St) : List Nat → St
  | [] => σ
  | v :: vs => (wipe σ vs).set v none
theorem wipe_length (σ : St) : ∀ vs : List Nat, (wipe σ vs).length = σ.length
  | [] => rfl
  | v :: vs => by unfold wipe; rw [List.length_set, wipe_length σ vs]
theorem wipe_some {σ : St} {i : Nat} {x : V} : ∀ {vs : List Nat}, (wipe σ vs)[i]? = some (some x) → σ[i]? = some (some x) ∧ i ∉ vs
  | [], h => ⟨h, by simp⟩
  | v :: vs, h => by
    unfold wipe at h
    by_cases hi : v = i
    · subst hi
      by_cases hv : v < (wipe σ vs).length
      · rw [List.getElem?_set_self hv] at h; cases h
      · rw [List.getElem?_eq_none (by simpa using hv)] at h; cases h
    · rw [List.getElem?_set_ne hi] at h
      obtain ⟨h1, h2⟩ := wipe_some h
      exact ⟨h1, by simp only [List.mem_cons, not_or]; exact ⟨fun e => hi e.symm, h2⟩⟩
/-- the context of a block that starts at s, its iterator's objects at fp -/
abbrev Cx.blk (X : Cx) (s : Shared) (H : Hp) (scope : Scope) (cenv : Env) (fp : List Addr) : Cx := { X with s_0 := s, H_0 := H, env := cenv, outer := X.stack, ex := fp, fn := fun x => scope.names.lookup x == some .cell, pn := [], xe := fun _ _ => False }
section
variable {X : Cx} {pins : List (Addr × Obj)} {σ : St} {H : Hp} {s : Shared}
theorem block_start {scope : Scope} {own : List (Str × Nat)} {fp : List Addr} (I : Inv X pins σ H s) (ok : BlkOk X.N X.env.scope scope own) (hN : X.N.Nodup) (hfp : ∀ b ∈ fp, FpOk X pins H b ∧ b < s.heap.objs.size) :
    Inv (X.blk s H scope (compEnvC scope (cellsFrom (s.heap.objs.size + 1) scope.names (cloFrom X.env.cells scope.names [])) s.heap.objs.size X.env) fp) [] (wipe σ (own.map (·.2))) H { s with heap := pushCells (s.heap.push { cls := .type "dict", data := .dict #[] }) scope.names } := by
  have hfree : ∀ y ∈ scope.names, y.2 = .free → ∃ c, X.env.cells.lookup y.1 = some c := fun y hy e => by
    rcases ok.free y hy e with k | k
    · exact I.ok.has _ (.inl k)
    · exact I.ok.has _ (.inr k)
  generalize hcenv : compEnvC scope (cellsFrom (s.heap.objs.size + 1) scope.names (cloFrom X.env.cells scope.names [])) s.heap.objs.size X.env = cenv
  have kp : ∀ b o, s.heap.get? b = some o → (pushCells (s.heap.push { cls := .type "dict", data := .dict #[] }) scope.names).get? b = some o := fun b o e => pushCells_keeps _ _ _ _ (Heap.get?_push_of_some _ e)
  have hL : cenv.locals = s.heap.objs.size := by rw [← hcenv]; rfl
  have hcl : cenv.cells = cellsFrom (s.heap.objs.size + 1) scope.names (cloFrom X.env.cells scope.names []) := by rw [← hcenv]; rfl
  have hsc : cenv.scope = relS scope X.env.scope := by rw [← hcenv]; rfl
  rw [← Heap.size_push s.heap { cls := .type "dict", data := .dict #[] }] at hcl
  have cm : ∀ {y c}, (y, c) ∈ cloFrom X.env.cells scope.names [] → X.env.cells.lookup y = some c ∧ c < s.heap.objs.size := fun {y c} hm => by
    rcases cloFrom_mem hm with hm | ⟨h1, rfl⟩
    · cases hm
    · obtain ⟨c, hc⟩ := hfree _ h1 rfl
      rw [hc]
      obtain ⟨w, z⟩ := I.cell _ _ hc
      exact ⟨rfl, z.lt⟩
  have mem : ∀ {y c}, cenv.cells.lookup y = some c → (X.env.cells.lookup y = some c ∧ c < s.heap.objs.size) ∨ (s.heap.objs.size + 1 ≤ c ∧ CellAt (pushCells (s.heap.push { cls := .type "dict", data := .dict #[] }) scope.names) c none) := fun {y c} e => by
    rw [hcl] at e
    rcases cells_mem (PySem.mem_of_lookup e) with hm | ⟨_, h2, h3⟩
    · exact .inl (cm hm)
    · rw [Heap.size_push] at h2; exact .inr ⟨h2, h3⟩
  have look : ∀ {y}, scope.names.lookup y = some .free → ∃ c, cenv.cells.lookup y = some c ∧ X.env.cells.lookup y = some c := fun {y} hl => by
    have hy : (y, NameKind.free) ∈ scope.names := PySem.mem_of_lookup hl
    obtain ⟨c', e'⟩ := mem_lookup (cells_acc (names := scope.names) (n := (s.heap.push { cls := .type "dict", data := .dict #[] }).objs.size) (cloFrom_has (cells := X.env.cells) (acc := []) hy))
    rw [← hcl] at e'
    refine ⟨c', e', ?_⟩
    rw [hcl] at e'
    rcases cells_mem (PySem.mem_of_lookup e') with hm | ⟨h1, _, _⟩
    · exact (cm hm).1
    · have := ok.uniq _ h1
      rw [hl] at this; cases this
  have okB : (X.blk s H scope cenv fp).Ok := by
    refine ⟨I.ok.mod, by show cenv.scope.kind = _; rw [hsc]; exact ok.kind, by show cenv.globals = _; rw [← hcenv]; exact I.ok.glob, by show cenv.builtins = _; rw [← hcenv]; exact I.ok.blt, by show s.heap.objs.size ≤ cenv.locals; rw [hL]; exact Nat.le_refl _,
      fun y z c e1 e2 => ?_, fun y hy => ?_, fun y c z e => ?_, I.ok.hd, I.ok.frames, .inl rfl, fun b hb => ⟨?_, fun y c e z => ?_⟩, I.bs, Nat.le_trans I.ok.bsz I.sz, fun b o e hb => ?_, fun b hb z => ?_, I.stack, I.stkFree⟩
    · have e1 : cenv.cells.lookup y = some c := e1
      have e2 : cenv.cells.lookup z = some c := e2
      rw [hcl] at e1 e2
      refine cells_inj (fun p hp => ?_) (fun y z c a b => I.ok.inj y z c (cm a).1 (cm b).1) (PySem.mem_of_lookup e1) (PySem.mem_of_lookup e2)
      rw [Heap.size_push]
      exact Nat.lt_succ_of_lt (cm (y := p.1) (c := p.2) hp).2
    · show ∃ c, cenv.cells.lookup y = some c
      have key : ∀ k, cenv.kindOf y = some k → (k = .cell ∨ k = .free) → ∃ c, cenv.cells.lookup y = some c := fun k hk hk' => by
        unfold Env.kindOf at hk
        rw [hsc] at hk
        obtain ⟨k', e, r⟩ := lookup_relS hk
        have : k' = .cell ∨ k' = .free := by
          rcases r with rfl | ⟨rfl, _⟩
          · exact hk'
          · exact .inr rfl
        rcases this with rfl | rfl
        · obtain ⟨c, hm⟩ := cells_has (n := (s.heap.push { cls := .type "dict", data := .dict #[] }).objs.size) (acc := cloFrom X.env.cells scope.names []) (PySem.mem_of_lookup e)
          obtain ⟨c', e'⟩ := mem_lookup hm
          exact ⟨c', by rw [hcl]; exact e'⟩
        · obtain ⟨c, h1, _⟩ := look e
          exact ⟨c, h1⟩
      rcases hy with hy | hy
      · exact key _ hy (.inl rfl)
      · exact key _ hy (.inr rfl)
    · have z : (scope.names.lookup y == some NameKind.cell) = true := z
      have z : scope.names.lookup y = some .cell := by simpa using z
      have e : cenv.cells.lookup y = some c := e
      rw [hcl] at e
      rcases cells_mem (PySem.mem_of_lookup e) with hm | ⟨_, h2, _⟩
      · rcases cloFrom_mem hm with hm | ⟨h1, _⟩
        · cases hm
        · have q := ok.uniq _ h1
          rw [z] at q; cases q
      · rw [Heap.size_push] at h2
        exact Nat.le_of_succ_le h2
    · show b ≠ cenv.locals
      rw [hL]; exact Nat.ne_of_lt (hfp b hb).2
    · have e : cenv.cells.lookup y = some c := e
      rcases mem e with ⟨h1, _⟩ | ⟨h1, _⟩
      · exact (hfp b hb).1.2.2.2.2.1 y c h1 z
      · have h2 : s.heap.objs.size + 1 ≤ b := by rw [← z]; exact h1
        exact absurd (Nat.lt_of_lt_of_le (hfp b hb).2 (Nat.le_of_succ_le h2)) (Nat.lt_irrefl _)
    · rcases (hfp b hb).1.2.2.2.1 with z | z
      · exact I.ok.noex b o e z
      · exact absurd (Nat.lt_of_lt_of_le (Heap.lt_size e) (Nat.le_trans I.ok.bsz z)) (Nat.lt_irrefl _)
    · rcases List.mem_cons.mp (I.stkSub b z) with z | z
      · exact (hfp b hb).1.2.1 z
      · exact (hfp b hb).1.2.2.1 z
  refine ⟨okB, rfl, I.bare, Un.kept kp, ⟨fun _ => none, ?_, fun i y av e1 e2 e3 => ?_⟩, fun y c e => ?_, ?_, fun y c e => ?_, fun p hp => ?_, I.hok.kept kp, by rw [wipe_length]; exact I.len⟩
  · show Heap.Ns _ cenv.locals _
    rw [hL]
    exact Heap.Ns.keeps (Heap.Ns.new ..) fun b o e => pushCells_keeps _ _ _ _ e
  · obtain ⟨e2, hne⟩ := wipe_some e2
    have hfr : scope.names.lookup y = some .free ∧ (cenv.kindOf y = some .cell ∨ cenv.kindOf y = some .free) := by
      have key : ∀ k, cenv.scope.names.lookup y = some k → k = .local ∨ k = .cell ∨ k = .free → scope.names.lookup y = some .free ∧ (cenv.kindOf y = some .cell ∨ cenv.kindOf y = some .free) := fun k hk hk' => by
        have hk0 := hk
        rw [hsc] at hk
        obtain ⟨k', e, r⟩ := lookup_relS hk
        have no : ¬ (k' = .local ∨ k' = .cell) := fun hh => by
          rcases ok.own _ (PySem.mem_of_lookup e) hh with e' | e'
          · obtain ⟨p, hp, hpy⟩ := List.mem_map.mp e'
            have e3 := ok.ix p hp
            have : p.1 = y := hpy
            rw [this] at e3
            exact hne (List.mem_map.mpr ⟨p, hp, nodup_ix hN e3 e1⟩)
          · exact e' (List.mem_of_getElem? e1)
        rcases r with rfl | ⟨rfl, rfl⟩
        · rcases hk' with rfl | rfl | rfl
          · exact absurd (.inl rfl) no
          · exact absurd (.inr rfl) no
          · exact ⟨e, .inr hk0⟩
        · exact ⟨e, .inl hk0⟩
      have e3 : Vis cenv.scope y := e3
      rcases e3 with e3 | e3 | e3
      · exact key _ e3 (.inl rfl)
      · exact key _ e3 (.inr (.inl rfl))
      · exact key _ e3 (.inr (.inr rfl))
    obtain ⟨m, hn, hl⟩ := I.loc
    have hvis : Vis X.env.scope y := (ok.free _ (PySem.mem_of_lookup hfr.1) rfl).elim (fun k => .inr (.inl k)) (fun k => .inr (.inr k))
    obtain ⟨w, r, q⟩ := hl i y av e1 e2 hvis
    refine ⟨w, r, .inr ⟨hfr.2, ?_⟩⟩
    obtain ⟨c, h1, h2⟩ := look hfr.1
    rcases q with ⟨k, _⟩ | ⟨_, c', e', z⟩
    · have k : X.env.scope.names.lookup y = some .local := k
      rcases ok.free _ (PySem.mem_of_lookup hfr.1) rfl with k' | k' <;> rw [show X.env.scope.names.lookup y = _ from k'] at k <;> cases k
    · rw [h2] at e'; cases e'
      exact ⟨c, h1, z.keeps kp⟩
  · have e : cenv.cells.lookup y = some c := e
    rcases mem e with ⟨h1, _⟩ | ⟨_, z⟩
    · obtain ⟨w, z⟩ := I.cell y c h1
      exact ⟨w, z.keeps kp⟩
    · exact ⟨_, z⟩
  · show H cenv.locals = none
    rw [hL]; exact I.hok.fresh (Nat.le_refl _)
  · have e : cenv.cells.lookup y = some c := e
    rcases mem e with ⟨h1, _⟩ | ⟨h1, _⟩
    · exact I.freeC y c h1
    · exact I.hok.fresh (Nat.le_of_succ_le h1)
  · exact absurd (show p ∈ ([] : List (Addr × Obj)) ++ [] from hp) (by simp)
/-- an item appended to a tracked list -/
theorem app_ok {E : Value → Shared → Prop} {D : Addr} {xs : List V} {y : V} {v : Value} {Q : Value → Shared → Prop} (I : Inv X pins σ H s) (hD : H D = some (.lst xs)) (hz : xs.length < sizeLine) (r : RelV y v)
    (h : ∀ s', Inv X pins σ (upd H D (.lst (xs ++ [y]))) s' → Q .none s') : wpAny (model X.prog X.w) X.A (call (.builtin "list.append") [.ref D, v]) Q E s := by
  obtain ⟨hz', its, n, ri, e⟩ := I.hok D _ hD
  have hl := ri.length
  refine append_at (hsz := by rw [List.size_toArray]; omega) e fun h' sb ho' => ?_
  refine h { s with heap := h' } (I.write (t' := s.toks) (by rw [hD]; trivial) (.inl rfl) (fun b u hb q => (sb.2 b hb).trans q) ⟨_, ho'⟩ ⟨by rw [List.length_append]; exact hz, its ++ [v], n + 1, ri.append (.cons r .nil), ?_⟩)
  rw [ho']
  simp
/-- a clause's tests -/
def PTs (X : Cx) (ifs : List Expr) (t : TT) : Prop :=
  ∀ (pins : List (Addr × Obj)) (s : Shared) (σ : St) (H : Hp) (Q : Bool → Hp → Prop), Inv X pins σ H s → t σ H Q →
    wpAny (model X.prog X.w) X.A (forIn ifs true fun c r => if r = true then do let ok ← isTrue c X.env (eval c X.env); pure (ForInStep.yield ok) else pure (ForInStep.yield r)) (TP X pins σ Q) X.xe s
def tYes : TT := fun _ H Q => Q true H
theorem pts_nil : PTs X [] tYes := fun _ _ _ H _ I h => wpAny_tests_nil ⟨H, I, h⟩
theorem pts_one {c : Expr} {t : TT} (h : PT X c t) : PTs X [c] t := fun pins s σ H Q I hw => wpAny_tests_one (h pins s σ H Q I hw)
end
theorem thnF {α : Type} {t : Sem α} {Q Q' : α → Shared → Prop} {M : Model} {A : Around} {E : Value → Shared → Prop} {s : Shared} (h : wpAny M A t Q (fun _ _ => False) s) (hQ : ∀ a s, Q a s → Q' a s) : wpAny M A t Q' E s := wpAny_mono h hQ fun _ _ z => False.elim z
/-- the loop of a list comprehension's block, the target of any form (codeAny_compLoop_tests asks a target that no tuple goes to; statement and proof follow it, PyProof/CompMap.lean:41-61, with the step letOwnedTupleGo kept) -/
theorem compLoop_any {prog : Program} {w : World} {A : Around} {R : Result → Shared → Prop} {s : Shared} {elt target iter : Expr} {ifs : List Expr} {scope : Scope} {pos : Pos} {it acc : Value} {env : Env} (I : Nat → Shared → Prop)
    (turn : ∀ n s, I n s → wpAny (model prog w) A (pyNext it) (fun r s₁ => match r with
      | none => R (.ok .next) s₁
      | some v => wpAny (model prog w) A (letOwnedTupleGo target it v) (fun _ s₁' => wpAny (model prog w) A (assign target env v) (fun _ s₂ =>
          wpAny (model prog w) A (forIn ifs true fun c r => if r = true then do let ok ← isTrue c env (eval c env); pure (ForInStep.yield ok) else pure (ForInStep.yield r)) (fun ok s₃ =>
            if ok = true then wpAny (model prog w) A (eval elt env) (fun x s₄ =>
              wpAny (model prog w) A (call (.builtin "list.append") [acc, x]) (fun _ s₅ => ∃ m, m < n ∧ I m s₅) (notedBy (model prog w) A env fun e s' => R (.error e) s') s₄) (notedBy (model prog w) A env fun e s' => R (.error e) s') s₃
            else ∃ m, m < n ∧ I m s₃) (notedBy (model prog w) A env fun e s' => R (.error e) s') s₂) (notedBy (model prog w) A env fun e s' => R (.error e) s') s₁') (notedBy (model prog w) A env fun e s' => R (.error e) s') s₁) (notedBy (model prog w) A env fun e s' => R (.error e) s') s)
    (n : Nat) (h : I n s) :
    codeAny (model prog w) A (.compLoop (.ListComp elt [⟨target, iter, ifs, 0⟩] scope pos) 0 it acc env) R s := by
  refine codeAny_loop rfl I (fun n s hI => ?_) n h
  show wpAny _ A ((compTurn (.ListComp elt [⟨target, iter, ifs, 0⟩] scope pos) 0 it acc env).onRaise (fun x => do noteFrame x env; theTreesLotGoes x)) _ _ s
  refine wpAny_noted ?_
  rw [compTurn_list]
  refine wpAny_bind (wpAny_standAt (wpAny_bind (wpAny_mono (turn n s hI) (fun r s₁ h₁ => ?_) fun _ _ h' => h')))
  cases r with
  | none => exact wpAny_pure h₁
  | some v =>
    refine wpAny_bind (wpAny_mono h₁ (fun _ s₁' h₁' => ?_) fun _ _ h' => h')
    refine wpAny_bind (wpAny_mono h₁' (fun _ s₂ h₂ => wpAny_bind (wpAny_mono h₂ (fun ok s₃ h₃ => ?_) fun _ _ h' => h')) fun _ _ h' => h')
    cases ok with
    | false => exact wpAny_pure ⟨rfl, h₃⟩
    | true =>
      exact wpAny_bind (wpAny_bind (wpAny_mono h₃ (fun x s₄ h₄ => wpAny_bind (wpAny_mono h₄ (fun _ s₅ h₅ => wpAny_pure (wpAny_pure ⟨rfl, h₅⟩)) fun _ _ h' => h')) fun _ _ h' => h'))
section
variable {X : Cx}
/-- [elt for target in iter if ..]: D the new list; W by the turn and a measure, Nx what a turn is to reach -/
def tLc (wi : TI) (g : TG) (tt : TT) (te : TE) (vs : List Nat) : TE := fun σ H Q => wi σ H fun J H1 => ∀ D, H1 D = none → ∃ W : Nat → Nat → Hp → Prop, (∃ m, W 0 m (upd H1 D (.lst []))) ∧ ∀ i m H, W i m H →
  (J.stop i H ∧ Q (.ref D) H) ∨ (J.go i H ∧ ∃ Nx : Hp → Prop, (∀ H', Nx H' → ∃ m', m' < m ∧ W (i + 1) m' H') ∧ ∀ x H', J.yld i H x H' → g x (wipe σ vs) H' fun σ2 H2 => wipe σ2 vs = wipe σ vs ∧ tt σ2 H2 fun b H3 =>
    if b = true then te σ2 H3 fun y H4 => ∃ acc, H4 D = some (.lst acc) ∧ acc.length < sizeLine ∧ Nx (upd H4 D (.lst (acc ++ [y]))) else Nx H3)
theorem lc_core {pins : List (Addr × Obj)} {s : Shared} {σ : St} {H : Hp} {Q : VK} {elt tg iter : Expr} {ifs : List Expr} {scope : Scope} {own : List (Str × Nat)} {pos pos' : Pos} {wi : TI} {g : TG} {tt : TT} {te : TE} {use : Option (Value → Sem Unit)} {Qf : Value → Shared → Prop}
    (hc : X.calm = true) (hN : X.N.Nodup) (I : Inv X pins σ H s) (hi : PI X tg iter wi) (ok : BlkOk X.N X.env.scope scope own)
    (hg : ∀ (s : Shared) (H : Hp) (C : Addr) (cl : List (Str × Addr)) (fp : List Addr), PG (X.blk s H scope (compEnvC scope cl C X.env) fp) tg g) (ht : ∀ (s : Shared) (H : Hp) (C : Addr) (cl : List (Str × Addr)) (fp : List Addr), PTs (X.blk s H scope (compEnvC scope cl C X.env) fp) ifs tt)
    (he : ∀ (s : Shared) (H : Hp) (C : Addr) (cl : List (Str × Addr)) (fp : List Addr), PE (X.blk s H scope (compEnvC scope cl C X.env) fp) elt te) (hs : ∀ x, foldedSetIterable iter X.env x = pure x)
    (h : tLc wi g tt te (own.map (·.2)) σ H Q)
    (hRR : ∀ D C s' m H', Inv X pins σ H' s' → Q (.ref D) H' → s'.heap.Ns C m → FpOk X pins H' C → compPost (model X.prog X.w) X.A X.xe use Qf (.ref D) C (.ok .next) s') :
    wpAny (model X.prog X.w) X.A (comprehension (.ListComp elt [⟨tg, iter, ifs, 0⟩] scope pos) scope X.env pos' (newList []) false (eval iter X.env) use) Qf X.xe s := by
  have hfree : ∀ y ∈ scope.names, y.2 = .free → ∃ c, X.env.cells.lookup y.1 = some c := fun y hy e => by
    rcases ok.free y hy e with k | k
    · exact I.ok.has _ (.inl k)
    · exact I.ok.has _ (.inr k)
  refine wpAny_comprehension_free (use := use) rfl hs (closure_ok hfree) ok.kind (fun y hy e => by rw [ok.uniq y hy, e])
    (thn (hi pins s σ H _ I h) fun xv s1 hx => thn hx fun itv s2 h2 => ?_)
  obtain ⟨it, fp, tn, J, H2, e, I2, T, st2, f2, q⟩ := h2
  subst e
  refine wpAny_newObj_type (newEnv_comp ?_) (by show 0 ≤ sizeLine; decide)
  generalize hD : s2.heap.objs.size = D
  have hDn : H2 D = none := I2.hok.fresh (Nat.le_of_eq hD)
  obtain ⟨W, ⟨m0, w0⟩, turn⟩ := q D hDn
  -- the new list
  generalize hs3 : ({ s2 with heap := s2.heap.push { cls := .type "list", data := .seq ([] : List Value).toArray } } : Shared) = s3
  have I3 : Inv X pins σ (upd H2 D (.lst [])) s3 := by
    rw [← hs3]
    refine I2.laid (t' := s2.toks) (fun b o e => Heap.get?_push_of_some _ e) (Nat.le_of_eq hD) ⟨Nat.zero_le _, [], 0, .nil, ?_⟩
    rw [← hD]
    exact Heap.get?_push_size _ rfl
  have h3 : s3.heap = s2.heap.push { cls := .type "list", data := .seq ([] : List Value).toArray } := by rw [← hs3]
  have sz : ∀ b ∈ fp, b < s2.heap.objs.size := fun b hb => by
    obtain ⟨o, e, _⟩ := T.obj _ _ st2 b hb
    exact Heap.lt_size e
  have f3 : ∀ b ∈ fp, FpOk X pins (upd H2 D (.lst [])) b ∧ b < s3.heap.objs.size := fun b hb => by
    have hlt := sz b hb
    refine ⟨⟨?_, (f2 b hb).2⟩, by rw [h3, Heap.size_push]; exact Nat.lt_succ_of_lt hlt⟩
    rw [upd_ne (by rw [← hD]; exact Nat.ne_of_lt hlt)]
    exact (f2 b hb).1
  have st3 : tn 0 s3.heap := T.keep _ _ _ st2 fun b _ o e => by rw [h3]; exact Heap.get?_push_of_some _ e
  have I4 := block_start I3 ok hN f3
  have pg := hg s3 (upd H2 D (.lst [])) s3.heap.objs.size (cellsFrom (s3.heap.objs.size + 1) scope.names (cloFrom X.env.cells scope.names [])) fp
  have pt := ht s3 (upd H2 D (.lst [])) s3.heap.objs.size (cellsFrom (s3.heap.objs.size + 1) scope.names (cloFrom X.env.cells scope.names [])) fp
  have pe := he s3 (upd H2 D (.lst [])) s3.heap.objs.size (cellsFrom (s3.heap.objs.size + 1) scope.names (cloFrom X.env.cells scope.names [])) fp
  show codeAny _ _ (.compStart (.ListComp elt [⟨tg, iter, ifs, 0⟩] scope pos) 0 (.ref it) (.ref D) (compEnvC scope (cellsFrom (s3.heap.objs.size + 1) scope.names (cloFrom X.env.cells scope.names [])) s3.heap.objs.size X.env)) (compPost (model X.prog X.w) X.A X.xe use Qf (.ref D) s3.heap.objs.size) { s3 with heap := pushCells (s3.heap.push { cls := .type "dict", data := .dict #[] }) scope.names }
  have nfp : ∀ b ∈ fp, (upd H2 D (.lst [])) b = none := fun b hb => (f3 b hb).1.1
  generalize hce : compEnvC scope (cellsFrom (s3.heap.objs.size + 1) scope.names (cloFrom X.env.cells scope.names [])) s3.heap.objs.size X.env = ce at I4 pg pt pe ⊢
  have cL : ce.locals = s3.heap.objs.size := by subst hce; rfl
  generalize hH3 : upd H2 D (.lst []) = H3 at I3 I4 pg pt pe w0 nfp f3
  generalize hs4 : ({ s3 with heap := pushCells (s3.heap.push { cls := .type "dict", data := .dict #[] }) scope.names } : Shared) = s4 at I4 ⊢
  have st4 : tn 0 s4.heap := T.keep _ _ _ st3 fun b _ o e => by rw [← hs4]; exact pushCells_keeps _ _ _ _ (Heap.get?_push_of_some _ e)
  have stat : ∀ {σ' : St} {H' : Hp} {s' : Shared}, Inv (X.blk s3 H3 scope ce fp) [] σ' H' s' → (∀ b ∈ fp, H' b = none) → ∀ b ∈ fp, FpOk (X.blk s3 H3 scope ce fp) [] H' b := fun {σ' H' s'} I' hn b hb =>
    ⟨hn b hb, (I'.ok.exf b hb).1, I'.ok.exfs b hb, .inl hb, fun x c e => (I'.ok.exf b hb).2 x c e, fun p hp => absurd (show p ∈ ([] : List (Addr × Obj)) ++ [] from hp) (by simp)⟩
  have loop : codeAny (model X.prog X.w) X.A (.compLoop (.ListComp elt [⟨tg, iter, ifs, 0⟩] scope pos) 0 (.ref it) (.ref D) ce) (compPost (model X.prog X.w) X.A X.xe use Qf (.ref D) s3.heap.objs.size) s4 := by
    refine compLoop_any (fun n s' => ∃ i H', Inv (X.blk s3 H3 scope ce fp) [] (wipe σ (own.map (·.2))) H' s' ∧ tn i s'.heap ∧ (∀ b ∈ fp, H' b = none) ∧ W i n H') ?_ m0 ⟨0, H3, I4, st4, nfp, w0⟩
    rintro n s5 ⟨i, H5, I5, st5, n5, w5⟩
    rcases turn i n H5 w5 with ⟨stop, qq⟩ | ⟨go, Nx, hNx, step⟩
    · have td := T.done (X.blk s3 H3 scope ce fp) rfl rfl rfl hc i [] s5 _ H5 (fun _ _ => False) I5 (stat I5 n5) st5 stop
      refine thnF td fun r s6 ⟨hr, I6⟩ => ?_
      subst hr
      -- back in the def's context
      have I7 : Inv X pins σ H5 s6 := I3.call' (ch := fp) I6.os I6.base I6.hok I6.bare fun b hb => ⟨(f3 b hb).1.2.2.2.1, (f3 b hb).1.2.1, (f3 b hb).1.2.2.2.2.1, (f3 b hb).1.2.2.2.2.2⟩
      have nC : H5 s3.heap.objs.size = none := by
        have z : H5 ce.locals = none := I6.free
        rw [cL] at z
        exact z
      obtain ⟨m, hn, _⟩ := I6.loc
      have hn : s6.heap.Ns ce.locals m := hn
      rw [cL] at hn
      exact hRR D s3.heap.objs.size s6 m H5 I7 qq hn (I3.fpOk (Nat.le_refl _) nC)
    · have ti := T.item (X.blk s3 H3 scope ce fp) rfl rfl rfl hc i [] s5 _ H5 (fun _ _ => False) I5 (stat I5 n5) st5 go
      refine thnF ti fun r s6 ⟨u, hr, h6⟩ => ?_
      subst hr
      refine thnF h6 fun _ s7 ⟨x, H7, I7, r7, y7, st7, n7⟩ => ?_
      have I7' := I7.pinned (stat I7 n7) (T.obj _ _ st7)
      refine thnF (pg _ s7 _ H7 x u _ I7' r7 (step x H7 y7)) fun _ s8 ⟨σ8, H8, I8, hw8, q8⟩ => ?_
      refine thnF (pt _ s8 σ8 H8 _ I8 q8) fun b s9 ⟨H9, I9, q9⟩ => ?_
      -- the turn's end
      have fin : ∀ {s' : Shared} {H' : Hp}, Inv (X.blk s3 H3 scope ce fp) ([] ++ pinsAt fp s7.heap) σ8 H' s' → Nx H' → ∃ m, m < n ∧ ∃ i H', Inv (X.blk s3 H3 scope ce fp) [] (wipe σ (own.map (·.2))) H' s' ∧ tn i s'.heap ∧ (∀ b ∈ fp, H' b = none) ∧ W i m H' := fun {s' H'} I' nx => by
        obtain ⟨m', hm, w'⟩ := hNx H' nx
        have pin' : ∀ b ∈ fp, ∀ o, s7.heap.get? b = some o → s'.heap.get? b = some o ∧ H' b = none := fun b hb o e =>
          let z := I'.pin (b, o) (List.mem_append_right _ (List.mem_append_right _ (mem_pinsAt hb e)))
          ⟨z.1, z.2.1⟩
        have hl : (wipe σ (own.map (·.2))).length = σ8.length := by rw [← hw8, wipe_length]
        refine ⟨m', hm, i + 1, H', (I'.unpinned (pins := [])).weak hl (fun j v e => ?_), T.keep _ _ _ st7 fun b hb o e => (pin' b hb o e).1, fun b hb => ?_, w'⟩
        · rw [← hw8] at e
          exact (wipe_some e).1
        · obtain ⟨o, e, _⟩ := T.obj _ _ st7 b hb
          exact (pin' b hb o e).2
      cases b with
      | false =>
        simp only [Bool.false_eq_true, if_false] at q9 ⊢
        exact fin I9 q9
      | true =>
        simp only [if_true] at q9 ⊢
        refine thnF (pe _ s9 σ8 H9 _ I9 q9) fun z s10 ⟨yv, H10, I10, r10, acc, hD10, hz10, nx⟩ => ?_
        exact app_ok (X := X.blk s3 H3 scope ce fp) I10 hD10 hz10 r10 fun s11 I11 => fin I11 nx
  exact codeAny_compStart_list loop (T.self X.A 0 _ _ _ st4 loop)
/-- as a value -/
theorem pe_lc {elt tg iter : Expr} {ifs : List Expr} {scope : Scope} {own : List (Str × Nat)} {pos : Pos} {wi : TI} {g : TG} {tt : TT} {te : TE} (hc : X.calm = true) (hN : X.N.Nodup) (hi : PI X tg iter wi) (ok : BlkOk X.N X.env.scope scope own)
    (hg : ∀ (s : Shared) (H : Hp) (C : Addr) (cl : List (Str × Addr)) (fp : List Addr), PG (X.blk s H scope (compEnvC scope cl C X.env) fp) tg g) (ht : ∀ (s : Shared) (H : Hp) (C : Addr) (cl : List (Str × Addr)) (fp : List Addr), PTs (X.blk s H scope (compEnvC scope cl C X.env) fp) ifs tt)
    (he : ∀ (s : Shared) (H : Hp) (C : Addr) (cl : List (Str × Addr)) (fp : List Addr), PE (X.blk s H scope (compEnvC scope cl C X.env) fp) elt te) (hs : ∀ x, foldedSetIterable iter X.env x = pure x := by intro _; rfl) :
    PE X (.ListComp elt [⟨tg, iter, ifs, 0⟩] scope pos) (tLc wi g tt te (own.map (·.2))) := by
  intro pins s σ H Q I h
  rw [eval_ListComp]
  refine lc_core hc hN I hi ok hg ht he hs h fun D C s' m H' I' q hn f => ⟨m, hn, fun h'' sb => ?_⟩
  obtain ⟨f0, f1, f2, f3, f4, f5⟩ := f
  exact ⟨.ref D, H', I'.turned (t' := s'.toks) (fun b o hb e => (sb.2 b hb).trans e) f0 f1 f3 f4 f5, rfl, q⟩
/-- name = [..] on one line, the name a local -/
theorem ps_setLc {i : Nat} {y : Str} {py : Pos} {elt tg iter : Expr} {ifs : List Expr} {scope : Scope} {own : List (Str × Nat)} {pos spos : Pos} {wi : TI} {g : TG} {tt : TT} {te : TE} (hc : X.calm = true) (hN : X.N.Nodup) (hy : X.N[i]? = some y) (hyl : X.env.scope.names.lookup y = some .local)
    (hsw : swapsWith (.ListComp elt [⟨tg, iter, ifs, 0⟩] scope pos) (some (.Name y py)) spos.line X.env = pure true) (hi : PI X tg iter wi) (ok : BlkOk X.N X.env.scope scope own)
    (hg : ∀ (s : Shared) (H : Hp) (C : Addr) (cl : List (Str × Addr)) (fp : List Addr), PG (X.blk s H scope (compEnvC scope cl C X.env) fp) tg g) (ht : ∀ (s : Shared) (H : Hp) (C : Addr) (cl : List (Str × Addr)) (fp : List Addr), PTs (X.blk s H scope (compEnvC scope cl C X.env) fp) ifs tt)
    (he : ∀ (s : Shared) (H : Hp) (C : Addr) (cl : List (Str × Addr)) (fp : List Addr), PE (X.blk s H scope (compEnvC scope cl C X.env) fp) elt te) (hs : ∀ x, foldedSetIterable iter X.env x = pure x := by intro _; rfl) :
    PS X (.Assign [.Name y py] (.ListComp elt [⟨tg, iter, ifs, 0⟩] scope pos) spos) (tAsg (tLc wi g tt te (own.map (·.2))) (gName i)) := by
  intro pins s σ H D I h
  rw [exec_Assign_Name_used _ _ _ _ hsw]
  refine wpAny_bind (wpAny_standAt (wpAny_bind ?_))
  show wpAny _ X.A (do let _ ← comprehension (.ListComp elt [⟨tg, iter, ifs, 0⟩] scope pos) scope X.env (firstIterPos [⟨tg, iter, ifs, 0⟩] pos) (newList []) false (eval iter X.env) (some (assign (.Name y py) X.env))) _ _ s
  have h : tLc wi g tt te (own.map (·.2)) σ H (fun x H1 => gName i x σ H1 D.nx) := h
  refine wpAny_bind (thn (lc_core (Qf := fun _ s' => SP X pins D .next s') hc hN I hi ok hg ht he hs h fun L C s' m H' I' q hn f => ?_) fun _ s' hq => wpAny_pure (wpAny_pure hq))
  show wpAny _ _ (assign (.Name y py) X.env (.ref L)) _ _ _
  refine wpAny_assign_Name (store_ok2 (v := V.ref L) I' hN hy (.inl hyl) rfl (fun s2 I2 ⟨a, sb, ha⟩ => ?_) (.inr hyl))
  obtain ⟨f0, f1, f2, f3, f4, f5⟩ := f
  have haC : C ≠ a := by
    rcases ha with z | z
    · rw [z]; exact f1
    · exact fun e => f4 y a z e.symm
  refine ⟨m, hn.sameBut sb haC, fun h3 sb3 => ?_⟩
  exact ⟨_, H', I2.turned (t' := s2.toks) (fun b o hb e => (sb3.2 b hb).trans e) f0 f1 f3 f4 f5, q⟩
end
/-- over a range: Pv by the turn and the heap (the new list at D within) -/
theorem lc_range {lo : Int} {n : Nat} {g : TG} {tt : TT} {te : TE} {vs : List Nat} {σ : St} {H1 : Hp} {D : Addr} {Qd : Hp → Prop} (Pv : Nat → Hp → Prop) (h0 : Pv 0 (upd H1 D (.lst [])))
    (hs : ∀ i H, i < n → Pv i H → g (.int (lo + i)) (wipe σ vs) H fun σ2 H2 => wipe σ2 vs = wipe σ vs ∧ tt σ2 H2 fun b H3 =>
      if b = true then te σ2 H3 fun y H4 => ∃ acc, H4 D = some (.lst acc) ∧ acc.length < sizeLine ∧ Pv (i + 1) (upd H4 D (.lst (acc ++ [y]))) else Pv (i + 1) H3) (hd : ∀ H, Pv n H → Qd H) :
    ∃ W : Nat → Nat → Hp → Prop, (∃ m, W 0 m (upd H1 D (.lst []))) ∧ ∀ i m H, W i m H →
      ((Itr lo n).stop i H ∧ Qd H) ∨ ((Itr lo n).go i H ∧ ∃ Nx : Hp → Prop, (∀ H', Nx H' → ∃ m', m' < m ∧ W (i + 1) m' H') ∧ ∀ x H', (Itr lo n).yld i H x H' → g x (wipe σ vs) H' fun σ2 H2 => wipe σ2 vs = wipe σ vs ∧ tt σ2 H2 fun b H3 =>
        if b = true then te σ2 H3 fun y H4 => ∃ acc, H4 D = some (.lst acc) ∧ acc.length < sizeLine ∧ Nx (upd H4 D (.lst (acc ++ [y]))) else Nx H3) := by
  refine ⟨fun i m H => m = n - i ∧ i ≤ n ∧ Pv i H, ⟨n, by simp, Nat.zero_le _, h0⟩, ?_⟩
  rintro i m H ⟨rfl, hi, p⟩
  by_cases hlt : i < n
  · refine .inr ⟨hlt, Pv (i + 1), fun H' p' => ⟨n - (i + 1), by omega, rfl, hlt, p'⟩, fun x H' y => ?_⟩
    obtain ⟨e, y⟩ := y
    subst e y
    exact hs i _ hlt p
  · have e : i = n := by omega
    subst e
    exact .inl ⟨Nat.le_refl _, hd H p⟩
/-- over a list that the block leaves as it is -/
theorem lc_list {K : PySem.W.Frag} {a : Addr} {xs : List V} {g : TG} {tt : TT} {te : TE} {vs : List Nat} {σ : St} {H1 : Hp} {D : Addr} {Qd : Hp → Prop} (Pv : Nat → Hp → Prop) (h0 : Pv 0 (upd H1 D (.lst []))) (hl : ∀ i H, i ≤ xs.length → Pv i H → SqL K H a xs)
    (hs : ∀ i x H, xs[i]? = some x → Pv i H → g x (wipe σ vs) H fun σ2 H2 => wipe σ2 vs = wipe σ vs ∧ tt σ2 H2 fun b H3 =>
      if b = true then te σ2 H3 fun y H4 => ∃ acc, H4 D = some (.lst acc) ∧ acc.length < sizeLine ∧ Pv (i + 1) (upd H4 D (.lst (acc ++ [y]))) else Pv (i + 1) H3) (hd : ∀ H, Pv xs.length H → Qd H) :
    ∃ W : Nat → Nat → Hp → Prop, (∃ m, W 0 m (upd H1 D (.lst []))) ∧ ∀ i m H, W i m H →
      ((Itl K a).stop i H ∧ Qd H) ∨ ((Itl K a).go i H ∧ ∃ Nx : Hp → Prop, (∀ H', Nx H' → ∃ m', m' < m ∧ W (i + 1) m' H') ∧ ∀ x H', (Itl K a).yld i H x H' → g x (wipe σ vs) H' fun σ2 H2 => wipe σ2 vs = wipe σ vs ∧ tt σ2 H2 fun b H3 =>
        if b = true then te σ2 H3 fun y H4 => ∃ acc, H4 D = some (.lst acc) ∧ acc.length < sizeLine ∧ Nx (upd H4 D (.lst (acc ++ [y]))) else Nx H3) := by
  refine ⟨fun i m H => m = xs.length - i ∧ i ≤ xs.length ∧ Pv i H, ⟨xs.length, by simp, Nat.zero_le _, h0⟩, ?_⟩
  rintro i m H ⟨rfl, hi, p⟩
  have q := hl i H hi p
  by_cases hlt : i < xs.length
  · refine .inr ⟨⟨xs, xs[i], q, by simp [hlt]⟩, Pv (i + 1), fun H' p' => ⟨xs.length - (i + 1), by omega, rfl, hlt, p'⟩, fun x H' y => ?_⟩
    obtain ⟨e, y⟩ := y
    subst e
    exact hs i x _ (y xs q) p
  · have e : i = xs.length := by omega
    subst e
    exact .inl ⟨⟨xs, q, Nat.le_refl _⟩, hd H p⟩
/-- over a tuple -/
theorem lc_tup {K : PySem.W.Frag} {a : Addr} {xs : List V} {g : TG} {tt : TT} {te : TE} {vs : List Nat} {σ : St} {H1 : Hp} {D : Addr} {Qd : Hp → Prop} (Pv : Nat → Hp → Prop) (h0 : Pv 0 (upd H1 D (.lst []))) (hl : ∀ i H, i ≤ xs.length → Pv i H → SqT K H a xs)
    (hs : ∀ i x H, xs[i]? = some x → Pv i H → g x (wipe σ vs) H fun σ2 H2 => wipe σ2 vs = wipe σ vs ∧ tt σ2 H2 fun b H3 =>
      if b = true then te σ2 H3 fun y H4 => ∃ acc, H4 D = some (.lst acc) ∧ acc.length < sizeLine ∧ Pv (i + 1) (upd H4 D (.lst (acc ++ [y]))) else Pv (i + 1) H3) (hd : ∀ H, Pv xs.length H → Qd H) :
    ∃ W : Nat → Nat → Hp → Prop, (∃ m, W 0 m (upd H1 D (.lst []))) ∧ ∀ i m H, W i m H →
      ((Itt K a).stop i H ∧ Qd H) ∨ ((Itt K a).go i H ∧ ∃ Nx : Hp → Prop, (∀ H', Nx H' → ∃ m', m' < m ∧ W (i + 1) m' H') ∧ ∀ x H', (Itt K a).yld i H x H' → g x (wipe σ vs) H' fun σ2 H2 => wipe σ2 vs = wipe σ vs ∧ tt σ2 H2 fun b H3 =>
        if b = true then te σ2 H3 fun y H4 => ∃ acc, H4 D = some (.lst acc) ∧ acc.length < sizeLine ∧ Nx (upd H4 D (.lst (acc ++ [y]))) else Nx H3) := by
  refine ⟨fun i m H => m = xs.length - i ∧ i ≤ xs.length ∧ Pv i H, ⟨xs.length, by simp, Nat.zero_le _, h0⟩, ?_⟩
  rintro i m H ⟨rfl, hi, p⟩
  have q := hl i H hi p
  by_cases hlt : i < xs.length
  · refine .inr ⟨⟨xs, xs[i], q, by simp [hlt]⟩, Pv (i + 1), fun H' p' => ⟨xs.length - (i + 1), by omega, rfl, hlt, p'⟩, fun x H' y => ?_⟩
    obtain ⟨e, y⟩ := y
    subst e
    exact hs i x _ (y xs q) p
  · have e : i = xs.length := by omega
    subst e
    exact .inl ⟨⟨xs, q, Nat.le_refl _⟩, hd H p⟩
def blkC (N : List Str) (sc scope : Scope) (own : List (Str × Nat)) : Bool :=
  (match scope.kind with | .function => true | _ => false) && (scope.names.all fun y => decide (scope.names.lookup y.1 = some y.2)) && (own.all fun p => decide (N[p.2]? = some p.1)) &&
    (scope.names.all fun y => match y.2 with
      | .free => (match sc.names.lookup y.1 with | some .cell => true | some .free => true | _ => false)
      | .local => decide (y.1 ∈ own.map (·.1)) || decide (y.1 ∉ N)
      | .cell => decide (y.1 ∈ own.map (·.1)) || decide (y.1 ∉ N)
      | _ => true)
theorem blkOk_by {N : List Str} {sc scope : Scope} {own : List (Str × Nat)} (h : blkC N sc scope own = true) : BlkOk N sc scope own := by
  unfold blkC at h
  simp only [Bool.and_eq_true, List.all_eq_true, decide_eq_true_eq] at h
  obtain ⟨⟨⟨h1, h2⟩, h3⟩, h4⟩ := h
  refine ⟨?_, h2, h3, fun y hy e => ?_, fun y hy e => ?_⟩
  · split at h1
    · assumption
    · cases h1
  · have q := h4 y hy
    simp only [e] at q
    split at q <;> first | exact .inl (by assumption) | exact .inr (by assumption) | cases q
  · have q := h4 y hy
    rcases e with e | e <;> (simp only [e, Bool.or_eq_true, decide_eq_true_eq] at q; exact q)
end L2
namespace L2
open PySem PySem.Spec PyProof.Rows
section
variable {prog : Program} {w : World} {A : Around} {R : Result → Shared → Prop} {s : Shared} {elt t0 i0 t1 i1 : Expr} {ifs0 ifs1 : List Expr} {scope : Scope} {pos : Pos} {it acc : Value} {env : Env}
end
section
variable {X : Cx}
end
end L2
namespace L2
open PySem PySem.Spec PyProof.Rows
section
variable {κ : Type} [DecidableEq κ]
def valV (kvs : List (κ × V)) (k : κ) : Option V := (kvs.find? fun kv => decide (kv.1 = k)).map (·.2)
/-- in its place, or at the end -/
def putK (kvs : List (κ × V)) (k : κ) (v : V) : List (κ × V) :=
  if (kvs.any fun kv => decide (kv.1 = k)) = true then kvs.map (fun kv => if kv.1 = k then (kv.1, v) else kv) else kvs ++ [(k, v)]
def dropK (kvs : List (κ × V)) (k : κ) : List (κ × V) := kvs.filter fun kv => decide (kv.1 ≠ k)
theorem valV_pos {p : κ × V} {r : List (κ × V)} {k : κ} (e : p.1 = k) : valV (p :: r) k = some p.2 := by simp [valV, List.find?_cons, e]
theorem valV_neg {p : κ × V} {r : List (κ × V)} {k : κ} (e : ¬ p.1 = k) : valV (p :: r) k = valV r k := by simp [valV, List.find?_cons, e]
theorem RelO.getD {o : Option V} {u : Option Value} {d : V} {d' : Value} (r : RelO o u) (rd : RelV d d') : RelV (o.getD d) (u.getD d') := by
  cases o with
  | none => cases u with
    | none => exact rd
    | some _ => exact (show False from r).elim
  | some _ => cases u with
    | none => exact (show False from r).elim
    | some _ => exact r
/-- raw tables of the same keys -/
theorem KV.val {kvs : List (κ × V)} {vs : List (κ × Value)} (r : KV kvs vs) (k : κ) : RelO (valV kvs k) (valueAt vs k) := by
  unfold KV at r
  induction r with
  | nil => exact True.intro
  | @cons p q ps qs h t ih =>
    obtain ⟨h1, h2⟩ := h
    by_cases e : p.1 = k
    · have e' : q.1 = k := h1.symm.trans e
      have b : valueAt (q :: qs) k = some q.2 := by simp [valueAt, List.find?_cons, e']
      rw [valV_pos e, b]; exact h2
    · have e' : ¬ q.1 = k := fun z => e (h1.trans z)
      have b : valueAt (q :: qs) k = valueAt qs k := by simp [valueAt, List.find?_cons, e']
      rw [valV_neg e, b]; exact ih
theorem KV.any {kvs : List (κ × V)} {vs : List (κ × Value)} (r : KV kvs vs) (k : κ) : (kvs.any fun kv => decide (kv.1 = k)) = vs.any fun kv => decide (kv.1 = k) := by
  unfold KV at r
  induction r with
  | nil => rfl
  | cons h t ih => rw [List.any_cons, List.any_cons, ih, h.1]
theorem KV.drop {kvs : List (κ × V)} {vs : List (κ × Value)} (r : KV kvs vs) (k : κ) : KV (dropK kvs k) (without vs k) := by
  unfold KV at r ⊢
  unfold dropK without
  induction r with
  | nil => exact .nil
  | @cons p q ps qs h t ih =>
    obtain ⟨h1, h2⟩ := h
    rw [List.filter_cons, List.filter_cons]
    by_cases e : p.1 = k
    · have a : ¬ decide (p.1 ≠ k) = true := by simp [e]
      have b : ¬ decide (q.1 ≠ k) = true := by simp [h1.symm.trans e]
      rw [if_neg a, if_neg b]; exact ih
    · have e' : ¬ q.1 = k := fun z => e (h1.trans z)
      have a : decide (p.1 ≠ k) = true := by simp [e]
      have b : decide (q.1 ≠ k) = true := by simp [e']
      rw [if_pos a, if_pos b]; exact .cons ⟨h1, h2⟩ ih
theorem KV.length {kvs : List (κ × V)} {vs : List (κ × Value)} (r : KV kvs vs) : kvs.length = vs.length := Paired.length r
end
/-- raw entries of a dict with tuple keys -/
abbrev KT (H : Hp) : List (List Key × V) → List (List Key × Addr × Value) → Prop := Paired fun p q => p.1 = q.1 ∧ H q.2.1 = some (.tup (p.1.map kV)) ∧ RelV p.2 q.2.2
theorem KT.val {H : Hp} {kvs : List (List Key × V)} {xs : List (List Key × Addr × Value)} (r : KT H kvs xs) (k : List Key) : RelO (valV kvs k) ((atKey xs k).map (·.2)) := by
  induction r with
  | nil => exact True.intro
  | @cons p q ps qs h t ih =>
    obtain ⟨h1, _, h2⟩ := h
    by_cases e : p.1 = k
    · have e' : q.1 = k := h1.symm.trans e
      have b : atKey (q :: qs) k = some q.2 := by simp [atKey, List.find?_cons, e']
      rw [valV_pos e, b]; exact h2
    · have e' : ¬ q.1 = k := fun z => e (h1.trans z)
      have b : atKey (q :: qs) k = atKey qs k := by simp [atKey, List.find?_cons, e']
      rw [valV_neg e, b]; exact ih
theorem KT.keeps {H H' : Hp} {kvs : List (List Key × V)} {xs : List (List Key × Addr × Value)} (r : KT H kvs xs) (ht : ∀ b ys, H b = some (.tup ys) → H' b = some (.tup ys)) : KT H' kvs xs :=
  Paired.mapP r fun _ _ z => ⟨z.1, ht _ _ z.2.1, z.2.2⟩
section
variable {P : Program} {w : World} {H : Hp} {h : Heap} {a : Addr}
end
/-- what the dict at a holds at the key y -/
def DGet (H : Hp) (a : Addr) (y : V) (r : Option V) : Prop :=
  (∃ kvs k, Rd H a (.dK kvs) ∧ y = kV k ∧ r = valV kvs k) ∨ ∃ kvs k b, Rd H a (.dT kvs) ∧ y = .ref b ∧ H b = some (.tup (k.map kV)) ∧ r = valV kvs k
/-- the heap behind a[y] = v -/
def DPut (H : Hp) (a : Addr) (y v : V) (H' : Hp) : Prop :=
  (∃ kvs k, H a = some (.dK kvs) ∧ y = kV k ∧ kvs.length < sizeLine ∧ H' = upd H a (.dK (putK kvs k v))) ∨
  ∃ kvs k b, H a = some (.dT kvs) ∧ y = .ref b ∧ H b = some (.tup (k.map kV)) ∧ kvs.length < sizeLine ∧ H' = upd H a (.dT (putK kvs k v))
theorem DGet.k {H : Hp} {a : Addr} {kvs : List (Key × V)} {k : Key} (e : H a = some (.dK kvs)) : DGet H a (kV k) (valV kvs k) := .inl ⟨kvs, k, .inl e, rfl, rfl⟩
theorem DGet.t {H : Hp} {a b : Addr} {kvs : List (List Key × V)} {k : List Key} (e : H a = some (.dT kvs)) (eb : H b = some (.tup (k.map kV))) : DGet H a (.ref b) (valV kvs k) := .inr ⟨kvs, k, b, .inl e, rfl, eb, rfl⟩
theorem DPut.k {H : Hp} {a : Addr} {kvs : List (Key × V)} {k : Key} {v : V} (e : H a = some (.dK kvs)) (hl : kvs.length < sizeLine) : DPut H a (kV k) v (upd H a (.dK (putK kvs k v))) := .inl ⟨kvs, k, e, rfl, hl, rfl⟩
theorem DPut.t {H : Hp} {a b : Addr} {kvs : List (List Key × V)} {k : List Key} {v : V} (e : H a = some (.dT kvs)) (eb : H b = some (.tup (k.map kV))) (hl : kvs.length < sizeLine) :
    DPut H a (.ref b) v (upd H a (.dT (putK kvs k v))) := .inr ⟨kvs, k, b, e, rfl, eb, hl, rfl⟩
section
variable {X : Cx} {pins : List (Addr × Obj)} {σ : St} {H : Hp} {s : Shared} {a : Addr} {y v : V} {u r : Value} {o : Option V} {A : Around} {E : Value → Shared → Prop}
end
section
variable {X : Cx} {pins : List (Addr × Obj)} {σ : St} {H : Hp} {s : Shared} {a : Addr} {kvs : List (Key × V)} {k : Key} {u : Value} {A : Around} {E : Value → Shared → Prop}
end
section
variable {X : Cx} {o i e value : Expr} {pos pos' tpos : Pos} {td ty tv : TE}
end
section
variable {X : Cx} {pos : Pos}
end
/-- a method call o.m(e) of a built-in, with one argument: what must be seen of the text -/
structure M1 (X : Cx) (o : Expr) (m : Str) (apos : Pos) (e : Expr) (cpos : Pos) : Prop where
  base : attributeBase o m X.env (eval o X.env) = eval o X.env
  few : ((backTo cpos (starEach [e] X.env)).all (fun x => !x.1) && (backToKw cpos (keywordEach [] X.env)).all (fun x => x.1.isSome)
    && decide (([e] : List Expr).length + ([] : List Keyword).length + (if ([] : List Keyword).isEmpty then 0 else 1) < 30)) = true
  line : (apos.endLine == cpos.line) = true
  trees : backTo cpos (starEach [e] X.env) = [(false, eval e X.env)]
structure M2 (X : Cx) (o : Expr) (m : Str) (apos : Pos) (e f : Expr) (cpos : Pos) : Prop where
  base : attributeBase o m X.env (eval o X.env) = eval o X.env
  few : ((backTo cpos (starEach [e, f] X.env)).all (fun x => !x.1) && (backToKw cpos (keywordEach [] X.env)).all (fun x => x.1.isSome)
    && decide (([e, f] : List Expr).length + ([] : List Keyword).length + (if ([] : List Keyword).isEmpty then 0 else 1) < 30)) = true
  line : (apos.endLine == cpos.line) = true
  trees : backTo cpos (starEach [e, f] X.env) = [(false, eval e X.env), (false, eval f X.env)]
section
variable {X : Cx} {pins : List (Addr × Obj)} {σ : St} {H : Hp} {s : Shared} {a : Addr} {y d : V} {u r : Value} {o : Option V} {A : Around} {E : Value → Shared → Prop}
end
section
variable {X : Cx} {o e f : Expr} {apos cpos : Pos} {td ty tx : TE}
end
section
variable {X : Cx} {pins : List (Addr × Obj)} {σ : St} {H : Hp} {s : Shared} {a : Addr} {kvs : List (Key × V)} {A : Around} {E : Value → Shared → Prop}
end
section
variable {X : Cx} {pins : List (Addr × Obj)} {σ : St} {H : Hp} {s : Shared} {a : Addr} {y : V} {u : Value} {A : Around} {E : Value → Shared → Prop}
end
end L2
namespace L2
open PySem PySem.Spec PyProof.Rows
section
variable {prog : Program} {w : World} {A : Around} {E : Value → Shared → Prop}
end
section
variable {X : Cx}
end
end L2
namespace L2
open PySem PySem.Spec PyProof.Rows
section
variable {X : Cx} {pins : List (Addr × Obj)} {σ : St} {H : Hp} {s : Shared} {h' : Heap}
/-- .. and one new object is laid -/
theorem Inv.turnedNew {t' : Nat} {ch : List Addr} {T : Addr} {ob : HO} (I : Inv X pins σ H s) (k : ∀ b o, b ∉ ch → s.heap.get? b = some o → h'.get? b = some o) (hf : ∀ b ∈ ch, FpOk X pins H b) (hT : s.heap.objs.size ≤ T)
    (new : ObjOk X.prog X.w (upd H T ob) h' T ob) : Inv X pins σ (upd H T ob) { s with heap := h', toks := t' } := by
  have hn : H T = none := I.hok.fresh hT
  have nit : ∀ b u, H b = some u → b ∉ ch := fun b u e z => by
    have q := (hf b z).1
    rw [q] at e; cases e
  refine I.step (g' := s.gens) (d' := s.drawn) (ch := ch) (fun b hb => ⟨(hf b hb).2.2.2.1, (hf b hb).2.1, (hf b hb).2.2.2.2.1, (hf b hb).2.2.2.2.2⟩) (fun b o _ _ hc e _ => k b o hc e) (fun b o _ _ hc e _ => ⟨o.slots, k b o hc e⟩)
    (fun b o _ e n => ?_) (fun b o hc e => ⟨o, k b o hc e⟩) (fun b xs e => ?_) (fun b o u e => ?_) (fun b ps e => ⟨#[], ?_⟩) (fun m hm => ?_) (fun b u e => ?_) I.bare
  · rw [upd_ne (Nat.ne_of_lt (Nat.lt_of_lt_of_le (Heap.lt_size e) hT))]; exact n
  · rw [upd_ne (ne_of_none e hn)]; exact e
  · rw [upd_ne (ne_of_none e hn)]; exact e
  · rw [upd_ne (ne_of_none e hn), e]; simp
  · obtain ⟨o, es, ep, ho, r⟩ := hm
    exact ⟨o, es, ep, k _ o (fun z => (hf _ z).2.1 rfl) ho, r⟩
  · by_cases hb : b = T
    · subst hb
      rw [upd_same] at e
      cases e
      exact new
    · rw [upd_ne hb] at e
      refine (I.hok b u e).stay (fun c v hc q => k c v ?_ q) (fun c q => by rw [upd_ne (ne_of_none q hn)]; exact q) fun c xs q => by rw [upd_ne (ne_of_none q hn)]; exact q
      rcases hc with z | z
      · rw [z]; exact nit b u e
      · exact nit c _ z
end
section
variable {X : Cx}
end
section
variable {X : Cx} {tg : Expr}
end
section
variable {X : Cx} {tg : Expr}
end
section
variable {prog : Program} {w : World} {A : Around} {E : Value → Shared → Prop} {s : Shared}
end
section
variable {X : Cx} {pins : List (Addr × Obj)} {σ : St} {H : Hp} {s : Shared} {d : Addr} {o : Obj}
end
section
variable {P : Program} {w : World} {K : PySem.W.Frag} {tg : Expr} {d : Addr} {o : Obj} {es : Array DictEntry} {ep : Nat}
end
section
variable {X : Cx} {tg e : Expr} {td : TE} {apos cpos : Pos}
end
/-- the list at a as it stands at each turn, each item in a new pair -/
def Ite (K : PySem.W.Frag) (a : Addr) : It :=
  ⟨fun i H => ∃ (xs : List V) (x : V), SqL K H a xs ∧ xs[i]? = some x, fun i H v H' => ∃ T x, v = .ref T ∧ H T = none ∧ H' = upd H T (.tup [.int (i : Nat), x]) ∧ ∀ xs, SqL K H a xs → xs[i]? = some x, fun i H => ∃ xs : List V, SqL K H a xs ∧ xs.length ≤ i⟩
theorem turn_enum {P : Program} {w : World} {K : PySem.W.Frag} {elts : List Expr} {kk : Nat} {tpos : Pos} (a e it : Addr) :
    Turn P w K (.Tuple elts kk tpos) (Ite K a) [e, it] e (fun i h => (∃ old, IsEnum h e it ((i : Nat) : Int) old) ∧ h.IsListIter it a i ∧ e ≠ it) where
  mem := by simp
  obj := fun i h st b hb => by
    obtain ⟨⟨old, he⟩, ⟨o, ho, hc, hd⟩, _⟩ := st
    have e' : b = e ∨ b = it := by simpa using hb
    rcases e' with z | z
    · rw [z]; exact ⟨_, he, fun v q => nomatch q⟩
    · rw [z]; exact ⟨o, ho, fun v q => by rw [hd] at q; cases q⟩
  keep := fun i h h' st k => let ⟨⟨old, he⟩, hi, hne⟩ := st; ⟨⟨old, k e (by simp) _ he⟩, hi.at fun o q => k it (by simp) o q, hne⟩
  item := by
    intro X hP hw hK hc i pins s σ H E I hf st hg
    subst hP hw hK
    obtain ⟨⟨old, he⟩, hit, hne⟩ := st
    obtain ⟨xs, x, hq, hx⟩ := hg
    obtain ⟨its, rv, p, hz⟩ := I.list hq
    obtain ⟨u, hu, ru⟩ := rv.get hx
    have hel : e < s.heap.objs.size := Heap.lt_size he
    have hil : it < s.heap.objs.size := by obtain ⟨_, q, _⟩ := hit; exact Heap.lt_size q
    refine wpAny_pyNext_enum_item he hit p.isList (x := u) (by simpa using hu) hne fun h' ho hit' hT hsz hk => ?_
    refine ⟨_, rfl, wpAny_letOwnedTupleGo_enum (s := { s with heap := h', toks := s.toks + 1 }) ho fun h'' he' sb => ?_⟩
    have hT2 : h''.get? s.heap.objs.size = some { cls := .type "tuple", data := .seq #[.int i s.toks, u] } := (sb.2 _ (Nat.ne_of_gt hel)).trans hT
    have new : ObjOk X.prog X.w (upd H s.heap.objs.size (.tup [.int (i : Nat), x])) h'' s.heap.objs.size (.tup [.int (i : Nat), x]) :=
      ⟨by show 2 ≤ sizeLine; decide, [.int i s.toks, u], .cons ⟨_, rfl⟩ (.cons ru .nil), ⟨_, hT2, rfl, _, rfl⟩⟩
    have I1 : Inv X pins σ (upd H s.heap.objs.size (.tup [.int (i : Nat), x])) { s with heap := h'', toks := s.toks + 1 } :=
      I.turnedNew (ch := [e, it]) (fun b ob hb q => (sb.2 b (fun z => hb (by simp [z]))).trans (hk b ob (fun z => hb (by simp [z])) (fun z => hb (by simp [z])) q)) hf (Nat.le_refl _) new
    refine ⟨.ref s.heap.objs.size, _, I1, rfl, ⟨_, x, rfl, I.hok.fresh (Nat.le_refl _), rfl, fun ys hy => by rw [I.list_inj hy hq]; exact hx⟩, ⟨⟨u, ?_⟩, hit'.at fun o q => (sb.2 it (Ne.symm hne)).trans q, hne⟩, fun b hb => ?_⟩
    · have e1 : ((i + 1 : Nat) : Int) = (i : Int) + 1 := by omega
      rw [e1]; exact he'
    · have hb' : b < s.heap.objs.size := by
        have e' : b = e ∨ b = it := by simpa using hb
        rcases e' with z | z
        · rw [z]; exact hel
        · rw [z]; exact hil
      rw [upd_ne (Nat.ne_of_lt hb')]
      exact (hf b hb).1
  done := by
    intro X hP hw hK hc i pins s σ H E I hf st hg
    subst hP hw hK
    obtain ⟨⟨old, he⟩, hit, hne⟩ := st
    obtain ⟨xs, hq, hx⟩ := hg
    obtain ⟨its, rv, p, hz⟩ := I.list hq
    obtain ⟨f0, f1, f2, f3, f4, f5⟩ := hf it (by simp)
    have hl := rv.length
    exact wpAny_pyNext_enum_end (I.ok.hd hc) he hit p.isList (by simp; omega) fun h' eb => ⟨rfl, I.turned (t' := s.toks) (fun b o hb q => eb b o hb q) f0 f1 f3 f4 f5⟩
  self := fun A i s Q E st h => let ⟨⟨_, he⟩, _⟩ := st; wpAny_pyIter_enum he h
def iEnum (K : PySem.W.Frag) (ta : TA) : TI := fun σ H R => ta σ H fun vs H1 => ∃ a xs, vs = [.ref a] ∧ SqL K H1 a xs ∧ R (Ite K a) H1
theorem pi_enum {X : Cx} {e : Expr} {ta : TA} {p pos tpos : Pos} {elts : List Expr} {kk : Nat} (hg : Gl X "enumerate") (hm : X.mg "enumerate" = none) (ha : PA X [e] ta) (hs : starEach [e] X.env = [(false, eval e X.env)] := by rfl) :
    PI X (.Tuple elts kk tpos) (.Call (.Name "enumerate" p) [e] [] pos) (iEnum X.K ta) := by
  intro pins s σ H R I h
  refine Call_ (ld_blt I hg hm boot_enumerate (PyProof.Rows.callWith_type1 (thn (ha pos pins s σ H _ I h) fun us s1 ⟨vs, H1, I1, r1, q1⟩ => ?_) hs rfl))
  obtain ⟨a, xs, ex, hq, q⟩ := q1
  subst ex
  cases r1 with
  | cons r rr =>
    cases rr
    cases r
    obtain ⟨its, rv, p', hz⟩ := I1.list hq
    refine call_enumerate_list p'.isList fun h' he hit hsz hk => wpAny_pyIter_enum he ?_
    have I2 : Inv X pins σ H1 { s1 with heap := h' } := I1.kept (t' := s1.toks) hk
    refine ⟨s1.heap.objs.size + 1, [s1.heap.objs.size + 1, s1.heap.objs.size], _, _, H1, rfl, I2, turn_enum a (s1.heap.objs.size + 1) s1.heap.objs.size, ⟨⟨.none, he⟩, hit, Nat.succ_ne_self _⟩, fun b hb => ?_, q⟩
    have e' : b = s1.heap.objs.size + 1 ∨ b = s1.heap.objs.size := by simpa using hb
    have hle : s1.heap.objs.size ≤ b := by
      rcases e' with z | z
      · rw [z]; exact Nat.le_add_right _ _
      · rw [z]; exact Nat.le_refl _
    exact I1.fpOk hle (I1.hok.fresh hle)
end L2
section 
namespace Bits
open PySem PyProof.Rows
end Bits
end 
section 
namespace TL
open PySem PySem.Builtin PySem.Builtin.Str PySem.StrLaws
abbrev tl (x : Str) : List Nat := x.cps.toList
theorem len_tl (x : Str) : x.length = (tl x).length := by simp [tl, Str.length]
/-- S stands at the head of l -/
def pre (S l : List Nat) : Bool := l.take S.length == S
/-- what stands before the first S, and behind it -/
def par (S : List Nat) : List Nat → List Nat → Option (List Nat × List Nat)
  | _, [] => none
  | acc, c :: r => if pre S (c :: r) = true then some (acc, (c :: r).drop S.length) else par S (acc ++ [c]) r
theorem pre_of_head {s c : Nat} (S r : List Nat) (h : c ≠ s) : pre (s :: S) (c :: r) = false := by
  cases hp : pre (s :: S) (c :: r) with
  | false => rfl
  | true =>
    have e : (c :: r).take (s :: S).length = s :: S := eq_of_beq hp
    rw [List.length_cons, List.take_succ_cons] at e
    injection e with e1 e2
    exact absurd e1 h
theorem len1 {y : Str} (hy : tl y ≠ []) : 1 ≤ y.length := by
  have e2 : 0 < (tl y).length := List.length_pos_iff.mpr hy
  rw [len_tl y]
  exact e2
/-- the separator's first sign is not in the part -/
theorem free_of {s : Nat} {S p q : List Nat} (h : s ∉ p) : ∀ i, i < p.length → pre (s :: S) ((p ++ q).drop i) = false := fun i hi => by
  have hlt : i < (p ++ q).length := by rw [List.length_append]; omega
  have e : (p ++ q).drop i = (p ++ q)[i] :: (p ++ q).drop (i + 1) := List.drop_eq_getElem_cons hlt
  rw [e]
  refine pre_of_head _ _ fun z => h ?_
  have e1 : (p ++ q)[i] = p[i] := List.getElem_append_left hi
  rw [← z, e1]
  exact List.getElem_mem hi
end TL
end 
namespace L2
open PySem PySem.Spec PyProof.Rows
section
variable {X : Cx} {pins : List (Addr × Obj)} {σ : St} {H : Hp} {s : Shared} {Q : VK}
end
section
variable {X : Cx}
end
section
variable {X : Cx} {o e : Expr} {to te : TE}
end
end L2
namespace L2
open PySem PySem.Spec PyProof.Rows
section
variable {X : Cx}
end
theorem IsPart.raw {v : Value} {o : Option Int} (p : IsPart v o) : ∃ l : Option (Int × Tok), v = partValue l ∧ l.map (·.1) = o := by
  cases p with
  | none => exact ⟨none, rfl, rfl⟩
  | int i t => exact ⟨some (i, t), rfl, rfl⟩
end L2
namespace Att
open PySem PySem.W PySem.Calls PyProof.Rows
section
variable {prog : Program} {w : World} {A : Around} {E : Value → Shared → Prop} {s : Shared} {K : Frag}
end
end Att
namespace L2
open PySem PySem.Spec PyProof.Rows
end L2
namespace L2
open PySem PySem.Spec PyProof.Rows
end L2
section
set_option Elab.async false
set_option linter.all false
set_option maxRecDepth 100000
set_option maxHeartbeats 2000000
namespace L2
open PySem PySem.Spec PyProof.Rows
open PySem.W (WData Codec OpenSpec Well WellAll ReadsW ReadsAllW)
mutual
/-- x stands for the datum d, lists and tuples all the way -/
inductive Dw (K : PySem.W.Frag) (H : Hp) : V → WData → Prop
  | non : Dw K H .non .none
  | bl (b : Bool) : Dw K H (.bl b) (.bool b)
  | int (i : Int) : Dw K H (.int i) (.int i)
  | str (x : Str) : Dw K H (.str x) (.str x)
  | byt (b : Array UInt8) : Dw K H (.byt b) (.bytes b.toList)
  | lst {a : Addr} {xs : List V} {ds : List WData} : SqL K H a xs → DwAll K H xs ds → Dw K H (.ref a) (.list ds)
  | tup {a : Addr} {xs : List V} {ds : List WData} : SqT K H a xs → DwAll K H xs ds → Dw K H (.ref a) (.tuple ds)
inductive DwAll (K : PySem.W.Frag) (H : Hp) : List V → List WData → Prop
  | nil : DwAll K H [] []
  | cons {v : V} {vs : List V} {d : WData} {ds : List WData} : Dw K H v d → DwAll K H vs ds → DwAll K H (v :: vs) (d :: ds)
end
theorem dw_ints {K : PySem.W.Frag} {H : Hp} : ∀ ns : List Int, DwAll K H (ns.map V.int) (ns.map WData.int)
  | [] => .nil
  | n :: r => .cons (.int n) (dw_ints r)
theorem ints_dw {K : PySem.W.Frag} {H : Hp} : ∀ (ns : List Int) (xs : List V), DwAll K H xs (ns.map WData.int) → xs = ns.map V.int
  | [], xs, h => by
    cases h
    rfl
  | n :: r, xs, h => by
    cases h with
    | cons h1 h2 =>
      cases h1
      rw [ints_dw r _ h2] <;> rfl
section
variable {P : Program} {w : World} {K : PySem.W.Frag} {H : Hp} {h : Heap} {R : PySem.W.WRecords} {cl : Str → Option Addr}
theorem sqL_at {a : Addr} {xs : List V} (hok : HOk P w H h) (KX : K.In h) (q : SqL K H a xs) : ∃ (its : List Value) (o : Obj) (n : Nat), Vals xs its ∧ h.get? a = some o ∧ o.cls = .type "list" ∧ o.data = .seq its.toArray n := by
  rcases q with q | ⟨o, its, n, e, hc, _, hd, _, hv⟩
  · obtain ⟨_, its, n, hv, e⟩ := (show ObjOk P w H h a (.lst xs) from q.ok hok)
    exact ⟨its, _, n, hv, e, rfl, rfl⟩
  · exact ⟨its.toList, o, n, hv, KX _ _ e, hc, by simp [hd]⟩
theorem sqT_at {a : Addr} {xs : List V} (hok : HOk P w H h) (KX : K.In h) (q : SqT K H a xs) : ∃ (its : List Value) (o : Obj) (n : Nat), Vals xs its ∧ h.get? a = some o ∧ o.cls = .type "tuple" ∧ o.data = .seq its.toArray n := by
  rcases q with q | ⟨o, its, n, e, hc, hd, _, hv⟩
  · obtain ⟨_, its, hv, o, e, hc, n, hd⟩ := (show ObjOk P w H h a (.tup xs) from q.ok hok)
    exact ⟨its, o, n, hv, e, hc, hd⟩
  · exact ⟨its.toList, o, n, hv, KX _ _ e, hc, by simp [hd]⟩
mutual
theorem Dw.reads (hok : HOk P w H h) (KX : K.In h) : ∀ (d : WData) (v : V) (u : Value), Dw K H v d → RelV v u → ∃ as, ReadsW R cl h u d as
  | .none, _, _, x, r => by
    cases x
    cases r
    exact ⟨_, ReadsW.none⟩
  | .bool b, _, _, x, r => by
    cases x
    cases r
    exact ⟨_, ReadsW.bool b⟩
  | .int i, _, _, x, r => by
    cases x
    obtain ⟨t, rfl⟩ := r
    exact ⟨_, ReadsW.int i t⟩
  | .str s, _, _, x, r => by
    cases x
    obtain ⟨t, rfl⟩ := r
    exact ⟨_, ReadsW.str s t⟩
  | .bytes b, _, _, x, r => by
    cases x
    obtain ⟨t, rfl⟩ := r
    exact ⟨_, ReadsW.bytes _ t⟩
  | .list ds, _, _, x, r => by
    cases x with
    | lst hs ha =>
      cases r
      obtain ⟨its, o, n, rv, ho, hc, hd⟩ := sqL_at hok KX hs
      obtain ⟨as, hr⟩ := Dw.readsAll hok KX ds _ its ha rv
      exact ⟨_, ReadsW.list ho hc hd hr⟩
  | .tuple ds, _, _, x, r => by
    cases x with
    | tup hs ha =>
      cases r
      obtain ⟨its, o, n, rv, ho, hc, hd⟩ := sqT_at hok KX hs
      obtain ⟨as, hr⟩ := Dw.readsAll hok KX ds _ its ha rv
      exact ⟨_, ReadsW.tuple ho hc hd hr⟩
  | .float _, _, _, x, _ => by cases x
  | .dict _, _, _, x, _ => by cases x
  | .bytearray _, _, _, x, _ => by cases x
  | .set _, _, _, x, _ => by cases x
  | .frozenset _, _, _, x, _ => by cases x
  | .obj _ _, _, _, x, _ => by cases x
theorem Dw.readsAll (hok : HOk P w H h) (KX : K.In h) : ∀ (ds : List WData) (vs : List V) (us : List Value), DwAll K H vs ds → Vals vs us → ∃ as, ReadsAllW R cl h us ds as
  | [], _, _, x, r => by
    cases x
    cases r
    exact ⟨_, ReadsAllW.nil⟩
  | d :: ds, _, _, x, r => by
    cases x with
    | cons h1 h2 =>
      cases r with
      | cons r1 r2 =>
        obtain ⟨as, q1⟩ := Dw.reads hok KX d _ _ h1 r1
        obtain ⟨bs, q2⟩ := Dw.readsAll hok KX ds _ _ h2 r2
        exact ⟨_, ReadsAllW.cons q1 q2⟩
end
end
mutual
/-- data that a codec tells -/
def plW : WData → Bool
  | .none => true
  | .bool _ => true
  | .int _ => true
  | .str _ => true
  | .bytes _ => true
  | .list xs => plWs xs
  | .tuple xs => plWs xs
  | _ => false
def plWs : List WData → Bool
  | [] => true
  | x :: r => plW x && plWs r
end
theorem plWs_map {α : Type} {f : α → WData} (h : ∀ a, plW (f a) = true) : ∀ l : List α, plWs (l.map f) = true
  | [] => rfl
  | x :: r => by
    show (plW (f x) && plWs (r.map f)) = true
    rw [h x, plWs_map h r] <;> rfl
theorem pl_enc : ∀ (c : Codec) (a : c.denote), plW (c.enc a) = true
  | .unit, _ => rfl
  | .bool, _ => rfl
  | .int _ _, _ => rfl
  | .nat _ _, _ => rfl
  | .u8, _ => rfl
  | .bytes _ _, _ => rfl
  | .text _ _ _ _, _ => rfl
  | .list _ _ c, a => plWs_map (fun x => pl_enc c x) a
  | .pair c d, a => by
    show (plW (c.enc a.1) && (plW (d.enc a.2) && true)) = true
    rw [pl_enc c a.1, pl_enc d a.2] <;> rfl
  | .triple c d e, a => by
    show (plW (c.enc a.1) && (plW (d.enc a.2.1) && (plW (e.enc a.2.2) && true))) = true
    rw [pl_enc c a.1, pl_enc d a.2.1, pl_enc e a.2.2] <;> rfl
  | .option c, none => rfl
  | .option c, some x => pl_enc c x
theorem pl_encAll : ∀ (cs : List Codec) (a : Codec.denoteAll cs), plWs (Codec.encAll cs a) = true
  | [], _ => rfl
  | c :: cs, a => by
    show (plW (c.enc a.1) && plWs (Codec.encAll cs a.2)) = true
    rw [pl_enc c a.1, pl_encAll cs a.2] <;> rfl
theorem weight_mem : ∀ {xs : List WData} {d : WData}, d ∈ xs → d.weight ≤ WData.weightAll xs
  | [], d, h => absurd h (by simp)
  | x :: r, d, h => by
    show d.weight ≤ x.weight + 1 + WData.weightAll r
    rcases List.mem_cons.mp h with e | m
    · rw [e]
      omega
    · have z := weight_mem m
      omega
def toV : Value → V
  | .none => .non
  | .bool b => .bl b
  | .int i _ => .int i
  | .str x _ => .str x
  | .bytes b _ => .byt b
  | .ref a => .ref a
  | _ => .non
/-- a value of the arguments, its objects among A -/
def OkU (A : List Addr) : Value → Prop
  | .none => True
  | .bool _ => True
  | .int _ _ => True
  | .str _ _ => True
  | .bytes _ _ => True
  | .ref a => a ∈ A
  | _ => False
theorem OkU.mono {A B : List Addr} (h : ∀ a ∈ A, a ∈ B) : ∀ {u : Value}, OkU A u → OkU B u := fun {u} x => by
  cases u with
  | ref a => exact h a x
  | none => trivial
  | bool b => trivial
  | int i t => trivial
  | str s t => trivial
  | bytes b t => trivial
  | _ => exact False.elim x
theorem relV_toV {A : List Addr} {u : Value} (x : OkU A u) : RelV (toV u) u := by
  cases u with
  | ref a => rfl
  | none => rfl
  | bool b => rfl
  | int i t => exact ⟨t, rfl⟩
  | str s t => exact ⟨t, rfl⟩
  | bytes b t => exact ⟨t, rfl⟩
  | _ => exact False.elim x
theorem vals_toV {A : List Addr} : ∀ {vs : List Value}, (∀ u ∈ vs, OkU A u) → Vals (vs.map toV) vs
  | [], _ => .nil
  | u :: r, h => .cons (relV_toV (h u (List.mem_cons_self ..))) (vals_toV fun x hx => h x (List.mem_cons_of_mem _ hx))
/-- an object of the arguments -/
def ArgOb (h : Heap) (A : List Addr) (a : Addr) : Prop := ∃ vs : List Value, vs.length ≤ sizeLine ∧ (∀ u ∈ vs, OkU A u) ∧
  (h.get? a = some { cls := .type "list", data := .seq vs.toArray } ∨ h.get? a = some { cls := .type "tuple", data := .seq vs.toArray })
theorem ArgOb.mono {h : Heap} {A B : List Addr} {a : Addr} (k : ∀ a ∈ A, a ∈ B) (x : ArgOb h A a) : ArgOb h B a := by
  obtain ⟨vs, h1, h2, h3⟩ := x
  exact ⟨vs, h1, fun u hu => (h2 u hu).mono k, h3⟩
theorem wellAll_len {P : Params} {h : Heap} : ∀ {vs : List Value} {ds : List WData}, WellAll P h vs ds → vs.length = ds.length
  | _, _, .nil => rfl
  | _, _, .cons _ b => by
    show _ + 1 = _ + 1
    rw [wellAll_len b]
theorem well_list {P : Params} {h : Heap} {v : Value} {ds : List WData} (x : Well P h v (.list ds)) : ∃ (a : Addr) (vs : List Value), v = .ref a ∧ h.get? a = some { cls := .type "list", data := .seq vs.toArray } ∧ WellAll P h vs ds := by
  cases x with
  | list ho hall => exact ⟨_, _, rfl, ho, hall⟩
theorem well_tuple {P : Params} {h : Heap} {v : Value} {ds : List WData} (x : Well P h v (.tuple ds)) : ∃ (a : Addr) (vs : List Value), v = .ref a ∧ h.get? a = some { cls := .type "tuple", data := .seq vs.toArray } ∧ WellAll P h vs ds := by
  cases x with
  | tuple ho hall => exact ⟨_, _, rfl, ho, hall⟩
theorem well_cons {P : Params} {h : Heap} {us : List Value} {d : WData} {ds : List WData} (x : WellAll P h us (d :: ds)) : ∃ (v : Value) (vs : List Value), us = v :: vs ∧ Well P h v d ∧ WellAll P h vs ds := by
  cases x with
  | cons a b => exact ⟨_, _, rfl, a, b⟩
theorem line_of {n : Nat} (h : n ≤ 1048576) : n ≤ sizeLine := Nat.le_trans h (by decide)
section
variable {P : Params} {h : Heap}
mutual
theorem area_one : ∀ (d : WData) (v : Value), Well P h v d → plW d = true → d.weight ≤ 1048576 → ∃ A : List Addr, OkU A v ∧ ∀ a ∈ A, ArgOb h A a
  | .none, _, x, _, _ => by
    cases x
    exact ⟨[], trivial, fun a m => absurd m (by simp)⟩
  | .bool b, _, x, _, _ => by
    cases x
    exact ⟨[], trivial, fun a m => absurd m (by simp)⟩
  | .int i, _, x, _, _ => by
    cases x
    exact ⟨[], trivial, fun a m => absurd m (by simp)⟩
  | .str s, _, x, _, _ => by
    cases x
    exact ⟨[], trivial, fun a m => absurd m (by simp)⟩
  | .bytes b, _, x, _, _ => by
    cases x
    exact ⟨[], trivial, fun a m => absurd m (by simp)⟩
  | .list ds, _, x, p, z => by
    obtain ⟨a, vs, rfl, ho, hall⟩ := well_list x
    have z2 : WData.weightAll ds ≤ 1048576 := z
    obtain ⟨A, h1, h2⟩ := area_all ds _ hall p fun d hd => Nat.le_trans (weight_mem hd) z2
    have k : ∀ b ∈ A, b ∈ a :: A := fun b hb => List.mem_cons_of_mem _ hb
    refine ⟨a :: A, List.mem_cons_self .., fun b hb => ?_⟩
    rcases List.mem_cons.mp hb with e | m
    · rw [e]
      exact ⟨vs, line_of (by rw [wellAll_len hall]; exact Nat.le_trans (PySem.W.length_le_weightAllW ds) z2), fun u hu => (h1 u hu).mono k, .inl ho⟩
    · exact (h2 b m).mono k
  | .tuple ds, _, x, p, z => by
    obtain ⟨a, vs, rfl, ho, hall⟩ := well_tuple x
    have z2 : WData.weightAll ds ≤ 1048576 := z
    obtain ⟨A, h1, h2⟩ := area_all ds _ hall p fun d hd => Nat.le_trans (weight_mem hd) z2
    have k : ∀ b ∈ A, b ∈ a :: A := fun b hb => List.mem_cons_of_mem _ hb
    refine ⟨a :: A, List.mem_cons_self .., fun b hb => ?_⟩
    rcases List.mem_cons.mp hb with e | m
    · rw [e]
      exact ⟨vs, line_of (by rw [wellAll_len hall]; exact Nat.le_trans (PySem.W.length_le_weightAllW ds) z2), fun u hu => (h1 u hu).mono k, .inr ho⟩
    · exact (h2 b m).mono k
  | .float _, _, _, p, _ => Bool.noConfusion (show false = true from p)
  | .dict _, _, _, p, _ => Bool.noConfusion (show false = true from p)
  | .bytearray _, _, _, p, _ => Bool.noConfusion (show false = true from p)
  | .set _, _, _, p, _ => Bool.noConfusion (show false = true from p)
  | .frozenset _, _, _, p, _ => Bool.noConfusion (show false = true from p)
  | .obj _ _, _, _, p, _ => Bool.noConfusion (show false = true from p)
theorem area_all : ∀ (ds : List WData) (vs : List Value), WellAll P h vs ds → plWs ds = true → (∀ d ∈ ds, d.weight ≤ 1048576) → ∃ A : List Addr, (∀ u ∈ vs, OkU A u) ∧ ∀ a ∈ A, ArgOb h A a
  | [], _, x, _, _ => by
    cases x
    exact ⟨[], fun u m => absurd m (by simp), fun a m => absurd m (by simp)⟩
  | d :: ds, _, x, p, z => by
    obtain ⟨v, vs, rfl, x1, x2⟩ := well_cons x
    have q : plW d = true ∧ plWs ds = true := Bool.and_eq_true_iff.mp p
    obtain ⟨A, a1, a2⟩ := area_one d v x1 q.1 (z d (List.mem_cons_self ..))
    obtain ⟨B, b1, b2⟩ := area_all ds vs x2 q.2 fun e he => z e (List.mem_cons_of_mem _ he)
    have kA : ∀ b ∈ A, b ∈ A ++ B := fun b hb => List.mem_append.mpr (.inl hb)
    have kB : ∀ b ∈ B, b ∈ A ++ B := fun b hb => List.mem_append.mpr (.inr hb)
    refine ⟨A ++ B, fun u hu => ?_, fun b hb => ?_⟩
    · rcases List.mem_cons.mp hu with e | m
      · rw [e]
        exact a1.mono kA
      · exact (b1 u m).mono kB
    · rcases List.mem_append.mp hb with m | m
      · exact (a2 b m).mono kA
      · exact (b2 b m).mono kB
end
end
/-- what is tracked of an argument's object -/
def hoOf (o : Obj) : Option HO := match o.data with
  | .seq vs _ => if (o.cls == Value.type "list") = true then some (.frz o (.lst (vs.toList.map toV))) else some (.frz o (.tup (vs.toList.map toV)))
  | _ => none
def argH (K : PySem.W.Frag) (h : Heap) (A : List Addr) : Hp := fun b => if b ∈ A then (if (K.lookup b).isNone = true then (h.get? b).bind hoOf else none) else none
/-- nothing is tracked but what is known to the object -/
def OnlyF (H : Hp) : Prop := ∀ b, H b = none ∨ ∃ o u, H b = some (.frz o u)
theorem hoOf_lst (vs : List Value) : hoOf { cls := .type "list", data := .seq vs.toArray } = some (.frz { cls := .type "list", data := .seq vs.toArray } (.lst (vs.map toV))) := by
  show (if (Value.type "list" == Value.type "list") = true then some (HO.frz { cls := .type "list", data := .seq vs.toArray } (.lst (vs.toArray.toList.map toV))) else some (HO.frz { cls := .type "list", data := .seq vs.toArray } (.tup (vs.toArray.toList.map toV)))) = _
  rw [if_pos (beq_self_eq_true _)]
theorem hoOf_tup (vs : List Value) : hoOf { cls := .type "tuple", data := .seq vs.toArray } = some (.frz { cls := .type "tuple", data := .seq vs.toArray } (.tup (vs.map toV))) := by
  show (if (Value.type "tuple" == Value.type "list") = true then some (HO.frz { cls := .type "tuple", data := .seq vs.toArray } (.lst (vs.toArray.toList.map toV))) else some (HO.frz { cls := .type "tuple", data := .seq vs.toArray } (.tup (vs.toArray.toList.map toV)))) = _
  rw [if_neg (by decide)]
section
variable {P : Program} {w : World} {K : PySem.W.Frag} {h : Heap} {A : List Addr}
theorem argH_at {b : Addr} {o : Obj} (hb : b ∈ A) (hk : K.lookup b = none) (e : h.get? b = some o) : argH K h A b = hoOf o := by
  unfold argH
  rw [if_pos hb, hk, if_pos (show (none : Option Obj).isNone = true from rfl), e] <;> rfl
theorem of_argH {b : Addr} {u : HO} (q : argH K h A b = some u) : b ∈ A ∧ K.lookup b = none := by
  unfold argH at q
  by_cases hb : b ∈ A
  · rw [if_pos hb] at q
    cases hk : K.lookup b with
    | none => exact ⟨hb, rfl⟩
    | some o =>
      rw [hk, if_neg (by simp)] at q
      cases q
  · rw [if_neg hb] at q
    cases q
/-- what stands tracked -/
theorem argH_is (ar : ∀ a ∈ A, ArgOb h A a) {b : Addr} {u : HO} (q : argH K h A b = some u) : K.lookup b = none ∧ ∃ vs : List Value, vs.length ≤ sizeLine ∧ (∀ u ∈ vs, OkU A u) ∧
    ((h.get? b = some { cls := .type "list", data := .seq vs.toArray } ∧ u = .frz { cls := .type "list", data := .seq vs.toArray } (.lst (vs.map toV))) ∨
     (h.get? b = some { cls := .type "tuple", data := .seq vs.toArray } ∧ u = .frz { cls := .type "tuple", data := .seq vs.toArray } (.tup (vs.map toV)))) := by
  obtain ⟨hb, hk⟩ := of_argH q
  obtain ⟨vs, h1, h2, h3⟩ := ar b hb
  refine ⟨hk, vs, h1, h2, ?_⟩
  rcases h3 with e | e
  · rw [argH_at hb hk e, hoOf_lst] at q
    exact .inl ⟨e, (Option.some.inj q).symm⟩
  · rw [argH_at hb hk e, hoOf_tup] at q
    exact .inr ⟨e, (Option.some.inj q).symm⟩
theorem argH_only (ar : ∀ a ∈ A, ArgOb h A a) : OnlyF (argH K h A) := fun b => by
  cases q : argH K h A b with
  | none => exact .inl rfl
  | some u =>
    obtain ⟨_, vs, _, _, ⟨_, e⟩ | ⟨_, e⟩⟩ := argH_is ar q
    · exact .inr ⟨_, _, by rw [e]⟩
    · exact .inr ⟨_, _, by rw [e]⟩
theorem argH_ok (ar : ∀ a ∈ A, ArgOb h A a) : HOk P w (argH K h A) h := fun b u q => by
  obtain ⟨_, vs, h1, h2, ⟨e, rfl⟩ | ⟨e, rfl⟩⟩ := argH_is ar q
  · exact ⟨e, by rw [List.length_map]; exact h1, vs, _, vals_toV h2, e⟩
  · exact ⟨e, by rw [List.length_map]; exact h1, vs, vals_toV h2, _, e, rfl, _, rfl⟩
theorem seq_inj {c c' : Value} {vs us : List Value} (e : (some { cls := c, data := .seq vs.toArray } : Option Obj) = some { cls := c', data := .seq us.toArray }) : c = c' ∧ vs = us := by
  have e1 := Option.some.inj e
  have e2 : c = c' := congrArg Obj.cls e1
  have e3 : Data.seq vs.toArray = Data.seq us.toArray := congrArg Obj.data e1
  injection e3 with e4
  refine ⟨e2, ?_⟩
  have e5 := congrArg Array.toList e4
  simpa using e5
/-- a list argument -/
theorem argL (KX : K.In h) (ar : ∀ a ∈ A, ArgOb h A a) {a : Addr} {vs : List Value} (ha : a ∈ A) (e : h.get? a = some { cls := .type "list", data := .seq vs.toArray }) : (∀ u ∈ vs, OkU A u) ∧ SqL K (argH K h A) a (vs.map toV) := by
  obtain ⟨us, h1, h2, h3⟩ := ar a ha
  have hu : us = vs := by
    rcases h3 with q | q
    · rw [e] at q
      exact (seq_inj q).2.symm
    · rw [e] at q
      exact absurd (Value.type.inj (seq_inj q).1) (by decide)
  subst hu
  refine ⟨h2, ?_⟩
  cases hk : K.lookup a with
  | none => exact .inl (.inr ⟨_, by rw [argH_at ha hk e, hoOf_lst]⟩)
  | some o =>
    have e2 := KX a o hk
    rw [e] at e2
    obtain rfl := Option.some.inj e2
    exact .inr ⟨_, us.toArray, _, hk, rfl, rfl, rfl, by rw [List.size_toArray]; exact h1, by simpa using vals_toV h2⟩
theorem argT (KX : K.In h) (ar : ∀ a ∈ A, ArgOb h A a) {a : Addr} {vs : List Value} (ha : a ∈ A) (e : h.get? a = some { cls := .type "tuple", data := .seq vs.toArray }) : (∀ u ∈ vs, OkU A u) ∧ SqT K (argH K h A) a (vs.map toV) := by
  obtain ⟨us, h1, h2, h3⟩ := ar a ha
  have hu : us = vs := by
    rcases h3 with q | q
    · rw [e] at q
      exact absurd (Value.type.inj (seq_inj q).1) (by decide)
    · rw [e] at q
      exact (seq_inj q).2.symm
  subst hu
  refine ⟨h2, ?_⟩
  cases hk : K.lookup a with
  | none => exact .inl (.inr ⟨_, by rw [argH_at ha hk e, hoOf_tup]⟩)
  | some o =>
    have e2 := KX a o hk
    rw [e] at e2
    obtain rfl := Option.some.inj e2
    exact .inr ⟨_, us.toArray, _, hk, rfl, rfl, by rw [List.size_toArray]; exact h1, by simpa using vals_toV h2⟩
mutual
theorem dw_one {Pm : Params} (KX : K.In h) (ar : ∀ a ∈ A, ArgOb h A a) : ∀ (d : WData) (v : Value), Well Pm h v d → plW d = true → OkU A v → Dw K (argH K h A) (toV v) d
  | .none, _, x, _, _ => by
    cases x
    exact .non
  | .bool b, _, x, _, _ => by
    cases x
    exact .bl b
  | .int i, _, x, _, _ => by
    cases x
    exact .int i
  | .str s, _, x, _, _ => by
    cases x
    exact .str s
  | .bytes b, _, x, _, _ => by
    cases x
    have z := Dw.byt (K := K) (H := argH K h A) b.toArray
    exact z
  | .list ds, _, x, p, hu => by
    obtain ⟨a, vs, rfl, ho, hall⟩ := well_list x
    obtain ⟨h2, hs⟩ := argL KX ar hu ho
    exact .lst hs (dw_all KX ar ds _ hall p h2)
  | .tuple ds, _, x, p, hu => by
    obtain ⟨a, vs, rfl, ho, hall⟩ := well_tuple x
    obtain ⟨h2, hs⟩ := argT KX ar hu ho
    exact .tup hs (dw_all KX ar ds _ hall p h2)
  | .float _, _, _, p, _ => Bool.noConfusion (show false = true from p)
  | .dict _, _, _, p, _ => Bool.noConfusion (show false = true from p)
  | .bytearray _, _, _, p, _ => Bool.noConfusion (show false = true from p)
  | .set _, _, _, p, _ => Bool.noConfusion (show false = true from p)
  | .frozenset _, _, _, p, _ => Bool.noConfusion (show false = true from p)
  | .obj _ _, _, _, p, _ => Bool.noConfusion (show false = true from p)
theorem dw_all {Pm : Params} (KX : K.In h) (ar : ∀ a ∈ A, ArgOb h A a) : ∀ (ds : List WData) (vs : List Value), WellAll Pm h vs ds → plWs ds = true → (∀ u ∈ vs, OkU A u) → DwAll K (argH K h A) (vs.map toV) ds
  | [], _, x, _, _ => by
    cases x
    exact .nil
  | d :: ds, _, x, p, hu => by
    obtain ⟨v, vs, rfl, x1, x2⟩ := well_cons x
    have q : plW d = true ∧ plWs ds = true := Bool.and_eq_true_iff.mp p
    exact .cons (dw_one KX ar d v x1 q.1 (hu _ (List.mem_cons_self ..))) (dw_all KX ar ds vs x2 q.2 fun u m => hu u (List.mem_cons_of_mem _ m))
end
end
theorem spec_call {P : Program} {w : World} {K : PySem.W.Frag} {mg mb : Str → Option Value} {CX : CXT} {k : Nat} {fa : Addr} {fd : FuncData} {ps : List Str} {sp : Sp} {s₁ : Shared} {vals : List Value} {ds : List WData} {R : PySem.W.WRecords} {cl : Str → Option Addr} {d0 : WData}
    (KX : K.In s₁.heap) (hns : s₁.heap.Ns mainGlobals mg) (hb : s₁.heap.Ns builtinsNs mb) (hbb : ∀ x : Str, x ≠ "__name__" → mb x = bootBuiltins x) (hlim : s₁.heap.NoLimit) (hg : s₁.gens = #[])
    (hwl : WellAll w.params s₁.heap vals ds) (hpl : plWs ds = true) (hwt : ∀ d ∈ ds, d.weight ≤ 1048576) (hr : Room k callerA)
    (F : ∀ base : Heap, K.In base → base.Ns mainGlobals mg → FnOk P w K mg base CX k fa fd ps sp) (hbind : ∀ (s : Shared) (us : List Value), us.length = ps.length → BindsTo s fd ⟨us, []⟩ (ps.zip us)) (hlen : ds.length = ps.length)
    (hsp : ∀ (H : Hp) (xs : List V), OnlyF H → DwAll K H xs ds → sp xs H (fun v H' => Dw K H' v d0) fun _ _ _ => False)
    (hCX : ∀ H e s', CX [] H s₁ (fun _ _ _ => False) e s' → False) :
    codeAny (model P w) callerA (.call (.ref fa) ⟨vals, []⟩) (fun r s' => ∃ u as, r = .ok (.ret u) ∧ ReadsW R cl s'.heap u d0 as ∧ OldK s₁.heap s'.heap ∧ s'.os = s₁.os ∧ AllBare s'.gens) s₁ := by
  obtain ⟨A, ho, ar⟩ := area_all ds vals hwl hpl hwt
  have hO : OnlyF (argH K s₁.heap A) := argH_only ar
  have hok : HOk P w (argH K s₁.heap A) s₁.heap := argH_ok ar
  have hS := dw_all KX ar ds vals hwl hpl ho
  have hV := vals_toV ho
  have hK : ∀ b u, argH K s₁.heap A b = some u → K.lookup b = none := fun b u q => (argH_is ar q).1
  have noA : ∀ {b : Addr} {o : Obj} {es : Array DictEntry} {ep : Nat}, s₁.heap.get? b = some o → o.data = .dict es ep → argH K s₁.heap A b = none := fun {b o es ep} e d => by
    cases q : argH K s₁.heap A b with
    | none => rfl
    | some u =>
      obtain ⟨_, vs, _, _, ⟨e2, _⟩ | ⟨e2, _⟩⟩ := argH_is ar q
      · rw [e2] at e
        cases e
        have d' : Data.seq vs.toArray _ = Data.dict es ep := d
        cases d'
      · rw [e2] at e
        cases e
        have d' : Data.seq vs.toArray _ = Data.dict es ep := d
        cases d'
  generalize argH K s₁.heap A = H at hO hok hS hK noA
  have base_of : ∀ {b : Addr} {o : Obj}, s₁.heap.get? b = some o → H b = none → (hidT s₁.heap H).get? b = some o := fun e n => hidT_get e n
  have nsK : ∀ {b : Addr} {m : Str → Option Value}, s₁.heap.Ns b m → (hidT s₁.heap H).Ns b m := fun {b m} ⟨o, es, ep, e, d, r⟩ => ⟨o, es, ep, base_of e (noA e d), d, r⟩
  have nK : ∀ b o, K.lookup b = some o → H b = none := fun b o e => by
    cases q : H b with
    | none => rfl
    | some u =>
      rw [hK b u q] at e
      cases e
  have hKb : K.In (hidT s₁.heap H) := fun b o e => base_of (KX b o e) (nK b o e)
  have hM : Mod K mg (hidT s₁.heap H) := ⟨hKb, nsK hns, ⟨mb, nsK hb, hbb⟩, let ⟨mc, h1, h2⟩ := hlim; ⟨mc, nsK h1, h2⟩⟩
  have e0 : Env0 P w K mg (hidT s₁.heap H) callerA [] s₁ H := ⟨rfl, hM, fun b o e => of_hidT e, Nat.le_of_eq (hidT_size _ _), trivial, fun b hb => absurd (show b ∈ ([] : List Addr) from hb) (by simp), hok, .of_eq hg⟩
  have hl : vals.length = ps.length := by rw [wellAll_len hwl]; exact hlen
  refine codeAny_mono ((F _ hKb (nsK hns)).run callerA [] s₁ H ⟨vals, []⟩ vals (vals.map toV) _ _ hr e0 (hbind s₁ vals hl) hV (hsp H _ hO hS)) fun r s' x => ?_
  cases r with
  | error e => exact (hCX H e s' x).elim
  | ok fl =>
    cases fl with
    | next => exact False.elim x
    | brk => exact False.elim x
    | cont => exact False.elim x
    | ret u =>
      obtain ⟨v, H', os, bare, un, hok', r', q⟩ := x
      have kept : ∀ b o, s₁.heap.get? b = some o → s'.heap.get? b = some o := fun b o e => by
        cases q2 : H b with
        | none => exact un.keep b o e q2 (by intro z; exact absurd (show b ∈ ([] : List Addr) from z) (by simp)) (by simp)
        | some u2 =>
          rcases hO b with z | ⟨ob, u3, z⟩
          · rw [q2] at z
            cases z
          · have z2 := un.frzs b ob _ z
            obtain ⟨e1, _⟩ := hok b _ z
            obtain ⟨e2, _⟩ := hok' b _ z2
            rw [e] at e1
            cases e1
            exact e2
      have KX' : K.In s'.heap := fun b o e => kept b o (KX b o e)
      obtain ⟨as, hrd⟩ := Dw.reads (R := R) (cl := cl) hok' KX' d0 v u q r'
      exact ⟨u, as, rfl, hrd, OldK.of_keep kept, os, bare⟩
theorem layable_weight {ds : List WData} (h : WData.layableAll ds = true) : ∀ d ∈ ds, d.weight ≤ 1048576 := fun d hd =>
  (PySem.W.layableW_iff.mp (List.all_eq_true.mp h d hd)).2.2
theorem encAll_len : ∀ (cs : List Codec) (a : Codec.denoteAll cs), (Codec.encAll cs a).length = cs.length
  | [], _ => rfl
  | c :: cs, a => by
    show (Codec.encAll cs a.2).length + 1 = cs.length + 1
    rw [encAll_len cs a.2]
/-- the goal that k_headS leaves (case hc), from the promise of the row's def: whatever the arguments that the codecs let and the row asks for, the def gives what stands for enc (f ..) -/
theorem walk_spec {r : OpenSpec} {k : Nat} {q : Program} {loose : List Str} {XP : (Str → Option Value) → Heap → Prop} {YP : World → Heap → Prop} {d : DefRec} {K : Params → PySem.W.Frag} {CX : World → CXT} {ps : List Str} {sp : World → Sp}
    (hwell : r.wellSaid = true) (hdf : d.params.defaults = []) (hlen : r.args.length = ps.length) (hr : Room k callerA)
    (hY : ∀ (w : World) (h : Heap), YP w h → (K w.params).In h)
    (F : ∀ (w : World) (mg : Str → Option Value) (fa : Addr) (h : Heap), YP w h → (K w.params).In h → h.Ns mainGlobals mg → mg d.name = some (.ref fa) →
      ∃ fd : FuncData, (∀ (s : Shared) (us : List Value), us.length = ps.length → BindsTo s fd ⟨us, []⟩ (ps.zip us)) ∧
        ∀ base : Heap, (K w.params).In base → base.Ns mainGlobals mg → FnOk r.prog w (K w.params) mg base (CX w) k fa fd ps (sp w))
    (hsp : ∀ (w : World) (H : Hp) (xs : List V) (a : Codec.denoteAll r.args), OnlyF H → Codec.withinAll r.args a = true → Codec.app r.args r.asked a = true → DwAll (K w.params) H xs (Codec.encAll r.args a) →
      sp w xs H (fun v H' => Dw (K w.params) H' v (r.ret.enc (Codec.app r.args r.f a))) fun _ _ _ => False)
    (hCX : ∀ (w : World) (H : Hp) (s : Shared) (e : Value) (s' : Shared), CX w [] H s (fun _ _ _ => False) e s' → False) :
    PySem.W.WalkOS q loose XP YP r d [] (fun f vs => PySem.call f vs) := by
  intro w s_0 s₁ mg mb G Y fa o pm cd doc dV kV ho hd hcd hD hmg hg args vals as hpre hlay hrd hwl hlo
  obtain ⟨a, e1, e2⟩ := PySem.W.os_pre_some hpre
  obtain ⟨e3, hwi⟩ := Codec.encAll_of_decAll r.args args a e1
  subst e3
  have KX := hY w _ Y
  obtain ⟨fd, hb, hF⟩ := F w mg fa _ Y KX G.T.g hmg
  refine PySem.W.enter_call (codeAny_mono (spec_call (R := []) (cl := classAt s_0.heap) (d0 := r.ret.enc (Codec.app r.args r.f a)) KX G.T.g G.T.b G.T.builtins G.T.nolimit hg hwl (pl_encAll _ _) (layable_weight hlay) hr hF hb (by rw [encAll_len]; exact hlen)
    (fun H xs hO hS => hsp w H xs a hO hwi e2 hS) fun H e s' => hCX w H s₁ e s') fun r' s' hq => ?_)
  obtain ⟨u, as', rfl, h1, h2, h3, h4⟩ := hq
  exact ⟨.inl ⟨u, _, as', rfl, fun _ => rfl, h1, (OpenSpec.post_iff hwell hwi _ _).mpr rfl, fun z => Bool.noConfusion (show false = true from z)⟩, h2, h3, h4⟩
/-- the same where the promise hangs on the written part alone -/
theorem walk_specK {r : OpenSpec} {k : Nat} {q : Program} {loose : List Str} {XP : (Str → Option Value) → Heap → Prop} {YP : World → Heap → Prop} {d : DefRec} {K : Params → PySem.W.Frag} {CX : CXT} {ps : List Str} {sp : PySem.W.Frag → Sp}
    (hwell : r.wellSaid = true) (hdf : d.params.defaults = []) (hlen : r.args.length = ps.length) (hr : Room k callerA)
    (hY : ∀ (w : World) (h : Heap), YP w h → (K w.params).In h)
    (F : ∀ (w : World) (mg : Str → Option Value) (fa : Addr) (h : Heap), YP w h → (K w.params).In h → h.Ns mainGlobals mg → mg d.name = some (.ref fa) →
      ∃ fd : FuncData, (∀ (s : Shared) (us : List Value), us.length = ps.length → BindsTo s fd ⟨us, []⟩ (ps.zip us)) ∧
        ∀ base : Heap, (K w.params).In base → base.Ns mainGlobals mg → FnOk r.prog w (K w.params) mg base CX k fa fd ps (sp (K w.params)))
    (hsp : ∀ (K : PySem.W.Frag) (H : Hp) (xs : List V) (a : Codec.denoteAll r.args), OnlyF H → Codec.withinAll r.args a = true → Codec.app r.args r.asked a = true → DwAll K H xs (Codec.encAll r.args a) →
      sp K xs H (fun v H' => Dw K H' v (r.ret.enc (Codec.app r.args r.f a))) fun _ _ _ => False)
    (hCX : ∀ (H : Hp) (s : Shared) (e : Value) (s' : Shared), CX [] H s (fun _ _ _ => False) e s' → False) :
    PySem.W.WalkOS q loose XP YP r d [] (fun f vs => PySem.call f vs) :=
  walk_spec (K := K) (CX := fun _ => CX) (sp := fun w => sp (K w.params)) hwell hdf hlen hr hY F (fun w H xs a h1 h2 h3 h4 => hsp (K w.params) H xs a h1 h2 h3 h4) fun _ H s e s' => hCX H s e s'
end L2
-- rests on (row put in by the clerk, for the bench that shows a file only what it spells): KE.SpHead KE.OsShapes
end
namespace L2
open PySem PySem.Spec PyProof.Rows
/-- the j-th statement of a class's body -/
def inClass (s : Stmt) (j : Nat) : Stmt := match s with
  | .ClassDef _ _ _ body _ _ _ _ _ _ _ => body.getD j (.Pass ⟨0, 0, 0, 0⟩)
  | _ => .Pass ⟨0, 0, 0, 0⟩
def defArgs (s : Stmt) : Arguments := match s with
  | .FunctionDef _ a _ _ _ _ _ _ _ _ => a
  | _ => { posonlyargs := [], args := [], vararg := none, kwonlyargs := [], kw_defaults := [], kwarg := none, defaults := [] }
def defBody (s : Stmt) : List Stmt := match s with
  | .FunctionDef _ _ b _ _ _ _ _ _ _ => b
  | _ => []
def defScope (s : Stmt) : Scope := match s with
  | .FunctionDef _ _ _ _ _ _ sc _ _ _ => sc
  | _ => { kind := .function, names := [], isGenerator := false, isCoroutine := false }
abbrev CX0 : CXT := fun _ _ _ _ _ _ => False
abbrev E0 : XK := fun _ _ _ => False
theorem pass0 {X : Cx} : Passes CX0 X E0 := fun _ _ _ _ _ _ _ h => h.elim
structure Fun (K : PySem.W.Frag) (x qual : Str) (st : Stmt) (f : Addr) (fd : FuncData) : Prop where
  ex : ∃ (oc : Value) (od : Option Addr) (kV doc pm : Value) (an : Option Addr) (cdv ct : Value) (osl : Array (Option Value)),
    fd = PySem.W.fnOf x qual (defArgs st) (defBody st) (defScope st) .none kV doc pm an cdv ct ∧ K.lookup f = some ⟨oc, od, .func fd, osl⟩ ∧ PySem.W.codeIn K cdv qual = true
  kp : PySem.W.keepIn K (.ref f) = true
section
variable {P : Program} {w : World} {K : PySem.W.Frag} {mg : Str → Option Value} {base : Heap}
/-- THE RULE for a def: its body as a term of rules, and the reading of that term -/
theorem Fun.ok {x qual : Str} {st : Stmt} {f : Addr} {fd : FuncData} {N ps : List Str} {k : Nat} {sp : Sp} (F : Fun K x qual st f fd) (S : FnScope N ps (defScope st)) (len : ∀ vs H Q E, sp vs H Q E → vs.length = ps.length)
    (hbody : ∀ (cdv : Value) (A : Around) (outer : List Env) (s : Shared) (H : Hp) (vs : List V) (Q : VK) (E : XK), Room k (A.deeper (envOfC qual (defScope st) s.heap.objs.size f cdv)) → sp vs H Q E →
      ∃ t, PSs (cxOf CX0 P w K mg base N qual (defScope st) f cdv A outer s H E).nox (defBody st) t ∧ t { nx := fun _ H' => Q .non H', rt := Q } (start N vs) H) : FnOk P w K mg base CX0 (k + 1) f fd ps sp := by
  obtain ⟨oc, od, kV, doc, pm, an, cdv, ct, osl, rfl, lk, hcd⟩ := F.ex
  refine fn_of lk hcd S len fun A outer s H vs Q E hr hsp => ?_
  obtain ⟨t, h, q⟩ := hbody cdv A outer s H vs Q E hr hsp
  exact ⟨t, h.nox, q⟩
/-- how its arguments bind (no defaults): h is «fun _ _ _ _ _ _ us hl => match us, hl with | [_, _], _ => rfl», one _ a parameter -/
theorem Fun.binds {x qual : Str} {st : Stmt} {f : Addr} {fd : FuncData} {ps : List Str} (F : Fun K x qual st f fd)
    (h : ∀ (kV doc pm : Value) (an : Option Addr) (cdv ct : Value) (us : List Value), us.length = ps.length → bindArgs (PySem.W.fnOf x qual (defArgs st) (defBody st) (defScope st) .none kV doc pm an cdv ct) ⟨us, []⟩ = pure (ps.zip us)) : Binds K fd ps [] := by
  obtain ⟨oc, od, kV, doc, pm, an, cdv, ct, osl, rfl, lk, hcd⟩ := F.ex
  exact .all (h kV doc pm an cdv ct)
end
section
variable {X : Cx}
theorem pv (i : Nat) {x : Str} {pos : Pos} (hN : X.N[i]? = some x := by rfl) (hv : Vis X.env.scope x := by first | exact Or.inl rfl | exact Or.inr (Or.inl rfl) | exact Or.inr (Or.inr rfl)) (hd : (x == ("__debug__" : Str)) = false := by decide)
    (hcd : (x == ("__classdict__" : Str)) = false := by decide) : PE X (.Name x pos) (tVar i) := pe_var hN hv hd hcd
end
theorem ite2 {c A B : Prop} [Decidable c] (h1 : c → A) (h2 : ¬ c → B) : if c then A else B := by
  by_cases h : c
  · rw [if_pos h]
    exact h1 h
  · rw [if_neg h]
    exact h2 h
/-- all that was tracked is as it was -/
def Same (H H' : Hp) : Prop := ∀ b o, H b = some o → H' b = some o
theorem Same.refl (H : Hp) : Same H H := fun _ _ h => h
theorem Same.trans {H H1 H2 : Hp} (a : Same H H1) (b : Same H1 H2) : Same H H2 := fun c o h => b c o (a c o h)
theorem Same.free {H H' : Hp} (e : Same H H') {l : Addr} (h : H' l = Option.none) : H l = Option.none := by
  cases q : H l with
  | none => rfl
  | some o =>
    rw [e l o q] at h
    cases h
theorem Same.seq {K : PySem.W.Frag} {H H' : Hp} {a : Addr} {xs : List V} (e : Same H H') (h : SqL K H a xs) : SqL K H' a xs := by
  rcases h with (h | ⟨o, h⟩) | h
  · exact .inl (.inl (e _ _ h))
  · exact .inl (.inr ⟨o, e _ _ h⟩)
  · exact .inr h
section
variable {κ : Type} [DecidableEq κ]
theorem nd_snoc : ∀ {l : List κ} {k : κ}, l.Nodup → ¬ k ∈ l → (l ++ [k]).Nodup
  | [], k, _, _ => by simp
  | a :: r, k, h, hk => by
    obtain ⟨h1, h2⟩ := List.nodup_cons.mp h
    show (a :: (r ++ [k])).Nodup
    refine List.nodup_cons.mpr ⟨fun m => ?_, nd_snoc h2 fun m => hk (List.mem_cons.mpr (Or.inr m))⟩
    rcases List.mem_append.mp m with q | q
    · exact h1 q
    · exact hk (List.mem_cons.mpr (Or.inl (List.mem_singleton.mp q).symm))
end
theorem at_of {xs : List V} {z : Int} {j : Nat} {v : V} (e : z = (j : Int)) (h : xs[j]? = some v) : atI xs z = some v := by
  rw [e]
  exact atI_nat h
theorem nd_ix {α : Type} {l : List α} (hN : l.Nodup) {i j : Nat} {x : α} (a : l[i]? = some x) (b : l[j]? = some x) : i = j := by
  obtain ⟨h1, e1⟩ := List.getElem?_eq_some_iff.mp a
  obtain ⟨h2, e2⟩ := List.getElem?_eq_some_iff.mp b
  exact (List.getElem_inj hN).mp (e1.trans e2.symm)
/-- a new instance and its __init__ leave all that was tracked as it was -/
theorem Same.made {H H1 : Hp} {x dx C : Addr} (nx : H x = Option.none) (nd : H dx = Option.none) (k : ∀ b o, (upd (upd H dx (.own x)) x (.ins C dx [])) b = some o → b ≠ x → H1 b = some o) : Same H H1 := fun b o e =>
  k b o (by rw [upd_ne (ne_of_none e nx), upd_ne (ne_of_none e nd)]; exact e) (ne_of_none e nx)
end L2
set_option Elab.async false
set_option linter.all false
set_option maxRecDepth 100000
set_option maxHeartbeats 0
namespace Ty
section
open PySem PySem.Spec PyProof.Rows L2
def top (i : Nat) : Stmt := PySem.Challenge.pw_tyrepresses_s01_answers.main.body.getD i (.Pass ⟨0, 0, 0, 0⟩)
abbrev s_Kind_init : Stmt := inClass (top 16) 0
abbrev s_Mould_init : Stmt := inClass (top 17) 0
abbrev s_Press_init : Stmt := inClass (top 18) 0
abbrev s_Tyre_init : Stmt := inClass (top 19) 0
abbrev s_Plant_init : Stmt := inClass (top 20) 0
abbrev s_Plant_start_anew : Stmt := inClass (top 20) 1
abbrev s_begin : Stmt := top 30
abbrev s_add_kind : Stmt := top 31
abbrev s_add_mould : Stmt := top 32
abbrev s_add_press : Stmt := top 33
abbrev s_add_green : Stmt := top 34
abbrev s_answer_adding : Stmt := top 35
abbrev s_too_old : Stmt := top 38
abbrev s_ready_tyres : Stmt := top 39
abbrev s_old_tyres : Stmt := top 40
abbrev s_count_at : Stmt := top 41
abbrev s_why_not : Stmt := top 42
abbrev s_put_in : Stmt := top 43
abbrev s_load_presses : Stmt := top 44
abbrev s_finish_cure : Stmt := top 45
abbrev s_work_on : Stmt := top 46
abbrev s_pass_minutes : Stmt := top 47
abbrev s_fit : Stmt := top 49
abbrev s_renew_bladder : Stmt := top 50
abbrev s_clean : Stmt := top 51
abbrev s_load : Stmt := top 52
abbrev s_set_auto : Stmt := top 53
abbrev s_minutes : Stmt := top 54
abbrev s_scrap : Stmt := top 55
abbrev s_answer_handling : Stmt := top 56
abbrev s_same_mould : Stmt := top 58
abbrev s_same_press : Stmt := top 59
abbrev s_same_tyre : Stmt := top 60
abbrev s_same_plant : Stmt := top 61
abbrev s_later : Stmt := top 62
abbrev s_can : Stmt := top 65
abbrev s_waits : Stmt := top 66
abbrev s_old : Stmt := top 67
abbrev s_cured_in : Stmt := top 68
abbrev s_ahead : Stmt := top 69
abbrev s_answer_asking : Stmt := top 70
abbrev s_begun_in_time : Stmt := top 72
abbrev s_needs : Stmt := top 73
abbrev s_time_by : Stmt := top 74
abbrev s_span : Stmt := top 75
abbrev s_count_moulds : Stmt := top 76
abbrev s_ways_to_share : Stmt := top 77
abbrev s_time_of_way : Stmt := top 78
abbrev s_share : Stmt := top 79
abbrev s_answer_sharing : Stmt := top 80
abbrev s_number_and_one : Stmt := top 85
abbrev s_cured_tyres : Stmt := top 86
abbrev s_cured_by : Stmt := top 87
abbrev s_cured_within : Stmt := top 88
abbrev s_doing : Stmt := top 89
abbrev s_look : Stmt := top 90
abbrev s_look_at_mould : Stmt := top 91
abbrev s_look_at_tyre : Stmt := top 92
abbrev s_sums : Stmt := top 93
abbrev s_state : Stmt := top 94
abbrev s_answer_telling : Stmt := top 95
abbrev s_answer_call : Stmt := top 98
abbrev s_answers : Stmt := top 99
theorem sc_Kind_init : FnScope ["self", "cure", "wait"] ["self", "cure", "wait"] (defScope s_Kind_init) := ⟨rfl, rfl, rfl, by decide +kernel, rfl, by decide +kernel, by decide +kernel⟩
theorem sc_Mould_init : FnScope ["self", "kind"] ["self", "kind"] (defScope s_Mould_init) := ⟨rfl, rfl, rfl, by decide +kernel, rfl, by decide +kernel, by decide +kernel⟩
theorem sc_Press_init : FnScope ["self"] ["self"] (defScope s_Press_init) := ⟨rfl, rfl, rfl, by decide +kernel, rfl, by decide +kernel, by decide +kernel⟩
theorem sc_Tyre_init : FnScope ["self", "kind", "came"] ["self", "kind", "came"] (defScope s_Tyre_init) := ⟨rfl, rfl, rfl, by decide +kernel, rfl, by decide +kernel, by decide +kernel⟩
theorem sc_Plant_init : FnScope ["self"] ["self"] (defScope s_Plant_init) := ⟨rfl, rfl, rfl, by decide +kernel, rfl, by decide +kernel, by decide +kernel⟩
theorem sc_Plant_start_anew : FnScope ["self", "change", "bladder_cures", "mould_cures"] ["self", "change", "bladder_cures", "mould_cures"] (defScope s_Plant_start_anew) := ⟨rfl, rfl, rfl, by decide +kernel, rfl, by decide +kernel, by decide +kernel⟩
theorem sc_begin : FnScope ["plant", "change", "bladder_cures", "mould_cures"] ["plant", "change", "bladder_cures", "mould_cures"] (defScope s_begin) := ⟨rfl, rfl, rfl, by decide +kernel, rfl, by decide +kernel, by decide +kernel⟩
theorem sc_add_kind : FnScope ["plant", "cure", "wait"] ["plant", "cure", "wait"] (defScope s_add_kind) := ⟨rfl, rfl, rfl, by decide +kernel, rfl, by decide +kernel, by decide +kernel⟩
theorem sc_add_mould : FnScope ["plant", "t"] ["plant", "t"] (defScope s_add_mould) := ⟨rfl, rfl, rfl, by decide +kernel, rfl, by decide +kernel, by decide +kernel⟩
theorem sc_add_press : FnScope ["plant"] ["plant"] (defScope s_add_press) := ⟨rfl, rfl, rfl, by decide +kernel, rfl, by decide +kernel, by decide +kernel⟩
theorem sc_add_green : FnScope ["plant", "t"] ["plant", "t"] (defScope s_add_green) := ⟨rfl, rfl, rfl, by decide +kernel, rfl, by decide +kernel, by decide +kernel⟩
theorem sc_answer_adding : FnScope ["plant", "number", "given"] ["plant", "number", "given"] (defScope s_answer_adding) := ⟨rfl, rfl, rfl, by decide +kernel, rfl, by decide +kernel, by decide +kernel⟩
theorem sc_too_old : FnScope ["plant", "tyre"] ["plant", "tyre"] (defScope s_too_old) := ⟨rfl, rfl, rfl, by decide +kernel, rfl, by decide +kernel, by decide +kernel⟩
theorem sc_ready_tyres : FnScope ["plant", "kind", "waiting", "g", "tyre"] ["plant", "kind"] (defScope s_ready_tyres) := ⟨rfl, rfl, rfl, by decide +kernel, rfl, by decide +kernel, by decide +kernel⟩
theorem sc_old_tyres : FnScope ["plant", "g", "tyre"] ["plant"] (defScope s_old_tyres) := ⟨rfl, rfl, rfl, by decide +kernel, rfl, by decide +kernel, by decide +kernel⟩
theorem sc_count_at : FnScope ["plant", "stage", "tyre"] ["plant", "stage"] (defScope s_count_at) := ⟨rfl, rfl, rfl, by decide +kernel, rfl, by decide +kernel, by decide +kernel⟩
theorem sc_why_not : FnScope ["plant", "press"] ["plant", "press"] (defScope s_why_not) := ⟨rfl, rfl, rfl, by decide +kernel, rfl, by decide +kernel, by decide +kernel⟩
theorem sc_put_in : FnScope ["plant", "p", "g", "press", "tyre"] ["plant", "p", "g"] (defScope s_put_in) := ⟨rfl, rfl, rfl, by decide +kernel, rfl, by decide +kernel, by decide +kernel⟩
theorem sc_load_presses : FnScope ["plant", "p", "press", "ready"] ["plant"] (defScope s_load_presses) := ⟨rfl, rfl, rfl, by decide +kernel, rfl, by decide +kernel, by decide +kernel⟩
theorem sc_finish_cure : FnScope ["plant", "press", "tyre"] ["plant", "press"] (defScope s_finish_cure) := ⟨rfl, rfl, rfl, by decide +kernel, rfl, by decide +kernel, by decide +kernel⟩
theorem sc_work_on : FnScope ["plant", "step", "press"] ["plant", "step"] (defScope s_work_on) := ⟨rfl, rfl, rfl, by decide +kernel, rfl, by decide +kernel, by decide +kernel⟩
theorem sc_pass_minutes : FnScope ["plant", "n", "left", "step", "press"] ["plant", "n"] (defScope s_pass_minutes) := ⟨rfl, rfl, rfl, by decide +kernel, rfl, by decide +kernel, by decide +kernel⟩
theorem sc_fit : FnScope ["plant", "p", "m", "press", "before"] ["plant", "p", "m"] (defScope s_fit) := ⟨rfl, rfl, rfl, by decide +kernel, rfl, by decide +kernel, by decide +kernel⟩
theorem sc_renew_bladder : FnScope ["plant", "p", "press", "made"] ["plant", "p"] (defScope s_renew_bladder) := ⟨rfl, rfl, rfl, by decide +kernel, rfl, by decide +kernel, by decide +kernel⟩
theorem sc_clean : FnScope ["plant", "m", "mould", "made"] ["plant", "m"] (defScope s_clean) := ⟨rfl, rfl, rfl, by decide +kernel, rfl, by decide +kernel, by decide +kernel⟩
theorem sc_load : FnScope ["plant", "p", "g", "press", "tyre", "why"] ["plant", "p", "g"] (defScope s_load) := ⟨rfl, rfl, rfl, by decide +kernel, rfl, by decide +kernel, by decide +kernel⟩
theorem sc_set_auto : FnScope ["plant", "b", "before"] ["plant", "b"] (defScope s_set_auto) := ⟨rfl, rfl, rfl, by decide +kernel, rfl, by decide +kernel, by decide +kernel⟩
theorem sc_minutes : FnScope ["plant", "n", "before"] ["plant", "n"] (defScope s_minutes) := ⟨rfl, rfl, rfl, by decide +kernel, rfl, by decide +kernel, by decide +kernel⟩
theorem sc_scrap : FnScope ["plant", "g", "tyre", "before"] ["plant", "g"] (defScope s_scrap) := ⟨rfl, rfl, rfl, by decide +kernel, rfl, by decide +kernel, by decide +kernel⟩
theorem sc_answer_handling : FnScope ["plant", "number", "given"] ["plant", "number", "given"] (defScope s_answer_handling) := ⟨rfl, rfl, rfl, by decide +kernel, rfl, by decide +kernel, by decide +kernel⟩
theorem sc_same_mould : FnScope ["mould", "other"] ["mould"] (defScope s_same_mould) := ⟨rfl, rfl, rfl, by decide +kernel, rfl, by decide +kernel, by decide +kernel⟩
theorem sc_same_press : FnScope ["press", "other"] ["press"] (defScope s_same_press) := ⟨rfl, rfl, rfl, by decide +kernel, rfl, by decide +kernel, by decide +kernel⟩
theorem sc_same_tyre : FnScope ["tyre", "other"] ["tyre"] (defScope s_same_tyre) := ⟨rfl, rfl, rfl, by decide +kernel, rfl, by decide +kernel, by decide +kernel⟩
theorem sc_same_plant : FnScope ["plant", "other", "kind", "mould", "press", "tyre"] ["plant"] (defScope s_same_plant) := ⟨rfl, rfl, rfl, by decide +kernel, rfl, by decide +kernel, by decide +kernel⟩
theorem sc_later : FnScope ["plant", "n", "other"] ["plant", "n"] (defScope s_later) := ⟨rfl, rfl, rfl, by decide +kernel, rfl, by decide +kernel, by decide +kernel⟩
theorem sc_can : FnScope ["plant", "p"] ["plant", "p"] (defScope s_can) := ⟨rfl, rfl, rfl, by decide +kernel, rfl, by decide +kernel, by decide +kernel⟩
theorem sc_waits : FnScope ["plant", "t", "ready"] ["plant", "t"] (defScope s_waits) := ⟨rfl, rfl, rfl, by decide +kernel, rfl, by decide +kernel, by decide +kernel⟩
theorem sc_old : FnScope ["plant", "these"] ["plant"] (defScope s_old) := ⟨rfl, rfl, rfl, by decide +kernel, rfl, by decide +kernel, by decide +kernel⟩
theorem sc_cured_in : FnScope ["plant", "g", "tyre"] ["plant", "g"] (defScope s_cured_in) := ⟨rfl, rfl, rfl, by decide +kernel, rfl, by decide +kernel, by decide +kernel⟩
theorem sc_ahead : FnScope ["plant", "n", "then", "more", "idle", "press"] ["plant", "n"] (defScope s_ahead) := ⟨rfl, rfl, rfl, by decide +kernel, rfl, by decide +kernel, by decide +kernel⟩
theorem sc_answer_asking : FnScope ["plant", "number", "given"] ["plant", "number", "given"] (defScope s_answer_asking) := ⟨rfl, rfl, rfl, by decide +kernel, rfl, by decide +kernel, by decide +kernel⟩
theorem sc_begun_in_time : FnScope ["plant", "t", "k", "kind", "place", "g", "begins"] ["plant", "t", "k"] (defScope s_begun_in_time) := ⟨rfl, rfl, rfl, by decide +kernel, rfl, by decide +kernel, by decide +kernel⟩
theorem sc_needs : FnScope ["plant", "t", "k"] ["plant", "t"] (defScope s_needs) := ⟨rfl, rfl, rfl, by decide +kernel, rfl, by decide +kernel, by decide +kernel⟩
theorem sc_time_by : FnScope ["k", "many", "cure"] ["k", "many", "cure"] (defScope s_time_by) := ⟨rfl, rfl, rfl, by decide +kernel, rfl, by decide +kernel, by decide +kernel⟩
theorem sc_span : FnScope ["plant", "t", "k", "takes"] ["plant", "t", "k"] (defScope s_span) := ⟨rfl, rfl, rfl, by decide +kernel, rfl, by decide +kernel, by decide +kernel⟩
theorem sc_count_moulds : FnScope ["plant", "t", "mould"] ["plant", "t"] (defScope s_count_moulds) := ⟨rfl, rfl, rfl, by decide +kernel, rfl, by decide +kernel, by decide +kernel⟩
theorem sc_ways_to_share : FnScope ["plant", "ways", "t", "moulds", "longer", "way", "most", "k"] ["plant"] (defScope s_ways_to_share) := ⟨rfl, rfl, rfl, by decide +kernel, rfl, by decide +kernel, by decide +kernel⟩
theorem sc_time_of_way : FnScope ["plant", "way", "many", "longest", "t", "k", "takes"] ["plant", "way", "many"] (defScope s_time_of_way) := ⟨rfl, rfl, rfl, by decide +kernel, rfl, by decide +kernel, by decide +kernel⟩
theorem sc_share : FnScope ["plant", "many", "t", "best", "least", "way", "takes"] ["plant"] (defScope s_share) := ⟨rfl, rfl, rfl, by decide +kernel, rfl, by decide +kernel, by decide +kernel⟩
theorem sc_answer_sharing : FnScope ["plant", "number", "given"] ["plant", "number", "given"] (defScope s_answer_sharing) := ⟨rfl, rfl, rfl, by decide +kernel, rfl, by decide +kernel, by decide +kernel⟩
theorem sc_number_and_one : FnScope ["number"] ["number"] (defScope s_number_and_one) := ⟨rfl, rfl, rfl, by decide +kernel, rfl, by decide +kernel, by decide +kernel⟩
theorem sc_cured_tyres : FnScope ["plant", "g", "tyre"] ["plant"] (defScope s_cured_tyres) := ⟨rfl, rfl, rfl, by decide +kernel, rfl, by decide +kernel, by decide +kernel⟩
theorem sc_cured_by : FnScope ["plant", "m", "these", "g"] ["plant", "m"] (defScope s_cured_by) := ⟨rfl, rfl, rfl, by decide +kernel, rfl, by decide +kernel, by decide +kernel⟩
theorem sc_cured_within : FnScope ["plant", "p", "n", "here", "g", "these"] ["plant", "p", "n"] (defScope s_cured_within) := ⟨rfl, rfl, rfl, by decide +kernel, rfl, by decide +kernel, by decide +kernel⟩
theorem sc_doing : FnScope ["press"] ["press"] (defScope s_doing) := ⟨rfl, rfl, rfl, by decide +kernel, rfl, by decide +kernel, by decide +kernel⟩
theorem sc_look : FnScope ["plant", "p", "press", "mould", "tyre"] ["plant", "p"] (defScope s_look) := ⟨rfl, rfl, rfl, by decide +kernel, rfl, by decide +kernel, by decide +kernel⟩
theorem sc_look_at_mould : FnScope ["plant", "m", "mould"] ["plant", "m"] (defScope s_look_at_mould) := ⟨rfl, rfl, rfl, by decide +kernel, rfl, by decide +kernel, by decide +kernel⟩
theorem sc_look_at_tyre : FnScope ["plant", "g", "tyre"] ["plant", "g"] (defScope s_look_at_tyre) := ⟨rfl, rfl, rfl, by decide +kernel, rfl, by decide +kernel, by decide +kernel⟩
theorem sc_sums : FnScope ["plant", "stage"] ["plant"] (defScope s_sums) := ⟨rfl, rfl, rfl, by decide +kernel, rfl, by decide +kernel, by decide +kernel⟩
theorem sc_state : FnScope ["plant", "there_are"] ["plant"] (defScope s_state) := ⟨rfl, rfl, rfl, by decide +kernel, rfl, by decide +kernel, by decide +kernel⟩
theorem sc_answer_telling : FnScope ["plant", "number", "given"] ["plant", "number", "given"] (defScope s_answer_telling) := ⟨rfl, rfl, rfl, by decide +kernel, rfl, by decide +kernel, by decide +kernel⟩
theorem sc_answer_call : FnScope ["plant", "number", "given"] ["plant", "number", "given"] (defScope s_answer_call) := ⟨rfl, rfl, rfl, by decide +kernel, rfl, by decide +kernel, by decide +kernel⟩
theorem sc_answers : FnScope ["calls", "plant", "told", "at", "behind", "answer"] ["calls"] (defScope s_answers) := ⟨rfl, rfl, rfl, by decide +kernel, rfl, by decide +kernel, by decide +kernel⟩
set_option genInjectivity false
set_option genSizeOfSpec false
/-- where the classes and the defs stand -/
structure Adr where
  c_Kind : Addr
  c_Mould : Addr
  c_Press : Addr
  c_Tyre : Addr
  c_Plant : Addr
  f_Kind_init : Addr
  f_Mould_init : Addr
  f_Press_init : Addr
  f_Tyre_init : Addr
  f_Plant_init : Addr
  f_Plant_start_anew : Addr
  f_begin : Addr
  f_add_kind : Addr
  f_add_mould : Addr
  f_add_press : Addr
  f_add_green : Addr
  f_answer_adding : Addr
  f_too_old : Addr
  f_ready_tyres : Addr
  f_old_tyres : Addr
  f_count_at : Addr
  f_why_not : Addr
  f_put_in : Addr
  f_load_presses : Addr
  f_finish_cure : Addr
  f_work_on : Addr
  f_pass_minutes : Addr
  f_fit : Addr
  f_renew_bladder : Addr
  f_clean : Addr
  f_load : Addr
  f_set_auto : Addr
  f_minutes : Addr
  f_scrap : Addr
  f_answer_handling : Addr
  f_same_mould : Addr
  f_same_press : Addr
  f_same_tyre : Addr
  f_same_plant : Addr
  f_later : Addr
  f_can : Addr
  f_waits : Addr
  f_old : Addr
  f_cured_in : Addr
  f_ahead : Addr
  f_answer_asking : Addr
  f_begun_in_time : Addr
  f_needs : Addr
  f_time_by : Addr
  f_span : Addr
  f_count_moulds : Addr
  f_ways_to_share : Addr
  f_time_of_way : Addr
  f_share : Addr
  f_answer_sharing : Addr
  f_number_and_one : Addr
  f_cured_tyres : Addr
  f_cured_by : Addr
  f_cured_within : Addr
  f_doing : Addr
  f_look : Addr
  f_look_at_mould : Addr
  f_look_at_tyre : Addr
  f_sums : Addr
  f_state : Addr
  f_answer_telling : Addr
  f_answer_call : Addr
  f_answers : Addr
  d_Kind_init : FuncData
  d_Mould_init : FuncData
  d_Press_init : FuncData
  d_Tyre_init : FuncData
  d_Plant_init : FuncData
  d_Plant_start_anew : FuncData
  d_begin : FuncData
  d_add_kind : FuncData
  d_add_mould : FuncData
  d_add_press : FuncData
  d_add_green : FuncData
  d_answer_adding : FuncData
  d_too_old : FuncData
  d_ready_tyres : FuncData
  d_old_tyres : FuncData
  d_count_at : FuncData
  d_why_not : FuncData
  d_put_in : FuncData
  d_load_presses : FuncData
  d_finish_cure : FuncData
  d_work_on : FuncData
  d_pass_minutes : FuncData
  d_fit : FuncData
  d_renew_bladder : FuncData
  d_clean : FuncData
  d_load : FuncData
  d_set_auto : FuncData
  d_minutes : FuncData
  d_scrap : FuncData
  d_answer_handling : FuncData
  d_same_mould : FuncData
  d_same_press : FuncData
  d_same_tyre : FuncData
  d_same_plant : FuncData
  d_later : FuncData
  d_can : FuncData
  d_waits : FuncData
  d_old : FuncData
  d_cured_in : FuncData
  d_ahead : FuncData
  d_answer_asking : FuncData
  d_begun_in_time : FuncData
  d_needs : FuncData
  d_time_by : FuncData
  d_span : FuncData
  d_count_moulds : FuncData
  d_ways_to_share : FuncData
  d_time_of_way : FuncData
  d_share : FuncData
  d_answer_sharing : FuncData
  d_number_and_one : FuncData
  d_cured_tyres : FuncData
  d_cured_by : FuncData
  d_cured_within : FuncData
  d_doing : FuncData
  d_look : FuncData
  d_look_at_mould : FuncData
  d_look_at_tyre : FuncData
  d_sums : FuncData
  d_state : FuncData
  d_answer_telling : FuncData
  d_answer_call : FuncData
  d_answers : FuncData
  g_GIVEN : Addr
structure Txt (K : PySem.W.Frag) (mg : Str → Option Value) (A : Adr) : Prop where
  cl_Kind : Cls K A.c_Kind
  mk_Kind : Mk K A.c_Kind A.f_Kind_init
  m_Kind : mg "Kind" = some (.ref A.c_Kind)
  n_Kind_cure : NoAttr K A.c_Kind "cure"
  n_Kind_wait : NoAttr K A.c_Kind "wait"
  cl_Mould : Cls K A.c_Mould
  mk_Mould : Mk K A.c_Mould A.f_Mould_init
  m_Mould : mg "Mould" = some (.ref A.c_Mould)
  n_Mould_kind : NoAttr K A.c_Mould "kind"
  n_Mould_cures : NoAttr K A.c_Mould "cures"
  n_Mould_press : NoAttr K A.c_Mould "press"
  cl_Press : Cls K A.c_Press
  mk_Press : Mk K A.c_Press A.f_Press_init
  m_Press : mg "Press" = some (.ref A.c_Press)
  n_Press_mould : NoAttr K A.c_Press "mould"
  n_Press_bladder : NoAttr K A.c_Press "bladder"
  n_Press_cures : NoAttr K A.c_Press "cures"
  n_Press_left : NoAttr K A.c_Press "left"
  n_Press_tyre : NoAttr K A.c_Press "tyre"
  cl_Tyre : Cls K A.c_Tyre
  mk_Tyre : Mk K A.c_Tyre A.f_Tyre_init
  m_Tyre : mg "Tyre" = some (.ref A.c_Tyre)
  n_Tyre_kind : NoAttr K A.c_Tyre "kind"
  n_Tyre_came : NoAttr K A.c_Tyre "came"
  n_Tyre_stage : NoAttr K A.c_Tyre "stage"
  n_Tyre_press : NoAttr K A.c_Tyre "press"
  n_Tyre_mould : NoAttr K A.c_Tyre "mould"
  n_Tyre_bladder : NoAttr K A.c_Tyre "bladder"
  n_Tyre_cured : NoAttr K A.c_Tyre "cured"
  cl_Plant : Cls K A.c_Plant
  mk_Plant : Mk K A.c_Plant A.f_Plant_init
  m_Plant : mg "Plant" = some (.ref A.c_Plant)
  n_Plant_begun : NoAttr K A.c_Plant "begun"
  n_Plant_change : NoAttr K A.c_Plant "change"
  n_Plant_bladder_cures : NoAttr K A.c_Plant "bladder_cures"
  n_Plant_mould_cures : NoAttr K A.c_Plant "mould_cures"
  n_Plant_minute : NoAttr K A.c_Plant "minute"
  n_Plant_auto : NoAttr K A.c_Plant "auto"
  n_Plant_kinds : NoAttr K A.c_Plant "kinds"
  n_Plant_moulds : NoAttr K A.c_Plant "moulds"
  n_Plant_presses : NoAttr K A.c_Plant "presses"
  n_Plant_tyres : NoAttr K A.c_Plant "tyres"
  ne_Kind_Mould : A.c_Kind ≠ A.c_Mould
  ne_Kind_Press : A.c_Kind ≠ A.c_Press
  ne_Kind_Tyre : A.c_Kind ≠ A.c_Tyre
  ne_Kind_Plant : A.c_Kind ≠ A.c_Plant
  ne_Mould_Press : A.c_Mould ≠ A.c_Press
  ne_Mould_Tyre : A.c_Mould ≠ A.c_Tyre
  ne_Mould_Plant : A.c_Mould ≠ A.c_Plant
  ne_Press_Tyre : A.c_Press ≠ A.c_Tyre
  ne_Press_Plant : A.c_Press ≠ A.c_Plant
  ne_Tyre_Plant : A.c_Tyre ≠ A.c_Plant
  F_Kind_init : Fun K "__init__" "Kind.__init__" s_Kind_init A.f_Kind_init A.d_Kind_init
  b_Kind_init : Binds K A.d_Kind_init ["self", "cure", "wait"] []
  F_Mould_init : Fun K "__init__" "Mould.__init__" s_Mould_init A.f_Mould_init A.d_Mould_init
  b_Mould_init : Binds K A.d_Mould_init ["self", "kind"] []
  F_Press_init : Fun K "__init__" "Press.__init__" s_Press_init A.f_Press_init A.d_Press_init
  b_Press_init : Binds K A.d_Press_init ["self"] []
  F_Tyre_init : Fun K "__init__" "Tyre.__init__" s_Tyre_init A.f_Tyre_init A.d_Tyre_init
  b_Tyre_init : Binds K A.d_Tyre_init ["self", "kind", "came"] []
  F_Plant_init : Fun K "__init__" "Plant.__init__" s_Plant_init A.f_Plant_init A.d_Plant_init
  b_Plant_init : Binds K A.d_Plant_init ["self"] []
  F_Plant_start_anew : Fun K "start_anew" "Plant.start_anew" s_Plant_start_anew A.f_Plant_start_anew A.d_Plant_start_anew
  b_Plant_start_anew : Binds K A.d_Plant_start_anew ["self", "change", "bladder_cures", "mould_cures"] []
  me_Plant_start_anew : Meth K A.c_Plant "start_anew" A.f_Plant_start_anew
  F_begin : Fun K "begin" "begin" s_begin A.f_begin A.d_begin
  b_begin : Binds K A.d_begin ["plant", "change", "bladder_cures", "mould_cures"] []
  m_begin : mg "begin" = some (.ref A.f_begin)
  F_add_kind : Fun K "add_kind" "add_kind" s_add_kind A.f_add_kind A.d_add_kind
  b_add_kind : Binds K A.d_add_kind ["plant", "cure", "wait"] []
  m_add_kind : mg "add_kind" = some (.ref A.f_add_kind)
  F_add_mould : Fun K "add_mould" "add_mould" s_add_mould A.f_add_mould A.d_add_mould
  b_add_mould : Binds K A.d_add_mould ["plant", "t"] []
  m_add_mould : mg "add_mould" = some (.ref A.f_add_mould)
  F_add_press : Fun K "add_press" "add_press" s_add_press A.f_add_press A.d_add_press
  b_add_press : Binds K A.d_add_press ["plant"] []
  m_add_press : mg "add_press" = some (.ref A.f_add_press)
  F_add_green : Fun K "add_green" "add_green" s_add_green A.f_add_green A.d_add_green
  b_add_green : Binds K A.d_add_green ["plant", "t"] []
  m_add_green : mg "add_green" = some (.ref A.f_add_green)
  F_answer_adding : Fun K "answer_adding" "answer_adding" s_answer_adding A.f_answer_adding A.d_answer_adding
  b_answer_adding : Binds K A.d_answer_adding ["plant", "number", "given"] []
  m_answer_adding : mg "answer_adding" = some (.ref A.f_answer_adding)
  F_too_old : Fun K "too_old" "too_old" s_too_old A.f_too_old A.d_too_old
  b_too_old : Binds K A.d_too_old ["plant", "tyre"] []
  m_too_old : mg "too_old" = some (.ref A.f_too_old)
  F_ready_tyres : Fun K "ready_tyres" "ready_tyres" s_ready_tyres A.f_ready_tyres A.d_ready_tyres
  b_ready_tyres : Binds K A.d_ready_tyres ["plant", "kind"] []
  m_ready_tyres : mg "ready_tyres" = some (.ref A.f_ready_tyres)
  F_old_tyres : Fun K "old_tyres" "old_tyres" s_old_tyres A.f_old_tyres A.d_old_tyres
  b_old_tyres : Binds K A.d_old_tyres ["plant"] []
  m_old_tyres : mg "old_tyres" = some (.ref A.f_old_tyres)
  F_count_at : Fun K "count_at" "count_at" s_count_at A.f_count_at A.d_count_at
  b_count_at : Binds K A.d_count_at ["plant", "stage"] []
  m_count_at : mg "count_at" = some (.ref A.f_count_at)
  F_why_not : Fun K "why_not" "why_not" s_why_not A.f_why_not A.d_why_not
  b_why_not : Binds K A.d_why_not ["plant", "press"] []
  m_why_not : mg "why_not" = some (.ref A.f_why_not)
  F_put_in : Fun K "put_in" "put_in" s_put_in A.f_put_in A.d_put_in
  b_put_in : Binds K A.d_put_in ["plant", "p", "g"] []
  m_put_in : mg "put_in" = some (.ref A.f_put_in)
  F_load_presses : Fun K "load_presses" "load_presses" s_load_presses A.f_load_presses A.d_load_presses
  b_load_presses : Binds K A.d_load_presses ["plant"] []
  m_load_presses : mg "load_presses" = some (.ref A.f_load_presses)
  F_finish_cure : Fun K "finish_cure" "finish_cure" s_finish_cure A.f_finish_cure A.d_finish_cure
  b_finish_cure : Binds K A.d_finish_cure ["plant", "press"] []
  m_finish_cure : mg "finish_cure" = some (.ref A.f_finish_cure)
  F_work_on : Fun K "work_on" "work_on" s_work_on A.f_work_on A.d_work_on
  b_work_on : Binds K A.d_work_on ["plant", "step"] []
  m_work_on : mg "work_on" = some (.ref A.f_work_on)
  F_pass_minutes : Fun K "pass_minutes" "pass_minutes" s_pass_minutes A.f_pass_minutes A.d_pass_minutes
  b_pass_minutes : Binds K A.d_pass_minutes ["plant", "n"] []
  m_pass_minutes : mg "pass_minutes" = some (.ref A.f_pass_minutes)
  F_fit : Fun K "fit" "fit" s_fit A.f_fit A.d_fit
  b_fit : Binds K A.d_fit ["plant", "p", "m"] []
  m_fit : mg "fit" = some (.ref A.f_fit)
  F_renew_bladder : Fun K "renew_bladder" "renew_bladder" s_renew_bladder A.f_renew_bladder A.d_renew_bladder
  b_renew_bladder : Binds K A.d_renew_bladder ["plant", "p"] []
  m_renew_bladder : mg "renew_bladder" = some (.ref A.f_renew_bladder)
  F_clean : Fun K "clean" "clean" s_clean A.f_clean A.d_clean
  b_clean : Binds K A.d_clean ["plant", "m"] []
  m_clean : mg "clean" = some (.ref A.f_clean)
  F_load : Fun K "load" "load" s_load A.f_load A.d_load
  b_load : Binds K A.d_load ["plant", "p", "g"] []
  m_load : mg "load" = some (.ref A.f_load)
  F_set_auto : Fun K "set_auto" "set_auto" s_set_auto A.f_set_auto A.d_set_auto
  b_set_auto : Binds K A.d_set_auto ["plant", "b"] []
  m_set_auto : mg "set_auto" = some (.ref A.f_set_auto)
  F_minutes : Fun K "minutes" "minutes" s_minutes A.f_minutes A.d_minutes
  b_minutes : Binds K A.d_minutes ["plant", "n"] []
  m_minutes : mg "minutes" = some (.ref A.f_minutes)
  F_scrap : Fun K "scrap" "scrap" s_scrap A.f_scrap A.d_scrap
  b_scrap : Binds K A.d_scrap ["plant", "g"] []
  m_scrap : mg "scrap" = some (.ref A.f_scrap)
  F_answer_handling : Fun K "answer_handling" "answer_handling" s_answer_handling A.f_answer_handling A.d_answer_handling
  b_answer_handling : Binds K A.d_answer_handling ["plant", "number", "given"] []
  m_answer_handling : mg "answer_handling" = some (.ref A.f_answer_handling)
  F_same_mould : Fun K "same_mould" "same_mould" s_same_mould A.f_same_mould A.d_same_mould
  b_same_mould : Binds K A.d_same_mould ["mould"] []
  m_same_mould : mg "same_mould" = some (.ref A.f_same_mould)
  F_same_press : Fun K "same_press" "same_press" s_same_press A.f_same_press A.d_same_press
  b_same_press : Binds K A.d_same_press ["press"] []
  m_same_press : mg "same_press" = some (.ref A.f_same_press)
  F_same_tyre : Fun K "same_tyre" "same_tyre" s_same_tyre A.f_same_tyre A.d_same_tyre
  b_same_tyre : Binds K A.d_same_tyre ["tyre"] []
  m_same_tyre : mg "same_tyre" = some (.ref A.f_same_tyre)
  F_same_plant : Fun K "same_plant" "same_plant" s_same_plant A.f_same_plant A.d_same_plant
  b_same_plant : Binds K A.d_same_plant ["plant"] []
  m_same_plant : mg "same_plant" = some (.ref A.f_same_plant)
  F_later : Fun K "later" "later" s_later A.f_later A.d_later
  b_later : Binds K A.d_later ["plant", "n"] []
  m_later : mg "later" = some (.ref A.f_later)
  F_can : Fun K "can" "can" s_can A.f_can A.d_can
  b_can : Binds K A.d_can ["plant", "p"] []
  m_can : mg "can" = some (.ref A.f_can)
  F_waits : Fun K "waits" "waits" s_waits A.f_waits A.d_waits
  b_waits : Binds K A.d_waits ["plant", "t"] []
  m_waits : mg "waits" = some (.ref A.f_waits)
  F_old : Fun K "old" "old" s_old A.f_old A.d_old
  b_old : Binds K A.d_old ["plant"] []
  m_old : mg "old" = some (.ref A.f_old)
  F_cured_in : Fun K "cured_in" "cured_in" s_cured_in A.f_cured_in A.d_cured_in
  b_cured_in : Binds K A.d_cured_in ["plant", "g"] []
  m_cured_in : mg "cured_in" = some (.ref A.f_cured_in)
  F_ahead : Fun K "ahead" "ahead" s_ahead A.f_ahead A.d_ahead
  b_ahead : Binds K A.d_ahead ["plant", "n"] []
  m_ahead : mg "ahead" = some (.ref A.f_ahead)
  F_answer_asking : Fun K "answer_asking" "answer_asking" s_answer_asking A.f_answer_asking A.d_answer_asking
  b_answer_asking : Binds K A.d_answer_asking ["plant", "number", "given"] []
  m_answer_asking : mg "answer_asking" = some (.ref A.f_answer_asking)
  F_begun_in_time : Fun K "begun_in_time" "begun_in_time" s_begun_in_time A.f_begun_in_time A.d_begun_in_time
  b_begun_in_time : Binds K A.d_begun_in_time ["plant", "t", "k"] []
  m_begun_in_time : mg "begun_in_time" = some (.ref A.f_begun_in_time)
  F_needs : Fun K "needs" "needs" s_needs A.f_needs A.d_needs
  b_needs : Binds K A.d_needs ["plant", "t"] []
  m_needs : mg "needs" = some (.ref A.f_needs)
  F_time_by : Fun K "time_by" "time_by" s_time_by A.f_time_by A.d_time_by
  b_time_by : Binds K A.d_time_by ["k", "many", "cure"] []
  m_time_by : mg "time_by" = some (.ref A.f_time_by)
  F_span : Fun K "span" "span" s_span A.f_span A.d_span
  b_span : Binds K A.d_span ["plant", "t", "k"] []
  m_span : mg "span" = some (.ref A.f_span)
  F_count_moulds : Fun K "count_moulds" "count_moulds" s_count_moulds A.f_count_moulds A.d_count_moulds
  b_count_moulds : Binds K A.d_count_moulds ["plant", "t"] []
  m_count_moulds : mg "count_moulds" = some (.ref A.f_count_moulds)
  F_ways_to_share : Fun K "ways_to_share" "ways_to_share" s_ways_to_share A.f_ways_to_share A.d_ways_to_share
  b_ways_to_share : Binds K A.d_ways_to_share ["plant"] []
  m_ways_to_share : mg "ways_to_share" = some (.ref A.f_ways_to_share)
  F_time_of_way : Fun K "time_of_way" "time_of_way" s_time_of_way A.f_time_of_way A.d_time_of_way
  b_time_of_way : Binds K A.d_time_of_way ["plant", "way", "many"] []
  m_time_of_way : mg "time_of_way" = some (.ref A.f_time_of_way)
  F_share : Fun K "share" "share" s_share A.f_share A.d_share
  b_share : Binds K A.d_share ["plant"] []
  m_share : mg "share" = some (.ref A.f_share)
  F_answer_sharing : Fun K "answer_sharing" "answer_sharing" s_answer_sharing A.f_answer_sharing A.d_answer_sharing
  b_answer_sharing : Binds K A.d_answer_sharing ["plant", "number", "given"] []
  m_answer_sharing : mg "answer_sharing" = some (.ref A.f_answer_sharing)
  F_number_and_one : Fun K "number_and_one" "number_and_one" s_number_and_one A.f_number_and_one A.d_number_and_one
  b_number_and_one : Binds K A.d_number_and_one ["number"] []
  m_number_and_one : mg "number_and_one" = some (.ref A.f_number_and_one)
  F_cured_tyres : Fun K "cured_tyres" "cured_tyres" s_cured_tyres A.f_cured_tyres A.d_cured_tyres
  b_cured_tyres : Binds K A.d_cured_tyres ["plant"] []
  m_cured_tyres : mg "cured_tyres" = some (.ref A.f_cured_tyres)
  F_cured_by : Fun K "cured_by" "cured_by" s_cured_by A.f_cured_by A.d_cured_by
  b_cured_by : Binds K A.d_cured_by ["plant", "m"] []
  m_cured_by : mg "cured_by" = some (.ref A.f_cured_by)
  F_cured_within : Fun K "cured_within" "cured_within" s_cured_within A.f_cured_within A.d_cured_within
  b_cured_within : Binds K A.d_cured_within ["plant", "p", "n"] []
  m_cured_within : mg "cured_within" = some (.ref A.f_cured_within)
  F_doing : Fun K "doing" "doing" s_doing A.f_doing A.d_doing
  b_doing : Binds K A.d_doing ["press"] []
  m_doing : mg "doing" = some (.ref A.f_doing)
  F_look : Fun K "look" "look" s_look A.f_look A.d_look
  b_look : Binds K A.d_look ["plant", "p"] []
  m_look : mg "look" = some (.ref A.f_look)
  F_look_at_mould : Fun K "look_at_mould" "look_at_mould" s_look_at_mould A.f_look_at_mould A.d_look_at_mould
  b_look_at_mould : Binds K A.d_look_at_mould ["plant", "m"] []
  m_look_at_mould : mg "look_at_mould" = some (.ref A.f_look_at_mould)
  F_look_at_tyre : Fun K "look_at_tyre" "look_at_tyre" s_look_at_tyre A.f_look_at_tyre A.d_look_at_tyre
  b_look_at_tyre : Binds K A.d_look_at_tyre ["plant", "g"] []
  m_look_at_tyre : mg "look_at_tyre" = some (.ref A.f_look_at_tyre)
  F_sums : Fun K "sums" "sums" s_sums A.f_sums A.d_sums
  b_sums : Binds K A.d_sums ["plant"] []
  m_sums : mg "sums" = some (.ref A.f_sums)
  F_state : Fun K "state" "state" s_state A.f_state A.d_state
  b_state : Binds K A.d_state ["plant"] []
  m_state : mg "state" = some (.ref A.f_state)
  F_answer_telling : Fun K "answer_telling" "answer_telling" s_answer_telling A.f_answer_telling A.d_answer_telling
  b_answer_telling : Binds K A.d_answer_telling ["plant", "number", "given"] []
  m_answer_telling : mg "answer_telling" = some (.ref A.f_answer_telling)
  F_answer_call : Fun K "answer_call" "answer_call" s_answer_call A.f_answer_call A.d_answer_call
  b_answer_call : Binds K A.d_answer_call ["plant", "number", "given"] []
  m_answer_call : mg "answer_call" = some (.ref A.f_answer_call)
  F_answers : Fun K "answers" "answers" s_answers A.f_answers A.d_answers
  b_answers : Binds K A.d_answers ["calls"] []
  m_answers : mg "answers" = some (.ref A.f_answers)
  v_NONE_SUCH : ∃ t, mg "NONE_SUCH" = some (.int (-2) t)
  v_NO_MOULD : ∃ t, mg "NO_MOULD" = some (.int (-6) t)
  v_NOT_BEGUN : ∃ t, mg "NOT_BEGUN" = some (.int (-11) t)
  v_DIRTY : ∃ t, mg "DIRTY" = some (.int (-13) t)
  v_WORN : ∃ t, mg "WORN" = some (.int (-14) t)
  v_NOT_IDLE : ∃ t, mg "NOT_IDLE" = some (.int (-16) t)
  v_ALREADY : ∃ t, mg "ALREADY" = some (.int (-17) t)
  v_OUT_OF_RANGE : ∃ t, mg "OUT_OF_RANGE" = some (.int (-22) t)
  v_TOO_MANY : ∃ t, mg "TOO_MANY" = some (.int (-28) t)
  v_CANNOT_BE : ∃ t, mg "CANNOT_BE" = some (.int (-33) t)
  v_TOO_OLD : ∃ t, mg "TOO_OLD" = some (.int (-75) t)
  v_WAITS : ∃ t, mg "WAITS" = some (.int (0) t)
  v_PRESSED : ∃ t, mg "PRESSED" = some (.int (1) t)
  v_CURED : ∃ t, mg "CURED" = some (.int (2) t)
  v_SCRAPPED : ∃ t, mg "SCRAPPED" = some (.int (3) t)
  v_MOST_CHANGE : ∃ t, mg "MOST_CHANGE" = some (.int (500) t)
  v_MOST_CURES : ∃ t, mg "MOST_CURES" = some (.int (1000) t)
  v_MOST_CURE : ∃ t, mg "MOST_CURE" = some (.int (500) t)
  v_MOST_WAIT : ∃ t, mg "MOST_WAIT" = some (.int (10000) t)
  v_MOST_KINDS : ∃ t, mg "MOST_KINDS" = some (.int (5) t)
  v_MOST_MOULDS : ∃ t, mg "MOST_MOULDS" = some (.int (8) t)
  v_MOST_PRESSES : ∃ t, mg "MOST_PRESSES" = some (.int (5) t)
  v_MOST_TYRES : ∃ t, mg "MOST_TYRES" = some (.int (60) t)
  v_MOST_MINUTES : ∃ t, mg "MOST_MINUTES" = some (.int (500) t)
  v_FARTHEST : ∃ t, mg "FARTHEST" = some (.int (1000) t)
  v_IDLE : ∃ t, mg "IDLE" = some (.int (0) t)
  v_CHANGED : ∃ t, mg "CHANGED" = some (.int (1) t)
  v_CURES : ∃ t, mg "CURES" = some (.int (2) t)
  v_GIVEN : mg "GIVEN" = some (.ref A.g_GIVEN)
  t_GIVEN : ∀ H : Hp, SqT K H A.g_GIVEN ([3, 2, 1, 0, 1, 2, 1, 1, 2, 1, 1, 1, 1, 1, 0, 1, 1, 1, 2, 0, 1, 2, 1, 1, 1, 0, 0].map V.int)
  u_len : mg "len" = none
  u_range : mg "range" = none
  u_enumerate : mg "enumerate" = none
  u_min : mg "min" = none
  u_max : mg "max" = none
  u_sum : mg "sum" = none
theorem Txt.all {K : PySem.W.Frag} {mg : Str → Option Value} {A : Adr} (T : Txt K mg A) : Cls K A.c_Kind ∧ Cls K A.c_Mould ∧ Cls K A.c_Press ∧ Cls K A.c_Tyre ∧ Cls K A.c_Plant ∧ NoAttr K A.c_Kind "cure" ∧ NoAttr K A.c_Kind "wait" ∧ NoAttr K A.c_Mould "kind" ∧ NoAttr K A.c_Mould "cures" ∧ NoAttr K A.c_Mould "press" ∧ NoAttr K A.c_Press "mould" ∧ NoAttr K A.c_Press "bladder" ∧ NoAttr K A.c_Press "cures" ∧ NoAttr K A.c_Press "left" ∧ NoAttr K A.c_Press "tyre" ∧ NoAttr K A.c_Tyre "kind" ∧ NoAttr K A.c_Tyre "came" ∧ NoAttr K A.c_Tyre "stage" ∧ NoAttr K A.c_Tyre "press" ∧ NoAttr K A.c_Tyre "mould" ∧ NoAttr K A.c_Tyre "bladder" ∧ NoAttr K A.c_Tyre "cured" ∧ NoAttr K A.c_Plant "begun" ∧ NoAttr K A.c_Plant "change" ∧ NoAttr K A.c_Plant "bladder_cures" ∧ NoAttr K A.c_Plant "mould_cures" ∧ NoAttr K A.c_Plant "minute" ∧ NoAttr K A.c_Plant "auto" ∧ NoAttr K A.c_Plant "kinds" ∧ NoAttr K A.c_Plant "moulds" ∧ NoAttr K A.c_Plant "presses" ∧ NoAttr K A.c_Plant "tyres" :=
  ⟨T.cl_Kind, T.cl_Mould, T.cl_Press, T.cl_Tyre, T.cl_Plant, T.n_Kind_cure, T.n_Kind_wait, T.n_Mould_kind, T.n_Mould_cures, T.n_Mould_press, T.n_Press_mould, T.n_Press_bladder, T.n_Press_cures, T.n_Press_left, T.n_Press_tyre, T.n_Tyre_kind, T.n_Tyre_came, T.n_Tyre_stage, T.n_Tyre_press, T.n_Tyre_mould, T.n_Tyre_bladder, T.n_Tyre_cured, T.n_Plant_begun, T.n_Plant_change, T.n_Plant_bladder_cures, T.n_Plant_mould_cures, T.n_Plant_minute, T.n_Plant_auto, T.n_Plant_kinds, T.n_Plant_moulds, T.n_Plant_presses, T.n_Plant_tyres⟩
theorem pe_gi {X : Cx} {x : Str} {n : Int} {pos : Pos} (hg : Gl X x) (h : ∃ t, X.mg x = some (.int n t)) (hd : (x == ("__debug__" : Str)) = false := by decide) : PE X (.Name x pos) (tC (.int n)) := by
  obtain ⟨t, e⟩ := h
  exact pe_glob hg e ⟨t, rfl⟩ hd
end
section
open PySem PySem.Spec PyProof.Rows L2
/-! ### the data of the plant in the heap -/
def opt (n : Nat) : V := if n = 0 then .non else .int ((n - 1 : Nat) : Int)
def kiF (x : Su67.Type_) : List (Str × V) := [("cure", .int (x.cure : Nat)), ("wait", .int (x.age : Nat))]
def moF (x : Su67.Mould) : List (Str × V) := [("kind", .int (x.type_ : Nat)), ("cures", .int (x.used : Nat)), ("press", opt x.in_)]
def prF (x : Su67.Press) : List (Str × V) := [("mould", opt x.mould), ("bladder", .int (x.bladder : Nat)), ("cures", .int (x.worn : Nat)), ("left", .int (x.left : Nat)), ("tyre", if x.busy = 2 then .int (x.tyre : Nat) else .non)]
def tyF (x : Su67.Tyre) : List (Str × V) := [("kind", .int (x.type_ : Nat)), ("came", .int (x.came : Nat)), ("stage", .int (x.how : Nat)), ("press", .int (x.press : Nat)), ("mould", .int (x.mould : Nat)), ("bladder", .int (x.bladder : Nat)), ("cured", .int (x.at_ : Nat))]
/-- where the plant's lists and their members stand -/
structure Lay where
  lk : Addr
  lm : Addr
  lp : Addr
  lt : Addr
  ak : List Addr
  am : List Addr
  ap : List Addr
  ag : List Addr
def plF (b : Bool) (a : Su67.Abs) (y : Lay) : List (Str × V) :=
  [("begun", .bl b), ("change", .int (a.change : Nat)), ("bladder_cures", .int (a.life : Nat)), ("mould_cures", .int (a.dirty : Nat)), ("minute", .int (a.now_ : Nat)), ("auto", .int (Su67.bit a.auto_ : Nat)),
    ("kinds", .ref y.lk), ("moulds", .ref y.lm), ("presses", .ref y.lp), ("tyres", .ref y.lt)]
structure Objs {α : Type} (C : Addr) (F : α → List (Str × V)) (H : Hp) (l : Addr) (as : List Addr) (xs : List α) : Prop where
  lst : H l = some (.lst (as.map V.ref))
  nd : as.Nodup
  len : as.length = xs.length
  at_ : ∀ (j : Nat) (p : Addr) (x : α), as[j]? = some p → xs[j]? = some x → ∃ dx, H p = some (.ins C dx (F x))
structure Rep (A : Adr) (H : Hp) (q : Addr) (y : Lay) (b : Bool) (a : Su67.Abs) : Prop where
  pl : ∃ dx, H q = some (.ins A.c_Plant dx (plF b a y))
  ki : Objs A.c_Kind kiF H y.lk y.ak a.types
  mo : Objs A.c_Mould moF H y.lm y.am a.moulds
  pr : Objs A.c_Press prF H y.lp y.ap a.presses
  ty : Objs A.c_Tyre tyF H y.lt y.ag a.tyres
  nl : y.lk ≠ y.lm ∧ y.lk ≠ y.lp ∧ y.lk ≠ y.lt ∧ y.lm ≠ y.lp ∧ y.lm ≠ y.lt ∧ y.lp ≠ y.lt
def Lay.foot (y : Lay) (q b : Addr) : Prop := b = q ∨ b = y.lk ∨ b = y.lm ∨ b = y.lp ∨ b = y.lt ∨ b ∈ y.ak ∨ b ∈ y.am ∨ b ∈ y.ap ∨ b ∈ y.ag
/-- what stands outside of the plant stays; the plant grows by new things alone -/
structure Frame (q : Addr) (y : Lay) (H : Hp) (y' : Lay) (H' : Hp) : Prop where
  keep : ∀ b o, H b = some o → ¬ y.foot q b → H' b = some o
  grow : ∀ b, y'.foot q b → y.foot q b ∨ H b = none
theorem Frame.refl (q : Addr) (y : Lay) (H : Hp) : Frame q y H y H := ⟨fun _ _ h _ => h, fun _ h => .inl h⟩
theorem Frame.of_same {q : Addr} {y : Lay} {H H' : Hp} (s : Same H H') : Frame q y H y H' := ⟨fun b o h _ => s b o h, fun _ h => .inl h⟩
theorem Frame.trans {q : Addr} {y y1 y2 : Lay} {H H1 H2 : Hp} (f : Frame q y H y1 H1) (g : Frame q y1 H1 y2 H2) : Frame q y H y2 H2 := by
  refine ⟨fun b o h n => g.keep b o (f.keep b o h n) fun z => ?_, fun b z => ?_⟩
  · rcases f.grow b z with z | z
    · exact n z
    · rw [z] at h; cases h
  · rcases g.grow b z with z | z
    · exact f.grow b z
    · cases e : H b with
      | none => exact .inr rfl
      | some o =>
        by_cases n : y.foot q b
        · exact .inl n
        · rw [f.keep b o e n] at z; cases z
section
variable {α : Type} {C : Addr} {F : α → List (Str × V)} {H H' : Hp} {l : Addr} {as : List Addr} {xs : List α}
theorem Objs.same (O : Objs C F H l as xs) (s : Same H H') : Objs C F H' l as xs :=
  ⟨s _ _ O.lst, O.nd, O.len, fun j p x e1 e2 => let ⟨dx, h⟩ := O.at_ j p x e1 e2; ⟨dx, s _ _ h⟩⟩
/-- kept where nothing of it is written -/
theorem Objs.keep (O : Objs C F H l as xs) (h1 : H' l = H l) (h2 : ∀ p dx fs, H p = some (.ins C dx fs) → H' p = H p) : Objs C F H' l as xs :=
  ⟨h1.trans O.lst, O.nd, O.len, fun j p x e1 e2 => let ⟨dx, h⟩ := O.at_ j p x e1 e2; ⟨dx, (h2 p dx _ h).trans h⟩⟩
theorem Objs.get (O : Objs C F H l as xs) {j : Nat} {x : α} (e : xs[j]? = some x) : ∃ p dx, as[j]? = some p ∧ H p = some (.ins C dx (F x)) := by
  have hj : j < as.length := by rw [O.len]; exact (List.getElem?_eq_some_iff.mp e).1
  obtain ⟨dx, h⟩ := O.at_ j _ x (List.getElem?_eq_getElem hj) e
  exact ⟨_, dx, List.getElem?_eq_getElem hj, h⟩
/-- a member written anew -/
theorem Objs.modify (O : Objs C F H l as xs) {j : Nat} {p dx : Addr} {x : α} {f : α → α} {fs : List (Str × V)} (hp : as[j]? = some p) (hx : xs[j]? = some x) (e : fs = F (f x)) : Objs C F (upd H p (.ins C dx fs)) l as (xs.modify j f) := by
  obtain ⟨dy, h0⟩ := O.at_ j p x hp hx
  refine ⟨?_, O.nd, by rw [List.length_modify]; exact O.len, fun i r z e1 e2 => ?_⟩
  · rw [upd_ne (ne_of O.lst h0 (by intro q; cases q))]
    exact O.lst
  · by_cases hi : i = j
    · subst hi
      have er : r = p := Option.some.inj (e1.symm.trans hp)
      subst er
      rw [List.getElem?_modify_eq, hx] at e2
      have ez : f x = z := Option.some.inj e2
      exact ⟨dx, by rw [upd_same, e, ez]⟩
    · rw [List.getElem?_modify_ne f xs (show j ≠ i from fun z => hi z.symm)] at e2
      obtain ⟨d, h⟩ := O.at_ i r z e1 e2
      have nr : r ≠ p := fun q => hi (nd_ix O.nd e1 (by rw [q]; exact hp))
      exact ⟨d, by rw [upd_ne nr]; exact h⟩
/-- one more -/
theorem Objs.snoc (O : Objs C F H l as xs) {p dx : Addr} {x : α} (h1 : H' p = some (.ins C dx (F x))) (hn : H p = none) (s : ∀ b o, H b = some o → b ≠ l → H' b = some o) (hl : H' l = some (.lst (as.map V.ref ++ [V.ref p]))) : Objs C F H' l (as ++ [p]) (xs ++ [x]) := by
  have np : p ∉ as := fun m => by
    obtain ⟨i, hi⟩ := List.getElem?_of_mem m
    have hx : i < xs.length := by rw [← O.len]; exact (List.getElem?_eq_some_iff.mp hi).1
    obtain ⟨d, h⟩ := O.at_ i p _ hi (List.getElem?_eq_getElem hx)
    rw [hn] at h; cases h
  refine ⟨by rw [hl, List.map_append]; rfl, nd_snoc O.nd np, by rw [List.length_append, List.length_append, O.len]; rfl, fun j r z e1 e2 => ?_⟩
  by_cases hj : j < as.length
  · rw [List.getElem?_append_left hj] at e1
    rw [List.getElem?_append_left (by rw [← O.len]; exact hj)] at e2
    obtain ⟨d, h⟩ := O.at_ j r z e1 e2
    exact ⟨d, s _ _ h (ne_of h O.lst (by intro q; cases q))⟩
  · rw [List.getElem?_append_right (by omega)] at e1
    rw [List.getElem?_append_right (by rw [← O.len]; omega), ← O.len] at e2
    have hz : j - as.length = 0 := by
      rcases Nat.eq_zero_or_pos (j - as.length) with q | q
      · exact q
      · rw [List.getElem?_eq_none (by simp; omega)] at e1; cases e1
    rw [hz] at e1 e2
    have er : p = r := Option.some.inj e1
    have ez : x = z := Option.some.inj e2
    subst er; subst ez
    exact ⟨dx, h1⟩
end
section
variable {A : Adr} {K : PySem.W.Frag} {mg : Str → Option Value} {H H' : Hp} {q : Addr} {y : Lay} {b : Bool} {a : Su67.Abs}
theorem Rep.same (R : Rep A H q y b a) (s : Same H H') : Rep A H' q y b a :=
  ⟨let ⟨dx, h⟩ := R.pl; ⟨dx, s _ _ h⟩, R.ki.same s, R.mo.same s, R.pr.same s, R.ty.same s, R.nl⟩
theorem get_press {a : Su67.Abs} {p : Nat} (h : p < a.presses.length) : a.presses[p]? = some (a.press p) := by
  unfold Su67.Abs.press; rw [List.getElem?_eq_getElem h, List.getD_eq_getElem?_getD, List.getElem?_eq_getElem h]; rfl
theorem get_mould {a : Su67.Abs} {p : Nat} (h : p < a.moulds.length) : a.moulds[p]? = some (a.mould p) := by
  unfold Su67.Abs.mould; rw [List.getElem?_eq_getElem h, List.getD_eq_getElem?_getD, List.getElem?_eq_getElem h]; rfl
theorem get_tyre {a : Su67.Abs} {p : Nat} (h : p < a.tyres.length) : a.tyres[p]? = some (a.tyre p) := by
  unfold Su67.Abs.tyre; rw [List.getElem?_eq_getElem h, List.getD_eq_getElem?_getD, List.getElem?_eq_getElem h]; rfl
theorem get_type {a : Su67.Abs} {p : Nat} (h : p < a.types.length) : a.types[p]? = some (a.type_ p) := by
  unfold Su67.Abs.type_; rw [List.getElem?_eq_getElem h, List.getD_eq_getElem?_getD, List.getElem?_eq_getElem h]; rfl
theorem Rep.press (R : Rep A H q y b a) {p : Nat} (h : p < a.presses.length) : ∃ r dx, y.ap[p]? = some r ∧ H r = some (.ins A.c_Press dx (prF (a.press p))) := R.pr.get (get_press h)
theorem Rep.mould (R : Rep A H q y b a) {p : Nat} (h : p < a.moulds.length) : ∃ r dx, y.am[p]? = some r ∧ H r = some (.ins A.c_Mould dx (moF (a.mould p))) := R.mo.get (get_mould h)
theorem Rep.tyre (R : Rep A H q y b a) {p : Nat} (h : p < a.tyres.length) : ∃ r dx, y.ag[p]? = some r ∧ H r = some (.ins A.c_Tyre dx (tyF (a.tyre p))) := R.ty.get (get_tyre h)
theorem Rep.type_ (R : Rep A H q y b a) {p : Nat} (h : p < a.types.length) : ∃ r dx, y.ak[p]? = some r ∧ H r = some (.ins A.c_Kind dx (kiF (a.type_ p))) := R.ki.get (get_type h)
theorem ins_ne {C C' dx dy : Addr} {fs gs : List (Str × V)} (h : C ≠ C') : HO.ins C dx fs ≠ HO.ins C' dy gs := fun e => h (by cases e; rfl)
/-- a store at an instance of another class, or at a list, leaves a class's objects -/
theorem keep_ins {C C' r dy : Addr} {gs : List (Str × V)} (hr : H r = some (.ins C' dy gs)) (hC : C' ≠ C) {o : HO} : ∀ p dx fs, H p = some (.ins C dx fs) → upd H r o p = H p := fun p dx fs h => upd_ne (ne_of h hr (ins_ne (Ne.symm hC)))
theorem keep_lst {C r : Addr} {xs : List V} (hr : H r = some (.lst xs)) {o : HO} : ∀ p dx fs, H p = some (.ins C dx fs) → upd H r o p = H p := fun p dx fs h => upd_ne (ne_of h hr (by intro e; cases e))
theorem lst_ins {l r C dx : Addr} {xs : List V} {fs : List (Str × V)} {o : HO} (hl : H l = some (.lst xs)) (hr : H r = some (.ins C dx fs)) : upd H r o l = H l := upd_ne (ne_of hl hr (by intro e; cases e))
theorem Rep.setP (T : Txt K mg A) (R : Rep A H q y b a) {j : Nat} {r dx dy : Addr} {f : Su67.Press → Su67.Press} {fs : List (Str × V)} (hr : y.ap[j]? = some r) (hH : H r = some (.ins A.c_Press dy (prF (a.press j)))) (e : fs = prF (f (a.press j))) :
    Rep A (upd H r (.ins A.c_Press dx fs)) q y b (a.setP j f) ∧ Frame q y H y (upd H r (.ins A.c_Press dx fs)) := by
  have hj : j < a.presses.length := by rw [← R.pr.len]; exact (List.getElem?_eq_some_iff.mp hr).1
  obtain ⟨d, hq⟩ := R.pl
  refine ⟨⟨⟨d, ?_⟩, R.ki.keep (lst_ins R.ki.lst hH) (keep_ins hH (Ne.symm T.ne_Kind_Press)) , R.mo.keep (lst_ins R.mo.lst hH) (keep_ins hH (Ne.symm T.ne_Mould_Press)), R.pr.modify hr (get_press hj) e, R.ty.keep (lst_ins R.ty.lst hH) (keep_ins hH T.ne_Press_Tyre), R.nl⟩, ⟨fun c o h n => ?_, fun _ h => .inl h⟩⟩
  · rw [upd_ne (ne_of hq hH (ins_ne (Ne.symm T.ne_Press_Plant)))]; exact hq
  · rw [upd_ne]; exact h
    intro z; subst z
    exact n (.inr (.inr (.inr (.inr (.inr (.inr (.inr (.inl (List.mem_of_getElem? hr)))))))))
theorem Rep.setM (T : Txt K mg A) (R : Rep A H q y b a) {j : Nat} {r dx dy : Addr} {f : Su67.Mould → Su67.Mould} {fs : List (Str × V)} (hr : y.am[j]? = some r) (hH : H r = some (.ins A.c_Mould dy (moF (a.mould j)))) (e : fs = moF (f (a.mould j))) :
    Rep A (upd H r (.ins A.c_Mould dx fs)) q y b (a.setM j f) ∧ Frame q y H y (upd H r (.ins A.c_Mould dx fs)) := by
  have hj : j < a.moulds.length := by rw [← R.mo.len]; exact (List.getElem?_eq_some_iff.mp hr).1
  obtain ⟨d, hq⟩ := R.pl
  refine ⟨⟨⟨d, ?_⟩, R.ki.keep (lst_ins R.ki.lst hH) (keep_ins hH (Ne.symm T.ne_Kind_Mould)), R.mo.modify hr (get_mould hj) e, R.pr.keep (lst_ins R.pr.lst hH) (keep_ins hH T.ne_Mould_Press), R.ty.keep (lst_ins R.ty.lst hH) (keep_ins hH T.ne_Mould_Tyre), R.nl⟩, ⟨fun c o h n => ?_, fun _ h => .inl h⟩⟩
  · rw [upd_ne (ne_of hq hH (ins_ne (Ne.symm T.ne_Mould_Plant)))]; exact hq
  · rw [upd_ne]; exact h
    intro z; subst z
    exact n (.inr (.inr (.inr (.inr (.inr (.inr (.inl (List.mem_of_getElem? hr))))))))
theorem Rep.setG (T : Txt K mg A) (R : Rep A H q y b a) {j : Nat} {r dx dy : Addr} {f : Su67.Tyre → Su67.Tyre} {fs : List (Str × V)} (hr : y.ag[j]? = some r) (hH : H r = some (.ins A.c_Tyre dy (tyF (a.tyre j)))) (e : fs = tyF (f (a.tyre j))) :
    Rep A (upd H r (.ins A.c_Tyre dx fs)) q y b (a.setG j f) ∧ Frame q y H y (upd H r (.ins A.c_Tyre dx fs)) := by
  have hj : j < a.tyres.length := by rw [← R.ty.len]; exact (List.getElem?_eq_some_iff.mp hr).1
  obtain ⟨d, hq⟩ := R.pl
  refine ⟨⟨⟨d, ?_⟩, R.ki.keep (lst_ins R.ki.lst hH) (keep_ins hH (Ne.symm T.ne_Kind_Tyre)), R.mo.keep (lst_ins R.mo.lst hH) (keep_ins hH (Ne.symm T.ne_Mould_Tyre)), R.pr.keep (lst_ins R.pr.lst hH) (keep_ins hH (Ne.symm T.ne_Press_Tyre)), R.ty.modify hr (get_tyre hj) e, R.nl⟩, ⟨fun c o h n => ?_, fun _ h => .inl h⟩⟩
  · rw [upd_ne (ne_of hq hH (ins_ne (Ne.symm T.ne_Tyre_Plant)))]; exact hq
  · rw [upd_ne]; exact h
    intro z; subst z
    exact n (.inr (.inr (.inr (.inr (.inr (.inr (.inr (.inr (List.mem_of_getElem? hr)))))))))
/-- the plant's own numbers -/
theorem Rep.setA (T : Txt K mg A) (R : Rep A H q y b a) {a' : Su67.Abs} {b' : Bool} {dx : Addr} {fs : List (Str × V)} (e : fs = plF b' a' y) (h1 : a'.types = a.types) (h2 : a'.moulds = a.moulds) (h3 : a'.presses = a.presses) (h4 : a'.tyres = a.tyres) :
    Rep A (upd H q (.ins A.c_Plant dx fs)) q y b' a' ∧ Frame q y H y (upd H q (.ins A.c_Plant dx fs)) := by
  obtain ⟨d, hq⟩ := R.pl
  refine ⟨⟨⟨dx, by rw [upd_same, e]⟩, ?_, ?_, ?_, ?_, R.nl⟩, ⟨fun c o h n => ?_, fun _ h => .inl h⟩⟩
  · rw [h1]; exact R.ki.keep (lst_ins R.ki.lst hq) (keep_ins hq (Ne.symm T.ne_Kind_Plant))
  · rw [h2]; exact R.mo.keep (lst_ins R.mo.lst hq) (keep_ins hq (Ne.symm T.ne_Mould_Plant))
  · rw [h3]; exact R.pr.keep (lst_ins R.pr.lst hq) (keep_ins hq (Ne.symm T.ne_Press_Plant))
  · rw [h4]; exact R.ty.keep (lst_ins R.ty.lst hq) (keep_ins hq (Ne.symm T.ne_Tyre_Plant))
  · rw [upd_ne]; exact h
    intro z; subst z
    exact n (.inl rfl)
end
end
section
open PySem PySem.Spec PyProof.Rows L2
/-! ### rules whose readings are functions of the heap -/
section
variable {X : Cx}
def rLenL : List V → Hp → VK → Prop := fun vs H Q => ∃ p xs, vs = [.ref p] ∧ H p = some (.lst xs) ∧ Q (.int (xs.length : Nat)) H
theorem call_lenL : CallR X (.builtin "len") rLenL := by
  rintro pins s σ H xs us Q I r ⟨p, ys, e, h, q⟩
  exact call_len_seq pins s σ H xs us Q I r ⟨p, ys, e, .inl (SqL.of h), q⟩
def rIxF : R2 := fun x y H Q => ∃ p xs i v, x = .ref p ∧ y = .int i ∧ H p = some (.lst xs) ∧ atI xs i = some v ∧ Q v H
theorem ix_lst : IxR X rIxF := by
  rintro value slice pins s σ H x y v u Q I rx ry ⟨p, xs, i, z, e1, e2, h, ea, q⟩ hs
  exact ix_list value slice pins s σ H x y v u Q I rx ry ⟨p, xs, i, z, e1, e2, SqL.of h, ea, q⟩ hs
def isL : Option HO → Bool
  | some (.lst _) => true
  | _ => false
theorem tyV_l {K : PySem.W.Frag} {H : Hp} {p : Addr} (h : isL (H p) = true) : tyV K "list" (.ref p) H := by
  unfold isL at h
  split at h
  · rename_i xs e
    exact .inl ⟨rfl, xs, SqL.of e⟩
  · cases h
end
/-! ### what a call answers -/
def ansV (r : Su67.Ans) : List V := .int r.value :: r.out.map fun (n : Nat) => V.int (n : Int)
section
variable {A : Adr} {K : PySem.W.Frag} {mg : Str → Option Value} {H H' : Hp} {q : Addr} {y : Lay} {b : Bool} {a : Su67.Abs}
/-- a new list that tells the answer, and the plant as it is then -/
def Told (A : Adr) (q : Addr) (y : Lay) (H : Hp) (b : Bool) (r : Su67.Abs × Su67.Ans) (Q : VK) : Prop :=
  ∀ H' y' p, Rep A H' q y' b r.1 → Frame q y H y' H' → H p = none → ¬ y'.foot q p → H' p = some (.lst (ansV r.2)) → Q (.ref p) H'
theorem Objs.mem {α : Type} {C : Addr} {F : α → List (Str × V)} {l : Addr} {as : List Addr} {xs : List α} (O : Objs C F H l as xs) {p : Addr} (m : p ∈ as) : ∃ o, H p = some o := by
  obtain ⟨i, hi⟩ := List.getElem?_of_mem m
  have hx : i < xs.length := by rw [← O.len]; exact (List.getElem?_eq_some_iff.mp hi).1
  obtain ⟨d, h⟩ := O.at_ i p _ hi (List.getElem?_eq_getElem hx)
  exact ⟨_, h⟩
theorem Rep.foot (R : Rep A H q y b a) {c : Addr} (h : y.foot q c) : ∃ o, H c = some o := by
  rcases h with h | h | h | h | h | h | h | h | h
  · obtain ⟨d, e⟩ := R.pl; rw [h]; exact ⟨_, e⟩
  · rw [h]; exact ⟨_, R.ki.lst⟩
  · rw [h]; exact ⟨_, R.mo.lst⟩
  · rw [h]; exact ⟨_, R.pr.lst⟩
  · rw [h]; exact ⟨_, R.ty.lst⟩
  · exact R.ki.mem h
  · exact R.mo.mem h
  · exact R.pr.mem h
  · exact R.ty.mem h
theorem Rep.nofoot (R : Rep A H q y b a) {c : Addr} (h : H c = none) : ¬ y.foot q c := fun z => by
  obtain ⟨o, e⟩ := R.foot z
  rw [h] at e; cases e
theorem same_new {p : Addr} {o : HO} (h : H p = none) : Same H (upd H p o) := fun c u e => by
  rw [upd_ne (ne_of_none e h)]; exact e
/-- an answer laid behind the plant's last change -/
theorem Told.lay {r : Su67.Abs × Su67.Ans} {Q : VK} {y' : Lay} {p : Addr} {xs : List V} (k : Told A q y H b r Q) (R : Rep A H' q y' b r.1) (f : Frame q y H y' H') (hp : H' p = none) (h0 : H p = none) (e : xs = ansV r.2) : Q (.ref p) (upd H' p (.lst xs)) := by
  refine k _ y' p (R.same (same_new hp)) (f.trans (.of_same (same_new hp))) h0 (R.nofoot hp) (by rw [upd_same, e])
/-- .. where the plant is as it was -/
theorem Told.lay0 {r : Su67.Abs × Su67.Ans} {Q : VK} {p : Addr} {xs : List V} (k : Told A q y H b r Q) (R : Rep A H q y b a) (hp : H p = none) (e1 : r.1 = a) (e : xs = ansV r.2) : Q (.ref p) (upd H p (.lst xs)) :=
  k.lay (e1 ▸ R) (Frame.refl q y H) hp hp e
/-- .. the heap in between has more, the plant is as it was -/
theorem Told.lay1 {r : Su67.Abs × Su67.Ans} {Q : VK} {p : Addr} {xs : List V} (k : Told A q y H b r Q) (R : Rep A H q y b a) (s : Same H H') (hp : H' p = none) (e1 : r.1 = a) (e : xs = ansV r.2) : Q (.ref p) (upd H' p (.lst xs)) :=
  k.lay (e1 ▸ R.same s) (Frame.of_same s) hp (s.free hp) e
end
/-! ### a plant that is in order -/
structure Good (a : Su67.Abs) : Prop where
  nT : a.types.length ≤ 5
  nM : a.moulds.length ≤ 8
  nP : a.presses.length ≤ 5
  nG : a.tyres.length ≤ 60
  cure : ∀ t, t < a.types.length → 1 ≤ (a.type_ t).cure
  mt : ∀ m, m < a.moulds.length → (a.mould m).type_ < a.types.length
  pm : ∀ p, p < a.presses.length → (a.press p).mould ≤ a.moulds.length
  pb : ∀ p, p < a.presses.length → (a.press p).busy ≤ 2
  pl : ∀ p, p < a.presses.length → ((a.press p).left = 0 ↔ (a.press p).busy = 0)
  pt : ∀ p, p < a.presses.length → (a.press p).busy = 2 → (a.press p).tyre < a.tyres.length ∧ (a.press p).mould ≠ 0
  gt : ∀ g, g < a.tyres.length → (a.tyre g).type_ < a.types.length
  gh : ∀ g, g < a.tyres.length → (a.tyre g).how ≤ 3
end
section
open PySem PySem.Spec PyProof.Rows L2
theorem iteP {c A B : Prop} [Decidable c] (h : c) (a : A) : if c then A else B := by rw [if_pos h]; exact a
theorem iteN {c A B : Prop} [Decidable c] (h : ¬ c) (b : B) : if c then A else B := by rw [if_neg h]; exact b
/-- a block parted at its first statement -/
theorem seqG {t1 t2 : TS} {D : Ends} {σ σ' : L2.St} {H H' : Hp} (h2 : t2 D σ' H') (h1 : ∀ N : L2.St → Hp → Prop, N σ' H' → t1 { D with nx := N } σ H) : tSeq t1 t2 D σ H := h1 _ h2
theorem seqR {t1 t2 : TS} {D : Ends} {σ : L2.St} {H : Hp} (h1 : ∀ N : L2.St → Hp → Prop, t1 { D with nx := N } σ H) : tSeq t1 t2 D σ H := h1 _
end
section
open PySem PySem.Spec PyProof.Rows L2
section
variable {P : Program} {w : World} {K : PySem.W.Frag} {mg : Str → Option Value} {base : Heap} {A : Adr}
theorem cxK {CX : CXT} {N : List Str} {qual : Str} {sc : Scope} {f : Addr} {cd : Value} {A' : Around} {outer : List Env} {s : Shared} {H : Hp} {E : XK} : (cxOf CX P w K mg base N qual sc f cd A' outer s H E).K = K := rfl
def sp_Kind_init (K : PySem.W.Frag) (A : Adr) : Sp := fun vs H Q _ => ∃ (p dx : Addr) (x : Su67.Type_), vs = [.ref p, .int (x.cure : Nat), .int (x.age : Nat)] ∧ H p = some (.ins A.c_Kind dx []) ∧ Q .non (upd H p (.ins A.c_Kind dx (kiF x)))
theorem ok_Kind_init (T : Txt K mg A) : FnOk P w K mg base CX0 1 A.f_Kind_init A.d_Kind_init ["self", "cure", "wait"] (sp_Kind_init K A) := by
  refine T.F_Kind_init.ok sc_Kind_init (fun vs H Q E h => ?_) (fun cdv A' outer s H vs Q E hr h => ?_)
  · obtain ⟨p, dx, x, rfl, _⟩ := h
    rfl
  · obtain ⟨p, dx, x, rfl, hp, k⟩ := h
    refine ⟨_, (pss_cons (ps_fld (pv 0) (pv 1) rfl)
        (pss_one (ps_fld (pv 0) (pv 2) rfl))), ?_⟩
    simp only [tSeq, tNext, tDrop, tRet, tRetN, tIfS, tTest, tB, tAnd, tOr, tNot, tAndV, tOrV, tNotV, tIf, tAsg, gName, tVar, tC, tOp, tUn, rI0, rEq, rNe, scal, sFld, tFld, sFldAug, rAdd, rSub, tAug, ipI, tNil, tCons, tLst, tCB, rLenL, rIxF, tBM, rAppend, rExtend, rCat, tCall, tMeth, tMake, cxK, L2.start, List.map_cons, List.map_nil, List.cons_append, List.nil_append, List.append_nil, List.length_cons, List.length_nil, Nat.reduceAdd, Nat.reduceSub, List.replicate, List.getElem?_cons_zero, List.getElem?_cons_succ, List.set_cons_zero, List.set_cons_succ, Option.some.injEq, V.ref.injEq, V.int.injEq, V.bl.injEq, HO.ins.injEq, HO.lst.injEq, List.cons.injEq, exists_and_left, exists_and_right, exists_eq_left', exists_eq_left, and_assoc, upd_same, upd_upd, true_and, and_true, decide_eq_true_eq, exists_eq, exists_eq', exists_const, and_self, Bool.false_eq_true, if_true, if_false, ite_true, ite_false, Bool.not_eq_true', decide_eq_false_iff_not, Bool.not_true, Bool.not_false, reduceCtorEq, Nat.zero_lt_succ, hp, T.cl_Kind, T.n_Kind_cure, T.n_Kind_wait]
    exact ⟨Nat.le_of_ble_eq_true rfl, k⟩
def sp_Mould_init (K : PySem.W.Frag) (A : Adr) : Sp := fun vs H Q _ => ∃ (p dx : Addr) (t : Nat), vs = [.ref p, .int (t : Nat)] ∧ H p = some (.ins A.c_Mould dx []) ∧ Q .non (upd H p (.ins A.c_Mould dx (moF ⟨t, 0, 0⟩)))
theorem ok_Mould_init (T : Txt K mg A) : FnOk P w K mg base CX0 1 A.f_Mould_init A.d_Mould_init ["self", "kind"] (sp_Mould_init K A) := by
  refine T.F_Mould_init.ok sc_Mould_init (fun vs H Q E h => ?_) (fun cdv A' outer s H vs Q E hr h => ?_)
  · obtain ⟨p, dx, x, rfl, _⟩ := h
    rfl
  · obtain ⟨p, dx, x, rfl, hp, k⟩ := h
    refine ⟨_, (pss_cons (ps_fld (pv 0) (pv 1) rfl)
        (pss_cons (ps_fld (pv 0) pe_int rfl)
        (pss_one (ps_fld (pv 0) pe_non rfl)))), ?_⟩
    simp only [tSeq, tNext, tDrop, tRet, tRetN, tIfS, tTest, tB, tAnd, tOr, tNot, tAndV, tOrV, tNotV, tIf, tAsg, gName, tVar, tC, tOp, tUn, rI0, rEq, rNe, scal, sFld, tFld, sFldAug, rAdd, rSub, tAug, ipI, tNil, tCons, tLst, tCB, rLenL, rIxF, tBM, rAppend, rExtend, rCat, tCall, tMeth, tMake, cxK, L2.start, List.map_cons, List.map_nil, List.cons_append, List.nil_append, List.append_nil, List.length_cons, List.length_nil, Nat.reduceAdd, Nat.reduceSub, List.replicate, List.getElem?_cons_zero, List.getElem?_cons_succ, List.set_cons_zero, List.set_cons_succ, Option.some.injEq, V.ref.injEq, V.int.injEq, V.bl.injEq, HO.ins.injEq, HO.lst.injEq, List.cons.injEq, exists_and_left, exists_and_right, exists_eq_left', exists_eq_left, and_assoc, upd_same, upd_upd, true_and, and_true, decide_eq_true_eq, exists_eq, exists_eq', exists_const, and_self, Bool.false_eq_true, if_true, if_false, ite_true, ite_false, Bool.not_eq_true', decide_eq_false_iff_not, Bool.not_true, Bool.not_false, reduceCtorEq, Nat.zero_lt_succ, hp, T.cl_Mould, T.n_Mould_kind, T.n_Mould_cures, T.n_Mould_press]
    exact ⟨Nat.le_of_ble_eq_true rfl, Nat.le_of_ble_eq_true rfl, k⟩
def sp_Press_init (K : PySem.W.Frag) (A : Adr) : Sp := fun vs H Q _ => ∃ (p dx : Addr), vs = [.ref p] ∧ H p = some (.ins A.c_Press dx []) ∧ Q .non (upd H p (.ins A.c_Press dx (prF ⟨0, 0, 0, 0, 0, 0⟩)))
theorem ok_Press_init (T : Txt K mg A) : FnOk P w K mg base CX0 1 A.f_Press_init A.d_Press_init ["self"] (sp_Press_init K A) := by
  refine T.F_Press_init.ok sc_Press_init (fun vs H Q E h => ?_) (fun cdv A' outer s H vs Q E hr h => ?_)
  · obtain ⟨p, dx, rfl, _⟩ := h
    rfl
  · obtain ⟨p, dx, rfl, hp, k⟩ := h
    refine ⟨_, (pss_cons (ps_fld (pv 0) pe_non rfl)
        (pss_cons (ps_fld (pv 0) pe_int rfl)
        (pss_cons (ps_fld (pv 0) pe_int rfl)
        (pss_cons (ps_fld (pv 0) pe_int rfl)
        (pss_one (ps_fld (pv 0) pe_non rfl)))))), ?_⟩
    simp only [tSeq, tNext, tDrop, tRet, tRetN, tIfS, tTest, tB, tAnd, tOr, tNot, tAndV, tOrV, tNotV, tIf, tAsg, gName, tVar, tC, tOp, tUn, rI0, rEq, rNe, scal, sFld, tFld, sFldAug, rAdd, rSub, tAug, ipI, tNil, tCons, tLst, tCB, rLenL, rIxF, tBM, rAppend, rExtend, rCat, tCall, tMeth, tMake, cxK, L2.start, List.map_cons, List.map_nil, List.cons_append, List.nil_append, List.append_nil, List.length_cons, List.length_nil, Nat.reduceAdd, Nat.reduceSub, List.replicate, List.getElem?_cons_zero, List.getElem?_cons_succ, List.set_cons_zero, List.set_cons_succ, Option.some.injEq, V.ref.injEq, V.int.injEq, V.bl.injEq, HO.ins.injEq, HO.lst.injEq, List.cons.injEq, exists_and_left, exists_and_right, exists_eq_left', exists_eq_left, and_assoc, upd_same, upd_upd, true_and, and_true, decide_eq_true_eq, exists_eq, exists_eq', exists_const, and_self, Bool.false_eq_true, if_true, if_false, ite_true, ite_false, Bool.not_eq_true', decide_eq_false_iff_not, Bool.not_true, Bool.not_false, reduceCtorEq, Nat.zero_lt_succ, hp, T.cl_Press, T.n_Press_mould, T.n_Press_bladder, T.n_Press_cures, T.n_Press_left, T.n_Press_tyre]
    exact ⟨Nat.le_of_ble_eq_true rfl, Nat.le_of_ble_eq_true rfl, Nat.le_of_ble_eq_true rfl, Nat.le_of_ble_eq_true rfl, k⟩
def sp_Tyre_init (K : PySem.W.Frag) (A : Adr) : Sp := fun vs H Q _ => ∃ (p dx : Addr) (t c : Nat), vs = [.ref p, .int (t : Nat), .int (c : Nat)] ∧ H p = some (.ins A.c_Tyre dx []) ∧ Q .non (upd H p (.ins A.c_Tyre dx (tyF ⟨t, c, 0, 0, 0, 0, 0⟩)))
theorem ok_Tyre_init (T : Txt K mg A) : FnOk P w K mg base CX0 1 A.f_Tyre_init A.d_Tyre_init ["self", "kind", "came"] (sp_Tyre_init K A) := by
  refine T.F_Tyre_init.ok sc_Tyre_init (fun vs H Q E h => ?_) (fun cdv A' outer s H vs Q E hr h => ?_)
  · obtain ⟨p, dx, t, c, rfl, _⟩ := h
    rfl
  · obtain ⟨p, dx, t, c, rfl, hp, k⟩ := h
    refine ⟨_, (pss_cons (ps_fld (pv 0) (pv 1) rfl)
        (pss_cons (ps_fld (pv 0) (pv 2) rfl)
        (pss_cons (ps_fld (pv 0) (pe_gi rfl T.v_WAITS) rfl)
        (pss_cons (ps_fld (pv 0) pe_int rfl)
        (pss_cons (ps_fld (pv 0) pe_int rfl)
        (pss_cons (ps_fld (pv 0) pe_int rfl)
        (pss_one (ps_fld (pv 0) pe_int rfl)))))))), ?_⟩
    simp only [tSeq, tNext, tDrop, tRet, tRetN, tIfS, tTest, tB, tAnd, tOr, tNot, tAndV, tOrV, tNotV, tIf, tAsg, gName, tVar, tC, tOp, tUn, rI0, rEq, rNe, scal, sFld, tFld, sFldAug, rAdd, rSub, tAug, ipI, tNil, tCons, tLst, tCB, rLenL, rIxF, tBM, rAppend, rExtend, rCat, tCall, tMeth, tMake, cxK, L2.start, List.map_cons, List.map_nil, List.cons_append, List.nil_append, List.append_nil, List.length_cons, List.length_nil, Nat.reduceAdd, Nat.reduceSub, List.replicate, List.getElem?_cons_zero, List.getElem?_cons_succ, List.set_cons_zero, List.set_cons_succ, Option.some.injEq, V.ref.injEq, V.int.injEq, V.bl.injEq, HO.ins.injEq, HO.lst.injEq, List.cons.injEq, exists_and_left, exists_and_right, exists_eq_left', exists_eq_left, and_assoc, upd_same, upd_upd, true_and, and_true, decide_eq_true_eq, exists_eq, exists_eq', exists_const, and_self, Bool.false_eq_true, if_true, if_false, ite_true, ite_false, Bool.not_eq_true', decide_eq_false_iff_not, Bool.not_true, Bool.not_false, reduceCtorEq, Nat.zero_lt_succ, hp, T.cl_Tyre, T.n_Tyre_kind, T.n_Tyre_came, T.n_Tyre_stage, T.n_Tyre_press, T.n_Tyre_mould, T.n_Tyre_bladder, T.n_Tyre_cured]
    exact ⟨Nat.le_of_ble_eq_true rfl, Nat.le_of_ble_eq_true rfl, Nat.le_of_ble_eq_true rfl, Nat.le_of_ble_eq_true rfl, Nat.le_of_ble_eq_true rfl, Nat.le_of_ble_eq_true rfl, k⟩
end
end
section
open PySem PySem.Spec PyProof.Rows L2
section
variable {P : Program} {w : World} {K : PySem.W.Frag} {mg : Str → Option Value} {base : Heap} {A : Adr}
/-- the plant begins anew: b stays; all else of the heap stays -/
def Anew (A : Adr) (q : Addr) (H : Hp) (b : Bool) (a : Su67.Abs) (Q : VK) : Prop :=
  ∀ H' y, Rep A H' q y b a → (∀ c o, H c = some o → c ≠ q → H' c = some o) → (∀ c, y.foot q c → c = q ∨ H c = none) → Q .non H'
def sp_Plant_start_anew (K : PySem.W.Frag) (A : Adr) : Sp := fun vs H Q _ => ∃ (q dx : Addr) (fs : List (Str × V)) (c l d : Nat) (b : Bool), vs = [.ref q, .int (c : Nat), .int (l : Nat), .int (d : Nat)] ∧ H q = some (.ins A.c_Plant dx fs) ∧
  (fs = [(("begun" : Str), V.bl b)] ∨ ∃ a y, fs = plF b a y) ∧ Anew A q H b (Su67.new c l d) Q
theorem nil_objs {α : Type} {C : Addr} {F : α → List (Str × V)} {H : Hp} {l : Addr} (h : H l = some (.lst [])) : Objs C F H l [] ([] : List α) :=
  ⟨h, List.nodup_nil, rfl, fun j p x e _ => by simp at e⟩
theorem few_len {fs : List (Str × V)} (h : fs.length ≤ 30) (f : Str) (v : V) : (putF f v fs).length ≤ fs.length + 1 := by
  induction fs with
  | nil => exact Nat.le_refl _
  | cons p r ih =>
    unfold putF
    split
    · exact Nat.le_succ _
    · have := ih (by simp only [List.length_cons] at h; omega)
      simp only [List.length_cons]
      omega
theorem anew_core (T : Txt K mg A) {f : Addr} {cdv : Value} {A' : Around} {outer : List Env} {s : Shared} {H : Hp} {q dx : Addr} {fs : List (Str × V)} {c l d : Nat} {b : Bool} {Q : VK} {E : XK} {s0 : Shared}
   (hr : Room 0 (A'.deeper (envOfC "Plant.start_anew" (defScope s_Plant_start_anew) s.heap.objs.size A.f_Plant_start_anew cdv)))
   (hq : H q = some (.ins A.c_Plant dx fs)) (hf : fs.length ≤ 10) (hy : ∀ y : Lay, putF "tyres" (.ref y.lt) (putF "presses" (.ref y.lp) (putF "moulds" (.ref y.lm) (putF "kinds" (.ref y.lk) (putF "auto" (.int 0) (putF "minute" (.int 0) (putF "mould_cures" (.int (d : Nat)) (putF "bladder_cures" (.int (l : Nat)) (putF "change" (.int (c : Nat)) fs)))))))) = plF b (Su67.new c l d) y) (k : Anew A q H b (Su67.new c l d) Q) :
   ∃ t, PSs (cxOf CX0 P w K mg base ["self", "change", "bladder_cures", "mould_cures"] "Plant.start_anew" (defScope s_Plant_start_anew) A.f_Plant_start_anew cdv A' outer s H E).nox (defBody s_Plant_start_anew) t ∧ t { nx := fun _ H' => Q .non H', rt := Q } (L2.start ["self", "change", "bladder_cures", "mould_cures"] [.ref q, .int (c : Nat), .int (l : Nat), .int (d : Nat)]) H := by
  refine ⟨_, (pss_cons (ps_fld (pv 0) (pv 1) rfl)
        (pss_cons (ps_fld (pv 0) (pv 2) rfl)
        (pss_cons (ps_fld (pv 0) (pv 3) rfl)
        (pss_cons (ps_fld (pv 0) pe_int rfl)
        (pss_cons (ps_fld (pv 0) pe_int rfl)
        (pss_cons (ps_fld (pv 0) (pe_lst pa_nil) rfl)
        (pss_cons (ps_fld (pv 0) (pe_lst pa_nil) rfl)
        (pss_cons (ps_fld (pv 0) (pe_lst pa_nil) rfl)
        (pss_one (ps_fld (pv 0) (pe_lst pa_nil) rfl)))))))))), ?_⟩
  have pl : ∀ {fs : List (Str × V)} {n : Nat} {f : Str} {v : V}, fs.length ≤ n → n ≤ 20 → (putF f v fs).length ≤ n + 1 := fun {fs n f v} h hn => Nat.le_trans (few_len (by omega) f v) (by omega)
  have lt : ∀ {fs : List (Str × V)} {n : Nat}, fs.length ≤ n → n ≤ 20 → fs.length < 1000 := fun h hn => by omega
  simp only [tSeq, tNext, tDrop, tRet, tRetN, tIfS, tTest, tB, tAnd, tOr, tNot, tAndV, tOrV, tNotV, tIf, tAsg, gName, tVar, tC, tOp, tUn, rI0, rEq, rNe, scal, sFld, tFld, sFldAug, rAdd, rSub, tAug, ipI, tNil, tCons, tLst, tCB, rLenL, rIxF, tBM, rAppend, rExtend, rCat, tCall, tMeth, tMake, cxK, L2.start, List.map_cons, List.map_nil, List.cons_append, List.nil_append, List.append_nil, List.length_cons, List.length_nil, Nat.reduceAdd, Nat.reduceSub, List.replicate, List.getElem?_cons_zero, List.getElem?_cons_succ, List.set_cons_zero, List.set_cons_succ, Option.some.injEq, V.ref.injEq, V.int.injEq, V.bl.injEq, HO.ins.injEq, HO.lst.injEq, List.cons.injEq, exists_and_left, exists_and_right, exists_eq_left', exists_eq_left, and_assoc, upd_same, upd_upd, true_and, and_true, decide_eq_true_eq, exists_eq, exists_eq', exists_const, and_self, Bool.false_eq_true, if_true, if_false, ite_true, ite_false, Bool.not_eq_true', decide_eq_false_iff_not, Bool.not_true, Bool.not_false, reduceCtorEq, Nat.zero_lt_succ, hq, T.cl_Plant, T.n_Plant_change, T.n_Plant_bladder_cures, T.n_Plant_mould_cures, T.n_Plant_minute, T.n_Plant_auto, T.n_Plant_kinds, T.n_Plant_moulds, T.n_Plant_presses, T.n_Plant_tyres]
  have h1 := pl (f := "change") (v := .int (c : Nat)) hf (by decide)
  have h2 := pl (f := "bladder_cures") (v := .int (l : Nat)) h1 (by decide)
  have h3 := pl (f := "mould_cures") (v := .int (d : Nat)) h2 (by decide)
  have h4 := pl (f := "minute") (v := .int 0) h3 (by decide)
  have h5 := pl (f := "auto") (v := .int 0) h4 (by decide)
  refine ⟨lt hf (by decide), lt h1 (by decide), lt h2 (by decide), lt h3 (by decide), lt h4 (by decide), Nat.zero_le _, fun lk hk => ?_⟩
  generalize e5 : putF "auto" (.int 0) _ = f5 at hk h5 hy ⊢
  have nk : q ≠ lk := ne_of_none upd_same hk
  rw [upd_ne (Ne.symm nk)] at hk
  have h6 := pl (f := "kinds") (v := .ref lk) h5 (by decide)
  simp only [tSeq, tNext, tDrop, tRet, tRetN, tIfS, tTest, tB, tAnd, tOr, tNot, tAndV, tOrV, tNotV, tIf, tAsg, gName, tVar, tC, tOp, tUn, rI0, rEq, rNe, scal, sFld, tFld, sFldAug, rAdd, rSub, tAug, ipI, tNil, tCons, tLst, tCB, rLenL, rIxF, tBM, rAppend, rExtend, rCat, tCall, tMeth, tMake, cxK, L2.start, List.map_cons, List.map_nil, List.cons_append, List.nil_append, List.append_nil, List.length_cons, List.length_nil, Nat.reduceAdd, Nat.reduceSub, List.replicate, List.getElem?_cons_zero, List.getElem?_cons_succ, List.set_cons_zero, List.set_cons_succ, Option.some.injEq, V.ref.injEq, V.int.injEq, V.bl.injEq, HO.ins.injEq, HO.lst.injEq, List.cons.injEq, exists_and_left, exists_and_right, exists_eq_left', exists_eq_left, and_assoc, upd_same, upd_upd, true_and, and_true, decide_eq_true_eq, exists_eq, exists_eq', exists_const, and_self, Bool.false_eq_true, if_true, if_false, ite_true, ite_false, Bool.not_eq_true', decide_eq_false_iff_not, Bool.not_true, Bool.not_false, reduceCtorEq, Nat.zero_lt_succ, upd_ne nk, T.cl_Plant, T.n_Plant_kinds]
  refine ⟨lt h5 (by decide), Nat.zero_le _, fun lm hm => ?_⟩
  have nm : q ≠ lm := ne_of_none upd_same hm
  rw [upd_ne (Ne.symm nm)] at hm
  have nkm : lk ≠ lm := fun z => by subst z; rw [upd_same] at hm; cases hm
  rw [upd_ne (Ne.symm nkm), upd_ne (Ne.symm nm)] at hm
  have h7 := pl (f := "moulds") (v := .ref lm) h6 (by decide)
  simp only [tSeq, tNext, tDrop, tRet, tRetN, tIfS, tTest, tB, tAnd, tOr, tNot, tAndV, tOrV, tNotV, tIf, tAsg, gName, tVar, tC, tOp, tUn, rI0, rEq, rNe, scal, sFld, tFld, sFldAug, rAdd, rSub, tAug, ipI, tNil, tCons, tLst, tCB, rLenL, rIxF, tBM, rAppend, rExtend, rCat, tCall, tMeth, tMake, cxK, L2.start, List.map_cons, List.map_nil, List.cons_append, List.nil_append, List.append_nil, List.length_cons, List.length_nil, Nat.reduceAdd, Nat.reduceSub, List.replicate, List.getElem?_cons_zero, List.getElem?_cons_succ, List.set_cons_zero, List.set_cons_succ, Option.some.injEq, V.ref.injEq, V.int.injEq, V.bl.injEq, HO.ins.injEq, HO.lst.injEq, List.cons.injEq, exists_and_left, exists_and_right, exists_eq_left', exists_eq_left, and_assoc, upd_same, upd_upd, true_and, and_true, decide_eq_true_eq, exists_eq, exists_eq', exists_const, and_self, Bool.false_eq_true, if_true, if_false, ite_true, ite_false, Bool.not_eq_true', decide_eq_false_iff_not, Bool.not_true, Bool.not_false, reduceCtorEq, Nat.zero_lt_succ, upd_ne nm, upd_ne nk, T.cl_Plant, T.n_Plant_moulds]
  refine ⟨lt h6 (by decide), Nat.zero_le _, fun lp hp => ?_⟩
  have np : q ≠ lp := ne_of_none upd_same hp
  rw [upd_ne (Ne.symm np)] at hp
  have nmp : lm ≠ lp := fun z => by subst z; rw [upd_same] at hp; cases hp
  rw [upd_ne (Ne.symm nmp), upd_ne (Ne.symm np)] at hp
  have nkp : lk ≠ lp := fun z => by subst z; rw [upd_same] at hp; cases hp
  rw [upd_ne (Ne.symm nkp), upd_ne (Ne.symm np)] at hp
  have h8 := pl (f := "presses") (v := .ref lp) h7 (by decide)
  simp only [tSeq, tNext, tDrop, tRet, tRetN, tIfS, tTest, tB, tAnd, tOr, tNot, tAndV, tOrV, tNotV, tIf, tAsg, gName, tVar, tC, tOp, tUn, rI0, rEq, rNe, scal, sFld, tFld, sFldAug, rAdd, rSub, tAug, ipI, tNil, tCons, tLst, tCB, rLenL, rIxF, tBM, rAppend, rExtend, rCat, tCall, tMeth, tMake, cxK, L2.start, List.map_cons, List.map_nil, List.cons_append, List.nil_append, List.append_nil, List.length_cons, List.length_nil, Nat.reduceAdd, Nat.reduceSub, List.replicate, List.getElem?_cons_zero, List.getElem?_cons_succ, List.set_cons_zero, List.set_cons_succ, Option.some.injEq, V.ref.injEq, V.int.injEq, V.bl.injEq, HO.ins.injEq, HO.lst.injEq, List.cons.injEq, exists_and_left, exists_and_right, exists_eq_left', exists_eq_left, and_assoc, upd_same, upd_upd, true_and, and_true, decide_eq_true_eq, exists_eq, exists_eq', exists_const, and_self, Bool.false_eq_true, if_true, if_false, ite_true, ite_false, Bool.not_eq_true', decide_eq_false_iff_not, Bool.not_true, Bool.not_false, reduceCtorEq, Nat.zero_lt_succ, upd_ne np, upd_ne nm, upd_ne nk, T.cl_Plant, T.n_Plant_presses]
  refine ⟨lt h7 (by decide), Nat.zero_le _, fun lg hg => ?_⟩
  have ng : q ≠ lg := ne_of_none upd_same hg
  rw [upd_ne (Ne.symm ng)] at hg
  have npg : lp ≠ lg := fun z => by subst z; rw [upd_same] at hg; cases hg
  rw [upd_ne (Ne.symm npg), upd_ne (Ne.symm ng)] at hg
  have nmg : lm ≠ lg := fun z => by subst z; rw [upd_same] at hg; cases hg
  rw [upd_ne (Ne.symm nmg), upd_ne (Ne.symm ng)] at hg
  have nkg : lk ≠ lg := fun z => by subst z; rw [upd_same] at hg; cases hg
  rw [upd_ne (Ne.symm nkg), upd_ne (Ne.symm ng)] at hg
  simp only [tSeq, tNext, tDrop, tRet, tRetN, tIfS, tTest, tB, tAnd, tOr, tNot, tAndV, tOrV, tNotV, tIf, tAsg, gName, tVar, tC, tOp, tUn, rI0, rEq, rNe, scal, sFld, tFld, sFldAug, rAdd, rSub, tAug, ipI, tNil, tCons, tLst, tCB, rLenL, rIxF, tBM, rAppend, rExtend, rCat, tCall, tMeth, tMake, cxK, L2.start, List.map_cons, List.map_nil, List.cons_append, List.nil_append, List.append_nil, List.length_cons, List.length_nil, Nat.reduceAdd, Nat.reduceSub, List.replicate, List.getElem?_cons_zero, List.getElem?_cons_succ, List.set_cons_zero, List.set_cons_succ, Option.some.injEq, V.ref.injEq, V.int.injEq, V.bl.injEq, HO.ins.injEq, HO.lst.injEq, List.cons.injEq, exists_and_left, exists_and_right, exists_eq_left', exists_eq_left, and_assoc, upd_same, upd_upd, true_and, and_true, decide_eq_true_eq, exists_eq, exists_eq', exists_const, and_self, Bool.false_eq_true, if_true, if_false, ite_true, ite_false, Bool.not_eq_true', decide_eq_false_iff_not, Bool.not_true, Bool.not_false, reduceCtorEq, Nat.zero_lt_succ, upd_ne ng, upd_ne np, upd_ne nm, upd_ne nk, T.cl_Plant, T.n_Plant_tyres]
  refine ⟨lt h8 (by decide), ?_⟩
  refine k _ ⟨lk, lm, lp, lg, [], [], [], []⟩ ⟨⟨dx, ?_⟩, nil_objs ?_, nil_objs ?_, nil_objs ?_, nil_objs ?_, ⟨nkm, nkp, nkg, nmp, nmg, npg⟩⟩ (fun e o h hn => ?_) (fun e h => ?_)
  · rw [upd_same]; exact congrArg (fun z => some (HO.ins A.c_Plant dx z)) (hy ⟨lk, lm, lp, lg, [], [], [], []⟩)
  · show upd _ q _ lk = _
    simp only [upd_ne (Ne.symm nk), upd_ne nkg, upd_ne nkp, upd_ne nkm, upd_same]
  · show upd _ q _ lm = _
    simp only [upd_ne (Ne.symm nm), upd_ne nmg, upd_ne nmp, upd_same]
  · show upd _ q _ lp = _
    simp only [upd_ne (Ne.symm np), upd_ne npg, upd_same]
  · show upd _ q _ lg = _
    simp only [upd_ne (Ne.symm ng), upd_same]
  · simp only [upd_ne hn, upd_ne (ne_of_none h hg), upd_ne (ne_of_none h hp), upd_ne (ne_of_none h hm), upd_ne (ne_of_none h hk)]; exact h
  · rcases h with h | h | h | h | h | h | h | h | h
    · exact .inl h
    · rw [h]; exact .inr hk
    · rw [h]; exact .inr hm
    · rw [h]; exact .inr hp
    · rw [h]; exact .inr hg
    · exact absurd h (by simp)
    · exact absurd h (by simp)
    · exact absurd h (by simp)
    · exact absurd h (by simp)
theorem ok_Plant_start_anew (T : Txt K mg A) : FnOk P w K mg base CX0 1 A.f_Plant_start_anew A.d_Plant_start_anew ["self", "change", "bladder_cures", "mould_cures"] (sp_Plant_start_anew K A) := by
  refine T.F_Plant_start_anew.ok sc_Plant_start_anew (fun vs H Q E h => ?_) (fun cdv A' outer s H vs Q E hr h => ?_)
  · obtain ⟨q, dx, fs, c, l, d, b, rfl, _⟩ := h
    rfl
  · obtain ⟨q, dx, fs, c, l, d, b, rfl, hq, hf, k⟩ := h
    rcases hf with hf | ⟨a, y, hf⟩
    · subst hf
      exact anew_core T (f := q) (s0 := s) hr hq (Nat.le_of_ble_eq_true rfl) (fun y => rfl) k
    · subst hf
      exact anew_core T (f := q) (s0 := s) hr hq (Nat.le_of_ble_eq_true rfl) (fun y => rfl) k
def sp_Plant_init (K : PySem.W.Frag) (A : Adr) : Sp := fun vs H Q _ => ∃ (q dx : Addr), vs = [.ref q] ∧ H q = some (.ins A.c_Plant dx []) ∧ Anew A q H false (Su67.new 0 0 0) Q
theorem ok_Plant_init (T : Txt K mg A) : FnOk P w K mg base CX0 2 A.f_Plant_init A.d_Plant_init ["self"] (sp_Plant_init K A) := by
  refine T.F_Plant_init.ok sc_Plant_init (fun vs H Q E h => ?_) (fun cdv A' outer s H vs Q E hr h => ?_)
  · obtain ⟨q, dx, rfl, _⟩ := h
    rfl
  · obtain ⟨q, dx, rfl, hq, k⟩ := h
    refine ⟨_, (pss_cons (ps_fld (pv 0) pe_bl rfl)
        (pss_one (ps_expr (pe_meth (pv 0) T.cl_Plant T.me_Plant_start_anew (ok_Plant_start_anew T) (hr.mono (by decide)) T.b_Plant_start_anew .nil pass0 (pa_cons pe_int (pa_cons pe_int (pa_cons pe_int pa_nil))))))), ?_⟩
    simp only [tSeq, tNext, tDrop, tRet, tRetN, tIfS, tTest, tB, tAnd, tOr, tNot, tAndV, tOrV, tNotV, tIf, tAsg, gName, tVar, tC, tOp, tUn, rI0, rEq, rNe, scal, sFld, tFld, sFldAug, rAdd, rSub, tAug, ipI, tNil, tCons, tLst, tCB, rLenL, rIxF, tBM, rAppend, rExtend, rCat, tCall, tMeth, tMake, cxK, L2.start, List.map_cons, List.map_nil, List.cons_append, List.nil_append, List.append_nil, List.length_cons, List.length_nil, Nat.reduceAdd, Nat.reduceSub, List.replicate, List.getElem?_cons_zero, List.getElem?_cons_succ, List.set_cons_zero, List.set_cons_succ, Option.some.injEq, V.ref.injEq, V.int.injEq, V.bl.injEq, HO.ins.injEq, HO.lst.injEq, List.cons.injEq, exists_and_left, exists_and_right, exists_eq_left', exists_eq_left, and_assoc, upd_same, upd_upd, true_and, and_true, decide_eq_true_eq, exists_eq, exists_eq', exists_const, and_self, Bool.false_eq_true, if_true, if_false, ite_true, ite_false, Bool.not_eq_true', decide_eq_false_iff_not, Bool.not_true, Bool.not_false, reduceCtorEq, Nat.zero_lt_succ, hq, T.cl_Plant, T.n_Plant_begun]
    refine ⟨by decide, q, dx, _, 0, 0, 0, false, rfl, upd_same, .inl rfl, fun H' y R h1 h2 => ?_⟩
    exact k H' y R (fun c o h hn => h1 c o (by rw [upd_ne hn]; exact h) hn) fun c h => (h2 c h).imp id fun z => by
      by_cases e : c = q
      · subst e; rw [upd_same] at z; cases z
      · rw [upd_ne e] at z; exact z
end
end
section
open PySem PySem.Spec PyProof.Rows L2
theorem lk_Kind_cure (x : Su67.Type_) : (kiF x).lookup ("cure" : Str) = some (V.int (x.cure : Nat)) := rfl
theorem lk_Kind_wait (x : Su67.Type_) : (kiF x).lookup ("wait" : Str) = some (V.int (x.age : Nat)) := rfl
theorem ln_Kind (x : Su67.Type_) : (kiF x).length = 2 := rfl
theorem lk_Mould_kind (x : Su67.Mould) : (moF x).lookup ("kind" : Str) = some (V.int (x.type_ : Nat)) := rfl
theorem lk_Mould_cures (x : Su67.Mould) : (moF x).lookup ("cures" : Str) = some (V.int (x.used : Nat)) := rfl
theorem lk_Mould_press (x : Su67.Mould) : (moF x).lookup ("press" : Str) = some (opt x.in_) := rfl
theorem ln_Mould (x : Su67.Mould) : (moF x).length = 3 := rfl
theorem lk_Press_mould (x : Su67.Press) : (prF x).lookup ("mould" : Str) = some (opt x.mould) := rfl
theorem lk_Press_bladder (x : Su67.Press) : (prF x).lookup ("bladder" : Str) = some (V.int (x.bladder : Nat)) := rfl
theorem lk_Press_cures (x : Su67.Press) : (prF x).lookup ("cures" : Str) = some (V.int (x.worn : Nat)) := rfl
theorem lk_Press_left (x : Su67.Press) : (prF x).lookup ("left" : Str) = some (V.int (x.left : Nat)) := rfl
theorem lk_Press_tyre (x : Su67.Press) : (prF x).lookup ("tyre" : Str) = some (if x.busy = 2 then V.int (x.tyre : Nat) else V.non) := rfl
theorem ln_Press (x : Su67.Press) : (prF x).length = 5 := rfl
theorem lk_Tyre_kind (x : Su67.Tyre) : (tyF x).lookup ("kind" : Str) = some (V.int (x.type_ : Nat)) := rfl
theorem lk_Tyre_came (x : Su67.Tyre) : (tyF x).lookup ("came" : Str) = some (V.int (x.came : Nat)) := rfl
theorem lk_Tyre_stage (x : Su67.Tyre) : (tyF x).lookup ("stage" : Str) = some (V.int (x.how : Nat)) := rfl
theorem lk_Tyre_press (x : Su67.Tyre) : (tyF x).lookup ("press" : Str) = some (V.int (x.press : Nat)) := rfl
theorem lk_Tyre_mould (x : Su67.Tyre) : (tyF x).lookup ("mould" : Str) = some (V.int (x.mould : Nat)) := rfl
theorem lk_Tyre_bladder (x : Su67.Tyre) : (tyF x).lookup ("bladder" : Str) = some (V.int (x.bladder : Nat)) := rfl
theorem lk_Tyre_cured (x : Su67.Tyre) : (tyF x).lookup ("cured" : Str) = some (V.int (x.at_ : Nat)) := rfl
theorem ln_Tyre (x : Su67.Tyre) : (tyF x).length = 7 := rfl
theorem lk_Plant_begun (b : Bool) (a : Su67.Abs) (y : Lay) : (plF b a y).lookup ("begun" : Str) = some (V.bl b) := rfl
theorem lk_Plant_change (b : Bool) (a : Su67.Abs) (y : Lay) : (plF b a y).lookup ("change" : Str) = some (V.int (a.change : Nat)) := rfl
theorem lk_Plant_bladder_cures (b : Bool) (a : Su67.Abs) (y : Lay) : (plF b a y).lookup ("bladder_cures" : Str) = some (V.int (a.life : Nat)) := rfl
theorem lk_Plant_mould_cures (b : Bool) (a : Su67.Abs) (y : Lay) : (plF b a y).lookup ("mould_cures" : Str) = some (V.int (a.dirty : Nat)) := rfl
theorem lk_Plant_minute (b : Bool) (a : Su67.Abs) (y : Lay) : (plF b a y).lookup ("minute" : Str) = some (V.int (a.now_ : Nat)) := rfl
theorem lk_Plant_auto (b : Bool) (a : Su67.Abs) (y : Lay) : (plF b a y).lookup ("auto" : Str) = some (V.int (Su67.bit a.auto_ : Nat)) := rfl
theorem lk_Plant_kinds (b : Bool) (a : Su67.Abs) (y : Lay) : (plF b a y).lookup ("kinds" : Str) = some (V.ref y.lk) := rfl
theorem lk_Plant_moulds (b : Bool) (a : Su67.Abs) (y : Lay) : (plF b a y).lookup ("moulds" : Str) = some (V.ref y.lm) := rfl
theorem lk_Plant_presses (b : Bool) (a : Su67.Abs) (y : Lay) : (plF b a y).lookup ("presses" : Str) = some (V.ref y.lp) := rfl
theorem lk_Plant_tyres (b : Bool) (a : Su67.Abs) (y : Lay) : (plF b a y).lookup ("tyres" : Str) = some (V.ref y.lt) := rfl
theorem ln_Plant (b : Bool) (a : Su67.Abs) (y : Lay) : (plF b a y).length = 10 := rfl
theorem lkAll : (∀ (x : Su67.Type_), (kiF x).lookup ("cure" : Str) = some (V.int (x.cure : Nat))) ∧ (∀ (x : Su67.Type_), (kiF x).lookup ("wait" : Str) = some (V.int (x.age : Nat))) ∧ (∀ (x : Su67.Type_), (kiF x).length = 2) ∧ (∀ (x : Su67.Mould), (moF x).lookup ("kind" : Str) = some (V.int (x.type_ : Nat))) ∧ (∀ (x : Su67.Mould), (moF x).lookup ("cures" : Str) = some (V.int (x.used : Nat))) ∧ (∀ (x : Su67.Mould), (moF x).lookup ("press" : Str) = some (opt x.in_)) ∧ (∀ (x : Su67.Mould), (moF x).length = 3) ∧ (∀ (x : Su67.Press), (prF x).lookup ("mould" : Str) = some (opt x.mould)) ∧ (∀ (x : Su67.Press), (prF x).lookup ("bladder" : Str) = some (V.int (x.bladder : Nat))) ∧ (∀ (x : Su67.Press), (prF x).lookup ("cures" : Str) = some (V.int (x.worn : Nat))) ∧ (∀ (x : Su67.Press), (prF x).lookup ("left" : Str) = some (V.int (x.left : Nat))) ∧ (∀ (x : Su67.Press), (prF x).lookup ("tyre" : Str) = some (if x.busy = 2 then V.int (x.tyre : Nat) else V.non)) ∧ (∀ (x : Su67.Press), (prF x).length = 5) ∧ (∀ (x : Su67.Tyre), (tyF x).lookup ("kind" : Str) = some (V.int (x.type_ : Nat))) ∧ (∀ (x : Su67.Tyre), (tyF x).lookup ("came" : Str) = some (V.int (x.came : Nat))) ∧ (∀ (x : Su67.Tyre), (tyF x).lookup ("stage" : Str) = some (V.int (x.how : Nat))) ∧ (∀ (x : Su67.Tyre), (tyF x).lookup ("press" : Str) = some (V.int (x.press : Nat))) ∧ (∀ (x : Su67.Tyre), (tyF x).lookup ("mould" : Str) = some (V.int (x.mould : Nat))) ∧ (∀ (x : Su67.Tyre), (tyF x).lookup ("bladder" : Str) = some (V.int (x.bladder : Nat))) ∧ (∀ (x : Su67.Tyre), (tyF x).lookup ("cured" : Str) = some (V.int (x.at_ : Nat))) ∧ (∀ (x : Su67.Tyre), (tyF x).length = 7) ∧ (∀ (b : Bool) (a : Su67.Abs) (y : Lay), (plF b a y).lookup ("begun" : Str) = some (V.bl b)) ∧ (∀ (b : Bool) (a : Su67.Abs) (y : Lay), (plF b a y).lookup ("change" : Str) = some (V.int (a.change : Nat))) ∧ (∀ (b : Bool) (a : Su67.Abs) (y : Lay), (plF b a y).lookup ("bladder_cures" : Str) = some (V.int (a.life : Nat))) ∧ (∀ (b : Bool) (a : Su67.Abs) (y : Lay), (plF b a y).lookup ("mould_cures" : Str) = some (V.int (a.dirty : Nat))) ∧ (∀ (b : Bool) (a : Su67.Abs) (y : Lay), (plF b a y).lookup ("minute" : Str) = some (V.int (a.now_ : Nat))) ∧ (∀ (b : Bool) (a : Su67.Abs) (y : Lay), (plF b a y).lookup ("auto" : Str) = some (V.int (Su67.bit a.auto_ : Nat))) ∧ (∀ (b : Bool) (a : Su67.Abs) (y : Lay), (plF b a y).lookup ("kinds" : Str) = some (V.ref y.lk)) ∧ (∀ (b : Bool) (a : Su67.Abs) (y : Lay), (plF b a y).lookup ("moulds" : Str) = some (V.ref y.lm)) ∧ (∀ (b : Bool) (a : Su67.Abs) (y : Lay), (plF b a y).lookup ("presses" : Str) = some (V.ref y.lp)) ∧ (∀ (b : Bool) (a : Su67.Abs) (y : Lay), (plF b a y).lookup ("tyres" : Str) = some (V.ref y.lt)) ∧ (∀ (b : Bool) (a : Su67.Abs) (y : Lay), (plF b a y).length = 10) :=
  ⟨lk_Kind_cure, lk_Kind_wait, ln_Kind, lk_Mould_kind, lk_Mould_cures, lk_Mould_press, ln_Mould, lk_Press_mould, lk_Press_bladder, lk_Press_cures, lk_Press_left, lk_Press_tyre, ln_Press, lk_Tyre_kind, lk_Tyre_came, lk_Tyre_stage, lk_Tyre_press, lk_Tyre_mould, lk_Tyre_bladder, lk_Tyre_cured, ln_Tyre, lk_Plant_begun, lk_Plant_change, lk_Plant_bladder_cures, lk_Plant_mould_cures, lk_Plant_minute, lk_Plant_auto, lk_Plant_kinds, lk_Plant_moulds, lk_Plant_presses, lk_Plant_tyres, ln_Plant⟩
end
local macro_rules | `(tactic| simp! only [$ts,*]) => `(tactic| simp only [L2.tSeq, L2.tNext, L2.tDrop, L2.tRet, L2.tRetN, L2.tIfS, L2.tTest, L2.tB, L2.tAnd, L2.tOr, L2.tNot, L2.tAndV, L2.tOrV, L2.tNotV, L2.tIf, L2.tAsg, L2.gName, L2.tVar, L2.tC, L2.tOp, L2.tUn, L2.rI0, L2.rEq, L2.rNe, L2.scal, L2.sFld, L2.tFld, L2.sFldAug, L2.rAdd, L2.rSub, L2.tAug, L2.ipI, L2.tNil, L2.tCons, L2.tLst, L2.tCB, Ty.rLenL, Ty.rIxF, L2.tBM, L2.rAppend, L2.rExtend, L2.rCat, L2.tCall, L2.tMeth, L2.tMake, Ty.cxK, L2.start, List.map_cons, List.map_nil, List.cons_append, List.nil_append, List.append_nil, List.length_cons, List.length_nil, Nat.reduceAdd, Nat.reduceSub, List.replicate, List.getElem?_cons_zero, List.getElem?_cons_succ, List.set_cons_zero, List.set_cons_succ, Option.some.injEq, L2.V.ref.injEq, L2.V.int.injEq, L2.V.bl.injEq, L2.HO.ins.injEq, L2.HO.lst.injEq, List.cons.injEq, exists_and_left, exists_and_right, exists_eq_left', exists_eq_left, and_assoc, L2.upd_same, L2.upd_upd, true_and, and_true, decide_eq_true_eq, exists_eq, exists_eq', exists_const, and_self, Bool.false_eq_true, if_true, if_false, ite_true, ite_false, Bool.not_eq_true', decide_eq_false_iff_not, Bool.not_true, Bool.not_false, reduceCtorEq, Nat.zero_lt_succ, Ty.lkAll, Nat.reduceLT, Ty.isL, Ty.tyV_l, $ts,*])
section
open PySem PySem.Spec PyProof.Rows L2
section
variable {P : Program} {w : World} {K : PySem.W.Frag} {mg : Str → Option Value} {base : Heap} {A : Adr}
theorem size1 : 1 ≤ sizeLine := by decide
def sp_begin (K : PySem.W.Frag) (A : Adr) : Sp := fun vs H Q _ => ∃ (q : Addr) (y : Lay) (b : Bool) (a : Su67.Abs) (c l d : Nat), vs = [.ref q, .int (c : Nat), .int (l : Nat), .int (d : Nat)] ∧ Rep A H q y b a ∧
  if 500 < c ∨ l = 0 ∨ 1000 < l ∨ d = 0 ∨ 1000 < d then Told A q y H b (a, Su67.no (-22)) Q else Told A q y H true (Su67.new c l d, Su67.no 0) Q
theorem ok_begin (T : Txt K mg A) : FnOk P w K mg base CX0 2 A.f_begin A.d_begin ["plant", "change", "bladder_cures", "mould_cures"] (sp_begin K A) := by
  refine T.F_begin.ok sc_begin (fun vs H Q E h => ?_) (fun cdv A' outer s H vs Q E hr h => ?_)
  · obtain ⟨q, y, b, a, c, l, d, rfl, _⟩ := h
    rfl
  · obtain ⟨q, y, b, a, c, l, d, rfl, R, k⟩ := h
    obtain ⟨dx, hq⟩ := id R.pl
    refine ⟨_, (pss_cons (ps_if (pt_cmpR op_gt (pv 1) (pe_gi rfl T.v_MOST_CHANGE) (nomark _)) (pss_one (ps_ret (pe_lst (pa_cons (pe_gi rfl T.v_OUT_OF_RANGE) pa_nil)))) pss_nil)
        (pss_cons (ps_if (PW.pt (pw_or (pt_cmpR op_lt (pv 2) pe_int (nomark _)) (pw_or1 (pt_cmpR op_gt (pv 2) (pe_gi rfl T.v_MOST_CURES) (nomark _))))) (pss_one (ps_ret (pe_lst (pa_cons (pe_gi rfl T.v_OUT_OF_RANGE) pa_nil)))) pss_nil)
        (pss_cons (ps_if (PW.pt (pw_or (pt_cmpR op_lt (pv 3) pe_int (nomark _)) (pw_or1 (pt_cmpR op_gt (pv 3) (pe_gi rfl T.v_MOST_CURES) (nomark _))))) (pss_one (ps_ret (pe_lst (pa_cons (pe_gi rfl T.v_OUT_OF_RANGE) pa_nil)))) pss_nil)
        (pss_cons (ps_expr (pe_meth (pv 0) T.cl_Plant T.me_Plant_start_anew (ok_Plant_start_anew T) (hr.mono (by decide)) T.b_Plant_start_anew .nil pass0 (pa_cons (pv 1) (pa_cons (pv 2) (pa_cons (pv 3) pa_nil)))))
        (pss_cons (ps_fld (pv 0) pe_bl rfl)
        (pss_one (ps_ret (pe_lst (pa_cons pe_int pa_nil))))))))), ?_⟩
    simp! only [T.all, hq]
    by_cases hc : 500 < c ∨ l = 0 ∨ 1000 < l ∨ d = 0 ∨ 1000 < d
    · rw [if_pos hc] at k
      have z : 1 ≤ sizeLine ∧ ∀ (p : Addr), H p = none → Q (V.ref p) (upd H p (HO.lst [V.int (-22)])) := ⟨size1, fun p hp => k.lay0 R hp rfl rfl⟩
      repeat' (refine ite2 (fun _ => z) (fun _ => ?_))
      omega
    · rw [if_neg hc] at k
      rw [if_neg (by omega), if_neg (by omega), if_neg (by omega), if_neg (by omega), if_neg (by omega)]
      refine ⟨rfl, q, dx, _, c, l, d, b, rfl, hq, .inr ⟨a, y, rfl⟩, fun H1 y1 R1 h1 h2 => ?_⟩
      obtain ⟨dy, hq1⟩ := id R1.pl
      simp! only [T.all, hq1]
      refine ⟨size1, fun p hp => ?_⟩
      obtain ⟨R2, f2⟩ := R1.setA (b' := true) (a' := Su67.new c l d) (dx := dy) (fs := putF "begun" (.bl true) (plF b (Su67.new c l d) y1)) T rfl rfl rfl rfl rfl
      have f1 : Frame q y H y1 H1 := ⟨fun e o h hn => h1 e o h fun z => hn (.inl z), fun e h => (h2 e h).imp (fun z => .inl z) id⟩
      have f := f1.trans f2
      refine k.lay R2 f hp ?_ rfl
      cases e : H p with
      | none => rfl
      | some o =>
        by_cases z : p = q
        · subst z; rw [upd_same] at hp; cases hp
        · rw [upd_ne z, h1 p o e z] at hp; cases hp
/-- the plant's list grows by one -/
theorem free_of {q : Addr} {y y' : Lay} {H H' : Hp} (f : Frame q y H y' H') {b : Bool} {a : Su67.Abs} (R : Rep A H' q y' b a) (sub : ∀ c, y.foot q c → y'.foot q c) {p : Addr} (hp : H' p = none) : H p = none := by
  cases e : H p with
  | none => rfl
  | some o =>
    by_cases z : y.foot q p
    · obtain ⟨u, hu⟩ := R.foot (sub p z)
      rw [hp] at hu; cases hu
    · rw [f.keep p o e z] at hp; cases hp
theorem size60 {n : Nat} (h : n ≤ 60) : n < sizeLine := Nat.lt_of_le_of_lt h (by decide)
theorem upd_comm {H : Hp} {c d : Addr} {o u : HO} (h : c ≠ d) : upd (upd H c o) d u = upd (upd H d u) c o := by
  funext e
  unfold upd
  by_cases h1 : e = c
  · subst h1
    rw [if_neg h, if_pos rfl]
    all_goals simp
  · by_cases h2 : e = d
    · subst h2
      simp [h1]
    · simp [h1, h2]
section
variable {H : Hp} {q : Addr} {y : Lay} {b : Bool} {a : Su67.Abs}
/-- what a new object and its append leave of the objects of another list -/
theorem Objs.grown {α : Type} {C : Addr} {F : α → List (Str × V)} {l : Addr} {as : List Addr} {xs : List α} (O : Objs C F H l as xs) {H' : Hp} {l' : Addr} {ys : List V} (hl' : H l' = some (.lst ys)) (hn : l ≠ l') (k : ∀ c o, H c = some o → c ≠ l' → H' c = some o) : Objs C F H' l as xs :=
  ⟨k _ _ O.lst hn, O.nd, O.len, fun j p x e1 e2 => let ⟨dx, h⟩ := O.at_ j p x e1 e2; ⟨dx, k _ _ h (ne_of h hl' (by intro z; cases z))⟩⟩
theorem Rep.addK (R : Rep A H q y b a) {x : Su67.Type_} {p dp : Addr} {H' : Hp} (hp : H p = none) (h1 : H' p = some (.ins A.c_Kind dp (kiF x))) (hl : H' y.lk = some (.lst (y.ak.map V.ref ++ [V.ref p]))) (k : ∀ c o, H c = some o → c ≠ y.lk → H' c = some o) :
    Rep A H' q { y with ak := y.ak ++ [p] } b { a with types := a.types ++ [x] } ∧ Frame q y H { y with ak := y.ak ++ [p] } H' := by
  obtain ⟨dx, hq⟩ := R.pl
  refine ⟨⟨⟨dx, k _ _ hq (ne_of hq R.ki.lst (by intro z; cases z))⟩, R.ki.snoc h1 hp k hl, R.mo.grown R.ki.lst (Ne.symm R.nl.1) k, R.pr.grown R.ki.lst (Ne.symm R.nl.2.1) k, R.ty.grown R.ki.lst (Ne.symm R.nl.2.2.1) k, R.nl⟩, ⟨fun c o h n => k c o h fun z => n (.inr (.inl z)), fun c h => ?_⟩⟩
  rcases h with h | h | h | h | h | h | h
  · exact .inl (.inl h)
  · exact .inl (.inr (.inl h))
  · exact .inl (.inr (.inr (.inl h)))
  · exact .inl (.inr (.inr (.inr (.inl h))))
  · exact .inl (.inr (.inr (.inr (.inr (.inl h)))))
  · rcases List.mem_append.mp h with h | h
    · exact .inl (.inr (.inr (.inr (.inr (.inr (.inl h))))))
    · rw [List.mem_singleton.mp h]; exact .inr hp
  · exact .inl (.inr (.inr (.inr (.inr (.inr (.inr h))))))
theorem Rep.addM (R : Rep A H q y b a) {x : Su67.Mould} {p dp : Addr} {H' : Hp} (hp : H p = none) (h1 : H' p = some (.ins A.c_Mould dp (moF x))) (hl : H' y.lm = some (.lst (y.am.map V.ref ++ [V.ref p]))) (k : ∀ c o, H c = some o → c ≠ y.lm → H' c = some o) :
    Rep A H' q { y with am := y.am ++ [p] } b { a with moulds := a.moulds ++ [x] } ∧ Frame q y H { y with am := y.am ++ [p] } H' := by
  obtain ⟨dx, hq⟩ := R.pl
  refine ⟨⟨⟨dx, k _ _ hq (ne_of hq R.mo.lst (by intro z; cases z))⟩, R.ki.grown R.mo.lst R.nl.1 k, R.mo.snoc h1 hp k hl, R.pr.grown R.mo.lst (Ne.symm R.nl.2.2.2.1) k, R.ty.grown R.mo.lst (Ne.symm R.nl.2.2.2.2.1) k, R.nl⟩, ⟨fun c o h n => k c o h fun z => n (.inr (.inr (.inl z))), fun c h => ?_⟩⟩
  rcases h with h | h | h | h | h | h | h | h
  · exact .inl (.inl h)
  · exact .inl (.inr (.inl h))
  · exact .inl (.inr (.inr (.inl h)))
  · exact .inl (.inr (.inr (.inr (.inl h))))
  · exact .inl (.inr (.inr (.inr (.inr (.inl h)))))
  · exact .inl (.inr (.inr (.inr (.inr (.inr (.inl h))))))
  · rcases List.mem_append.mp h with h | h
    · exact .inl (.inr (.inr (.inr (.inr (.inr (.inr (.inl h)))))))
    · rw [List.mem_singleton.mp h]; exact .inr hp
  · exact .inl (.inr (.inr (.inr (.inr (.inr (.inr (.inr h)))))))
theorem Rep.addP (R : Rep A H q y b a) {x : Su67.Press} {p dp : Addr} {H' : Hp} (hp : H p = none) (h1 : H' p = some (.ins A.c_Press dp (prF x))) (hl : H' y.lp = some (.lst (y.ap.map V.ref ++ [V.ref p]))) (k : ∀ c o, H c = some o → c ≠ y.lp → H' c = some o) :
    Rep A H' q { y with ap := y.ap ++ [p] } b { a with presses := a.presses ++ [x] } ∧ Frame q y H { y with ap := y.ap ++ [p] } H' := by
  obtain ⟨dx, hq⟩ := R.pl
  refine ⟨⟨⟨dx, k _ _ hq (ne_of hq R.pr.lst (by intro z; cases z))⟩, R.ki.grown R.pr.lst R.nl.2.1 k, R.mo.grown R.pr.lst R.nl.2.2.2.1 k, R.pr.snoc h1 hp k hl, R.ty.grown R.pr.lst (Ne.symm R.nl.2.2.2.2.2) k, R.nl⟩, ⟨fun c o h n => k c o h fun z => n (.inr (.inr (.inr (.inl z)))), fun c h => ?_⟩⟩
  rcases h with h | h | h | h | h | h | h | h | h
  · exact .inl (.inl h)
  · exact .inl (.inr (.inl h))
  · exact .inl (.inr (.inr (.inl h)))
  · exact .inl (.inr (.inr (.inr (.inl h))))
  · exact .inl (.inr (.inr (.inr (.inr (.inl h)))))
  · exact .inl (.inr (.inr (.inr (.inr (.inr (.inl h))))))
  · exact .inl (.inr (.inr (.inr (.inr (.inr (.inr (.inl h)))))))
  · rcases List.mem_append.mp h with h | h
    · exact .inl (.inr (.inr (.inr (.inr (.inr (.inr (.inr (.inl h))))))))
    · rw [List.mem_singleton.mp h]; exact .inr hp
  · exact .inl (.inr (.inr (.inr (.inr (.inr (.inr (.inr (.inr h))))))))
theorem Rep.addG (R : Rep A H q y b a) {x : Su67.Tyre} {p dp : Addr} {H' : Hp} (hp : H p = none) (h1 : H' p = some (.ins A.c_Tyre dp (tyF x))) (hl : H' y.lt = some (.lst (y.ag.map V.ref ++ [V.ref p]))) (k : ∀ c o, H c = some o → c ≠ y.lt → H' c = some o) :
    Rep A H' q { y with ag := y.ag ++ [p] } b { a with tyres := a.tyres ++ [x] } ∧ Frame q y H { y with ag := y.ag ++ [p] } H' := by
  obtain ⟨dx, hq⟩ := R.pl
  refine ⟨⟨⟨dx, k _ _ hq (ne_of hq R.ty.lst (by intro z; cases z))⟩, R.ki.grown R.ty.lst R.nl.2.2.1 k, R.mo.grown R.ty.lst R.nl.2.2.2.2.1 k, R.pr.grown R.ty.lst R.nl.2.2.2.2.2 k, R.ty.snoc h1 hp k hl, R.nl⟩, ⟨fun c o h n => k c o h fun z => n (.inr (.inr (.inr (.inr (.inl z))))), fun c h => ?_⟩⟩
  rcases h with h | h | h | h | h | h | h | h | h
  · exact .inl (.inl h)
  · exact .inl (.inr (.inl h))
  · exact .inl (.inr (.inr (.inl h)))
  · exact .inl (.inr (.inr (.inr (.inl h))))
  · exact .inl (.inr (.inr (.inr (.inr (.inl h)))))
  · exact .inl (.inr (.inr (.inr (.inr (.inr (.inl h))))))
  · exact .inl (.inr (.inr (.inr (.inr (.inr (.inr (.inl h)))))))
  · exact .inl (.inr (.inr (.inr (.inr (.inr (.inr (.inr (.inl h))))))))
  · rcases List.mem_append.mp h with h | h
    · exact .inl (.inr (.inr (.inr (.inr (.inr (.inr (.inr (.inr h))))))))
    · rw [List.mem_singleton.mp h]; exact .inr hp
end
end
end
section
open PySem PySem.Spec PyProof.Rows L2
section
variable {P : Program} {w : World} {K : PySem.W.Frag} {mg : Str → Option Value} {base : Heap} {A : Adr}
def sp_add_kind (K : PySem.W.Frag) (A : Adr) : Sp := fun vs H Q _ => ∃ (q : Addr) (y : Lay) (a : Su67.Abs) (c g : Nat), vs = [.ref q, .int (c : Nat), .int (g : Nat)] ∧ Rep A H q y true a ∧ Good a ∧ Told A q y H true (Su67.does a (.type_ c g)) Q
theorem ok_add_kind (T : Txt K mg A) : FnOk P w K mg base CX0 3 A.f_add_kind A.d_add_kind ["plant", "cure", "wait"] (sp_add_kind K A) := by
  refine T.F_add_kind.ok sc_add_kind (fun vs H Q E h => ?_) (fun cdv A' outer s H vs Q E hr h => ?_)
  · obtain ⟨q, y, a, c, g, rfl, _⟩ := h
    rfl
  · obtain ⟨q, y, a, c, g, rfl, R, G, k⟩ := h
    obtain ⟨dx, hq⟩ := id R.pl
    have hl := R.ki.lst
    have hkl := R.ki.lst
    refine ⟨_, (pss_cons (ps_if (PW.pt (pw_or (pt_cmpR op_lt (pv 1) pe_int (nomark _)) (pw_or (pt_cmpR op_gt (pv 1) (pe_gi rfl T.v_MOST_CURE) (nomark _)) (pw_or1 (pt_cmpR op_gt (pv 2) (pe_gi rfl T.v_MOST_WAIT) (nomark _)))))) (pss_one (ps_ret (pe_lst (pa_cons (pe_gi rfl T.v_OUT_OF_RANGE) pa_nil)))) pss_nil)
        (pss_cons (ps_if (pt_cmpR op_eq (pe_callB call_lenL rfl T.u_len PySem.boot_len (pa_cons (pe_fld (pv 0) rfl) pa_nil)) (pe_gi rfl T.v_MOST_KINDS) (nomark _)) (pss_one (ps_ret (pe_lst (pa_cons (pe_gi rfl T.v_TOO_MANY) pa_nil)))) pss_nil)
        (pss_cons (ps_expr (pe_bm PySem.F.plainAttrs_list PySem.F.slot_list_append PySem.F.type_list_append mt_append (pe_fld (pv 0) rfl) (pa_cons (pe_make T.mk_Kind (ok_Kind_init T) (hr.mono (by decide)) rfl T.m_Kind T.b_Kind_init .nil pass0 (pa_cons (pv 1) (pa_cons (pv 2) pa_nil))) pa_nil)))
        (pss_one (ps_ret (pe_lst (pa_cons (pe_op op_sub (pe_callB call_lenL rfl T.u_len PySem.boot_len (pa_cons (pe_fld (pv 0) rfl) pa_nil)) pe_int) pa_nil))))))), ?_⟩
    simp! only [T.all, hq, hl, hkl, List.length_map, R.ki.len, R.ki.len]
    have hz : ∀ v : Int, (hk : Told A q y H true (a, Su67.no v) Q) → (1 ≤ sizeLine ∧ ∀ (p : Addr), H p = none → Q (V.ref p) (upd H p (HO.lst [V.int v]))) := fun v hk => ⟨size1, fun p hp => hk.lay0 R hp rfl rfl⟩
    by_cases h1 : c = 0 ∨ 500 < c ∨ 10000 < g
    · have hd : Su67.does a (.type_ c g) = (a, Su67.no (-22)) := by
        show (if c = 0 ∨ 500 < c ∨ 10000 < g then (a, Su67.no (-22)) else _) = _
        rw [if_pos h1]
      rw [hd] at k
      refine ite2 (fun _ => hz _ k) (fun _ => ite2 (fun _ => hz _ k) (fun _ => ite2 (fun _ => hz _ k) (fun _ => ?_)))
      omega
    rw [if_neg (by omega), if_neg (by omega), if_neg (by omega)]
    by_cases h2 : 5 ≤ a.types.length
    · have hd : Su67.does a (.type_ c g) = (a, Su67.no (-28)) := by
        show (if c = 0 ∨ 500 < c ∨ 10000 < g then (a, Su67.no (-22)) else if 5 ≤ a.types.length then (a, Su67.no (-28)) else _) = _
        rw [if_neg h1, if_pos h2]
      rw [hd] at k
      rw [if_pos (by have := G.nT; omega)]
      exact ⟨size1, fun p hp => k.lay0 R hp rfl rfl⟩
    · have hd : Su67.does a (.type_ c g) = ({ a with types := a.types ++ [⟨c, g⟩] }, Su67.num a.types.length []) := by
        show (if c = 0 ∨ 500 < c ∨ 10000 < g then (a, Su67.no (-22)) else if 5 ≤ a.types.length then (a, Su67.no (-28)) else _) = _
        rw [if_neg h1, if_neg h2]
      rw [hd] at k
      rw [if_neg (by omega)]
      intro x dp hx hdp hne
      refine ⟨x, dp, ⟨c, g⟩, rfl, upd_same, rfl, ?_⟩
      rw [upd_upd]
      have nlx : y.lk ≠ x := ne_of_none hl hx
      have nld : y.lk ≠ dp := ne_of_none hl hdp
      have nqx : q ≠ x := ne_of_none hq hx
      have nqd : q ≠ dp := ne_of_none hq hdp
      have nql : q ≠ y.lk := ne_of hq hl (by intro z; cases z)
      simp! only [T.all, upd_ne nlx, upd_ne nld, hl, upd_ne nql, upd_ne nqx, upd_ne nqd, hq]
      refine ⟨by rw [List.length_map, R.ki.len]; exact size60 (by omega), size1, fun p hp => ?_⟩
      have kp : ∀ e o, H e = some o → e ≠ y.lk → (upd (upd (upd H dp (.own x)) x (.ins A.c_Kind dp (kiF ⟨c, g⟩))) y.lk (.lst (y.ak.map V.ref ++ [V.ref x]))) e = some o := fun e o h n => by
        rw [upd_ne n, upd_ne (ne_of_none h hx), upd_ne (ne_of_none h hdp)]; exact h
      obtain ⟨R2, f2⟩ := R.addK (x := ⟨c, g⟩) (p := x) (dp := dp) hx (by rw [upd_ne (Ne.symm nlx), upd_same]) upd_same kp
      refine k.lay R2 f2 hp ?_ ?_
      · refine free_of f2 R2 (fun c h => ?_) hp
        rcases h with h | h | h | h | h | h | h | h | h
        · exact .inl h
        · exact .inr (.inl h)
        · exact .inr (.inr (.inl h))
        · exact .inr (.inr (.inr (.inl h)))
        · exact .inr (.inr (.inr (.inr (.inl h))))
        all_goals first
          | exact .inr (.inr (.inr (.inr (.inr (.inl h)))))
          | exact .inr (.inr (.inr (.inr (.inr (.inl (List.mem_append_left _ h))))))
          | exact .inr (.inr (.inr (.inr (.inr (.inr (.inl h))))))
          | exact .inr (.inr (.inr (.inr (.inr (.inr (.inl (List.mem_append_left _ h)))))))
          | exact .inr (.inr (.inr (.inr (.inr (.inr (.inr (.inl h)))))))
          | exact .inr (.inr (.inr (.inr (.inr (.inr (.inr (.inl (List.mem_append_left _ h))))))))
          | exact .inr (.inr (.inr (.inr (.inr (.inr (.inr (.inr h)))))))
          | exact .inr (.inr (.inr (.inr (.inr (.inr (.inr (.inr (List.mem_append_left _ h))))))))
      · rw [List.length_append, List.length_map, R.ki.len]
        show [V.int (((a.types.length + 1 : Nat) : Int) - 1)] = [V.int ((a.types.length : Nat) : Int)]
        rw [show ((a.types.length + 1 : Nat) : Int) - 1 = ((a.types.length : Nat) : Int) by omega]
def sp_add_mould (K : PySem.W.Frag) (A : Adr) : Sp := fun vs H Q _ => ∃ (q : Addr) (y : Lay) (a : Su67.Abs) (t : Nat), vs = [.ref q, .int (t : Nat)] ∧ Rep A H q y true a ∧ Good a ∧ Told A q y H true (Su67.does a (.mould t)) Q
theorem ok_add_mould (T : Txt K mg A) : FnOk P w K mg base CX0 3 A.f_add_mould A.d_add_mould ["plant", "t"] (sp_add_mould K A) := by
  refine T.F_add_mould.ok sc_add_mould (fun vs H Q E h => ?_) (fun cdv A' outer s H vs Q E hr h => ?_)
  · obtain ⟨q, y, a, t, rfl, _⟩ := h
    rfl
  · obtain ⟨q, y, a, t, rfl, R, G, k⟩ := h
    obtain ⟨dx, hq⟩ := id R.pl
    have hl := R.mo.lst
    have hkl := R.ki.lst
    refine ⟨_, (pss_cons (ps_if (pt_cmpR op_ge (pv 1) (pe_callB call_lenL rfl T.u_len PySem.boot_len (pa_cons (pe_fld (pv 0) rfl) pa_nil)) (nomark _)) (pss_one (ps_ret (pe_lst (pa_cons (pe_gi rfl T.v_NONE_SUCH) pa_nil)))) pss_nil)
        (pss_cons (ps_if (pt_cmpR op_eq (pe_callB call_lenL rfl T.u_len PySem.boot_len (pa_cons (pe_fld (pv 0) rfl) pa_nil)) (pe_gi rfl T.v_MOST_MOULDS) (nomark _)) (pss_one (ps_ret (pe_lst (pa_cons (pe_gi rfl T.v_TOO_MANY) pa_nil)))) pss_nil)
        (pss_cons (ps_expr (pe_bm PySem.F.plainAttrs_list PySem.F.slot_list_append PySem.F.type_list_append mt_append (pe_fld (pv 0) rfl) (pa_cons (pe_make T.mk_Mould (ok_Mould_init T) (hr.mono (by decide)) rfl T.m_Mould T.b_Mould_init .nil pass0 (pa_cons (pv 1) pa_nil)) pa_nil)))
        (pss_one (ps_ret (pe_lst (pa_cons (pe_op op_sub (pe_callB call_lenL rfl T.u_len PySem.boot_len (pa_cons (pe_fld (pv 0) rfl) pa_nil)) pe_int) pa_nil))))))), ?_⟩
    simp! only [T.all, hq, hl, hkl, List.length_map, R.mo.len, R.ki.len]
    have hz : ∀ v : Int, (hk : Told A q y H true (a, Su67.no v) Q) → (1 ≤ sizeLine ∧ ∀ (p : Addr), H p = none → Q (V.ref p) (upd H p (HO.lst [V.int v]))) := fun v hk => ⟨size1, fun p hp => hk.lay0 R hp rfl rfl⟩
    by_cases h1 : t < a.types.length
    rotate_left
    · have hd : Su67.does a (.mould t) = (a, Su67.no (-2)) := by
        show (if decide (t < a.types.length) = false then (a, Su67.no (-2)) else _) = _
        rw [if_pos (decide_eq_false h1)]
      rw [hd] at k
      rw [if_pos (by omega)]
      exact hz _ k
    rw [if_neg (by omega)]
    by_cases h2 : 8 ≤ a.moulds.length
    · have hd : Su67.does a (.mould t) = (a, Su67.no (-28)) := by
        show (if decide (t < a.types.length) = false then (a, Su67.no (-2)) else if 8 ≤ a.moulds.length then (a, Su67.no (-28)) else _) = _
        rw [if_neg (by rw [decide_eq_true h1]; exact Bool.noConfusion), if_pos h2]
      rw [hd] at k
      rw [if_pos (by have := G.nM; omega)]
      exact ⟨size1, fun p hp => k.lay0 R hp rfl rfl⟩
    · have hd : Su67.does a (.mould t) = ({ a with moulds := a.moulds ++ [⟨t, 0, 0⟩] }, Su67.num a.moulds.length []) := by
        show (if decide (t < a.types.length) = false then (a, Su67.no (-2)) else if 8 ≤ a.moulds.length then (a, Su67.no (-28)) else _) = _
        rw [if_neg (by rw [decide_eq_true h1]; exact Bool.noConfusion), if_neg h2]
      rw [hd] at k
      rw [if_neg (by omega)]
      intro x dp hx hdp hne
      refine ⟨x, dp, t, rfl, upd_same, rfl, ?_⟩
      rw [upd_upd]
      have nlx : y.lm ≠ x := ne_of_none hl hx
      have nld : y.lm ≠ dp := ne_of_none hl hdp
      have nqx : q ≠ x := ne_of_none hq hx
      have nqd : q ≠ dp := ne_of_none hq hdp
      have nql : q ≠ y.lm := ne_of hq hl (by intro z; cases z)
      simp! only [T.all, upd_ne nlx, upd_ne nld, hl, upd_ne nql, upd_ne nqx, upd_ne nqd, hq]
      refine ⟨by rw [List.length_map, R.mo.len]; exact size60 (by omega), size1, fun p hp => ?_⟩
      have kp : ∀ e o, H e = some o → e ≠ y.lm → (upd (upd (upd H dp (.own x)) x (.ins A.c_Mould dp (moF ⟨t, 0, 0⟩))) y.lm (.lst (y.am.map V.ref ++ [V.ref x]))) e = some o := fun e o h n => by
        rw [upd_ne n, upd_ne (ne_of_none h hx), upd_ne (ne_of_none h hdp)]; exact h
      obtain ⟨R2, f2⟩ := R.addM (x := ⟨t, 0, 0⟩) (p := x) (dp := dp) hx (by rw [upd_ne (Ne.symm nlx), upd_same]) upd_same kp
      refine k.lay R2 f2 hp ?_ ?_
      · refine free_of f2 R2 (fun c h => ?_) hp
        rcases h with h | h | h | h | h | h | h | h | h
        · exact .inl h
        · exact .inr (.inl h)
        · exact .inr (.inr (.inl h))
        · exact .inr (.inr (.inr (.inl h)))
        · exact .inr (.inr (.inr (.inr (.inl h))))
        all_goals first
          | exact .inr (.inr (.inr (.inr (.inr (.inl h)))))
          | exact .inr (.inr (.inr (.inr (.inr (.inl (List.mem_append_left _ h))))))
          | exact .inr (.inr (.inr (.inr (.inr (.inr (.inl h))))))
          | exact .inr (.inr (.inr (.inr (.inr (.inr (.inl (List.mem_append_left _ h)))))))
          | exact .inr (.inr (.inr (.inr (.inr (.inr (.inr (.inl h)))))))
          | exact .inr (.inr (.inr (.inr (.inr (.inr (.inr (.inl (List.mem_append_left _ h))))))))
          | exact .inr (.inr (.inr (.inr (.inr (.inr (.inr (.inr h)))))))
          | exact .inr (.inr (.inr (.inr (.inr (.inr (.inr (.inr (List.mem_append_left _ h))))))))
      · rw [List.length_append, List.length_map, R.mo.len]
        show [V.int (((a.moulds.length + 1 : Nat) : Int) - 1)] = [V.int ((a.moulds.length : Nat) : Int)]
        rw [show ((a.moulds.length + 1 : Nat) : Int) - 1 = ((a.moulds.length : Nat) : Int) by omega]
def sp_add_press (K : PySem.W.Frag) (A : Adr) : Sp := fun vs H Q _ => ∃ (q : Addr) (y : Lay) (a : Su67.Abs), vs = [.ref q] ∧ Rep A H q y true a ∧ Good a ∧ Told A q y H true (Su67.does a .press) Q
theorem ok_add_press (T : Txt K mg A) : FnOk P w K mg base CX0 3 A.f_add_press A.d_add_press ["plant"] (sp_add_press K A) := by
  refine T.F_add_press.ok sc_add_press (fun vs H Q E h => ?_) (fun cdv A' outer s H vs Q E hr h => ?_)
  · obtain ⟨q, y, a, rfl, _⟩ := h
    rfl
  · obtain ⟨q, y, a, rfl, R, G, k⟩ := h
    obtain ⟨dx, hq⟩ := id R.pl
    have hl := R.pr.lst
    have hkl := R.ki.lst
    refine ⟨_, (pss_cons (ps_if (pt_cmpR op_eq (pe_callB call_lenL rfl T.u_len PySem.boot_len (pa_cons (pe_fld (pv 0) rfl) pa_nil)) (pe_gi rfl T.v_MOST_PRESSES) (nomark _)) (pss_one (ps_ret (pe_lst (pa_cons (pe_gi rfl T.v_TOO_MANY) pa_nil)))) pss_nil)
        (pss_cons (ps_expr (pe_bm PySem.F.plainAttrs_list PySem.F.slot_list_append PySem.F.type_list_append mt_append (pe_fld (pv 0) rfl) (pa_cons (pe_make0 T.mk_Press (ok_Press_init T) (hr.mono (by decide)) rfl T.m_Press T.b_Press_init .nil pass0) pa_nil)))
        (pss_one (ps_ret (pe_lst (pa_cons (pe_op op_sub (pe_callB call_lenL rfl T.u_len PySem.boot_len (pa_cons (pe_fld (pv 0) rfl) pa_nil)) pe_int) pa_nil)))))), ?_⟩
    simp! only [T.all, hq, hl, hkl, List.length_map, R.pr.len, R.ki.len]
    by_cases h2 : 5 ≤ a.presses.length
    · have hd : Su67.does a .press = (a, Su67.no (-28)) := by
        show (if 5 ≤ a.presses.length then (a, Su67.no (-28)) else _) = _
        rw [if_pos h2]
      rw [hd] at k
      rw [if_pos (by have := G.nP; omega)]
      exact ⟨size1, fun p hp => k.lay0 R hp rfl rfl⟩
    · have hd : Su67.does a .press = ({ a with presses := a.presses ++ [⟨0, 0, 0, 0, 0, 0⟩] }, Su67.num a.presses.length []) := by
        show (if 5 ≤ a.presses.length then (a, Su67.no (-28)) else _) = _
        rw [if_neg h2]
      rw [hd] at k
      rw [if_neg (by omega)]
      intro x dp hx hdp hne
      refine ⟨x, dp, rfl, upd_same, rfl, ?_⟩
      rw [upd_upd]
      have nlx : y.lp ≠ x := ne_of_none hl hx
      have nld : y.lp ≠ dp := ne_of_none hl hdp
      have nqx : q ≠ x := ne_of_none hq hx
      have nqd : q ≠ dp := ne_of_none hq hdp
      have nql : q ≠ y.lp := ne_of hq hl (by intro z; cases z)
      simp! only [T.all, upd_ne nlx, upd_ne nld, hl, upd_ne nql, upd_ne nqx, upd_ne nqd, hq]
      refine ⟨by rw [List.length_map, R.pr.len]; exact size60 (by omega), size1, fun p hp => ?_⟩
      have kp : ∀ e o, H e = some o → e ≠ y.lp → (upd (upd (upd H dp (.own x)) x (.ins A.c_Press dp (prF ⟨0, 0, 0, 0, 0, 0⟩))) y.lp (.lst (y.ap.map V.ref ++ [V.ref x]))) e = some o := fun e o h n => by
        rw [upd_ne n, upd_ne (ne_of_none h hx), upd_ne (ne_of_none h hdp)]; exact h
      obtain ⟨R2, f2⟩ := R.addP (x := ⟨0, 0, 0, 0, 0, 0⟩) (p := x) (dp := dp) hx (by rw [upd_ne (Ne.symm nlx), upd_same]) upd_same kp
      refine k.lay R2 f2 hp ?_ ?_
      · refine free_of f2 R2 (fun c h => ?_) hp
        rcases h with h | h | h | h | h | h | h | h | h
        · exact .inl h
        · exact .inr (.inl h)
        · exact .inr (.inr (.inl h))
        · exact .inr (.inr (.inr (.inl h)))
        · exact .inr (.inr (.inr (.inr (.inl h))))
        all_goals first
          | exact .inr (.inr (.inr (.inr (.inr (.inl h)))))
          | exact .inr (.inr (.inr (.inr (.inr (.inl (List.mem_append_left _ h))))))
          | exact .inr (.inr (.inr (.inr (.inr (.inr (.inl h))))))
          | exact .inr (.inr (.inr (.inr (.inr (.inr (.inl (List.mem_append_left _ h)))))))
          | exact .inr (.inr (.inr (.inr (.inr (.inr (.inr (.inl h)))))))
          | exact .inr (.inr (.inr (.inr (.inr (.inr (.inr (.inl (List.mem_append_left _ h))))))))
          | exact .inr (.inr (.inr (.inr (.inr (.inr (.inr (.inr h)))))))
          | exact .inr (.inr (.inr (.inr (.inr (.inr (.inr (.inr (List.mem_append_left _ h))))))))
      · rw [List.length_append, List.length_map, R.pr.len]
        show [V.int (((a.presses.length + 1 : Nat) : Int) - 1)] = [V.int ((a.presses.length : Nat) : Int)]
        rw [show ((a.presses.length + 1 : Nat) : Int) - 1 = ((a.presses.length : Nat) : Int) by omega]
def sp_add_green (K : PySem.W.Frag) (A : Adr) : Sp := fun vs H Q _ => ∃ (q : Addr) (y : Lay) (a : Su67.Abs) (t : Nat), vs = [.ref q, .int (t : Nat)] ∧ Rep A H q y true a ∧ Good a ∧ Told A q y H true (Su67.does a (.green t)) Q
theorem ok_add_green (T : Txt K mg A) : FnOk P w K mg base CX0 3 A.f_add_green A.d_add_green ["plant", "t"] (sp_add_green K A) := by
  refine T.F_add_green.ok sc_add_green (fun vs H Q E h => ?_) (fun cdv A' outer s H vs Q E hr h => ?_)
  · obtain ⟨q, y, a, t, rfl, _⟩ := h
    rfl
  · obtain ⟨q, y, a, t, rfl, R, G, k⟩ := h
    obtain ⟨dx, hq⟩ := id R.pl
    have hl := R.ty.lst
    have hkl := R.ki.lst
    refine ⟨_, (pss_cons (ps_if (pt_cmpR op_ge (pv 1) (pe_callB call_lenL rfl T.u_len PySem.boot_len (pa_cons (pe_fld (pv 0) rfl) pa_nil)) (nomark _)) (pss_one (ps_ret (pe_lst (pa_cons (pe_gi rfl T.v_NONE_SUCH) pa_nil)))) pss_nil)
        (pss_cons (ps_if (pt_cmpR op_eq (pe_callB call_lenL rfl T.u_len PySem.boot_len (pa_cons (pe_fld (pv 0) rfl) pa_nil)) (pe_gi rfl T.v_MOST_TYRES) (nomark _)) (pss_one (ps_ret (pe_lst (pa_cons (pe_gi rfl T.v_TOO_MANY) pa_nil)))) pss_nil)
        (pss_cons (ps_expr (pe_bm PySem.F.plainAttrs_list PySem.F.slot_list_append PySem.F.type_list_append mt_append (pe_fld (pv 0) rfl) (pa_cons (pe_make T.mk_Tyre (ok_Tyre_init T) (hr.mono (by decide)) rfl T.m_Tyre T.b_Tyre_init .nil pass0 (pa_cons (pv 1) (pa_cons (pe_fld (pv 0) rfl) pa_nil))) pa_nil)))
        (pss_one (ps_ret (pe_lst (pa_cons (pe_op op_sub (pe_callB call_lenL rfl T.u_len PySem.boot_len (pa_cons (pe_fld (pv 0) rfl) pa_nil)) pe_int) pa_nil))))))), ?_⟩
    simp! only [T.all, hq, hl, hkl, List.length_map, R.ty.len, R.ki.len]
    have hz : ∀ v : Int, (hk : Told A q y H true (a, Su67.no v) Q) → (1 ≤ sizeLine ∧ ∀ (p : Addr), H p = none → Q (V.ref p) (upd H p (HO.lst [V.int v]))) := fun v hk => ⟨size1, fun p hp => hk.lay0 R hp rfl rfl⟩
    by_cases h1 : t < a.types.length
    rotate_left
    · have hd : Su67.does a (.green t) = (a, Su67.no (-2)) := by
        show (if decide (t < a.types.length) = false then (a, Su67.no (-2)) else _) = _
        rw [if_pos (decide_eq_false h1)]
      rw [hd] at k
      rw [if_pos (by omega)]
      exact hz _ k
    rw [if_neg (by omega)]
    by_cases h2 : 60 ≤ a.tyres.length
    · have hd : Su67.does a (.green t) = (a, Su67.no (-28)) := by
        show (if decide (t < a.types.length) = false then (a, Su67.no (-2)) else if 60 ≤ a.tyres.length then (a, Su67.no (-28)) else _) = _
        rw [if_neg (by rw [decide_eq_true h1]; exact Bool.noConfusion), if_pos h2]
      rw [hd] at k
      rw [if_pos (by have := G.nG; omega)]
      exact ⟨size1, fun p hp => k.lay0 R hp rfl rfl⟩
    · have hd : Su67.does a (.green t) = ({ a with tyres := a.tyres ++ [⟨t, a.now_, 0, 0, 0, 0, 0⟩] }, Su67.num a.tyres.length []) := by
        show (if decide (t < a.types.length) = false then (a, Su67.no (-2)) else if 60 ≤ a.tyres.length then (a, Su67.no (-28)) else _) = _
        rw [if_neg (by rw [decide_eq_true h1]; exact Bool.noConfusion), if_neg h2]
      rw [hd] at k
      rw [if_neg (by omega)]
      intro x dp hx hdp hne
      refine ⟨x, dp, t, a.now_, rfl, upd_same, rfl, ?_⟩
      rw [upd_upd]
      have nlx : y.lt ≠ x := ne_of_none hl hx
      have nld : y.lt ≠ dp := ne_of_none hl hdp
      have nqx : q ≠ x := ne_of_none hq hx
      have nqd : q ≠ dp := ne_of_none hq hdp
      have nql : q ≠ y.lt := ne_of hq hl (by intro z; cases z)
      simp! only [T.all, upd_ne nlx, upd_ne nld, hl, upd_ne nql, upd_ne nqx, upd_ne nqd, hq]
      refine ⟨by rw [List.length_map, R.ty.len]; exact size60 (by omega), size1, fun p hp => ?_⟩
      have kp : ∀ e o, H e = some o → e ≠ y.lt → (upd (upd (upd H dp (.own x)) x (.ins A.c_Tyre dp (tyF ⟨t, a.now_, 0, 0, 0, 0, 0⟩))) y.lt (.lst (y.ag.map V.ref ++ [V.ref x]))) e = some o := fun e o h n => by
        rw [upd_ne n, upd_ne (ne_of_none h hx), upd_ne (ne_of_none h hdp)]; exact h
      obtain ⟨R2, f2⟩ := R.addG (x := ⟨t, a.now_, 0, 0, 0, 0, 0⟩) (p := x) (dp := dp) hx (by rw [upd_ne (Ne.symm nlx), upd_same]) upd_same kp
      refine k.lay R2 f2 hp ?_ ?_
      · refine free_of f2 R2 (fun c h => ?_) hp
        rcases h with h | h | h | h | h | h | h | h | h
        · exact .inl h
        · exact .inr (.inl h)
        · exact .inr (.inr (.inl h))
        · exact .inr (.inr (.inr (.inl h)))
        · exact .inr (.inr (.inr (.inr (.inl h))))
        all_goals first
          | exact .inr (.inr (.inr (.inr (.inr (.inl h)))))
          | exact .inr (.inr (.inr (.inr (.inr (.inl (List.mem_append_left _ h))))))
          | exact .inr (.inr (.inr (.inr (.inr (.inr (.inl h))))))
          | exact .inr (.inr (.inr (.inr (.inr (.inr (.inl (List.mem_append_left _ h)))))))
          | exact .inr (.inr (.inr (.inr (.inr (.inr (.inr (.inl h)))))))
          | exact .inr (.inr (.inr (.inr (.inr (.inr (.inr (.inl (List.mem_append_left _ h))))))))
          | exact .inr (.inr (.inr (.inr (.inr (.inr (.inr (.inr h)))))))
          | exact .inr (.inr (.inr (.inr (.inr (.inr (.inr (.inr (List.mem_append_left _ h))))))))
      · rw [List.length_append, List.length_map, R.ty.len]
        show [V.int (((a.tyres.length + 1 : Nat) : Int) - 1)] = [V.int ((a.tyres.length : Nat) : Int)]
        rw [show ((a.tyres.length + 1 : Nat) : Int) - 1 = ((a.tyres.length : Nat) : Int) by omega]
end
end
section
open PySem PySem.Spec PyProof.Rows L2
theorem take_snoc {α : Type} : ∀ {l : List α} {i : Nat} {x : α}, l[i]? = some x → l.take (i + 1) = l.take i ++ [x]
  | [], i, x, h => by simp at h
  | a :: l, 0, x, h => by
    have e : a = x := Option.some.inj h
    subst e
    rfl
  | a :: l, i + 1, x, h => by
    have ih := take_snoc (l := l) (i := i) (x := x) h
    show a :: l.take (i + 1) = a :: l.take i ++ [x]
    rw [ih]
    rfl
section
variable {X : Cx} {K : PySem.W.Frag}
theorem pe_fldK {e : Expr} {f : Str} {pos : Pos} {ta : TE} (hK : X.K = K) (he : PE X e ta) (hb : attributeBase e f X.env (eval e X.env) = eval e X.env) : PE X (.Attribute e f pos) (tFld K ta f) := hK ▸ pe_fld he hb
theorem pg_tupK {es : List Expr} {k : Nat} {t : TGs} {n : Nat} {pos : Pos} (hK : X.K = K) (hc : X.calm = true) (h : PGs X es t)
    (hn : (assignEach es X.env).length = n := by rfl) (hst : (assignEach es X.env).findIdx? (·.1) = none := by rfl) : PG X (.Tuple es k pos) (gTup K n t) := hK ▸ pg_tup hc h hn hst
end
theorem filter_snoc {α : Type} (p : α → Bool) (l : List α) (x : α) : (l ++ [x]).filter p = if p x = true then l.filter p ++ [x] else l.filter p := by
  rw [List.filter_append, List.filter_cons, List.filter_nil]
  split <;> simp
/-- the turn of a comprehension that only reads: Nx what it is to reach -/
def LcTurn (tt : TT) (te : TE) (D : Addr) (vs : List Nat) (σ : L2.St) (Nx : Hp → Prop) : L2.St → Hp → Prop := fun σ2 H2 => wipe σ2 vs = wipe σ vs ∧ tt σ2 H2 fun b H3 =>
  if b = true then te σ2 H3 fun y H4 => ∃ acc, H4 D = some (.lst acc) ∧ acc.length < sizeLine ∧ Nx (upd H4 D (.lst (acc ++ [y]))) else Nx H3
section
variable {α : Type} {K : PySem.W.Frag} {a : Addr} {g : TG} {tt : TT} {te : TE} {vs : List Nat} {σ : L2.St} {H1 : Hp} {Q : VK}
theorem upd_same_of {H H' : Hp} {D : Addr} {o : HO} (s : Same H H') (h : H D = none) : Same H (upd H' D o) := fun b u e => by
  rw [upd_ne (ne_of_none e h)]; exact s b u e
/-- [e(x) for x in l if p(x)], l a list that holds f(z) of zs -/
theorem lcF_list {zs : List α} {f : α → V} (p : α → Bool) (e : α → V) (hl : SqL K H1 a (zs.map f)) (hz : zs.length < sizeLine)
    (hs : ∀ (D : Addr) (z : α) (H' : Hp) (acc : List V) (Nx : Hp → Prop), z ∈ zs → Same H1 H' → H1 D = none → H' D = some (.lst acc) → acc.length < sizeLine →
      (p z = false → ∀ H'', Same H' H'' → Nx H'') → (p z = true → ∀ H'', Same H' H'' → Nx (upd H'' D (.lst (acc ++ [e z])))) → g (f z) (wipe σ vs) H' (LcTurn tt te D vs σ Nx))
    (hd : ∀ D H', H1 D = none → Same H1 H' → H' D = some (.lst ((zs.filter p).map e)) → Q (.ref D) H') :
    ∀ D, H1 D = none → ∃ W : Nat → Nat → Hp → Prop, (∃ m, W 0 m (upd H1 D (.lst []))) ∧ ∀ i m H, W i m H →
      ((Itl K a).stop i H ∧ Q (.ref D) H) ∨ ((Itl K a).go i H ∧ ∃ Nx : Hp → Prop, (∀ H', Nx H' → ∃ m', m' < m ∧ W (i + 1) m' H') ∧ ∀ x H', (Itl K a).yld i H x H' → g x (wipe σ vs) H' fun σ2 H2 => wipe σ2 vs = wipe σ vs ∧ tt σ2 H2 fun b H3 =>
        if b = true then te σ2 H3 fun y H4 => ∃ acc, H4 D = some (.lst acc) ∧ acc.length < sizeLine ∧ Nx (upd H4 D (.lst (acc ++ [y]))) else Nx H3) := by
  intro D hD
  have sub : ∀ H', Same H1 H' → SqL K H' a (zs.map f) := fun H' s => s.seq hl
  refine lc_list (xs := zs.map f) (Qd := fun H => Q (.ref D) H) (fun i H => Same H1 H ∧ H D = some (.lst (((zs.take i).filter p).map e))) ⟨same_new hD, by rw [upd_same]; simp⟩ (fun i H _ h => sub H h.1) ?_ ?_
  · rintro i x H hx ⟨s, hacc⟩
    obtain ⟨z, hzi, rfl⟩ : ∃ z, zs[i]? = some z ∧ f z = x := by
      rw [List.getElem?_map] at hx
      cases q : zs[i]? with
      | none => rw [q] at hx; cases hx
      | some z => rw [q] at hx; exact ⟨z, rfl, Option.some.inj hx⟩
    refine hs D z H _ _ (List.mem_of_getElem? hzi) s hD hacc ?_ ?_ ?_
    · rw [List.length_map]
      exact Nat.lt_of_le_of_lt (Nat.le_trans (List.length_filter_le _ _) (by rw [List.length_take]; exact Nat.min_le_right _ _)) hz
    · intro pz H'' s'
      refine ⟨s.trans s', ?_⟩
      rw [take_snoc hzi, filter_snoc, if_neg (by rw [pz]; exact Bool.noConfusion)]
      exact s' _ _ hacc
    · intro pz H'' s'
      refine ⟨upd_same_of (s.trans s') hD, ?_⟩
      rw [take_snoc hzi, filter_snoc, if_pos pz, upd_same, List.map_append]
      rfl
  · rintro H ⟨s, h⟩
    rw [List.length_map, List.take_length] at h
    exact hd D H hD s h
/-- [e(k, x) for k, x in enumerate(l) if p(k, x)], l a list of objects; by the places -/
theorem lcF_enum {as : List Addr} (p : Nat → Bool) (e : Nat → V) {i0 i1 : Nat} (hl : SqL K H1 a (as.map V.ref)) (hz : as.length < sizeLine)
    (hs : ∀ (D : Addr) (k : Nat) (r : Addr) (H' : Hp) (acc : List V) (Nx : Hp → Prop), as[k]? = some r → Same H1 H' → H1 D = none → H' D = some (.lst acc) → acc.length < sizeLine →
      (p k = false → ∀ H'', Same H' H'' → Nx H'') → (p k = true → ∀ H'', Same H' H'' → Nx (upd H'' D (.lst (acc ++ [e k])))) → LcTurn tt te D vs σ Nx (((wipe σ vs).set i0 (some (.int (k : Nat)))).set i1 (some (.ref r))) H')
    (hd : ∀ D H', H1 D = none → Same H1 H' → H' D = some (.lst (((List.range as.length).filter p).map e)) → Q (.ref D) H') :
    ∀ D, H1 D = none → ∃ W : Nat → Nat → Hp → Prop, (∃ m, W 0 m (upd H1 D (.lst []))) ∧ ∀ i m H, W i m H →
      ((Ite K a).stop i H ∧ Q (.ref D) H) ∨ ((Ite K a).go i H ∧ ∃ Nx : Hp → Prop, (∀ H', Nx H' → ∃ m', m' < m ∧ W (i + 1) m' H') ∧ ∀ x H', (Ite K a).yld i H x H' → (gTup K 2 (gCons (gName i0) (gCons (gName i1) gNil))) x (wipe σ vs) H' fun σ2 H2 => wipe σ2 vs = wipe σ vs ∧ tt σ2 H2 fun b H3 =>
        if b = true then te σ2 H3 fun y H4 => ∃ acc, H4 D = some (.lst acc) ∧ acc.length < sizeLine ∧ Nx (upd H4 D (.lst (acc ++ [y]))) else Nx H3) := by
  intro D hD
  have sub : ∀ H', Same H1 H' → SqL K H' a (as.map V.ref) := fun H' s => s.seq hl
  refine ⟨fun i m H => m = as.length - i ∧ i ≤ as.length ∧ Same H1 H ∧ H D = some (.lst (((List.range i).filter p).map e)), ⟨as.length, by simp, Nat.zero_le _, same_new hD, by rw [upd_same]; simp⟩, ?_⟩
  rintro i m H ⟨rfl, hi, s, hacc⟩
  by_cases hlt : i < as.length
  · obtain ⟨r, hr⟩ : ∃ r, as[i]? = some r := ⟨_, List.getElem?_eq_getElem hlt⟩
    have hx : (as.map V.ref)[i]? = some (V.ref r) := by rw [List.getElem?_map, hr]; rfl
    refine .inr ⟨⟨_, _, sub H s, hx⟩, fun H' => Same H1 H' ∧ H' D = some (.lst (((List.range (i + 1)).filter p).map e)), fun H' p' => ⟨as.length - (i + 1), by omega, rfl, hlt, p'⟩, fun x H' y => ?_⟩
    obtain ⟨T, v, rfl, hT, rfl, hv⟩ := y
    have ev : v = V.ref r := Option.some.inj ((hv _ (sub H s)).symm.trans hx)
    subst ev
    have sT : Same H (upd H T (.tup [.int (i : Nat), .ref r])) := same_new hT
    refine ⟨T, _, rfl, SqT.of upd_same, rfl, _, _, rfl, _, _, rfl, rfl, ?_⟩
    refine hs D i r _ _ _ hr (s.trans sT) hD (sT _ _ hacc) ?_ ?_ ?_
    · rw [List.length_map]
      exact Nat.lt_of_le_of_lt (Nat.le_trans (List.length_filter_le _ _) (by rw [List.length_range]; exact hi)) hz
    · intro pz H'' s'
      refine ⟨(s.trans sT).trans s', ?_⟩
      rw [List.range_succ, filter_snoc, if_neg (by rw [pz]; exact Bool.noConfusion)]
      exact s' _ _ (sT _ _ hacc)
    · intro pz H'' s'
      refine ⟨upd_same_of ((s.trans sT).trans s') hD, ?_⟩
      rw [List.range_succ, filter_snoc, if_pos pz, upd_same, List.map_append]
      rfl
  · have e : i = as.length := by omega
    subst e
    exact .inl ⟨⟨_, sub H s, by rw [List.length_map]; exact Nat.le_refl _⟩, hd D H hD s hacc⟩
theorem lcT_enum {ta : TA} {H : Hp} {as : List Addr} (p : Nat → Bool) (e : Nat → V) {i0 i1 : Nat} (hw : ∀ R : It → Hp → Prop, R (Ite K a) H1 → iEnum K ta σ H R) (hl : SqL K H1 a (as.map V.ref)) (hz : as.length < sizeLine)
    (hs : ∀ (D : Addr) (k : Nat) (r : Addr) (H' : Hp) (acc : List V) (Nx : Hp → Prop), as[k]? = some r → Same H1 H' → H1 D = none → H' D = some (.lst acc) → acc.length < sizeLine →
      (p k = false → ∀ H'', Same H' H'' → Nx H'') → (p k = true → ∀ H'', Same H' H'' → Nx (upd H'' D (.lst (acc ++ [e k])))) → LcTurn tt te D vs σ Nx (((wipe σ vs).set i0 (some (.int (k : Nat)))).set i1 (some (.ref r))) H')
    (hd : ∀ D H', H1 D = none → Same H1 H' → H' D = some (.lst (((List.range as.length).filter p).map e)) → Q (.ref D) H') : tLc (iEnum K ta) (gTup K 2 (gCons (gName i0) (gCons (gName i1) gNil))) tt te vs σ H Q :=
  hw _ (lcF_enum p e hl hz hs hd)
theorem lcT_list {tl : TE} {H : Hp} {zs : List α} {f : α → V} (p : α → Bool) (e : α → V) (hw : ∀ R : It → Hp → Prop, R (Itl K a) H1 → iList K tl σ H R) (hl : SqL K H1 a (zs.map f)) (hz : zs.length < sizeLine)
    (hs : ∀ (D : Addr) (z : α) (H' : Hp) (acc : List V) (Nx : Hp → Prop), z ∈ zs → Same H1 H' → H1 D = none → H' D = some (.lst acc) → acc.length < sizeLine →
      (p z = false → ∀ H'', Same H' H'' → Nx H'') → (p z = true → ∀ H'', Same H' H'' → Nx (upd H'' D (.lst (acc ++ [e z])))) → g (f z) (wipe σ vs) H' (LcTurn tt te D vs σ Nx))
    (hd : ∀ D H', H1 D = none → Same H1 H' → H' D = some (.lst ((zs.filter p).map e)) → Q (.ref D) H') : tLc (iList K tl) g tt te vs σ H Q :=
  hw _ (lcF_list p e hl hz hs hd)
end
end
section
open PySem PySem.Spec PyProof.Rows L2
section
variable {P : Program} {w : World} {K : PySem.W.Frag} {mg : Str → Option Value} {base : Heap} {A : Adr}
theorem at_ref {as : List Addr} {p : Nat} {r : Addr} (h : as[p]? = some r) : atI (as.map V.ref) (p : Int) = some (V.ref r) := atI_nat (by rw [List.getElem?_map, h]; rfl)
/-- more minutes than it may have gone since it came -/
def aged (a : Su67.Abs) (g : Nat) : Bool := decide ((a.tyre g).came + (a.type_ (a.tyre g).type_).age < a.now_)
def sp_too_old (K : PySem.W.Frag) (A : Adr) : Sp := fun vs H Q _ => ∃ (q : Addr) (y : Lay) (b : Bool) (a : Su67.Abs) (g : Nat) (r : Addr), vs = [.ref q, .ref r] ∧ Rep A H q y b a ∧ Good a ∧ y.ag[g]? = some r ∧ Q (.bl (aged a g)) H
theorem ok_too_old (T : Txt K mg A) : FnOk P w K mg base CX0 1 A.f_too_old A.d_too_old ["plant", "tyre"] (sp_too_old K A) := by
  refine T.F_too_old.ok sc_too_old (fun vs H Q E h => ?_) (fun cdv A' outer s H vs Q E hr h => ?_)
  · obtain ⟨q, y, b, a, g, r, rfl, _⟩ := h
    rfl
  · obtain ⟨q, y, b, a, g, r, rfl, R, G, hr', k⟩ := h
    obtain ⟨dx, hq⟩ := id R.pl
    have hkl := R.ki.lst
    have hg : g < a.tyres.length := by rw [← R.ty.len]; exact (List.getElem?_eq_some_iff.mp hr').1
    obtain ⟨r', dr, e1, hH⟩ := R.tyre hg
    cases hr'.symm.trans e1
    obtain ⟨rk, dk, e2, hk⟩ := R.type_ (G.gt g hg)
    have hat := at_ref e2
    refine ⟨_, (pss_one (ps_ret (pe_cmpR op_gt (pe_op op_sub (pe_fld (pv 0) rfl) (pe_fld (pv 1) rfl)) (pe_fld (pe_ix ix_lst (pe_fld (pv 0) rfl) (pe_fld (pv 1) rfl) (fun _ _ => rfl)) rfl) (nomark _)))), ?_⟩
    simp! only [T.all, hq, hH, hkl, hat, hk]
    have e : decide (((a.type_ (a.tyre g).type_).age : Int) < ((a.now_ : Nat) : Int) - ((a.tyre g).came : Nat)) = aged a g := by
      unfold aged
      exact decide_eq_decide.mpr (by omega)
    rw [e]
    exact k
def sp_why_not (K : PySem.W.Frag) (A : Adr) : Sp := fun vs H Q _ => ∃ (q : Addr) (y : Lay) (b : Bool) (a : Su67.Abs) (p : Nat) (r : Addr), vs = [.ref q, .ref r] ∧ Rep A H q y b a ∧ Good a ∧ y.ap[p]? = some r ∧ Q (.int (a.why p)) H
theorem opt_non {n : Nat} (h : n = 0) : opt n = .non := by unfold opt; rw [if_pos h]
theorem opt_int {n : Nat} (h : n ≠ 0) : opt n = .int ((n - 1 : Nat) : Int) := by unfold opt; rw [if_neg h]
theorem ok_why_not (T : Txt K mg A) : FnOk P w K mg base CX0 1 A.f_why_not A.d_why_not ["plant", "press"] (sp_why_not K A) := by
  refine T.F_why_not.ok sc_why_not (fun vs H Q E h => ?_) (fun cdv A' outer s H vs Q E hr h => ?_)
  · obtain ⟨q, y, b, a, g, r, rfl, _⟩ := h
    rfl
  · obtain ⟨q, y, b, a, p, r, rfl, R, G, hr', k⟩ := h
    obtain ⟨dx, hq⟩ := id R.pl
    have hml := R.mo.lst
    have hp : p < a.presses.length := by rw [← R.pr.len]; exact (List.getElem?_eq_some_iff.mp hr').1
    obtain ⟨r', dr, e1, hH⟩ := R.press hp
    cases hr'.symm.trans e1
    have hpl := G.pl p hp
    have hpm := G.pm p hp
    have hw : a.why p = if (a.press p).busy ≠ 0 then -16 else if (a.press p).mould = 0 then -6 else if a.life ≤ (a.press p).worn then -14 else if a.dirty ≤ (a.mould ((a.press p).mould - 1)).used then -13 else 0 := rfl
    refine ⟨_, (pss_cons (ps_if (pt_cmpR op_gt (pe_fld (pv 1) rfl) pe_int (nomark _)) (pss_one (ps_ret (pe_gi rfl T.v_NOT_IDLE))) pss_nil)
        (pss_cons (ps_if (pt_cmpR op_isN (pe_fld (pv 1) rfl) pe_non (nomark _)) (pss_one (ps_ret (pe_gi rfl T.v_NO_MOULD))) pss_nil)
        (pss_cons (ps_if (pt_cmpR op_ge (pe_fld (pv 1) rfl) (pe_fld (pv 0) rfl) (nomark _)) (pss_one (ps_ret (pe_gi rfl T.v_WORN))) pss_nil)
        (pss_cons (ps_if (pt_cmpR op_ge (pe_fld (pe_ix ix_lst (pe_fld (pv 0) rfl) (pe_fld (pv 1) rfl) (fun _ _ => rfl)) rfl) (pe_fld (pv 0) rfl) (nomark _)) (pss_one (ps_ret (pe_gi rfl T.v_DIRTY))) pss_nil)
        (pss_one (ps_ret pe_int)))))), ?_⟩
    by_cases h0 : (a.press p).mould = 0
    · have ho := opt_non h0
      simp! only [T.all, hq, hH, hml, ho, decide_true]
      rw [hw] at k
      by_cases h1 : (a.press p).busy = 0
      · rw [if_neg (by rw [hpl.mpr h1]; decide)]
        rw [if_neg (by simp [h1]), if_pos h0] at k
        exact k
      · rw [if_pos (by have : ¬ (a.press p).left = 0 := fun z => h1 (hpl.mp z)
                       omega)]
        rw [if_pos h1] at k
        exact k
    · have ho := opt_int h0
      obtain ⟨rm, dm, e2, hm⟩ := R.mould (p := (a.press p).mould - 1) (by omega)
      have hat := at_ref e2
      simp! only [T.all, hq, hH, hml, ho, hat, hm, decide_false]
      rw [hw] at k
      by_cases h1 : (a.press p).busy = 0
      · rw [if_neg (by rw [hpl.mpr h1]; decide)]
        rw [if_neg (by simp [h1]), if_neg h0] at k
        by_cases h2 : a.life ≤ (a.press p).worn
        · rw [if_pos (by omega)]
          rw [if_pos h2] at k
          exact k
        · rw [if_neg (by omega)]
          rw [if_neg h2] at k
          by_cases h3 : a.dirty ≤ (a.mould ((a.press p).mould - 1)).used
          · rw [if_pos (by omega)]
            rw [if_pos h3] at k
            exact k
          · rw [if_neg (by omega)]
            rw [if_neg h3] at k
            exact k
      · rw [if_pos (by have : ¬ (a.press p).left = 0 := fun z => h1 (hpl.mp z)
                       omega)]
        rw [if_pos h1] at k
        exact k
end
end
section
open PySem PySem.Spec PyProof.Rows L2
section
variable {P : Program} {w : World} {K : PySem.W.Frag} {mg : Str → Option Value} {base : Heap} {A : Adr}
def natV (n : Nat) : V := .int (n : Int)
/-- the plant is read, a new list comes out -/
def Lists (q : Addr) (H : Hp) (l : List Nat) (Q : VK) : Prop := ∀ H' p, Same H H' → H p = none → H' p = some (.lst (l.map natV)) → Q (.ref p) H'
def sp_ready_tyres (K : PySem.W.Frag) (A : Adr) : Sp := fun vs H Q _ => ∃ (q : Addr) (y : Lay) (b : Bool) (a : Su67.Abs) (t : Nat), vs = [.ref q, .int (t : Nat)] ∧ Rep A H q y b a ∧ Good a ∧ Lists q H (a.waits t) Q
def isW (a : Su67.Abs) (t g : Nat) : Bool := (a.tyre g).type_ == t && (a.tyre g).how == 0
theorem waits_eq (a : Su67.Abs) (t : Nat) : a.waits t = ((List.range a.tyres.length).filter (isW a t)).filter fun g => !aged a g := by
  unfold Su67.Abs.waits
  rw [List.filter_filter]
  refine List.filter_congr fun g _ => ?_
  unfold isW Su67.Abs.old aged
  cases (a.tyre g).how == 0 <;> cases (a.tyre g).type_ == t <;> simp
theorem ok_ready_tyres (T : Txt K mg A) : FnOk P w K mg base CX0 2 A.f_ready_tyres A.d_ready_tyres ["plant", "kind"] (sp_ready_tyres K A) := by
  refine T.F_ready_tyres.ok sc_ready_tyres (fun vs H Q E h => ?_) (fun cdv A' outer s H vs Q E hr h => ?_)
  · obtain ⟨q, y, b, a, t, rfl, _⟩ := h
    rfl
  · obtain ⟨q, y, b, a, t, rfl, R, G, k⟩ := h
    obtain ⟨dx, hq⟩ := id R.pl
    have hgl := R.ty.lst
    have h60 : y.ag.length < sizeLine := by rw [R.ty.len]; exact size60 G.nG
    refine ⟨_, (pss_cons (ps_setLc (i := 2) (own := [("g", 3), ("tyre", 4)]) rfl sc_ready_tyres.nd rfl rfl rfl (pi_enum rfl T.u_enumerate (pa_cons (pe_fld (pv 0) rfl) pa_nil)) (blkOk_by (by rfl)) (fun _ _ _ _ _ => (pg_tupK (K := K) (n := 2) rfl rfl (pgs_cons (pg_name (i := 3) sc_ready_tyres.nd rfl (Or.inl rfl)) (pgs_cons (pg_name (i := 4) sc_ready_tyres.nd rfl (Or.inl rfl)) pgs_nil)))) (fun _ _ _ _ _ => (pts_one (PW.pt (pw_and (pt_cmpR op_eq (pe_fldK (K := K) rfl (pv 4) rfl) (pv 1) (nomark _)) (pw_and1 (pt_cmpR op_eq (pe_fldK (K := K) rfl (pv 4) rfl) (pe_gi rfl T.v_WAITS) (nomark _))))))) (fun _ _ _ _ _ => (pv 3)))
        (pss_one (ps_ret (pe_lc (own := [("g", 3)]) rfl sc_ready_tyres.nd (pi_list (pv 2)) (blkOk_by (by rfl)) (fun _ _ _ _ _ => (pg_name (i := 3) sc_ready_tyres.nd rfl (Or.inl rfl))) (fun _ _ _ _ _ => (pts_one (pt_not (pt_val (pe_call (ok_too_old T) (hr.mono (by decide)) rfl T.m_too_old T.F_too_old.kp T.b_too_old .nil pass0 (pa_cons (pv 0) (pa_cons (pe_ix ix_lst (pe_fldK (K := K) rfl (pv 0) rfl) (pv 3) (fun _ _ => rfl)) pa_nil))))))) (fun _ _ _ _ _ => (pv 3)))))), ?_⟩
    simp only [tSeq, tAsg, tRet, cxK]
    refine lcT_enum (isW a t) natV ?_ (SqL.of hgl) h60 ?_ ?_
    · exact fun Rr hR => ⟨_, rfl, q, A.c_Plant, dx, _, _, rfl, hq, T.cl_Plant, T.n_Plant_tyres, rfl, _, _, rfl, SqL.of hgl, hR⟩
    · intro D g r H' acc Nx hg s hD hacc hlen hno hyes
      have hg' : g < a.tyres.length := by rw [← R.ty.len]; exact (List.getElem?_eq_some_iff.mp hg).1
      obtain ⟨r', dr, e1, hH⟩ := (R.same s).tyre hg'
      cases hg.symm.trans e1
      refine ⟨rfl, ?_⟩
      simp! only [T.all, hH, wipe, hacc]
      have hp : isW a t g = ((a.tyre g).type_ == t && (a.tyre g).how == 0) := rfl
      refine ite2 (fun h1 => ite2 (fun h2 => ⟨hlen, hyes ?_ H' (Same.refl _)⟩) fun h2 => hno ?_ H' (Same.refl _)) fun h1 => hno ?_ H' (Same.refl _)
      · rw [hp]; simp; omega
      · rw [hp]; simp; omega
      · rw [hp]; simp; omega
    · intro D H1 hD s1 hl1
      have hlen : ((List.range y.ag.length).filter (isW a t)).length < sizeLine := Nat.lt_of_le_of_lt (Nat.le_trans (List.length_filter_le _ _) (by rw [List.length_range]; exact Nat.le_refl _)) h60
      simp only [gName, tSeq, tAsg, tRet, cxK]
      refine lcT_list (H1 := H1) (zs := (List.range y.ag.length).filter (isW a t)) (f := natV) (fun g => !aged a g) natV ?_ (SqL.of hl1) hlen ?_ ?_
      · exact fun Rr hR => ⟨_, rfl, _, rfl, ⟨_, SqL.of hl1⟩, hR⟩
      · intro D2 g H' acc Nx hg s hD2 hacc hlen2 hno hyes
        have hg' : g < a.tyres.length := by
          have := List.mem_range.mp (List.mem_filter.mp hg).1
          rw [← R.ty.len]; exact this
        have R' := (R.same s1).same s
        obtain ⟨r', dr, e1, hH⟩ := R'.tyre hg'
        obtain ⟨dx', hq'⟩ := id R'.pl
        have hgl' := R'.ty.lst
        have hat := at_ref e1
        refine ⟨rfl, ?_⟩
        simp! only [T.all, hH, wipe, hacc, natV, hq', hgl', hat]
        refine ⟨y, b, a, R', G, g, e1, ?_⟩
        refine ite2 (fun h1 => ⟨hlen2, hyes (by rw [h1]; rfl) H' (Same.refl _)⟩) fun h1 => hno ?_ H' (Same.refl _)
        simpa using h1
      · intro D2 H' hD2 s2 hl2
        refine k H' D2 (s1.trans s2) (s1.free hD2) ?_
        rw [hl2, waits_eq, R.ty.len]
end
end
section
open PySem PySem.Spec PyProof.Rows L2
section
variable {P : Program} {w : World} {K : PySem.W.Frag} {mg : Str → Option Value} {base : Heap} {A : Adr}
/-- the plant is changed, nothing is told -/
def Turns (A : Adr) (q : Addr) (y : Lay) (H : Hp) (b : Bool) (a' : Su67.Abs) (Q : VK) : Prop := ∀ H', Rep A H' q y b a' → Frame q y H y H' → Q .non H'
def sp_put_in (K : PySem.W.Frag) (A : Adr) : Sp := fun vs H Q _ => ∃ (q : Addr) (y : Lay) (b : Bool) (a : Su67.Abs) (p g : Nat), vs = [.ref q, .int (p : Nat), .int (g : Nat)] ∧ Rep A H q y b a ∧ Good a ∧ p < a.presses.length ∧ g < a.tyres.length ∧
  (a.press p).mould ≠ 0 ∧ (a.tyre g).type_ = a.kind p ∧ Turns A q y H b (a.loaded p g) Q
theorem ok_put_in (T : Txt K mg A) : FnOk P w K mg base CX0 1 A.f_put_in A.d_put_in ["plant", "p", "g"] (sp_put_in K A) := by
  refine T.F_put_in.ok sc_put_in (fun vs H Q E h => ?_) (fun cdv A' outer s H vs Q E hr h => ?_)
  · obtain ⟨q, y, b, a, p, g, rfl, _⟩ := h
    rfl
  · obtain ⟨q, y, b, a, p, g, rfl, R, G, hp, hg, hm, ht, k⟩ := h
    obtain ⟨dx, hq⟩ := id R.pl
    have hkl := R.ki.lst
    have hpl := R.pr.lst
    have hgl := R.ty.lst
    obtain ⟨rp, dp, e1, hP⟩ := R.press hp
    obtain ⟨rg, dg, e2, hG⟩ := R.tyre hg
    obtain ⟨rk, dk, e3, hK⟩ := R.type_ (G.gt g hg)
    have a1 := at_ref e1
    have a2 := at_ref e2
    have a3 := at_ref e3
    have npg : rp ≠ rg := ne_of hP hG (ins_ne T.ne_Press_Tyre)
    have nqp : q ≠ rp := ne_of hq hP (ins_ne (Ne.symm T.ne_Press_Plant))
    have nkp : rk ≠ rp := ne_of hK hP (ins_ne T.ne_Kind_Press)
    have nlp : y.lk ≠ rp := ne_of hkl hP (by intro z; cases z)
    have ngp : rg ≠ rp := Ne.symm npg
    refine ⟨_, (pss_cons (ps_set (i := 3) sc_put_in.nd rfl (Or.inl rfl) (pe_ix ix_lst (pe_fld (pv 0) rfl) (pv 1) (fun _ _ => rfl)))
        (pss_cons (ps_set (i := 4) sc_put_in.nd rfl (Or.inl rfl) (pe_ix ix_lst (pe_fld (pv 0) rfl) (pv 2) (fun _ _ => rfl)))
        (pss_cons (ps_fld (pv 3) (pv 2) rfl)
        (pss_cons (ps_fld (pv 3) (pe_fld (pe_ix ix_lst (pe_fld (pv 0) rfl) (pe_fld (pv 4) rfl) (fun _ _ => rfl)) rfl) rfl)
        (pss_cons (ps_fld (pv 4) (pe_gi rfl T.v_PRESSED) rfl)
        (pss_cons (ps_fld (pv 4) (pv 1) rfl)
        (pss_cons (ps_fld (pv 4) (pe_fld (pv 3) rfl) rfl)
        (pss_one (ps_fld (pv 4) (pe_fld (pv 3) rfl) rfl))))))))), ?_⟩
    simp! only [T.all, hq, hkl, hpl, hgl, hP, hG, hK, a1, a2, a3, upd_ne npg, upd_ne nqp, upd_ne nkp, upd_ne nlp, upd_ne ngp]
    refine ⟨Nat.le_of_ble_eq_true rfl, Nat.le_of_ble_eq_true rfl, _, rfl, Nat.le_of_ble_eq_true rfl, _, rfl, Nat.le_of_ble_eq_true rfl, ?_⟩
    rw [opt_int hm]
    obtain ⟨R1, f1⟩ := R.setP (dx := dp) (f := fun x => { x with busy := 2, left := (a.type_ (a.kind p)).cure, tyre := g }) (fs := putF "left" (.int ((a.type_ (a.tyre g).type_).cure : Nat)) (putF "tyre" (.int (g : Nat)) (prF (a.press p)))) T e1 hP (by rw [ht]; rfl)
    obtain ⟨R2, f2⟩ := R1.setG (dx := dg) (f := fun x => { x with how := 1, press := p, mould := (a.press p).mould - 1, bladder := (a.press p).bladder }) (fs := putF "bladder" (.int ((a.press p).bladder : Nat)) (putF "mould" (.int (((a.press p).mould - 1 : Nat) : Int)) (putF "press" (.int (p : Nat)) (putF "stage" (.int 1) (tyF (a.tyre g)))))) T e2 (by rw [upd_ne ngp]; exact hG) rfl
    exact k _ R2 (f1.trans f2)
/-- a cure is done: the press is idle, its bladder and its mould have one cure more, the tyre is cured now -/
def fin (a : Su67.Abs) (p : Nat) : Su67.Abs :=
  ((a.setP p fun z => { z with busy := 0, worn := z.worn + 1 }).setM ((a.press p).mould - 1) fun z => { z with used := z.used + 1 }).setG (a.press p).tyre fun z => { z with how := 2, at_ := a.now_ }
def sp_finish_cure (K : PySem.W.Frag) (A : Adr) : Sp := fun vs H Q _ => ∃ (q : Addr) (y : Lay) (b : Bool) (a : Su67.Abs) (p : Nat) (r : Addr), vs = [.ref q, .ref r] ∧ Rep A H q y b a ∧ y.ap[p]? = some r ∧ (a.press p).busy = 2 ∧ (a.press p).tyre < a.tyres.length ∧
  (a.press p).mould ≠ 0 ∧ (a.press p).mould ≤ a.moulds.length ∧ Turns A q y H b (fin a p) Q
theorem ok_finish_cure (T : Txt K mg A) : FnOk P w K mg base CX0 1 A.f_finish_cure A.d_finish_cure ["plant", "press"] (sp_finish_cure K A) := by
  refine T.F_finish_cure.ok sc_finish_cure (fun vs H Q E h => ?_) (fun cdv A' outer s H vs Q E hr h => ?_)
  · obtain ⟨q, y, b, a, p, r, rfl, _⟩ := h
    rfl
  · obtain ⟨q, y, b, a, p, rp, rfl, R, e1, hb, hg, hm, hm2, k⟩ := h
    obtain ⟨dx, hq⟩ := id R.pl
    have hml := R.mo.lst
    have hgl := R.ty.lst
    have hp : p < a.presses.length := by rw [← R.pr.len]; exact (List.getElem?_eq_some_iff.mp e1).1
    obtain ⟨rp', dp, e1', hP⟩ := R.press hp
    cases e1.symm.trans e1'
    obtain ⟨rg, dg, e2, hG⟩ := R.tyre hg
    obtain ⟨rm, dm, e3, hM⟩ := R.mould (p := (a.press p).mould - 1) (by omega)
    have a2 := at_ref e2
    have a3 := at_ref e3
    have npg : rp ≠ rg := ne_of hP hG (ins_ne T.ne_Press_Tyre)
    have ngp : rg ≠ rp := Ne.symm npg
    have nqp : q ≠ rp := ne_of hq hP (ins_ne (Ne.symm T.ne_Press_Plant))
    have nqg : q ≠ rg := ne_of hq hG (ins_ne (Ne.symm T.ne_Tyre_Plant))
    have nmp : rm ≠ rp := ne_of hM hP (ins_ne T.ne_Mould_Press)
    have nmg : rm ≠ rg := ne_of hM hG (ins_ne T.ne_Mould_Tyre)
    have nlp : y.lm ≠ rp := ne_of hml hP (by intro z; cases z)
    have nlg : y.lm ≠ rg := ne_of hml hG (by intro z; cases z)
    have et : (if (a.press p).busy = 2 then V.int ((a.press p).tyre : Nat) else V.non) = V.int ((a.press p).tyre : Nat) := if_pos hb
    have em : opt (a.press p).mould = V.int (((a.press p).mould - 1 : Nat) : Int) := opt_int hm
    have l1 : ∀ v, (putF "tyre" v (prF (a.press p))).lookup ("cures" : Str) = some (V.int ((a.press p).worn : Nat)) := fun _ => rfl
    have l2 : ∀ v u, (putF "cures" v (putF "tyre" u (prF (a.press p)))).lookup ("mould" : Str) = some (opt (a.press p).mould) := fun _ _ => rfl
    refine ⟨_, (pss_cons (ps_set (i := 2) sc_finish_cure.nd rfl (Or.inl rfl) (pe_ix ix_lst (pe_fld (pv 0) rfl) (pe_fld (pv 1) rfl) (fun _ _ => rfl)))
        (pss_cons (ps_fld (pv 2) (pe_gi rfl T.v_CURED) rfl)
        (pss_cons (ps_fld (pv 2) (pe_fld (pv 0) rfl) rfl)
        (pss_cons (ps_fld (pv 1) pe_non rfl)
        (pss_cons (ps_fldaug (pv 1) pe_int in_add)
        (pss_one (ps_fldaug (pe_ix ix_lst (pe_fld (pv 0) rfl) (pe_fld (pv 1) rfl) (fun _ _ => rfl)) pe_int in_add))))))), ?_⟩
    simp! only [T.all, hq, hml, hgl, hP, hG, hM, et, a2, a3, l1, l2, em, upd_ne npg, upd_ne ngp, upd_ne nqp, upd_ne nqg, upd_ne nmp, upd_ne nmg, upd_ne nlp, upd_ne nlg]
    refine ⟨Nat.le_of_ble_eq_true rfl, Nat.le_of_ble_eq_true rfl, ?_⟩
    obtain ⟨R1, f1⟩ := R.setG (dx := dg) (f := fun x => { x with how := 2, at_ := a.now_ }) (fs := putF "cured" (.int (a.now_ : Nat)) (putF "stage" (.int 2) (tyF (a.tyre (a.press p).tyre)))) T e2 hG rfl
    obtain ⟨R2, f2⟩ := R1.setP (dx := dp) (f := fun x => { x with busy := 0, worn := x.worn + 1 }) (fs := putF "cures" (.int (((a.press p).worn : Nat) + 1)) (putF "tyre" .non (prF (a.press p)))) T e1 (by rw [upd_ne npg]; exact hP) rfl
    obtain ⟨R3, f3⟩ := R2.setM (dx := dm) (f := fun x => { x with used := x.used + 1 }) (fs := putF "cures" (.int (((a.mould ((a.press p).mould - 1)).used : Nat) + 1)) (moF (a.mould ((a.press p).mould - 1)))) T e3 (by rw [upd_ne nmp, upd_ne nmg]; exact hM) rfl
    exact k _ R3 ((f1.trans f2).trans f3)
end
end
section
open Su67 (Abs)
/-! ### the parts of a changed plant -/
theorem getD_modify {α : Type} (l : List α) (i j : Nat) (f : α → α) (d : α) : (l.modify i f).getD j d = if i = j ∧ j < l.length then f (l.getD j d) else l.getD j d := by
  rw [List.getD_eq_getElem?_getD, List.getD_eq_getElem?_getD, List.getElem?_modify]
  by_cases h : j < l.length
  · rw [List.getElem?_eq_getElem h]
    by_cases e : i = j
    · simp [e, h]
    · simp [e]
  · rw [List.getElem?_eq_none (by omega)]
    simp [h]
section
variable (a : Abs)
theorem setP_press (p j : Nat) (f) : (a.setP p f).press j = if p = j ∧ j < a.presses.length then f (a.press j) else a.press j := getD_modify _ _ _ _ _
theorem setM_mould (p j : Nat) (f) : (a.setM p f).mould j = if p = j ∧ j < a.moulds.length then f (a.mould j) else a.mould j := getD_modify _ _ _ _ _
theorem setG_tyre (p j : Nat) (f) : (a.setG p f).tyre j = if p = j ∧ j < a.tyres.length then f (a.tyre j) else a.tyre j := getD_modify _ _ _ _ _
theorem setP_len (p : Nat) (f) : (a.setP p f).presses.length = a.presses.length := List.length_modify ..
theorem setM_len (p : Nat) (f) : (a.setM p f).moulds.length = a.moulds.length := List.length_modify ..
theorem setG_len (p : Nat) (f) : (a.setG p f).tyres.length = a.tyres.length := List.length_modify ..
end
/-- a plant of the same size and kinds -/
structure Alike (a b : Abs) : Prop where
  ty : b.types = a.types
  nM : b.moulds.length = a.moulds.length
  nP : b.presses.length = a.presses.length
  nG : b.tyres.length = a.tyres.length
  mt : ∀ m, (b.mould m).type_ = (a.mould m).type_
  gt : ∀ g, (b.tyre g).type_ = (a.tyre g).type_
  gc : ∀ g, (b.tyre g).came = (a.tyre g).came
  pm : ∀ p, (b.press p).mould = (a.press p).mould
  pbl : ∀ p, (b.press p).bladder = (a.press p).bladder
  au : b.auto_ = a.auto_
  ch : b.change = a.change
  li : b.life = a.life
  di : b.dirty = a.dirty
theorem Alike.refl (a : Abs) : Alike a a := ⟨rfl, rfl, rfl, rfl, fun _ => rfl, fun _ => rfl, fun _ => rfl, fun _ => rfl, fun _ => rfl, rfl, rfl, rfl, rfl⟩
theorem Alike.trans {a b c : Abs} (h : Alike a b) (k : Alike b c) : Alike a c :=
  ⟨k.ty.trans h.ty, k.nM.trans h.nM, k.nP.trans h.nP, k.nG.trans h.nG, fun m => (k.mt m).trans (h.mt m), fun m => (k.gt m).trans (h.gt m), fun m => (k.gc m).trans (h.gc m), fun m => (k.pm m).trans (h.pm m), fun m => (k.pbl m).trans (h.pbl m), k.au.trans h.au, k.ch.trans h.ch, k.li.trans h.li, k.di.trans h.di⟩
theorem Alike.type_ {a b : Abs} (h : Alike a b) (t : Nat) : b.type_ t = a.type_ t := by unfold Su67.Abs.type_; rw [h.ty]
theorem Alike.kind {a b : Abs} (h : Alike a b) (p : Nat) : b.kind p = a.kind p := by unfold Su67.Abs.kind; rw [h.pm, h.mt]
theorem alike_setP (a : Abs) (p : Nat) (f : Su67.Press → Su67.Press) (h1 : ∀ x, (f x).mould = x.mould) (h2 : ∀ x, (f x).bladder = x.bladder) : Alike a (a.setP p f) :=
  ⟨rfl, rfl, setP_len a p f, rfl, fun _ => rfl, fun _ => rfl, fun _ => rfl, fun j => by rw [setP_press]; split <;> simp [h1], fun j => by rw [setP_press]; split <;> simp [h2], rfl, rfl, rfl, rfl⟩
theorem alike_setM (a : Abs) (p : Nat) (f : Su67.Mould → Su67.Mould) (h1 : ∀ x, (f x).type_ = x.type_) : Alike a (a.setM p f) :=
  ⟨rfl, setM_len a p f, rfl, rfl, fun j => by rw [setM_mould]; split <;> simp [h1], fun _ => rfl, fun _ => rfl, fun j => rfl, fun j => rfl, rfl, rfl, rfl, rfl⟩
theorem alike_setG (a : Abs) (p : Nat) (f : Su67.Tyre → Su67.Tyre) (h1 : ∀ x, (f x).type_ = x.type_) (h2 : ∀ x, (f x).came = x.came) : Alike a (a.setG p f) :=
  ⟨rfl, rfl, rfl, setG_len a p f, fun _ => rfl, fun j => by rw [setG_tyre]; split <;> simp [h1], fun j => by rw [setG_tyre]; split <;> simp [h2], fun j => rfl, fun j => rfl, rfl, rfl, rfl, rfl⟩
theorem alike_loaded (a : Abs) (p g : Nat) : Alike a (a.loaded p g) :=
  (alike_setP a p (fun x => { x with busy := 2, left := (a.type_ (a.kind p)).cure, tyre := g }) (fun _ => rfl) (fun _ => rfl)).trans (alike_setG _ g (fun x => { x with how := 1, press := p, mould := (a.press p).mould - 1, bladder := (a.press p).bladder }) (fun _ => rfl) (fun _ => rfl))
theorem alike_takes (a : Abs) (p : Nat) : Alike a (a.takes p) := by
  unfold Su67.Abs.takes
  split
  · exact .refl a
  · split
    · exact .refl a
    · exact alike_loaded a p _
theorem alike_works (a : Abs) (p : Nat) : Alike a (a.works p) := by
  show Alike a (if (a.press p).busy = 0 then a else _)
  split
  · exact .refl a
  · split
    · exact alike_setP _ _ _ (fun _ => rfl) (fun _ => rfl)
    · split
      · exact alike_setP _ _ _ (fun _ => rfl) (fun _ => rfl)
      · exact ((alike_setP _ _ (fun z => { z with busy := 0, left := 0, worn := z.worn + 1 }) (fun _ => rfl) (fun _ => rfl)).trans (alike_setM _ _ (fun z => { z with used := z.used + 1 }) (fun _ => rfl))).trans (alike_setG _ _ (fun z => { z with how := 2, at_ := a.now_ + 1 }) (fun _ => rfl) (fun _ => rfl))
theorem alike_foldl {f : Abs → Nat → Abs} (hf : ∀ a p, Alike a (f a p)) : ∀ (l : List Nat) (a : Abs), Alike a (l.foldl f a)
  | [], a => .refl a
  | p :: l, a => (hf a p).trans (alike_foldl hf l (f a p))
theorem alike_all {f : Abs → Nat → Abs} (hf : ∀ a p, Alike a (f a p)) (a : Abs) : Alike a (a.all f) := alike_foldl hf _ a
theorem alike_now (a : Abs) (n : Nat) : Alike a { a with now_ := n } := ⟨rfl, rfl, rfl, rfl, fun _ => rfl, fun _ => rfl, fun _ => rfl, fun _ => rfl, fun _ => rfl, rfl, rfl, rfl, rfl⟩
theorem mem_waits {a : Abs} {t g : Nat} (h : g ∈ a.waits t) : g < a.tyres.length ∧ (a.tyre g).how = 0 ∧ (a.tyre g).type_ = t := by
  unfold Su67.Abs.waits at h
  obtain ⟨h1, h2⟩ := List.mem_filter.mp h
  refine ⟨List.mem_range.mp h1, ?_, ?_⟩
  · simp at h2; exact h2.1
  · simp at h2; exact h2.2.1
theorem why_zero {a : Abs} {p : Nat} (h : a.why p = 0) : (a.press p).busy = 0 ∧ (a.press p).mould ≠ 0 ∧ ¬ a.life ≤ (a.press p).worn ∧ ¬ a.dirty ≤ (a.mould ((a.press p).mould - 1)).used := by
  have h : (if (a.press p).busy ≠ 0 then (-16 : Int) else if (a.press p).mould = 0 then -6 else if a.life ≤ (a.press p).worn then -14 else if a.dirty ≤ (a.mould ((a.press p).mould - 1)).used then -13 else 0) = 0 := h
  by_cases h1 : (a.press p).busy = 0
  · rw [if_neg (by simp [h1])] at h
    by_cases h2 : (a.press p).mould = 0
    · rw [if_pos h2] at h; omega
    · rw [if_neg h2] at h
      by_cases h3 : a.life ≤ (a.press p).worn
      · rw [if_pos h3] at h; omega
      · rw [if_neg h3] at h
        by_cases h4 : a.dirty ≤ (a.mould ((a.press p).mould - 1)).used
        · rw [if_pos h4] at h; omega
        · exact ⟨h1, h2, h3, h4⟩
  · rw [if_pos h1] at h; omega
/-- what of Good does not hang on presses' and tyres' states -/
theorem Good.alike {a b : Abs} (G : Good a) (h : Alike a b) (hb : ∀ p, p < a.presses.length → (b.press p).busy ≤ 2 ∧ ((b.press p).left = 0 ↔ (b.press p).busy = 0) ∧ ((b.press p).busy = 2 → (b.press p).tyre < a.tyres.length ∧ (b.press p).mould ≠ 0))
    (hg : ∀ g, g < a.tyres.length → (b.tyre g).how ≤ 3) : Good b := by
  refine ⟨by rw [h.ty]; exact G.nT, by rw [h.nM]; exact G.nM, by rw [h.nP]; exact G.nP, by rw [h.nG]; exact G.nG, fun t ht => ?_, fun m hm => ?_, fun p hp => ?_, fun p hp => ?_, fun p hp => ?_, fun p hp e => ?_, fun g hgg => ?_, fun g hgg => ?_⟩
  · rw [h.type_]; rw [h.ty] at ht; exact G.cure t ht
  · rw [h.mt, h.ty]; rw [h.nM] at hm; exact G.mt m hm
  · rw [h.pm, h.nM]; rw [h.nP] at hp; exact G.pm p hp
  · rw [h.nP] at hp; exact (hb p hp).1
  · rw [h.nP] at hp; exact (hb p hp).2.1
  · rw [h.nP] at hp; rw [h.nG]; exact (hb p hp).2.2 e
  · rw [h.gt, h.ty]; rw [h.nG] at hgg; exact G.gt g hgg
  · rw [h.nG] at hgg; exact hg g hgg
theorem loaded_press (a : Abs) (p g j : Nat) : (a.loaded p g).press j = if p = j ∧ j < a.presses.length then { a.press j with busy := 2, left := (a.type_ (a.kind p)).cure, tyre := g } else a.press j := setP_press a p j _
theorem loaded_tyre (a : Abs) (p g j : Nat) : (a.loaded p g).tyre j = if g = j ∧ j < a.tyres.length then { a.tyre j with how := 1, press := p, mould := (a.press p).mould - 1, bladder := (a.press p).bladder } else a.tyre j := setG_tyre (a.setP p _) g j _
theorem kind_lt {a : Abs} (G : Good a) {p : Nat} (hp : p < a.presses.length) (hm : (a.press p).mould ≠ 0) : a.kind p < a.types.length := G.mt _ (by have := G.pm p hp; omega)
theorem Good.loaded {a : Abs} (G : Good a) {p g : Nat} (hp : p < a.presses.length) (hg : g < a.tyres.length) (hm : (a.press p).mould ≠ 0) : Good (a.loaded p g) := by
  refine G.alike (alike_loaded a p g) (fun j hj => ?_) (fun j hj => ?_)
  · rw [loaded_press]
    by_cases e : p = j
    · subst e
      rw [if_pos ⟨rfl, hj⟩]
      have := G.cure _ (kind_lt G hp hm)
      exact ⟨Nat.le_refl _, ⟨fun z => by simp at z; omega, fun z => by simp at z⟩, fun _ => ⟨hg, hm⟩⟩
    · rw [if_neg (by simp [e])]
      exact ⟨G.pb j hj, G.pl j hj, G.pt j hj⟩
  · rw [loaded_tyre]
    split
    · exact Nat.le_of_ble_eq_true rfl
    · exact G.gh j hj
theorem Good.takes {a : Abs} (G : Good a) {p : Nat} (hp : p < a.presses.length) : Good (a.takes p) := by
  unfold Su67.Abs.takes
  split
  · exact G
  · rename_i h
    have h : a.why p = 0 := by simpa using h
    split
    · exact G
    · rename_i g l e
      have hg := mem_waits (a := a) (t := a.kind p) (g := g) (by rw [e]; exact List.mem_cons_self ..)
      exact G.loaded hp hg.1 (why_zero h).2.1
end
section
open PySem PySem.Spec PyProof.Rows L2
section
variable {P : Program} {w : World} {K : PySem.W.Frag} {mg : Str → Option Value} {base : Heap} {A : Adr}
def sp_load_presses (K : PySem.W.Frag) (A : Adr) : Sp := fun vs H Q _ => ∃ (q : Addr) (y : Lay) (b : Bool) (a : Su67.Abs), vs = [.ref q] ∧ Rep A H q y b a ∧ Good a ∧ Turns A q y H b (a.all Su67.Abs.takes) Q
theorem ok_load_presses (T : Txt K mg A) : FnOk P w K mg base CX0 3 A.f_load_presses A.d_load_presses ["plant"] (sp_load_presses K A) := by
  refine T.F_load_presses.ok sc_load_presses (fun vs H Q E h => ?_) (fun cdv A' outer s H vs Q E hr h => ?_)
  · obtain ⟨q, y, b, a, rfl, _⟩ := h
    rfl
  · obtain ⟨q, y, b, a, rfl, R, G, k⟩ := h
    obtain ⟨dx, hq⟩ := id R.pl
    have hpl := R.pr.lst
    have hlen : (y.ap.map V.ref).length = a.presses.length := by rw [List.length_map, R.pr.len]
    have h5 := G.nP
    refine ⟨_, (pss_one (ps_for PassesOwn.never rfl (pi_range1 rfl T.u_range (pa_cons (pe_callB call_lenL rfl T.u_len PySem.boot_len (pa_cons (pe_fld (pv 0) rfl) pa_nil)) pa_nil)) (pg_name (i := 1) sc_load_presses.nd rfl (Or.inl rfl)) (pss_cons (ps_set (i := 2) sc_load_presses.nd rfl (Or.inl rfl) (pe_ix ix_lst (pe_fld (pv 0) rfl) (pv 1) (fun _ _ => rfl)))
        (pss_one (ps_if (pt_cmpR op_eq (pe_call (ok_why_not T) (hr.mono (by decide)) rfl T.m_why_not T.F_why_not.kp T.b_why_not .nil pass0 (pa_cons (pv 0) (pa_cons (pv 2) pa_nil))) pe_int (nomark _)) (pss_cons (ps_set (i := 3) sc_load_presses.nd rfl (Or.inl rfl) (pe_call (ok_ready_tyres T) (hr.mono (by decide)) rfl T.m_ready_tyres T.F_ready_tyres.kp T.b_ready_tyres .nil pass0 (pa_cons (pv 0) (pa_cons (pe_fld (pe_ix ix_lst (pe_fld (pv 0) rfl) (pe_fld (pv 2) rfl) (fun _ _ => rfl)) rfl) pa_nil))))
        (pss_one (ps_if (pt_cmpR op_gt (pe_callB call_lenL rfl T.u_len PySem.boot_len (pa_cons (pv 3) pa_nil)) pe_int (nomark _)) (pss_one (ps_expr (pe_call (ok_put_in T) (hr.mono (by decide)) rfl T.m_put_in T.F_put_in.kp T.b_put_in .nil pass0 (pa_cons (pv 0) (pa_cons (pv 1) (pa_cons (pe_ix ix_lst (pv 3) pe_int (fun _ _ => rfl)) pa_nil)))))) pss_nil))) pss_nil))))), ?_⟩
    refine ⟨_, rfl, q, A.c_Plant, dx, _, _, rfl, hq, T.cl_Plant, T.n_Plant_presses, rfl, y.lp, _, rfl, hpl, _, rfl, by rw [hlen]; omega, by rw [hlen]; omega, ?_⟩
    rw [hlen, Int.toNat_natCast]
    refine for_range (fun i σ H' => ∃ v1 v2 v3, σ = [some (.ref q), v1, v2, v3] ∧ Rep A H' q y b ((List.range i).foldl Su67.Abs.takes a) ∧ Good ((List.range i).foldl Su67.Abs.takes a) ∧ Frame q y H y H') ⟨_, _, _, rfl, R, G, Frame.refl _ _ _⟩ ?_ ?_
    · rintro i σ H' hi ⟨v1, v2, v3, rfl, R', G', f⟩
      have al := alike_foldl alike_takes (List.range i) a
      rw [List.range_succ, List.foldl_append]
      generalize (List.range i).foldl Su67.Abs.takes a = c at R' G' al ⊢
      have hi' : i < c.presses.length := by rw [al.nP]; exact hi
      obtain ⟨dx', hq'⟩ := id R'.pl
      have hpl' := R'.pr.lst
      have hml' := R'.mo.lst
      obtain ⟨rp, dp, e1, hP⟩ := R'.press hi'
      have a1 := at_ref e1
      simp! only [T.all, hq', hpl', a1, Int.zero_add]
      refine ⟨q, y, b, c, i, rp, rfl, R', G', e1, rfl, ?_⟩
      have ef : List.foldl Su67.Abs.takes c [i] = c.takes i := rfl
      rw [ef]
      by_cases hw : c.why i = 0
      · obtain ⟨z1, z2, z3, z4⟩ := why_zero hw
        have hm2 := G'.pm i hi'
        obtain ⟨rm, dm, e2, hM⟩ := R'.mould (p := (c.press i).mould - 1) (by omega)
        have a2 := at_ref e2
        have em := opt_int z2
        rw [if_pos (by rw [hw])]
        simp! only [T.all, hq', hpl', hml', hP, em, a2, hM]
        refine ⟨q, y, b, c, (c.mould ((c.press i).mould - 1)).type_, rfl, R', G', fun H1 pl s1 hpl1 hl1 => ?_⟩
        simp! only [T.all, hl1, List.length_map]
        have ek : c.waits (c.mould ((c.press i).mould - 1)).type_ = c.waits (c.kind i) := rfl
        rw [ek] at hl1 ⊢
        have ht : c.takes i = match c.waits (c.kind i) with | [] => c | g :: _ => c.loaded i g := by
          unfold Su67.Abs.takes
          rw [if_neg (by simp [hw])]
          cases c.waits (c.kind i) <;> rfl
        rw [ht]
        cases hwt : c.waits (c.kind i) with
        | nil =>
          rw [if_neg (by simp)]
          exact ⟨R'.same s1, G', f.trans (Frame.of_same s1)⟩
        | cons g l =>
          rw [hwt] at hl1
          rw [if_pos (by simp only [List.length_cons]; omega)]
          obtain ⟨g1, g2, g3⟩ := mem_waits (a := c) (t := c.kind i) (g := g) (by rw [hwt]; exact List.mem_cons_self ..)
          have a0 : atI (List.map natV (g :: l)) 0 = some (natV g) := at_of (j := 0) rfl rfl
          simp! only [T.all, hl1, a0, natV]
          exact ⟨_, a0, q, y, b, c, i, g, rfl, R'.same s1, G', hi', g1, z2, g3, fun H2 R2 f2 => ⟨R2, G'.loaded hi' g1 z2, f.trans ((Frame.of_same s1).trans f2)⟩⟩
      · rw [if_neg (by simpa using hw)]
        have ht : c.takes i = c := by
          unfold Su67.Abs.takes
          rw [if_pos hw]
        rw [ht]
        exact ⟨R', G', f⟩
    · rintro σ H' ⟨v1, v2, v3, rfl, R', G', f⟩
      exact k H' R' f
end
end
section
open PySem PySem.Spec PyProof.Rows L2
/-- n minutes less of a press, none of which it does beyond its end -/
def workP (n : Nat) (a : Su67.Abs) (p : Nat) : Su67.Abs :=
  if (a.press p).left = 0 then a else if n < (a.press p).left then a.setP p (fun z => { z with left := z.left - n })
  else if (a.press p).busy = 2 then fin (a.setP p fun z => { z with left := 0 }) p else a.setP p fun z => { z with busy := 0, left := 0 }
theorem fin_press (a : Su67.Abs) (p j : Nat) : (fin a p).press j = if p = j ∧ j < a.presses.length then { a.press j with busy := 0, worn := (a.press j).worn + 1 } else a.press j := setP_press a p j _
theorem alike_fin (a : Su67.Abs) (p : Nat) : Alike a (fin a p) :=
  ((alike_setP _ _ (fun z => { z with busy := 0, worn := z.worn + 1 }) (fun _ => rfl) (fun _ => rfl)).trans (alike_setM _ _ (fun z => { z with used := z.used + 1 }) (fun _ => rfl))).trans (alike_setG _ _ (fun z => { z with how := 2, at_ := a.now_ }) (fun _ => rfl) (fun _ => rfl))
theorem alike_workP (n : Nat) (a : Su67.Abs) (p : Nat) : Alike a (workP n a p) := by
  unfold workP
  split
  · exact .refl a
  · split
    · exact alike_setP _ _ _ (fun _ => rfl) (fun _ => rfl)
    · split
      · exact (alike_setP _ _ (fun z => { z with left := 0 }) (fun _ => rfl) (fun _ => rfl)).trans (alike_fin _ _)
      · exact alike_setP _ _ _ (fun _ => rfl) (fun _ => rfl)
theorem workP_other (n : Nat) (a : Su67.Abs) {p j : Nat} (h : p ≠ j) : (workP n a p).press j = a.press j := by
  unfold workP
  split
  · rfl
  · split
    · rw [setP_press, if_neg (by simp [h])]
    · split
      · rw [fin_press, if_neg (by simp [h]), setP_press, if_neg (by simp [h])]
      · rw [setP_press, if_neg (by simp [h])]
theorem fold_other (n : Nat) (a : Su67.Abs) : ∀ (i j : Nat), i ≤ j → ((List.range i).foldl (workP n) a).press j = a.press j
  | 0, j, _ => rfl
  | i + 1, j, h => by
    rw [List.range_succ, List.foldl_append]
    show (workP n _ i).press j = _
    rw [workP_other n _ (by omega), fold_other n a i j (by omega)]
/-- all of them, by so many minutes at once -/
def workAll (n : Nat) (a : Su67.Abs) : Su67.Abs := Su67.Abs.all { a with now_ := a.now_ + n } (workP n)
section
variable {P : Program} {w : World} {K : PySem.W.Frag} {mg : Str → Option Value} {base : Heap} {A : Adr}
def sp_work_on (K : PySem.W.Frag) (A : Adr) : Sp := fun vs H Q _ => ∃ (q : Addr) (y : Lay) (b : Bool) (a : Su67.Abs) (n : Nat), vs = [.ref q, .int (n : Nat)] ∧ Rep A H q y b a ∧ Good a ∧ (∀ p, p < a.presses.length → (a.press p).left ≠ 0 → n ≤ (a.press p).left) ∧ Turns A q y H b (workAll n a) Q
theorem ok_work_on (T : Txt K mg A) : FnOk P w K mg base CX0 2 A.f_work_on A.d_work_on ["plant", "step"] (sp_work_on K A) := by
  refine T.F_work_on.ok sc_work_on (fun vs H Q E h => ?_) (fun cdv A' outer s H vs Q E hr h => ?_)
  · obtain ⟨q, y, b, a, n, rfl, _⟩ := h
    rfl
  · obtain ⟨q, y, b, a, n, rfl, R, G, hn, k⟩ := h
    obtain ⟨dx, hq⟩ := id R.pl
    refine ⟨_, (pss_cons (ps_fldaug (pv 0) (pv 1) in_add)
        (pss_one (ps_for PassesOwn.never rfl (pi_list (pe_fld (pv 0) rfl)) (pg_name (i := 2) sc_work_on.nd rfl (Or.inl rfl)) (pss_one (ps_if (pt_cmpR op_gt (pe_fld (pv 2) rfl) pe_int (nomark _)) (pss_cons (ps_fldaug (pv 2) (pv 1) in_sub)
        (pss_one (ps_if (PW.pt (pw_and (pt_cmpR op_eq (pe_fld (pv 2) rfl) pe_int (nomark _)) (pw_and1 (pt_cmpR op_notN (pe_fld (pv 2) rfl) pe_non (nomark _))))) (pss_one (ps_expr (pe_call (ok_finish_cure T) (hr.mono (by decide)) rfl T.m_finish_cure T.F_finish_cure.kp T.b_finish_cure .nil pass0 (pa_cons (pv 0) (pa_cons (pv 2) pa_nil))))) pss_nil))) pss_nil))))), ?_⟩
    obtain ⟨R1, f1⟩ := R.setA (b' := b) (a' := { a with now_ := a.now_ + n }) (dx := dx) (fs := putF "minute" (.int (((a.now_ : Nat) : Int) + (n : Nat))) (plF b a y)) T rfl rfl rfl rfl rfl
    have hpl := R1.pr.lst
    refine ⟨_, rfl, q, A.c_Plant, dx, _, _, rfl, hq, T.cl_Plant, T.n_Plant_minute, rfl, _, rfl, _, _, rfl, rfl, dx, _, hq, Nat.le_of_ble_eq_true rfl, ?_⟩
    refine ⟨_, rfl, q, A.c_Plant, dx, _, _, rfl, upd_same, T.cl_Plant, T.n_Plant_presses, rfl, y.lp, rfl, ⟨_, SqL.of hpl⟩, ?_⟩
    have al0 : Alike a { a with now_ := a.now_ + n } := alike_now a _
    refine for_list (xs := y.ap.map V.ref) (fun i σ H' => ∃ v, σ = [some (.ref q), some (.int (n : Nat)), v] ∧ Rep A H' q y b ((List.range i).foldl (workP n) { a with now_ := a.now_ + n }) ∧ Frame q y H y H') ⟨_, rfl, R1, f1⟩ (fun i σ H' _ h => by
      obtain ⟨v, rfl, R', f⟩ := h
      exact SqL.of R'.pr.lst) ?_ ?_
    · rintro i x σ H' hx ⟨v, rfl, R', f⟩
      obtain ⟨rp, e1, rfl⟩ : ∃ rp, y.ap[i]? = some rp ∧ V.ref rp = x := by
        rw [List.getElem?_map] at hx
        cases e : y.ap[i]? with
        | none => rw [e] at hx; cases hx
        | some z => rw [e] at hx; exact ⟨z, rfl, Option.some.inj hx⟩
      have hi : i < a.presses.length := by rw [← R.pr.len]; exact (List.getElem?_eq_some_iff.mp e1).1
      have al := al0.trans (alike_foldl (alike_workP n) (List.range i) { a with now_ := a.now_ + n })
      have ho : ((List.range i).foldl (workP n) { a with now_ := a.now_ + n }).press i = a.press i := fold_other n _ i i (Nat.le_refl _)
      rw [List.range_succ, List.foldl_append]
      generalize (List.range i).foldl (workP n) { a with now_ := a.now_ + n } = c at R' al ho ⊢
      have ef : List.foldl (workP n) c [i] = workP n c i := rfl
      rw [ef]
      have hi' : i < c.presses.length := by rw [al.nP]; exact hi
      obtain ⟨rp', dp, e1', hP⟩ := R'.press hi'
      cases e1.symm.trans e1'
      simp! only [T.all, hP]
      have hb : (c.press i).busy ≤ 2 := by rw [ho]; exact G.pb i hi
      have hlb : (c.press i).left = 0 ↔ (c.press i).busy = 0 := by rw [ho]; exact G.pl i hi
      have hm2 : (c.press i).mould ≤ c.moulds.length := by rw [ho, al.nM]; exact G.pm i hi
      have hpt : (c.press i).busy = 2 → (c.press i).tyre < c.tyres.length ∧ (c.press i).mould ≠ 0 := by rw [ho, al.nG]; exact G.pt i hi
      have hnl : (c.press i).left ≠ 0 → n ≤ (c.press i).left := by rw [ho]; exact hn i hi
      by_cases h0 : (c.press i).left = 0
      · rw [if_neg (by omega)]
        have ew : workP n c i = c := by unfold workP; rw [if_pos h0]
        rw [ew]
        exact ⟨R', f⟩
      · rw [if_pos (by omega)]
        have hnl := hnl h0
        refine ⟨_, rfl, rfl, ?_⟩
        by_cases h1 : n < (c.press i).left
        · rw [if_neg (by intro z; have z := V.int.inj z; omega)]
          have ew : workP n c i = c.setP i (fun z => { z with left := z.left - n }) := by unfold workP; rw [if_neg h0, if_pos h1]
          rw [ew]
          obtain ⟨R2, f2⟩ := R'.setP (dx := dp) (f := fun z => { z with left := z.left - n }) (fs := putF "left" (.int (((c.press i).left : Nat) - (n : Nat))) (prF (c.press i))) T e1 hP (by
            rw [show (((c.press i).left : Nat) : Int) - ((n : Nat) : Int) = (((c.press i).left - n : Nat) : Int) by omega]; rfl)
          exact ⟨R2, f.trans f2⟩
        · have en : n = (c.press i).left := by omega
          have ez : (((c.press i).left : Nat) : Int) - ((n : Nat) : Int) = 0 := by omega
          rw [ez, if_pos rfl]
          refine ⟨_, rfl, ?_⟩
          by_cases h2 : (c.press i).busy = 2
          · rw [if_pos h2, if_pos (by intro z; cases z)]
            have ew : workP n c i = fin (c.setP i fun z => { z with left := 0 }) i := by unfold workP; rw [if_neg h0, if_neg h1, if_pos h2]
            rw [ew]
            obtain ⟨R2, f2⟩ := R'.setP (dx := dp) (f := fun z => { z with left := 0 }) (fs := putF "left" (.int 0) (prF (c.press i))) T e1 hP rfl
            have ep : (c.setP i fun z => { z with left := 0 }).press i = { c.press i with left := 0 } := by rw [setP_press, if_pos ⟨rfl, hi'⟩]
            obtain ⟨t1, t2⟩ := hpt h2
            refine ⟨q, y, b, c.setP i (fun z => { z with left := 0 }), i, rp, rfl, R2, e1, by rw [ep]; exact h2, by rw [ep]; exact t1, by rw [ep]; exact t2, by rw [ep]; exact hm2, fun H3 R3 f3 => ⟨R3, (f.trans f2).trans f3⟩⟩
          · rw [if_neg h2, if_neg (by simp)]
            have ew : workP n c i = c.setP i fun z => { z with busy := 0, left := 0 } := by unfold workP; rw [if_neg h0, if_neg h1, if_neg h2]
            rw [ew]
            obtain ⟨R2, f2⟩ := R'.setP (dx := dp) (f := fun z => { z with busy := 0, left := 0 }) (fs := putF "left" (.int 0) (prF (c.press i))) T e1 hP (by
              unfold prF; rw [if_neg h2]; rfl)
            exact ⟨R2, f.trans f2⟩
    · rintro σ H' ⟨v, rfl, R', f⟩
      refine k H' ?_ f
      rw [List.length_map, R.pr.len] at R'
      exact R'
end
end
section
open Su67 (Abs Press Mould Tyre)
/-! ### so many minutes of all presses, in one piece -/
def pressF (n : Nat) (x : Press) : Press := if x.left = 0 then x else if n < x.left then { x with left := x.left - n } else if x.busy = 2 then { x with busy := 0, worn := x.worn + 1, left := 0 } else { x with busy := 0, left := 0 }
def ends (n : Nat) (x : Press) : Bool := !(x.left == 0) && (!decide (n < x.left) && x.busy == 2)
def mouldsF (n : Nat) (ps : List Press) (ms : List Mould) : List Mould := ps.foldl (fun ms x => if ends n x then ms.modify (x.mould - 1) (fun z => { z with used := z.used + 1 }) else ms) ms
def tyresF (n now : Nat) (ps : List Press) (ts : List Tyre) : List Tyre := ps.foldl (fun ts x => if ends n x then ts.modify x.tyre (fun z => { z with how := 2, at_ := now }) else ts) ts
theorem modify_modify {α : Type} (f g : α → α) : ∀ (l : List α) (i : Nat), (l.modify i f).modify i g = l.modify i (fun x => g (f x))
  | [], i => by cases i <;> rfl
  | x :: l, 0 => rfl
  | x :: l, i + 1 => by
    show x :: (l.modify i f).modify i g = x :: l.modify i (fun x => g (f x))
    rw [modify_modify f g l i]
theorem modify_mid {α : Type} (f : α → α) : ∀ (l r : List α) (x : α), (l ++ x :: r).modify l.length f = l ++ f x :: r
  | [], r, x => rfl
  | y :: l, r, x => by
    show y :: (l ++ x :: r).modify l.length f = y :: (l ++ f x :: r)
    rw [modify_mid f l r x]
theorem getD_mid {α : Type} (l r : List α) (x d : α) : (l ++ x :: r).getD l.length d = x := by
  rw [List.getD_eq_getElem?_getD, List.getElem?_append_right (Nat.le_refl _), Nat.sub_self]
  rfl
/-- the plant with these presses, moulds, tyres -/
def put3 (a : Abs) (ps : List Press) (ms : List Mould) (ts : List Tyre) : Abs := { a with presses := ps, moulds := ms, tyres := ts }
theorem workP_mid (n : Nat) (a : Abs) (l r : List Press) (x : Press) (ms : List Mould) (ts : List Tyre) :
    workP n (put3 a (l ++ x :: r) ms ts) l.length = put3 a (l ++ pressF n x :: r) (mouldsF n [x] ms) (tyresF n a.now_ [x] ts) := by
  have ep : (put3 a (l ++ x :: r) ms ts).press l.length = x := getD_mid l r x _
  have em : ∀ f, (put3 a (l ++ x :: r) ms ts).setP l.length f = put3 a (l ++ f x :: r) ms ts := fun f => by
    show put3 a ((l ++ x :: r).modify l.length f) ms ts = _
    rw [modify_mid]
  unfold workP pressF mouldsF tyresF ends
  rw [ep]
  simp only [List.foldl_cons, List.foldl_nil]
  by_cases h0 : x.left = 0
  · rw [if_pos h0, if_pos h0]
    simp [h0]
  · rw [if_neg h0, if_neg h0]
    by_cases h1 : n < x.left
    · rw [if_pos h1, if_pos h1, em]
      simp [h1]
    · rw [if_neg h1, if_neg h1]
      by_cases h2 : x.busy = 2
      · rw [if_pos h2, if_pos h2, em]
        have ep2 : (put3 a (l ++ { x with left := 0 } :: r) ms ts).press l.length = { x with left := 0 } := getD_mid l r _ _
        unfold fin
        rw [ep2]
        have he : (!(x.left == 0) && (!decide (n < x.left) && x.busy == 2)) = true := by simp [h1, h2]; exact h0
        rw [if_pos he, if_pos he]
        show put3 a ((l ++ { x with left := 0 } :: r).modify l.length _) (ms.modify (x.mould - 1) _) (ts.modify x.tyre _) = _
        rw [modify_mid]
        rfl
      · rw [if_neg h2, if_neg h2, em]
        simp [h2]
theorem mouldsF_snoc (n : Nat) (l : List Press) (x : Press) (ms : List Mould) : mouldsF n [x] (mouldsF n l ms) = mouldsF n (l ++ [x]) ms := by
  unfold mouldsF; rw [List.foldl_append]
theorem tyresF_snoc (n now : Nat) (l : List Press) (x : Press) (ts : List Tyre) : tyresF n now [x] (tyresF n now l ts) = tyresF n now (l ++ [x]) ts := by
  unfold tyresF; rw [List.foldl_append]
theorem foldP (n : Nat) (a : Abs) : ∀ (l r : List Press), a.presses = l ++ r → (List.range l.length).foldl (workP n) a = put3 a (l.map (pressF n) ++ r) (mouldsF n l a.moulds) (tyresF n a.now_ l a.tyres) := by
  intro l
  induction h : l.length generalizing l with
  | zero =>
    intro r e
    have : l = [] := List.length_eq_zero_iff.mp h
    subst this
    show a = put3 a r a.moulds a.tyres
    have e : a.presses = r := e
    rw [← e]
    rfl
  | succ m ih =>
    intro r e
    rcases List.eq_nil_or_concat l with e0 | ⟨l', x, e0⟩
    · subst e0; simp at h
    · subst e0
      have hl : l'.length = m := by simpa using h
      rw [List.range_succ, List.foldl_append, ih l' hl (x :: r) (by rw [e]; simp)]
      show workP n _ m = _
      have := workP_mid n a (l'.map (pressF n)) r x (mouldsF n l' a.moulds) (tyresF n a.now_ l' a.tyres)
      rw [List.length_map, hl] at this
      rw [this, mouldsF_snoc, tyresF_snoc]
      simp
theorem workAll_eq (n : Nat) (a : Abs) : workAll n a = put3 { a with now_ := a.now_ + n } (a.presses.map (pressF n)) (mouldsF n a.presses a.moulds) (tyresF n (a.now_ + n) a.presses a.tyres) := by
  have h := foldP n { a with now_ := a.now_ + n } a.presses [] (by simp)
  rw [List.append_nil] at h
  exact h
/-- so many minutes less, where none comes to its end -/
def dec (m : Nat) (a : Abs) : Abs := put3 { a with now_ := a.now_ + m } (a.presses.map fun x => { x with left := x.left - m }) a.moulds a.tyres
theorem mem_press {a : Abs} {x : Press} (h : x ∈ a.presses) : ∃ p, p < a.presses.length ∧ a.press p = x := by
  obtain ⟨p, hp⟩ := List.getElem?_of_mem h
  have hl := (List.getElem?_eq_some_iff.mp hp).1
  exact ⟨p, hl, Option.some.inj ((get_press hl).symm.trans hp)⟩
theorem foldl_id {α β : Type} (f : β → α → β) : ∀ (l : List α) (b : β), (∀ x ∈ l, ∀ c, f c x = c) → l.foldl f b = b
  | [], b, _ => rfl
  | x :: l, b, h => by
    rw [List.foldl_cons, h x (List.mem_cons_self ..), foldl_id f l b fun y hy => h y (List.mem_cons_of_mem _ hy)]
theorem workAll_dec {m : Nat} {a : Abs} (h : ∀ x ∈ a.presses, x.left ≠ 0 → m < x.left) : workAll m a = dec m a := by
  rw [workAll_eq]
  unfold dec
  have e1 : a.presses.map (pressF m) = a.presses.map fun x => { x with left := x.left - m } := List.map_congr_left fun x hx => by
    unfold pressF
    by_cases h0 : x.left = 0
    · rw [if_pos h0, h0, Nat.zero_sub, ← h0]
    · rw [if_neg h0, if_pos (h x hx h0)]
  have e2 : ∀ x ∈ a.presses, ends m x = false := fun x hx => by
    unfold ends
    by_cases h0 : x.left = 0
    · simp [h0]
    · simp [h x hx h0]
  rw [e1]
  congr 1
  · exact foldl_id _ _ _ fun x hx c => by rw [e2 x hx]; rfl
  · exact foldl_id _ _ _ fun x hx c => by rw [e2 x hx]; rfl
theorem foldl_congr' {α β : Type} {f g : β → α → β} : ∀ (l : List α) (b : β), (∀ x ∈ l, ∀ c, f c x = g c x) → l.foldl f b = l.foldl g b
  | [], b, _ => rfl
  | x :: l, b, h => by
    rw [List.foldl_cons, List.foldl_cons, h x (List.mem_cons_self ..), foldl_congr' l _ fun y hy => h y (List.mem_cons_of_mem _ hy)]
theorem workAll_add {m n : Nat} {a : Abs} (h : ∀ x ∈ a.presses, x.left ≠ 0 → m < x.left) : workAll n (dec m a) = workAll (m + n) a := by
  rw [workAll_eq, workAll_eq]
  have ee : ∀ x ∈ a.presses, ends n { x with left := x.left - m } = ends (m + n) x := fun x hx => by
    unfold ends
    by_cases h0 : x.left = 0
    · simp [h0]
    · have := h x hx h0
      have e1 : (x.left - m == 0) = (x.left == 0) := by
        rw [beq_eq_false_iff_ne.mpr (by omega), beq_eq_false_iff_ne.mpr h0]
      have e2 : decide (n < x.left - m) = decide (m + n < x.left) := decide_eq_decide.mpr (by omega)
      simp only [e1, e2]
  have e1 : (dec m a).presses.map (pressF n) = a.presses.map (pressF (m + n)) := by
    show (a.presses.map fun x => { x with left := x.left - m }).map (pressF n) = _
    rw [List.map_map]
    refine List.map_congr_left fun x hx => ?_
    show pressF n { x with left := x.left - m } = _
    unfold pressF
    by_cases h0 : x.left = 0
    · simp [h0]
      rw [← h0]
    · have := h x hx h0
      simp only []
      rw [if_neg (by omega), if_neg h0]
      by_cases h1 : m + n < x.left
      · rw [if_pos (by omega), if_pos h1, Nat.sub_sub]
      · rw [if_neg (by omega), if_neg h1]
  have e2 : mouldsF n (dec m a).presses (dec m a).moulds = mouldsF (m + n) a.presses a.moulds := by
    show List.foldl _ a.moulds (a.presses.map _) = List.foldl _ _ _
    rw [List.foldl_map]
    exact foldl_congr' _ _ fun x hx c => by rw [ee x hx]
  have e3 : ∀ k, tyresF n k (dec m a).presses (dec m a).tyres = tyresF (m + n) k a.presses a.tyres := fun k => by
    show List.foldl _ a.tyres (a.presses.map _) = List.foldl _ _ _
    rw [List.foldl_map]
    exact foldl_congr' _ _ fun x hx c => by rw [ee x hx]
  rw [e1, e2, e3]
  show put3 { a with now_ := a.now_ + m + n } _ _ (tyresF _ (a.now_ + m + n) _ _) = _
  rw [Nat.add_assoc]
end
section
open Su67 (Abs Press Mould Tyre)
def tick (c : Abs) : Abs := { c with now_ := c.now_ + 1 }
theorem setP_setP (a : Abs) (p : Nat) (f g : Press → Press) : (a.setP p f).setP p g = a.setP p (fun x => g (f x)) := by
  unfold Su67.Abs.setP
  simp only [modify_modify]
theorem works_now (c : Abs) (p : Nat) : (c.works p).now_ = c.now_ := by
  show (if (c.press p).busy = 0 then c else _ : Abs).now_ = _
  split
  · rfl
  · split
    · rfl
    · split <;> rfl
theorem works_tick (c : Abs) {p : Nat} (hp : p < c.presses.length) (hb : (c.press p).busy ≤ 2) (hl : (c.press p).left = 0 ↔ (c.press p).busy = 0) : tick (c.works p) = workP 1 (tick c) p := by
  have ew : c.works p = if (c.press p).busy = 0 then c else if 1 < (c.press p).left then c.setP p (fun z => { z with left := z.left - 1 }) else if (c.press p).busy = 1 then c.setP p (fun z => { z with busy := 0, left := 0 }) else
    (((c.setP p fun z => { z with busy := 0, left := 0, worn := z.worn + 1 }).setM ((c.press p).mould - 1) fun z => { z with used := z.used + 1 }).setG (c.press p).tyre fun z => { z with how := 2, at_ := c.now_ + 1 }) := rfl
  have et : (tick c).press p = c.press p := rfl
  rw [ew]
  unfold workP
  rw [et]
  by_cases h0 : (c.press p).busy = 0
  · rw [if_pos h0, if_pos (hl.mpr h0)]
  · rw [if_neg h0, if_neg (fun z => h0 (hl.mp z))]
    by_cases h1 : 1 < (c.press p).left
    · rw [if_pos h1, if_pos h1]
      rfl
    · rw [if_neg h1, if_neg h1]
      by_cases h2 : (c.press p).busy = 1
      · rw [if_pos h2, if_neg (by omega)]
        rfl
      · rw [if_neg h2, if_pos (by omega)]
        have ep : ((tick c).setP p fun z => { z with left := 0 }).press p = { c.press p with left := 0 } := by rw [setP_press, if_pos ⟨rfl, hp⟩]; rfl
        unfold fin
        rw [ep]
        show (((tick c).setP p fun z => { z with busy := 0, left := 0, worn := z.worn + 1 }).setM _ _).setG _ _ = _
        have em : ((tick c).setP p fun z => { z with left := 0 }).setP p (fun z => { z with busy := 0, worn := z.worn + 1 }) = (tick c).setP p fun z => { z with busy := 0, left := 0, worn := z.worn + 1 } := by
          exact setP_setP _ _ _ _
        rw [em]
        rfl
theorem fold_tick {a : Abs} (G : Good a) : ∀ i, i ≤ a.presses.length → tick ((List.range i).foldl Abs.works a) = (List.range i).foldl (workP 1) (tick a)
  | 0, _ => rfl
  | i + 1, h => by
    rw [List.range_succ, List.foldl_append, List.foldl_append]
    have ih := fold_tick G i (by omega)
    have al := alike_foldl alike_works (List.range i) a
    have ho : ((List.range i).foldl (workP 1) (tick a)).press i = a.press i := fold_other 1 (tick a) i i (Nat.le_refl _)
    rw [← ih] at ho ⊢
    have ho : ((List.range i).foldl Abs.works a).press i = a.press i := ho
    show tick (Abs.works _ i) = workP 1 _ i
    exact works_tick _ (by rw [al.nP]; omega) (by rw [ho]; exact G.pb i (by omega)) (by rw [ho]; exact G.pl i (by omega))
def pre (a : Abs) : Abs := if a.auto_ then a.all Abs.takes else a
theorem good_fold {a : Abs} (G : Good a) : ∀ i, i ≤ a.presses.length → Good ((List.range i).foldl Abs.takes a)
  | 0, _ => G
  | i + 1, h => by
    rw [List.range_succ, List.foldl_append]
    have al := alike_foldl alike_takes (List.range i) a
    exact (good_fold G i (by omega)).takes (by rw [al.nP]; omega)
theorem Good.all_takes {a : Abs} (G : Good a) : Good (a.all Abs.takes) := good_fold G _ (Nat.le_refl _)
theorem Good.pre {a : Abs} (G : Good a) : Good (pre a) := by
  unfold Ty.pre
  split
  · exact G.all_takes
  · exact G
theorem alike_pre (a : Abs) : Alike a (pre a) := by
  unfold pre
  split
  · exact alike_all alike_takes a
  · exact .refl a
theorem minute_eq {a : Abs} (G : Good a) : a.minute = workAll 1 (pre a) := by
  have e : a.minute = tick ((pre a).all Abs.works) := rfl
  rw [e]
  exact fold_tick G.pre _ (Nat.le_refl _)
/-! ### presses that take nothing -/
def Idle (c : Abs) (p : Nat) : Prop := c.why p ≠ 0 ∨ c.waits (c.kind p) = []
theorem Idle.takes {c : Abs} {p : Nat} (h : Idle c p) : c.takes p = c := by
  unfold Su67.Abs.takes
  by_cases hw : c.why p = 0
  · rw [if_neg (by simp [hw])]
    rcases h with h | h
    · exact absurd hw h
    · rw [h]
  · rw [if_pos hw]
theorem waits_nil {c : Abs} {t : Nat} : c.waits t = [] ↔ ∀ g, g < c.tyres.length → ¬ ((c.tyre g).how = 0 ∧ (c.tyre g).type_ = t ∧ aged c g = false) := by
  rw [waits_eq, List.filter_filter, List.filter_eq_nil_iff]
  constructor
  · intro h g hg ⟨h1, h2, h3⟩
    refine h g (List.mem_range.mpr hg) ?_
    unfold isW
    simp [h1, h2, h3]
  · intro h g hg e
    refine h g (List.mem_range.mp hg) ?_
    unfold isW at e
    simp at e
    exact ⟨e.2.2, e.2.1, e.1⟩
theorem waits_loaded {c : Abs} {i g t : Nat} (h : c.waits t = []) : (c.loaded i g).waits t = [] := by
  rw [waits_nil] at h ⊢
  have al := alike_loaded c i g
  intro x hx ⟨h1, h2, h3⟩
  rw [al.nG] at hx
  have hag : aged (c.loaded i g) x = aged c x := by
    unfold aged
    rw [al.gc, al.gt, al.type_]
    rfl
  rw [hag] at h3
  rw [al.gt] at h2
  refine h x hx ⟨?_, h2, h3⟩
  rw [loaded_tyre] at h1
  split at h1
  · exact absurd h1 (by simp)
  · exact h1
theorem why_of {a b : Abs} {p : Nat} (h1 : (b.press p).busy = (a.press p).busy) (h2 : (b.press p).mould = (a.press p).mould) (h3 : (b.press p).worn = (a.press p).worn) (h4 : b.life = a.life) (h5 : b.dirty = a.dirty) (h6 : ∀ m, (b.mould m).used = (a.mould m).used) : b.why p = a.why p := by
  show (if (b.press p).busy ≠ 0 then (-16 : Int) else _) = (if (a.press p).busy ≠ 0 then (-16 : Int) else _)
  rw [h1, h2, h3, h4, h5, h6]
theorem Idle.step {c : Abs} {i p : Nat} (hp : p < c.presses.length) (h : Idle c p) : Idle (c.takes i) p := by
  unfold Su67.Abs.takes
  by_cases hw : c.why i = 0
  · rw [if_neg (by simp [hw])]
    cases e : c.waits (c.kind i) with
    | nil => exact h
    | cons g l =>
      show Idle (c.loaded i g) p
      by_cases ei : i = p
      · subst ei
        refine .inl ?_
        have e : ((c.loaded i g).press i).busy = 2 := by rw [loaded_press, if_pos ⟨rfl, hp⟩]
        show (if ((c.loaded i g).press i).busy ≠ 0 then (-16 : Int) else _) ≠ 0
        rw [if_pos (by rw [e]; decide)]
        decide
      · rcases h with h | h
        · refine .inl ?_
          have ep : (c.loaded i g).press p = c.press p := by rw [loaded_press, if_neg (by simp [ei])]
          rw [why_of (a := c) (b := c.loaded i g) (p := p) (by rw [ep]) (by rw [ep]) (by rw [ep]) rfl rfl fun _ => rfl]
          exact h
        · refine .inr ?_
          rw [(alike_loaded c i g).kind]
          exact waits_loaded h
  · rw [if_pos hw]
    exact h
theorem Idle.self {c : Abs} {i : Nat} (hi : i < c.presses.length) : Idle (c.takes i) i := by
  unfold Su67.Abs.takes
  by_cases hw : c.why i = 0
  · rw [if_neg (by simp [hw])]
    cases e : c.waits (c.kind i) with
    | nil => exact .inr e
    | cons g l =>
      refine .inl ?_
      have e : ((c.loaded i g).press i).busy = 2 := by rw [loaded_press, if_pos ⟨rfl, hi⟩]
      show (if ((c.loaded i g).press i).busy ≠ 0 then (-16 : Int) else _) ≠ 0
      rw [if_pos (by rw [e]; decide)]
      decide
  · rw [if_pos hw]
    exact .inl hw
theorem idle_fold {a : Abs} : ∀ i, i ≤ a.presses.length → ∀ p, p < i → Idle ((List.range i).foldl Abs.takes a) p
  | 0, _, p, h => absurd h (by omega)
  | i + 1, hi, p, h => by
    rw [List.range_succ, List.foldl_append]
    have al := alike_foldl alike_takes (List.range i) a
    show Idle (Abs.takes _ i) p
    by_cases e : p = i
    · subst e
      exact Idle.self (by rw [al.nP]; omega)
    · exact (idle_fold i (by omega) p (by omega)).step (by rw [al.nP]; omega)
theorem idle_all (a : Abs) : ∀ p, p < a.presses.length → Idle (a.all Abs.takes) p := idle_fold _ (Nat.le_refl _)
theorem all_idle {a : Abs} (h : ∀ p, p < a.presses.length → Idle a p) : a.all Abs.takes = a := by
  have : ∀ i, i ≤ a.presses.length → (List.range i).foldl Abs.takes a = a := by
    intro i
    induction i with
    | zero => intro _; rfl
    | succ i ih =>
      intro hi
      rw [List.range_succ, List.foldl_append, ih (by omega)]
      exact (h i (by omega)).takes
  exact this _ (Nat.le_refl _)
def decP (m : Nat) (x : Press) : Press := { x with left := x.left - m }
theorem dec_press (m : Nat) (a : Abs) (p : Nat) : (dec m a).press p = decP m (a.press p) := by
  show (a.presses.map (decP m)).getD p ⟨0, 0, 0, 0, 0, 0⟩ = decP m (a.presses.getD p ⟨0, 0, 0, 0, 0, 0⟩)
  rw [List.getD_eq_getElem?_getD, List.getD_eq_getElem?_getD, List.getElem?_map]
  cases e : a.presses[p]? with
  | none => simp [decP]
  | some x => rfl
theorem Idle.dec {b : Abs} {p : Nat} (m : Nat) (h : Idle b p) : Idle (Ty.dec m b) p := by
  have ep := dec_press m b p
  rcases h with h | h
  · refine .inl ?_
    rw [why_of (a := b) (b := Ty.dec m b) (p := p) (by rw [ep]; rfl) (by rw [ep]; rfl) (by rw [ep]; rfl) rfl rfl fun _ => rfl]
    exact h
  · refine .inr ?_
    have ek : (Ty.dec m b).kind p = b.kind p := by
      unfold Su67.Abs.kind
      rw [ep]
      rfl
    rw [ek]
    rw [waits_nil] at h ⊢
    intro g hg ⟨h1, h2, h3⟩
    refine h g hg ⟨h1, h2, ?_⟩
    unfold aged at h3 ⊢
    have h3 : ¬ ((b.tyre g).came + (b.type_ (b.tyre g).type_).age < b.now_ + m) := of_decide_eq_false h3
    exact decide_eq_false (by omega)
theorem alike_workAll (n : Nat) (a : Abs) : Alike a (workAll n a) := (alike_now a _).trans (alike_all (alike_workP n) _)
theorem workAll_press (n : Nat) (a : Abs) {p : Nat} (hp : p < a.presses.length) : (workAll n a).press p = pressF n (a.press p) := by
  rw [workAll_eq]
  show (a.presses.map (pressF n)).getD p _ = _
  rw [List.getD_eq_getElem?_getD, List.getElem?_map, get_press hp]
  rfl
theorem tyresF_how (n now : Nat) : ∀ (ps : List Press) (ts : List Tyre) (P : Tyre → Prop), (∀ x ∈ ts, P x) → (∀ x, P x → P { x with how := 2, at_ := now }) → ∀ x ∈ tyresF n now ps ts, P x
  | [], ts, P, h, _ => h
  | p :: ps, ts, P, h, hk => by
    refine tyresF_how n now ps _ P ?_ hk
    intro x hx
    simp only at hx
    split at hx
    · obtain ⟨i, hi⟩ := List.getElem?_of_mem hx
      rw [List.getElem?_modify] at hi
      cases e : ts[i]? with
      | none => rw [e] at hi; cases hi
      | some z =>
        rw [e] at hi
        have hz := h z (List.mem_of_getElem? e)
        have hi := Option.some.inj hi
        split at hi
        · rw [← hi]; exact hk z hz
        · rw [← hi]; exact hz
    · exact h x hx
theorem mem_tyre {a : Abs} {g : Nat} (h : g < a.tyres.length) : a.tyre g ∈ a.tyres := List.mem_of_getElem? (get_tyre h)
theorem tyre_mem {a : Abs} {x : Tyre} (h : x ∈ a.tyres) : ∃ g, g < a.tyres.length ∧ a.tyre g = x := by
  obtain ⟨p, hp⟩ := List.getElem?_of_mem h
  have hl := (List.getElem?_eq_some_iff.mp hp).1
  exact ⟨p, hl, Option.some.inj ((get_tyre hl).symm.trans hp)⟩
theorem Good.workAll {a : Abs} (G : Good a) (n : Nat) : Good (workAll n a) := by
  refine G.alike (alike_workAll n a) (fun p hp => ?_) (fun g hg => ?_)
  · rw [workAll_press n a hp]
    have h1 := G.pb p hp
    have h2 := G.pl p hp
    have h3 := G.pt p hp
    unfold pressF
    by_cases h0 : (a.press p).left = 0
    · rw [if_pos h0]; exact ⟨h1, h2, h3⟩
    · rw [if_neg h0]
      by_cases h4 : n < (a.press p).left
      · rw [if_pos h4]
        refine ⟨h1, ?_, h3⟩
        show (a.press p).left - n = 0 ↔ (a.press p).busy = 0
        omega
      · rw [if_neg h4]
        split
        · exact ⟨Nat.zero_le _, ⟨fun _ => rfl, fun _ => rfl⟩, fun z => by simp at z⟩
        · exact ⟨Nat.zero_le _, ⟨fun _ => rfl, fun _ => rfl⟩, fun z => by simp at z⟩
  · have hm : (Ty.workAll n a).tyre g ∈ (Ty.workAll n a).tyres := mem_tyre (by rw [(alike_workAll n a).nG]; exact hg)
    rw [workAll_eq] at hm ⊢
    refine tyresF_how n _ a.presses a.tyres (fun x => x.how ≤ 3) (fun x hx => ?_) (fun _ _ => Nat.le_of_ble_eq_true rfl) _ hm
    obtain ⟨g', hg', rfl⟩ := tyre_mem hx
    exact G.gh g' hg'
theorem Good.minute {a : Abs} (G : Good a) : Good a.minute := by rw [minute_eq G]; exact G.pre.workAll 1
theorem Good.goes {a : Abs} (G : Good a) : ∀ n, Good (a.goes n) := by
  intro n
  induction n generalizing a with
  | zero => exact G
  | succ n ih => exact ih G.minute
theorem goes_add (a : Abs) : ∀ m n, a.goes (m + n) = (a.goes m).goes n := by
  intro m
  induction m generalizing a with
  | zero => intro n; rw [Nat.zero_add]; rfl
  | succ m ih =>
    intro n
    rw [Nat.succ_add]
    show a.minute.goes (m + n) = (a.minute.goes m).goes n
    exact ih a.minute n
theorem goes_jump : ∀ (s : Nat) (a : Abs), Good a → (∀ x ∈ (pre a).presses, x.left ≠ 0 → s + 1 ≤ x.left) → a.goes (s + 1) = workAll (s + 1) (pre a) := by
  intro s
  induction s with
  | zero =>
    intro a G _
    exact minute_eq G
  | succ s ih =>
    intro a G h
    have h1 : ∀ x ∈ (pre a).presses, x.left ≠ 0 → 1 < x.left := fun x hx h0 => by have := h x hx h0; omega
    have em : a.minute = dec 1 (pre a) := (minute_eq G).trans (workAll_dec h1)
    have Gd : Good (dec 1 (pre a)) := by rw [← em]; exact G.minute
    have ep : pre (dec 1 (pre a)) = dec 1 (pre a) := by
      show (if (pre a).auto_ then Abs.all (dec 1 (pre a)) Abs.takes else _) = _
      by_cases hau : a.auto_ = true
      · rw [(alike_pre a).au, if_pos hau]
        refine all_idle fun p hp => Idle.dec 1 ?_
        have hp : p < (pre a).presses.length := by
          have e : (dec 1 (pre a)).presses.length = (pre a).presses.length := by show (List.map _ _).length = _; rw [List.length_map]
          rw [e] at hp; exact hp
        have e : pre a = a.all Abs.takes := by unfold pre; rw [if_pos hau]
        rw [e] at hp ⊢
        exact idle_all a p (by rw [(alike_all alike_takes a).nP] at hp; exact hp)
      · rw [(alike_pre a).au, if_neg hau]
    show a.minute.goes (s + 1) = _
    rw [em, ih _ Gd (by
      rw [ep]
      intro x hx h0
      obtain ⟨z, hz, rfl⟩ := List.mem_map.mp (show x ∈ (pre a).presses.map fun x => { x with left := x.left - 1 } from hx)
      have h0 : z.left - 1 ≠ 0 := h0
      have := h z hz (by omega)
      show s + 1 ≤ z.left - 1
      omega), ep, workAll_add h1, Nat.add_comm 1 (s + 1)]
end
section
open PySem PySem.Spec PyProof.Rows L2
theorem map_getD {α β : Type} (f : α → β) (d : β) : ∀ l : List α, l.map f = (List.range l.length).map fun k => (l.map f).getD k d := by
  intro l
  refine List.ext_getElem? fun i => ?_
  rw [List.getElem?_map, List.getElem?_map]
  by_cases h : i < l.length
  · rw [List.getElem?_range h, List.getElem?_eq_getElem h]
    simp only [Option.map_some]
    rw [List.getD_eq_getElem?_getD, List.getElem?_map, List.getElem?_eq_getElem h]
    rfl
  · rw [List.getElem?_eq_none (by omega), List.getElem?_eq_none (by rw [List.length_range]; omega)]
    rfl
section
variable {K : PySem.W.Frag} {a : Addr} {g : TG} {tt : TT} {te : TE} {vs : List Nat} {σ : L2.St} {H1 : Hp} {Q : VK}
/-- [e(x) for x in l if p(x)], l a list of objects, by the places -/
theorem lcT_objs {tl : TE} {H : Hp} {as : List Addr} (p : Nat → Bool) (e : Nat → V) (hw : ∀ R : It → Hp → Prop, R (Itl K a) H1 → iList K tl σ H R) (hl : SqL K H1 a (as.map V.ref)) (hz : as.length < sizeLine)
    (hs : ∀ (D : Addr) (k : Nat) (r : Addr) (H' : Hp) (acc : List V) (Nx : Hp → Prop), as[k]? = some r → Same H1 H' → H1 D = none → H' D = some (.lst acc) → acc.length < sizeLine →
      (p k = false → ∀ H'', Same H' H'' → Nx H'') → (p k = true → ∀ H'', Same H' H'' → Nx (upd H'' D (.lst (acc ++ [e k])))) → g (.ref r) (wipe σ vs) H' (LcTurn tt te D vs σ Nx))
    (hd : ∀ D H', H1 D = none → Same H1 H' → H' D = some (.lst (((List.range as.length).filter p).map e)) → Q (.ref D) H') : tLc (iList K tl) g tt te vs σ H Q := by
  refine lcT_list (zs := List.range as.length) (f := fun k => (as.map V.ref).getD k .non) p e hw (by rw [← map_getD]; exact hl) (by rw [List.length_range]; exact hz) (fun D k H' acc Nx hk s hD hacc hlen hno hyes => ?_) hd
  have hk' := List.mem_range.mp hk
  have er : as[k]? = some as[k] := List.getElem?_eq_getElem hk'
  have ev : (as.map V.ref).getD k .non = V.ref as[k] := by rw [List.getD_eq_getElem?_getD, List.getElem?_map, er]; rfl
  rw [ev]
  exact hs D k _ H' acc Nx er s hD hacc hlen hno hyes
end
end
section
open PySem PySem.Spec PyProof.Rows L2
/-- a comprehension's walk, from where it begins -/
def LcGo (J : It) (g : TG) (tt : TT) (te : TE) (vs : List Nat) (σ : L2.St) (H1 : Hp) (Q : VK) : Prop :=
  ∀ D, H1 D = none → ∃ W : Nat → Nat → Hp → Prop, (∃ m, W 0 m (upd H1 D (.lst []))) ∧ ∀ i m H, W i m H →
      (J.stop i H ∧ Q (.ref D) H) ∨ (J.go i H ∧ ∃ Nx : Hp → Prop, (∀ H', Nx H' → ∃ m', m' < m ∧ W (i + 1) m' H') ∧ ∀ x H', J.yld i H x H' → g x (wipe σ vs) H' fun σ2 H2 => wipe σ2 vs = wipe σ vs ∧ tt σ2 H2 fun b H3 =>
        if b = true then te σ2 H3 fun y H4 => ∃ acc, H4 D = some (.lst acc) ∧ acc.length < sizeLine ∧ Nx (upd H4 D (.lst (acc ++ [y]))) else Nx H3)
section
variable {α : Type} {K : PySem.W.Frag} {a : Addr} {g : TG} {tt : TT} {te : TE} {vs : List Nat} {σ : L2.St} {H H1 : Hp} {Q : VK}
theorem lcGo {wi : TI} (h : wi σ H fun J H1 => LcGo J g tt te vs σ H1 Q) : tLc wi g tt te vs σ H Q := h
theorem LcGo.list {zs : List α} {f : α → V} (p : α → Bool) (e : α → V) (hl : SqL K H1 a (zs.map f)) (hz : zs.length < sizeLine)
    (hs : ∀ (D : Addr) (z : α) (H' : Hp) (acc : List V) (Nx : Hp → Prop), z ∈ zs → Same H1 H' → H1 D = none → H' D = some (.lst acc) → acc.length < sizeLine →
      (p z = false → ∀ H'', Same H' H'' → Nx H'') → (p z = true → ∀ H'', Same H' H'' → Nx (upd H'' D (.lst (acc ++ [e z])))) → g (f z) (wipe σ vs) H' (LcTurn tt te D vs σ Nx))
    (hd : ∀ D H', H1 D = none → Same H1 H' → H' D = some (.lst ((zs.filter p).map e)) → Q (.ref D) H') : LcGo (Itl K a) g tt te vs σ H1 Q := lcF_list p e hl hz hs hd
theorem range_filter_map {α : Type} {p : Nat → Bool} {e : Nat → α} (i : Nat) : ((List.range (i + 1)).filter p).map e = if p i = true then ((List.range i).filter p).map e ++ [e i] else ((List.range i).filter p).map e := by
  rw [List.range_succ, filter_snoc]
  split
  · rw [List.map_append]; rfl
  · rfl
/-- [e(k) for k in range(n) if p(k)] -/
theorem LcGo.range {n : Nat} (p : Nat → Bool) (e : Nat → V) (hz : n < sizeLine)
    (hs : ∀ (D : Addr) (k : Nat) (H' : Hp) (acc : List V) (Nx : Hp → Prop), k < n → Same H1 H' → H1 D = none → H' D = some (.lst acc) → acc.length < sizeLine →
      (p k = false → ∀ H'', Same H' H'' → Nx H'') → (p k = true → ∀ H'', Same H' H'' → Nx (upd H'' D (.lst (acc ++ [e k])))) → g (.int (k : Nat)) (wipe σ vs) H' (LcTurn tt te D vs σ Nx))
    (hd : ∀ D H', H1 D = none → Same H1 H' → H' D = some (.lst (((List.range n).filter p).map e)) → Q (.ref D) H') : LcGo (Itr 0 n) g tt te vs σ H1 Q := by
  intro D hD
  refine lc_range (Qd := fun H => Q (.ref D) H) (fun i H => i ≤ n ∧ Same H1 H ∧ H D = some (.lst (((List.range i).filter p).map e))) ⟨Nat.zero_le _, same_new hD, by rw [upd_same]; rfl⟩ ?_ (fun H h => hd D H hD h.2.1 h.2.2)
  rintro i H hi ⟨_, s, hacc⟩
  rw [Int.zero_add]
  refine hs D i H _ _ hi s hD hacc ?_ ?_ ?_
  · rw [List.length_map]
    exact Nat.lt_of_le_of_lt (Nat.le_trans (List.length_filter_le _ _) (by rw [List.length_range]; omega)) hz
  · intro pz H'' s'
    refine ⟨hi, s.trans s', ?_⟩
    rw [range_filter_map, if_neg (by rw [pz]; exact Bool.noConfusion)]
    exact s' _ _ hacc
  · intro pz H'' s'
    refine ⟨hi, upd_same_of (s.trans s') hD, ?_⟩
    rw [range_filter_map, if_pos pz, upd_same]
/-- [e(z) for z in t if p(z)], t a tuple that holds f(z) of zs -/
theorem LcGo.tup {zs : List α} {f : α → V} (p : α → Bool) (e : α → V) (hl : SqT K H1 a (zs.map f)) (hq : ∀ H', Same H1 H' → SqT K H' a (zs.map f)) (hz : zs.length < sizeLine)
    (hs : ∀ (D : Addr) (z : α) (H' : Hp) (acc : List V) (Nx : Hp → Prop), z ∈ zs → Same H1 H' → H1 D = none → H' D = some (.lst acc) → acc.length < sizeLine →
      (p z = false → ∀ H'', Same H' H'' → Nx H'') → (p z = true → ∀ H'', Same H' H'' → Nx (upd H'' D (.lst (acc ++ [e z])))) → g (f z) (wipe σ vs) H' (LcTurn tt te D vs σ Nx))
    (hd : ∀ D H', H1 D = none → Same H1 H' → H' D = some (.lst ((zs.filter p).map e)) → Q (.ref D) H') : LcGo (Itt K a) g tt te vs σ H1 Q := by
  intro D hD
  refine lc_tup (xs := zs.map f) (Qd := fun H => Q (.ref D) H) (fun i H => Same H1 H ∧ H D = some (.lst (((zs.take i).filter p).map e))) ⟨same_new hD, by rw [upd_same]; simp⟩ (fun i H _ h => hq H h.1) ?_ ?_
  · rintro i x H hx ⟨s, hacc⟩
    obtain ⟨z, hzi, rfl⟩ : ∃ z, zs[i]? = some z ∧ f z = x := by
      rw [List.getElem?_map] at hx
      cases q : zs[i]? with
      | none => rw [q] at hx; cases hx
      | some z => rw [q] at hx; exact ⟨z, rfl, Option.some.inj hx⟩
    refine hs D z H _ _ (List.mem_of_getElem? hzi) s hD hacc ?_ ?_ ?_
    · rw [List.length_map]
      exact Nat.lt_of_le_of_lt (Nat.le_trans (List.length_filter_le _ _) (by rw [List.length_take]; exact Nat.min_le_right _ _)) hz
    · intro pz H'' s'
      refine ⟨s.trans s', ?_⟩
      rw [take_snoc hzi, filter_snoc, if_neg (by rw [pz]; exact Bool.noConfusion)]
      exact s' _ _ hacc
    · intro pz H'' s'
      refine ⟨upd_same_of (s.trans s') hD, ?_⟩
      rw [take_snoc hzi, filter_snoc, if_pos pz, upd_same, List.map_append]
      rfl
  · rintro H ⟨s, h⟩
    rw [List.length_map, List.take_length] at h
    exact hd D H hD s h
theorem LcGo.objs {as : List Addr} (p : Nat → Bool) (e : Nat → V) (hl : SqL K H1 a (as.map V.ref)) (hz : as.length < sizeLine)
    (hs : ∀ (D : Addr) (k : Nat) (r : Addr) (H' : Hp) (acc : List V) (Nx : Hp → Prop), as[k]? = some r → Same H1 H' → H1 D = none → H' D = some (.lst acc) → acc.length < sizeLine →
      (p k = false → ∀ H'', Same H' H'' → Nx H'') → (p k = true → ∀ H'', Same H' H'' → Nx (upd H'' D (.lst (acc ++ [e k])))) → g (.ref r) (wipe σ vs) H' (LcTurn tt te D vs σ Nx))
    (hd : ∀ D H', H1 D = none → Same H1 H' → H' D = some (.lst (((List.range as.length).filter p).map e)) → Q (.ref D) H') : LcGo (Itl K a) g tt te vs σ H1 Q := by
  refine LcGo.list (zs := List.range as.length) (f := fun k => (as.map V.ref).getD k .non) p e (by rw [← map_getD]; exact hl) (by rw [List.length_range]; exact hz) (fun D k H' acc Nx hk s hD hacc hlen hno hyes => ?_) hd
  have hk' := List.mem_range.mp hk
  have er : as[k]? = some as[k] := List.getElem?_eq_getElem hk'
  have ev : (as.map V.ref).getD k .non = V.ref as[k] := by rw [List.getD_eq_getElem?_getD, List.getElem?_map, er]; rfl
  rw [ev]
  exact hs D k _ H' acc Nx er s hD hacc hlen hno hyes
/-- [f(x) for x in l], l a list of objects; f makes a new one each time -/
theorem LcGo.news {C : Addr} {F : α → List (Str × V)} {as : List Addr} {xs : List α} (hn : as.length = xs.length) (hl : SqL K H1 a (as.map V.ref)) (hz : as.length < sizeLine)
    (hs : ∀ (D : Addr) (k : Nat) (r : Addr) (x : α) (H' : Hp) (acc : List V) (Nx : Hp → Prop), as[k]? = some r → xs[k]? = some x → Same H1 H' → H1 D = none → H' D = some (.lst acc) → acc.length < sizeLine →
      (∀ H'' p dx, Same H' H'' → H' p = none → H'' p = some (.ins C dx (F x)) → Nx (upd H'' D (.lst (acc ++ [V.ref p])))) → g (.ref r) (wipe σ vs) H' (LcTurn tt te D vs σ Nx))
    (hd : ∀ D H' bs, H1 D = none → Same H1 H' → (∀ r ∈ bs, H1 r = none) → Objs C F H' D bs xs → Q (.ref D) H') : LcGo (Itl K a) g tt te vs σ H1 Q := by
  intro D hD
  have sub : ∀ H', Same H1 H' → SqL K H' a (as.map V.ref) := fun H' s => s.seq hl
  refine lc_list (xs := as.map V.ref) (Qd := fun H => Q (.ref D) H) (fun i H => Same H1 H ∧ ∃ bs : List Addr, Objs C F H D bs (xs.take i) ∧ ∀ r ∈ bs, H1 r = none) ⟨same_new hD, [], nil_objs upd_same, fun r h => absurd h (by simp)⟩ (fun i H _ h => sub H h.1) ?_ ?_
  · rintro i v H hx ⟨s, bs, O, hb⟩
    obtain ⟨r, hr, rfl⟩ : ∃ r, as[i]? = some r ∧ V.ref r = v := by
      rw [List.getElem?_map] at hx
      cases q : as[i]? with
      | none => rw [q] at hx; cases hx
      | some z => rw [q] at hx; exact ⟨z, rfl, Option.some.inj hx⟩
    have hi : i < xs.length := by rw [← hn]; exact (List.getElem?_eq_some_iff.mp hr).1
    have hxi : xs[i]? = some xs[i] := List.getElem?_eq_getElem hi
    have hbl : bs.length = i := by rw [O.len, List.length_take]; omega
    refine hs D i r xs[i] H _ _ hr hxi s hD O.lst (by rw [List.length_map, hbl, ← hn] at *; omega) fun H'' p dx s' hp hp'' => ?_
    have nDp : D ≠ p := ne_of_none O.lst hp
    refine ⟨upd_same_of (s.trans s') hD, bs ++ [p], ?_, fun r hr => ?_⟩
    · rw [take_snoc hxi]
      refine O.snoc (dx := dx) (by rw [upd_ne (Ne.symm nDp)]; exact hp'') hp (fun b o h n => by rw [upd_ne n]; exact s' b o h) upd_same
    · rcases List.mem_append.mp hr with z | z
      · exact hb r z
      · rw [List.mem_singleton.mp z]; exact s.free hp
  · rintro H ⟨s, bs, O, hb⟩
    rw [List.length_map, hn, List.take_length] at O
    exact hd D H bs hD s hb O
/-- for k, x in enumerate(l) -/
theorem for_enum {K : PySem.W.Frag} {a : Addr} {xs : List V} {i0 i1 : Nat} {tb : TS} {D : Ends} {σ : L2.St} {H : Hp} (Pv : Nat → L2.St → Hp → Prop) (h0 : Pv 0 σ H) (hl : ∀ i σ H, i ≤ xs.length → Pv i σ H → SqL K H a xs)
    (hs : ∀ i x σ H H', xs[i]? = some x → Pv i σ H → Same H H' → tb { D with nx := Pv (i + 1), ct := Pv (i + 1), bk := D.nx } ((σ.set i0 (some (.int (i : Nat)))).set i1 (some x)) H') (hd : ∀ σ H, Pv xs.length σ H → D.nx σ H) :
    ∃ W : Nat → Nat → L2.St → Hp → Prop, (∃ m, W 0 m σ H) ∧ ∀ i m σ H, W i m σ H →
      ((Ite K a).stop i H ∧ D.nx σ H) ∨ ((Ite K a).go i H ∧ ∃ N : L2.St → Hp → Prop, (∀ σ' H', N σ' H' → ∃ m', m' < m ∧ W (i + 1) m' σ' H') ∧ ∀ x H', (Ite K a).yld i H x H' → (gTup K 2 (gCons (gName i0) (gCons (gName i1) gNil))) x σ H' fun σ2 H2 => tb { D with nx := N, ct := N, bk := D.nx } σ2 H2) := by
  refine ⟨fun i m σ H => m = xs.length - i ∧ i ≤ xs.length ∧ Pv i σ H, ⟨xs.length, by simp, Nat.zero_le _, h0⟩, ?_⟩
  rintro i m σ H ⟨rfl, hi, p⟩
  have q := hl i σ H hi p
  by_cases hlt : i < xs.length
  · refine .inr ⟨⟨xs, xs[i], q, by simp [hlt]⟩, Pv (i + 1), fun σ' H' p' => ⟨xs.length - (i + 1), by omega, rfl, hlt, p'⟩, fun x H' y => ?_⟩
    obtain ⟨T, v, rfl, hT, rfl, hv⟩ := y
    refine ⟨T, _, rfl, SqT.of upd_same, rfl, _, _, rfl, _, _, rfl, rfl, ?_⟩
    exact hs i v σ H _ (hv xs q) p (same_new hT)
  · have e : i = xs.length := by omega
    subst e
    exact .inl ⟨⟨xs, q, Nat.le_refl _⟩, hd σ H p⟩
end
end
section
open PySem PySem.Spec PyProof.Rows L2
section
variable {P : Program} {w : World} {K : PySem.W.Frag} {mg : Str → Option Value} {base : Heap} {A : Adr}
def sp_pass_minutes (K : PySem.W.Frag) (A : Adr) : Sp := fun vs H Q _ => ∃ (q : Addr) (y : Lay) (b : Bool) (a : Su67.Abs) (n : Nat), vs = [.ref q, .int (n : Nat)] ∧ Rep A H q y b a ∧ Good a ∧ Turns A q y H b (a.goes n) Q
def slotI (i : Nat) (σ : L2.St) : Nat := match σ[i]? with
  | some (some (.int r)) => r.toNat
  | _ => 0
theorem ok_pass_minutes (T : Txt K mg A) : FnOk P w K mg base CX0 4 A.f_pass_minutes A.d_pass_minutes ["plant", "n"] (sp_pass_minutes K A) := by
  refine T.F_pass_minutes.ok sc_pass_minutes (fun vs H Q E h => ?_) (fun cdv A' outer s H vs Q E hr h => ?_)
  · obtain ⟨q, y, b, a, n, rfl, _⟩ := h
    rfl
  · obtain ⟨q, y, b, a, n, rfl, R, G, k⟩ := h
    refine ⟨_, (pss_cons (ps_set (i := 2) sc_pass_minutes.nd rfl (Or.inl rfl) (pv 1))
        (pss_one (ps_while PassesOwn.never (pt_cmpR op_gt (pv 2) pe_int (nomark _)) (pss_cons (ps_if (pt_cmpR op_eq (pe_fld (pv 0) rfl) pe_int (nomark _)) (pss_one (ps_expr (pe_call (ok_load_presses T) (hr.mono (by decide)) rfl T.m_load_presses T.F_load_presses.kp T.b_load_presses .nil pass0 (pa_cons (pv 0) pa_nil)))) pss_nil)
        (pss_cons (ps_set (i := 3) sc_pass_minutes.nd rfl (Or.inl rfl) (pe_callB (cr_min rfl) rfl T.u_min PyProof.Rows.boot_min (pa_cons (pe_op op_cat (pe_lst (pa_cons (pv 2) pa_nil)) (pe_lc (own := [("press", 4)]) rfl sc_pass_minutes.nd (pi_list (pe_fld (pv 0) rfl)) (blkOk_by (by rfl)) (fun _ _ _ _ _ => (pg_name (i := 4) sc_pass_minutes.nd rfl (Or.inl rfl))) (fun _ _ _ _ _ => (pts_one (pt_cmpR op_gt (pe_fldK (K := K) rfl (pv 4) rfl) pe_int (nomark _)))) (fun _ _ _ _ _ => (pe_fldK (K := K) rfl (pv 4) rfl)))) pa_nil)))
        (pss_cons (ps_expr (pe_call (ok_work_on T) (hr.mono (by decide)) rfl T.m_work_on T.F_work_on.kp T.b_work_on .nil pass0 (pa_cons (pv 0) (pa_cons (pv 3) pa_nil))))
        (pss_one (ps_aug (i := 2) sc_pass_minutes.nd rfl (Or.inl rfl) (pv 3) ip_sub)))))))), ?_⟩
    refine ⟨_, rfl, ?_⟩
    refine while_by (fun σ H' => ∃ (r : Nat) (v3 v4 : Option V), σ = [some (.ref q), some (.int (n : Nat)), some (.int (r : Nat)), v3, v4] ∧ r ≤ n ∧ Rep A H' q y b (a.goes (n - r)) ∧ Frame q y H y H') (fun σ _ => slotI 2 σ) ⟨n, _, _, rfl, Nat.le_refl _, by rw [Nat.sub_self]; exact R, Frame.refl _ _ _⟩ ?_ ?_
    · rintro σ H' ⟨r, v3, v4, rfl, hrn, R', f⟩
      have G' := G.goes (n - r)
      refine ⟨_, rfl, _, _, rfl, rfl, _, rfl, ite2 (fun h0 => ?_) (fun h0 => ?_)⟩
      · have h0 : 0 < r := by simpa using h0
        obtain ⟨dx, hq⟩ := id R'.pl
        refine ⟨_, rfl, q, A.c_Plant, dx, _, _, rfl, hq, T.cl_Plant, T.n_Plant_auto, rfl, rfl, _, rfl, ?_⟩
        generalize hc : a.goes (n - r) = c at R' G' hq ⊢
        refine ite2 (fun ha => ?_) (fun ha => ?_)
        all_goals first
          | (refine ⟨_, rfl, q, y, b, c, rfl, R', G', fun H1 R1 f1 => ?_⟩
             have ep : pre c = c.all Su67.Abs.takes := by
               unfold pre
               cases hau : c.auto_ with
               | true => rfl
               | false => rw [hau] at ha; exact absurd ha (by decide)
             rw [← ep] at R1
             replace f1 := f.trans f1)
          | (have ep : pre c = c := by
               unfold pre
               cases hau : c.auto_ with
               | false => rfl
               | true => rw [hau] at ha; exact absurd rfl ha
             have R1 := R'
             have f1 := f
             rw [← ep] at R1
             generalize H' = H1 at R1 f1 ⊢)
        all_goals clear ep ha
        all_goals
          refine ⟨_, rfl, size1, fun l1 hl1 => ?_⟩
          have s1 : Same H1 (upd H1 l1 (.lst [.int (r : Nat)])) := same_new hl1
          have R2 := R1.same s1
          have G2 := G'.pre
          obtain ⟨dx2, hq2⟩ := id R2.pl
          have hpl2 := R2.pr.lst
          have h5 : y.ap.length < sizeLine := by rw [R2.pr.len]; exact size60 (Nat.le_trans G2.nP (by decide))
          refine lcT_objs (fun p => decide (0 < ((pre c).press p).left)) (fun p => natV ((pre c).press p).left) ?_ (SqL.of hpl2) h5 ?_ ?_
          · exact fun Rr hR => ⟨_, rfl, q, A.c_Plant, dx2, _, _, rfl, hq2, T.cl_Plant, T.n_Plant_presses, rfl, _, rfl, ⟨_, SqL.of hpl2⟩, hR⟩
          · intro D p rp H3 acc Nx hp s3 hD hacc hlen hno hyes
            have hp' : p < (pre c).presses.length := by rw [← R2.pr.len]; exact (List.getElem?_eq_some_iff.mp hp).1
            obtain ⟨rp', dp, e1, hP⟩ := (R2.same s3).press hp'
            cases hp.symm.trans e1
            refine ⟨rfl, ?_⟩
            simp! only [T.all, hP, wipe, hacc]
            refine ite2 (fun h1 => ⟨hlen, hyes (decide_eq_true (by omega)) H3 (Same.refl _)⟩) fun h1 => hno (decide_eq_false (by omega)) H3 (Same.refl _)
          · intro D H3 hD s3 hl3
            have s13 := s1.trans s3
            refine ⟨l1, D, _, _, rfl, rfl, s3 _ _ upd_same, hl3, ?_, fun l2 hl2 => ?_⟩
            · refine Nat.le_of_lt (size60 ?_)
              have : (List.map (fun p => natV ((pre c).press p).left) ((List.range y.ap.length).filter fun p => decide (0 < ((pre c).press p).left))).length ≤ y.ap.length := by
                rw [List.length_map]
                exact Nat.le_trans (List.length_filter_le _ _) (by rw [List.length_range]; exact Nat.le_refl _)
              have h9 : y.ap.length ≤ 5 := by rw [R2.pr.len]; exact G2.nP
              show 1 + _ ≤ 60
              omega
            · have s4 : ∀ u, Same H1 (upd H3 l2 u) := fun u e o h => by
                rw [upd_ne (ne_of_none (s13 _ _ h) hl2)]; exact s13 _ _ h
              refine ⟨l2, (r :: (((List.range y.ap.length).filter fun p => decide (0 < ((pre c).press p).left)).map fun p => ((pre c).press p).left)).map (fun k : Nat => (k : Int)), rfl, SqL.of (upd_same.trans ?_), by simp, fun m hm hmin => ?_⟩
              · simp [natV]
              · obtain ⟨m', hm', rfl⟩ := List.mem_map.mp hm
                have hle : m' ≤ r := by
                  have := hmin (r : Int) (List.mem_map.mpr ⟨r, List.mem_cons_self .., rfl⟩)
                  omega
                have hpos : 1 ≤ m' := by
                  rcases List.mem_cons.mp hm' with e | e
                  · omega
                  · obtain ⟨p, hp, e⟩ := List.mem_map.mp e
                    have := of_decide_eq_true (List.mem_filter.mp hp).2
                    omega
                have hall : ∀ p, p < (pre c).presses.length → ((pre c).press p).left ≠ 0 → m' ≤ ((pre c).press p).left := fun p hp h => by
                  have := hmin (((pre c).press p).left : Int) (List.mem_map.mpr ⟨_, List.mem_cons_of_mem _ (List.mem_map.mpr ⟨p, List.mem_filter.mpr ⟨List.mem_range.mpr (by rw [R2.pr.len]; exact hp), decide_eq_true (by omega)⟩, rfl⟩), rfl⟩)
                  omega
                refine ⟨_, rfl, _, rfl, q, y, b, pre c, m', rfl, R1.same (s4 _), G2, hall, fun H5 R5 f5 => ?_⟩
                refine ⟨_, rfl, _, rfl, _, _, rfl, rfl, ?_⟩
                have ej : c.goes m' = workAll m' (pre c) := by
                  obtain ⟨t, rfl⟩ : ∃ t, m' = t + 1 := ⟨m' - 1, by omega⟩
                  refine goes_jump t c G' fun x hx h => ?_
                  obtain ⟨p, hp, rfl⟩ := mem_press hx
                  exact hall p hp h
                rw [← ej, ← hc, ← goes_add, show n - r + m' = n - (r - m') by omega] at R5
                refine ⟨⟨r - m', some (.int (m' : Nat)), v4, ?_, by omega, R5, f1.trans ((Frame.of_same (s4 _)).trans f5)⟩, ?_⟩
                · show _ = [_, _, some (V.int ((r - m' : Nat) : Int)), _, _]
                  rw [show ((r - m' : Nat) : Int) = (r : Int) - (m' : Int) by omega]
                  rfl
                · show ((r : Int) - (m' : Int)).toNat < ((r : Nat) : Int).toNat
                  omega
      · have h0 : r = 0 := by
          have : ¬ (0 < r) := by simpa using h0
          omega
        subst h0
        exact k H' R' f
    · rintro σ H' Q1 Q2 hq12 ⟨v, h1, i, j, e1, e2, z, e3, h⟩
      exact ⟨v, h1, i, j, e1, e2, z, e3, hq12 _ _ h⟩
end
end
section
open PySem PySem.Spec PyProof.Rows L2
section
variable {P : Program} {w : World} {K : PySem.W.Frag} {mg : Str → Option Value} {base : Heap} {A : Adr}
theorem lay_no {q : Addr} {y : Lay} {H : Hp} {b : Bool} {a : Su67.Abs} {v : Int} {Q : VK} (R : Rep A H q y b a) (k : Told A q y H b (a, Su67.no v) Q) : 1 ≤ sizeLine ∧ ∀ (p : Addr), H p = none → Q (V.ref p) (upd H p (HO.lst [V.int v])) := ⟨size1, fun p hp => k.lay0 R hp rfl rfl⟩
theorem Frame.free {q : Addr} {y : Lay} {H H' : Hp} (f : Frame q y H y H') {b : Bool} {a : Su67.Abs} (R : Rep A H' q y b a) {p : Addr} (hp : H' p = none) : H p = none := free_of f R (fun _ h => h) hp
theorem lay_num {q : Addr} {y : Lay} {H H2 : Hp} {b : Bool} {a2 : Su67.Abs} {n : Nat} {Q : VK} (R2 : Rep A H2 q y b a2) (f2 : Frame q y H y H2) (k : Told A q y H b (a2, Su67.num n []) Q) : 1 ≤ sizeLine ∧ ∀ (p : Addr), H2 p = none → Q (V.ref p) (upd H2 p (HO.lst [V.int (n : Nat)])) :=
  ⟨size1, fun p hp => k.lay R2 f2 hp (f2.free R2 hp) rfl⟩
theorem no_false {c : Prop} [Decidable c] (h : c) : ¬ decide c = false := by rw [decide_eq_true h]; exact Bool.noConfusion
def sp_clean (K : PySem.W.Frag) (A : Adr) : Sp := fun vs H Q _ => ∃ (q : Addr) (y : Lay) (a : Su67.Abs) (m : Nat), vs = [.ref q, .int (m : Nat)] ∧ Rep A H q y true a ∧ Good a ∧ Told A q y H true (Su67.does a (.clean m)) Q
theorem ok_clean (T : Txt K mg A) : FnOk P w K mg base CX0 1 A.f_clean A.d_clean ["plant", "m"] (sp_clean K A) := by
  refine T.F_clean.ok sc_clean (fun vs H Q E h => ?_) (fun cdv A' outer s H vs Q E hr h => ?_)
  · obtain ⟨q, y, a, m, rfl, _⟩ := h
    rfl
  · obtain ⟨q, y, a, m, rfl, R, G, k⟩ := h
    obtain ⟨dx, hq⟩ := id R.pl
    have hml := R.mo.lst
    have hd : Su67.does a (.clean m) = if decide (m < a.moulds.length) = false then (a, Su67.no (-2)) else if (a.mould m).in_ ≠ 0 then (a, Su67.no (-16)) else if (a.mould m).used = 0 then (a, Su67.no (-17)) else (a.setM m fun x => { x with used := 0 }, Su67.num (a.mould m).used []) := rfl
    refine ⟨_, (pss_cons (ps_if (pt_cmpR op_ge (pv 1) (pe_callB call_lenL rfl T.u_len PySem.boot_len (pa_cons (pe_fld (pv 0) rfl) pa_nil)) (nomark _)) (pss_one (ps_ret (pe_lst (pa_cons (pe_gi rfl T.v_NONE_SUCH) pa_nil)))) pss_nil)
        (pss_cons (ps_set (i := 2) sc_clean.nd rfl (Or.inl rfl) (pe_ix ix_lst (pe_fld (pv 0) rfl) (pv 1) (fun _ _ => rfl)))
        (pss_cons (ps_if (pt_cmpR op_notN (pe_fld (pv 2) rfl) pe_non (nomark _)) (pss_one (ps_ret (pe_lst (pa_cons (pe_gi rfl T.v_NOT_IDLE) pa_nil)))) pss_nil)
        (pss_cons (ps_if (pt_cmpR op_eq (pe_fld (pv 2) rfl) pe_int (nomark _)) (pss_one (ps_ret (pe_lst (pa_cons (pe_gi rfl T.v_ALREADY) pa_nil)))) pss_nil)
        (pss_cons (ps_set (i := 3) sc_clean.nd rfl (Or.inl rfl) (pe_fld (pv 2) rfl))
        (pss_cons (ps_fld (pv 2) pe_int rfl)
        (pss_one (ps_ret (pe_lst (pa_cons (pv 3) pa_nil)))))))))), ?_⟩
    by_cases h1 : m < a.moulds.length
    · obtain ⟨rm, dm, e1, hM⟩ := R.mould h1
      have a1 := at_ref e1
      rw [if_neg (by rw [decide_eq_true h1]; exact Bool.noConfusion)] at hd
      simp! only [T.all, hq, hml, List.length_map, R.mo.len, a1, hM]
      rw [if_neg (by omega)]
      by_cases h2 : (a.mould m).in_ = 0
      · rw [if_neg (by simp [h2])] at hd
        rw [opt_non h2, if_neg (by simp)]
        by_cases h3 : (a.mould m).used = 0
        · rw [hd, if_pos h3] at k
          rw [if_pos (by omega)]
          exact lay_no R k
        · rw [hd, if_neg h3] at k
          rw [if_neg (by omega)]
          obtain ⟨R2, f2⟩ := R.setM (dx := dm) (f := fun x => { x with used := 0 }) (fs := putF "cures" (.int 0) (moF (a.mould m))) T e1 hM rfl
          exact lay_num R2 f2 k
      · rw [hd, if_pos h2] at k
        rw [opt_int h2, if_pos (by simp)]
        exact lay_no R k
    · have hd : Su67.does a (.clean m) = (a, Su67.no (-2)) := by rw [hd, if_pos (decide_eq_false h1)]
      rw [hd] at k
      refine seqR fun N => ?_
      simp! only [T.all, hq, hml, List.length_map, R.mo.len]
      rw [if_pos (by omega)]
      exact lay_no R k
def sp_set_auto (K : PySem.W.Frag) (A : Adr) : Sp := fun vs H Q _ => ∃ (q : Addr) (y : Lay) (a : Su67.Abs) (m : Nat), vs = [.ref q, .int (m : Nat)] ∧ Rep A H q y true a ∧ Good a ∧ Told A q y H true (Su67.does a (.auto_ m)) Q
theorem ok_set_auto (T : Txt K mg A) : FnOk P w K mg base CX0 1 A.f_set_auto A.d_set_auto ["plant", "b"] (sp_set_auto K A) := by
  refine T.F_set_auto.ok sc_set_auto (fun vs H Q E h => ?_) (fun cdv A' outer s H vs Q E hr h => ?_)
  · obtain ⟨q, y, a, m, rfl, _⟩ := h
    rfl
  · obtain ⟨q, y, a, m, rfl, R, G, k⟩ := h
    obtain ⟨dx, hq⟩ := id R.pl
    have hd : Su67.does a (.auto_ m) = if 1 < m then (a, Su67.no (-22)) else ({ a with auto_ := m == 1 }, Su67.num (Su67.bit a.auto_) []) := rfl
    refine ⟨_, (pss_cons (ps_if (pt_cmpR op_gt (pv 1) pe_int (nomark _)) (pss_one (ps_ret (pe_lst (pa_cons (pe_gi rfl T.v_OUT_OF_RANGE) pa_nil)))) pss_nil)
        (pss_cons (ps_set (i := 2) sc_set_auto.nd rfl (Or.inl rfl) (pe_fld (pv 0) rfl))
        (pss_cons (ps_fld (pv 0) (pv 1) rfl)
        (pss_one (ps_ret (pe_lst (pa_cons (pv 2) pa_nil))))))), ?_⟩
    simp! only [T.all, hq]
    by_cases h1 : 1 < m
    · rw [hd, if_pos h1] at k
      rw [if_pos (by omega)]
      exact lay_no R k
    · rw [hd, if_neg h1] at k
      rw [if_neg (by omega)]
      have em : m = Su67.bit (m == 1) := by
        rcases Nat.lt_or_ge 0 m with z | z
        · have : m = 1 := by omega
          subst this; rfl
        · have : m = 0 := by omega
          subst this; rfl
      obtain ⟨R2, f2⟩ := R.setA (b' := true) (a' := { a with auto_ := m == 1 }) (dx := dx) (fs := putF "auto" (.int (m : Nat)) (plF true a y)) T (by
        show putF "auto" (.int (m : Nat)) (plF true a y) = plF true { a with auto_ := m == 1 } y
        have e2 : plF true { a with auto_ := m == 1 } y = putF "auto" (.int ((Su67.bit (m == 1) : Nat) : Int)) (plF true a y) := rfl
        rw [e2, ← em]) rfl rfl rfl rfl
      exact lay_num R2 f2 k
def sp_scrap (K : PySem.W.Frag) (A : Adr) : Sp := fun vs H Q _ => ∃ (q : Addr) (y : Lay) (a : Su67.Abs) (m : Nat), vs = [.ref q, .int (m : Nat)] ∧ Rep A H q y true a ∧ Good a ∧ Told A q y H true (Su67.does a (.scrap m)) Q
theorem ok_scrap (T : Txt K mg A) : FnOk P w K mg base CX0 1 A.f_scrap A.d_scrap ["plant", "g"] (sp_scrap K A) := by
  refine T.F_scrap.ok sc_scrap (fun vs H Q E h => ?_) (fun cdv A' outer s H vs Q E hr h => ?_)
  · obtain ⟨q, y, a, m, rfl, _⟩ := h
    rfl
  · obtain ⟨q, y, a, m, rfl, R, G, k⟩ := h
    obtain ⟨dx, hq⟩ := id R.pl
    have hgl := R.ty.lst
    have hd : Su67.does a (.scrap m) = if decide (m < a.tyres.length) = false then (a, Su67.no (-2)) else if (a.tyre m).how = 1 then (a, Su67.no (-16)) else if (a.tyre m).how = 3 then (a, Su67.no (-17)) else (a.setG m fun x => { x with how := 3 }, Su67.num (a.tyre m).how []) := rfl
    refine ⟨_, (pss_cons (ps_if (pt_cmpR op_ge (pv 1) (pe_callB call_lenL rfl T.u_len PySem.boot_len (pa_cons (pe_fld (pv 0) rfl) pa_nil)) (nomark _)) (pss_one (ps_ret (pe_lst (pa_cons (pe_gi rfl T.v_NONE_SUCH) pa_nil)))) pss_nil)
        (pss_cons (ps_set (i := 2) sc_scrap.nd rfl (Or.inl rfl) (pe_ix ix_lst (pe_fld (pv 0) rfl) (pv 1) (fun _ _ => rfl)))
        (pss_cons (ps_if (pt_cmpR op_eq (pe_fld (pv 2) rfl) (pe_gi rfl T.v_PRESSED) (nomark _)) (pss_one (ps_ret (pe_lst (pa_cons (pe_gi rfl T.v_NOT_IDLE) pa_nil)))) pss_nil)
        (pss_cons (ps_if (pt_cmpR op_eq (pe_fld (pv 2) rfl) (pe_gi rfl T.v_SCRAPPED) (nomark _)) (pss_one (ps_ret (pe_lst (pa_cons (pe_gi rfl T.v_ALREADY) pa_nil)))) pss_nil)
        (pss_cons (ps_set (i := 3) sc_scrap.nd rfl (Or.inl rfl) (pe_fld (pv 2) rfl))
        (pss_cons (ps_fld (pv 2) (pe_gi rfl T.v_SCRAPPED) rfl)
        (pss_one (ps_ret (pe_lst (pa_cons (pv 3) pa_nil)))))))))), ?_⟩
    by_cases h1 : m < a.tyres.length
    · obtain ⟨rm, dm, e1, hM⟩ := R.tyre h1
      have a1 := at_ref e1
      rw [if_neg (no_false h1)] at hd
      simp! only [T.all, hq, hgl, List.length_map, R.ty.len, a1, hM]
      rw [if_neg (by omega)]
      by_cases h2 : (a.tyre m).how = 1
      · rw [hd, if_pos h2] at k
        rw [if_pos (by omega)]
        exact lay_no R k
      · rw [if_neg h2] at hd
        rw [if_neg (by omega)]
        by_cases h3 : (a.tyre m).how = 3
        · rw [hd, if_pos h3] at k
          rw [if_pos (by omega)]
          exact lay_no R k
        · rw [hd, if_neg h3] at k
          rw [if_neg (by omega)]
          obtain ⟨R2, f2⟩ := R.setG (dx := dm) (f := fun x => { x with how := 3 }) (fs := putF "stage" (.int 3) (tyF (a.tyre m))) T e1 hM rfl
          exact lay_num R2 f2 k
    · have hd : Su67.does a (.scrap m) = (a, Su67.no (-2)) := by rw [hd, if_pos (decide_eq_false h1)]
      rw [hd] at k
      refine seqR fun N => ?_
      simp! only [T.all, hq, hgl, List.length_map, R.ty.len]
      rw [if_pos (by omega)]
      exact lay_no R k
theorem setP_busied (a : Su67.Abs) (p : Nat) (f : Su67.Press → Su67.Press) : (a.setP p f).busied p = a.setP p (fun x => if a.change = 0 then f x else { f x with busy := 1, left := a.change }) := by
  show (if a.change = 0 then a.setP p f else (a.setP p f).setP p fun x => { x with busy := 1, left := a.change }) = _
  by_cases h : a.change = 0
  · rw [if_pos h]
    simp only [h, if_true]
  · rw [if_neg h, setP_setP]
    simp only [h, if_false]
theorem prF_busied {x z : Su67.Press} {c : Nat} (hb : x.busy = 0) (hl : x.left = 0) (hz : z.busy = x.busy) (hz2 : z.left = x.left) (v1 v2 v3 : V) (h1 : v1 = opt z.mould) (h2 : v2 = .int (z.bladder : Nat)) (h3 : v3 = .int (z.worn : Nat)) :
    [(("mould" : Str), v1), (("bladder" : Str), v2), (("cures" : Str), v3), (("left" : Str), V.int (c : Nat)), (("tyre" : Str), if x.busy = 2 then V.int (x.tyre : Nat) else V.non)] = prF (if c = 0 then z else { z with busy := 1, left := c }) := by
  subst h1 h2 h3
  rw [if_neg (by omega)]
  by_cases h : c = 0
  · rw [if_pos h]
    unfold prF
    rw [if_neg (by omega), hz2, hl, h]
  · rw [if_neg h]
    rfl
def sp_renew_bladder (K : PySem.W.Frag) (A : Adr) : Sp := fun vs H Q _ => ∃ (q : Addr) (y : Lay) (a : Su67.Abs) (m : Nat), vs = [.ref q, .int (m : Nat)] ∧ Rep A H q y true a ∧ Good a ∧ Told A q y H true (Su67.does a (.bladder m)) Q
theorem ok_renew_bladder (T : Txt K mg A) : FnOk P w K mg base CX0 1 A.f_renew_bladder A.d_renew_bladder ["plant", "p"] (sp_renew_bladder K A) := by
  refine T.F_renew_bladder.ok sc_renew_bladder (fun vs H Q E h => ?_) (fun cdv A' outer s H vs Q E hr h => ?_)
  · obtain ⟨q, y, a, m, rfl, _⟩ := h
    rfl
  · obtain ⟨q, y, a, p, rfl, R, G, k⟩ := h
    obtain ⟨dx, hq⟩ := id R.pl
    have hpl := R.pr.lst
    have hd : Su67.does a (.bladder p) = if decide (p < a.presses.length) = false then (a, Su67.no (-2)) else if (a.press p).busy ≠ 0 then (a, Su67.no (-16)) else if (a.press p).worn = 0 then (a, Su67.no (-17)) else
      ((a.setP p fun x => { x with worn := 0, bladder := x.bladder + 1 }).busied p, Su67.num (a.press p).worn []) := rfl
    refine ⟨_, (pss_cons (ps_if (pt_cmpR op_ge (pv 1) (pe_callB call_lenL rfl T.u_len PySem.boot_len (pa_cons (pe_fld (pv 0) rfl) pa_nil)) (nomark _)) (pss_one (ps_ret (pe_lst (pa_cons (pe_gi rfl T.v_NONE_SUCH) pa_nil)))) pss_nil)
        (pss_cons (ps_set (i := 2) sc_renew_bladder.nd rfl (Or.inl rfl) (pe_ix ix_lst (pe_fld (pv 0) rfl) (pv 1) (fun _ _ => rfl)))
        (pss_cons (ps_if (pt_cmpR op_gt (pe_fld (pv 2) rfl) pe_int (nomark _)) (pss_one (ps_ret (pe_lst (pa_cons (pe_gi rfl T.v_NOT_IDLE) pa_nil)))) pss_nil)
        (pss_cons (ps_if (pt_cmpR op_eq (pe_fld (pv 2) rfl) pe_int (nomark _)) (pss_one (ps_ret (pe_lst (pa_cons (pe_gi rfl T.v_ALREADY) pa_nil)))) pss_nil)
        (pss_cons (ps_set (i := 3) sc_renew_bladder.nd rfl (Or.inl rfl) (pe_fld (pv 2) rfl))
        (pss_cons (ps_fldaug (pv 2) pe_int in_add)
        (pss_cons (ps_fld (pv 2) pe_int rfl)
        (pss_cons (ps_fld (pv 2) (pe_fld (pv 0) rfl) rfl)
        (pss_one (ps_ret (pe_lst (pa_cons (pv 3) pa_nil)))))))))))), ?_⟩
    by_cases h1 : p < a.presses.length
    · obtain ⟨rp, dp, e1, hP⟩ := R.press h1
      have a1 := at_ref e1
      have hlb := G.pl p h1
      have nqp : q ≠ rp := ne_of hq hP (ins_ne (Ne.symm T.ne_Press_Plant))
      have l1 : (prF (a.press p)).lookup ("bladder" : Str) = some (V.int ((a.press p).bladder : Nat)) := rfl
      rw [if_neg (no_false h1)] at hd
      refine seqG (σ' := [some (.ref q), some (.int (p : Nat)), none, none]) (H' := H) ?_ fun N hN => ?_
      rotate_left
      · simp! only [T.all, hq, hpl, List.length_map, R.pr.len]
        rw [if_neg (by omega)]
        exact hN
      refine ⟨_, rfl, q, A.c_Plant, dx, _, _, rfl, hq, T.cl_Plant, T.n_Plant_presses, rfl, _, rfl, y.lp, _, _, _, rfl, rfl, hpl, a1, ?_⟩
      simp! only [T.all, hq, hP, upd_ne nqp]
      by_cases h2 : (a.press p).busy = 0
      · have hl0 := hlb.mpr h2
        rw [if_neg (by simp [h2])] at hd
        rw [if_neg (by omega)]
        by_cases h3 : (a.press p).worn = 0
        · rw [hd, if_pos h3] at k
          rw [if_pos (by omega)]
          exact lay_no R k
        · rw [hd, if_neg h3] at k
          rw [if_neg (by omega)]
          rw [setP_busied] at k
          refine ⟨Nat.le_of_ble_eq_true rfl, Nat.le_of_ble_eq_true rfl, ?_⟩
          obtain ⟨R2, f2⟩ := R.setP (dx := dp) (f := fun x => if a.change = 0 then { x with worn := 0, bladder := x.bladder + 1 } else { ({ x with worn := 0, bladder := x.bladder + 1 } : Su67.Press) with busy := 1, left := a.change }) (fs := putF "left" (.int (a.change : Nat)) (putF "cures" (.int 0) (putF "bladder" (.int (((a.press p).bladder : Nat) + 1)) (prF (a.press p))))) T e1 hP
            (prF_busied (x := a.press p) (z := { a.press p with worn := 0, bladder := (a.press p).bladder + 1 }) h2 hl0 rfl rfl _ _ _ rfl rfl rfl)
          exact lay_num R2 f2 k
      · rw [hd, if_pos h2] at k
        rw [if_pos (by have : ¬ (a.press p).left = 0 := fun z => h2 (hlb.mp z)
                       omega)]
        exact lay_no R k
    · have hd : Su67.does a (.bladder p) = (a, Su67.no (-2)) := by rw [hd, if_pos (decide_eq_false h1)]
      rw [hd] at k
      refine seqR fun N => ?_
      simp! only [T.all, hq, hpl, List.length_map, R.pr.len]
      rw [if_pos (by omega)]
      exact lay_no R k
def sp_can (K : PySem.W.Frag) (A : Adr) : Sp := fun vs H Q _ => ∃ (q : Addr) (y : Lay) (a : Su67.Abs) (m : Nat), vs = [.ref q, .int (m : Nat)] ∧ Rep A H q y true a ∧ Good a ∧ Told A q y H true (Su67.does a (.can m)) Q
theorem ok_can (T : Txt K mg A) : FnOk P w K mg base CX0 2 A.f_can A.d_can ["plant", "p"] (sp_can K A) := by
  refine T.F_can.ok sc_can (fun vs H Q E h => ?_) (fun cdv A' outer s H vs Q E hr h => ?_)
  · obtain ⟨q, y, a, m, rfl, _⟩ := h
    rfl
  · obtain ⟨q, y, a, p, rfl, R, G, k⟩ := h
    obtain ⟨dx, hq⟩ := id R.pl
    have hpl := R.pr.lst
    have hd : Su67.does a (.can p) = if decide (p < a.presses.length) = false then (a, Su67.no (-2)) else (a, Su67.no (a.why p)) := rfl
    refine ⟨_, (pss_cons (ps_if (pt_cmpR op_ge (pv 1) (pe_callB call_lenL rfl T.u_len PySem.boot_len (pa_cons (pe_fld (pv 0) rfl) pa_nil)) (nomark _)) (pss_one (ps_ret (pe_lst (pa_cons (pe_gi rfl T.v_NONE_SUCH) pa_nil)))) pss_nil)
        (pss_one (ps_ret (pe_lst (pa_cons (pe_call (ok_why_not T) (hr.mono (by decide)) rfl T.m_why_not T.F_why_not.kp T.b_why_not .nil pass0 (pa_cons (pv 0) (pa_cons (pe_ix ix_lst (pe_fld (pv 0) rfl) (pv 1) (fun _ _ => rfl)) pa_nil))) pa_nil))))), ?_⟩
    by_cases h1 : p < a.presses.length
    · obtain ⟨rp, dp, e1, hP⟩ := R.press h1
      have a1 := at_ref e1
      rw [hd, if_neg (no_false h1)] at k
      simp! only [T.all, hq, hpl, List.length_map, R.pr.len, a1, hP]
      rw [if_neg (by omega)]
      exact ⟨q, y, true, a, p, rp, rfl, R, G, e1, lay_no R k⟩
    · rw [hd, if_pos (decide_eq_false h1)] at k
      refine seqR fun N => ?_
      simp! only [T.all, hq, hpl, List.length_map, R.pr.len]
      rw [if_pos (by omega)]
      exact lay_no R k
theorem size60' {n : Nat} (h : n ≤ 70) : n < sizeLine := Nat.lt_of_le_of_lt h (by decide)
def sp_waits (K : PySem.W.Frag) (A : Adr) : Sp := fun vs H Q _ => ∃ (q : Addr) (y : Lay) (a : Su67.Abs) (m : Nat), vs = [.ref q, .int (m : Nat)] ∧ Rep A H q y true a ∧ Good a ∧ Told A q y H true (Su67.does a (.waits m)) Q
theorem waits_len (a : Su67.Abs) (t : Nat) : (a.waits t).length ≤ a.tyres.length := by
  unfold Su67.Abs.waits
  exact Nat.le_trans (List.length_filter_le _ _) (by rw [List.length_range]; exact Nat.le_refl _)
theorem ok_waits (T : Txt K mg A) : FnOk P w K mg base CX0 3 A.f_waits A.d_waits ["plant", "t"] (sp_waits K A) := by
  refine T.F_waits.ok sc_waits (fun vs H Q E h => ?_) (fun cdv A' outer s H vs Q E hr h => ?_)
  · obtain ⟨q, y, a, m, rfl, _⟩ := h
    rfl
  · obtain ⟨q, y, a, t, rfl, R, G, k⟩ := h
    obtain ⟨dx, hq⟩ := id R.pl
    have hkl := R.ki.lst
    have hd : Su67.does a (.waits t) = if decide (t < a.types.length) = false then (a, Su67.no (-2)) else (a, Su67.list (a.waits t)) := rfl
    refine ⟨_, (pss_cons (ps_if (pt_cmpR op_ge (pv 1) (pe_callB call_lenL rfl T.u_len PySem.boot_len (pa_cons (pe_fld (pv 0) rfl) pa_nil)) (nomark _)) (pss_one (ps_ret (pe_lst (pa_cons (pe_gi rfl T.v_NONE_SUCH) pa_nil)))) pss_nil)
        (pss_cons (ps_set (i := 2) sc_waits.nd rfl (Or.inl rfl) (pe_call (ok_ready_tyres T) (hr.mono (by decide)) rfl T.m_ready_tyres T.F_ready_tyres.kp T.b_ready_tyres .nil pass0 (pa_cons (pv 0) (pa_cons (pv 1) pa_nil))))
        (pss_one (ps_ret (pe_op op_cat (pe_lst (pa_cons (pe_callB call_lenL rfl T.u_len PySem.boot_len (pa_cons (pv 2) pa_nil)) pa_nil)) (pv 2)))))), ?_⟩
    simp! only [T.all, hq, hkl, List.length_map, R.ki.len]
    by_cases h1 : t < a.types.length
    · rw [hd, if_neg (no_false h1)] at k
      rw [if_neg (by omega)]
      refine ⟨q, y, true, a, t, rfl, R, G, fun H1 l s1 hl hl1 => ?_⟩
      simp! only [T.all, hl1, List.length_map]
      refine ⟨size1, fun l2 hl2 => ?_⟩
      have n12 : l ≠ l2 := ne_of_none hl1 hl2
      simp! only [T.all, upd_ne n12, hl1, List.length_map]
      have := waits_len a t
      have h60 := G.nG
      refine ⟨Nat.le_of_lt (size60' (by omega)), fun l3 hl3 => ?_⟩
      refine k.lay1 R ?_ hl3 rfl rfl
      exact s1.trans (same_new hl2)
    · rw [hd, if_pos (decide_eq_false h1)] at k
      rw [if_pos (by omega)]
      exact lay_no R k
end
end
section
open Su67 (Abs Press Mould Tyre)
theorem tyres_range (a : Abs) : a.tyres = (List.range a.tyres.length).map a.tyre := by
  refine List.ext_getElem? fun i => ?_
  rw [List.getElem?_map]
  by_cases h : i < a.tyres.length
  · rw [List.getElem?_range h, get_tyre h]; rfl
  · rw [List.getElem?_eq_none (by omega), List.getElem?_eq_none (by rw [List.length_range]; omega)]; rfl
theorem howMany_range (a : Abs) (h : Nat) : a.howMany h = ((List.range a.tyres.length).filter fun g => (a.tyre g).how == h).length := by
  unfold Su67.Abs.howMany
  have e := tyres_range a
  generalize a.tyre = f at e ⊢
  generalize a.tyres.length = n at e ⊢
  rw [e, List.filter_map, List.length_map]
  rfl
theorem filter_len_le {α : Type} {p q : α → Bool} : ∀ (l : List α), (∀ x ∈ l, p x = true → q x = true) → (l.filter p).length ≤ (l.filter q).length
  | [], _ => Nat.le_refl _
  | x :: l, h => by
    have ih := filter_len_le l fun y hy => h y (List.mem_cons_of_mem _ hy)
    rw [List.filter_cons, List.filter_cons]
    by_cases hp : p x = true
    · rw [if_pos hp, if_pos (h x (List.mem_cons_self ..) hp)]
      simp only [List.length_cons]; omega
    · rw [if_neg hp]
      split
      · simp only [List.length_cons]; omega
      · exact ih
theorem howMany_le {a b : Abs} (al : Alike a b) (h : ∀ g, (a.tyre g).how = 2 → (b.tyre g).how = 2) : a.howMany 2 ≤ b.howMany 2 := by
  rw [howMany_range, howMany_range, al.nG]
  exact filter_len_le _ fun g _ e => by
    simp only [beq_iff_eq] at e ⊢
    exact h g e
theorem takes_cured (a : Abs) (p g : Nat) (h : (a.tyre g).how = 2) : ((a.takes p).tyre g).how = 2 := by
  unfold Su67.Abs.takes
  split
  · exact h
  · split
    · exact h
    · rename_i x l e
      have hg := mem_waits (a := a) (t := a.kind p) (g := x) (by rw [e]; exact List.mem_cons_self ..)
      rw [loaded_tyre, if_neg]
      · exact h
      · rintro ⟨z, _⟩
        subst z
        rw [hg.2.1] at h
        exact absurd h (by decide)
theorem fold_cured {f : Abs → Nat → Abs} (g : Nat) (hf : ∀ a p, (a.tyre g).how = 2 → ((f a p).tyre g).how = 2) : ∀ (l : List Nat) (a : Abs), (a.tyre g).how = 2 → ((l.foldl f a).tyre g).how = 2
  | [], a, h => h
  | p :: l, a, h => fold_cured g hf l (f a p) (hf a p h)
theorem workP_cured (n : Nat) (a : Abs) (p g : Nat) (h : (a.tyre g).how = 2) : ((workP n a p).tyre g).how = 2 := by
  unfold workP
  split
  · exact h
  · split
    · exact h
    · split
      · unfold fin
        rw [setG_tyre]
        split
        · rfl
        · exact h
      · exact h
theorem pre_cured (a : Abs) (g : Nat) (h : (a.tyre g).how = 2) : ((pre a).tyre g).how = 2 := by
  unfold pre
  split
  · exact fold_cured g (fun a p => takes_cured a p g) _ a h
  · exact h
theorem minute_cured {a : Abs} (G : Good a) (g : Nat) (h : (a.tyre g).how = 2) : (a.minute.tyre g).how = 2 := by
  rw [minute_eq G]
  exact fold_cured g (fun a p => workP_cured 1 a p g) _ _ (pre_cured a g h)
theorem alike_minute {a : Abs} (G : Good a) : Alike a a.minute := by
  rw [minute_eq G]
  exact (alike_pre a).trans (alike_workAll 1 _)
theorem alike_goes {a : Abs} (G : Good a) : ∀ n, Alike a (a.goes n) := by
  intro n
  induction n generalizing a with
  | zero => exact .refl a
  | succ n ih => exact (alike_minute G).trans (ih G.minute)
theorem goes_cured {a : Abs} (G : Good a) (g : Nat) : ∀ n, (a.tyre g).how = 2 → ((a.goes n).tyre g).how = 2 := by
  intro n
  induction n generalizing a with
  | zero => exact id
  | succ n ih => exact fun h => ih G.minute (minute_cured G g h)
theorem takes_now (a : Abs) (p : Nat) : (a.takes p).now_ = a.now_ := by
  unfold Su67.Abs.takes
  split
  · rfl
  · split <;> rfl
theorem fold_now {f : Abs → Nat → Abs} (hf : ∀ a p, (f a p).now_ = a.now_) : ∀ (l : List Nat) (a : Abs), (l.foldl f a).now_ = a.now_
  | [], a => rfl
  | p :: l, a => (fold_now hf l (f a p)).trans (hf a p)
theorem pre_now (a : Abs) : (pre a).now_ = a.now_ := by
  unfold pre
  split
  · exact fold_now takes_now _ a
  · rfl
theorem minute_now {a : Abs} (G : Good a) : a.minute.now_ = a.now_ + 1 := by
  rw [minute_eq G, workAll_eq]
  show (pre a).now_ + 1 = _
  rw [pre_now]
theorem goes_now {a : Abs} (G : Good a) : ∀ n, (a.goes n).now_ = a.now_ + n := by
  intro n
  induction n generalizing a with
  | zero => rfl
  | succ n ih =>
    show (a.minute.goes n).now_ = _
    rw [ih G.minute, minute_now G]
    omega
end
section
open PySem PySem.Spec PyProof.Rows L2
section
variable {P : Program} {w : World} {K : PySem.W.Frag} {mg : Str → Option Value} {base : Heap} {A : Adr}
def sp_count_at (K : PySem.W.Frag) (A : Adr) : Sp := fun vs H Q _ => ∃ (q : Addr) (y : Lay) (b : Bool) (a : Su67.Abs) (h : Nat), vs = [.ref q, .int (h : Nat)] ∧ Rep A H q y b a ∧ Good a ∧ ∀ H', Same H H' → Q (.int (a.howMany h : Nat)) H'
theorem ok_count_at (T : Txt K mg A) : FnOk P w K mg base CX0 1 A.f_count_at A.d_count_at ["plant", "stage"] (sp_count_at K A) := by
  refine T.F_count_at.ok sc_count_at (fun vs H Q E h => ?_) (fun cdv A' outer s H vs Q E hr h => ?_)
  · obtain ⟨q, y, b, a, n, rfl, _⟩ := h
    rfl
  · obtain ⟨q, y, b, a, n, rfl, R, G, k⟩ := h
    obtain ⟨dx, hq⟩ := id R.pl
    have hgl := R.ty.lst
    have h60 : y.ag.length < sizeLine := by rw [R.ty.len]; exact size60 G.nG
    refine ⟨_, (pss_one (ps_ret (pe_callB call_lenL rfl T.u_len PySem.boot_len (pa_cons (pe_lc (own := [("tyre", 2)]) rfl sc_count_at.nd (pi_list (pe_fld (pv 0) rfl)) (blkOk_by (by rfl)) (fun _ _ _ _ _ => (pg_name (i := 2) sc_count_at.nd rfl (Or.inl rfl))) (fun _ _ _ _ _ => (pts_one (pt_cmpR op_eq (pe_fldK (K := K) rfl (pv 2) rfl) (pv 1) (nomark _)))) (fun _ _ _ _ _ => (pv 2))) pa_nil)))), ?_⟩
    simp only [tRet, tCB, tCons, tNil, cxK]
    refine lcT_objs (fun g => (a.tyre g).how == n) (fun g => (y.ag.map V.ref).getD g .non) ?_ (SqL.of hgl) h60 ?_ ?_
    · exact fun Rr hR => ⟨_, rfl, q, A.c_Plant, dx, _, _, rfl, hq, T.cl_Plant, T.n_Plant_tyres, rfl, _, rfl, ⟨_, SqL.of hgl⟩, hR⟩
    · intro D g r H' acc Nx hg s hD hacc hlen hno hyes
      have hg' : g < a.tyres.length := by rw [← R.ty.len]; exact (List.getElem?_eq_some_iff.mp hg).1
      obtain ⟨r', dr, e1, hH⟩ := (R.same s).tyre hg'
      cases hg.symm.trans e1
      have ev : (y.ag.map V.ref).getD g .non = V.ref r := by rw [List.getD_eq_getElem?_getD, List.getElem?_map, hg]; rfl
      rw [ev] at hyes
      refine ⟨rfl, ?_⟩
      simp! only [T.all, hH, wipe, hacc]
      refine ite2 (fun h1 => ⟨hlen, hyes (by simp; omega) H' (Same.refl _)⟩) fun h1 => hno (by simp; omega) H' (Same.refl _)
    · intro D H' hD s hl
      refine ⟨D, _, rfl, hl, ?_⟩
      rw [List.length_map, R.ty.len, ← howMany_range]
      exact k H' s
def sp_minutes (K : PySem.W.Frag) (A : Adr) : Sp := fun vs H Q _ => ∃ (q : Addr) (y : Lay) (a : Su67.Abs) (m : Nat), vs = [.ref q, .int (m : Nat)] ∧ Rep A H q y true a ∧ Good a ∧ Told A q y H true (Su67.does a (.minutes m)) Q
theorem ok_minutes (T : Txt K mg A) : FnOk P w K mg base CX0 5 A.f_minutes A.d_minutes ["plant", "n"] (sp_minutes K A) := by
  refine T.F_minutes.ok sc_minutes (fun vs H Q E h => ?_) (fun cdv A' outer s H vs Q E hr h => ?_)
  · obtain ⟨q, y, a, m, rfl, _⟩ := h
    rfl
  · obtain ⟨q, y, a, n, rfl, R, G, k⟩ := h
    have hd : Su67.does a (.minutes n) = if n = 0 ∨ 500 < n then (a, Su67.no (-22)) else (a.goes n, Su67.num (a.now_ + n) [(a.goes n).howMany 2 - a.howMany 2]) := rfl
    refine ⟨_, (pss_cons (ps_if (PW.pt (pw_or (pt_cmpR op_lt (pv 1) pe_int (nomark _)) (pw_or1 (pt_cmpR op_gt (pv 1) (pe_gi rfl T.v_MOST_MINUTES) (nomark _))))) (pss_one (ps_ret (pe_lst (pa_cons (pe_gi rfl T.v_OUT_OF_RANGE) pa_nil)))) pss_nil)
        (pss_cons (ps_set (i := 2) sc_minutes.nd rfl (Or.inl rfl) (pe_call (ok_count_at T) (hr.mono (by decide)) rfl T.m_count_at T.F_count_at.kp T.b_count_at .nil pass0 (pa_cons (pv 0) (pa_cons (pe_gi rfl T.v_CURED) pa_nil))))
        (pss_cons (ps_expr (pe_call (ok_pass_minutes T) (hr.mono (by decide)) rfl T.m_pass_minutes T.F_pass_minutes.kp T.b_pass_minutes .nil pass0 (pa_cons (pv 0) (pa_cons (pv 1) pa_nil))))
        (pss_one (ps_ret (pe_lst (pa_cons (pe_fld (pv 0) rfl) (pa_cons (pe_op op_sub (pe_call (ok_count_at T) (hr.mono (by decide)) rfl T.m_count_at T.F_count_at.kp T.b_count_at .nil pass0 (pa_cons (pv 0) (pa_cons (pe_gi rfl T.v_CURED) pa_nil))) (pv 2)) pa_nil)))))))), ?_⟩
    simp! only [T.all]
    by_cases h1 : n = 0 ∨ 500 < n
    · rw [hd, if_pos h1] at k
      refine ite2 (fun _ => lay_no R k) (fun _ => ite2 (fun _ => lay_no R k) fun _ => ?_)
      omega
    · rw [hd, if_neg h1] at k
      rw [if_neg (by omega), if_neg (by omega)]
      refine ⟨q, y, true, a, 2, rfl, R, G, fun H1 s1 => ?_⟩
      refine ⟨q, y, true, a, n, rfl, R.same s1, G, fun H2 R2 f2 => ?_⟩
      obtain ⟨dx2, hq2⟩ := id R2.pl
      simp! only [T.all, hq2]
      refine ⟨q, y, true, a.goes n, 2, rfl, R2, G.goes n, fun H3 s3 => ?_⟩
      refine ⟨_, rfl, by decide, fun p hp => ?_⟩
      have f3 : Frame q y H y H3 := ((Frame.of_same s1).trans f2).trans (Frame.of_same s3)
      have R3 := R2.same s3
      refine k.lay R3 f3 hp (f3.free R3 hp) ?_
      have hle := howMany_le (alike_goes G n) fun g => goes_cured G g n
      show [V.int _, V.int _] = [V.int _, V.int (((a.goes n).howMany 2 - a.howMany 2 : Nat) : Int)]
      rw [goes_now G, show (((a.goes n).howMany 2 - a.howMany 2 : Nat) : Int) = ((a.goes n).howMany 2 : Int) - (a.howMany 2 : Int) by omega]
      rfl
theorem why_neg {a : Su67.Abs} {p : Nat} (h : a.why p ≠ 0) : a.why p < 0 := by
  have e : a.why p = if (a.press p).busy ≠ 0 then (-16 : Int) else if (a.press p).mould = 0 then -6 else if a.life ≤ (a.press p).worn then -14 else if a.dirty ≤ (a.mould ((a.press p).mould - 1)).used then -13 else 0 := rfl
  rw [e] at h ⊢
  split
  · decide
  · split
    · decide
    · split
      · decide
      · split
        · decide
        · rename_i h1 h2 h3 h4
          rw [if_neg h1, if_neg h2, if_neg h3, if_neg h4] at h
          exact absurd rfl h
def sp_load (K : PySem.W.Frag) (A : Adr) : Sp := fun vs H Q _ => ∃ (q : Addr) (y : Lay) (a : Su67.Abs) (p g : Nat), vs = [.ref q, .int (p : Nat), .int (g : Nat)] ∧ Rep A H q y true a ∧ Good a ∧ Told A q y H true (Su67.does a (.load p g)) Q
theorem ok_load (T : Txt K mg A) : FnOk P w K mg base CX0 2 A.f_load A.d_load ["plant", "p", "g"] (sp_load K A) := by
  refine T.F_load.ok sc_load (fun vs H Q E h => ?_) (fun cdv A' outer s H vs Q E hr h => ?_)
  · obtain ⟨q, y, a, p, g, rfl, _⟩ := h
    rfl
  · obtain ⟨q, y, a, p, g, rfl, R, G, k⟩ := h
    obtain ⟨dx, hq⟩ := id R.pl
    have hpl := R.pr.lst
    have hgl := R.ty.lst
    have hml := R.mo.lst
    have hd : Su67.does a (.load p g) = if decide (p < a.presses.length) = false ∨ decide (g < a.tyres.length) = false then (a, Su67.no (-2)) else if a.why p ≠ 0 then (a, Su67.no (a.why p)) else if (a.tyre g).how ≠ 0 then (a, Su67.no (-17)) else if (a.tyre g).type_ ≠ a.kind p then (a, Su67.no (-33)) else if a.old g = true then (a, Su67.no (-75)) else
      (a.loaded p g, Su67.num (a.now_ + (a.type_ (a.kind p)).cure) []) := rfl
    refine ⟨_, (pss_cons (ps_if (PW.pt (pw_or (pt_cmpR op_ge (pv 1) (pe_callB call_lenL rfl T.u_len PySem.boot_len (pa_cons (pe_fld (pv 0) rfl) pa_nil)) (nomark _)) (pw_or1 (pt_cmpR op_ge (pv 2) (pe_callB call_lenL rfl T.u_len PySem.boot_len (pa_cons (pe_fld (pv 0) rfl) pa_nil)) (nomark _))))) (pss_one (ps_ret (pe_lst (pa_cons (pe_gi rfl T.v_NONE_SUCH) pa_nil)))) pss_nil)
        (pss_cons (ps_set (i := 3) sc_load.nd rfl (Or.inl rfl) (pe_ix ix_lst (pe_fld (pv 0) rfl) (pv 1) (fun _ _ => rfl)))
        (pss_cons (ps_set (i := 4) sc_load.nd rfl (Or.inl rfl) (pe_ix ix_lst (pe_fld (pv 0) rfl) (pv 2) (fun _ _ => rfl)))
        (pss_cons (ps_set (i := 5) sc_load.nd rfl (Or.inl rfl) (pe_call (ok_why_not T) (hr.mono (by decide)) rfl T.m_why_not T.F_why_not.kp T.b_why_not .nil pass0 (pa_cons (pv 0) (pa_cons (pv 3) pa_nil))))
        (pss_cons (ps_if (pt_cmpR op_lt (pv 5) pe_int (nomark _)) (pss_one (ps_ret (pe_lst (pa_cons (pv 5) pa_nil)))) pss_nil)
        (pss_cons (ps_if (pt_cmpR op_ne (pe_fld (pv 4) rfl) (pe_gi rfl T.v_WAITS) (nomark _)) (pss_one (ps_ret (pe_lst (pa_cons (pe_gi rfl T.v_ALREADY) pa_nil)))) pss_nil)
        (pss_cons (ps_if (pt_cmpR op_ne (pe_fld (pv 4) rfl) (pe_fld (pe_ix ix_lst (pe_fld (pv 0) rfl) (pe_fld (pv 3) rfl) (fun _ _ => rfl)) rfl) (nomark _)) (pss_one (ps_ret (pe_lst (pa_cons (pe_gi rfl T.v_CANNOT_BE) pa_nil)))) pss_nil)
        (pss_cons (ps_if (pt_val (pe_call (ok_too_old T) (hr.mono (by decide)) rfl T.m_too_old T.F_too_old.kp T.b_too_old .nil pass0 (pa_cons (pv 0) (pa_cons (pv 4) pa_nil)))) (pss_one (ps_ret (pe_lst (pa_cons (pe_gi rfl T.v_TOO_OLD) pa_nil)))) pss_nil)
        (pss_cons (ps_expr (pe_call (ok_put_in T) (hr.mono (by decide)) rfl T.m_put_in T.F_put_in.kp T.b_put_in .nil pass0 (pa_cons (pv 0) (pa_cons (pv 1) (pa_cons (pv 2) pa_nil)))))
        (pss_one (ps_ret (pe_lst (pa_cons (pe_op op_add (pe_fld (pv 0) rfl) (pe_fld (pv 3) rfl)) pa_nil))))))))))))), ?_⟩
    by_cases h1 : p < a.presses.length ∧ g < a.tyres.length
    · obtain ⟨rp, dp, e1, hP⟩ := R.press h1.1
      obtain ⟨rg, dg, e2, hG⟩ := R.tyre h1.2
      have a1 := at_ref e1
      have a2 := at_ref e2
      rw [if_neg (by simp [h1.1, h1.2])] at hd
      refine seqG (σ' := [some (.ref q), some (.int (p : Nat)), some (.int (g : Nat)), none, none, none]) (H' := H) ?_ fun N hN => ?_
      rotate_left
      · simp! only [T.all, hq, hpl, hgl, List.length_map, R.pr.len, R.ty.len]
        rw [if_neg (by omega), if_neg (by omega)]
        exact hN
      refine ⟨_, rfl, q, A.c_Plant, dx, _, _, rfl, hq, T.cl_Plant, T.n_Plant_presses, rfl, _, rfl, y.lp, _, _, _, rfl, rfl, hpl, a1, ?_⟩
      refine ⟨_, rfl, q, A.c_Plant, dx, _, _, rfl, hq, T.cl_Plant, T.n_Plant_tyres, rfl, _, rfl, y.lt, _, _, _, rfl, rfl, hgl, a2, ?_⟩
      refine ⟨_, rfl, _, rfl, q, y, true, a, p, rp, rfl, R, G, e1, ?_⟩
      by_cases hw : a.why p = 0
      · obtain ⟨z1, z2, z3, z4⟩ := why_zero hw
        have hm2 := G.pm p h1.1
        obtain ⟨rm, dm, e3, hM⟩ := R.mould (p := (a.press p).mould - 1) (by omega)
        have a3 := at_ref e3
        rw [if_neg (by simp [hw])] at hd
        refine ⟨_, rfl, _, _, rfl, rfl, _, rfl, iteN (by rw [hw]; decide) ?_⟩
        simp! only [T.all, hq, hpl, hgl, hml, a1, a2, a3, hP, hG, hM, opt_int z2]
        have ek : a.kind p = (a.mould ((a.press p).mould - 1)).type_ := rfl
        by_cases h2 : (a.tyre g).how = 0
        · rw [if_neg (by simp [h2])] at hd
          rw [if_neg (by omega)]
          by_cases h3 : (a.tyre g).type_ = a.kind p
          · rw [if_neg (by simp [h3])] at hd
            rw [if_neg (by rw [h3, ek]; simp)]
            refine ⟨q, y, true, a, g, rg, rfl, R, G, e2, ?_⟩
            have eo : a.old g = aged a g := by
              unfold Su67.Abs.old aged
              rw [h2]
              simp
            rw [eo] at hd
            refine ⟨_, rfl, ite2 (fun h4 => ?_) fun h4 => ?_⟩
            · rw [hd, if_pos h4] at k
              exact lay_no R k
            · rw [hd, if_neg h4] at k
              refine ⟨q, y, true, a, p, g, rfl, R, G, h1.1, h1.2, z2, h3, fun H1 R1 f1 => ?_⟩
              obtain ⟨dx1, hq1⟩ := id R1.pl
              have al := alike_loaded a p g
              obtain ⟨rp1, dp1, e4, hP1⟩ := R1.press (p := p) (by rw [al.nP]; exact h1.1)
              cases e1.symm.trans e4
              have el : ((a.loaded p g).press p).left = (a.type_ (a.kind p)).cure := by rw [loaded_press, if_pos ⟨rfl, h1.1⟩]
              simp! only [T.all, hq1, hP1]
              rw [el]
              exact lay_num R1 f1 k
          · rw [hd, if_pos h3] at k
            rw [if_pos (by intro z; exact h3 (by rw [ek]; omega))]
            exact lay_no R k
        · rw [hd, if_pos h2] at k
          rw [if_pos (by omega)]
          exact lay_no R k
      · have hn : a.why p < 0 := why_neg hw
        rw [hd, if_pos hw] at k
        refine ⟨_, rfl, _, _, rfl, rfl, _, rfl, iteP (decide_eq_true hn) ?_⟩
        simp! only [T.all]
        exact lay_no R k
    · have hd : Su67.does a (.load p g) = (a, Su67.no (-2)) := by
        rw [hd, if_pos]
        simp
        omega
      rw [hd] at k
      refine seqR fun N => ?_
      simp! only [T.all, hq, hpl, hgl, List.length_map, R.pr.len, R.ty.len]
      refine ite2 (fun _ => lay_no R k) (fun _ => ite2 (fun _ => lay_no R k) fun _ => ?_)
      omega
end
end
section
open PySem PySem.Spec PyProof.Rows L2
section
variable {P : Program} {w : World} {K : PySem.W.Frag} {mg : Str → Option Value} {base : Heap} {A : Adr}
def sp_fit (K : PySem.W.Frag) (A : Adr) : Sp := fun vs H Q _ => ∃ (q : Addr) (y : Lay) (a : Su67.Abs) (p m : Nat), vs = [.ref q, .int (p : Nat), .int (m : Nat)] ∧ Rep A H q y true a ∧ Good a ∧ Told A q y H true (Su67.does a (.fit p m)) Q
/-- the mould is put in -/
theorem fit_in (T : Txt K mg A) {q : Addr} {y : Lay} {H : Hp} {a : Su67.Abs} {p m : Nat} {rp dp rm dm : Addr} (R : Rep A H q y true a) (hp : p < a.presses.length) (hm : m < a.moulds.length) (hb : (a.press p).busy = 0) (hl : (a.press p).left = 0) (e1 : y.ap[p]? = some rp) (hP : H rp = some (.ins A.c_Press dp (prF (a.press p))))
    (e2 : y.am[m]? = some rm) (hM : H rm = some (.ins A.c_Mould dm (moF (a.mould m)))) :
    Rep A (upd (upd (upd H rp (.ins A.c_Press dp (putF "mould" (.int (m : Nat)) (prF (a.press p))))) rm (.ins A.c_Mould dm (putF "press" (.int (p : Nat)) (moF (a.mould m))))) rp (.ins A.c_Press dp (putF "left" (.int (a.change : Nat)) (putF "mould" (.int (m : Nat)) (prF (a.press p)))))) q y true
      (((a.setM m fun x => { x with in_ := p + 1 }).setP p fun x => { x with mould := m + 1 }).busied p) ∧
    Frame q y H y (upd (upd (upd H rp (.ins A.c_Press dp (putF "mould" (.int (m : Nat)) (prF (a.press p))))) rm (.ins A.c_Mould dm (putF "press" (.int (p : Nat)) (moF (a.mould m))))) rp (.ins A.c_Press dp (putF "left" (.int (a.change : Nat)) (putF "mould" (.int (m : Nat)) (prF (a.press p)))))) := by
  have nmp : rm ≠ rp := ne_of hM hP (ins_ne T.ne_Mould_Press)
  obtain ⟨R1, f1⟩ := R.setP (dx := dp) (f := fun x => { x with mould := m + 1 }) (fs := putF "mould" (.int (m : Nat)) (prF (a.press p))) T e1 hP rfl
  obtain ⟨R2, f2⟩ := R1.setM (dx := dm) (f := fun x => { x with in_ := p + 1 }) (fs := putF "press" (.int (p : Nat)) (moF (a.mould m))) T e2 (by rw [upd_ne nmp]; exact hM) rfl
  have ep : ((a.setP p fun x => { x with mould := m + 1 }).setM m fun x => { x with in_ := p + 1 }).press p = { a.press p with mould := m + 1 } := by
    show (a.setP p fun x => { x with mould := m + 1 }).press p = _
    rw [setP_press, if_pos ⟨rfl, hp⟩]
  obtain ⟨R3, f3⟩ := R2.setP (dx := dp) (j := p) (f := fun x => if a.change = 0 then x else { x with busy := 1, left := a.change }) (fs := putF "left" (.int (a.change : Nat)) (putF "mould" (.int (m : Nat)) (prF (a.press p)))) T e1 (by rw [upd_ne (Ne.symm nmp), upd_same, ep]; rfl)
    (by rw [ep]; exact prF_busied (x := a.press p) (z := { a.press p with mould := m + 1 }) hb hl rfl rfl _ _ _ rfl rfl rfl)
  have ea : (((a.setM m fun x => { x with in_ := p + 1 }).setP p fun x => { x with mould := m + 1 }).busied p) = (((a.setP p fun x => { x with mould := m + 1 }).setM m fun x => { x with in_ := p + 1 }).setP p fun x => if a.change = 0 then x else { x with busy := 1, left := a.change }) := by
    rw [setP_busied]
    show _ = ((a.setM m fun x => { x with in_ := p + 1 }).setP p fun x => { x with mould := m + 1 }).setP p fun x => if a.change = 0 then x else { x with busy := 1, left := a.change }
    rw [setP_setP]
    rfl
  rw [ea]
  exact ⟨R3, (f1.trans f2).trans f3⟩
theorem ok_fit (T : Txt K mg A) : FnOk P w K mg base CX0 1 A.f_fit A.d_fit ["plant", "p", "m"] (sp_fit K A) := by
  refine T.F_fit.ok sc_fit (fun vs H Q E h => ?_) (fun cdv A' outer s H vs Q E hr h => ?_)
  · obtain ⟨q, y, a, p, g, rfl, _⟩ := h
    rfl
  · obtain ⟨q, y, a, p, m, rfl, R, G, k⟩ := h
    obtain ⟨dx, hq⟩ := id R.pl
    have hpl := R.pr.lst
    have hml := R.mo.lst
    have hd : Su67.does a (.fit p m) = if decide (p < a.presses.length) = false ∨ decide (m < a.moulds.length) = false then (a, Su67.no (-2)) else if (a.press p).busy ≠ 0 then (a, Su67.no (-16)) else if (a.mould m).in_ ≠ 0 then (a, Su67.no (-17)) else
      ((((if (a.press p).mould = 0 then a else a.setM ((a.press p).mould - 1) fun x => { x with in_ := 0 }).setM m fun x => { x with in_ := p + 1 }).setP p fun x => { x with mould := m + 1 }).busied p, Su67.num (a.press p).mould []) := rfl
    refine ⟨_, (pss_cons (ps_if (PW.pt (pw_or (pt_cmpR op_ge (pv 1) (pe_callB call_lenL rfl T.u_len PySem.boot_len (pa_cons (pe_fld (pv 0) rfl) pa_nil)) (nomark _)) (pw_or1 (pt_cmpR op_ge (pv 2) (pe_callB call_lenL rfl T.u_len PySem.boot_len (pa_cons (pe_fld (pv 0) rfl) pa_nil)) (nomark _))))) (pss_one (ps_ret (pe_lst (pa_cons (pe_gi rfl T.v_NONE_SUCH) pa_nil)))) pss_nil)
        (pss_cons (ps_set (i := 3) sc_fit.nd rfl (Or.inl rfl) (pe_ix ix_lst (pe_fld (pv 0) rfl) (pv 1) (fun _ _ => rfl)))
        (pss_cons (ps_if (pt_cmpR op_gt (pe_fld (pv 3) rfl) pe_int (nomark _)) (pss_one (ps_ret (pe_lst (pa_cons (pe_gi rfl T.v_NOT_IDLE) pa_nil)))) pss_nil)
        (pss_cons (ps_if (pt_cmpR op_notN (pe_fld (pe_ix ix_lst (pe_fld (pv 0) rfl) (pv 2) (fun _ _ => rfl)) rfl) pe_non (nomark _)) (pss_one (ps_ret (pe_lst (pa_cons (pe_gi rfl T.v_ALREADY) pa_nil)))) pss_nil)
        (pss_cons (ps_set (i := 4) sc_fit.nd rfl (Or.inl rfl) pe_int)
        (pss_cons (ps_if (pt_cmpR op_notN (pe_fld (pv 3) rfl) pe_non (nomark _)) (pss_cons (ps_set (i := 4) sc_fit.nd rfl (Or.inl rfl) (pe_op op_add (pe_fld (pv 3) rfl) pe_int))
        (pss_one (ps_fld (pe_ix ix_lst (pe_fld (pv 0) rfl) (pe_fld (pv 3) rfl) (fun _ _ => rfl)) pe_non rfl))) pss_nil)
        (pss_cons (ps_fld (pv 3) (pv 2) rfl)
        (pss_cons (ps_fld (pe_ix ix_lst (pe_fld (pv 0) rfl) (pv 2) (fun _ _ => rfl)) (pv 1) rfl)
        (pss_cons (ps_fld (pv 3) (pe_fld (pv 0) rfl) rfl)
        (pss_one (ps_ret (pe_lst (pa_cons (pv 4) pa_nil))))))))))))), ?_⟩
    by_cases h1 : p < a.presses.length ∧ m < a.moulds.length
    · obtain ⟨rp, dp, e1, hP⟩ := R.press h1.1
      obtain ⟨rm, dm, e2, hM⟩ := R.mould h1.2
      have a1 := at_ref e1
      have a2 := at_ref e2
      have hlb := G.pl p h1.1
      rw [if_neg (by simp [h1.1, h1.2])] at hd
      have nqp : q ≠ rp := ne_of hq hP (ins_ne (Ne.symm T.ne_Press_Plant))
      have nqm : q ≠ rm := ne_of hq hM (ins_ne (Ne.symm T.ne_Mould_Plant))
      have nmp : rm ≠ rp := ne_of hM hP (ins_ne T.ne_Mould_Press)
      have npm : rp ≠ rm := Ne.symm nmp
      have nlp : y.lm ≠ rp := ne_of hml hP (by intro z; cases z)
      refine seqG (σ' := [some (.ref q), some (.int (p : Nat)), some (.int (m : Nat)), none, none]) (H' := H) ?_ fun N hN => ?_
      rotate_left
      · simp! only [T.all, hq, hpl, hml, List.length_map, R.pr.len, R.mo.len]
        rw [if_neg (by omega), if_neg (by omega)]
        exact hN
      refine seqG (σ' := [some (.ref q), some (.int (p : Nat)), some (.int (m : Nat)), some (.ref rp), none]) (H' := H) ?_ fun N hN => ⟨_, rfl, q, A.c_Plant, dx, _, _, rfl, hq, T.cl_Plant, T.n_Plant_presses, rfl, _, rfl, y.lp, _, _, _, rfl, rfl, hpl, a1, hN⟩
      by_cases h2 : (a.press p).busy = 0
      · rw [if_neg (by simp [h2])] at hd
        have hl0 := hlb.mpr h2
        refine seqG (σ' := [some (.ref q), some (.int (p : Nat)), some (.int (m : Nat)), some (.ref rp), none]) (H' := H) ?_ fun N hN => ?_
        rotate_left
        · simp! only [T.all, hP, hl0]
          rw [if_neg (by decide)]
          exact hN
        by_cases h3 : (a.mould m).in_ = 0
        · rw [if_neg (by simp [h3])] at hd
          refine seqG (σ' := [some (.ref q), some (.int (p : Nat)), some (.int (m : Nat)), some (.ref rp), none]) (H' := H) ?_ fun N hN => ?_
          rotate_left
          · simp! only [T.all, hq, hml, a2, hM, opt_non h3]
            rw [if_neg (by simp)]
            exact hN
          refine seqG (σ' := [some (.ref q), some (.int (p : Nat)), some (.int (m : Nat)), some (.ref rp), some (.int 0)]) (H' := H) ?_ fun N hN => hN
          by_cases h4 : (a.press p).mould = 0
          · rw [hd, if_pos h4] at k
            refine seqG (σ' := [some (.ref q), some (.int (p : Nat)), some (.int (m : Nat)), some (.ref rp), some (.int 0)]) (H' := H) ?_ fun N hN => ?_
            rotate_left
            · simp! only [T.all, hP, opt_non h4]
              rw [if_neg (by simp)]
              exact hN
            simp! only [T.all, hq, hml, a2, hP, hM, upd_ne nqp, upd_ne nqm, upd_ne nmp, upd_ne npm, upd_ne nlp]
            obtain ⟨R3, f3⟩ := fit_in T R h1.1 h1.2 h2 hl0 e1 hP e2 hM
            rw [h4] at k
            exact ⟨Nat.le_of_ble_eq_true rfl, lay_num R3 f3 k⟩
          · rw [hd, if_neg h4] at k
            have hm2 := G.pm p h1.1
            obtain ⟨ro, do_, e3, hO⟩ := R.mould (p := (a.press p).mould - 1) (by omega)
            have a3 := at_ref e3
            have npo : rp ≠ ro := ne_of hP hO (ins_ne (Ne.symm T.ne_Mould_Press))
            have nqo : q ≠ ro := ne_of hq hO (ins_ne (Ne.symm T.ne_Mould_Plant))
            have nlo : y.lm ≠ ro := ne_of hml hO (by intro z; cases z)
            obtain ⟨R0, f0⟩ := R.setM (dx := do_) (f := fun x => { x with in_ := 0 }) (fs := putF "press" .non (moF (a.mould ((a.press p).mould - 1)))) T e3 hO rfl
            obtain ⟨rm', dm', e2', hM0⟩ := R0.mould (p := m) (by rw [setM_len]; exact h1.2)
            cases e2.symm.trans e2'
            have hP0 : upd H ro (.ins A.c_Mould do_ (putF "press" .non (moF (a.mould ((a.press p).mould - 1))))) rp = some (.ins A.c_Press dp (prF (a.press p))) := by rw [upd_ne npo]; exact hP
            have hq0 := (upd_ne (H := H) (o := .ins A.c_Mould do_ (putF "press" .non (moF (a.mould ((a.press p).mould - 1))))) nqo).trans hq
            have hml0 := (upd_ne (H := H) (o := .ins A.c_Mould do_ (putF "press" .non (moF (a.mould ((a.press p).mould - 1))))) nlo).trans hml
            refine seqG (σ' := [some (.ref q), some (.int (p : Nat)), some (.int (m : Nat)), some (.ref rp), some (.int ((((a.press p).mould - 1 : Nat) : Int) + 1))]) (H' := upd H ro (.ins A.c_Mould do_ (putF "press" .non (moF (a.mould ((a.press p).mould - 1)))))) ?_ fun N hN => ?_
            rotate_left
            · simp! only [T.all, hq, hml, a3, hP, hO, opt_int h4]
              rw [if_pos (by simp)]
              exact hN
            obtain ⟨R3, f3⟩ := fit_in T R0 h1.1 (by rw [setM_len]; exact h1.2) h2 hl0 e1 hP0 e2 hM0
            have f := f0.trans f3
            have z := lay_num R3 f k
            rw [show (((a.press p).mould : Nat) : Int) = (((a.press p).mould - 1 : Nat) : Int) + 1 by omega] at z
            generalize upd H ro (.ins A.c_Mould do_ (putF "press" .non (moF (a.mould ((a.press p).mould - 1))))) = H0 at hP0 hM0 hq0 hml0 z ⊢
            simp! only [T.all, hq0, hml0, a2, hP0, hM0, upd_ne nqp, upd_ne nqm, upd_ne nmp, upd_ne npm, upd_ne nlp]
            exact ⟨Nat.le_of_ble_eq_true rfl, z⟩
        · rw [hd, if_pos h3] at k
          refine seqR fun N => ?_
          simp! only [T.all, hq, hml, a2, hM, opt_int h3]
          rw [if_pos (by simp)]
          exact lay_no R k
      · rw [hd, if_pos h2] at k
        refine seqR fun N => ?_
        simp! only [T.all, hP]
        rw [if_pos (by have : ¬ (a.press p).left = 0 := fun z => h2 (hlb.mp z)
                       omega)]
        exact lay_no R k
    · have hd : Su67.does a (.fit p m) = (a, Su67.no (-2)) := by
        rw [hd, if_pos]
        simp
        omega
      rw [hd] at k
      refine seqR fun N => ?_
      simp! only [T.all, hq, hpl, hml, List.length_map, R.pr.len, R.mo.len]
      refine ite2 (fun _ => lay_no R k) (fun _ => ite2 (fun _ => lay_no R k) fun _ => ?_)
      omega
end
end
section
open Su67 (Abs Press Mould Tyre Type_)
theorem getD_snoc {α : Type} (l : List α) (x d : α) (i : Nat) : (l ++ [x]).getD i d = if i < l.length then l.getD i d else if i = l.length then x else d := by
  rw [List.getD_eq_getElem?_getD, List.getD_eq_getElem?_getD]
  by_cases h : i < l.length
  · rw [if_pos h, List.getElem?_append_left h]
  · rw [if_neg h, List.getElem?_append_right (by omega)]
    by_cases e : i = l.length
    · subst e; simp
    · rw [if_neg e, List.getElem?_eq_none (by simp; omega)]; rfl
theorem good_new (c l d : Nat) : Good (Su67.new c l d) :=
  ⟨Nat.zero_le _, Nat.zero_le _, Nat.zero_le _, Nat.zero_le _, fun _ h => absurd h (Nat.not_lt_zero _), fun _ h => absurd h (Nat.not_lt_zero _), fun _ h => absurd h (Nat.not_lt_zero _), fun _ h => absurd h (Nat.not_lt_zero _), fun _ h => absurd h (Nat.not_lt_zero _), fun _ h => absurd h (Nat.not_lt_zero _), fun _ h => absurd h (Nat.not_lt_zero _), fun _ h => absurd h (Nat.not_lt_zero _)⟩
theorem Good.addT {a : Abs} (G : Good a) (x : Type_) (h : ¬ 5 ≤ a.types.length) (hc : 1 ≤ x.cure) : Good { a with types := a.types ++ [x] } := by
  have hl : (a.types ++ [x]).length = a.types.length + 1 := by simp
  refine ⟨by show (a.types ++ [x]).length ≤ 5; omega, G.nM, G.nP, G.nG, fun t ht => ?_, fun m hm => ?_, G.pm, G.pb, G.pl, G.pt, fun g hg => ?_, G.gh⟩
  · show 1 ≤ ((a.types ++ [x]).getD t ⟨1, 0⟩).cure
    have ht : t < (a.types ++ [x]).length := ht
    rw [getD_snoc]
    split
    · rename_i h1; exact G.cure t h1
    · split
      · exact hc
      · exact Nat.le_refl _
  · show _ < (a.types ++ [x]).length
    have := G.mt m hm
    rw [hl]; exact Nat.lt_succ_of_lt this
  · show _ < (a.types ++ [x]).length
    have := G.gt g hg
    rw [hl]; exact Nat.lt_succ_of_lt this
theorem Good.addM {a : Abs} (G : Good a) (t : Nat) (h : ¬ 8 ≤ a.moulds.length) (ht : t < a.types.length) : Good { a with moulds := a.moulds ++ [⟨t, 0, 0⟩] } := by
  have hl : (a.moulds ++ [(⟨t, 0, 0⟩ : Mould)]).length = a.moulds.length + 1 := by simp
  refine ⟨G.nT, by show (a.moulds ++ [(⟨t, 0, 0⟩ : Mould)]).length ≤ 8; omega, G.nP, G.nG, G.cure, fun m hm => ?_, fun p hp => ?_, G.pb, G.pl, G.pt, G.gt, G.gh⟩
  · show ((a.moulds ++ [(⟨t, 0, 0⟩ : Mould)]).getD m ⟨0, 0, 0⟩).type_ < _
    have hm : m < (a.moulds ++ [(⟨t, 0, 0⟩ : Mould)]).length := hm
    rw [getD_snoc]
    split
    · rename_i h1; exact G.mt m h1
    · rw [if_pos (by omega)]; exact ht
  · show _ ≤ (a.moulds ++ [(⟨t, 0, 0⟩ : Mould)]).length
    have := G.pm p hp
    rw [hl]; exact Nat.le_succ_of_le this
theorem Good.addP {a : Abs} (G : Good a) (h : ¬ 5 ≤ a.presses.length) : Good { a with presses := a.presses ++ [⟨0, 0, 0, 0, 0, 0⟩] } := by
  have hl : (a.presses ++ [(⟨0, 0, 0, 0, 0, 0⟩ : Press)]).length = a.presses.length + 1 := by simp
  have hp : ∀ p, p < (a.presses ++ [(⟨0, 0, 0, 0, 0, 0⟩ : Press)]).length → (p < a.presses.length ∧ Abs.press { a with presses := a.presses ++ [⟨0, 0, 0, 0, 0, 0⟩] } p = a.press p) ∨ Abs.press { a with presses := a.presses ++ [⟨0, 0, 0, 0, 0, 0⟩] } p = ⟨0, 0, 0, 0, 0, 0⟩ := fun p hp => by
    show (p < a.presses.length ∧ (a.presses ++ [(⟨0, 0, 0, 0, 0, 0⟩ : Press)]).getD p ⟨0, 0, 0, 0, 0, 0⟩ = _) ∨ (a.presses ++ [(⟨0, 0, 0, 0, 0, 0⟩ : Press)]).getD p ⟨0, 0, 0, 0, 0, 0⟩ = _
    rw [getD_snoc]
    split
    · rename_i h1; exact .inl ⟨h1, rfl⟩
    · right; split <;> rfl
  refine ⟨G.nT, G.nM, by show (a.presses ++ [(⟨0, 0, 0, 0, 0, 0⟩ : Press)]).length ≤ 5; omega, G.nG, G.cure, G.mt, fun p h1 => ?_, fun p h1 => ?_, fun p h1 => ?_, fun p h1 h2 => ?_, G.gt, G.gh⟩
  · rcases hp p h1 with ⟨z, e⟩ | e
    · rw [e]; exact G.pm p z
    · rw [e]; exact Nat.zero_le _
  · rcases hp p h1 with ⟨z, e⟩ | e
    · rw [e]; exact G.pb p z
    · rw [e]; exact Nat.zero_le _
  · rcases hp p h1 with ⟨z, e⟩ | e
    · rw [e]; exact G.pl p z
    · rw [e]
  · rcases hp p h1 with ⟨z, e⟩ | e
    · rw [e] at h2 ⊢; exact G.pt p z h2
    · rw [e] at h2; simp at h2
theorem Good.addG {a : Abs} (G : Good a) (t : Nat) (h : ¬ 60 ≤ a.tyres.length) (ht : t < a.types.length) : Good { a with tyres := a.tyres ++ [⟨t, a.now_, 0, 0, 0, 0, 0⟩] } := by
  have hl : (a.tyres ++ [(⟨t, a.now_, 0, 0, 0, 0, 0⟩ : Tyre)]).length = a.tyres.length + 1 := by simp
  have hg : ∀ g, g < (a.tyres ++ [(⟨t, a.now_, 0, 0, 0, 0, 0⟩ : Tyre)]).length → (g < a.tyres.length ∧ Abs.tyre { a with tyres := a.tyres ++ [⟨t, a.now_, 0, 0, 0, 0, 0⟩] } g = a.tyre g) ∨ Abs.tyre { a with tyres := a.tyres ++ [⟨t, a.now_, 0, 0, 0, 0, 0⟩] } g = ⟨t, a.now_, 0, 0, 0, 0, 0⟩ := fun g hg => by
    show (g < a.tyres.length ∧ (a.tyres ++ [(⟨t, a.now_, 0, 0, 0, 0, 0⟩ : Tyre)]).getD g ⟨0, 0, 3, 0, 0, 0, 0⟩ = _) ∨ (a.tyres ++ [(⟨t, a.now_, 0, 0, 0, 0, 0⟩ : Tyre)]).getD g ⟨0, 0, 3, 0, 0, 0, 0⟩ = _
    rw [getD_snoc]
    split
    · rename_i h1; exact .inl ⟨h1, rfl⟩
    · right; rw [if_pos (by omega)]
  refine ⟨G.nT, G.nM, G.nP, by show (a.tyres ++ [(⟨t, a.now_, 0, 0, 0, 0, 0⟩ : Tyre)]).length ≤ 60; omega, G.cure, G.mt, G.pm, G.pb, G.pl, fun p h1 h2 => ?_, fun g h1 => ?_, fun g h1 => ?_⟩
  · have := G.pt p h1 h2
    refine ⟨?_, this.2⟩
    show _ < (a.tyres ++ [(⟨t, a.now_, 0, 0, 0, 0, 0⟩ : Tyre)]).length
    rw [hl]; exact Nat.lt_succ_of_lt this.1
  · rcases hg g h1 with ⟨z, e⟩ | e
    · rw [e]; exact G.gt g z
    · rw [e]; exact ht
  · rcases hg g h1 with ⟨z, e⟩ | e
    · rw [e]; exact G.gh g z
    · rw [e]; exact Nat.zero_le _
/-- a press written anew -/
theorem Good.setP {a : Abs} (G : Good a) (p : Nat) (f : Press → Press) (h : p < a.presses.length → (f (a.press p)).mould ≤ a.moulds.length ∧ (f (a.press p)).busy ≤ 2 ∧ ((f (a.press p)).left = 0 ↔ (f (a.press p)).busy = 0) ∧ ((f (a.press p)).busy = 2 → (f (a.press p)).tyre < a.tyres.length ∧ (f (a.press p)).mould ≠ 0)) : Good (a.setP p f) := by
  have hp : ∀ j, j < a.presses.length → (a.setP p f).press j = a.press j ∨ (p = j ∧ (a.setP p f).press j = f (a.press p)) := fun j hj => by
    rw [setP_press]
    split
    · rename_i e; obtain ⟨e, _⟩ := e; subst e; exact .inr ⟨rfl, rfl⟩
    · exact .inl rfl
  have hl := setP_len a p f
  refine ⟨G.nT, G.nM, by rw [hl]; exact G.nP, G.nG, G.cure, G.mt, fun j hj => ?_, fun j hj => ?_, fun j hj => ?_, fun j hj h2 => ?_, G.gt, G.gh⟩
  all_goals rw [hl] at hj
  · rcases hp j hj with e | ⟨e, e2⟩
    · rw [e]; exact G.pm j hj
    · subst e; rw [e2]; exact (h hj).1
  · rcases hp j hj with e | ⟨e, e2⟩
    · rw [e]; exact G.pb j hj
    · subst e; rw [e2]; exact (h hj).2.1
  · rcases hp j hj with e | ⟨e, e2⟩
    · rw [e]; exact G.pl j hj
    · subst e; rw [e2]; exact (h hj).2.2.1
  · rcases hp j hj with e | ⟨e, e2⟩
    · rw [e] at h2 ⊢; exact G.pt j hj h2
    · subst e; rw [e2] at h2 ⊢; exact (h hj).2.2.2 h2
theorem Good.setM {a : Abs} (G : Good a) (p : Nat) (f : Mould → Mould) (h : ∀ x, (f x).type_ = x.type_) : Good (a.setM p f) :=
  G.alike (alike_setM a p f h) (fun j hj => ⟨G.pb j hj, G.pl j hj, G.pt j hj⟩) G.gh
theorem Good.does {a : Abs} (G : Good a) (c : Su67.Call) : Good (Su67.does a c).1 := by
  cases c with
  | begin_ c l d =>
    show Good (if 500 < c ∨ l = 0 ∨ 1000 < l ∨ d = 0 ∨ 1000 < d then _ else _ : Abs × Su67.Ans).1
    split
    · exact G
    · exact good_new c l d
  | type_ c g =>
    show Good (if c = 0 ∨ 500 < c ∨ 10000 < g then _ else if 5 ≤ a.types.length then _ else _ : Abs × Su67.Ans).1
    split
    · exact G
    · split
      · exact G
      · exact G.addT _ (by assumption) (by show 1 ≤ c; omega)
  | mould t =>
    show Good (if decide (t < a.types.length) = false then _ else if 8 ≤ a.moulds.length then _ else _ : Abs × Su67.Ans).1
    split
    · exact G
    · split
      · exact G
      · rename_i h1 h2
        exact G.addM t h2 (by simpa using h1)
  | press =>
    show Good (if 5 ≤ a.presses.length then _ else _ : Abs × Su67.Ans).1
    split
    · exact G
    · exact G.addP (by assumption)
  | green t =>
    show Good (if decide (t < a.types.length) = false then _ else if 60 ≤ a.tyres.length then _ else _ : Abs × Su67.Ans).1
    split
    · exact G
    · split
      · exact G
      · rename_i h1 h2
        exact G.addG t h2 (by simpa using h1)
  | fit p m =>
    show Good (if decide (p < a.presses.length) = false ∨ decide (m < a.moulds.length) = false then _ else if (a.press p).busy ≠ 0 then _ else if (a.mould m).in_ ≠ 0 then _ else _ : Abs × Su67.Ans).1
    split
    · exact G
    · split
      · exact G
      · split
        · exact G
        · rename_i h1 h2 h3
          have h1 : p < a.presses.length ∧ m < a.moulds.length := by simpa using h1
          have h2 : (a.press p).busy = 0 := by simpa using h2
          have hl := (G.pl p h1.1).mpr h2
          show Good ((((if (a.press p).mould = 0 then a else a.setM ((a.press p).mould - 1) fun x => { x with in_ := 0 }).setM m fun x => { x with in_ := p + 1 }).setP p fun x => { x with mould := m + 1 }).busied p)
          have key : ∀ b : Abs, Good b → b.moulds.length = a.moulds.length → b.press p = a.press p → b.presses.length = a.presses.length → Good (((b.setM m fun x => { x with in_ := p + 1 }).setP p fun x => { x with mould := m + 1 }).busied p) := by
            intro b Gb e1 e2 e3
            rw [setP_busied]
            refine (Gb.setM m (fun x => { x with in_ := p + 1 }) fun _ => rfl).setP p _ fun _ => ?_
            have ep : (b.setM m fun x => { x with in_ := p + 1 }).press p = a.press p := e2
            have em : (b.setM m fun x => { x with in_ := p + 1 }).moulds.length = a.moulds.length := by rw [setM_len]; exact e1
            rw [ep, em]
            split
            · refine ⟨?_, ?_, ?_, ?_⟩
              · show m + 1 ≤ _; omega
              · show (a.press p).busy ≤ 2; omega
              · exact ⟨fun _ => h2, fun _ => hl⟩
              · intro z; exact absurd (show (a.press p).busy = 2 from z) (by omega)
            · rename_i hc
              refine ⟨?_, ?_, ?_, ?_⟩
              · show m + 1 ≤ _; omega
              · show 1 ≤ 2; omega
              · exact ⟨fun z => absurd z hc, fun z => absurd (show 1 = 0 from z) (by decide)⟩
              · intro z; exact absurd (show 1 = 2 from z) (by decide)
          by_cases h4 : (a.press p).mould = 0
          · rw [if_pos h4]; exact key a G rfl rfl rfl
          · rw [if_neg h4]; exact key _ (G.setM _ _ fun _ => rfl) (setM_len _ _ _) rfl rfl
  | bladder p =>
    show Good (if decide (p < a.presses.length) = false then _ else if (a.press p).busy ≠ 0 then _ else if (a.press p).worn = 0 then _ else _ : Abs × Su67.Ans).1
    split
    · exact G
    · split
      · exact G
      · split
        · exact G
        · rename_i h1 h2 h3
          have h1 : p < a.presses.length := by simpa using h1
          have h2 : (a.press p).busy = 0 := by simpa using h2
          have hl := (G.pl p h1).mpr h2
          show Good ((a.setP p fun x => { x with worn := 0, bladder := x.bladder + 1 }).busied p)
          rw [setP_busied]
          refine G.setP p _ fun _ => ?_
          have hm := G.pm p h1
          split
          · refine ⟨hm, ?_, ?_, ?_⟩
            · show (a.press p).busy ≤ 2; omega
            · exact ⟨fun _ => h2, fun _ => hl⟩
            · intro z; exact absurd (show (a.press p).busy = 2 from z) (by omega)
          · rename_i hc
            refine ⟨hm, ?_, ?_, ?_⟩
            · show 1 ≤ 2; omega
            · exact ⟨fun z => absurd z hc, fun z => absurd (show 1 = 0 from z) (by decide)⟩
            · intro z; exact absurd (show 1 = 2 from z) (by decide)
  | clean m =>
    show Good (if decide (m < a.moulds.length) = false then _ else if (a.mould m).in_ ≠ 0 then _ else if (a.mould m).used = 0 then _ else _ : Abs × Su67.Ans).1
    split
    · exact G
    · split
      · exact G
      · split
        · exact G
        · exact G.setM _ _ fun _ => rfl
  | load p g =>
    show Good (if decide (p < a.presses.length) = false ∨ decide (g < a.tyres.length) = false then _ else if a.why p ≠ 0 then _ else if (a.tyre g).how ≠ 0 then _ else if (a.tyre g).type_ ≠ a.kind p then _ else if a.old g = true then _ else _ : Abs × Su67.Ans).1
    split
    · exact G
    · split
      · exact G
      · split
        · exact G
        · split
          · exact G
          · split
            · exact G
            · rename_i h1 h2 h3 h4 h5
              have h1 : p < a.presses.length ∧ g < a.tyres.length := by simpa using h1
              have h2 : a.why p = 0 := by simpa using h2
              exact G.loaded h1.1 h1.2 (why_zero h2).2.1
  | auto_ b =>
    show Good (if 1 < b then _ else _ : Abs × Su67.Ans).1
    split
    · exact G
    · exact ⟨G.nT, G.nM, G.nP, G.nG, G.cure, G.mt, G.pm, G.pb, G.pl, G.pt, G.gt, G.gh⟩
  | minutes n =>
    show Good (if n = 0 ∨ 500 < n then _ else _ : Abs × Su67.Ans).1
    split
    · exact G
    · exact G.goes n
  | scrap g =>
    show Good (if decide (g < a.tyres.length) = false then _ else if (a.tyre g).how = 1 then _ else if (a.tyre g).how = 3 then _ else _ : Abs × Su67.Ans).1
    split
    · exact G
    · split
      · exact G
      · split
        · exact G
        · refine G.alike (alike_setG a g _ (fun _ => rfl) (fun _ => rfl)) (fun j hj => ⟨G.pb j hj, G.pl j hj, G.pt j hj⟩) (fun j hj => ?_)
          rw [setG_tyre]
          split
          · exact Nat.le_refl _
          · exact G.gh j hj
  | can p =>
    show Good (if decide (p < a.presses.length) = false then _ else _ : Abs × Su67.Ans).1
    split <;> exact G
  | waits t =>
    show Good (if decide (t < a.types.length) = false then _ else _ : Abs × Su67.Ans).1
    split <;> exact G
  | old => exact G
  | cured g =>
    show Good (if decide (g < a.tyres.length) = false then _ else _ : Abs × Su67.Ans).1
    split
    · exact G
    · cases a.cured g (Su67.WAIT + 1) <;> exact G
  | ahead n =>
    show Good (if n = 0 ∨ 500 < n then _ else _ : Abs × Su67.Ans).1
    split <;> exact G
  | needs t =>
    show Good (if decide (t < a.types.length) = false then _ else _ : Abs × Su67.Ans).1
    split
    · exact G
    · cases a.needs t <;> exact G
  | span t k =>
    show Good (if decide (t < a.types.length) = false then _ else if 5 < k then _ else _ : Abs × Su67.Ans).1
    split
    · exact G
    · split
      · exact G
      · cases a.span t k <;> exact G
  | share =>
    show Good (match a.share with | none => (a, Su67.no (-33)) | some x => (a, Su67.num x.1 x.2) : Abs × Su67.Ans).1
    cases a.share <;> exact G
  | by_ m =>
    show Good (if decide (m < a.moulds.length) = false then _ else _ : Abs × Su67.Ans).1
    split <;> exact G
  | within p n =>
    show Good (if decide (p < a.presses.length) = false then _ else _ : Abs × Su67.Ans).1
    split <;> exact G
  | look p =>
    show Good (if decide (p < a.presses.length) = false then _ else _ : Abs × Su67.Ans).1
    split <;> exact G
  | mouldat m =>
    show Good (if decide (m < a.moulds.length) = false then _ else _ : Abs × Su67.Ans).1
    split <;> exact G
  | tyre g =>
    show Good (if decide (g < a.tyres.length) = false then _ else _ : Abs × Su67.Ans).1
    split <;> exact G
  | sums => exact G
  | state => exact G
end
section
open Su67 (Abs)
/-! ### the list of calls taken apart -/
def givenL : List Nat := [3, 2, 1, 0, 1, 2, 1, 1, 2, 1, 1, 1, 1, 1, 0, 1, 1, 1, 2, 0, 1, 2, 1, 1, 1, 0, 0]
theorem pick_if {p : Int} {j : Nat} {a : Nat × Nat} {o : Option (Nat × Nat)} {kr : Nat × Nat} (h : (if p = (j : Int) then some a else o) = some kr) : (p = (j : Int) ∧ a = kr) ∨ o = some kr := by
  by_cases e : p = (j : Int)
  · rw [if_pos e] at h; exact .inl ⟨e, Option.some.inj h⟩
  · rw [if_neg e] at h; exact .inr h
theorem shape_given {p : Int} {k r : Nat} (h : PySu67.shape p = some (k, r)) : ∃ n : Nat, p = (n : Int) ∧ n < 27 ∧ r = 0 ∧ givenL[n]? = some k := by
  unfold PySu67.shape at h
  rcases pick_if (j := 0) h with ⟨e, z⟩ | h
  · cases z; exact ⟨0, e, by decide, rfl, rfl⟩
  rcases pick_if (j := 1) h with ⟨e, z⟩ | h
  · cases z; exact ⟨1, e, by decide, rfl, rfl⟩
  rcases pick_if (j := 2) h with ⟨e, z⟩ | h
  · cases z; exact ⟨2, e, by decide, rfl, rfl⟩
  rcases pick_if (j := 3) h with ⟨e, z⟩ | h
  · cases z; exact ⟨3, e, by decide, rfl, rfl⟩
  rcases pick_if (j := 4) h with ⟨e, z⟩ | h
  · cases z; exact ⟨4, e, by decide, rfl, rfl⟩
  rcases pick_if (j := 5) h with ⟨e, z⟩ | h
  · cases z; exact ⟨5, e, by decide, rfl, rfl⟩
  rcases pick_if (j := 6) h with ⟨e, z⟩ | h
  · cases z; exact ⟨6, e, by decide, rfl, rfl⟩
  rcases pick_if (j := 7) h with ⟨e, z⟩ | h
  · cases z; exact ⟨7, e, by decide, rfl, rfl⟩
  rcases pick_if (j := 8) h with ⟨e, z⟩ | h
  · cases z; exact ⟨8, e, by decide, rfl, rfl⟩
  rcases pick_if (j := 9) h with ⟨e, z⟩ | h
  · cases z; exact ⟨9, e, by decide, rfl, rfl⟩
  rcases pick_if (j := 10) h with ⟨e, z⟩ | h
  · cases z; exact ⟨10, e, by decide, rfl, rfl⟩
  rcases pick_if (j := 11) h with ⟨e, z⟩ | h
  · cases z; exact ⟨11, e, by decide, rfl, rfl⟩
  rcases pick_if (j := 12) h with ⟨e, z⟩ | h
  · cases z; exact ⟨12, e, by decide, rfl, rfl⟩
  rcases pick_if (j := 13) h with ⟨e, z⟩ | h
  · cases z; exact ⟨13, e, by decide, rfl, rfl⟩
  rcases pick_if (j := 14) h with ⟨e, z⟩ | h
  · cases z; exact ⟨14, e, by decide, rfl, rfl⟩
  rcases pick_if (j := 15) h with ⟨e, z⟩ | h
  · cases z; exact ⟨15, e, by decide, rfl, rfl⟩
  rcases pick_if (j := 16) h with ⟨e, z⟩ | h
  · cases z; exact ⟨16, e, by decide, rfl, rfl⟩
  rcases pick_if (j := 17) h with ⟨e, z⟩ | h
  · cases z; exact ⟨17, e, by decide, rfl, rfl⟩
  rcases pick_if (j := 18) h with ⟨e, z⟩ | h
  · cases z; exact ⟨18, e, by decide, rfl, rfl⟩
  rcases pick_if (j := 19) h with ⟨e, z⟩ | h
  · cases z; exact ⟨19, e, by decide, rfl, rfl⟩
  rcases pick_if (j := 20) h with ⟨e, z⟩ | h
  · cases z; exact ⟨20, e, by decide, rfl, rfl⟩
  rcases pick_if (j := 21) h with ⟨e, z⟩ | h
  · cases z; exact ⟨21, e, by decide, rfl, rfl⟩
  rcases pick_if (j := 22) h with ⟨e, z⟩ | h
  · cases z; exact ⟨22, e, by decide, rfl, rfl⟩
  rcases pick_if (j := 23) h with ⟨e, z⟩ | h
  · cases z; exact ⟨23, e, by decide, rfl, rfl⟩
  rcases pick_if (j := 24) h with ⟨e, z⟩ | h
  · cases z; exact ⟨24, e, by decide, rfl, rfl⟩
  rcases pick_if (j := 25) h with ⟨e, z⟩ | h
  · cases z; exact ⟨25, e, by decide, rfl, rfl⟩
  rcases pick_if (j := 26) h with ⟨e, z⟩ | h
  · cases z; exact ⟨26, e, by decide, rfl, rfl⟩
  cases h
/-- a call: its place, and as many numbers as its place has -/
def IsCall (c : List Int) : Prop := ∃ p xs, c = p :: xs ∧ PySu67.shape p = some (xs.length, 0)
theorem call_parts {l : List Int} {c : List (List Int)} {t : List Int} (h : PyFlat.call PySu67.shape l = some (c, t)) : ∃ x, c = [x] ∧ IsCall x ∧ l = x ++ t := by
  cases l with
  | nil => cases h
  | cons p r =>
    cases hs : PySu67.shape p with
    | none => simp only [PyFlat.call, hs] at h; cases h
    | some q =>
      obtain ⟨n, k⟩ := q
      obtain ⟨m, em, _, e0, _⟩ := shape_given hs
      subst e0
      simp only [PyFlat.call, hs] at h
      by_cases hn : r.length < n
      · rw [if_pos hn] at h; cases h
      · rw [if_neg hn] at h
        unfold PyFlat.rows at h
        simp only [Option.some.injEq, Prod.mk.injEq] at h
        obtain ⟨h1, h2⟩ := h
        subst h1 h2
        refine ⟨p :: r.take n, rfl, ⟨p, r.take n, rfl, ?_⟩, ?_⟩
        · rw [List.length_take, Nat.min_eq_left (by omega)]; exact hs
        · show p :: r = p :: (r.take n ++ r.drop n)
          rw [List.take_append_drop]
theorem calls_parts : ∀ (f : Nat) (l : List Int) (raw : List (List (List Int))), PyFlat.calls PySu67.shape f l = some raw → ∃ cs : List (List Int), raw = cs.map (fun c => [c]) ∧ (∀ c ∈ cs, IsCall c) ∧ l = cs.flatten := by
  intro f
  induction f with
  | zero =>
    intro l raw h
    cases l with
    | nil => cases h; exact ⟨[], rfl, fun _ h => absurd h (by simp), rfl⟩
    | cons p r => cases h
  | succ f ih =>
    intro l raw h
    cases l with
    | nil => cases h; exact ⟨[], rfl, fun _ h => absurd h (by simp), rfl⟩
    | cons p r =>
      cases hc : PyFlat.call PySu67.shape (p :: r) with
      | none => simp only [PyFlat.calls, hc] at h; cases h
      | some q =>
        obtain ⟨c, t⟩ := q
        simp only [PyFlat.calls, hc] at h
        cases ht : PyFlat.calls PySu67.shape f t with
        | none => rw [ht] at h; cases h
        | some cs0 =>
          rw [ht] at h
          cases h
          obtain ⟨cs, e1, e2, e3⟩ := ih t cs0 ht
          obtain ⟨x, ex, hx, el⟩ := call_parts hc
          refine ⟨x :: cs, by rw [ex, e1]; rfl, fun d hd => ?_, ?_⟩
          · rcases List.mem_cons.mp hd with e | e
            · rw [e]; exact hx
            · exact e2 d e
          · rw [el, e3]; rfl
theorem split27 : ∀ n, n < 27 → (n = 0 ∨ n = 1 ∨ n = 2 ∨ n = 3 ∨ n = 4 ∨ n = 5 ∨ n = 6 ∨ n = 7 ∨ n = 8 ∨ n = 9 ∨ n = 10 ∨ n = 11 ∨ n = 12 ∨ n = 13 ∨ n = 14 ∨ n = 15 ∨ n = 16 ∨ n = 17 ∨ n = 18 ∨ n = 19 ∨ n = 20 ∨ n = 21 ∨ n = 22 ∨ n = 23 ∨ n = 24 ∨ n = 25 ∨ n = 26) := by decide
/-- a call's numbers, so many -/
theorem len0 {α : Type} {l : List α} (h : l.length = 0) : l = [] := by cases l with | nil => rfl | cons _ _ => cases h
theorem len1 {α : Type} {l : List α} (h : l.length = 1) : ∃ a, l = [a] := by
  match l, h with
  | [a], _ => exact ⟨a, rfl⟩
theorem len2 {α : Type} {l : List α} (h : l.length = 2) : ∃ a b, l = [a, b] := by
  match l, h with
  | [a, b], _ => exact ⟨a, b, rfl⟩
theorem len3 {α : Type} {l : List α} (h : l.length = 3) : ∃ a b c, l = [a, b, c] := by
  match l, h with
  | [a, b, c], _ => exact ⟨a, b, c, rfl⟩
/-- the call that stands there -/
theorem callOf_whole {c : List Int} (h : IsCall c) : (∃ k, Su67Neutral.callOf c = some k) ∧ PySu67.whole [c] = [c] := by
  obtain ⟨p, xs, rfl, hs⟩ := h
  obtain ⟨n, rfl, hn, _, hg⟩ := shape_given hs
  have hl : ∀ k, givenL[n]? = some k → xs.length = k := fun k e => Option.some.inj (hg.symm.trans e)
  rcases split27 n hn with rfl | rfl | rfl | rfl | rfl | rfl | rfl | rfl | rfl | rfl | rfl | rfl | rfl | rfl | rfl | rfl | rfl | rfl | rfl | rfl | rfl | rfl | rfl | rfl | rfl | rfl | rfl
  · obtain ⟨a, b, c, rfl⟩ := len3 (hl 3 rfl); exact ⟨⟨_, rfl⟩, rfl⟩
  · obtain ⟨a, b, rfl⟩ := len2 (hl 2 rfl); exact ⟨⟨_, rfl⟩, rfl⟩
  · obtain ⟨a, rfl⟩ := len1 (hl 1 rfl); exact ⟨⟨_, rfl⟩, rfl⟩
  · obtain rfl := len0 (hl 0 rfl); exact ⟨⟨_, rfl⟩, rfl⟩
  · obtain ⟨a, rfl⟩ := len1 (hl 1 rfl); exact ⟨⟨_, rfl⟩, rfl⟩
  · obtain ⟨a, b, rfl⟩ := len2 (hl 2 rfl); exact ⟨⟨_, rfl⟩, rfl⟩
  · obtain ⟨a, rfl⟩ := len1 (hl 1 rfl); exact ⟨⟨_, rfl⟩, rfl⟩
  · obtain ⟨a, rfl⟩ := len1 (hl 1 rfl); exact ⟨⟨_, rfl⟩, rfl⟩
  · obtain ⟨a, b, rfl⟩ := len2 (hl 2 rfl); exact ⟨⟨_, rfl⟩, rfl⟩
  · obtain ⟨a, rfl⟩ := len1 (hl 1 rfl); exact ⟨⟨_, rfl⟩, rfl⟩
  · obtain ⟨a, rfl⟩ := len1 (hl 1 rfl); exact ⟨⟨_, rfl⟩, rfl⟩
  · obtain ⟨a, rfl⟩ := len1 (hl 1 rfl); exact ⟨⟨_, rfl⟩, rfl⟩
  · obtain ⟨a, rfl⟩ := len1 (hl 1 rfl); exact ⟨⟨_, rfl⟩, rfl⟩
  · obtain ⟨a, rfl⟩ := len1 (hl 1 rfl); exact ⟨⟨_, rfl⟩, rfl⟩
  · obtain rfl := len0 (hl 0 rfl); exact ⟨⟨_, rfl⟩, rfl⟩
  · obtain ⟨a, rfl⟩ := len1 (hl 1 rfl); exact ⟨⟨_, rfl⟩, rfl⟩
  · obtain ⟨a, rfl⟩ := len1 (hl 1 rfl); exact ⟨⟨_, rfl⟩, rfl⟩
  · obtain ⟨a, rfl⟩ := len1 (hl 1 rfl); exact ⟨⟨_, rfl⟩, rfl⟩
  · obtain ⟨a, b, rfl⟩ := len2 (hl 2 rfl); exact ⟨⟨_, rfl⟩, rfl⟩
  · obtain rfl := len0 (hl 0 rfl); exact ⟨⟨_, rfl⟩, rfl⟩
  · obtain ⟨a, rfl⟩ := len1 (hl 1 rfl); exact ⟨⟨_, rfl⟩, rfl⟩
  · obtain ⟨a, b, rfl⟩ := len2 (hl 2 rfl); exact ⟨⟨_, rfl⟩, rfl⟩
  · obtain ⟨a, rfl⟩ := len1 (hl 1 rfl); exact ⟨⟨_, rfl⟩, rfl⟩
  · obtain ⟨a, rfl⟩ := len1 (hl 1 rfl); exact ⟨⟨_, rfl⟩, rfl⟩
  · obtain ⟨a, rfl⟩ := len1 (hl 1 rfl); exact ⟨⟨_, rfl⟩, rfl⟩
  · obtain rfl := len0 (hl 0 rfl); exact ⟨⟨_, rfl⟩, rfl⟩
  · obtain rfl := len0 (hl 0 rfl); exact ⟨⟨_, rfl⟩, rfl⟩
theorem callOf_is {c : List Int} (h : IsCall c) : ∃ k, Su67Neutral.callOf c = some k := (callOf_whole h).1
/-- the answers, call by call -/
def playd : Option Abs → List (List Int) → List (List Int)
  | _, [] => []
  | s, c :: r => (Su67Neutral.step s c).2 :: playd (Su67Neutral.step s c).1 r
theorem played_map : ∀ (cs : List (List Int)) (s : Option Abs), PyFlat.played (fun s c => Su67Neutral.step s (c.headD [])) s (cs.map fun c => [c]) = playd s cs
  | [], s => rfl
  | c :: cs, s => by
    show (Su67Neutral.step s c).2 :: PyFlat.played _ (Su67Neutral.step s c).1 (cs.map fun c => [c]) = _
    rw [played_map cs]
    rfl
theorem parse {l : List Int} (h : PySu67.answers_asked l = true) : ∃ cs : List (List Int), l = cs.flatten ∧ (∀ c ∈ cs, IsCall c) ∧ PySu67.answers l = PyFlat.told (playd none cs) ∧ (PyFlat.told (playd none cs)).length ≤ 10000000 := by
  unfold PySu67.answers_asked at h
  cases hc : PyFlat.calls PySu67.shape l.length l with
  | none => rw [hc] at h; cases h
  | some raw =>
    rw [hc] at h
    simp only [Bool.and_eq_true] at h
    obtain ⟨cs, e1, e2, e3⟩ := calls_parts _ l raw hc
    have ea : PySu67.answers l = PyFlat.told (playd none cs) := by
      unfold PySu67.answers PySu67.calls
      rw [hc]
      show PyFlat.told (PyFlat.played _ none (raw.map PySu67.whole)) = _
      rw [e1, List.map_map]
      have : (cs.map (PySu67.whole ∘ fun c => [c])) = cs.map fun c => [c] := List.map_congr_left fun c hc => (callOf_whole (e2 c hc)).2
      rw [this, played_map]
    refine ⟨cs, e3, e2, ea, ?_⟩
    rw [← ea]
    exact of_decide_eq_true h.2
theorem told_append (x y : List (List Int)) : PyFlat.told (x ++ y) = PyFlat.told x ++ PyFlat.told y := by
  unfold PyFlat.told; rw [List.flatMap_append]
/-- the state behind so many calls -/
def stateAt : Option Abs → List (List Int) → Option Abs
  | s, [] => s
  | s, c :: r => stateAt (Su67Neutral.step s c).1 r
theorem playd_append : ∀ (x y : List (List Int)) (s : Option Abs), playd s (x ++ y) = playd s x ++ playd (stateAt s x) y
  | [], y, s => rfl
  | c :: x, y, s => by
    show (Su67Neutral.step s c).2 :: playd _ (x ++ y) = _
    rw [playd_append x y]
    rfl
theorem stateAt_append : ∀ (x y : List (List Int)) (s : Option Abs), stateAt s (x ++ y) = stateAt (stateAt s x) y
  | [], y, s => rfl
  | c :: x, y, s => stateAt_append x y _
end
section
open Su67 (Abs Press Mould Tyre)
/-- in how many minutes a tyre is cured: the first minute in which it is -/
theorem cured_first (g : Nat) : ∀ (n : Nat) (a : Abs), match a.cured g n with
    | none => ∀ j, j < n → ((a.goes j).tyre g).how ≠ 2
    | some k => k < n ∧ ((a.goes k).tyre g).how = 2 ∧ ∀ j, j < k → ((a.goes j).tyre g).how ≠ 2
  | 0, a => fun j h => absurd h (Nat.not_lt_zero _)
  | n + 1, a => by
    have ih := cured_first g n a.minute
    have e : a.cured g (n + 1) = if (a.tyre g).how = 2 then some 0 else (a.minute.cured g n).map fun k => k + 1 := rfl
    by_cases h : (a.tyre g).how = 2
    · rw [e, if_pos h]
      exact ⟨Nat.succ_pos _, h, fun j hj => absurd hj (Nat.not_lt_zero _)⟩
    · rw [e, if_neg h]
      cases hc : a.minute.cured g n with
      | none =>
        rw [hc] at ih
        intro j hj
        cases j with
        | zero => exact h
        | succ j => exact ih j (by omega)
      | some k =>
        rw [hc] at ih
        show k + 1 < n + 1 ∧ ((a.goes (k + 1)).tyre g).how = 2 ∧ ∀ j, j < k + 1 → _
        refine ⟨by omega, ih.2.1, fun j hj => ?_⟩
        cases j with
        | zero => exact h
        | succ j => exact ih.2.2 j (by omega)
theorem cured_none {g n : Nat} {a : Abs} (h : ∀ j, j < n → ((a.goes j).tyre g).how ≠ 2) : a.cured g n = none := by
  have z := cured_first g n a
  cases e : a.cured g n with
  | none => rfl
  | some k =>
    rw [e] at z
    exact absurd z.2.1 (h k z.1)
theorem cured_some {g n k : Nat} {a : Abs} (hk : k < n) (h1 : ((a.goes k).tyre g).how = 2) (h2 : ∀ j, j < k → ((a.goes j).tyre g).how ≠ 2) : a.cured g n = some k := by
  have z := cured_first g n a
  cases e : a.cured g n with
  | none =>
    rw [e] at z
    exact absurd h1 (z k hk)
  | some m =>
    rw [e] at z
    rcases Nat.lt_trichotomy m k with q | q | q
    · exact absurd z.2.1 (h2 m q)
    · rw [q]
    · exact absurd h1 (z.2.2 k q)
end
section
open Su67 (Abs Press Mould Tyre)
/-! ### a press that cures has a tyre that's in a press, and in no other -/
structure Held (a : Abs) : Prop where
  how : ∀ p, p < a.presses.length → (a.press p).busy = 2 → (a.tyre (a.press p).tyre).how = 1
  one : ∀ p p', p < a.presses.length → p' < a.presses.length → (a.press p).busy = 2 → (a.press p').busy = 2 → (a.press p).tyre = (a.press p').tyre → p = p'
theorem Held.loaded {a : Abs} (D : Held a) {p g : Nat} (hg : g < a.tyres.length) (h0 : (a.tyre g).how = 0) : Held (a.loaded p g) := by
  have al := alike_loaded a p g
  have ne : ∀ j, j < a.presses.length → (a.press j).busy = 2 → g ≠ (a.press j).tyre := fun j hj hb e => by
    have := D.how j hj hb
    rw [← e, h0] at this
    exact absurd this (by decide)
  refine ⟨fun j hj hb => ?_, fun j j' hj hj' hb hb' e => ?_⟩
  · rw [al.nP] at hj
    rw [loaded_press] at hb ⊢
    by_cases e : p = j
    · subst e
      rw [if_pos ⟨rfl, hj⟩]
      rw [loaded_tyre]
      show (if g = g ∧ g < a.tyres.length then _ else _ : Tyre).how = 1
      rw [if_pos ⟨rfl, hg⟩]
    · rw [if_neg (by simp [e])] at hb ⊢
      rw [loaded_tyre, if_neg (by intro z; exact ne j hj hb z.1)]
      exact D.how j hj hb
  · rw [al.nP] at hj hj'
    rw [loaded_press] at hb e
    rw [loaded_press] at hb' e
    by_cases e1 : p = j
    · by_cases e2 : p = j'
      · omega
      · subst e1
        rw [if_pos ⟨rfl, hj⟩, if_neg (by simp [e2])] at e
        rw [if_neg (by simp [e2])] at hb'
        exact absurd e (ne j' hj' hb')
    · by_cases e2 : p = j'
      · subst e2
        rw [if_neg (by simp [e1]), if_pos ⟨rfl, hj'⟩] at e
        rw [if_neg (by simp [e1])] at hb
        exact absurd e.symm (ne j hj hb)
      · rw [if_neg (by simp [e1]), if_neg (by simp [e2])] at e
        rw [if_neg (by simp [e1])] at hb
        rw [if_neg (by simp [e2])] at hb'
        exact D.one j j' hj hj' hb hb' e
theorem Held.takes {a : Abs} (D : Held a) (p : Nat) : Held (a.takes p) := by
  unfold Su67.Abs.takes
  split
  · exact D
  · split
    · exact D
    · rename_i g l e
      have hg := mem_waits (a := a) (t := a.kind p) (g := g) (by rw [e]; exact List.mem_cons_self ..)
      exact D.loaded hg.1 hg.2.1
theorem Held.fold {a : Abs} (D : Held a) : ∀ l : List Nat, Held (l.foldl Abs.takes a) := by
  intro l
  induction l generalizing a with
  | nil => exact D
  | cons p l ih => exact ih (D.takes p)
theorem Held.pre {a : Abs} (D : Held a) : Held (pre a) := by
  unfold Ty.pre
  split
  · exact D.fold _
  · exact D
theorem tyresF_keep (n now : Nat) (d : Tyre) (t : Nat) : ∀ (ps : List Press) (ts : List Tyre), (∀ x ∈ ps, ends n x = true → x.tyre ≠ t) → (tyresF n now ps ts).getD t d = ts.getD t d
  | [], ts, _ => rfl
  | x :: ps, ts, h => by
    show (tyresF n now ps (if ends n x then _ else ts)).getD t d = _
    rw [tyresF_keep n now d t ps _ fun z hz => h z (List.mem_cons_of_mem _ hz)]
    by_cases e : ends n x = true
    · rw [if_pos e, getD_modify, if_neg (by intro z; exact h x (List.mem_cons_self ..) e z.1)]
    · rw [if_neg e]
theorem ends_busy {n : Nat} {x : Press} (h : ends n x = true) : x.busy = 2 ∧ x.left ≠ 0 ∧ ¬ n < x.left := by
  unfold ends at h
  simp at h
  exact ⟨h.2.2, h.1, by omega⟩
theorem pressF_busy {n : Nat} {x : Press} (h : (pressF n x).busy = 2) : x.busy = 2 ∧ ends n x = false ∧ (pressF n x).tyre = x.tyre := by
  unfold pressF at h ⊢
  unfold ends
  by_cases h0 : x.left = 0
  · rw [if_pos h0] at h ⊢; exact ⟨h, by simp [h0], rfl⟩
  · rw [if_neg h0] at h ⊢
    by_cases h1 : n < x.left
    · rw [if_pos h1] at h ⊢; exact ⟨h, by simp [h1], rfl⟩
    · rw [if_neg h1] at h
      split at h <;> exact absurd h (by simp)
theorem workAll_tyre (n : Nat) (a : Abs) (t : Nat) : (workAll n a).tyre t = (tyresF n (a.now_ + n) a.presses a.tyres).getD t ⟨0, 0, 3, 0, 0, 0, 0⟩ := by
  rw [workAll_eq]; rfl
theorem Held.workAll {a : Abs} (D : Held a) (n : Nat) : Held (workAll n a) := by
  have al := alike_workAll n a
  refine ⟨fun p hp hb => ?_, fun p p' hp hp' hb hb' e => ?_⟩
  · rw [al.nP] at hp
    rw [workAll_press n a hp] at hb ⊢
    obtain ⟨b1, b2, b3⟩ := pressF_busy hb
    rw [b3, workAll_tyre, tyresF_keep]
    · exact D.how p hp b1
    · intro x hx hxe z
      obtain ⟨j, hj, rfl⟩ := mem_press hx
      have := D.one j p hj hp (ends_busy hxe).1 b1 z
      subst this
      rw [b2] at hxe; cases hxe
  · rw [al.nP] at hp hp'
    rw [workAll_press n a hp] at hb e
    rw [workAll_press n a hp'] at hb' e
    obtain ⟨b1, b2, b3⟩ := pressF_busy hb
    obtain ⟨c1, c2, c3⟩ := pressF_busy hb'
    rw [b3, c3] at e
    exact D.one p p' hp hp' b1 c1 e
theorem Held.minute {a : Abs} (G : Good a) (D : Held a) : Held a.minute := by rw [minute_eq G]; exact D.pre.workAll 1
theorem Held.goes {a : Abs} (G : Good a) (D : Held a) : ∀ n, Held (a.goes n) := by
  intro n
  induction n generalizing a with
  | zero => exact D
  | succ n ih => exact ih G.minute (D.minute G)
/-- a tyre that isn't waiting is left as it is by loading -/
theorem takes_keep (a : Abs) (p g : Nat) (h : (a.tyre g).how ≠ 0) : (a.takes p).tyre g = a.tyre g := by
  unfold Su67.Abs.takes
  split
  · rfl
  · split
    · rfl
    · rename_i x l e
      have hg := mem_waits (a := a) (t := a.kind p) (g := x) (by rw [e]; exact List.mem_cons_self ..)
      rw [loaded_tyre, if_neg]
      rintro ⟨z, _⟩
      subst z
      exact h hg.2.1
theorem fold_keep (g : Nat) : ∀ (l : List Nat) (a : Abs), (a.tyre g).how ≠ 0 → (l.foldl Abs.takes a).tyre g = a.tyre g
  | [], a, _ => rfl
  | p :: l, a, h => by
    show (l.foldl Abs.takes (a.takes p)).tyre g = _
    rw [fold_keep g l (a.takes p) (by rw [takes_keep a p g h]; exact h), takes_keep a p g h]
theorem pre_keep (a : Abs) (g : Nat) (h : (a.tyre g).how ≠ 0) : (pre a).tyre g = a.tyre g := by
  unfold pre
  split
  · exact fold_keep g _ a h
  · rfl
/-- what is cured stays as it is -/
theorem minute_keep {a : Abs} (G : Good a) (D : Held a) (g : Nat) (h : (a.tyre g).how = 2) : a.minute.tyre g = a.tyre g := by
  have hp := pre_keep a g (by omega)
  rw [minute_eq G, workAll_tyre, tyresF_keep]
  · exact hp
  · intro x hx hxe z
    obtain ⟨j, hj, rfl⟩ := mem_press hx
    have := D.pre.how j hj (ends_busy hxe).1
    rw [z, hp, h] at this
    exact absurd this (by decide)
theorem goes_keep {a : Abs} (G : Good a) (D : Held a) (g : Nat) : ∀ n, (a.tyre g).how = 2 → (a.goes n).tyre g = a.tyre g := by
  intro n
  induction n generalizing a with
  | zero => intro _; rfl
  | succ n ih =>
    intro h
    have e := minute_keep G D g h
    show (a.minute.goes n).tyre g = _
    rw [ih G.minute (D.minute G) (by rw [e]; exact h), e]
/-- .. and was cured in the minute that came then -/
theorem tyresF_at (n now : Nat) (d : Tyre) (t : Nat) : ∀ (ps : List Press) (ts : List Tyre), ((ts.getD t d).how ≠ 2 ∨ (ts.getD t d).at_ = now) → ((tyresF n now ps ts).getD t d).how ≠ 2 ∨ ((tyresF n now ps ts).getD t d).at_ = now
  | [], ts, h => h
  | x :: ps, ts, h => by
    refine tyresF_at n now d t ps _ ?_
    by_cases e : ends n x = true
    · simp only [e, if_true]
      rw [getD_modify]
      split
      · exact .inr rfl
      · exact h
    · simp only [e]
      exact h
theorem takes_new (a : Abs) (p g : Nat) (h : (a.tyre g).how ≠ 2) : ((a.takes p).tyre g).how ≠ 2 := by
  unfold Su67.Abs.takes
  split
  · exact h
  · split
    · exact h
    · rw [loaded_tyre]
      split
      · simp
      · exact h
theorem pre_new (a : Abs) (g : Nat) (h : (a.tyre g).how ≠ 2) : ((pre a).tyre g).how ≠ 2 := by
  unfold pre
  split
  · have : ∀ (l : List Nat) (a : Abs), (a.tyre g).how ≠ 2 → ((l.foldl Abs.takes a).tyre g).how ≠ 2 := by
      intro l
      induction l with
      | nil => intro a h; exact h
      | cons p l ih => intro a h; exact ih _ (takes_new a p g h)
    exact this _ a h
  · exact h
theorem minute_at {a : Abs} (G : Good a) (g : Nat) (h : (a.tyre g).how ≠ 2) (h2 : (a.minute.tyre g).how = 2) : (a.minute.tyre g).at_ = a.now_ + 1 := by
  rw [minute_eq G, workAll_tyre] at h2 ⊢
  have := tyresF_at 1 ((pre a).now_ + 1) ⟨0, 0, 3, 0, 0, 0, 0⟩ g (pre a).presses (pre a).tyres (.inl (pre_new a g h))
  rw [pre_now] at this h2 ⊢
  rcases this with z | z
  · exact absurd h2 z
  · exact z
/-- cured within n minutes: at which, told by the tyre itself -/
theorem goes_at {a : Abs} (G : Good a) (D : Held a) (g : Nat) : ∀ n, (a.tyre g).how ≠ 2 → ((a.goes n).tyre g).how = 2 → ∃ k, k ≤ n ∧ ((a.goes n).tyre g).at_ = a.now_ + k ∧ ((a.goes k).tyre g).how = 2 ∧ ∀ j, j < k → ((a.goes j).tyre g).how ≠ 2 := by
  intro n
  induction n generalizing a with
  | zero => intro h1 h2; exact absurd h2 h1
  | succ n ih =>
    intro h1 h2
    by_cases h3 : (a.minute.tyre g).how = 2
    · refine ⟨1, by omega, ?_, h3, fun j hj => ?_⟩
      · show ((a.minute.goes n).tyre g).at_ = _
        rw [goes_keep G.minute (D.minute G) g n h3]
        exact minute_at G g h1 h3
      · have : j = 0 := by omega
        subst this; exact h1
    · obtain ⟨k, hk, e1, e2, e3⟩ := ih G.minute (D.minute G) h3 h2
      refine ⟨k + 1, by omega, ?_, e2, fun j hj => ?_⟩
      · show ((a.minute.goes n).tyre g).at_ = _
        rw [e1, minute_now G]; omega
      · cases j with
        | zero => exact h1
        | succ j => exact e3 j (by omega)
end
section
open Su67 (Abs Press Mould Tyre)
theorem held_new (c l d : Nat) : Held (Su67.new c l d) := ⟨fun _ h => absurd h (Nat.not_lt_zero _), fun _ _ h => absurd h (Nat.not_lt_zero _)⟩
/-- kept where presses that cure, and their tyres, are as they were -/
theorem Held.of {a b : Abs} (D : Held a) (h1 : ∀ p, p < b.presses.length → (b.press p).busy = 2 → p < a.presses.length ∧ (a.press p).busy = 2 ∧ (b.press p).tyre = (a.press p).tyre ∧ (b.tyre (a.press p).tyre).how = 1) : Held b := by
  refine ⟨fun p hp hb => ?_, fun p p' hp hp' hb hb' e => ?_⟩
  · obtain ⟨_, _, e, h⟩ := h1 p hp hb
    rw [e]; exact h
  · obtain ⟨q1, q2, q3, _⟩ := h1 p hp hb
    obtain ⟨r1, r2, r3, _⟩ := h1 p' hp' hb'
    rw [q3, r3] at e
    exact D.one p p' q1 r1 q2 r2 e
theorem Held.same {a b : Abs} (D : Held a) (h1 : b.presses = a.presses) (h2 : ∀ p, p < a.presses.length → (a.press p).busy = 2 → (b.tyre (a.press p).tyre).how = (a.tyre (a.press p).tyre).how) : Held b := by
  have ep : ∀ p, b.press p = a.press p := fun p => by unfold Su67.Abs.press; rw [h1]
  refine D.of fun p hp hb => ?_
  rw [h1] at hp
  rw [ep] at hb
  exact ⟨hp, hb, by rw [ep], by rw [h2 p hp hb]; exact D.how p hp hb⟩
/-- a press written anew that doesn't cure then -/
theorem Held.setP {a : Abs} (D : Held a) (p : Nat) (f : Press → Press) (h : p < a.presses.length → (f (a.press p)).busy ≠ 2) : Held (a.setP p f) := by
  refine D.of fun j hj hb => ?_
  rw [setP_len] at hj
  rw [setP_press] at hb ⊢
  by_cases e : p = j
  · subst e
    rw [if_pos ⟨rfl, hj⟩] at hb
    exact absurd hb (h hj)
  · rw [if_neg (by simp [e])] at hb ⊢
    exact ⟨hj, hb, rfl, D.how j hj hb⟩
theorem Held.setM {a : Abs} (D : Held a) (p : Nat) (f : Mould → Mould) : Held (a.setM p f) := D.same rfl fun _ _ _ => rfl
theorem Held.does {a : Abs} (G : Good a) (D : Held a) (c : Su67.Call) : Held (Su67.does a c).1 := by
  cases c with
  | begin_ c l d =>
    show Held (if 500 < c ∨ l = 0 ∨ 1000 < l ∨ d = 0 ∨ 1000 < d then _ else _ : Abs × Su67.Ans).1
    split
    · exact D
    · exact held_new c l d
  | type_ c g =>
    show Held (if c = 0 ∨ 500 < c ∨ 10000 < g then _ else if 5 ≤ a.types.length then _ else _ : Abs × Su67.Ans).1
    split
    · exact D
    · split
      · exact D
      · exact D.same rfl fun _ _ _ => rfl
  | mould t =>
    show Held (if decide (t < a.types.length) = false then _ else if 8 ≤ a.moulds.length then _ else _ : Abs × Su67.Ans).1
    split
    · exact D
    · split
      · exact D
      · exact D.same rfl fun _ _ _ => rfl
  | press =>
    show Held (if 5 ≤ a.presses.length then _ else _ : Abs × Su67.Ans).1
    split
    · exact D
    · refine D.of fun p hp hb => ?_
      have e : Abs.press { a with presses := a.presses ++ [⟨0, 0, 0, 0, 0, 0⟩] } p = if p < a.presses.length then a.press p else if p = a.presses.length then ⟨0, 0, 0, 0, 0, 0⟩ else ⟨0, 0, 0, 0, 0, 0⟩ := getD_snoc _ _ _ _
      have hb : (Abs.press { a with presses := a.presses ++ [⟨0, 0, 0, 0, 0, 0⟩] } p).busy = 2 := hb
      show p < a.presses.length ∧ (a.press p).busy = 2 ∧ (Abs.press { a with presses := a.presses ++ [⟨0, 0, 0, 0, 0, 0⟩] } p).tyre = _ ∧ (a.tyre (a.press p).tyre).how = 1
      rw [e] at hb ⊢
      by_cases h : p < a.presses.length
      · rw [if_pos h] at hb ⊢
        exact ⟨h, hb, rfl, D.how p h hb⟩
      · rw [if_neg h] at hb
        split at hb <;> exact absurd hb (by decide)
  | green t =>
    show Held (if decide (t < a.types.length) = false then _ else if 60 ≤ a.tyres.length then _ else _ : Abs × Su67.Ans).1
    split
    · exact D
    · split
      · exact D
      · refine D.same rfl fun p hp hb => ?_
        have hlt := (G.pt p hp hb).1
        show ((a.tyres ++ [(⟨t, a.now_, 0, 0, 0, 0, 0⟩ : Tyre)]).getD (a.press p).tyre ⟨0, 0, 3, 0, 0, 0, 0⟩).how = _
        rw [getD_snoc, if_pos hlt]
        rfl
  | fit p m =>
    show Held (if decide (p < a.presses.length) = false ∨ decide (m < a.moulds.length) = false then _ else if (a.press p).busy ≠ 0 then _ else if (a.mould m).in_ ≠ 0 then _ else _ : Abs × Su67.Ans).1
    split
    · exact D
    · split
      · exact D
      · split
        · exact D
        · rename_i h1 h2 h3
          have h2 : (a.press p).busy = 0 := by simpa using h2
          show Held ((((if (a.press p).mould = 0 then a else a.setM ((a.press p).mould - 1) fun x => { x with in_ := 0 }).setM m fun x => { x with in_ := p + 1 }).setP p fun x => { x with mould := m + 1 }).busied p)
          have key : ∀ b : Abs, Held b → b.press p = a.press p → Held (((b.setM m fun x => { x with in_ := p + 1 }).setP p fun x => { x with mould := m + 1 }).busied p) := by
            intro b Db e2
            rw [setP_busied]
            refine (Db.setM m (fun x => { x with in_ := p + 1 })).setP p _ fun _ => ?_
            have ep : (b.setM m fun x => { x with in_ := p + 1 }).press p = a.press p := e2
            rw [ep]
            split
            · show (a.press p).busy ≠ 2; omega
            · show 1 ≠ 2; decide
          by_cases h4 : (a.press p).mould = 0
          · rw [if_pos h4]; exact key a D rfl
          · rw [if_neg h4]; exact key _ (D.setM _ _) rfl
  | bladder p =>
    show Held (if decide (p < a.presses.length) = false then _ else if (a.press p).busy ≠ 0 then _ else if (a.press p).worn = 0 then _ else _ : Abs × Su67.Ans).1
    split
    · exact D
    · split
      · exact D
      · split
        · exact D
        · rename_i h1 h2 h3
          have h2 : (a.press p).busy = 0 := by simpa using h2
          show Held ((a.setP p fun x => { x with worn := 0, bladder := x.bladder + 1 }).busied p)
          rw [setP_busied]
          refine D.setP p _ fun _ => ?_
          split
          · show (a.press p).busy ≠ 2; omega
          · show 1 ≠ 2; decide
  | clean m =>
    show Held (if decide (m < a.moulds.length) = false then _ else if (a.mould m).in_ ≠ 0 then _ else if (a.mould m).used = 0 then _ else _ : Abs × Su67.Ans).1
    split
    · exact D
    · split
      · exact D
      · split
        · exact D
        · exact D.setM _ _
  | load p g =>
    show Held (if decide (p < a.presses.length) = false ∨ decide (g < a.tyres.length) = false then _ else if a.why p ≠ 0 then _ else if (a.tyre g).how ≠ 0 then _ else if (a.tyre g).type_ ≠ a.kind p then _ else if a.old g = true then _ else _ : Abs × Su67.Ans).1
    split
    · exact D
    · split
      · exact D
      · split
        · exact D
        · split
          · exact D
          · split
            · exact D
            · rename_i h1 h2 h3 h4 h5
              have h1 : p < a.presses.length ∧ g < a.tyres.length := by simpa using h1
              exact D.loaded h1.2 (by simpa using h3)
  | auto_ b =>
    show Held (if 1 < b then _ else _ : Abs × Su67.Ans).1
    split
    · exact D
    · exact D.same rfl fun _ _ _ => rfl
  | minutes n =>
    show Held (if n = 0 ∨ 500 < n then _ else _ : Abs × Su67.Ans).1
    split
    · exact D
    · exact D.goes G n
  | scrap g =>
    show Held (if decide (g < a.tyres.length) = false then _ else if (a.tyre g).how = 1 then _ else if (a.tyre g).how = 3 then _ else _ : Abs × Su67.Ans).1
    split
    · exact D
    · split
      · exact D
      · split
        · exact D
        · rename_i h1 h2 h3
          refine D.same rfl fun p hp hb => ?_
          show ((a.setG g _).tyre _).how = _
          rw [setG_tyre, if_neg]
          rintro ⟨z, _⟩
          have := D.how p hp hb
          rw [← z] at this
          exact h2 this
  | can p =>
    show Held (if decide (p < a.presses.length) = false then _ else _ : Abs × Su67.Ans).1
    split <;> exact D
  | waits t =>
    show Held (if decide (t < a.types.length) = false then _ else _ : Abs × Su67.Ans).1
    split <;> exact D
  | old => exact D
  | cured g =>
    show Held (if decide (g < a.tyres.length) = false then _ else _ : Abs × Su67.Ans).1
    split
    · exact D
    · cases a.cured g (Su67.WAIT + 1) <;> exact D
  | ahead n =>
    show Held (if n = 0 ∨ 500 < n then _ else _ : Abs × Su67.Ans).1
    split <;> exact D
  | needs t =>
    show Held (if decide (t < a.types.length) = false then _ else _ : Abs × Su67.Ans).1
    split
    · exact D
    · cases a.needs t <;> exact D
  | span t k =>
    show Held (if decide (t < a.types.length) = false then _ else if 5 < k then _ else _ : Abs × Su67.Ans).1
    split
    · exact D
    · split
      · exact D
      · cases a.span t k <;> exact D
  | share =>
    show Held (match a.share with | none => (a, Su67.no (-33)) | some x => (a, Su67.num x.1 x.2) : Abs × Su67.Ans).1
    cases a.share <;> exact D
  | by_ m =>
    show Held (if decide (m < a.moulds.length) = false then _ else _ : Abs × Su67.Ans).1
    split <;> exact D
  | within p n =>
    show Held (if decide (p < a.presses.length) = false then _ else _ : Abs × Su67.Ans).1
    split <;> exact D
  | look p =>
    show Held (if decide (p < a.presses.length) = false then _ else _ : Abs × Su67.Ans).1
    split <;> exact D
  | mouldat m =>
    show Held (if decide (m < a.moulds.length) = false then _ else _ : Abs × Su67.Ans).1
    split <;> exact D
  | tyre g =>
    show Held (if decide (g < a.tyres.length) = false then _ else _ : Abs × Su67.Ans).1
    split <;> exact D
  | sums => exact D
  | state => exact D
end
section
open Su67 (Abs Press Mould Tyre)
/-! ### ways to share -/
theorem ways_zero (a : Abs) (t left : Nat) : a.ways t 0 left = [[]] := rfl
theorem ways_succ (a : Abs) (t n left : Nat) : a.ways t (n + 1) left = (List.range (min left (a.owned t) + 1)).flatMap fun k => (a.ways (t + 1) n (left - k)).map fun w => k :: w := rfl
/-- one type more: each way goes on by as many presses as may be -/
def wider (a : Abs) (t left : Nat) (w : List Nat) : List (List Nat) := (List.range (min (left - w.sum) (a.owned t) + 1)).map fun k => w ++ [k]
theorem flatMap_congr' {α β : Type} {f g : α → List β} : ∀ (l : List α), (∀ x ∈ l, f x = g x) → l.flatMap f = l.flatMap g
  | [], _ => rfl
  | x :: l, h => by
    rw [List.flatMap_cons, List.flatMap_cons, h x (List.mem_cons_self ..), flatMap_congr' l fun z hz => h z (List.mem_cons_of_mem _ hz)]
theorem flatMap_single {α β : Type} (f : α → β) : ∀ (l : List α), (l.flatMap fun x => [f x]) = l.map f
  | [] => rfl
  | x :: l => by rw [List.flatMap_cons, flatMap_single f l]; rfl
theorem map_flatMap' {α β γ : Type} (f : β → γ) (g : α → List β) : ∀ (l : List α), (l.flatMap g).map f = l.flatMap fun x => (g x).map f
  | [] => rfl
  | x :: l => by rw [List.flatMap_cons, List.map_append, map_flatMap' f g l, List.flatMap_cons]
theorem flatMap_map' {α β γ : Type} (f : α → β) (g : β → List γ) : ∀ (l : List α), (l.map f).flatMap g = l.flatMap fun x => g (f x)
  | [] => rfl
  | x :: l => by rw [List.map_cons, List.flatMap_cons, flatMap_map' f g l, List.flatMap_cons]
theorem flatMap_assoc' {α β γ : Type} (f : α → List β) (g : β → List γ) : ∀ (l : List α), (l.flatMap f).flatMap g = l.flatMap fun x => (f x).flatMap g
  | [] => rfl
  | x :: l => by rw [List.flatMap_cons, List.flatMap_append, flatMap_assoc' f g l, List.flatMap_cons]
theorem ways_wider (a : Abs) : ∀ (n t left : Nat), a.ways t (n + 1) left = (a.ways t n left).flatMap (wider a (t + n) left)
  | 0, t, left => by
    rw [ways_succ, ways_zero, List.flatMap_cons, List.flatMap_nil, List.append_nil]
    unfold wider
    show (List.range _).flatMap (fun k => [[k]]) = _
    rw [flatMap_single]
    rfl
  | n + 1, t, left => by
    rw [ways_succ, ways_succ, flatMap_assoc']
    refine flatMap_congr' _ fun k _ => ?_
    rw [ways_wider a n (t + 1) (left - k), map_flatMap', flatMap_map']
    refine flatMap_congr' _ fun w _ => ?_
    unfold wider
    rw [List.map_map, List.sum_cons, Nat.sub_sub, show t + 1 + n = t + (n + 1) by omega]
    rfl
theorem ways_fit (a : Abs) : ∀ (n t left : Nat) (w : List Nat), w ∈ a.ways t n left → w.length = n ∧ w.sum ≤ left
  | 0, t, left, w, h => by
    rw [ways_zero] at h
    rw [List.mem_singleton.mp h]
    exact ⟨rfl, Nat.zero_le _⟩
  | n + 1, t, left, w, h => by
    rw [ways_succ] at h
    obtain ⟨k, hk, hw⟩ := List.mem_flatMap.mp h
    obtain ⟨v, hv, rfl⟩ := List.mem_map.mp hw
    obtain ⟨h1, h2⟩ := ways_fit a n (t + 1) (left - k) v hv
    have := List.mem_range.mp hk
    refine ⟨by rw [List.length_cons, h1], ?_⟩
    rw [List.sum_cons]
    omega
theorem ways_ne (a : Abs) : ∀ (n t left : Nat), a.ways t n left ≠ []
  | 0, t, left => by rw [ways_zero]; exact List.cons_ne_nil _ _
  | n + 1, t, left => by
    rw [ways_succ, List.range_succ_eq_map, List.flatMap_cons]
    intro h
    have := (List.append_eq_nil_iff.mp h).1
    exact ways_ne a n (t + 1) (left - 0) (List.map_eq_nil_iff.mp this)
theorem flatMap_len {α β : Type} {f : α → List β} {c : Nat} : ∀ (l : List α), (∀ x ∈ l, (f x).length ≤ c) → (l.flatMap f).length ≤ l.length * c
  | [], _ => by simp
  | x :: l, h => by
    rw [List.flatMap_cons, List.length_append, List.length_cons, Nat.succ_mul]
    have h1 := h x (List.mem_cons_self ..)
    have h2 := flatMap_len l fun z hz => h z (List.mem_cons_of_mem _ hz)
    omega
theorem wider_len (a : Abs) (t left : Nat) (w : List Nat) : (wider a t left w).length ≤ left + 1 := by
  unfold wider
  rw [List.length_map, List.length_range]
  omega
theorem ways_len (a : Abs) (t left : Nat) (hl : left ≤ 5) : ∀ n, (a.ways t n left).length ≤ 6 ^ n
  | 0 => by rw [ways_zero]; exact Nat.le_refl _
  | n + 1 => by
    rw [ways_wider, Nat.pow_succ]
    refine Nat.le_trans (flatMap_len (c := 6) _ fun w _ => Nat.le_trans (wider_len a _ left w) (by omega)) ?_
    exact Nat.mul_le_mul_right _ (ways_len a t left hl n)
theorem mem_le_sum : ∀ {w : List Nat} {k : Nat}, k ∈ w → k ≤ w.sum
  | x :: w, k, h => by
    rw [List.sum_cons]
    rcases List.mem_cons.mp h with z | z
    · omega
    · have := mem_le_sum z
      omega
/-! ### how long a way takes -/
def longer1 (a : Abs) (w : List Nat) (b : Option Nat) (t : Nat) : Option Nat := match b, a.span t (w.getD t 0) with
  | some x, some y => some (max x y)
  | _, _ => none
theorem long_eq (a : Abs) (w : List Nat) : a.long w = (List.range w.length).foldl (longer1 a w) (some 0) := rfl
theorem longer_none (a : Abs) (w : List Nat) : ∀ l : List Nat, l.foldl (longer1 a w) none = none
  | [] => rfl
  | t :: l => by
    show l.foldl (longer1 a w) (longer1 a w none t) = none
    exact longer_none a w l
def longUp (a : Abs) (w : List Nat) (i : Nat) : Option Nat := (List.range i).foldl (longer1 a w) (some 0)
theorem longUp_succ (a : Abs) (w : List Nat) (i : Nat) : longUp a w (i + 1) = longer1 a w (longUp a w i) i := by
  unfold longUp
  rw [List.range_succ, List.foldl_append]
  rfl
theorem longUp_stop (a : Abs) (w : List Nat) {i n : Nat} (h : i ≤ n) (h0 : longUp a w i = none) : longUp a w n = none := by
  induction n with
  | zero => rw [show i = 0 by omega] at h0; exact h0
  | succ n ih =>
    by_cases e : i = n + 1
    · rw [← e]; exact h0
    · rw [longUp_succ, ih (by omega)]; rfl
/-! ### the best -/
def bestOf (a : Abs) (s : Option (Nat × List Nat)) (w : List Nat) : Option (Nat × List Nat) := match a.long w with
  | none => s
  | some n => match s with
    | none => some (n, w)
    | some b => if n < b.1 then some (n, w) else some b
def pick (a : Abs) (b w : List Nat) : List Nat := if Su67.better (a.long w) (a.long b) then w else b
theorem better_self (x : Option Nat) : Su67.better x x = false := by
  cases x with
  | none => rfl
  | some n => exact decide_eq_false (Nat.lt_irrefl _)
theorem best_fold (a : Abs) : ∀ (l : List (List Nat)) (b : List Nat), l.foldl (bestOf a) ((a.long b).map fun n => (n, b)) = (a.long (l.foldl (pick a) b)).map fun n => (n, l.foldl (pick a) b)
  | [], b => rfl
  | w :: l, b => by
    show l.foldl (bestOf a) (bestOf a ((a.long b).map fun n => (n, b)) w) = (a.long (l.foldl (pick a) (pick a b w))).map fun n => (n, l.foldl (pick a) (pick a b w))
    rw [← best_fold a l (pick a b w)]
    congr 1
    unfold bestOf pick
    cases hw : a.long w with
    | none =>
      have e : Su67.better none (a.long b) = false := rfl
      rw [e]
      rfl
    | some n =>
      cases hb : a.long b with
      | none =>
        have e : Su67.better (some n) none = true := rfl
        rw [e, if_pos rfl, hw]
        rfl
      | some m =>
        have e : Su67.better (some n) (some m) = decide (n < m) := rfl
        rw [e]
        by_cases h : n < m
        · rw [decide_eq_true h, if_pos rfl, hw]
          show (if n < m then _ else _) = _
          rw [if_pos h]
          rfl
        · rw [decide_eq_false h, if_neg (by exact Bool.noConfusion), hb]
          show (if n < m then _ else _) = _
          rw [if_neg h]
          rfl
theorem share_eq (a : Abs) : a.share = (a.ways 0 a.types.length a.presses.length).foldl (bestOf a) none := by
  have e : a.share = (a.long ((a.ways 0 a.types.length a.presses.length).foldl (pick a) ((a.ways 0 a.types.length a.presses.length).headD []))).map fun n => (n, (a.ways 0 a.types.length a.presses.length).foldl (pick a) ((a.ways 0 a.types.length a.presses.length).headD [])) := rfl
  rw [e]
  have hne := ways_ne a a.types.length 0 a.presses.length
  cases hl : a.ways 0 a.types.length a.presses.length with
  | nil => exact absurd hl hne
  | cons h r =>
    show (a.long (r.foldl (pick a) (pick a h h))).map (fun n => (n, r.foldl (pick a) (pick a h h))) = r.foldl (bestOf a) (bestOf a none h)
    have e1 : pick a h h = h := by unfold pick; rw [better_self]; rfl
    have e2 : bestOf a none h = (a.long h).map fun n => (n, h) := by
      unfold bestOf
      cases a.long h <;> rfl
    rw [e1, e2, best_fold]
/-! ### needs -/
theorem needs_eq (a : Abs) (t : Nat) : a.needs t = [1, 2, 3, 4, 5].find? fun k => a.inTime t k := rfl
theorem find_upto {p : Nat → Bool} : ∀ (l : List Nat) (i k : Nat), l[i]? = some k → p k = true → (∀ j k', j < i → l[j]? = some k' → p k' = false) → l.find? p = some k
  | [], i, k, h, _, _ => by simp at h
  | x :: l, 0, k, h, hp, _ => by
    have e : x = k := Option.some.inj h
    rw [List.find?_cons, e, hp]
  | x :: l, i + 1, k, h, hp, hb => by
    have h0 := hb 0 x (Nat.succ_pos _) rfl
    rw [List.find?_cons, h0]
    exact find_upto l i k h hp fun j k' hj hk => hb (j + 1) k' (by omega) hk
theorem needs_some {a : Abs} {t i : Nat} (hi : i < 5) (h : a.inTime t (1 + i) = true) (hb : ∀ j, j < i → a.inTime t (1 + j) = false) : a.needs t = some (1 + i) := by
  rw [needs_eq]
  have g : ∀ j, j < 5 → [1, 2, 3, 4, 5][j]? = some (1 + j) := fun j hj => by
    match j, hj with
    | 0, _ => rfl
    | 1, _ => rfl
    | 2, _ => rfl
    | 3, _ => rfl
    | 4, _ => rfl
  refine find_upto _ i _ (g i hi) h fun j k' hj hk => ?_
  rw [g j (by omega)] at hk
  rw [← Option.some.inj hk]
  exact hb j hj
theorem needs_none {a : Abs} {t : Nat} (hb : ∀ j, j < 5 → a.inTime t (1 + j) = false) : a.needs t = none := by
  rw [needs_eq]
  have h0 := hb 0 (by omega)
  have h1 := hb 1 (by omega)
  have h2 := hb 2 (by omega)
  have h3 := hb 3 (by omega)
  have h4 := hb 4 (by omega)
  simp only [Nat.add_zero, Nat.reduceAdd] at h0 h1 h2 h3 h4
  simp [List.find?_cons, h0, h1, h2, h3, h4]
/-- the first i begun in time -/
def soFar (a : Abs) (t k i : Nat) : Bool := (List.range i).all fun i => decide (a.now_ + i / k * (a.type_ t).cure ≤ (a.tyre ((a.waits t).getD i 0)).came + (a.type_ t).age)
theorem soFar_succ (a : Abs) (t k i : Nat) : soFar a t k (i + 1) = (soFar a t k i && decide (a.now_ + i / k * (a.type_ t).cure ≤ (a.tyre ((a.waits t).getD i 0)).came + (a.type_ t).age)) := by
  unfold soFar
  rw [List.range_succ, List.all_append]
  simp
theorem soFar_stop (a : Abs) (t k : Nat) {i n : Nat} (h : i ≤ n) (h0 : soFar a t k i = false) : soFar a t k n = false := by
  induction n with
  | zero => rw [show i = 0 by omega] at h0; exact h0
  | succ n ih =>
    by_cases e : i = n + 1
    · rw [← e]; exact h0
    · rw [soFar_succ, ih (by omega)]; rfl
end
section
open PySem PySem.Spec PyProof.Rows L2
section
variable {P : Program} {w : World} {K : PySem.W.Frag} {mg : Str → Option Value} {base : Heap} {A : Adr}
def sp_old_tyres (K : PySem.W.Frag) (A : Adr) : Sp := fun vs H Q _ => ∃ (q : Addr) (y : Lay) (b : Bool) (a : Su67.Abs), vs = [.ref q] ∧ Rep A H q y b a ∧ Good a ∧ Lists q H ((List.range a.tyres.length).filter a.old) Q
theorem ok_old_tyres (T : Txt K mg A) : FnOk P w K mg base CX0 2 A.f_old_tyres A.d_old_tyres ["plant"] (sp_old_tyres K A) := by
  refine T.F_old_tyres.ok sc_old_tyres (fun vs H Q E h => ?_) (fun cdv A' outer s H vs Q E hr h => ?_)
  · obtain ⟨q, y, b, a, rfl, _⟩ := h
    rfl
  · obtain ⟨q, y, b, a, rfl, R, G, k⟩ := h
    obtain ⟨dx, hq⟩ := id R.pl
    have hgl := R.ty.lst
    have h60 : y.ag.length < sizeLine := by rw [R.ty.len]; exact size60 G.nG
    refine ⟨_, (pss_one (ps_ret (pe_lc (own := [("g", 1), ("tyre", 2)]) rfl sc_old_tyres.nd (pi_enum rfl T.u_enumerate (pa_cons (pe_fld (pv 0) rfl) pa_nil)) (blkOk_by (by rfl)) (fun _ _ _ _ _ => (pg_tupK (K := K) (n := 2) rfl rfl (pgs_cons (pg_name (i := 1) sc_old_tyres.nd rfl (Or.inl rfl)) (pgs_cons (pg_name (i := 2) sc_old_tyres.nd rfl (Or.inl rfl)) pgs_nil)))) (fun _ _ _ _ _ => (pts_one (PW.pt (pw_and (pt_cmpR op_eq (pe_fldK (K := K) rfl (pv 2) rfl) (pe_gi rfl T.v_WAITS) (nomark _)) (pw_and1 (pt_val (pe_call (ok_too_old T) (hr.mono (by decide)) rfl T.m_too_old T.F_too_old.kp T.b_too_old .nil pass0 (pa_cons (pv 0) (pa_cons (pv 2) pa_nil))))))))) (fun _ _ _ _ _ => (pv 1))))), ?_⟩
    simp only [tSeq, tAsg, tRet, cxK]
    refine lcT_enum a.old natV ?_ (SqL.of hgl) h60 ?_ ?_
    · exact fun Rr hR => ⟨_, rfl, q, A.c_Plant, dx, _, _, rfl, hq, T.cl_Plant, T.n_Plant_tyres, rfl, _, _, rfl, SqL.of hgl, hR⟩
    · intro D g r H' acc Nx hg s hD hacc hlen hno hyes
      have hg' : g < a.tyres.length := by rw [← R.ty.len]; exact (List.getElem?_eq_some_iff.mp hg).1
      obtain ⟨r', dr, e1, hH⟩ := (R.same s).tyre hg'
      cases hg.symm.trans e1
      refine ⟨rfl, ?_⟩
      simp! only [T.all, hH, wipe, hacc]
      have hp : a.old g = ((a.tyre g).how == 0 && aged a g) := rfl
      refine ite2 (fun h1 => ⟨y, b, a, R.same s, G, g, hg, ite2 (fun h2 => ?_) fun h2 => hno ?_ H' (Same.refl _)⟩) fun h1 => hno ?_ H' (Same.refl _)
      · exact ⟨hlen, hyes (by rw [hp, h2]; simp; omega) H' (Same.refl _)⟩
      · rw [hp, Bool.eq_false_iff.mpr h2, Bool.and_false]
      · rw [hp]; simp; omega
    · intro D H1 hD s1 hl1
      refine k H1 D s1 hD ?_
      rw [hl1, R.ty.len]
def sp_cured_tyres (K : PySem.W.Frag) (A : Adr) : Sp := fun vs H Q _ => ∃ (q : Addr) (y : Lay) (b : Bool) (a : Su67.Abs), vs = [.ref q] ∧ Rep A H q y b a ∧ Good a ∧ Lists q H ((List.range a.tyres.length).filter fun g => (a.tyre g).how == 2) Q
theorem ok_cured_tyres (T : Txt K mg A) : FnOk P w K mg base CX0 1 A.f_cured_tyres A.d_cured_tyres ["plant"] (sp_cured_tyres K A) := by
  refine T.F_cured_tyres.ok sc_cured_tyres (fun vs H Q E h => ?_) (fun cdv A' outer s H vs Q E hr h => ?_)
  · obtain ⟨q, y, b, a, rfl, _⟩ := h
    rfl
  · obtain ⟨q, y, b, a, rfl, R, G, k⟩ := h
    obtain ⟨dx, hq⟩ := id R.pl
    have hgl := R.ty.lst
    have h60 : y.ag.length < sizeLine := by rw [R.ty.len]; exact size60 G.nG
    refine ⟨_, (pss_one (ps_ret (pe_lc (own := [("g", 1), ("tyre", 2)]) rfl sc_cured_tyres.nd (pi_enum rfl T.u_enumerate (pa_cons (pe_fld (pv 0) rfl) pa_nil)) (blkOk_by (by rfl)) (fun _ _ _ _ _ => (pg_tupK (K := K) (n := 2) rfl rfl (pgs_cons (pg_name (i := 1) sc_cured_tyres.nd rfl (Or.inl rfl)) (pgs_cons (pg_name (i := 2) sc_cured_tyres.nd rfl (Or.inl rfl)) pgs_nil)))) (fun _ _ _ _ _ => (pts_one (pt_cmpR op_eq (pe_fldK (K := K) rfl (pv 2) rfl) (pe_gi rfl T.v_CURED) (nomark _)))) (fun _ _ _ _ _ => (pv 1))))), ?_⟩
    simp only [tSeq, tAsg, tRet, cxK]
    refine lcT_enum (fun g => (a.tyre g).how == 2) natV ?_ (SqL.of hgl) h60 ?_ ?_
    · exact fun Rr hR => ⟨_, rfl, q, A.c_Plant, dx, _, _, rfl, hq, T.cl_Plant, T.n_Plant_tyres, rfl, _, _, rfl, SqL.of hgl, hR⟩
    · intro D g r H' acc Nx hg s hD hacc hlen hno hyes
      have hg' : g < a.tyres.length := by rw [← R.ty.len]; exact (List.getElem?_eq_some_iff.mp hg).1
      obtain ⟨r', dr, e1, hH⟩ := (R.same s).tyre hg'
      cases hg.symm.trans e1
      refine ⟨rfl, ?_⟩
      simp! only [T.all, hH, wipe, hacc]
      refine ite2 (fun h1 => ⟨hlen, hyes (by simp; omega) H' (Same.refl _)⟩) fun h1 => hno (by simp; omega) H' (Same.refl _)
    · intro D H1 hD s1 hl1
      refine k H1 D s1 hD ?_
      rw [hl1, R.ty.len]
def sp_old (K : PySem.W.Frag) (A : Adr) : Sp := fun vs H Q _ => ∃ (q : Addr) (y : Lay) (a : Su67.Abs), vs = [.ref q] ∧ Rep A H q y true a ∧ Good a ∧ Told A q y H true (Su67.does a .old) Q
theorem filter_len (n : Nat) (p : Nat → Bool) : ((List.range n).filter p).length ≤ n := Nat.le_trans (List.length_filter_le _ _) (by rw [List.length_range]; exact Nat.le_refl _)
theorem ok_old (T : Txt K mg A) : FnOk P w K mg base CX0 3 A.f_old A.d_old ["plant"] (sp_old K A) := by
  refine T.F_old.ok sc_old (fun vs H Q E h => ?_) (fun cdv A' outer s H vs Q E hr h => ?_)
  · obtain ⟨q, y, a, rfl, _⟩ := h
    rfl
  · obtain ⟨q, y, a, rfl, R, G, k⟩ := h
    have k : Told A q y H true (a, Su67.list ((List.range a.tyres.length).filter a.old)) Q := k
    refine ⟨_, (pss_cons (ps_set (i := 1) sc_old.nd rfl (Or.inl rfl) (pe_call (ok_old_tyres T) (hr.mono (by decide)) rfl T.m_old_tyres T.F_old_tyres.kp T.b_old_tyres .nil pass0 (pa_cons (pv 0) pa_nil)))
        (pss_one (ps_ret (pe_op op_cat (pe_lst (pa_cons (pe_callB call_lenL rfl T.u_len PySem.boot_len (pa_cons (pv 1) pa_nil)) pa_nil)) (pv 1))))), ?_⟩
    simp! only [T.all]
    refine ⟨q, y, true, a, rfl, R, G, fun H1 l s1 hl hl1 => ?_⟩
    have h60 := G.nG
    have := filter_len a.tyres.length a.old
    simp! only [T.all, hl1, List.length_map]
    refine ⟨size1, fun l2 hl2 => ?_⟩
    have n12 : l ≠ l2 := ne_of_none hl1 hl2
    simp! only [T.all, upd_ne n12, hl1, List.length_map]
    refine ⟨Nat.le_of_lt (size60' (by omega)), fun l3 hl3 => ?_⟩
    refine k.lay1 R ?_ hl3 rfl rfl
    exact s1.trans (same_new hl2)
def sp_cured_by (K : PySem.W.Frag) (A : Adr) : Sp := fun vs H Q _ => ∃ (q : Addr) (y : Lay) (a : Su67.Abs) (m : Nat), vs = [.ref q, .int (m : Nat)] ∧ Rep A H q y true a ∧ Good a ∧ Told A q y H true (Su67.does a (.by_ m)) Q
theorem ok_cured_by (T : Txt K mg A) : FnOk P w K mg base CX0 2 A.f_cured_by A.d_cured_by ["plant", "m"] (sp_cured_by K A) := by
  refine T.F_cured_by.ok sc_cured_by (fun vs H Q E h => ?_) (fun cdv A' outer s H vs Q E hr h => ?_)
  · obtain ⟨q, y, a, m, rfl, _⟩ := h
    rfl
  · obtain ⟨q, y, a, m, rfl, R, G, k⟩ := h
    obtain ⟨dx, hq⟩ := id R.pl
    have hml := R.mo.lst
    have hd : Su67.does a (.by_ m) = if decide (m < a.moulds.length) = false then (a, Su67.no (-2)) else (a, Su67.list ((List.range a.tyres.length).filter fun g => (a.tyre g).how == 2 && (a.tyre g).mould == m)) := rfl
    refine ⟨_, (pss_cons (ps_if (pt_cmpR op_ge (pv 1) (pe_callB call_lenL rfl T.u_len PySem.boot_len (pa_cons (pe_fld (pv 0) rfl) pa_nil)) (nomark _)) (pss_one (ps_ret (pe_lst (pa_cons (pe_gi rfl T.v_NONE_SUCH) pa_nil)))) pss_nil)
        (pss_cons (ps_setLc (i := 2) (own := [("g", 3)]) rfl sc_cured_by.nd rfl rfl rfl (pi_list (pe_call (ok_cured_tyres T) (hr.mono (by decide)) rfl T.m_cured_tyres T.F_cured_tyres.kp T.b_cured_tyres .nil pass0 (pa_cons (pv 0) pa_nil))) (blkOk_by (by rfl)) (fun _ _ _ _ _ => (pg_name (i := 3) sc_cured_by.nd rfl (Or.inl rfl))) (fun _ _ _ _ _ => (pts_one (pt_cmpR op_eq (pe_fldK (K := K) rfl (pe_ix ix_lst (pe_fldK (K := K) rfl (pv 0) rfl) (pv 3) (fun _ _ => rfl)) rfl) (pv 1) (nomark _)))) (fun _ _ _ _ _ => (pv 3)))
        (pss_one (ps_ret (pe_op op_cat (pe_lst (pa_cons (pe_callB call_lenL rfl T.u_len PySem.boot_len (pa_cons (pv 2) pa_nil)) pa_nil)) (pv 2)))))), ?_⟩
    refine ⟨_, rfl, _, rfl, q, A.c_Plant, dx, _, _, rfl, hq, T.cl_Plant, T.n_Plant_moulds, rfl, y.lm, _, rfl, hml, _, _, rfl, rfl, _, rfl, ?_⟩
    by_cases h1 : m < a.moulds.length
    · rw [hd, if_neg (no_false h1)] at k
      refine iteN (by rw [List.length_map, R.mo.len]; simp; omega) ?_
      simp only [tNext, tSeq, tAsg, tRet, cxK]
      refine lcGo ?_
      refine ⟨_, rfl, q, y, true, a, rfl, R, G, fun H1 l s1 hl hl1 => ⟨l, rfl, ⟨_, SqL.of hl1⟩, ?_⟩⟩
      have h60 := G.nG
      have hf := filter_len a.tyres.length fun g => (a.tyre g).how == 2
      refine LcGo.list (fun g => (a.tyre g).mould == m) natV (SqL.of hl1) (size60 (by omega)) ?_ ?_
      · intro D2 g H' acc Nx hg s hD2 hacc hlen2 hno hyes
        have hg' : g < a.tyres.length := List.mem_range.mp (List.mem_filter.mp hg).1
        have R' := (R.same s1).same s
        obtain ⟨r', dr, e1, hH⟩ := R'.tyre hg'
        obtain ⟨dx', hq'⟩ := id R'.pl
        have hgl' := R'.ty.lst
        have hat := at_ref e1
        refine ⟨rfl, ?_⟩
        simp! only [T.all, hH, wipe, hacc, natV, hq', hgl', hat]
        refine ite2 (fun h1 => ⟨hlen2, hyes (by simp; omega) H' (Same.refl _)⟩) fun h1 => hno (by simp; omega) H' (Same.refl _)
      · intro D2 H2 hD2 s2 hl2
        rw [List.filter_filter] at hl2
        have el : (List.range a.tyres.length).filter (fun g => (a.tyre g).mould == m && (a.tyre g).how == 2) = (List.range a.tyres.length).filter fun g => (a.tyre g).how == 2 && (a.tyre g).mould == m := List.filter_congr fun g _ => Bool.and_comm _ _
        rw [el] at hl2
        have hf2 := filter_len a.tyres.length fun g => (a.tyre g).how == 2 && (a.tyre g).mould == m
        simp! only [T.all, hl2, List.length_map]
        refine ⟨size1, fun l3 hl3 => ?_⟩
        have n12 : D2 ≠ l3 := ne_of_none hl2 hl3
        simp! only [T.all, upd_ne n12, hl2, List.length_map]
        refine ⟨Nat.le_of_lt (size60' (by omega)), fun l4 hl4 => ?_⟩
        refine k.lay1 R ?_ hl4 rfl rfl
        exact (s1.trans s2).trans (same_new hl3)
    · rw [hd, if_pos (decide_eq_false h1)] at k
      refine iteP (by rw [List.length_map, R.mo.len]; simp; omega) ?_
      simp! only [T.all]
      exact lay_no R k
def sp_cured_within (K : PySem.W.Frag) (A : Adr) : Sp := fun vs H Q _ => ∃ (q : Addr) (y : Lay) (a : Su67.Abs) (p n : Nat), vs = [.ref q, .int (p : Nat), .int (n : Nat)] ∧ Rep A H q y true a ∧ Good a ∧ Told A q y H true (Su67.does a (.within p n)) Q
theorem ok_cured_within (T : Txt K mg A) : FnOk P w K mg base CX0 2 A.f_cured_within A.d_cured_within ["plant", "p", "n"] (sp_cured_within K A) := by
  refine T.F_cured_within.ok sc_cured_within (fun vs H Q E h => ?_) (fun cdv A' outer s H vs Q E hr h => ?_)
  · obtain ⟨q, y, a, p, n, rfl, _⟩ := h
    rfl
  · obtain ⟨q, y, a, p, n, rfl, R, G, k⟩ := h
    obtain ⟨dx, hq⟩ := id R.pl
    have hpl := R.pr.lst
    have hd : Su67.does a (.within p n) = if decide (p < a.presses.length) = false then (a, Su67.no (-2)) else (a, Su67.list ((List.range a.tyres.length).filter fun g => (a.tyre g).how == 2 && ((a.tyre g).press == p && (a.tyre g).bladder == n))) := rfl
    refine ⟨_, (pss_cons (ps_if (pt_cmpR op_ge (pv 1) (pe_callB call_lenL rfl T.u_len PySem.boot_len (pa_cons (pe_fld (pv 0) rfl) pa_nil)) (nomark _)) (pss_one (ps_ret (pe_lst (pa_cons (pe_gi rfl T.v_NONE_SUCH) pa_nil)))) pss_nil)
        (pss_cons (ps_setLc (i := 3) (own := [("g", 4)]) rfl sc_cured_within.nd rfl rfl rfl (pi_list (pe_call (ok_cured_tyres T) (hr.mono (by decide)) rfl T.m_cured_tyres T.F_cured_tyres.kp T.b_cured_tyres .nil pass0 (pa_cons (pv 0) pa_nil))) (blkOk_by (by rfl)) (fun _ _ _ _ _ => (pg_name (i := 4) sc_cured_within.nd rfl (Or.inl rfl))) (fun _ _ _ _ _ => (pts_one (pt_cmpR op_eq (pe_fldK (K := K) rfl (pe_ix ix_lst (pe_fldK (K := K) rfl (pv 0) rfl) (pv 4) (fun _ _ => rfl)) rfl) (pv 1) (nomark _)))) (fun _ _ _ _ _ => (pv 4)))
        (pss_cons (ps_setLc (i := 5) (own := [("g", 4)]) rfl sc_cured_within.nd rfl rfl rfl (pi_list (pv 3)) (blkOk_by (by rfl)) (fun _ _ _ _ _ => (pg_name (i := 4) sc_cured_within.nd rfl (Or.inl rfl))) (fun _ _ _ _ _ => (pts_one (pt_cmpR op_eq (pe_fldK (K := K) rfl (pe_ix ix_lst (pe_fldK (K := K) rfl (pv 0) rfl) (pv 4) (fun _ _ => rfl)) rfl) (pv 2) (nomark _)))) (fun _ _ _ _ _ => (pv 4)))
        (pss_one (ps_ret (pe_op op_cat (pe_lst (pa_cons (pe_callB call_lenL rfl T.u_len PySem.boot_len (pa_cons (pv 5) pa_nil)) pa_nil)) (pv 5))))))), ?_⟩
    refine ⟨_, rfl, _, rfl, q, A.c_Plant, dx, _, _, rfl, hq, T.cl_Plant, T.n_Plant_presses, rfl, y.lp, _, rfl, hpl, _, _, rfl, rfl, _, rfl, ?_⟩
    by_cases h1 : p < a.presses.length
    · rw [hd, if_neg (no_false h1)] at k
      refine iteN (by rw [List.length_map, R.pr.len]; simp; omega) ?_
      simp only [tNext, tSeq, tAsg, tRet, cxK]
      refine lcGo ?_
      refine ⟨_, rfl, q, y, true, a, rfl, R, G, fun H1 l s1 hl hl1 => ⟨l, rfl, ⟨_, SqL.of hl1⟩, ?_⟩⟩
      have h60 := G.nG
      have hf := filter_len a.tyres.length fun g => (a.tyre g).how == 2
      refine LcGo.list (fun g => (a.tyre g).press == p) natV (SqL.of hl1) (size60 (by omega)) ?_ ?_
      · intro D2 g H' acc Nx hg s hD2 hacc hlen2 hno hyes
        have hg' : g < a.tyres.length := List.mem_range.mp (List.mem_filter.mp hg).1
        have R' := (R.same s1).same s
        obtain ⟨r', dr, e1, hH⟩ := R'.tyre hg'
        obtain ⟨dx', hq'⟩ := id R'.pl
        have hgl' := R'.ty.lst
        have hat := at_ref e1
        refine ⟨rfl, ?_⟩
        simp! only [T.all, hH, wipe, hacc, natV, hq', hgl', hat]
        refine ite2 (fun h1 => ⟨hlen2, hyes (by simp; omega) H' (Same.refl _)⟩) fun h1 => hno (by simp; omega) H' (Same.refl _)
      · intro D2 H2 hD2 s2 hl2
        rw [List.filter_filter] at hl2
        have hf2 := filter_len a.tyres.length fun g => (a.tyre g).press == p && (a.tyre g).how == 2
        simp only [gName, tNext, tSeq, tAsg, tRet, cxK]
        refine lcGo ?_
        refine ⟨_, rfl, D2, rfl, ⟨_, SqL.of hl2⟩, ?_⟩
        refine LcGo.list (fun g => (a.tyre g).bladder == n) natV (SqL.of hl2) (size60 (by omega)) ?_ ?_
        · intro D3 g H' acc Nx hg s hD3 hacc hlen2 hno hyes
          have hg' : g < a.tyres.length := List.mem_range.mp (List.mem_filter.mp hg).1
          have R' := (R.same (s1.trans s2)).same s
          obtain ⟨r', dr, e1, hH⟩ := R'.tyre hg'
          obtain ⟨dx', hq'⟩ := id R'.pl
          have hgl' := R'.ty.lst
          have hat := at_ref e1
          refine ⟨rfl, ?_⟩
          simp! only [T.all, hH, wipe, hacc, natV, hq', hgl', hat]
          refine ite2 (fun h1 => ⟨hlen2, hyes (by simp; omega) H' (Same.refl _)⟩) fun h1 => hno (by simp; omega) H' (Same.refl _)
        · intro D3 H3 hD3 s3 hl3
          rw [List.filter_filter] at hl3
          have el : (List.range a.tyres.length).filter (fun g => (a.tyre g).bladder == n && ((a.tyre g).press == p && (a.tyre g).how == 2)) = (List.range a.tyres.length).filter fun g => (a.tyre g).how == 2 && ((a.tyre g).press == p && (a.tyre g).bladder == n) := List.filter_congr fun g _ => by
            cases (a.tyre g).how == 2 <;> cases (a.tyre g).press == p <;> cases (a.tyre g).bladder == n <;> rfl
          rw [el] at hl3
          have hf3 := filter_len a.tyres.length fun g => (a.tyre g).how == 2 && ((a.tyre g).press == p && (a.tyre g).bladder == n)
          simp! only [T.all, hl3, List.length_map]
          refine ⟨size1, fun l3 hl4 => ?_⟩
          have n12 : D3 ≠ l3 := ne_of_none hl3 hl4
          simp! only [T.all, upd_ne n12, hl3, List.length_map]
          refine ⟨Nat.le_of_lt (size60' (by omega)), fun l4 hl5 => ?_⟩
          refine k.lay1 R ?_ hl5 rfl rfl
          exact ((s1.trans s2).trans s3).trans (same_new hl4)
    · rw [hd, if_pos (decide_eq_false h1)] at k
      refine iteP (by rw [List.length_map, R.pr.len]; simp; omega) ?_
      simp! only [T.all]
      exact lay_no R k
end
end
section
open PySem PySem.Spec PyProof.Rows L2
section
variable {P : Program} {w : World} {K : PySem.W.Frag} {mg : Str → Option Value} {base : Heap} {A : Adr}
theorem lc_yes {te : TE} {D : Addr} {vs : List Nat} {σ σ2 : L2.St} {Nx : Hp → Prop} {H2 : Hp} (hw : wipe σ2 vs = wipe σ vs) (h : te σ2 H2 fun y H4 => ∃ acc, H4 D = some (.lst acc) ∧ acc.length < sizeLine ∧ Nx (upd H4 D (.lst (acc ++ [y])))) : LcTurn tYes te D vs σ Nx σ2 H2 := by
  refine ⟨hw, ?_⟩
  show (if true = true then te σ2 H2 _ else Nx H2)
  rw [if_pos rfl]
  exact h
def sp_number_and_one (K : PySem.W.Frag) (A : Adr) : Sp := fun vs H Q _ => ∃ (n : Nat), vs = [opt n] ∧ Q (.int (n : Nat)) H
theorem ok_number_and_one (T : Txt K mg A) : FnOk P w K mg base CX0 1 A.f_number_and_one A.d_number_and_one ["number"] (sp_number_and_one K A) := by
  refine T.F_number_and_one.ok sc_number_and_one (fun vs H Q E h => ?_) (fun cdv A' outer s H vs Q E hr h => ?_)
  · obtain ⟨n, rfl, _⟩ := h
    rfl
  · obtain ⟨n, rfl, k⟩ := h
    refine ⟨_, (pss_cons (ps_if (pt_cmpR op_isN (pv 0) pe_non (nomark _)) (pss_one (ps_ret pe_int)) pss_nil)
        (pss_one (ps_ret (pe_op op_add (pv 0) pe_int)))), ?_⟩
    by_cases h0 : n = 0
    · rw [opt_non h0]
      subst h0
      simp! only [T.all, decide_true]
      exact k
    · rw [opt_int h0]
      simp! only [T.all, decide_false]
      rw [show (((n - 1 : Nat) : Int) + 1) = (n : Int) by omega]
      exact k
def sp_doing (K : PySem.W.Frag) (A : Adr) : Sp := fun vs H Q _ => ∃ (r dx : Addr) (x : Su67.Press), vs = [.ref r] ∧ H r = some (.ins A.c_Press dx (prF x)) ∧ (x.left = 0 ↔ x.busy = 0) ∧ x.busy ≤ 2 ∧ Q (.int (x.busy : Nat)) H
theorem ok_doing (T : Txt K mg A) : FnOk P w K mg base CX0 1 A.f_doing A.d_doing ["press"] (sp_doing K A) := by
  refine T.F_doing.ok sc_doing (fun vs H Q E h => ?_) (fun cdv A' outer s H vs Q E hr h => ?_)
  · obtain ⟨r, dx, x, rfl, _⟩ := h
    rfl
  · obtain ⟨r, dx, x, rfl, hH, hl, hb, k⟩ := h
    refine ⟨_, (pss_cons (ps_if (pt_cmpR op_eq (pe_fld (pv 0) rfl) pe_int (nomark _)) (pss_one (ps_ret (pe_gi rfl T.v_IDLE))) pss_nil)
        (pss_cons (ps_if (pt_cmpR op_isN (pe_fld (pv 0) rfl) pe_non (nomark _)) (pss_one (ps_ret (pe_gi rfl T.v_CHANGED))) pss_nil)
        (pss_one (ps_ret (pe_gi rfl T.v_CURES))))), ?_⟩
    by_cases h2 : x.busy = 2
    · have ev : (if x.busy = 2 then V.int (x.tyre : Nat) else V.non) = V.int (x.tyre : Nat) := if_pos h2
      simp! only [T.all, hH, ev, decide_false]
      rw [if_neg (by have : ¬ x.left = 0 := fun z => by have := hl.mp z; omega
                     omega)]
      rw [h2] at k
      exact k
    · have ev : (if x.busy = 2 then V.int (x.tyre : Nat) else V.non) = V.non := if_neg h2
      simp! only [T.all, hH, ev, decide_true]
      by_cases h0 : x.busy = 0
      · rw [if_pos (by have := hl.mpr h0; omega)]
        rw [h0] at k
        exact k
      · rw [if_neg (by have : ¬ x.left = 0 := fun z => h0 (hl.mp z)
                       omega)]
        rw [show x.busy = 1 by omega] at k
        exact k
theorem tyre_opt (x : Su67.Press) : (if x.busy = 2 then V.int (x.tyre : Nat) else V.non) = opt (if x.busy = 2 then x.tyre + 1 else 0) := by
  by_cases h : x.busy = 2
  · rw [if_pos h, if_pos h, opt_int (Nat.succ_ne_zero _)]; rfl
  · rw [if_neg h, if_neg h, opt_non rfl]
def sp_look (K : PySem.W.Frag) (A : Adr) : Sp := fun vs H Q _ => ∃ (q : Addr) (y : Lay) (a : Su67.Abs) (p : Nat), vs = [.ref q, .int (p : Nat)] ∧ Rep A H q y true a ∧ Good a ∧ Told A q y H true (Su67.does a (.look p)) Q
theorem ok_look (T : Txt K mg A) : FnOk P w K mg base CX0 2 A.f_look A.d_look ["plant", "p"] (sp_look K A) := by
  refine T.F_look.ok sc_look (fun vs H Q E h => ?_) (fun cdv A' outer s H vs Q E hr h => ?_)
  · obtain ⟨q, y, a, p, rfl, _⟩ := h
    rfl
  · obtain ⟨q, y, a, p, rfl, R, G, k⟩ := h
    obtain ⟨dx, hq⟩ := id R.pl
    have hpl := R.pr.lst
    have hd : Su67.does a (.look p) = if decide (p < a.presses.length) = false then (a, Su67.no (-2)) else (a, Su67.num (a.press p).busy [(a.press p).mould, (a.press p).worn, (a.press p).bladder, (a.press p).left, if (a.press p).busy = 2 then (a.press p).tyre + 1 else 0]) := rfl
    refine ⟨_, (pss_cons (ps_if (pt_cmpR op_ge (pv 1) (pe_callB call_lenL rfl T.u_len PySem.boot_len (pa_cons (pe_fld (pv 0) rfl) pa_nil)) (nomark _)) (pss_one (ps_ret (pe_lst (pa_cons (pe_gi rfl T.v_NONE_SUCH) pa_nil)))) pss_nil)
        (pss_cons (ps_set (i := 2) sc_look.nd rfl (Or.inl rfl) (pe_ix ix_lst (pe_fld (pv 0) rfl) (pv 1) (fun _ _ => rfl)))
        (pss_cons (ps_set (i := 3) sc_look.nd rfl (Or.inl rfl) (pe_call (ok_number_and_one T) (hr.mono (by decide)) rfl T.m_number_and_one T.F_number_and_one.kp T.b_number_and_one .nil pass0 (pa_cons (pe_fld (pv 2) rfl) pa_nil)))
        (pss_cons (ps_set (i := 4) sc_look.nd rfl (Or.inl rfl) (pe_call (ok_number_and_one T) (hr.mono (by decide)) rfl T.m_number_and_one T.F_number_and_one.kp T.b_number_and_one .nil pass0 (pa_cons (pe_fld (pv 2) rfl) pa_nil)))
        (pss_one (ps_ret (pe_lst (pa_cons (pe_call (ok_doing T) (hr.mono (by decide)) rfl T.m_doing T.F_doing.kp T.b_doing .nil pass0 (pa_cons (pv 2) pa_nil)) (pa_cons (pv 3) (pa_cons (pe_fld (pv 2) rfl) (pa_cons (pe_fld (pv 2) rfl) (pa_cons (pe_fld (pv 2) rfl) (pa_cons (pv 4) pa_nil))))))))))))), ?_⟩
    by_cases h1 : p < a.presses.length
    · obtain ⟨rp, dp, e1, hP⟩ := R.press h1
      have a1 := at_ref e1
      rw [hd, if_neg (no_false h1)] at k
      have et := tyre_opt (a.press p)
      refine seqG (σ' := [some (.ref q), some (.int (p : Nat)), none, none, none]) (H' := H) ?_ fun N hN => ?_
      rotate_left
      · simp! only [T.all, hq, hpl, List.length_map, R.pr.len]
        rw [if_neg (by omega)]
        exact hN
      refine ⟨_, rfl, q, A.c_Plant, dx, _, _, rfl, hq, T.cl_Plant, T.n_Plant_presses, rfl, _, rfl, y.lp, _, _, _, rfl, rfl, hpl, a1, ?_⟩
      refine ⟨_, rfl, rp, A.c_Press, dp, _, _, rfl, hP, T.cl_Press, T.n_Press_mould, rfl, (a.press p).mould, rfl, ?_⟩
      refine ⟨_, rfl, rp, A.c_Press, dp, _, _, rfl, hP, T.cl_Press, T.n_Press_tyre, rfl, _, congrArg (fun z => [z]) et, ?_⟩
      refine ⟨_, rfl, rp, dp, a.press p, rfl, hP, G.pl p h1, G.pb p h1, ?_⟩
      simp! only [T.all, hq, hpl, List.length_map, R.pr.len, a1, hP, et]
      refine ⟨Nat.le_of_lt (size60 (Nat.le_of_ble_eq_true rfl)), fun l hl => ?_⟩
      exact k.lay0 R hl rfl rfl
    · rw [hd, if_pos (decide_eq_false h1)] at k
      refine seqR fun N => ?_
      simp! only [T.all, hq, hpl, List.length_map, R.pr.len]
      rw [if_pos (by omega)]
      exact lay_no R k
def sp_look_at_mould (K : PySem.W.Frag) (A : Adr) : Sp := fun vs H Q _ => ∃ (q : Addr) (y : Lay) (a : Su67.Abs) (m : Nat), vs = [.ref q, .int (m : Nat)] ∧ Rep A H q y true a ∧ Good a ∧ Told A q y H true (Su67.does a (.mouldat m)) Q
theorem ok_look_at_mould (T : Txt K mg A) : FnOk P w K mg base CX0 2 A.f_look_at_mould A.d_look_at_mould ["plant", "m"] (sp_look_at_mould K A) := by
  refine T.F_look_at_mould.ok sc_look_at_mould (fun vs H Q E h => ?_) (fun cdv A' outer s H vs Q E hr h => ?_)
  · obtain ⟨q, y, a, m, rfl, _⟩ := h
    rfl
  · obtain ⟨q, y, a, m, rfl, R, G, k⟩ := h
    obtain ⟨dx, hq⟩ := id R.pl
    have hml := R.mo.lst
    have hd : Su67.does a (.mouldat m) = if decide (m < a.moulds.length) = false then (a, Su67.no (-2)) else (a, Su67.num (a.mould m).type_ [(a.mould m).used, (a.mould m).in_]) := rfl
    refine ⟨_, (pss_cons (ps_if (pt_cmpR op_ge (pv 1) (pe_callB call_lenL rfl T.u_len PySem.boot_len (pa_cons (pe_fld (pv 0) rfl) pa_nil)) (nomark _)) (pss_one (ps_ret (pe_lst (pa_cons (pe_gi rfl T.v_NONE_SUCH) pa_nil)))) pss_nil)
        (pss_cons (ps_set (i := 2) sc_look_at_mould.nd rfl (Or.inl rfl) (pe_ix ix_lst (pe_fld (pv 0) rfl) (pv 1) (fun _ _ => rfl)))
        (pss_one (ps_ret (pe_lst (pa_cons (pe_fld (pv 2) rfl) (pa_cons (pe_fld (pv 2) rfl) (pa_cons (pe_call (ok_number_and_one T) (hr.mono (by decide)) rfl T.m_number_and_one T.F_number_and_one.kp T.b_number_and_one .nil pass0 (pa_cons (pe_fld (pv 2) rfl) pa_nil)) pa_nil)))))))), ?_⟩
    by_cases h1 : m < a.moulds.length
    · obtain ⟨rm, dm, e1, hM⟩ := R.mould h1
      have a1 := at_ref e1
      rw [hd, if_neg (no_false h1)] at k
      simp! only [T.all, hq, hml, List.length_map, R.mo.len, a1, hM]
      rw [if_neg (by omega)]
      refine ⟨(a.mould m).in_, rfl, Nat.le_of_lt (size60 (Nat.le_of_ble_eq_true rfl)), fun l hl => ?_⟩
      exact k.lay0 R hl rfl rfl
    · rw [hd, if_pos (decide_eq_false h1)] at k
      simp! only [T.all, hq, hml, List.length_map, R.mo.len]
      rw [if_pos (by omega)]
      exact lay_no R k
def sp_look_at_tyre (K : PySem.W.Frag) (A : Adr) : Sp := fun vs H Q _ => ∃ (q : Addr) (y : Lay) (a : Su67.Abs) (g : Nat), vs = [.ref q, .int (g : Nat)] ∧ Rep A H q y true a ∧ Good a ∧ Told A q y H true (Su67.does a (.tyre g)) Q
theorem ok_look_at_tyre (T : Txt K mg A) : FnOk P w K mg base CX0 1 A.f_look_at_tyre A.d_look_at_tyre ["plant", "g"] (sp_look_at_tyre K A) := by
  refine T.F_look_at_tyre.ok sc_look_at_tyre (fun vs H Q E h => ?_) (fun cdv A' outer s H vs Q E hr h => ?_)
  · obtain ⟨q, y, a, m, rfl, _⟩ := h
    rfl
  · obtain ⟨q, y, a, g, rfl, R, G, k⟩ := h
    obtain ⟨dx, hq⟩ := id R.pl
    have hgl := R.ty.lst
    have hd : Su67.does a (.tyre g) = if decide (g < a.tyres.length) = false then (a, Su67.no (-2)) else (a, Su67.num (a.tyre g).type_ [(a.tyre g).came, (a.tyre g).how, (a.tyre g).press, (a.tyre g).mould, (a.tyre g).bladder, (a.tyre g).at_]) := rfl
    refine ⟨_, (pss_cons (ps_if (pt_cmpR op_ge (pv 1) (pe_callB call_lenL rfl T.u_len PySem.boot_len (pa_cons (pe_fld (pv 0) rfl) pa_nil)) (nomark _)) (pss_one (ps_ret (pe_lst (pa_cons (pe_gi rfl T.v_NONE_SUCH) pa_nil)))) pss_nil)
        (pss_cons (ps_set (i := 2) sc_look_at_tyre.nd rfl (Or.inl rfl) (pe_ix ix_lst (pe_fld (pv 0) rfl) (pv 1) (fun _ _ => rfl)))
        (pss_one (ps_ret (pe_lst (pa_cons (pe_fld (pv 2) rfl) (pa_cons (pe_fld (pv 2) rfl) (pa_cons (pe_fld (pv 2) rfl) (pa_cons (pe_fld (pv 2) rfl) (pa_cons (pe_fld (pv 2) rfl) (pa_cons (pe_fld (pv 2) rfl) (pa_cons (pe_fld (pv 2) rfl) pa_nil)))))))))))), ?_⟩
    by_cases h1 : g < a.tyres.length
    · obtain ⟨rg, dg, e1, hG⟩ := R.tyre h1
      have a1 := at_ref e1
      rw [hd, if_neg (no_false h1)] at k
      refine seqG (σ' := [some (.ref q), some (.int (g : Nat)), none]) (H' := H) ?_ fun N hN => ?_
      rotate_left
      · simp! only [T.all, hq, hgl, List.length_map, R.ty.len]
        rw [if_neg (by omega)]
        exact hN
      refine ⟨_, rfl, q, A.c_Plant, dx, _, _, rfl, hq, T.cl_Plant, T.n_Plant_tyres, rfl, _, rfl, y.lt, _, _, _, rfl, rfl, hgl, a1, ?_⟩
      refine ⟨_, rfl, rg, A.c_Tyre, dg, _, _, rfl, hG, T.cl_Tyre, T.n_Tyre_kind, rfl, _, rfl, rg, A.c_Tyre, dg, _, _, rfl, hG, T.cl_Tyre, T.n_Tyre_came, rfl, _, rfl, rg, A.c_Tyre, dg, _, _, rfl, hG, T.cl_Tyre, T.n_Tyre_stage, rfl, _, rfl, rg, A.c_Tyre, dg, _, _, rfl, hG, T.cl_Tyre, T.n_Tyre_press, rfl, _, rfl, rg, A.c_Tyre, dg, _, _, rfl, hG, T.cl_Tyre, T.n_Tyre_mould, rfl, _, rfl, rg, A.c_Tyre, dg, _, _, rfl, hG, T.cl_Tyre, T.n_Tyre_bladder, rfl, _, rfl, rg, A.c_Tyre, dg, _, _, rfl, hG, T.cl_Tyre, T.n_Tyre_cured, rfl, Nat.le_of_lt (size60 (Nat.le_of_ble_eq_true rfl)), fun l hl => ?_⟩
      exact k.lay0 R hl rfl rfl
    · rw [hd, if_pos (decide_eq_false h1)] at k
      refine seqR fun N => ?_
      simp! only [T.all, hq, hgl, List.length_map, R.ty.len]
      rw [if_pos (by omega)]
      exact lay_no R k
def sp_sums (K : PySem.W.Frag) (A : Adr) : Sp := fun vs H Q _ => ∃ (q : Addr) (y : Lay) (a : Su67.Abs), vs = [.ref q] ∧ Rep A H q y true a ∧ Good a ∧ Told A q y H true (Su67.does a .sums) Q
theorem ok_sums (T : Txt K mg A) : FnOk P w K mg base CX0 2 A.f_sums A.d_sums ["plant"] (sp_sums K A) := by
  refine T.F_sums.ok sc_sums (fun vs H Q E h => ?_) (fun cdv A' outer s H vs Q E hr h => ?_)
  · obtain ⟨q, y, a, rfl, _⟩ := h
    rfl
  · obtain ⟨q, y, a, rfl, R, G, k⟩ := h
    have k : Told A q y H true (a, Su67.num 0 [a.howMany 0, a.howMany 1, a.howMany 2, a.howMany 3]) Q := k
    refine ⟨_, (pss_one (ps_ret (pe_op op_cat (pe_lst (pa_cons pe_int pa_nil)) (pe_lc (own := [("stage", 1)]) rfl sc_sums.nd (pi_tup (pe_tup (pa_cons (pe_gi rfl T.v_WAITS) (pa_cons (pe_gi rfl T.v_PRESSED) (pa_cons (pe_gi rfl T.v_CURED) (pa_cons (pe_gi rfl T.v_SCRAPPED) pa_nil)))))) (blkOk_by (by rfl)) (fun _ _ _ _ _ => (pg_name (i := 1) sc_sums.nd rfl (Or.inl rfl))) (fun _ _ _ _ _ => pts_nil) (fun _ _ _ _ _ => (pe_call (ok_count_at T) (hr.mono (by decide)) rfl T.m_count_at T.F_count_at.kp T.b_count_at .nil pass0 (pa_cons (pv 0) (pa_cons (pv 1) pa_nil)))))))), ?_⟩
    refine ⟨size1, fun l1 hl1 => ?_⟩
    have s1 : Same H (upd H l1 (.lst [.int 0])) := same_new hl1
    refine lcGo ?_
    refine ⟨Nat.le_of_lt (size60 (Nat.le_of_ble_eq_true rfl)), fun t ht => ⟨t, rfl, ⟨_, SqT.of upd_same⟩, ?_⟩⟩
    have s2 := s1.trans (same_new (o := .tup [.int 0, .int 1, .int 2, .int 3]) ht)
    refine LcGo.tup (zs := [0, 1, 2, 3]) (f := natV) (fun _ => true) (fun z => natV (a.howMany z)) (SqT.of upd_same) (fun H' s' => SqT.of (s' _ _ upd_same)) (size60 (Nat.le_of_ble_eq_true rfl)) ?_ ?_
    · intro D2 z H' acc Nx hz s hD2 hacc hlen hno hyes
      simp only [gName]
      refine lc_yes rfl ?_
      refine ⟨_, rfl, _, rfl, q, y, true, a, z, rfl, (R.same s2).same s, G, fun H3 s3 => ⟨acc, s3 _ _ hacc, hlen, hyes rfl H3 s3⟩⟩
    · intro D2 H2 hD2 s3 hl2
      have hl1' : H2 l1 = some (.lst [.int 0]) := s3 _ _ (by rw [upd_ne (ne_of_none (upd_same) ht)]; exact upd_same)
      refine ⟨l1, D2, _, _, rfl, rfl, hl1', hl2, Nat.le_of_lt (size60 (Nat.le_of_ble_eq_true rfl)), fun l3 hl3 => ?_⟩
      exact k.lay1 R (s2.trans s3) hl3 rfl rfl
def sp_state (K : PySem.W.Frag) (A : Adr) : Sp := fun vs H Q _ => ∃ (q : Addr) (y : Lay) (a : Su67.Abs), vs = [.ref q] ∧ Rep A H q y true a ∧ Good a ∧ Told A q y H true (Su67.does a .state) Q
theorem ok_state (T : Txt K mg A) : FnOk P w K mg base CX0 1 A.f_state A.d_state ["plant"] (sp_state K A) := by
  refine T.F_state.ok sc_state (fun vs H Q E h => ?_) (fun cdv A' outer s H vs Q E hr h => ?_)
  · obtain ⟨q, y, a, rfl, _⟩ := h
    rfl
  · obtain ⟨q, y, a, rfl, R, G, k⟩ := h
    obtain ⟨dx, hq⟩ := id R.pl
    have hkl := R.ki.lst
    have hml := R.mo.lst
    have hpl := R.pr.lst
    have hgl := R.ty.lst
    have k : Told A q y H true (a, Su67.num a.now_ [a.types.length, a.moulds.length, a.presses.length, a.tyres.length, Su67.bit a.auto_]) Q := k
    refine ⟨_, (pss_cons (ps_set (i := 1) sc_state.nd rfl (Or.inl rfl) (pe_lst (pa_cons (pe_callB call_lenL rfl T.u_len PySem.boot_len (pa_cons (pe_fld (pv 0) rfl) pa_nil)) (pa_cons (pe_callB call_lenL rfl T.u_len PySem.boot_len (pa_cons (pe_fld (pv 0) rfl) pa_nil)) (pa_cons (pe_callB call_lenL rfl T.u_len PySem.boot_len (pa_cons (pe_fld (pv 0) rfl) pa_nil)) (pa_cons (pe_callB call_lenL rfl T.u_len PySem.boot_len (pa_cons (pe_fld (pv 0) rfl) pa_nil)) pa_nil))))))
        (pss_one (ps_ret (pe_op op_cat (pe_op op_cat (pe_lst (pa_cons (pe_fld (pv 0) rfl) pa_nil)) (pv 1)) (pe_lst (pa_cons (pe_fld (pv 0) rfl) pa_nil)))))), ?_⟩
    simp! only [T.all, hq, hkl, hml, hpl, hgl, List.length_map, R.ki.len, R.mo.len, R.pr.len, R.ty.len]
    refine ⟨Nat.le_of_lt (size60 (Nat.le_of_ble_eq_true rfl)), fun l1 hl1 => ?_⟩
    have n1 := ne_of_none hq hl1
    simp! only [T.all, upd_ne n1, hq]
    refine ⟨size1, fun l2 hl2 => ?_⟩
    have n2 : l1 ≠ l2 := ne_of_none upd_same hl2
    simp! only [T.all, upd_ne n2]
    refine ⟨Nat.le_of_lt (size60 (Nat.le_of_ble_eq_true rfl)), fun l3 hl3 => ?_⟩
    have s3 := ((same_new (o := .lst [.int (a.types.length : Nat), .int (a.moulds.length : Nat), .int (a.presses.length : Nat), .int (a.tyres.length : Nat)]) hl1).trans (same_new (o := .lst [.int (a.now_ : Nat)]) hl2)).trans (same_new (o := .lst [.int (a.now_ : Nat), .int (a.types.length : Nat), .int (a.moulds.length : Nat), .int (a.presses.length : Nat), .int (a.tyres.length : Nat)]) hl3)
    have hq3 := s3 _ _ hq
    simp! only [T.all, hq3]
    refine ⟨size1, fun l4 hl4 => ?_⟩
    have n4 : l3 ≠ l4 := ne_of_none upd_same hl4
    simp! only [T.all, upd_ne n4]
    refine ⟨Nat.le_of_lt (size60 (Nat.le_of_ble_eq_true rfl)), fun l5 hl5 => ?_⟩
    exact k.lay1 R (s3.trans (same_new hl4)) hl5 rfl rfl
end
end
section
open PySem PySem.Spec PyProof.Rows L2
section
variable {P : Program} {w : World} {K : PySem.W.Frag} {mg : Str → Option Value} {base : Heap} {A : Adr}
/-- another object like it -/
def Makes (C : Addr) (fs : List (Str × V)) (H : Hp) (Q : VK) : Prop := ∀ H' p dp, Same H H' → H p = none → H' p = some (.ins C dp fs) → Q (.ref p) H'
theorem same2 {H : Hp} {p dp : Addr} {o o' : HO} (hp : H p = none) (hd : H dp = none) : Same H (upd (upd H dp o) p o') := fun c u h => by
  rw [upd_ne (ne_of_none h hp), upd_ne (ne_of_none h hd)]; exact h
def sp_same_mould (K : PySem.W.Frag) (A : Adr) : Sp := fun vs H Q _ => ∃ (r dx : Addr) (x : Su67.Mould), vs = [.ref r] ∧ H r = some (.ins A.c_Mould dx (moF x)) ∧ Makes A.c_Mould (moF x) H Q
theorem ok_same_mould (T : Txt K mg A) : FnOk P w K mg base CX0 3 A.f_same_mould A.d_same_mould ["mould"] (sp_same_mould K A) := by
  refine T.F_same_mould.ok sc_same_mould (fun vs H Q E h => ?_) (fun cdv A' outer s H vs Q E hr h => ?_)
  · obtain ⟨r, dx, x, rfl, _⟩ := h
    rfl
  · obtain ⟨r, dx, x, rfl, hH, k⟩ := h
    refine ⟨_, (pss_cons (ps_set (i := 1) sc_same_mould.nd rfl (Or.inl rfl) (pe_make T.mk_Mould (ok_Mould_init T) (hr.mono (by decide)) rfl T.m_Mould T.b_Mould_init .nil pass0 (pa_cons (pe_fld (pv 0) rfl) pa_nil)))
        (pss_cons (ps_fld (pv 1) (pe_fld (pv 0) rfl) rfl)
        (pss_cons (ps_fld (pv 1) (pe_fld (pv 0) rfl) rfl)
        (pss_one (ps_ret (pv 1)))))), ?_⟩
    simp! only [T.all, hH]
    intro p dp hp hdp hne
    refine ⟨p, dp, x.type_, rfl, upd_same, rfl, ?_⟩
    have n1 := ne_of_none hH hp
    have n2 := ne_of_none hH hdp
    simp! only [T.all, upd_ne n1, upd_ne n2, hH]
    refine ⟨Nat.le_of_ble_eq_true rfl, ?_⟩
    exact k _ p dp (same2 hp hdp) hp upd_same
def sp_same_press (K : PySem.W.Frag) (A : Adr) : Sp := fun vs H Q _ => ∃ (r dx : Addr) (x : Su67.Press), vs = [.ref r] ∧ H r = some (.ins A.c_Press dx (prF x)) ∧ Makes A.c_Press (prF x) H Q
theorem ok_same_press (T : Txt K mg A) : FnOk P w K mg base CX0 3 A.f_same_press A.d_same_press ["press"] (sp_same_press K A) := by
  refine T.F_same_press.ok sc_same_press (fun vs H Q E h => ?_) (fun cdv A' outer s H vs Q E hr h => ?_)
  · obtain ⟨r, dx, x, rfl, _⟩ := h
    rfl
  · obtain ⟨r, dx, x, rfl, hH, k⟩ := h
    refine ⟨_, (pss_cons (ps_set (i := 1) sc_same_press.nd rfl (Or.inl rfl) (pe_make0 T.mk_Press (ok_Press_init T) (hr.mono (by decide)) rfl T.m_Press T.b_Press_init .nil pass0))
        (pss_cons (ps_fld (pv 1) (pe_fld (pv 0) rfl) rfl)
        (pss_cons (ps_fld (pv 1) (pe_fld (pv 0) rfl) rfl)
        (pss_cons (ps_fld (pv 1) (pe_fld (pv 0) rfl) rfl)
        (pss_cons (ps_fld (pv 1) (pe_fld (pv 0) rfl) rfl)
        (pss_cons (ps_fld (pv 1) (pe_fld (pv 0) rfl) rfl)
        (pss_one (ps_ret (pv 1))))))))), ?_⟩
    simp! only [T.all, hH]
    intro p dp hp hdp hne
    refine ⟨p, dp, rfl, upd_same, rfl, ?_⟩
    have n1 := ne_of_none hH hp
    have n2 := ne_of_none hH hdp
    simp! only [T.all, upd_ne n1, upd_ne n2, hH]
    refine ⟨Nat.le_of_ble_eq_true rfl, Nat.le_of_ble_eq_true rfl, Nat.le_of_ble_eq_true rfl, Nat.le_of_ble_eq_true rfl, ?_⟩
    exact k _ p dp (same2 hp hdp) hp upd_same
def sp_same_tyre (K : PySem.W.Frag) (A : Adr) : Sp := fun vs H Q _ => ∃ (r dx : Addr) (x : Su67.Tyre), vs = [.ref r] ∧ H r = some (.ins A.c_Tyre dx (tyF x)) ∧ Makes A.c_Tyre (tyF x) H Q
theorem ok_same_tyre (T : Txt K mg A) : FnOk P w K mg base CX0 3 A.f_same_tyre A.d_same_tyre ["tyre"] (sp_same_tyre K A) := by
  refine T.F_same_tyre.ok sc_same_tyre (fun vs H Q E h => ?_) (fun cdv A' outer s H vs Q E hr h => ?_)
  · obtain ⟨r, dx, x, rfl, _⟩ := h
    rfl
  · obtain ⟨r, dx, x, rfl, hH, k⟩ := h
    refine ⟨_, (pss_cons (ps_set (i := 1) sc_same_tyre.nd rfl (Or.inl rfl) (pe_make T.mk_Tyre (ok_Tyre_init T) (hr.mono (by decide)) rfl T.m_Tyre T.b_Tyre_init .nil pass0 (pa_cons (pe_fld (pv 0) rfl) (pa_cons (pe_fld (pv 0) rfl) pa_nil))))
        (pss_cons (ps_fld (pv 1) (pe_fld (pv 0) rfl) rfl)
        (pss_cons (ps_fld (pv 1) (pe_fld (pv 0) rfl) rfl)
        (pss_cons (ps_fld (pv 1) (pe_fld (pv 0) rfl) rfl)
        (pss_cons (ps_fld (pv 1) (pe_fld (pv 0) rfl) rfl)
        (pss_cons (ps_fld (pv 1) (pe_fld (pv 0) rfl) rfl)
        (pss_one (ps_ret (pv 1))))))))), ?_⟩
    simp! only [T.all, hH]
    intro p dp hp hdp hne
    refine ⟨p, dp, x.type_, x.came, rfl, upd_same, rfl, ?_⟩
    have n1 := ne_of_none hH hp
    have n2 := ne_of_none hH hdp
    simp! only [T.all, upd_ne n1, upd_ne n2, hH]
    refine ⟨Nat.le_of_ble_eq_true rfl, Nat.le_of_ble_eq_true rfl, Nat.le_of_ble_eq_true rfl, Nat.le_of_ble_eq_true rfl, ?_⟩
    exact k _ p dp (same2 hp hdp) hp upd_same
theorem cp_step {H H6 H7 : Hp} {q' d2 C : Addr} {fs' : List (Str × V)} (hn : H q' = none) (S6 : Same H H6) (e : H7 = upd H6 q' (.ins C d2 fs')) : Same H H7 ∧ H7 q' = some (.ins C d2 fs') := by
  subst e
  exact ⟨upd_same_of S6 hn, upd_same⟩
theorem cp_objs {α : Type} {C C' D q' d2 : Addr} {F : α → List (Str × V)} {H6 H7 : Hp} {bs : List Addr} {xs : List α} {fs : List (Str × V)} {o : HO} (O : Objs C F H6 D bs xs) (hq6 : H6 q' = some (.ins C' d2 fs)) (ne : C' ≠ C) (e : H7 = upd H6 q' o) : Objs C F H7 D bs xs := by
  subst e
  exact O.keep (lst_ins O.lst hq6) (keep_ins hq6 ne)
/-- another plant like it, all of it new -/
def Copies (A : Adr) (b : Bool) (a : Su67.Abs) (H : Hp) (Q : VK) : Prop := ∀ H' q' y', Rep A H' q' y' b a → Same H H' → (∀ c, y'.foot q' c → H c = none) → Q (.ref q') H'
def sp_same_plant (K : PySem.W.Frag) (A : Adr) : Sp := fun vs H Q _ => ∃ (q : Addr) (y : Lay) (b : Bool) (a : Su67.Abs), vs = [.ref q] ∧ Rep A H q y b a ∧ Good a ∧ Copies A b a H Q
theorem ok_same_plant (T : Txt K mg A) : FnOk P w K mg base CX0 4 A.f_same_plant A.d_same_plant ["plant"] (sp_same_plant K A) := by
  refine T.F_same_plant.ok sc_same_plant (fun vs H Q E h => ?_) (fun cdv A' outer s H vs Q E hr h => ?_)
  · obtain ⟨q, y, b, a, rfl, _⟩ := h
    rfl
  · obtain ⟨q, y, b, a, rfl, R, G, k⟩ := h
    refine ⟨_, (pss_cons (ps_set (i := 1) sc_same_plant.nd rfl (Or.inl rfl) (pe_make0 T.mk_Plant (ok_Plant_init T) (hr.mono (by decide)) rfl T.m_Plant T.b_Plant_init .nil pass0))
        (pss_cons (ps_expr (pe_meth (pv 1) T.cl_Plant T.me_Plant_start_anew (ok_Plant_start_anew T) (hr.mono (by decide)) T.b_Plant_start_anew .nil pass0 (pa_cons (pe_fld (pv 0) rfl) (pa_cons (pe_fld (pv 0) rfl) (pa_cons (pe_fld (pv 0) rfl) pa_nil)))))
        (pss_cons (ps_fld (pv 1) (pe_fld (pv 0) rfl) rfl)
        (pss_cons (ps_fld (pv 1) (pe_fld (pv 0) rfl) rfl)
        (pss_cons (ps_fld (pv 1) (pe_fld (pv 0) rfl) rfl)
        (pss_cons (ps_fld (pv 1) (pe_lc (own := [("kind", 2)]) rfl sc_same_plant.nd (pi_list (pe_fld (pv 0) rfl)) (blkOk_by (by rfl)) (fun _ _ _ _ _ => (pg_name (i := 2) sc_same_plant.nd rfl (Or.inl rfl))) (fun _ _ _ _ _ => pts_nil) (fun _ _ _ _ _ => (pe_make T.mk_Kind (ok_Kind_init T) (hr.mono (by decide)) rfl T.m_Kind T.b_Kind_init .nil pass0 (pa_cons (pe_fldK (K := K) rfl (pv 2) rfl) (pa_cons (pe_fldK (K := K) rfl (pv 2) rfl) pa_nil))))) rfl)
        (pss_cons (ps_fld (pv 1) (pe_lc (own := [("mould", 3)]) rfl sc_same_plant.nd (pi_list (pe_fld (pv 0) rfl)) (blkOk_by (by rfl)) (fun _ _ _ _ _ => (pg_name (i := 3) sc_same_plant.nd rfl (Or.inl rfl))) (fun _ _ _ _ _ => pts_nil) (fun _ _ _ _ _ => (pe_call (ok_same_mould T) (hr.mono (by decide)) rfl T.m_same_mould T.F_same_mould.kp T.b_same_mould .nil pass0 (pa_cons (pv 3) pa_nil)))) rfl)
        (pss_cons (ps_fld (pv 1) (pe_lc (own := [("press", 4)]) rfl sc_same_plant.nd (pi_list (pe_fld (pv 0) rfl)) (blkOk_by (by rfl)) (fun _ _ _ _ _ => (pg_name (i := 4) sc_same_plant.nd rfl (Or.inl rfl))) (fun _ _ _ _ _ => pts_nil) (fun _ _ _ _ _ => (pe_call (ok_same_press T) (hr.mono (by decide)) rfl T.m_same_press T.F_same_press.kp T.b_same_press .nil pass0 (pa_cons (pv 4) pa_nil)))) rfl)
        (pss_cons (ps_fld (pv 1) (pe_lc (own := [("tyre", 5)]) rfl sc_same_plant.nd (pi_list (pe_fld (pv 0) rfl)) (blkOk_by (by rfl)) (fun _ _ _ _ _ => (pg_name (i := 5) sc_same_plant.nd rfl (Or.inl rfl))) (fun _ _ _ _ _ => pts_nil) (fun _ _ _ _ _ => (pe_call (ok_same_tyre T) (hr.mono (by decide)) rfl T.m_same_tyre T.F_same_tyre.kp T.b_same_tyre .nil pass0 (pa_cons (pv 5) pa_nil)))) rfl)
        (pss_one (ps_ret (pv 1)))))))))))), ?_⟩
    intro q' dq hq' hdq hnq
    refine ⟨q', dq, rfl, upd_same, fun H1 y1 R1 h1 h2 => ⟨rfl, ?_⟩⟩
    have s1 : Same H H1 := fun c o h => h1 c o (by rw [upd_ne (ne_of_none h hq'), upd_ne (ne_of_none h hdq)]; exact h) (ne_of_none h hq')
    obtain ⟨dx, hq⟩ := id R.pl
    obtain ⟨d1, hq1⟩ := id R1.pl
    have hs1 := s1 _ _ hq
    refine ⟨_, rfl, q', d1, _, rfl, hq1, rfl, _, rfl, q, A.c_Plant, dx, _, _, rfl, hs1, T.cl_Plant, T.n_Plant_change, rfl, _, rfl, q, A.c_Plant, dx, _, _, rfl, hs1, T.cl_Plant, T.n_Plant_bladder_cures, rfl, _, rfl, q, A.c_Plant, dx, _, _, rfl, hs1, T.cl_Plant, T.n_Plant_mould_cures, rfl, ?_⟩
    refine ⟨q', d1, _, a.change, a.life, a.dirty, false, rfl, hq1, .inr ⟨_, _, rfl⟩, fun H2 y2 R2 h3 h4 => ?_⟩
    have s2 : Same H H2 := fun c o h => h3 c o (s1 c o h) (ne_of_none h hq')
    obtain ⟨d2, hq2⟩ := id R2.pl
    refine ⟨_, rfl, q, A.c_Plant, dx, _, _, rfl, s2 _ _ hq, T.cl_Plant, T.n_Plant_begun, rfl, _, rfl, q', A.c_Plant, d2, _, rfl, hq2, T.cl_Plant, T.n_Plant_begun, Nat.le_of_ble_eq_true rfl, ?_⟩
    have s3 := fun o => upd_same_of (o := o) s2 hq'
    refine ⟨_, rfl, q, A.c_Plant, dx, _, _, rfl, s3 _ _ _ hq, T.cl_Plant, T.n_Plant_minute, rfl, _, rfl, q', A.c_Plant, d2, _, rfl, upd_same, T.cl_Plant, T.n_Plant_minute, Nat.le_of_ble_eq_true rfl, ?_⟩
    rw [upd_upd]
    refine ⟨_, rfl, q, A.c_Plant, dx, _, _, rfl, s3 _ _ _ hq, T.cl_Plant, T.n_Plant_auto, rfl, _, rfl, q', A.c_Plant, d2, _, rfl, upd_same, T.cl_Plant, T.n_Plant_auto, Nat.le_of_ble_eq_true rfl, ?_⟩
    rw [upd_upd]
    obtain ⟨f5, e5⟩ : ∃ f5, f5 = putF "auto" (.int (Su67.bit a.auto_ : Nat)) (putF "minute" (.int (a.now_ : Nat)) (putF "begun" (.bl b) (plF false (Su67.new a.change a.life a.dirty) y2))) := ⟨_, rfl⟩
    obtain ⟨H5, eH5⟩ : ∃ H5, H5 = upd H2 q' (.ins A.c_Plant d2 f5) := ⟨_, rfl⟩
    have s5 : Same H H5 := by rw [eH5]; exact s3 _
    have hq5 : H5 q' = some (.ins A.c_Plant d2 f5) := by rw [eH5]; exact upd_same
    rw [e5] at eH5
    rw [← eH5]
    clear s3 eH5
    have R5 := R.same s5
    first | refine lcGo ?_ | (simp only [tNext, tSeq, tAsg, tRet, sFld, cxK]; refine lcGo ?_)
    refine ⟨_, rfl, q, A.c_Plant, dx, _, _, rfl, s5 _ _ hq, T.cl_Plant, T.n_Plant_kinds, rfl, y.lk, rfl, ⟨_, SqL.of R5.ki.lst⟩, ?_⟩
    refine LcGo.news (C := A.c_Kind) (F := kiF) (xs := a.types) R5.ki.len (SqL.of R5.ki.lst) (by rw [R5.ki.len]; exact size60 (Nat.le_trans G.nT (by decide))) ?_ ?_
    · intro D j r x H' acc Nx hr hx s hD hacc hlen hnx
      obtain ⟨dr, hH⟩ := (R5.same s).ki.at_ j r x hr hx
      simp only [gName]
      refine lc_yes rfl ?_
      refine ⟨_, rfl, r, A.c_Kind, dr, _, _, rfl, hH, T.cl_Kind, T.n_Kind_cure, rfl, _, rfl, r, A.c_Kind, dr, _, _, rfl, hH, T.cl_Kind, T.n_Kind_wait, rfl, ?_⟩
      intro p dp hp hdp hne
      refine ⟨p, dp, x, rfl, upd_same, rfl, acc, ?_, hlen, ?_⟩
      · rw [upd_upd, upd_ne (ne_of_none hacc hp), upd_ne (ne_of_none hacc hdp)]; exact hacc
      · rw [upd_upd]
        exact hnx _ p dp (same2 hp hdp) hp upd_same
    intro D1 H6 b1 hD1 s6 hb1 O1
    have fD1 := s5.free hD1
    have fb1 : ∀ r ∈ b1, H r = none := fun r m => s5.free (hb1 r m)
    refine ⟨_, rfl, q', A.c_Plant, d2, f5, rfl, s6 _ _ hq5, T.cl_Plant, T.n_Plant_kinds, by rw [e5]; exact Nat.le_of_ble_eq_true rfl, ?_⟩
    obtain ⟨H7, e7⟩ : ∃ H7, H7 = upd H6 q' (.ins A.c_Plant d2 (putF "kinds" (.ref D1) f5)) := ⟨_, rfl⟩
    obtain ⟨S7, hq7⟩ := cp_step hq' (s5.trans s6) e7
    replace O1 := cp_objs O1 (s6 _ _ hq5) (Ne.symm T.ne_Kind_Plant) e7
    rw [← e7]
    clear e7 s6 hD1 hb1
    have R7 := R.same S7
    first | refine lcGo ?_ | (simp only [tNext, tSeq, tAsg, tRet, sFld, cxK]; refine lcGo ?_)
    refine ⟨_, rfl, q, A.c_Plant, dx, _, _, rfl, S7 _ _ hq, T.cl_Plant, T.n_Plant_moulds, rfl, y.lm, rfl, ⟨_, SqL.of R7.mo.lst⟩, ?_⟩
    refine LcGo.news (C := A.c_Mould) (F := moF) (xs := a.moulds) R7.mo.len (SqL.of R7.mo.lst) (by rw [R7.mo.len]; exact size60 (Nat.le_trans G.nM (by decide))) ?_ ?_
    · intro D j r x H' acc Nx hr hx s hD hacc hlen hnx
      obtain ⟨dr, hH⟩ := (R7.same s).mo.at_ j r x hr hx
      simp only [gName]
      refine lc_yes rfl ?_
      exact ⟨_, rfl, r, dr, x, rfl, hH, fun H'' p dp s' hp hp' => ⟨acc, s' _ _ hacc, hlen, hnx H'' p dp s' hp hp'⟩⟩
    intro D2 H8 b2 hD2 s8 hb2 O2
    have fD2 := S7.free hD2
    have fb2 : ∀ r ∈ b2, H r = none := fun r m => S7.free (hb2 r m)
    have n12 : D1 ≠ D2 := ne_of_none O1.lst hD2
    replace O1 := O1.same s8
    refine ⟨_, rfl, q', A.c_Plant, d2, (putF "kinds" (.ref D1) f5), rfl, s8 _ _ hq7, T.cl_Plant, T.n_Plant_moulds, by rw [e5]; exact Nat.le_of_ble_eq_true rfl, ?_⟩
    obtain ⟨H9, e9⟩ : ∃ H', H' = upd H8 q' (.ins A.c_Plant d2 (putF "moulds" (.ref D2) (putF "kinds" (.ref D1) f5))) := ⟨_, rfl⟩
    obtain ⟨S9, hq9⟩ := cp_step hq' (S7.trans s8) e9
    replace O1 := cp_objs O1 (s8 _ _ hq7) (Ne.symm T.ne_Kind_Plant) e9
    replace O2 := cp_objs O2 (s8 _ _ hq7) (Ne.symm T.ne_Mould_Plant) e9
    rw [← e9]
    clear e9 s8 hD2 hb2
    have R9 := R.same S9
    first | refine lcGo ?_ | (simp only [tNext, tSeq, tAsg, tRet, sFld, cxK]; refine lcGo ?_)
    refine ⟨_, rfl, q, A.c_Plant, dx, _, _, rfl, S9 _ _ hq, T.cl_Plant, T.n_Plant_presses, rfl, y.lp, rfl, ⟨_, SqL.of R9.pr.lst⟩, ?_⟩
    refine LcGo.news (C := A.c_Press) (F := prF) (xs := a.presses) R9.pr.len (SqL.of R9.pr.lst) (by rw [R9.pr.len]; exact size60 (Nat.le_trans G.nP (by decide))) ?_ ?_
    · intro D j r x H' acc Nx hr hx s hD hacc hlen hnx
      obtain ⟨dr, hH⟩ := (R9.same s).pr.at_ j r x hr hx
      simp only [gName]
      refine lc_yes rfl ?_
      exact ⟨_, rfl, r, dr, x, rfl, hH, fun H'' p dp s' hp hp' => ⟨acc, s' _ _ hacc, hlen, hnx H'' p dp s' hp hp'⟩⟩
    intro D3 H10 b3 hD3 s10 hb3 O3
    have fD3 := S9.free hD3
    have fb3 : ∀ r ∈ b3, H r = none := fun r m => S9.free (hb3 r m)
    have n13 : D1 ≠ D3 := ne_of_none O1.lst hD3
    have n23 : D2 ≠ D3 := ne_of_none O2.lst hD3
    replace O1 := O1.same s10
    replace O2 := O2.same s10
    refine ⟨_, rfl, q', A.c_Plant, d2, (putF "moulds" (.ref D2) (putF "kinds" (.ref D1) f5)), rfl, s10 _ _ hq9, T.cl_Plant, T.n_Plant_presses, by rw [e5]; exact Nat.le_of_ble_eq_true rfl, ?_⟩
    obtain ⟨H11, e11⟩ : ∃ H', H' = upd H10 q' (.ins A.c_Plant d2 (putF "presses" (.ref D3) (putF "moulds" (.ref D2) (putF "kinds" (.ref D1) f5)))) := ⟨_, rfl⟩
    obtain ⟨S11, hq11⟩ := cp_step hq' (S9.trans s10) e11
    replace O1 := cp_objs O1 (s10 _ _ hq9) (Ne.symm T.ne_Kind_Plant) e11
    replace O2 := cp_objs O2 (s10 _ _ hq9) (Ne.symm T.ne_Mould_Plant) e11
    replace O3 := cp_objs O3 (s10 _ _ hq9) (Ne.symm T.ne_Press_Plant) e11
    rw [← e11]
    clear e11 s10 hD3 hb3
    have R11 := R.same S11
    first | refine lcGo ?_ | (simp only [tNext, tSeq, tAsg, tRet, sFld, cxK]; refine lcGo ?_)
    refine ⟨_, rfl, q, A.c_Plant, dx, _, _, rfl, S11 _ _ hq, T.cl_Plant, T.n_Plant_tyres, rfl, y.lt, rfl, ⟨_, SqL.of R11.ty.lst⟩, ?_⟩
    refine LcGo.news (C := A.c_Tyre) (F := tyF) (xs := a.tyres) R11.ty.len (SqL.of R11.ty.lst) (by rw [R11.ty.len]; exact size60 (Nat.le_trans G.nG (by decide))) ?_ ?_
    · intro D j r x H' acc Nx hr hx s hD hacc hlen hnx
      obtain ⟨dr, hH⟩ := (R11.same s).ty.at_ j r x hr hx
      simp only [gName]
      refine lc_yes rfl ?_
      exact ⟨_, rfl, r, dr, x, rfl, hH, fun H'' p dp s' hp hp' => ⟨acc, s' _ _ hacc, hlen, hnx H'' p dp s' hp hp'⟩⟩
    intro D4 H12 b4 hD4 s12 hb4 O4
    have fD4 := S11.free hD4
    have fb4 : ∀ r ∈ b4, H r = none := fun r m => S11.free (hb4 r m)
    have n14 : D1 ≠ D4 := ne_of_none O1.lst hD4
    have n24 : D2 ≠ D4 := ne_of_none O2.lst hD4
    have n34 : D3 ≠ D4 := ne_of_none O3.lst hD4
    replace O1 := O1.same s12
    replace O2 := O2.same s12
    replace O3 := O3.same s12
    refine ⟨_, rfl, q', A.c_Plant, d2, (putF "presses" (.ref D3) (putF "moulds" (.ref D2) (putF "kinds" (.ref D1) f5))), rfl, s12 _ _ hq11, T.cl_Plant, T.n_Plant_tyres, by rw [e5]; exact Nat.le_of_ble_eq_true rfl, ?_⟩
    obtain ⟨H13, e13⟩ : ∃ H', H' = upd H12 q' (.ins A.c_Plant d2 (putF "tyres" (.ref D4) (putF "presses" (.ref D3) (putF "moulds" (.ref D2) (putF "kinds" (.ref D1) f5))))) := ⟨_, rfl⟩
    obtain ⟨S13, hq13⟩ := cp_step hq' (S11.trans s12) e13
    replace O1 := cp_objs O1 (s12 _ _ hq11) (Ne.symm T.ne_Kind_Plant) e13
    replace O2 := cp_objs O2 (s12 _ _ hq11) (Ne.symm T.ne_Mould_Plant) e13
    replace O3 := cp_objs O3 (s12 _ _ hq11) (Ne.symm T.ne_Press_Plant) e13
    replace O4 := cp_objs O4 (s12 _ _ hq11) (Ne.symm T.ne_Tyre_Plant) e13
    rw [← e13]
    clear e13 s12 hD4 hb4
    refine ⟨_, rfl, ?_⟩
    refine k H13 q' ⟨D1, D2, D3, D4, b1, b2, b3, b4⟩ ⟨⟨d2, ?_⟩, O1, O2, O3, O4, ⟨n12, n13, n14, n23, n24, n34⟩⟩ S13 (fun c hc => ?_)
    · rw [hq13, e5]; rfl
    · rcases hc with h | h | h | h | h | h | h | h | h
      · rw [h]; exact hq'
      · rw [h]; exact fD1
      · rw [h]; exact fD2
      · rw [h]; exact fD3
      · rw [h]; exact fD4
      · exact fb1 c h
      · exact fb2 c h
      · exact fb3 c h
      · exact fb4 c h
def sp_later (K : PySem.W.Frag) (A : Adr) : Sp := fun vs H Q _ => ∃ (q : Addr) (y : Lay) (b : Bool) (a : Su67.Abs) (n : Nat), vs = [.ref q, .int (n : Nat)] ∧ Rep A H q y b a ∧ Good a ∧ ∀ H' q' y', Rep A H' q' y' b (a.goes n) → Same H H' → Q (.ref q') H'
theorem ok_later (T : Txt K mg A) : FnOk P w K mg base CX0 5 A.f_later A.d_later ["plant", "n"] (sp_later K A) := by
  refine T.F_later.ok sc_later (fun vs H Q E h => ?_) (fun cdv A' outer s H vs Q E hr h => ?_)
  · obtain ⟨q, y, b, a, n, rfl, _⟩ := h
    rfl
  · obtain ⟨q, y, b, a, n, rfl, R, G, k⟩ := h
    refine ⟨_, (pss_cons (ps_set (i := 2) sc_later.nd rfl (Or.inl rfl) (pe_call (ok_same_plant T) (hr.mono (by decide)) rfl T.m_same_plant T.F_same_plant.kp T.b_same_plant .nil pass0 (pa_cons (pv 0) pa_nil)))
        (pss_cons (ps_expr (pe_call (ok_pass_minutes T) (hr.mono (by decide)) rfl T.m_pass_minutes T.F_pass_minutes.kp T.b_pass_minutes .nil pass0 (pa_cons (pv 2) (pa_cons (pv 1) pa_nil))))
        (pss_one (ps_ret (pv 2))))), ?_⟩
    refine ⟨_, rfl, q, y, b, a, rfl, R, G, fun H1 q1 y1 R1 s1 f1 => ?_⟩
    refine ⟨_, rfl, _, rfl, q1, y1, b, a, n, rfl, R1, G, fun H2 R2 f2 => ?_⟩
    refine ⟨_, rfl, ?_⟩
    exact k H2 q1 y1 R2 fun c o h => f2.keep c o (s1 c o h) fun z => by rw [f1 c z] at h; cases h
end
end
section
open PySem PySem.Spec PyProof.Rows L2
section
variable {P : Program} {w : World} {K : PySem.W.Frag} {mg : Str → Option Value} {base : Heap} {A : Adr}
def sp_cured_in (K : PySem.W.Frag) (A : Adr) : Sp := fun vs H Q _ => ∃ (q : Addr) (y : Lay) (a : Su67.Abs) (g : Nat), vs = [.ref q, .int (g : Nat)] ∧ Rep A H q y true a ∧ Good a ∧ Held a ∧ Told A q y H true (Su67.does a (.cured g)) Q
theorem ok_cured_in (T : Txt K mg A) : FnOk P w K mg base CX0 6 A.f_cured_in A.d_cured_in ["plant", "g"] (sp_cured_in K A) := by
  refine T.F_cured_in.ok sc_cured_in (fun vs H Q E h => ?_) (fun cdv A' outer s H vs Q E hr h => ?_)
  · obtain ⟨q, y, a, g, rfl, _⟩ := h
    rfl
  · obtain ⟨q, y, a, g, rfl, R, G, D, k⟩ := h
    obtain ⟨dx, hq⟩ := id R.pl
    have hgl := R.ty.lst
    have hd : Su67.does a (.cured g) = if decide (g < a.tyres.length) = false then (a, Su67.no (-2)) else (match a.cured g (Su67.WAIT + 1) with
      | none => (a, Su67.no (-33))
      | some n => (a, Su67.num n [])) := rfl
    obtain ⟨N, hN⟩ : ∃ N : Nat, N = 1000 := ⟨_, rfl⟩
    rw [show Su67.WAIT = N from hN.symm] at hd
    refine ⟨_, (pss_cons (ps_if (pt_cmpR op_ge (pv 1) (pe_callB call_lenL rfl T.u_len PySem.boot_len (pa_cons (pe_fld (pv 0) rfl) pa_nil)) (nomark _)) (pss_one (ps_ret (pe_lst (pa_cons (pe_gi rfl T.v_NONE_SUCH) pa_nil)))) pss_nil)
        (pss_cons (ps_if (pt_cmpR op_eq (pe_fld (pe_ix ix_lst (pe_fld (pv 0) rfl) (pv 1) (fun _ _ => rfl)) rfl) (pe_gi rfl T.v_CURED) (nomark _)) (pss_one (ps_ret (pe_lst (pa_cons pe_int pa_nil)))) pss_nil)
        (pss_cons (ps_set (i := 2) sc_cured_in.nd rfl (Or.inl rfl) (pe_ix ix_lst (pe_fld (pe_call (ok_later T) (hr.mono (by decide)) rfl T.m_later T.F_later.kp T.b_later .nil pass0 (pa_cons (pv 0) (pa_cons (pe_gi rfl T.v_FARTHEST) pa_nil))) rfl) (pv 1) (fun _ _ => rfl)))
        (pss_cons (ps_if (pt_cmpR op_ne (pe_fld (pv 2) rfl) (pe_gi rfl T.v_CURED) (nomark _)) (pss_one (ps_ret (pe_lst (pa_cons (pe_gi rfl T.v_CANNOT_BE) pa_nil)))) pss_nil)
        (pss_one (ps_ret (pe_lst (pa_cons (pe_op op_sub (pe_fld (pv 2) rfl) (pe_fld (pv 0) rfl)) pa_nil)))))))), ?_⟩
    by_cases h1 : g < a.tyres.length
    · obtain ⟨rg, dg, e1, hG⟩ := R.tyre h1
      have a1 := at_ref e1
      rw [hd, if_neg (no_false h1)] at k
      simp! only [T.all, hq, hgl, List.length_map, R.ty.len, a1, hG]
      rw [if_neg (by omega)]
      by_cases h2 : (a.tyre g).how = 2
      · rw [cured_some (n := N + 1) (k := 0) (by omega) h2 (fun j hj => absurd hj (Nat.not_lt_zero _))] at k
        rw [if_pos (by omega)]
        exact lay_num R (Frame.refl _ _ _) k
      · rw [if_neg (by omega)]
        refine ⟨q, y, true, a, N, by rw [hN]; rfl, R, G, fun H1 q1 y1 R1 s1 => ?_⟩
        obtain ⟨d1, hq1⟩ := id R1.pl
        have hgl1 := R1.ty.lst
        have al := alike_goes G N
        obtain ⟨r1, dr1, e2, hG1⟩ := R1.tyre (p := g) (by rw [al.nG]; exact h1)
        have a2 := at_ref e2
        have hq' := s1 _ _ hq
        simp! only [T.all, hq1, hgl1, a2, hG1, hq']
        by_cases h3 : ((a.goes N).tyre g).how = 2
        · obtain ⟨n, hn, ha, hb, hc⟩ := goes_at G D g N h2 h3
          rw [cured_some (n := N + 1) (k := n) (by omega) hb hc] at k
          rw [if_neg (by omega), ha, show (((a.now_ + n : Nat) : Int) - ((a.now_ : Nat) : Int)) = (n : Int) by omega]
          refine ⟨size1, fun p hp => ?_⟩
          exact k.lay1 R s1 hp rfl rfl
        · have hno : ∀ j, j < N + 1 → ((a.goes j).tyre g).how ≠ 2 := fun j hj z => h3 (by
            have hj : j ≤ N := by omega
            have := goes_cured (G.goes j) g (N - j) z
            rw [← goes_add, show j + (N - j) = N by omega] at this
            exact this)
          rw [cured_none hno] at k
          rw [if_pos (by omega)]
          refine ⟨size1, fun p hp => ?_⟩
          exact k.lay1 R s1 hp rfl rfl
    · rw [hd, if_pos (decide_eq_false h1)] at k
      refine seqR fun N => ?_
      simp! only [T.all, hq, hgl, List.length_map, R.ty.len]
      rw [if_pos (by omega)]
      exact lay_no R k
def sp_ahead (K : PySem.W.Frag) (A : Adr) : Sp := fun vs H Q _ => ∃ (q : Addr) (y : Lay) (a : Su67.Abs) (n : Nat), vs = [.ref q, .int (n : Nat)] ∧ Rep A H q y true a ∧ Good a ∧ Told A q y H true (Su67.does a (.ahead n)) Q
theorem ok_ahead (T : Txt K mg A) : FnOk P w K mg base CX0 6 A.f_ahead A.d_ahead ["plant", "n"] (sp_ahead K A) := by
  refine T.F_ahead.ok sc_ahead (fun vs H Q E h => ?_) (fun cdv A' outer s H vs Q E hr h => ?_)
  · obtain ⟨q, y, a, n, rfl, _⟩ := h
    rfl
  · obtain ⟨q, y, a, n, rfl, R, G, k⟩ := h
    have hd : Su67.does a (.ahead n) = if n = 0 ∨ 500 < n then (a, Su67.no (-22)) else (a, Su67.num ((a.goes n).howMany 2 - a.howMany 2) [((List.range a.tyres.length).filter (a.goes n).old).length, ((List.range a.presses.length).filter fun p => ((a.goes n).press p).busy == 0).length]) := rfl
    refine ⟨_, (pss_cons (ps_if (PW.pt (pw_or (pt_cmpR op_lt (pv 1) pe_int (nomark _)) (pw_or1 (pt_cmpR op_gt (pv 1) (pe_gi rfl T.v_MOST_MINUTES) (nomark _))))) (pss_one (ps_ret (pe_lst (pa_cons (pe_gi rfl T.v_OUT_OF_RANGE) pa_nil)))) pss_nil)
        (pss_cons (ps_set (i := 2) sc_ahead.nd rfl (Or.inl rfl) (pe_call (ok_later T) (hr.mono (by decide)) rfl T.m_later T.F_later.kp T.b_later .nil pass0 (pa_cons (pv 0) (pa_cons (pv 1) pa_nil))))
        (pss_cons (ps_set (i := 3) sc_ahead.nd rfl (Or.inl rfl) (pe_op op_sub (pe_call (ok_count_at T) (hr.mono (by decide)) rfl T.m_count_at T.F_count_at.kp T.b_count_at .nil pass0 (pa_cons (pv 2) (pa_cons (pe_gi rfl T.v_CURED) pa_nil))) (pe_call (ok_count_at T) (hr.mono (by decide)) rfl T.m_count_at T.F_count_at.kp T.b_count_at .nil pass0 (pa_cons (pv 0) (pa_cons (pe_gi rfl T.v_CURED) pa_nil)))))
        (pss_cons (ps_setLc (i := 4) (own := [("press", 5)]) rfl sc_ahead.nd rfl rfl rfl (pi_list (pe_fld (pv 2) rfl)) (blkOk_by (by rfl)) (fun _ _ _ _ _ => (pg_name (i := 5) sc_ahead.nd rfl (Or.inl rfl))) (fun _ _ _ _ _ => (pts_one (pt_cmpR op_eq (pe_fldK (K := K) rfl (pv 5) rfl) pe_int (nomark _)))) (fun _ _ _ _ _ => (pv 5)))
        (pss_one (ps_ret (pe_lst (pa_cons (pv 3) (pa_cons (pe_callB call_lenL rfl T.u_len PySem.boot_len (pa_cons (pe_call (ok_old_tyres T) (hr.mono (by decide)) rfl T.m_old_tyres T.F_old_tyres.kp T.b_old_tyres .nil pass0 (pa_cons (pv 2) pa_nil)) pa_nil)) (pa_cons (pe_callB call_lenL rfl T.u_len PySem.boot_len (pa_cons (pv 4) pa_nil)) pa_nil)))))))))), ?_⟩
    by_cases h1 : n = 0 ∨ 500 < n
    · rw [hd, if_pos h1] at k
      refine seqR fun N => ?_
      simp! only [T.all]
      refine ite2 (fun _ => lay_no R k) (fun _ => ite2 (fun _ => lay_no R k) fun _ => ?_)
      omega
    · rw [hd, if_neg h1] at k
      refine seqG (σ' := [some (.ref q), some (.int (n : Nat)), none, none, none, none]) (H' := H) ?_ fun N hN => ?_
      · refine ⟨_, rfl, _, rfl, q, y, true, a, n, rfl, R, G, fun H1 q1 y1 R1 s1 => ?_⟩
        have G1 := G.goes n
        have al := alike_goes G n
        refine ⟨_, rfl, q1, y1, true, a.goes n, 2, rfl, R1, G1, fun H2 s2 => ?_⟩
        refine ⟨_, rfl, q, y, true, a, 2, rfl, R.same (s1.trans s2), G, fun H3 s3 => ?_⟩
        refine ⟨_, _, rfl, rfl, ?_⟩
        have R3 := (R1.same s2).same s3
        obtain ⟨d3, hq3⟩ := id R3.pl
        have hpl3 := R3.pr.lst
        first | refine lcGo ?_ | (simp only [gName, tNext, tSeq, tAsg, tRet, cxK]; refine lcGo ?_)
        refine ⟨_, rfl, q1, A.c_Plant, d3, _, _, rfl, hq3, T.cl_Plant, T.n_Plant_presses, rfl, y1.lp, rfl, ⟨_, SqL.of hpl3⟩, ?_⟩
        have h5 : y1.ap.length < sizeLine := by rw [R3.pr.len]; exact size60 (Nat.le_trans G1.nP (by decide))
        refine LcGo.objs (fun p => ((a.goes n).press p).busy == 0) (fun p => (y1.ap.map V.ref).getD p .non) (SqL.of hpl3) h5 ?_ ?_
        · intro D p r H' acc Nx hp s hD hacc hlen hno hyes
          have hp' : p < (a.goes n).presses.length := by rw [← R3.pr.len]; exact (List.getElem?_eq_some_iff.mp hp).1
          obtain ⟨r', dr, e1, hP⟩ := (R3.same s).press hp'
          cases hp.symm.trans e1
          have ev : (y1.ap.map V.ref).getD p .non = V.ref r := by rw [List.getD_eq_getElem?_getD, List.getElem?_map, hp]; rfl
          rw [ev] at hyes
          have hl := G1.pl p hp'
          refine ⟨rfl, ?_⟩
          simp! only [T.all, hP, wipe, hacc]
          refine ite2 (fun h1 => ⟨hlen, hyes ?_ H' (Same.refl _)⟩) fun h1 => hno ?_ H' (Same.refl _)
          · have := hl.mp (by omega)
            simp [this]
          · have : ¬ ((a.goes n).press p).busy = 0 := fun z => h1 (by have := hl.mpr z; omega)
            simp [this]
        · intro D H4 hD s4 hl4
          refine ⟨_, rfl, _, rfl, q1, y1, true, a.goes n, rfl, R3.same s4, G1, fun H5 l s5 hl hl5 => ?_⟩
          refine ⟨l, _, rfl, hl5, _, rfl, D, _, rfl, s5 _ _ hl4, Nat.le_of_lt (size60 (Nat.le_of_ble_eq_true rfl)), fun p hp => ?_⟩
          refine k.lay1 R ((((s1.trans s2).trans s3).trans s4).trans s5) hp rfl ?_
          have hle := howMany_le al fun g => goes_cured G g n
          show [V.int _, V.int _, V.int _] = [V.int (Int.ofNat _), V.int _, V.int _]
          rw [List.length_map, List.length_map, R3.pr.len, al.nP, al.nG]
          rw [show (((a.goes n).howMany 2 : Nat) : Int) - ((a.howMany 2 : Nat) : Int) = Int.ofNat ((a.goes n).howMany 2 - a.howMany 2) by rw [Int.ofNat_eq_natCast]; omega]
      · simp! only [T.all]
        rw [if_neg (by omega), if_neg (by omega)]
        exact hN
end
end
section
open PySem PySem.Spec PyProof.Rows L2
section
variable {P : Program} {w : World} {K : PySem.W.Frag} {mg : Str → Option Value} {base : Heap} {A : Adr}
/-! ### needs, span -/
def optV : Option Nat → V
  | none => .non
  | some n => .int (n : Int)
def spanBy (n k c : Nat) : Option Nat := if n = 0 then some 0 else if k = 0 then none else some ((n + k - 1) / k * c)
theorem span_by (a : Su67.Abs) (t k : Nat) : a.span t k = spanBy (a.waits t).length k (a.type_ t).cure := rfl
theorem cdiv {i j : Int} (h1 : 0 < j) (h2 : j < 1000) : CDiv i j := ⟨h1, by omega⟩
theorem cmul {i j : Int} (h1 : 0 ≤ i) (h2 : i ≤ 1000) : CMul i j := .inl ⟨by omega, by omega⟩
theorem div_mul (i k c : Nat) : (i : Int) / (k : Int) * (c : Int) = ((i / k * c : Nat) : Int) := by rw [Int.natCast_mul, Int.natCast_ediv]
def sp_begun_in_time (K : PySem.W.Frag) (A : Adr) : Sp := fun vs H Q _ => ∃ (q : Addr) (y : Lay) (b : Bool) (a : Su67.Abs) (t k : Nat), vs = [.ref q, .int (t : Nat), .int (k : Nat)] ∧ Rep A H q y b a ∧ Good a ∧ t < a.types.length ∧ 1 ≤ k ∧ k ≤ 5 ∧ ∀ H', Same H H' → Q (.bl (a.inTime t k)) H'
theorem ok_begun_in_time (T : Txt K mg A) : FnOk P w K mg base CX0 3 A.f_begun_in_time A.d_begun_in_time ["plant", "t", "k"] (sp_begun_in_time K A) := by
  refine T.F_begun_in_time.ok sc_begun_in_time (fun vs H Q E h => ?_) (fun cdv A' outer s H vs Q E hr h => ?_)
  · obtain ⟨q, y, b, a, t, k, rfl, _⟩ := h
    rfl
  · obtain ⟨q, y, b, a, t, k, rfl, R, G, ht, hk1, hk5, kk⟩ := h
    obtain ⟨dx, hq⟩ := id R.pl
    have hkl := R.ki.lst
    obtain ⟨rk, dk, e2, hk⟩ := R.type_ ht
    have hat := at_ref e2
    refine ⟨_, (pss_cons (ps_set (i := 3) sc_begun_in_time.nd rfl (Or.inl rfl) (pe_ix ix_lst (pe_fld (pv 0) rfl) (pv 1) (fun _ _ => rfl)))
        (pss_cons (ps_for PassesOwn.never rfl (pi_enum rfl T.u_enumerate (pa_cons (pe_call (ok_ready_tyres T) (hr.mono (by decide)) rfl T.m_ready_tyres T.F_ready_tyres.kp T.b_ready_tyres .nil pass0 (pa_cons (pv 0) (pa_cons (pv 1) pa_nil))) pa_nil)) (pg_tup (n := 2) rfl (pgs_cons (pg_name (i := 4) sc_begun_in_time.nd rfl (Or.inl rfl)) (pgs_cons (pg_name (i := 5) sc_begun_in_time.nd rfl (Or.inl rfl)) pgs_nil))) (pss_cons (ps_set (i := 6) sc_begun_in_time.nd rfl (Or.inl rfl) (pe_op op_add (pe_fld (pv 0) rfl) (pe_op op_mul (pe_op op_fdiv (pv 4) (pv 2)) (pe_fld (pv 3) rfl))))
        (pss_one (ps_if (pt_cmpR op_gt (pe_op op_sub (pv 6) (pe_fld (pe_ix ix_lst (pe_fld (pv 0) rfl) (pv 5) (fun _ _ => rfl)) rfl)) (pe_fld (pv 3) rfl) (nomark _)) (pss_one (ps_ret pe_bl)) pss_nil))))
        (pss_one (ps_ret pe_bl)))), ?_⟩
    refine ⟨_, rfl, q, A.c_Plant, dx, _, _, rfl, hq, T.cl_Plant, T.n_Plant_kinds, rfl, _, rfl, y.lk, _, _, _, rfl, rfl, hkl, hat, ?_⟩
    refine ⟨_, rfl, _, rfl, q, y, b, a, t, rfl, R, G, fun H1 l s1 hl hl1 => ⟨l, _, rfl, SqL.of hl1, ?_⟩⟩
    refine for_enum (xs := (a.waits t).map natV) (fun i σ H' => ∃ v4 v5 v6 : Option V, σ = [some (.ref q), some (.int (t : Nat)), some (.int (k : Nat)), some (.ref rk), v4, v5, v6] ∧ Same H1 H' ∧ soFar a t k i = true) ⟨none, none, none, rfl, Same.refl _, rfl⟩ (fun i σ H' _ h => by obtain ⟨_, _, _, _, s', _⟩ := h; exact SqL.of (s' _ _ hl1)) ?_ ?_
    · rintro i x σ H2 H' hx ⟨v4, v5, v6, rfl, s2, hf⟩ s3
      have s' := s2.trans s3
      obtain ⟨g, hg, rfl⟩ : ∃ g, (a.waits t)[i]? = some g ∧ natV g = x := by
        rw [List.getElem?_map] at hx
        cases e : (a.waits t)[i]? with
        | none => rw [e] at hx; cases hx
        | some z => rw [e] at hx; exact ⟨z, rfl, Option.some.inj hx⟩
      have hi : i < (a.waits t).length := (List.getElem?_eq_some_iff.mp hg).1
      have h60 := G.nG
      have hwl := waits_len a t
      have hg' : g < a.tyres.length := by
        have := List.mem_of_getElem? hg
        unfold Su67.Abs.waits at this
        exact List.mem_range.mp (List.mem_filter.mp this).1
      have hgd : (a.waits t).getD i 0 = g := by rw [List.getD_eq_getElem?_getD, hg]; rfl
      have R' := R.same (s1.trans s')
      obtain ⟨d', hq'⟩ := id R'.pl
      have hgl' := R'.ty.lst
      have hk' := (s1.trans s') _ _ hk
      obtain ⟨rg, dg, e3, hG⟩ := R'.tyre hg'
      have a3 := at_ref e3
      simp! only [T.all, rI, natV, hq', hgl', hk', a3, hG]
      have hdv : (i : Int) / (k : Int) ≤ 1000 := by
        rw [← Int.natCast_ediv]
        exact (Int.ofNat_le (m := i / k) (n := 1000)).mpr (Nat.le_trans (Nat.div_le_self i k) (by omega))
      have hdn : (0 : Int) ≤ (i : Int) / (k : Int) := by rw [← Int.natCast_ediv]; exact Int.natCast_nonneg _
      refine ⟨cdiv (by omega) (by omega), cmul hdn hdv, ?_⟩
      have es := soFar_succ a t k i
      rw [hf, hgd, Bool.true_and] at es
      rw [div_mul]
      generalize i / k * (a.type_ t).cure = m at es ⊢
      refine ite2 (fun h1 => ?_) fun h1 => ?_
      · have hz : soFar a t k (i + 1) = false := by rw [es]; exact decide_eq_false (by omega)
        have hz2 : a.inTime t k = false := soFar_stop a t k (n := (a.waits t).length) hi hz
        have := kk H' (s1.trans s')
        rw [hz2] at this
        exact this
      · exact ⟨s', by rw [es]; exact decide_eq_true (by omega)⟩
    · rintro σ H' ⟨v4, v5, v6, rfl, s', hf⟩
      rw [List.length_map] at hf
      have hz : a.inTime t k = true := hf
      have := kk H' (s1.trans s')
      rw [hz] at this
      exact this
def sp_needs (K : PySem.W.Frag) (A : Adr) : Sp := fun vs H Q _ => ∃ (q : Addr) (y : Lay) (a : Su67.Abs) (t : Nat), vs = [.ref q, .int (t : Nat)] ∧ Rep A H q y true a ∧ Good a ∧ Told A q y H true (Su67.does a (.needs t)) Q
theorem ok_needs (T : Txt K mg A) : FnOk P w K mg base CX0 4 A.f_needs A.d_needs ["plant", "t"] (sp_needs K A) := by
  refine T.F_needs.ok sc_needs (fun vs H Q E h => ?_) (fun cdv A' outer s H vs Q E hr h => ?_)
  · obtain ⟨q, y, a, t, rfl, _⟩ := h
    rfl
  · obtain ⟨q, y, a, t, rfl, R, G, k⟩ := h
    obtain ⟨dx, hq⟩ := id R.pl
    have hkl := R.ki.lst
    have hd : Su67.does a (.needs t) = if decide (t < a.types.length) = false then (a, Su67.no (-2)) else (match a.needs t with
      | none => (a, Su67.no (-33))
      | some n => (a, Su67.num n [])) := rfl
    refine ⟨_, (pss_cons (ps_if (pt_cmpR op_ge (pv 1) (pe_callB call_lenL rfl T.u_len PySem.boot_len (pa_cons (pe_fld (pv 0) rfl) pa_nil)) (nomark _)) (pss_one (ps_ret (pe_lst (pa_cons (pe_gi rfl T.v_NONE_SUCH) pa_nil)))) pss_nil)
        (pss_cons (ps_for PassesOwn.never rfl (pi_range2 rfl T.u_range (pa_cons pe_int (pa_cons (pe_op op_add (pe_gi rfl T.v_MOST_PRESSES) pe_int) pa_nil))) (pg_name (i := 2) sc_needs.nd rfl (Or.inl rfl)) (pss_one (ps_if (pt_val (pe_call (ok_begun_in_time T) (hr.mono (by decide)) rfl T.m_begun_in_time T.F_begun_in_time.kp T.b_begun_in_time .nil pass0 (pa_cons (pv 0) (pa_cons (pv 1) (pa_cons (pv 2) pa_nil))))) (pss_one (ps_ret (pe_lst (pa_cons (pv 2) pa_nil)))) pss_nil)))
        (pss_one (ps_ret (pe_lst (pa_cons (pe_gi rfl T.v_CANNOT_BE) pa_nil)))))), ?_⟩
    by_cases h1 : t < a.types.length
    · rw [hd, if_neg (no_false h1)] at k
      refine seqG (σ' := [some (.ref q), some (.int (t : Nat)), none]) (H' := H) ?_ fun N hN => ?_
      · refine ⟨_, _, rfl, rfl, 1, 6, rfl, ⟨by decide, by decide, by decide, by decide⟩, ?_⟩
        refine for_range (lo := 1) (n := 5) (fun i σ H' => ∃ v2 : Option V, σ = [some (.ref q), some (.int (t : Nat)), v2] ∧ Same H H' ∧ ∀ j, j < i → a.inTime t (1 + j) = false) ⟨none, rfl, Same.refl _, fun j hj => absurd hj (Nat.not_lt_zero _)⟩ ?_ ?_
        · rintro i σ H' hi ⟨v2, rfl, s', hb⟩
          refine ⟨_, rfl, _, rfl, _, rfl, q, y, true, a, t, 1 + i, rfl, R.same s', G, h1, by omega, by omega, fun H2 s2 => ⟨_, rfl, ite2 (fun h2 => ?_) fun h2 => ?_⟩⟩
          · rw [needs_some hi h2 hb] at k
            refine ⟨_, rfl, size1, fun p hp => ?_⟩
            exact k.lay1 R (s'.trans s2) hp rfl rfl
          · refine ⟨_, rfl, s'.trans s2, fun j hj => ?_⟩
            by_cases e : j = i
            · rw [e]; exact Bool.eq_false_iff.mpr h2
            · exact hb j (by omega)
        · rintro σ H' ⟨v2, rfl, s', hb⟩
          rw [needs_none hb] at k
          refine ⟨size1, fun p hp => ?_⟩
          exact k.lay1 R s' hp rfl rfl
      · simp! only [T.all, hq, hkl, List.length_map, R.ki.len]
        rw [if_neg (by omega)]
        exact hN
    · rw [hd, if_pos (decide_eq_false h1)] at k
      refine seqR fun N => ?_
      simp! only [T.all, hq, hkl, List.length_map, R.ki.len]
      rw [if_pos (by omega)]
      exact lay_no R k
def sp_time_by (K : PySem.W.Frag) (A : Adr) : Sp := fun vs H Q _ => ∃ (k n c : Nat), vs = [.int (k : Nat), .int (n : Nat), .int (c : Nat)] ∧ k ≤ 5 ∧ n ≤ 60 ∧ Q (optV (spanBy n k c)) H
theorem ok_time_by (T : Txt K mg A) : FnOk P w K mg base CX0 1 A.f_time_by A.d_time_by ["k", "many", "cure"] (sp_time_by K A) := by
  refine T.F_time_by.ok sc_time_by (fun vs H Q E h => ?_) (fun cdv A' outer s H vs Q E hr h => ?_)
  · obtain ⟨k, n, c, rfl, _⟩ := h
    rfl
  · obtain ⟨k, n, c, rfl, hk, hn, kk⟩ := h
    refine ⟨_, (pss_cons (ps_if (pt_cmpR op_eq (pv 1) pe_int (nomark _)) (pss_one (ps_ret pe_int)) pss_nil)
        (pss_cons (ps_if (pt_cmpR op_eq (pv 0) pe_int (nomark _)) (pss_one (ps_ret pe_non)) pss_nil)
        (pss_one (ps_ret (pe_op op_mul (pe_op op_fdiv (pe_op op_sub (pe_op op_add (pv 1) (pv 0)) pe_int) (pv 0)) (pv 2)))))), ?_⟩
    simp! only [T.all, rI]
    unfold spanBy at kk
    by_cases h0 : n = 0
    · rw [if_pos h0] at kk
      rw [if_pos (by omega)]
      exact kk
    · rw [if_neg h0] at kk
      rw [if_neg (by omega)]
      by_cases h1 : k = 0
      · rw [if_pos h1] at kk
        rw [if_pos (by omega)]
        exact kk
      · rw [if_neg h1] at kk
        rw [if_neg (by omega)]
        have e : ((n : Int) + (k : Int) - 1) = ((n + k - 1 : Nat) : Int) := by omega
        rw [e, div_mul]
        refine ⟨cdiv (by omega) (by omega), cmul ?_ ?_, kk⟩
        · rw [← Int.natCast_ediv]; exact Int.natCast_nonneg _
        · rw [← Int.natCast_ediv]
          exact (Int.ofNat_le (m := (n + k - 1) / k) (n := 1000)).mpr (Nat.le_trans (Nat.div_le_self (n + k - 1) k) (by omega))
def sp_span (K : PySem.W.Frag) (A : Adr) : Sp := fun vs H Q _ => ∃ (q : Addr) (y : Lay) (a : Su67.Abs) (t k : Nat), vs = [.ref q, .int (t : Nat), .int (k : Nat)] ∧ Rep A H q y true a ∧ Good a ∧ Told A q y H true (Su67.does a (.span t k)) Q
theorem ok_span (T : Txt K mg A) : FnOk P w K mg base CX0 3 A.f_span A.d_span ["plant", "t", "k"] (sp_span K A) := by
  refine T.F_span.ok sc_span (fun vs H Q E h => ?_) (fun cdv A' outer s H vs Q E hr h => ?_)
  · obtain ⟨q, y, a, t, k, rfl, _⟩ := h
    rfl
  · obtain ⟨q, y, a, t, n, rfl, R, G, k⟩ := h
    obtain ⟨dx, hq⟩ := id R.pl
    have hkl := R.ki.lst
    have hd : Su67.does a (.span t n) = if decide (t < a.types.length) = false then (a, Su67.no (-2)) else if 5 < n then (a, Su67.no (-22)) else (match a.span t n with
      | none => (a, Su67.no (-33))
      | some n => (a, Su67.num n [])) := rfl
    refine ⟨_, (pss_cons (ps_if (pt_cmpR op_ge (pv 1) (pe_callB call_lenL rfl T.u_len PySem.boot_len (pa_cons (pe_fld (pv 0) rfl) pa_nil)) (nomark _)) (pss_one (ps_ret (pe_lst (pa_cons (pe_gi rfl T.v_NONE_SUCH) pa_nil)))) pss_nil)
        (pss_cons (ps_if (pt_cmpR op_gt (pv 2) (pe_gi rfl T.v_MOST_PRESSES) (nomark _)) (pss_one (ps_ret (pe_lst (pa_cons (pe_gi rfl T.v_OUT_OF_RANGE) pa_nil)))) pss_nil)
        (pss_cons (ps_set (i := 3) sc_span.nd rfl (Or.inl rfl) (pe_call (ok_time_by T) (hr.mono (by decide)) rfl T.m_time_by T.F_time_by.kp T.b_time_by .nil pass0 (pa_cons (pv 2) (pa_cons (pe_callB call_lenL rfl T.u_len PySem.boot_len (pa_cons (pe_call (ok_ready_tyres T) (hr.mono (by decide)) rfl T.m_ready_tyres T.F_ready_tyres.kp T.b_ready_tyres .nil pass0 (pa_cons (pv 0) (pa_cons (pv 1) pa_nil))) pa_nil)) (pa_cons (pe_fld (pe_ix ix_lst (pe_fld (pv 0) rfl) (pv 1) (fun _ _ => rfl)) rfl) pa_nil)))))
        (pss_cons (ps_if (pt_cmpR op_isN (pv 3) pe_non (nomark _)) (pss_one (ps_ret (pe_lst (pa_cons (pe_gi rfl T.v_CANNOT_BE) pa_nil)))) pss_nil)
        (pss_one (ps_ret (pe_lst (pa_cons (pv 3) pa_nil)))))))), ?_⟩
    by_cases h1 : t < a.types.length
    · rw [hd, if_neg (no_false h1)] at k
      obtain ⟨rk, dk, e2, hk⟩ := R.type_ h1
      have hat := at_ref e2
      simp! only [T.all, hq, hkl, List.length_map, R.ki.len, hat, hk]
      rw [if_neg (by omega)]
      by_cases h2 : 5 < n
      · rw [if_pos h2] at k
        rw [if_pos (by omega)]
        exact lay_no R k
      · rw [if_neg h2] at k
        rw [if_neg (by omega)]
        refine ⟨q, y, true, a, t, rfl, R, G, fun H1 l s1 hl hl1 => ?_⟩
        have hq1 := s1 _ _ hq
        have hkl1 := s1 _ _ hkl
        have hk1 := s1 _ _ hk
        simp! only [T.all, hl1, hq1, hkl1, List.length_map, hat, hk1]
        have h60 := G.nG
        have hwl := waits_len a t
        refine ⟨n, (a.waits t).length, (a.type_ t).cure, rfl, by omega, by omega, ?_⟩
        rw [span_by] at k
        cases hs : spanBy (a.waits t).length n (a.type_ t).cure with
        | none =>
          rw [hs] at k
          simp! only [T.all, optV, decide_true]
          exact ⟨size1, fun p hp => k.lay1 R s1 hp rfl rfl⟩
        | some m =>
          rw [hs] at k
          simp! only [T.all, optV, decide_false]
          exact ⟨size1, fun p hp => k.lay1 R s1 hp rfl rfl⟩
    · rw [hd, if_pos (decide_eq_false h1)] at k
      refine seqR fun N => ?_
      simp! only [T.all, hq, hkl, List.length_map, R.ki.len]
      rw [if_pos (by omega)]
      exact lay_no R k
end
end
section
open PySem PySem.Spec PyProof.Rows L2
section
variable {P : Program} {w : World} {K : PySem.W.Frag} {mg : Str → Option Value} {base : Heap} {A : Adr}
theorem moulds_range (a : Su67.Abs) : a.moulds = (List.range a.moulds.length).map a.mould := by
  refine List.ext_getElem? fun i => ?_
  rw [List.getElem?_map]
  by_cases h : i < a.moulds.length
  · rw [List.getElem?_range h, get_mould h]; rfl
  · rw [List.getElem?_eq_none (by omega), List.getElem?_eq_none (by rw [List.length_range]; omega)]; rfl
theorem owned_range (a : Su67.Abs) (t : Nat) : a.owned t = ((List.range a.moulds.length).filter fun m => (a.mould m).type_ == t).length := by
  unfold Su67.Abs.owned
  have e := moulds_range a
  generalize a.mould = f at e ⊢
  generalize a.moulds.length = n at e ⊢
  rw [e, List.filter_map, List.length_map]
  rfl
def sp_count_moulds (K : PySem.W.Frag) (A : Adr) : Sp := fun vs H Q _ => ∃ (q : Addr) (y : Lay) (b : Bool) (a : Su67.Abs) (t : Nat), vs = [.ref q, .int (t : Nat)] ∧ Rep A H q y b a ∧ Good a ∧ ∀ H', Same H H' → Q (.int (a.owned t : Nat)) H'
theorem ok_count_moulds (T : Txt K mg A) : FnOk P w K mg base CX0 1 A.f_count_moulds A.d_count_moulds ["plant", "t"] (sp_count_moulds K A) := by
  refine T.F_count_moulds.ok sc_count_moulds (fun vs H Q E h => ?_) (fun cdv A' outer s H vs Q E hr h => ?_)
  · obtain ⟨q, y, b, a, t, rfl, _⟩ := h
    rfl
  · obtain ⟨q, y, b, a, t, rfl, R, G, k⟩ := h
    obtain ⟨dx, hq⟩ := id R.pl
    have hml := R.mo.lst
    have h60 : y.am.length < sizeLine := by rw [R.mo.len]; exact size60 (Nat.le_trans G.nM (by decide))
    refine ⟨_, (pss_one (ps_ret (pe_callB call_lenL rfl T.u_len PySem.boot_len (pa_cons (pe_lc (own := [("mould", 2)]) rfl sc_count_moulds.nd (pi_list (pe_fld (pv 0) rfl)) (blkOk_by (by rfl)) (fun _ _ _ _ _ => (pg_name (i := 2) sc_count_moulds.nd rfl (Or.inl rfl))) (fun _ _ _ _ _ => (pts_one (pt_cmpR op_eq (pe_fldK (K := K) rfl (pv 2) rfl) (pv 1) (nomark _)))) (fun _ _ _ _ _ => (pv 2))) pa_nil)))), ?_⟩
    simp only [tRet, tCB, tCons, tNil, cxK]
    refine lcT_objs (fun m => (a.mould m).type_ == t) (fun m => (y.am.map V.ref).getD m .non) ?_ (SqL.of hml) h60 ?_ ?_
    · exact fun Rr hR => ⟨_, rfl, q, A.c_Plant, dx, _, _, rfl, hq, T.cl_Plant, T.n_Plant_moulds, rfl, _, rfl, ⟨_, SqL.of hml⟩, hR⟩
    · intro D m r H' acc Nx hm s hD hacc hlen hno hyes
      have hm' : m < a.moulds.length := by rw [← R.mo.len]; exact (List.getElem?_eq_some_iff.mp hm).1
      obtain ⟨r', dr, e1, hH⟩ := (R.same s).mould hm'
      cases hm.symm.trans e1
      have ev : (y.am.map V.ref).getD m .non = V.ref r := by rw [List.getD_eq_getElem?_getD, List.getElem?_map, hm]; rfl
      rw [ev] at hyes
      refine ⟨rfl, ?_⟩
      simp! only [T.all, hH, wipe, hacc]
      refine ite2 (fun h1 => ⟨hlen, hyes (by simp; omega) H' (Same.refl _)⟩) fun h1 => hno (by simp; omega) H' (Same.refl _)
    · intro D H' hD s hl
      refine ⟨D, _, rfl, hl, ?_⟩
      rw [List.length_map, R.mo.len, ← owned_range]
      exact k H' s
/-- a list of lists of numbers: where they stand -/
structure LL (H : Hp) (l : Addr) (ps : List Addr) (ws : List (List Nat)) : Prop where
  lst : H l = some (.lst (ps.map V.ref))
  len : ps.length = ws.length
  at_ : ∀ (j : Nat) (r : Addr) (w : List Nat), ps[j]? = some r → ws[j]? = some w → r ≠ l ∧ H r = some (.lst (w.map natV))
theorem LL.same {H H' : Hp} {l : Addr} {ps : List Addr} {ws : List (List Nat)} (L : LL H l ps ws) (s : Same H H') : LL H' l ps ws :=
  ⟨s _ _ L.lst, L.len, fun j r w e1 e2 => let ⟨h1, h2⟩ := L.at_ j r w e1 e2; ⟨h1, s _ _ h2⟩⟩
theorem LL.push {H H' : Hp} {l r : Addr} {ps : List Addr} {ws : List (List Nat)} {w : List Nat} (L : LL H l ps ws) (s : Same H H') (hr : H' r = some (.lst (w.map natV))) (hn : r ≠ l) : LL (upd H' l (.lst (ps.map V.ref ++ [V.ref r]))) l (ps ++ [r]) (ws ++ [w]) := by
  refine ⟨by rw [upd_same, List.map_append]; rfl, by rw [List.length_append, List.length_append, L.len]; rfl, fun j r' w' e1 e2 => ?_⟩
  by_cases hj : j < ps.length
  · rw [List.getElem?_append_left hj] at e1
    rw [List.getElem?_append_left (by rw [← L.len]; exact hj)] at e2
    obtain ⟨h1, h2⟩ := L.at_ j r' w' e1 e2
    exact ⟨h1, by rw [upd_ne h1]; exact s _ _ h2⟩
  · rw [List.getElem?_append_right (by omega)] at e1
    rw [List.getElem?_append_right (by rw [← L.len]; omega), ← L.len] at e2
    have hz : j - ps.length = 0 := by
      rcases Nat.eq_zero_or_pos (j - ps.length) with q | q
      · exact q
      · rw [List.getElem?_eq_none (by simp; omega)] at e1; cases e1
    rw [hz] at e1 e2
    have er : r = r' := Option.some.inj e1
    have ew : w = w' := Option.some.inj e2
    subst er; subst ew
    exact ⟨hn, by rw [upd_ne hn]; exact hr⟩
theorem LL.get {H : Hp} {l : Addr} {ps : List Addr} {ws : List (List Nat)} (L : LL H l ps ws) {j : Nat} {r : Addr} (e : ps[j]? = some r) : ∃ w, ws[j]? = some w ∧ H r = some (.lst (w.map natV)) := by
  have hj : j < ws.length := by rw [← L.len]; exact (List.getElem?_eq_some_iff.mp e).1
  exact ⟨_, List.getElem?_eq_getElem hj, (L.at_ j r _ e (List.getElem?_eq_getElem hj)).2⟩
theorem sum_nat : ∀ w : List Nat, (w.map fun k : Nat => (k : Int)).sum = ((w.sum : Nat) : Int)
  | [] => rfl
  | k :: w => by rw [List.map_cons, List.sum_cons, List.sum_cons, sum_nat w]; omega
theorem flat_snoc {α β : Type} (f : α → List β) (l : List α) (x : α) : (l ++ [x]).flatMap f = l.flatMap f ++ f x := by
  rw [List.flatMap_append, List.flatMap_cons, List.flatMap_nil, List.append_nil]
theorem pow_small {n i : Nat} (h : i ≤ 5) (hn : n ≤ 6 ^ i) : n ≤ 7776 := Nat.le_trans hn (Nat.le_trans (Nat.pow_le_pow_right (by decide) h) (by decide))
theorem size_8k {n : Nat} (h : n ≤ 10000) : n < sizeLine := Nat.lt_of_le_of_lt h (by decide)
/-- all that the list grows to is no longer than what is to come of it -/
theorem take_flat_len {α β : Type} (f : α → List β) (l : List α) (j : Nat) : ((l.take j).flatMap f).length ≤ (l.flatMap f).length := by
  have e : l.flatMap f = (l.take j).flatMap f ++ (l.drop j).flatMap f := by rw [← List.flatMap_append, List.take_append_drop]
  rw [e, List.length_append]
  omega
def sp_ways_to_share (K : PySem.W.Frag) (A : Adr) : Sp := fun vs H Q _ => ∃ (q : Addr) (y : Lay) (b : Bool) (a : Su67.Abs), vs = [.ref q] ∧ Rep A H q y b a ∧ Good a ∧ ∀ H' p ps, Same H H' → LL H' p ps (a.ways 0 a.types.length a.presses.length) → Q (.ref p) H'
theorem ok_ways_to_share (T : Txt K mg A) : FnOk P w K mg base CX0 2 A.f_ways_to_share A.d_ways_to_share ["plant"] (sp_ways_to_share K A) := by
  refine T.F_ways_to_share.ok sc_ways_to_share (fun vs H Q E h => ?_) (fun cdv A' outer s H vs Q E hr h => ?_)
  · obtain ⟨q, y, b, a, rfl, _⟩ := h
    rfl
  · obtain ⟨q, y, b, a, rfl, R, G, kk⟩ := h
    obtain ⟨dx, hq⟩ := id R.pl
    have hkl := R.ki.lst
    refine ⟨_, (pss_cons (ps_set (i := 1) sc_ways_to_share.nd rfl (Or.inl rfl) (pe_lst (pa_cons (pe_lst pa_nil) pa_nil)))
        (pss_cons (ps_for PassesOwn.never rfl (pi_range1 rfl T.u_range (pa_cons (pe_callB call_lenL rfl T.u_len PySem.boot_len (pa_cons (pe_fld (pv 0) rfl) pa_nil)) pa_nil)) (pg_name (i := 2) sc_ways_to_share.nd rfl (Or.inl rfl)) (pss_cons (ps_set (i := 3) sc_ways_to_share.nd rfl (Or.inl rfl) (pe_call (ok_count_moulds T) (hr.mono (by decide)) rfl T.m_count_moulds T.F_count_moulds.kp T.b_count_moulds .nil pass0 (pa_cons (pv 0) (pa_cons (pv 2) pa_nil))))
        (pss_cons (ps_set (i := 4) sc_ways_to_share.nd rfl (Or.inl rfl) (pe_lst pa_nil))
        (pss_cons (ps_for PassesOwn.never rfl (pi_list (pv 1)) (pg_name (i := 5) sc_ways_to_share.nd rfl (Or.inl rfl)) (pss_cons (ps_set (i := 6) sc_ways_to_share.nd rfl (Or.inl rfl) (pe_callB (call_min2 rfl) rfl T.u_min PyProof.Rows.boot_min (pa_cons (pv 3) (pa_cons (pe_op op_sub (pe_callB call_lenL rfl T.u_len PySem.boot_len (pa_cons (pe_fld (pv 0) rfl) pa_nil)) (pe_callB (cr_sum rfl) rfl T.u_sum PyProof.Rows.boot_sum (pa_cons (pv 5) pa_nil))) pa_nil))))
        (pss_one (ps_for PassesOwn.never rfl (pi_range1 rfl T.u_range (pa_cons (pe_op op_add (pv 6) pe_int) pa_nil)) (pg_name (i := 7) sc_ways_to_share.nd rfl (Or.inl rfl)) (pss_one (ps_expr (pe_bm PySem.F.plainAttrs_list PySem.F.slot_list_append PySem.F.type_list_append mt_append (pv 4) (pa_cons (pe_op op_cat (pv 5) (pe_lst (pa_cons (pv 7) pa_nil))) pa_nil))))))))
        (pss_one (ps_set (i := 1) sc_ways_to_share.nd rfl (Or.inl rfl) (pv 4)))))))
        (pss_one (ps_ret (pv 1))))), ?_⟩
    refine ⟨Nat.zero_le _, fun l0 hl0 => ⟨size1, fun l1 hl1 => ?_⟩⟩
    have s0 : Same H (upd H l0 (.lst [])) := same_new hl0
    have s1 := s0.trans (same_new (o := .lst [V.ref l0]) hl1)
    have n01 : l0 ≠ l1 := ne_of_none upd_same hl1
    refine ⟨_, rfl, q, A.c_Plant, dx, _, _, rfl, s1 _ _ hq, T.cl_Plant, T.n_Plant_kinds, rfl, y.lk, _, rfl, s1 _ _ hkl, _, rfl, ?_, ?_, ?_⟩
    · rw [List.length_map, R.ki.len]; have := G.nT; omega
    · rw [List.length_map, R.ki.len]; have := G.nT; omega
    refine for_range (lo := 0) (n := (y.ak.map V.ref).length) (fun i σ H' => ∃ (l : Addr) (ps : List Addr) (v2 v3 v4 v5 v6 v7 : Option V), σ = [some (.ref q), some (.ref l), v2, v3, v4, v5, v6, v7] ∧ Same H H' ∧ LL H' l ps (a.ways 0 i a.presses.length)) ?_ ?_ ?_
    · refine ⟨l1, [l0], _, _, _, _, _, _, rfl, s1, ⟨upd_same, rfl, fun j r w e1 e2 => ?_⟩⟩
      match j, e1, e2 with
      | 0, e1, e2 =>
        have er : l0 = r := Option.some.inj e1
        have ew : [] = w := Option.some.inj e2
        subst er; subst ew
        exact ⟨n01, by rw [upd_ne n01]; exact upd_same⟩
      | j + 1, e1, e2 => simp at e1
    · rintro i σ H' hi ⟨l, ps, v2, v3, v4, v5, v6, v7, rfl, s', L⟩
      have hi : i < a.types.length := by rw [List.length_map, R.ki.len] at hi; exact hi
      have hT := G.nT
      have hP := G.nP
      refine ⟨_, rfl, _, rfl, q, y, b, a, i, by rw [Int.zero_add]; rfl, R.same s', G, fun H2 s2 => ?_⟩
      refine ⟨Nat.zero_le _, fun m hm => ?_⟩
      have L2 := (L.same s2).same (same_new (o := .lst []) hm)
      have S2 : Same H H2 := s'.trans s2
      refine ⟨_, rfl, l, rfl, ⟨_, SqL.of L2.lst⟩, ?_⟩
      have hlm : l ≠ m := ne_of_none (s2 _ _ L.lst) hm
      have hwl := pow_small (by omega) (ways_len a 0 a.presses.length hP (i + 1))
      rw [ways_wider, Nat.zero_add] at hwl
      refine for_list (xs := ps.map V.ref) (fun j σ H' => ∃ (ps2 : List Addr) (v5 v6 v7 : Option V), σ = [some (.ref q), some (.ref l), some (.int (0 + (i : Int))), some (.int (a.owned i : Nat)), some (.ref m), v5, v6, v7] ∧ Same H2 H' ∧ LL H' m ps2 (((a.ways 0 i a.presses.length).take j).flatMap (wider a i a.presses.length))) ?_ ?_ ?_ ?_
      · exact ⟨[], _, _, _, rfl, same_new hm, ⟨upd_same, rfl, fun j r w e1 _ => by simp at e1⟩⟩
      · rintro j σ H3 hj ⟨ps2, v5, v6, v7, rfl, s3, L3⟩
        exact SqL.of (s3 _ _ (s2 _ _ L.lst))
      · rintro j x σ H3 hx ⟨ps2, v5, v6, v7, rfl, s3, L3⟩
        obtain ⟨r, hr, rfl⟩ : ∃ r, ps[j]? = some r ∧ V.ref r = x := by
          rw [List.getElem?_map] at hx
          cases e : ps[j]? with
          | none => rw [e] at hx; cases hx
          | some z => rw [e] at hx; exact ⟨z, rfl, Option.some.inj hx⟩
        obtain ⟨w, hw, hrw⟩ := (L.same s2).get hr
        obtain ⟨hwn, hws⟩ := ways_fit a i 0 a.presses.length w (List.mem_of_getElem? hw)
        have S3 := S2.trans s3
        have hrw3 := s3 _ _ hrw
        have hq3 := S3 _ _ hq
        have hpl3 := S3 _ _ R.pr.lst
        have ho : a.owned i ≤ 8 := by
          rw [owned_range]
          exact Nat.le_trans (filter_len _ _) G.nM
        refine ⟨_, rfl, _, rfl, q, A.c_Plant, dx, _, _, rfl, hq3, T.cl_Plant, T.n_Plant_presses, rfl, y.lp, _, rfl, hpl3, _, rfl, r, w.map (fun k : Nat => (k : Int)), rfl, SqL.of (by rw [hrw3, List.map_map]; rfl), _, _, rfl, rfl, _, _, rfl, ?_⟩
        have em : (if (((y.ap.map V.ref).length : Nat) : Int) - (w.map fun k : Nat => (k : Int)).sum < ((a.owned i : Nat) : Int) then (((y.ap.map V.ref).length : Nat) : Int) - (w.map fun k : Nat => (k : Int)).sum else ((a.owned i : Nat) : Int)) = ((min (a.presses.length - w.sum) (a.owned i) : Nat) : Int) := by
          rw [sum_nat, List.length_map, R.pr.len]
          split <;> omega
        rw [em]
        have hmo : min (a.presses.length - w.sum) (a.owned i) ≤ 8 := by omega
        have ewd : wider a i a.presses.length w = (List.range (min (a.presses.length - w.sum) (a.owned i) + 1)).map fun k => w ++ [k] := rfl
        generalize min (a.presses.length - w.sum) (a.owned i) = mo at hmo ewd ⊢
        refine ⟨_, rfl, _, _, rfl, rfl, _, rfl, by omega, by omega, ?_⟩
        have etl : ((a.ways 0 i a.presses.length).take (j + 1)).flatMap (wider a i a.presses.length) = ((a.ways 0 i a.presses.length).take j).flatMap (wider a i a.presses.length) ++ (List.range (mo + 1)).map fun k => w ++ [k] := by
          rw [take_snoc hw, flat_snoc, ewd]
        have hjl := take_flat_len (wider a i a.presses.length) (a.ways 0 i a.presses.length) (j + 1)
        rw [etl, List.length_append, List.length_map, List.length_range] at hjl
        refine for_range (lo := 0) (n := mo + 1) (fun z σ H' => ∃ (ps3 : List Addr) (v7 : Option V), σ = [some (.ref q), some (.ref l), some (.int (0 + (i : Int))), some (.int (a.owned i : Nat)), some (.ref m), some (.ref r), some (.int (mo : Nat)), v7] ∧ Same H2 H' ∧ LL H' m ps3 (((a.ways 0 i a.presses.length).take j).flatMap (wider a i a.presses.length) ++ (List.range z).map fun k => w ++ [k])) ?_ ?_ ?_
        · exact ⟨ps2, _, rfl, s3, by rw [List.range_zero, List.map_nil, List.append_nil]; exact L3⟩
        · rintro z σ H4 hz ⟨ps3, v7', rfl, s4, L4⟩
          have hrw4 := s4 _ _ hrw
          have hl4 := L4.lst
          have hps : ps3.length ≤ 7776 := by
            rw [L4.len, List.length_append, List.length_map, List.length_range]
            omega
          refine ⟨_, rfl, .inl ⟨rfl, _, SqL.of hl4⟩, _, rfl, _, rfl, size1, fun g hg => ?_⟩
          have sg := same_new (o := .lst [V.int (0 + (z : Int))]) hg
          refine ⟨r, g, _, _, rfl, rfl, sg _ _ hrw4, upd_same, ?_, fun g2 hg2 => ?_⟩
          · rw [List.length_map, hwn]
            exact Nat.le_of_lt (size60 (by show i + 1 ≤ 60; omega))
          have sg2 := sg.trans (same_new (o := .lst (w.map natV ++ [V.int (0 + (z : Int))])) hg2)
          refine ⟨m, _, _, rfl, rfl, sg2 _ _ hl4, by rw [List.length_map]; exact size_8k (by omega), ?_⟩
          refine ⟨ps3 ++ [g2], _, rfl, ?_, ?_⟩
          · refine upd_same_of (s4.trans sg2) hm
          · have hn2 : g2 ≠ m := Ne.symm (ne_of_none (sg _ _ hl4) hg2)
            have := L4.push (w := w ++ [z]) sg2 (r := g2) (by rw [upd_same, List.map_append, Int.zero_add]; rfl) hn2
            rw [List.range_succ, List.map_append, ← List.append_assoc]
            exact this
        · rintro σ H4 ⟨ps3, v7', rfl, s4, L4⟩
          refine ⟨ps3, _, _, _, rfl, s4, ?_⟩
          rw [etl]
          exact L4
      · rintro σ H3 ⟨ps2, v5, v6, v7, rfl, s3, L3⟩
        rw [List.length_map, L.len, List.take_length] at L3
        refine ⟨_, rfl, m, ps2, _, _, _, _, _, _, rfl, S2.trans s3, ?_⟩
        rw [ways_wider, Nat.zero_add]
        exact L3
    · rintro σ H' ⟨l, ps, v2, v3, v4, v5, v6, v7, rfl, s', L⟩
      rw [List.length_map, R.ki.len] at L
      refine ⟨_, rfl, ?_⟩
      exact kk H' l ps s' L
end
end
section
open PySem PySem.Spec PyProof.Rows L2
section
variable {P : Program} {w : World} {K : PySem.W.Frag} {mg : Str → Option Value} {base : Heap} {A : Adr}
def sp_time_of_way (K : PySem.W.Frag) (A : Adr) : Sp := fun vs H Q _ => ∃ (q : Addr) (y : Lay) (b : Bool) (a : Su67.Abs) (lw lm : Addr) (w : List Nat), vs = [.ref q, .ref lw, .ref lm] ∧ Rep A H q y b a ∧ Good a ∧ H lw = some (.lst (w.map natV)) ∧ H lm = some (.lst ((List.range a.types.length).map fun t => natV (a.waits t).length)) ∧
  w.length = a.types.length ∧ (∀ k ∈ w, k ≤ 5) ∧ ∀ H', Same H H' → Q (optV (a.long w)) H'
theorem ok_time_of_way (T : Txt K mg A) : FnOk P w K mg base CX0 2 A.f_time_of_way A.d_time_of_way ["plant", "way", "many"] (sp_time_of_way K A) := by
  refine T.F_time_of_way.ok sc_time_of_way (fun vs H Q E h => ?_) (fun cdv A' outer s H vs Q E hr h => ?_)
  · obtain ⟨q, y, b, a, lw, lm, w, rfl, _⟩ := h
    rfl
  · obtain ⟨q, y, b, a, lw, lm, w, rfl, R, G, hw, hm, hn, h5, kk⟩ := h
    refine ⟨_, (pss_cons (ps_set (i := 3) sc_time_of_way.nd rfl (Or.inl rfl) pe_int)
        (pss_cons (ps_for PassesOwn.never rfl (pi_enum rfl T.u_enumerate (pa_cons (pv 1) pa_nil)) (pg_tup (n := 2) rfl (pgs_cons (pg_name (i := 4) sc_time_of_way.nd rfl (Or.inl rfl)) (pgs_cons (pg_name (i := 5) sc_time_of_way.nd rfl (Or.inl rfl)) pgs_nil))) (pss_cons (ps_set (i := 6) sc_time_of_way.nd rfl (Or.inl rfl) (pe_call (ok_time_by T) (hr.mono (by decide)) rfl T.m_time_by T.F_time_by.kp T.b_time_by .nil pass0 (pa_cons (pv 5) (pa_cons (pe_ix ix_lst (pv 2) (pv 4) (fun _ _ => rfl)) (pa_cons (pe_fld (pe_ix ix_lst (pe_fld (pv 0) rfl) (pv 4) (fun _ _ => rfl)) rfl) pa_nil)))))
        (pss_cons (ps_if (pt_cmpR op_isN (pv 6) pe_non (nomark _)) (pss_one (ps_ret pe_non)) pss_nil)
        (pss_one (ps_set (i := 3) sc_time_of_way.nd rfl (Or.inl rfl) (pe_callB (call_max2 rfl) rfl T.u_max PyProof.Rows.boot_max (pa_cons (pv 3) (pa_cons (pv 6) pa_nil))))))))
        (pss_one (ps_ret (pv 3))))), ?_⟩
    refine ⟨_, rfl, lw, _, rfl, SqL.of hw, ?_⟩
    refine for_enum (xs := w.map natV) (fun i σ H' => ∃ (x : Nat) (v4 v5 v6 : Option V), σ = [some (.ref q), some (.ref lw), some (.ref lm), some (.int (x : Nat)), v4, v5, v6] ∧ Same H H' ∧ longUp a w i = some x) ⟨0, _, _, _, rfl, Same.refl _, rfl⟩ (fun i σ H' _ h => by obtain ⟨_, _, _, _, _, s', _⟩ := h; exact SqL.of (s' _ _ hw)) ?_ ?_
    · rintro i v σ H2 H' hx ⟨x, v4, v5, v6, rfl, s2, hl⟩ s3
      have s' := s2.trans s3
      obtain ⟨k, hk, rfl⟩ : ∃ k, w[i]? = some k ∧ natV k = v := by
        rw [List.getElem?_map] at hx
        cases e : w[i]? with
        | none => rw [e] at hx; cases hx
        | some z => rw [e] at hx; exact ⟨z, rfl, Option.some.inj hx⟩
      have hi : i < w.length := (List.getElem?_eq_some_iff.mp hk).1
      have hk5 := h5 k (List.mem_of_getElem? hk)
      have hkd : w.getD i 0 = k := by rw [List.getD_eq_getElem?_getD, hk]; rfl
      have R' := R.same s'
      obtain ⟨d', hq'⟩ := id R'.pl
      have hkl' := R'.ki.lst
      obtain ⟨rk, dk, e2, hK⟩ := R'.type_ (p := i) (by omega)
      have hat := at_ref e2
      have hm' := s' _ _ hm
      have hmat : atI ((List.range a.types.length).map fun t => V.int ((a.waits t).length : Nat)) (i : Int) = some (V.int ((a.waits i).length : Nat)) := atI_nat (by rw [List.getElem?_map, List.getElem?_range (by omega)]; rfl)
      have h60 := G.nG
      have hwl := waits_len a i
      simp! only [T.all, hq', hkl', hm', hmat, hat, hK, natV]
      refine ⟨k, (a.waits i).length, (a.type_ i).cure, rfl, hk5, by omega, ?_⟩
      have es := longUp_succ a w i
      rw [hl] at es
      unfold longer1 at es
      rw [hkd, span_by] at es
      cases hs : spanBy (a.waits i).length k (a.type_ i).cure with
      | none =>
        rw [hs] at es
        simp! only [T.all, optV, decide_true, eq_self]
        have := kk H' s'
        rw [show a.long w = none from longUp_stop a w (n := w.length) hi es] at this
        exact this
      | some z =>
        rw [hs] at es
        simp! only [T.all, optV, decide_false]
        refine ⟨max x z, ?_, s', es⟩
        split <;> omega
    · rintro σ H' ⟨x, v4, v5, v6, rfl, s', hl⟩
      rw [List.length_map] at hl
      have := kk H' s'
      rw [show a.long w = some x from hl] at this
      exact ⟨_, rfl, this⟩
def sp_share (K : PySem.W.Frag) (A : Adr) : Sp := fun vs H Q _ => ∃ (q : Addr) (y : Lay) (a : Su67.Abs), vs = [.ref q] ∧ Rep A H q y true a ∧ Good a ∧ Told A q y H true (Su67.does a .share) Q
theorem filter_yes {α : Type} (l : List α) : l.filter (fun _ => true) = l := List.filter_eq_self.mpr fun _ _ => rfl
/-- the best so far: nothing, or a list that tells it and its time -/
def BestV (H : Hp) (s : Option (Nat × List Nat)) (v3 v4 : V) : Prop := match s with
  | none => v3 = .non ∧ v4 = .non
  | some b => ∃ r, v3 = .ref r ∧ v4 = .int (b.1 : Nat) ∧ H r = some (.lst (b.2.map natV))
theorem BestV.same {H H' : Hp} {s : Option (Nat × List Nat)} {v3 v4 : V} (h : BestV H s v3 v4) (e : Same H H') : BestV H' s v3 v4 := by
  cases s with
  | none => exact h
  | some b => obtain ⟨r, h1, h2, h3⟩ := h; exact ⟨r, h1, h2, e _ _ h3⟩
theorem fold_take {α β : Type} (f : β → α → β) (b : β) {l : List α} {j : Nat} {x : α} (h : l[j]? = some x) : (l.take (j + 1)).foldl f b = f ((l.take j).foldl f b) x := by
  rw [take_snoc h, List.foldl_append]
  rfl
theorem best_mem {a : Su67.Abs} : ∀ (l : List (List Nat)) (s : Option (Nat × List Nat)) (b : Nat × List Nat), l.foldl (bestOf a) s = some b → s = some b ∨ b.2 ∈ l
  | [], s, b, h => .inl h
  | w :: l, s, b, h => by
    rcases best_mem l _ b h with e | e
    · unfold bestOf at e
      cases hw : a.long w with
      | none => rw [hw] at e; exact .inl e
      | some n =>
        rw [hw] at e
        cases s with
        | none =>
          have : (n, w) = b := Option.some.inj e
          rw [← this]
          exact .inr (List.mem_cons_self ..)
        | some c =>
          simp only at e
          split at e
          · have : (n, w) = b := Option.some.inj e
            rw [← this]
            exact .inr (List.mem_cons_self ..)
          · exact .inl e
    · exact .inr (List.mem_cons_of_mem _ e)
theorem ok_share (T : Txt K mg A) : FnOk P w K mg base CX0 3 A.f_share A.d_share ["plant"] (sp_share K A) := by
  refine T.F_share.ok sc_share (fun vs H Q E h => ?_) (fun cdv A' outer s H vs Q E hr h => ?_)
  · obtain ⟨q, y, a, rfl, _⟩ := h
    rfl
  · obtain ⟨q, y, a, rfl, R, G, k⟩ := h
    obtain ⟨dx, hq⟩ := id R.pl
    have hkl := R.ki.lst
    have hd : Su67.does a .share = (match a.share with
      | none => (a, Su67.no (-33))
      | some x => (a, Su67.num x.1 x.2)) := rfl
    rw [hd, share_eq] at k
    have hT := G.nT
    have hP := G.nP
    refine ⟨_, (pss_cons (ps_setLc (i := 1) (own := [("t", 2)]) rfl sc_share.nd rfl rfl rfl (pi_range1 rfl T.u_range (pa_cons (pe_callB call_lenL rfl T.u_len PySem.boot_len (pa_cons (pe_fld (pv 0) rfl) pa_nil)) pa_nil)) (blkOk_by (by rfl)) (fun _ _ _ _ _ => (pg_name (i := 2) sc_share.nd rfl (Or.inl rfl))) (fun _ _ _ _ _ => pts_nil) (fun _ _ _ _ _ => (pe_callB call_lenL rfl T.u_len PySem.boot_len (pa_cons (pe_call (ok_ready_tyres T) (hr.mono (by decide)) rfl T.m_ready_tyres T.F_ready_tyres.kp T.b_ready_tyres .nil pass0 (pa_cons (pv 0) (pa_cons (pv 2) pa_nil))) pa_nil))))
        (pss_cons (ps_set (i := 3) sc_share.nd rfl (Or.inl rfl) pe_non)
        (pss_cons (ps_set (i := 4) sc_share.nd rfl (Or.inl rfl) pe_non)
        (pss_cons (ps_for PassesOwn.never rfl (pi_list (pe_call (ok_ways_to_share T) (hr.mono (by decide)) rfl T.m_ways_to_share T.F_ways_to_share.kp T.b_ways_to_share .nil pass0 (pa_cons (pv 0) pa_nil))) (pg_name (i := 5) sc_share.nd rfl (Or.inl rfl)) (pss_cons (ps_set (i := 6) sc_share.nd rfl (Or.inl rfl) (pe_call (ok_time_of_way T) (hr.mono (by decide)) rfl T.m_time_of_way T.F_time_of_way.kp T.b_time_of_way .nil pass0 (pa_cons (pv 0) (pa_cons (pv 5) (pa_cons (pv 1) pa_nil)))))
        (pss_one (ps_if (PW.pt (pw_and (pt_cmpR op_notN (pv 6) pe_non (nomark _)) (pw_and1 (PW.pt (pw_or (pt_cmpR op_isN (pv 4) pe_non (nomark _)) (pw_or1 (pt_cmpR op_lt (pv 6) (pv 4) (nomark _)))))))) (pss_cons (ps_set (i := 3) sc_share.nd rfl (Or.inl rfl) (pv 5))
        (pss_one (ps_set (i := 4) sc_share.nd rfl (Or.inl rfl) (pv 6)))) pss_nil))))
        (pss_cons (ps_if (pt_cmpR op_isN (pv 3) pe_non (nomark _)) (pss_one (ps_ret (pe_lst (pa_cons (pe_gi rfl T.v_CANNOT_BE) pa_nil)))) pss_nil)
        (pss_one (ps_ret (pe_op op_cat (pe_lst (pa_cons (pv 4) pa_nil)) (pv 3))))))))), ?_⟩
    first | refine lcGo ?_ | (simp only [tNext, tSeq, tAsg, tRet, sFld, cxK]; refine lcGo ?_)
    refine ⟨_, rfl, q, A.c_Plant, dx, _, _, rfl, hq, T.cl_Plant, T.n_Plant_kinds, rfl, y.lk, _, rfl, hkl, _, rfl, ?_, ?_, ?_⟩
    · rw [List.length_map, R.ki.len]; omega
    · rw [List.length_map, R.ki.len]; omega
    refine LcGo.range (n := (y.ak.map V.ref).length) (fun _ => true) (fun t => natV (a.waits t).length) (by rw [List.length_map, R.ki.len]; exact size60 (by omega)) ?_ ?_
    · intro D t H' acc Nx ht s hD hacc hlen hno hyes
      simp only [gName]
      refine lc_yes rfl ?_
      refine ⟨_, rfl, _, rfl, q, y, true, a, t, rfl, R.same s, G, fun H1 l s1 hl hl1 => ?_⟩
      refine ⟨l, _, rfl, hl1, acc, s1 _ _ hacc, hlen, ?_⟩
      rw [List.length_map]
      exact hyes rfl H1 s1
    intro lm H1 hlm s1 hl1
    rw [filter_yes, List.length_map, R.ki.len] at hl1
    refine ⟨_, rfl, q, y, true, a, rfl, R.same s1, G, fun H2 lw ps s2 L => ?_⟩
    refine ⟨lw, rfl, ⟨_, SqL.of L.lst⟩, ?_⟩
    have hlm2 := s2 _ _ hl1
    refine for_list (xs := ps.map V.ref) (fun j σ H' => ∃ (v3 v4 : V) (v5 v6 : Option V), σ = [some (.ref q), some (.ref lm), none, some v3, some v4, v5, v6] ∧ Same H2 H' ∧ BestV H' (((a.ways 0 a.types.length a.presses.length).take j).foldl (bestOf a) none) v3 v4) ?_ ?_ ?_ ?_
    · exact ⟨_, _, _, _, rfl, Same.refl _, rfl, rfl⟩
    · rintro j σ H' _ ⟨v3, v4, v5, v6, rfl, s', B⟩
      exact SqL.of (s' _ _ L.lst)
    · rintro j x σ H' hx ⟨v3, v4, v5, v6, rfl, s', B⟩
      obtain ⟨r, hr, rfl⟩ : ∃ r, ps[j]? = some r ∧ V.ref r = x := by
        rw [List.getElem?_map] at hx
        cases e : ps[j]? with
        | none => rw [e] at hx; cases hx
        | some z => rw [e] at hx; exact ⟨z, rfl, Option.some.inj hx⟩
      obtain ⟨w, hw, hrw⟩ := L.get hr
      have hwm := List.mem_of_getElem? hw
      obtain ⟨hwn, hws⟩ := ways_fit a a.types.length 0 a.presses.length w hwm
      have S := (s1.trans s2).trans s'
      refine ⟨_, rfl, _, rfl, _, rfl, q, y, true, a, r, lm, w, rfl, R.same S, G, s' _ _ hrw, s' _ _ hlm2, hwn, fun k hk => by have := mem_le_sum hk; omega, fun H3 s3 => ?_⟩
      have ef := fold_take (bestOf a) none hw
      have S3 := s'.trans s3
      have hr3 := S3 _ _ hrw
      generalize ((a.ways 0 a.types.length a.presses.length).take j).foldl (bestOf a) none = st at B ef
      have B3 := B.same s3
      cases hlw : a.long w with
      | none =>
        rw [show bestOf a st w = st by unfold bestOf; rw [hlw]] at ef
        simp! only [T.all, optV, decide_true]
        exact ⟨S3, by rw [ef]; exact B3⟩
      | some n =>
        cases st with
        | none =>
          rw [show bestOf a none w = some (n, w) by unfold bestOf; rw [hlw]] at ef
          obtain ⟨rfl, rfl⟩ := B3
          simp! only [T.all, optV, decide_true, decide_false]
          exact ⟨S3, by rw [ef]; exact ⟨r, rfl, rfl, hr3⟩⟩
        | some c =>
          obtain ⟨r0, rfl, rfl, hr0⟩ := B3
          simp! only [T.all, optV, decide_true, decide_false]
          rw [show bestOf a (some c) w = if n < c.1 then some (n, w) else some c by unfold bestOf; rw [hlw]] at ef
          rw [if_pos (fun z => z)]
          by_cases h1 : n < c.1
          · rw [if_pos h1] at ef
            rw [if_pos (by omega)]
            exact ⟨S3, by rw [ef]; exact ⟨r, rfl, rfl, hr3⟩⟩
          · rw [if_neg h1] at ef
            rw [if_neg (by omega)]
            exact ⟨S3, by rw [ef]; exact ⟨r0, rfl, rfl, hr0⟩⟩
    · rintro σ H' ⟨v3, v4, v5, v6, rfl, s', B⟩
      rw [List.length_map, L.len, List.take_length] at B
      have S := (s1.trans s2).trans s'
      have hbm := best_mem (a := a) (a.ways 0 a.types.length a.presses.length) none
      generalize (a.ways 0 a.types.length a.presses.length).foldl (bestOf a) none = st at B k hbm
      cases st with
      | none =>
        obtain ⟨rfl, rfl⟩ := B
        simp! only [T.all, decide_true]
        exact ⟨size1, fun p hp => k.lay1 R S hp rfl rfl⟩
      | some c =>
        obtain ⟨r0, rfl, rfl, hr0⟩ := B
        simp! only [T.all, decide_false]
        refine ⟨size1, fun l3 hl3 => ?_⟩
        have n3 : r0 ≠ l3 := ne_of_none hr0 hl3
        simp! only [T.all, upd_ne n3, hr0, List.length_map]
        have hcl : c.2.length ≤ 5 := by
          rcases hbm c rfl with e | e
          · cases e
          · rw [(ways_fit a _ _ _ _ e).1]; exact hT
        refine ⟨Nat.le_of_lt (size60 (by omega)), fun l4 hl4 => ?_⟩
        refine k.lay1 R (S.trans (same_new hl3)) hl4 rfl rfl
end
end
section
open PySem PySem.Spec PyProof.Rows L2
section
variable {P : Program} {w : World} {K : PySem.W.Frag} {mg : Str → Option Value} {base : Heap} {A : Adr}
/-- the plant, begun or not -/
def RepO (A : Adr) (H : Hp) (q : Addr) (y : Lay) (s : Option Su67.Abs) : Prop := match s with
  | none => ∃ a, Rep A H q y false a
  | some a => Rep A H q y true a ∧ Good a ∧ Held a
theorem RepO.rep {H : Hp} {q : Addr} {y : Lay} {s : Option Su67.Abs} (h : RepO A H q y s) : ∃ b a, Rep A H q y b a := by
  cases s with
  | none => obtain ⟨a, R⟩ := h; exact ⟨_, _, R⟩
  | some a => exact ⟨_, _, h.1⟩
theorem RepO.same {H H' : Hp} {q : Addr} {y : Lay} {s : Option Su67.Abs} (h : RepO A H q y s) (e : Same H H') : RepO A H' q y s := by
  cases s with
  | none => obtain ⟨a, R⟩ := h; exact ⟨a, R.same e⟩
  | some a => exact ⟨h.1.same e, h.2⟩
/-- .. kept where nothing of it is written -/
theorem RepO.keep {H H' : Hp} {q : Addr} {y : Lay} {s : Option Su67.Abs} (h : RepO A H q y s) (e : ∀ c o, y.foot q c → H c = some o → H' c = some o) : RepO A H' q y s := by
  have key : ∀ {b a}, Rep A H q y b a → Rep A H' q y b a := fun {b a} R =>
    ⟨let ⟨dx, h⟩ := R.pl; ⟨dx, e _ _ (.inl rfl) h⟩,
     ⟨e _ _ (.inr (.inl rfl)) R.ki.lst, R.ki.nd, R.ki.len, fun j p x e1 e2 => let ⟨dx, h⟩ := R.ki.at_ j p x e1 e2; ⟨dx, e _ _ (.inr (.inr (.inr (.inr (.inr (.inl (List.mem_of_getElem? e1))))))) h⟩⟩,
     ⟨e _ _ (.inr (.inr (.inl rfl))) R.mo.lst, R.mo.nd, R.mo.len, fun j p x e1 e2 => let ⟨dx, h⟩ := R.mo.at_ j p x e1 e2; ⟨dx, e _ _ (.inr (.inr (.inr (.inr (.inr (.inr (.inl (List.mem_of_getElem? e1)))))))) h⟩⟩,
     ⟨e _ _ (.inr (.inr (.inr (.inl rfl)))) R.pr.lst, R.pr.nd, R.pr.len, fun j p x e1 e2 => let ⟨dx, h⟩ := R.pr.at_ j p x e1 e2; ⟨dx, e _ _ (.inr (.inr (.inr (.inr (.inr (.inr (.inr (.inl (List.mem_of_getElem? e1))))))))) h⟩⟩,
     ⟨e _ _ (.inr (.inr (.inr (.inr (.inl rfl))))) R.ty.lst, R.ty.nd, R.ty.len, fun j p x e1 e2 => let ⟨dx, h⟩ := R.ty.at_ j p x e1 e2; ⟨dx, e _ _ (.inr (.inr (.inr (.inr (.inr (.inr (.inr (.inr (List.mem_of_getElem? e1))))))))) h⟩⟩, R.nl⟩
  cases s with
  | none => obtain ⟨a, R⟩ := h; exact ⟨a, key R⟩
  | some a => exact ⟨key h.1, h.2⟩
def ToldO (A : Adr) (q : Addr) (y : Lay) (H : Hp) (r : Option Su67.Abs × Su67.Ans) (Q : VK) : Prop :=
  ∀ H' y' p, RepO A H' q y' r.1 → Frame q y H y' H' → H p = none → ¬ y'.foot q p → H' p = some (.lst (ansV r.2)) → Q (.ref p) H'
def sp_answer_call (K : PySem.W.Frag) (A : Adr) : Sp := fun vs H Q _ => ∃ (q : Addr) (y : Lay) (s : Option Su67.Abs) (l : Addr) (n : Nat) (ns : List Nat) (c : Su67.Call), vs = [.ref q, .int (n : Nat), .ref l] ∧ H l = some (.lst (ns.map natV)) ∧ n < 27 ∧ givenL[n]? = some ns.length ∧
  Su67Neutral.callOf ((n : Int) :: ns.map fun k : Nat => (k : Int)) = some c ∧ RepO A H q y s ∧ ToldO A q y H (Su67.step s c) Q
def sp_ans (K : PySem.W.Frag) : Sp := fun vs H Q _ => ∃ (a : Addr) (l : List Int), vs = [.ref a] ∧ SqL K H a (l.map V.int) ∧ (∀ x ∈ l, 0 ≤ x) ∧ l.length ≤ 2000 ∧ PySu67.answers_asked l = true ∧ ∀ (H' : Hp) (p : Addr), H' p = some (.lst ((PySu67.answers l).map V.int)) → Q (.ref p) H'
abbrev sp_answers (K : PySem.W.Frag) (A : Adr) : Sp := sp_ans K
theorem step_ans {s : Option Su67.Abs} {x : List Int} {c : Su67.Call} (h : Su67Neutral.callOf x = some c) : (Su67Neutral.step s x).1 = (Su67.step s c).1 ∧ ((Su67Neutral.step s x).2).map V.int = ansV (Su67.step s c).2 := by
  have e : Su67Neutral.step s x = ((Su67.step s c).1, (Su67.step s c).2.value :: Su67Neutral.outs (Su67.step s c).2.out) := by
    unfold Su67Neutral.step
    rw [h]
  rw [e]
  refine ⟨rfl, ?_⟩
  show V.int _ :: (Su67Neutral.outs _).map V.int = _
  unfold Su67Neutral.outs ansV
  rw [List.map_map]
  rfl
/-- a call's numbers are as told -/
theorem nat_call {c : List Int} (h : IsCall c) (hp : ∀ x ∈ c, 0 ≤ x) : ∃ (n : Nat) (ns : List Nat), c = (n : Int) :: ns.map (fun k : Nat => (k : Int)) ∧ n < 27 ∧ givenL[n]? = some ns.length := by
  obtain ⟨p, xs, rfl, hs⟩ := h
  obtain ⟨n, rfl, hn, _, hg⟩ := shape_given hs
  refine ⟨n, xs.map Int.toNat, ?_, hn, by rw [List.length_map]; exact hg⟩
  rw [List.map_map]
  congr 1
  have : xs.map ((fun k : Nat => (k : Int)) ∘ Int.toNat) = xs.map id := List.map_congr_left fun x hx => Int.toNat_of_nonneg (hp x (List.mem_cons_of_mem _ hx))
  rw [this, List.map_id]
theorem cut_mid (l m r : List V) : cutV (l ++ m ++ r) (some ((l.length : Nat) : Int)) (some ((l.length + m.length : Nat) : Int)) = m := by
  unfold cutV
  rw [HT.sIx_nat, HT.sIx_nat]
  have e : (l ++ m ++ r).length = l.length + m.length + r.length := by simp [Nat.add_assoc]
  rw [e, Nat.min_eq_left (by omega), Nat.min_eq_left (by omega), List.append_assoc, List.drop_left]
  rw [show l.length + m.length - l.length = m.length by omega, List.take_left]
theorem ok_answers_of (T : Txt K mg A) (okc : FnOk P w K mg base CX0 8 A.f_answer_call A.d_answer_call ["plant", "number", "given"] (sp_answer_call K A)) : FnOk P w K mg base CX0 9 A.f_answers A.d_answers ["calls"] (sp_answers K A) := by
  refine T.F_answers.ok sc_answers (fun vs H Q E h => ?_) (fun cdv A' outer s H vs Q E hr h => ?_)
  · obtain ⟨a, l, rfl, _⟩ := h
    rfl
  · obtain ⟨a, l, rfl, hl, hpos, h2000, hask, k⟩ := h
    obtain ⟨cs, el, hcs, ea, hlen⟩ := parse hask
    refine ⟨_, (pss_cons (ps_set (i := 1) sc_answers.nd rfl (Or.inl rfl) (pe_make0 T.mk_Plant (ok_Plant_init T) (hr.mono (by decide)) rfl T.m_Plant T.b_Plant_init .nil pass0))
        (pss_cons (ps_set (i := 2) sc_answers.nd rfl (Or.inl rfl) (pe_lst pa_nil))
        (pss_cons (ps_set (i := 3) sc_answers.nd rfl (Or.inl rfl) pe_int)
        (pss_cons (ps_while PassesOwn.never (pt_cmpR op_lt (pv 3) (pe_callB call_len_seq rfl T.u_len PySem.boot_len (pa_cons (pv 0) pa_nil)) (nomark _)) (pss_cons (ps_set (i := 4) sc_answers.nd rfl (Or.inl rfl) (pe_op op_add (pe_op op_add (pv 3) pe_int) (pe_ix ix_tup (pe_glob (v := .ref A.g_GIVEN) rfl T.v_GIVEN rfl) (pe_ix ix_list (pv 0) (pv 3) (fun _ _ => rfl)) (fun _ _ => rfl))))
        (pss_cons (ps_set (i := 5) sc_answers.nd rfl (Or.inl rfl) (pe_call okc (hr.mono (by decide)) rfl T.m_answer_call T.F_answer_call.kp T.b_answer_call .nil pass0 (pa_cons (pv 1) (pa_cons (pe_ix ix_list (pv 0) (pv 3) (fun _ _ => rfl)) (pa_cons (pe_slice sl_list (pv 0) (po_some (pe_op op_add (pv 3) pe_int)) (po_some (pv 4))) pa_nil)))))
        (pss_cons (ps_expr (pe_bm PySem.F.plainAttrs_list PySem.F.slot_list_append PySem.F.type_list_append mt_append (pv 2) (pa_cons (pe_callB call_lenL rfl T.u_len PySem.boot_len (pa_cons (pv 5) pa_nil)) pa_nil)))
        (pss_cons (ps_expr (pe_bm PySem.F.plainAttrs_list PySem.F.slot_list_extend PySem.F.type_list_extend mt_extend (pv 2) (pa_cons (pv 5) pa_nil)))
        (pss_one (ps_set (i := 3) sc_answers.nd rfl (Or.inl rfl) (pv 4))))))))
        (pss_one (ps_ret (pv 2))))))), ?_⟩
    intro q dq hq hdq hnq
    refine ⟨q, dq, rfl, upd_same, fun H1 y1 R1 h1 h2 => ⟨rfl, Nat.zero_le _, fun t ht => ?_⟩⟩
    have s1 : Same H H1 := fun c o h => h1 c o (by rw [upd_ne (ne_of_none h hq), upd_ne (ne_of_none h hdq)]; exact h) (ne_of_none h hq)
    have f1 : ∀ c, y1.foot q c → H c = none := fun c hc => by
      rcases h2 c hc with e | e
      · rw [e]; exact hq
      · by_cases e1 : c = q
        · rw [e1]; exact hq
        · rw [upd_ne e1] at e
          by_cases e2 : c = dq
          · rw [e2] at e; rw [upd_same] at e; cases e
          · rw [upd_ne e2] at e; exact e
    refine while_by (fun σ H' => ∃ (i : Nat) (y : Lay) (v4 v5 : Option V), i ≤ cs.length ∧ σ = [some (.ref a), some (.ref q), some (.ref t), some (.int (((cs.take i).flatten.length : Nat) : Int)), v4, v5] ∧ Same H H' ∧ (∀ c, y.foot q c → H c = none) ∧ H t = none ∧ ¬ y.foot q t ∧
      H' t = some (.lst ((PyFlat.told (playd none (cs.take i))).map V.int)) ∧ RepO A H' q y (stateAt none (cs.take i))) (fun σ _ => 4000 - slotI 3 σ) ?_ ?_ ?_
    · refine ⟨0, y1, _, _, Nat.zero_le _, rfl, s1.trans (same_new ht), f1, s1.free ht, fun z => ?_, upd_same, ?_⟩
      · obtain ⟨o, ho⟩ := R1.foot z
        rw [ht] at ho; cases ho
      · exact ⟨_, R1.same (same_new ht)⟩
    · rintro σ H' ⟨i, y, v4, v5, hi, rfl, sH, fH, htn, htf, htl, RO⟩
      have hl' : SqL K H' a (l.map V.int) := sH.seq hl
      refine ⟨_, rfl, _, rfl, a, _, rfl, .inl hl', _, _, rfl, rfl, _, rfl, ite2 (fun h0 => ?_) fun h0 => ?_⟩
      · have h0 : (cs.take i).flatten.length < l.length := by
          have := of_decide_eq_true h0
          rw [List.length_map] at this
          omega
        have hi' : i < cs.length := by
          rcases Nat.lt_or_ge i cs.length with z | z
          · exact z
          · rw [List.take_of_length_le z, ← el] at h0
            exact absurd h0 (Nat.lt_irrefl _)
        have hci : cs[i]? = some cs[i] := List.getElem?_eq_getElem hi'
        have hcm : cs[i] ∈ cs := List.getElem_mem hi'
        obtain ⟨n, ns, ec, hn, hg⟩ := nat_call (hcs _ hcm) fun x hx => hpos x (by rw [el]; exact List.mem_flatten.mpr ⟨_, hcm, hx⟩)
        obtain ⟨kc, hk⟩ := callOf_is (hcs _ hcm)
        have el2 : l = (cs.take i).flatten ++ cs[i] ++ (cs.drop (i + 1)).flatten := by
          have e1 : cs = cs.take i ++ cs[i] :: cs.drop (i + 1) := by
            rw [← List.drop_eq_getElem_cons hi', List.take_append_drop]
          have e2 : cs.flatten = (cs.take i ++ cs[i] :: cs.drop (i + 1)).flatten := congrArg List.flatten e1
          rw [el, e2, List.flatten_append, List.flatten_cons, List.append_assoc]
        have etk : cs.take (i + 1) = cs.take i ++ [cs[i]] := take_snoc hci
        generalize hpre : (cs.take i).flatten = pl at *
        generalize hpost : (cs.drop (i + 1)).flatten = pr at *
        have etf : (cs.take (i + 1)).flatten.length = pl.length + 1 + ns.length := by
          rw [etk, List.flatten_append, hpre, List.length_append]
          simp [ec]
          omega
        have elm : l.map V.int = pl.map V.int ++ (V.int (n : Int) :: ns.map natV) ++ pr.map V.int := by
          rw [el2, ec, List.map_append, List.map_append, List.map_cons, List.map_map]
          rfl
        have hat : atI (l.map V.int) ((pl.length : Nat) : Int) = some (V.int (n : Int)) := by
          refine atI_nat ?_
          rw [elm, List.append_assoc, List.getElem?_append_right (by rw [List.length_map]; exact Nat.le_refl _), List.length_map, Nat.sub_self]
          rfl
        have hgt : atI (List.map V.int [3, 2, 1, 0, 1, 2, 1, 1, 2, 1, 1, 1, 1, 1, 0, 1, 1, 1, 2, 0, 1, 2, 1, 1, 1, 0, 0]) ((n : Nat) : Int) = some (V.int ((ns.length : Nat) : Int)) := by
          refine atI_nat ?_
          have e : (List.map V.int [3, 2, 1, 0, 1, 2, 1, 1, 2, 1, 1, 1, 1, 1, 0, 1, 1, 1, 2, 0, 1, 2, 1, 1, 1, 0, 0]) = givenL.map natV := rfl
          rw [e, List.getElem?_map, hg]
          rfl
        have hcut : cutV (l.map V.int) (some (((pl.length : Nat) : Int) + 1)) (some (((pl.length : Nat) : Int) + 1 + ((ns.length : Nat) : Int))) = ns.map natV := by
          have z := cut_mid (pl.map V.int ++ [V.int (n : Int)]) (ns.map natV) (pr.map V.int)
          have e1 : pl.map V.int ++ [V.int (n : Int)] ++ ns.map natV ++ pr.map V.int = l.map V.int := by rw [elm]; simp
          rw [e1] at z
          have e2 : (pl.map V.int ++ [V.int (n : Int)]).length = pl.length + 1 := by simp
          rw [e2, List.length_map] at z
          exact z
        refine ⟨_, rfl, _, _, rfl, rfl, _, rfl, _, rfl, a, _, _, _, rfl, rfl, hl', hat, _, _, _, _, rfl, rfl, T.t_GIVEN H', hgt, _, _, rfl, rfl, ?_⟩
        refine ⟨_, rfl, _, rfl, _, rfl, a, _, _, _, rfl, rfl, hl', hat, _, rfl, _, rfl, _, _, rfl, rfl, _, rfl, _, rfl, _, rfl, a, _, rfl, hl', fun g hgn => ?_⟩
        have sg : Same H' (upd H' g (.lst (cutV (l.map V.int) (some (((pl.length : Nat) : Int) + 1)) (some (((pl.length : Nat) : Int) + 1 + ((ns.length : Nat) : Int)))))) := same_new hgn
        refine ⟨q, y, _, g, n, ns, kc, rfl, upd_same.trans (by rw [← hcut]), hn, hg, by rw [← ec]; exact hk, RO.same sg, fun H2 y2 p R2 f2 hp hpf hl2 => ?_⟩
        have htl2 : H2 t = some (.lst ((PyFlat.told (playd none (cs.take i))).map V.int)) := f2.keep t _ (sg _ _ htl) htf
        have sH2 : Same H H2 := fun c o h => f2.keep c o (sg _ _ (sH c o h)) fun z => by
          rw [fH c z] at h; cases h
        have fH2 : ∀ c, y2.foot q c → H c = none := fun c hc => by
          rcases f2.grow c hc with z | z
          · exact fH c z
          · exact (sH.trans sg).free z
        have htf2 : ¬ y2.foot q t := fun z => by
          rcases f2.grow t z with z | z
          · exact htf z
          · rw [sg _ _ htl] at z; cases z
        have ntp : t ≠ p := ne_of_none (sg _ _ htl) hp
        obtain ⟨es1, es2⟩ := step_ans (s := stateAt none (cs.take i)) hk
        have ept : PyFlat.told (playd none (cs.take (i + 1))) = PyFlat.told (playd none (cs.take i)) ++ (((Su67Neutral.step (stateAt none (cs.take i)) cs[i]).2.length : Nat) : Int) :: (Su67Neutral.step (stateAt none (cs.take i)) cs[i]).2 := by
          rw [etk, playd_append, told_append]
          show _ ++ PyFlat.told [(Su67Neutral.step _ cs[i]).2] = _
          unfold PyFlat.told
          simp
        have etot : (PyFlat.told (playd none (cs.take (i + 1)))).length ≤ 10000000 := by
          refine Nat.le_trans ?_ hlen
          have e : cs = cs.take (i + 1) ++ cs.drop (i + 1) := (List.take_append_drop _ _).symm
          have e2 : PyFlat.told (playd none cs) = PyFlat.told (playd none (cs.take (i + 1))) ++ PyFlat.told (playd (stateAt none (cs.take (i + 1))) (cs.drop (i + 1))) := by
            rw [← told_append, ← playd_append, ← e]
          rw [e2, List.length_append]
          omega
        have elen : (ansV (Su67.step (stateAt none (cs.take i)) kc).2).length = (Su67Neutral.step (stateAt none (cs.take i)) cs[i]).2.length := by rw [← es2, List.length_map]
        rw [ept, List.length_append, List.length_cons] at etot
        have h24 : sizeLine = 16777216 := by decide
        refine ⟨_, rfl, .inl ⟨rfl, _, SqL.of htl2⟩, _, rfl, p, _, rfl, hl2, t, _, _, rfl, rfl, htl2, ?_, ?_⟩
        · rw [List.length_map, h24]; omega
        have hp2 : upd H2 t (.lst ((PyFlat.told (playd none (cs.take i))).map V.int ++ [V.int (((ansV (Su67.step (stateAt none (cs.take i)) kc).2).length : Nat) : Int)])) p = some (.lst (ansV (Su67.step (stateAt none (cs.take i)) kc).2)) := by rw [upd_ne (Ne.symm ntp)]; exact hl2
        refine ⟨_, rfl, .inl ⟨rfl, _, SqL.of upd_same⟩, _, rfl, t, p, _, _, rfl, rfl, upd_same, hp2, ?_, ?_⟩
        · rw [List.length_append, List.length_map, List.length_singleton, elen, h24]; omega
        refine ⟨_, rfl, ?_⟩
        rw [upd_upd]
        refine ⟨⟨i + 1, y2, some (.int (((pl.length : Nat) : Int) + 1 + ((ns.length : Nat) : Int))), some (.ref p), hi', ?_, ?_, fH2, htn, htf2, ?_, ?_⟩, ?_⟩
        · rw [etf, show ((pl.length + 1 + ns.length : Nat) : Int) = ((pl.length : Nat) : Int) + 1 + ((ns.length : Nat) : Int) by omega]
          rfl
        · exact fun c o h => by rw [upd_ne (ne_of_none h htn)]; exact sH2 c o h
        · rw [upd_same, ept, List.map_append, List.map_cons, es2, elen, List.append_assoc]
          rfl
        · rw [etk, stateAt_append]
          show RepO A _ q y2 (Su67Neutral.step _ cs[i]).1
          rw [es1]
          exact R2.keep fun c o hc h => by rw [upd_ne (show c ≠ t from fun z => htf2 (by rw [← z]; exact hc))]; exact h
        · show 4000 - (((pl.length : Nat) : Int) + 1 + ((ns.length : Nat) : Int)).toNat < 4000 - ((pl.length : Nat) : Int).toNat
          omega
      · have hge : ¬ (cs.take i).flatten.length < l.length := by
          have := of_decide_eq_false (Bool.eq_false_iff.mpr h0)
          rw [List.length_map] at this
          omega
        have hi' : i = cs.length := by
          rcases Nat.lt_or_ge i cs.length with z | z
          · have hcm : cs[i] ∈ cs := List.getElem_mem z
            have e1 : cs = cs.take i ++ cs[i] :: cs.drop (i + 1) := by
              rw [← List.drop_eq_getElem_cons z, List.take_append_drop]
            have e2 : cs.flatten = (cs.take i ++ cs[i] :: cs.drop (i + 1)).flatten := congrArg List.flatten e1
            obtain ⟨p, xs, ep, _⟩ := hcs _ hcm
            refine absurd ?_ hge
            rw [el, e2, List.flatten_append, List.flatten_cons, List.length_append, List.length_append, ep, List.length_cons]
            omega
          · omega
        subst hi'
        refine ⟨_, rfl, ?_⟩
        rw [List.take_length, ← ea] at htl
        exact k H' t htl
    · rintro σ H' Q1 Q2 hq12 ⟨v, h1, v0, h2, p, ys, e1, e2, i, j, e3, e4, z, e5, h⟩
      exact ⟨v, h1, v0, h2, p, ys, e1, e2, i, j, e3, e4, z, e5, hq12 _ _ h⟩
end
end
section
open PySem PySem.Spec PyProof.Rows L2
section
variable {P : Program} {w : World} {K : PySem.W.Frag} {mg : Str → Option Value} {base : Heap} {A : Adr}
theorem at0 {u : V} {r : List V} : atI (u :: r) 0 = some u := at_of (j := 0) rfl rfl
theorem at1 {u v : V} {r : List V} : atI (u :: v :: r) 1 = some v := at_of (j := 1) rfl rfl
theorem at2 {u v x : V} {r : List V} : atI (u :: v :: x :: r) 2 = some x := at_of (j := 2) rfl rfl
/-- calls from .. to ..: a plant that has begun -/
def spCalls (lo hi : Nat) (A : Adr) : Sp := fun vs H Q _ => ∃ (q : Addr) (y : Lay) (a : Su67.Abs) (l : Addr) (n : Nat) (ns : List Nat) (c : Su67.Call), vs = [.ref q, .int (n : Nat), .ref l] ∧ H l = some (.lst (ns.map natV)) ∧ lo ≤ n ∧ n ≤ hi ∧ givenL[n]? = some ns.length ∧
  Su67Neutral.callOf ((n : Int) :: ns.map fun k : Nat => (k : Int)) = some c ∧ Rep A H q y true a ∧ Good a ∧ Held a ∧ Told A q y H true (Su67.does a c) Q
abbrev sp_answer_adding (K : PySem.W.Frag) (A : Adr) : Sp := spCalls 1 4 A
theorem ok_answer_adding (T : Txt K mg A) : FnOk P w K mg base CX0 4 A.f_answer_adding A.d_answer_adding ["plant", "number", "given"] (sp_answer_adding K A) := by
  refine T.F_answer_adding.ok sc_answer_adding (fun vs H Q E h => ?_) (fun cdv A' outer s H vs Q E hr h => ?_)
  · obtain ⟨q, y, a, l, n, ns, c, rfl, _⟩ := h
    rfl
  · obtain ⟨q, y, a, l, n, ns, c, rfl, hl, h1, h2, hg, hc, R, G, D, k⟩ := h
    refine ⟨_, (pss_cons (ps_if (pt_cmpR op_eq (pv 1) pe_int (nomark _)) (pss_one (ps_ret (pe_call (ok_add_kind T) (hr.mono (by decide)) rfl T.m_add_kind T.F_add_kind.kp T.b_add_kind .nil pass0 (pa_cons (pv 0) (pa_cons (pe_ix ix_lst (pv 2) pe_int (fun _ _ => rfl)) (pa_cons (pe_ix ix_lst (pv 2) pe_int (fun _ _ => rfl)) pa_nil)))))) pss_nil)
        (pss_cons (ps_if (pt_cmpR op_eq (pv 1) pe_int (nomark _)) (pss_one (ps_ret (pe_call (ok_add_mould T) (hr.mono (by decide)) rfl T.m_add_mould T.F_add_mould.kp T.b_add_mould .nil pass0 (pa_cons (pv 0) (pa_cons (pe_ix ix_lst (pv 2) pe_int (fun _ _ => rfl)) pa_nil))))) pss_nil)
        (pss_cons (ps_if (pt_cmpR op_eq (pv 1) pe_int (nomark _)) (pss_one (ps_ret (pe_call (ok_add_press T) (hr.mono (by decide)) rfl T.m_add_press T.F_add_press.kp T.b_add_press .nil pass0 (pa_cons (pv 0) pa_nil)))) pss_nil)
        (pss_one (ps_ret (pe_call (ok_add_green T) (hr.mono (by decide)) rfl T.m_add_green T.F_add_green.kp T.b_add_green .nil pass0 (pa_cons (pv 0) (pa_cons (pe_ix ix_lst (pv 2) pe_int (fun _ _ => rfl)) pa_nil)))))))), ?_⟩
    have hlen : ∀ k, givenL[n]? = some k → ns.length = k := fun k e => Option.some.inj (hg.symm.trans e)
    have hn : n = 1 ∨ n = 2 ∨ n = 3 ∨ n = 4 := by omega
    rcases hn with rfl | rfl | rfl | rfl
    · match ns, hl, hlen 2 rfl, hc with
      | [x, z], hl, _, hc =>
        cases hc
        have hl : H l = some (.lst [natV x, natV z]) := hl
        refine ⟨_, rfl, rfl, _, rfl, iteP (by decide) ?_⟩
        exact ⟨_, rfl, _, rfl, l, _, _, _, rfl, rfl, hl, at0, _, rfl, l, _, _, _, rfl, rfl, hl, at1, q, y, a, x, z, rfl, R, G, k⟩
    · match ns, hl, hlen 1 rfl, hc with
      | [x], hl, _, hc =>
        cases hc
        have hl : H l = some (.lst [natV x]) := hl
        refine ⟨_, rfl, rfl, _, rfl, iteN (by decide) ?_⟩
        refine ⟨_, rfl, rfl, _, rfl, iteP (by decide) ?_⟩
        exact ⟨_, rfl, _, rfl, l, _, _, _, rfl, rfl, hl, at0, q, y, a, x, rfl, R, G, k⟩
    · match ns, hl, hlen 0 rfl, hc with
      | [], hl, _, hc =>
        cases hc
        have hl : H l = some (.lst []) := hl
        refine ⟨_, rfl, rfl, _, rfl, iteN (by decide) ?_⟩
        refine ⟨_, rfl, rfl, _, rfl, iteN (by decide) ?_⟩
        refine ⟨_, rfl, rfl, _, rfl, iteP (by decide) ?_⟩
        exact ⟨_, rfl, q, y, a, rfl, R, G, k⟩
    · match ns, hl, hlen 1 rfl, hc with
      | [x], hl, _, hc =>
        cases hc
        have hl : H l = some (.lst [natV x]) := hl
        refine ⟨_, rfl, rfl, _, rfl, iteN (by decide) ?_⟩
        refine ⟨_, rfl, rfl, _, rfl, iteN (by decide) ?_⟩
        refine ⟨_, rfl, rfl, _, rfl, iteN (by decide) ?_⟩
        exact ⟨_, rfl, _, rfl, l, _, _, _, rfl, rfl, hl, at0, q, y, a, x, rfl, R, G, k⟩
abbrev sp_answer_handling (K : PySem.W.Frag) (A : Adr) : Sp := spCalls 5 11 A
theorem ok_answer_handling (T : Txt K mg A) : FnOk P w K mg base CX0 6 A.f_answer_handling A.d_answer_handling ["plant", "number", "given"] (sp_answer_handling K A) := by
  refine T.F_answer_handling.ok sc_answer_handling (fun vs H Q E h => ?_) (fun cdv A' outer s H vs Q E hr h => ?_)
  · obtain ⟨q, y, a, l, n, ns, c, rfl, _⟩ := h
    rfl
  · obtain ⟨q, y, a, l, n, ns, c, rfl, hl, h1, h2, hg, hc, R, G, D, k⟩ := h
    refine ⟨_, (pss_cons (ps_if (pt_cmpR op_eq (pv 1) pe_int (nomark _)) (pss_one (ps_ret (pe_call (ok_fit T) (hr.mono (by decide)) rfl T.m_fit T.F_fit.kp T.b_fit .nil pass0 (pa_cons (pv 0) (pa_cons (pe_ix ix_lst (pv 2) pe_int (fun _ _ => rfl)) (pa_cons (pe_ix ix_lst (pv 2) pe_int (fun _ _ => rfl)) pa_nil)))))) pss_nil)
        (pss_cons (ps_if (pt_cmpR op_eq (pv 1) pe_int (nomark _)) (pss_one (ps_ret (pe_call (ok_renew_bladder T) (hr.mono (by decide)) rfl T.m_renew_bladder T.F_renew_bladder.kp T.b_renew_bladder .nil pass0 (pa_cons (pv 0) (pa_cons (pe_ix ix_lst (pv 2) pe_int (fun _ _ => rfl)) pa_nil))))) pss_nil)
        (pss_cons (ps_if (pt_cmpR op_eq (pv 1) pe_int (nomark _)) (pss_one (ps_ret (pe_call (ok_clean T) (hr.mono (by decide)) rfl T.m_clean T.F_clean.kp T.b_clean .nil pass0 (pa_cons (pv 0) (pa_cons (pe_ix ix_lst (pv 2) pe_int (fun _ _ => rfl)) pa_nil))))) pss_nil)
        (pss_cons (ps_if (pt_cmpR op_eq (pv 1) pe_int (nomark _)) (pss_one (ps_ret (pe_call (ok_load T) (hr.mono (by decide)) rfl T.m_load T.F_load.kp T.b_load .nil pass0 (pa_cons (pv 0) (pa_cons (pe_ix ix_lst (pv 2) pe_int (fun _ _ => rfl)) (pa_cons (pe_ix ix_lst (pv 2) pe_int (fun _ _ => rfl)) pa_nil)))))) pss_nil)
        (pss_cons (ps_if (pt_cmpR op_eq (pv 1) pe_int (nomark _)) (pss_one (ps_ret (pe_call (ok_set_auto T) (hr.mono (by decide)) rfl T.m_set_auto T.F_set_auto.kp T.b_set_auto .nil pass0 (pa_cons (pv 0) (pa_cons (pe_ix ix_lst (pv 2) pe_int (fun _ _ => rfl)) pa_nil))))) pss_nil)
        (pss_cons (ps_if (pt_cmpR op_eq (pv 1) pe_int (nomark _)) (pss_one (ps_ret (pe_call (ok_minutes T) (hr.mono (by decide)) rfl T.m_minutes T.F_minutes.kp T.b_minutes .nil pass0 (pa_cons (pv 0) (pa_cons (pe_ix ix_lst (pv 2) pe_int (fun _ _ => rfl)) pa_nil))))) pss_nil)
        (pss_one (ps_ret (pe_call (ok_scrap T) (hr.mono (by decide)) rfl T.m_scrap T.F_scrap.kp T.b_scrap .nil pass0 (pa_cons (pv 0) (pa_cons (pe_ix ix_lst (pv 2) pe_int (fun _ _ => rfl)) pa_nil))))))))))), ?_⟩
    have hlen : ∀ k, givenL[n]? = some k → ns.length = k := fun k e => Option.some.inj (hg.symm.trans e)
    have hn : n = 5 ∨ n = 6 ∨ n = 7 ∨ n = 8 ∨ n = 9 ∨ n = 10 ∨ n = 11 := by omega
    rcases hn with rfl | rfl | rfl | rfl | rfl | rfl | rfl
    · match ns, hl, hlen 2 rfl, hc with
      | [x, z], hl, _, hc =>
        cases hc
        have hl : H l = some (.lst [natV x, natV z]) := hl
        refine ⟨_, rfl, rfl, _, rfl, iteP (by decide) ?_⟩
        exact ⟨_, rfl, _, rfl, l, _, _, _, rfl, rfl, hl, at0, _, rfl, l, _, _, _, rfl, rfl, hl, at1, q, y, a, x, z, rfl, R, G, k⟩
    · match ns, hl, hlen 1 rfl, hc with
      | [x], hl, _, hc =>
        cases hc
        have hl : H l = some (.lst [natV x]) := hl
        refine ⟨_, rfl, rfl, _, rfl, iteN (by decide) ?_⟩
        refine ⟨_, rfl, rfl, _, rfl, iteP (by decide) ?_⟩
        exact ⟨_, rfl, _, rfl, l, _, _, _, rfl, rfl, hl, at0, q, y, a, x, rfl, R, G, k⟩
    · match ns, hl, hlen 1 rfl, hc with
      | [x], hl, _, hc =>
        cases hc
        have hl : H l = some (.lst [natV x]) := hl
        refine ⟨_, rfl, rfl, _, rfl, iteN (by decide) ?_⟩
        refine ⟨_, rfl, rfl, _, rfl, iteN (by decide) ?_⟩
        refine ⟨_, rfl, rfl, _, rfl, iteP (by decide) ?_⟩
        exact ⟨_, rfl, _, rfl, l, _, _, _, rfl, rfl, hl, at0, q, y, a, x, rfl, R, G, k⟩
    · match ns, hl, hlen 2 rfl, hc with
      | [x, z], hl, _, hc =>
        cases hc
        have hl : H l = some (.lst [natV x, natV z]) := hl
        refine ⟨_, rfl, rfl, _, rfl, iteN (by decide) ?_⟩
        refine ⟨_, rfl, rfl, _, rfl, iteN (by decide) ?_⟩
        refine ⟨_, rfl, rfl, _, rfl, iteN (by decide) ?_⟩
        refine ⟨_, rfl, rfl, _, rfl, iteP (by decide) ?_⟩
        exact ⟨_, rfl, _, rfl, l, _, _, _, rfl, rfl, hl, at0, _, rfl, l, _, _, _, rfl, rfl, hl, at1, q, y, a, x, z, rfl, R, G, k⟩
    · match ns, hl, hlen 1 rfl, hc with
      | [x], hl, _, hc =>
        cases hc
        have hl : H l = some (.lst [natV x]) := hl
        refine ⟨_, rfl, rfl, _, rfl, iteN (by decide) ?_⟩
        refine ⟨_, rfl, rfl, _, rfl, iteN (by decide) ?_⟩
        refine ⟨_, rfl, rfl, _, rfl, iteN (by decide) ?_⟩
        refine ⟨_, rfl, rfl, _, rfl, iteN (by decide) ?_⟩
        refine ⟨_, rfl, rfl, _, rfl, iteP (by decide) ?_⟩
        exact ⟨_, rfl, _, rfl, l, _, _, _, rfl, rfl, hl, at0, q, y, a, x, rfl, R, G, k⟩
    · match ns, hl, hlen 1 rfl, hc with
      | [x], hl, _, hc =>
        cases hc
        have hl : H l = some (.lst [natV x]) := hl
        refine ⟨_, rfl, rfl, _, rfl, iteN (by decide) ?_⟩
        refine ⟨_, rfl, rfl, _, rfl, iteN (by decide) ?_⟩
        refine ⟨_, rfl, rfl, _, rfl, iteN (by decide) ?_⟩
        refine ⟨_, rfl, rfl, _, rfl, iteN (by decide) ?_⟩
        refine ⟨_, rfl, rfl, _, rfl, iteN (by decide) ?_⟩
        refine ⟨_, rfl, rfl, _, rfl, iteP (by decide) ?_⟩
        exact ⟨_, rfl, _, rfl, l, _, _, _, rfl, rfl, hl, at0, q, y, a, x, rfl, R, G, k⟩
    · match ns, hl, hlen 1 rfl, hc with
      | [x], hl, _, hc =>
        cases hc
        have hl : H l = some (.lst [natV x]) := hl
        refine ⟨_, rfl, rfl, _, rfl, iteN (by decide) ?_⟩
        refine ⟨_, rfl, rfl, _, rfl, iteN (by decide) ?_⟩
        refine ⟨_, rfl, rfl, _, rfl, iteN (by decide) ?_⟩
        refine ⟨_, rfl, rfl, _, rfl, iteN (by decide) ?_⟩
        refine ⟨_, rfl, rfl, _, rfl, iteN (by decide) ?_⟩
        refine ⟨_, rfl, rfl, _, rfl, iteN (by decide) ?_⟩
        exact ⟨_, rfl, _, rfl, l, _, _, _, rfl, rfl, hl, at0, q, y, a, x, rfl, R, G, k⟩
abbrev sp_answer_asking (K : PySem.W.Frag) (A : Adr) : Sp := spCalls 12 16 A
theorem ok_answer_asking (T : Txt K mg A) : FnOk P w K mg base CX0 7 A.f_answer_asking A.d_answer_asking ["plant", "number", "given"] (sp_answer_asking K A) := by
  refine T.F_answer_asking.ok sc_answer_asking (fun vs H Q E h => ?_) (fun cdv A' outer s H vs Q E hr h => ?_)
  · obtain ⟨q, y, a, l, n, ns, c, rfl, _⟩ := h
    rfl
  · obtain ⟨q, y, a, l, n, ns, c, rfl, hl, h1, h2, hg, hc, R, G, D, k⟩ := h
    refine ⟨_, (pss_cons (ps_if (pt_cmpR op_eq (pv 1) pe_int (nomark _)) (pss_one (ps_ret (pe_call (ok_can T) (hr.mono (by decide)) rfl T.m_can T.F_can.kp T.b_can .nil pass0 (pa_cons (pv 0) (pa_cons (pe_ix ix_lst (pv 2) pe_int (fun _ _ => rfl)) pa_nil))))) pss_nil)
        (pss_cons (ps_if (pt_cmpR op_eq (pv 1) pe_int (nomark _)) (pss_one (ps_ret (pe_call (ok_waits T) (hr.mono (by decide)) rfl T.m_waits T.F_waits.kp T.b_waits .nil pass0 (pa_cons (pv 0) (pa_cons (pe_ix ix_lst (pv 2) pe_int (fun _ _ => rfl)) pa_nil))))) pss_nil)
        (pss_cons (ps_if (pt_cmpR op_eq (pv 1) pe_int (nomark _)) (pss_one (ps_ret (pe_call (ok_old T) (hr.mono (by decide)) rfl T.m_old T.F_old.kp T.b_old .nil pass0 (pa_cons (pv 0) pa_nil)))) pss_nil)
        (pss_cons (ps_if (pt_cmpR op_eq (pv 1) pe_int (nomark _)) (pss_one (ps_ret (pe_call (ok_cured_in T) (hr.mono (by decide)) rfl T.m_cured_in T.F_cured_in.kp T.b_cured_in .nil pass0 (pa_cons (pv 0) (pa_cons (pe_ix ix_lst (pv 2) pe_int (fun _ _ => rfl)) pa_nil))))) pss_nil)
        (pss_one (ps_ret (pe_call (ok_ahead T) (hr.mono (by decide)) rfl T.m_ahead T.F_ahead.kp T.b_ahead .nil pass0 (pa_cons (pv 0) (pa_cons (pe_ix ix_lst (pv 2) pe_int (fun _ _ => rfl)) pa_nil))))))))), ?_⟩
    have hlen : ∀ k, givenL[n]? = some k → ns.length = k := fun k e => Option.some.inj (hg.symm.trans e)
    have hn : n = 12 ∨ n = 13 ∨ n = 14 ∨ n = 15 ∨ n = 16 := by omega
    rcases hn with rfl | rfl | rfl | rfl | rfl
    · match ns, hl, hlen 1 rfl, hc with
      | [x], hl, _, hc =>
        cases hc
        have hl : H l = some (.lst [natV x]) := hl
        refine ⟨_, rfl, rfl, _, rfl, iteP (by decide) ?_⟩
        exact ⟨_, rfl, _, rfl, l, _, _, _, rfl, rfl, hl, at0, q, y, a, x, rfl, R, G, k⟩
    · match ns, hl, hlen 1 rfl, hc with
      | [x], hl, _, hc =>
        cases hc
        have hl : H l = some (.lst [natV x]) := hl
        refine ⟨_, rfl, rfl, _, rfl, iteN (by decide) ?_⟩
        refine ⟨_, rfl, rfl, _, rfl, iteP (by decide) ?_⟩
        exact ⟨_, rfl, _, rfl, l, _, _, _, rfl, rfl, hl, at0, q, y, a, x, rfl, R, G, k⟩
    · match ns, hl, hlen 0 rfl, hc with
      | [], hl, _, hc =>
        cases hc
        have hl : H l = some (.lst []) := hl
        refine ⟨_, rfl, rfl, _, rfl, iteN (by decide) ?_⟩
        refine ⟨_, rfl, rfl, _, rfl, iteN (by decide) ?_⟩
        refine ⟨_, rfl, rfl, _, rfl, iteP (by decide) ?_⟩
        exact ⟨_, rfl, q, y, a, rfl, R, G, k⟩
    · match ns, hl, hlen 1 rfl, hc with
      | [x], hl, _, hc =>
        cases hc
        have hl : H l = some (.lst [natV x]) := hl
        refine ⟨_, rfl, rfl, _, rfl, iteN (by decide) ?_⟩
        refine ⟨_, rfl, rfl, _, rfl, iteN (by decide) ?_⟩
        refine ⟨_, rfl, rfl, _, rfl, iteN (by decide) ?_⟩
        refine ⟨_, rfl, rfl, _, rfl, iteP (by decide) ?_⟩
        exact ⟨_, rfl, _, rfl, l, _, _, _, rfl, rfl, hl, at0, q, y, a, x, rfl, R, G, D, k⟩
    · match ns, hl, hlen 1 rfl, hc with
      | [x], hl, _, hc =>
        cases hc
        have hl : H l = some (.lst [natV x]) := hl
        refine ⟨_, rfl, rfl, _, rfl, iteN (by decide) ?_⟩
        refine ⟨_, rfl, rfl, _, rfl, iteN (by decide) ?_⟩
        refine ⟨_, rfl, rfl, _, rfl, iteN (by decide) ?_⟩
        refine ⟨_, rfl, rfl, _, rfl, iteN (by decide) ?_⟩
        exact ⟨_, rfl, _, rfl, l, _, _, _, rfl, rfl, hl, at0, q, y, a, x, rfl, R, G, k⟩
abbrev sp_answer_sharing (K : PySem.W.Frag) (A : Adr) : Sp := spCalls 17 19 A
theorem ok_answer_sharing (T : Txt K mg A) : FnOk P w K mg base CX0 5 A.f_answer_sharing A.d_answer_sharing ["plant", "number", "given"] (sp_answer_sharing K A) := by
  refine T.F_answer_sharing.ok sc_answer_sharing (fun vs H Q E h => ?_) (fun cdv A' outer s H vs Q E hr h => ?_)
  · obtain ⟨q, y, a, l, n, ns, c, rfl, _⟩ := h
    rfl
  · obtain ⟨q, y, a, l, n, ns, c, rfl, hl, h1, h2, hg, hc, R, G, D, k⟩ := h
    refine ⟨_, (pss_cons (ps_if (pt_cmpR op_eq (pv 1) pe_int (nomark _)) (pss_one (ps_ret (pe_call (ok_needs T) (hr.mono (by decide)) rfl T.m_needs T.F_needs.kp T.b_needs .nil pass0 (pa_cons (pv 0) (pa_cons (pe_ix ix_lst (pv 2) pe_int (fun _ _ => rfl)) pa_nil))))) pss_nil)
        (pss_cons (ps_if (pt_cmpR op_eq (pv 1) pe_int (nomark _)) (pss_one (ps_ret (pe_call (ok_span T) (hr.mono (by decide)) rfl T.m_span T.F_span.kp T.b_span .nil pass0 (pa_cons (pv 0) (pa_cons (pe_ix ix_lst (pv 2) pe_int (fun _ _ => rfl)) (pa_cons (pe_ix ix_lst (pv 2) pe_int (fun _ _ => rfl)) pa_nil)))))) pss_nil)
        (pss_one (ps_ret (pe_call (ok_share T) (hr.mono (by decide)) rfl T.m_share T.F_share.kp T.b_share .nil pass0 (pa_cons (pv 0) pa_nil)))))), ?_⟩
    have hlen : ∀ k, givenL[n]? = some k → ns.length = k := fun k e => Option.some.inj (hg.symm.trans e)
    have hn : n = 17 ∨ n = 18 ∨ n = 19 := by omega
    rcases hn with rfl | rfl | rfl
    · match ns, hl, hlen 1 rfl, hc with
      | [x], hl, _, hc =>
        cases hc
        have hl : H l = some (.lst [natV x]) := hl
        refine ⟨_, rfl, rfl, _, rfl, iteP (by decide) ?_⟩
        exact ⟨_, rfl, _, rfl, l, _, _, _, rfl, rfl, hl, at0, q, y, a, x, rfl, R, G, k⟩
    · match ns, hl, hlen 2 rfl, hc with
      | [x, z], hl, _, hc =>
        cases hc
        have hl : H l = some (.lst [natV x, natV z]) := hl
        refine ⟨_, rfl, rfl, _, rfl, iteN (by decide) ?_⟩
        refine ⟨_, rfl, rfl, _, rfl, iteP (by decide) ?_⟩
        exact ⟨_, rfl, _, rfl, l, _, _, _, rfl, rfl, hl, at0, _, rfl, l, _, _, _, rfl, rfl, hl, at1, q, y, a, x, z, rfl, R, G, k⟩
    · match ns, hl, hlen 0 rfl, hc with
      | [], hl, _, hc =>
        cases hc
        have hl : H l = some (.lst []) := hl
        refine ⟨_, rfl, rfl, _, rfl, iteN (by decide) ?_⟩
        refine ⟨_, rfl, rfl, _, rfl, iteN (by decide) ?_⟩
        exact ⟨_, rfl, q, y, a, rfl, R, G, k⟩
abbrev sp_answer_telling (K : PySem.W.Frag) (A : Adr) : Sp := spCalls 20 26 A
theorem ok_answer_telling (T : Txt K mg A) : FnOk P w K mg base CX0 3 A.f_answer_telling A.d_answer_telling ["plant", "number", "given"] (sp_answer_telling K A) := by
  refine T.F_answer_telling.ok sc_answer_telling (fun vs H Q E h => ?_) (fun cdv A' outer s H vs Q E hr h => ?_)
  · obtain ⟨q, y, a, l, n, ns, c, rfl, _⟩ := h
    rfl
  · obtain ⟨q, y, a, l, n, ns, c, rfl, hl, h1, h2, hg, hc, R, G, D, k⟩ := h
    refine ⟨_, (pss_cons (ps_if (pt_cmpR op_eq (pv 1) pe_int (nomark _)) (pss_one (ps_ret (pe_call (ok_cured_by T) (hr.mono (by decide)) rfl T.m_cured_by T.F_cured_by.kp T.b_cured_by .nil pass0 (pa_cons (pv 0) (pa_cons (pe_ix ix_lst (pv 2) pe_int (fun _ _ => rfl)) pa_nil))))) pss_nil)
        (pss_cons (ps_if (pt_cmpR op_eq (pv 1) pe_int (nomark _)) (pss_one (ps_ret (pe_call (ok_cured_within T) (hr.mono (by decide)) rfl T.m_cured_within T.F_cured_within.kp T.b_cured_within .nil pass0 (pa_cons (pv 0) (pa_cons (pe_ix ix_lst (pv 2) pe_int (fun _ _ => rfl)) (pa_cons (pe_ix ix_lst (pv 2) pe_int (fun _ _ => rfl)) pa_nil)))))) pss_nil)
        (pss_cons (ps_if (pt_cmpR op_eq (pv 1) pe_int (nomark _)) (pss_one (ps_ret (pe_call (ok_look T) (hr.mono (by decide)) rfl T.m_look T.F_look.kp T.b_look .nil pass0 (pa_cons (pv 0) (pa_cons (pe_ix ix_lst (pv 2) pe_int (fun _ _ => rfl)) pa_nil))))) pss_nil)
        (pss_cons (ps_if (pt_cmpR op_eq (pv 1) pe_int (nomark _)) (pss_one (ps_ret (pe_call (ok_look_at_mould T) (hr.mono (by decide)) rfl T.m_look_at_mould T.F_look_at_mould.kp T.b_look_at_mould .nil pass0 (pa_cons (pv 0) (pa_cons (pe_ix ix_lst (pv 2) pe_int (fun _ _ => rfl)) pa_nil))))) pss_nil)
        (pss_cons (ps_if (pt_cmpR op_eq (pv 1) pe_int (nomark _)) (pss_one (ps_ret (pe_call (ok_look_at_tyre T) (hr.mono (by decide)) rfl T.m_look_at_tyre T.F_look_at_tyre.kp T.b_look_at_tyre .nil pass0 (pa_cons (pv 0) (pa_cons (pe_ix ix_lst (pv 2) pe_int (fun _ _ => rfl)) pa_nil))))) pss_nil)
        (pss_cons (ps_if (pt_cmpR op_eq (pv 1) pe_int (nomark _)) (pss_one (ps_ret (pe_call (ok_sums T) (hr.mono (by decide)) rfl T.m_sums T.F_sums.kp T.b_sums .nil pass0 (pa_cons (pv 0) pa_nil)))) pss_nil)
        (pss_one (ps_ret (pe_call (ok_state T) (hr.mono (by decide)) rfl T.m_state T.F_state.kp T.b_state .nil pass0 (pa_cons (pv 0) pa_nil)))))))))), ?_⟩
    have hlen : ∀ k, givenL[n]? = some k → ns.length = k := fun k e => Option.some.inj (hg.symm.trans e)
    have hn : n = 20 ∨ n = 21 ∨ n = 22 ∨ n = 23 ∨ n = 24 ∨ n = 25 ∨ n = 26 := by omega
    rcases hn with rfl | rfl | rfl | rfl | rfl | rfl | rfl
    · match ns, hl, hlen 1 rfl, hc with
      | [x], hl, _, hc =>
        cases hc
        have hl : H l = some (.lst [natV x]) := hl
        refine ⟨_, rfl, rfl, _, rfl, iteP (by decide) ?_⟩
        exact ⟨_, rfl, _, rfl, l, _, _, _, rfl, rfl, hl, at0, q, y, a, x, rfl, R, G, k⟩
    · match ns, hl, hlen 2 rfl, hc with
      | [x, z], hl, _, hc =>
        cases hc
        have hl : H l = some (.lst [natV x, natV z]) := hl
        refine ⟨_, rfl, rfl, _, rfl, iteN (by decide) ?_⟩
        refine ⟨_, rfl, rfl, _, rfl, iteP (by decide) ?_⟩
        exact ⟨_, rfl, _, rfl, l, _, _, _, rfl, rfl, hl, at0, _, rfl, l, _, _, _, rfl, rfl, hl, at1, q, y, a, x, z, rfl, R, G, k⟩
    · match ns, hl, hlen 1 rfl, hc with
      | [x], hl, _, hc =>
        cases hc
        have hl : H l = some (.lst [natV x]) := hl
        refine ⟨_, rfl, rfl, _, rfl, iteN (by decide) ?_⟩
        refine ⟨_, rfl, rfl, _, rfl, iteN (by decide) ?_⟩
        refine ⟨_, rfl, rfl, _, rfl, iteP (by decide) ?_⟩
        exact ⟨_, rfl, _, rfl, l, _, _, _, rfl, rfl, hl, at0, q, y, a, x, rfl, R, G, k⟩
    · match ns, hl, hlen 1 rfl, hc with
      | [x], hl, _, hc =>
        cases hc
        have hl : H l = some (.lst [natV x]) := hl
        refine ⟨_, rfl, rfl, _, rfl, iteN (by decide) ?_⟩
        refine ⟨_, rfl, rfl, _, rfl, iteN (by decide) ?_⟩
        refine ⟨_, rfl, rfl, _, rfl, iteN (by decide) ?_⟩
        refine ⟨_, rfl, rfl, _, rfl, iteP (by decide) ?_⟩
        exact ⟨_, rfl, _, rfl, l, _, _, _, rfl, rfl, hl, at0, q, y, a, x, rfl, R, G, k⟩
    · match ns, hl, hlen 1 rfl, hc with
      | [x], hl, _, hc =>
        cases hc
        have hl : H l = some (.lst [natV x]) := hl
        refine ⟨_, rfl, rfl, _, rfl, iteN (by decide) ?_⟩
        refine ⟨_, rfl, rfl, _, rfl, iteN (by decide) ?_⟩
        refine ⟨_, rfl, rfl, _, rfl, iteN (by decide) ?_⟩
        refine ⟨_, rfl, rfl, _, rfl, iteN (by decide) ?_⟩
        refine ⟨_, rfl, rfl, _, rfl, iteP (by decide) ?_⟩
        exact ⟨_, rfl, _, rfl, l, _, _, _, rfl, rfl, hl, at0, q, y, a, x, rfl, R, G, k⟩
    · match ns, hl, hlen 0 rfl, hc with
      | [], hl, _, hc =>
        cases hc
        have hl : H l = some (.lst []) := hl
        refine ⟨_, rfl, rfl, _, rfl, iteN (by decide) ?_⟩
        refine ⟨_, rfl, rfl, _, rfl, iteN (by decide) ?_⟩
        refine ⟨_, rfl, rfl, _, rfl, iteN (by decide) ?_⟩
        refine ⟨_, rfl, rfl, _, rfl, iteN (by decide) ?_⟩
        refine ⟨_, rfl, rfl, _, rfl, iteN (by decide) ?_⟩
        refine ⟨_, rfl, rfl, _, rfl, iteP (by decide) ?_⟩
        exact ⟨_, rfl, q, y, a, rfl, R, G, k⟩
    · match ns, hl, hlen 0 rfl, hc with
      | [], hl, _, hc =>
        cases hc
        have hl : H l = some (.lst []) := hl
        refine ⟨_, rfl, rfl, _, rfl, iteN (by decide) ?_⟩
        refine ⟨_, rfl, rfl, _, rfl, iteN (by decide) ?_⟩
        refine ⟨_, rfl, rfl, _, rfl, iteN (by decide) ?_⟩
        refine ⟨_, rfl, rfl, _, rfl, iteN (by decide) ?_⟩
        refine ⟨_, rfl, rfl, _, rfl, iteN (by decide) ?_⟩
        refine ⟨_, rfl, rfl, _, rfl, iteN (by decide) ?_⟩
        exact ⟨_, rfl, q, y, a, rfl, R, G, k⟩
end
end
section
open PySem PySem.Spec PyProof.Rows L2
section
variable {P : Program} {w : World} {K : PySem.W.Frag} {mg : Str → Option Value} {base : Heap} {A : Adr}
theorem told_some {q : Addr} {y : Lay} {H : Hp} {a : Su67.Abs} {c : Su67.Call} {Q : VK} (G : Good a) (D : Held a) (k : ToldO A q y H (Su67.step (some a) c) Q) : Told A q y H true (Su67.does a c) Q := by
  intro H' y' p R f hp hf hl
  have e : Su67.step (some a) c = (some (Su67.does a c).1, (Su67.does a c).2) := by cases c <;> rfl
  rw [e] at k
  exact k H' y' p ⟨R, G.does c, Held.does G D c⟩ f hp hf hl
theorem no_begin {n : Nat} {ns : List Nat} {x z u : Nat} (h0 : n ≠ 0) (hn : n < 27) (h : Su67Neutral.callOf ((n : Int) :: ns.map fun k : Nat => (k : Int)) = some (.begin_ x z u)) : False := by
  rcases split27 n hn with rfl | rfl | rfl | rfl | rfl | rfl | rfl | rfl | rfl | rfl | rfl | rfl | rfl | rfl | rfl | rfl | rfl | rfl | rfl | rfl | rfl | rfl | rfl | rfl | rfl | rfl | rfl
  · exact absurd rfl h0
  all_goals (match ns, h with | [], h => cases h | [_], h => cases h | [_, _], h => cases h | [_, _, _], h => cases h | _ :: _ :: _ :: _ :: _, h => cases h)
theorem ok_answer_call (T : Txt K mg A) : FnOk P w K mg base CX0 8 A.f_answer_call A.d_answer_call ["plant", "number", "given"] (sp_answer_call K A) := by
  refine T.F_answer_call.ok sc_answer_call (fun vs H Q E h => ?_) (fun cdv A' outer s H vs Q E hr h => ?_)
  · obtain ⟨q, y, so, l, n, ns, c, rfl, _⟩ := h
    rfl
  · obtain ⟨q, y, so, l, n, ns, c, rfl, hl, hn, hg, hc, RO, k⟩ := h
    refine ⟨_, (pss_cons (ps_if (pt_cmpR op_eq (pv 1) pe_int (nomark _)) (pss_one (ps_ret (pe_call (ok_begin T) (hr.mono (by decide)) rfl T.m_begin T.F_begin.kp T.b_begin .nil pass0 (pa_cons (pv 0) (pa_cons (pe_ix ix_lst (pv 2) pe_int (fun _ _ => rfl)) (pa_cons (pe_ix ix_lst (pv 2) pe_int (fun _ _ => rfl)) (pa_cons (pe_ix ix_lst (pv 2) pe_int (fun _ _ => rfl)) pa_nil))))))) pss_nil)
        (pss_cons (ps_if (pt_not (pt_val (pe_fld (pv 0) rfl))) (pss_one (ps_ret (pe_lst (pa_cons (pe_gi rfl T.v_NOT_BEGUN) pa_nil)))) pss_nil)
        (pss_cons (ps_if (pt_cmpR op_le (pv 1) pe_int (nomark _)) (pss_one (ps_ret (pe_call (ok_answer_adding T) (hr.mono (by decide)) rfl T.m_answer_adding T.F_answer_adding.kp T.b_answer_adding .nil pass0 (pa_cons (pv 0) (pa_cons (pv 1) (pa_cons (pv 2) pa_nil)))))) pss_nil)
        (pss_cons (ps_if (pt_cmpR op_le (pv 1) pe_int (nomark _)) (pss_one (ps_ret (pe_call (ok_answer_handling T) (hr.mono (by decide)) rfl T.m_answer_handling T.F_answer_handling.kp T.b_answer_handling .nil pass0 (pa_cons (pv 0) (pa_cons (pv 1) (pa_cons (pv 2) pa_nil)))))) pss_nil)
        (pss_cons (ps_if (pt_cmpR op_le (pv 1) pe_int (nomark _)) (pss_one (ps_ret (pe_call (ok_answer_asking T) (hr.mono (by decide)) rfl T.m_answer_asking T.F_answer_asking.kp T.b_answer_asking .nil pass0 (pa_cons (pv 0) (pa_cons (pv 1) (pa_cons (pv 2) pa_nil)))))) pss_nil)
        (pss_cons (ps_if (pt_cmpR op_le (pv 1) pe_int (nomark _)) (pss_one (ps_ret (pe_call (ok_answer_sharing T) (hr.mono (by decide)) rfl T.m_answer_sharing T.F_answer_sharing.kp T.b_answer_sharing .nil pass0 (pa_cons (pv 0) (pa_cons (pv 1) (pa_cons (pv 2) pa_nil)))))) pss_nil)
        (pss_one (ps_ret (pe_call (ok_answer_telling T) (hr.mono (by decide)) rfl T.m_answer_telling T.F_answer_telling.kp T.b_answer_telling .nil pass0 (pa_cons (pv 0) (pa_cons (pv 1) (pa_cons (pv 2) pa_nil)))))))))))), ?_⟩
    have hlen : ∀ k, givenL[n]? = some k → ns.length = k := fun k e => Option.some.inj (hg.symm.trans e)
    by_cases h0 : n = 0
    · subst h0
      match ns, hlen 3 rfl with
      | [x, z, u], _ =>
        cases hc
        simp! only [T.all, hl, at0, at1, at2, natV]
        rw [if_pos (by decide)]
        cases so with
        | none =>
          obtain ⟨a, R⟩ := RO
          refine ⟨q, y, false, a, x, z, u, rfl, R, ?_⟩
          by_cases hb : 500 < x ∨ z = 0 ∨ 1000 < z ∨ u = 0 ∨ 1000 < u
          · rw [if_pos hb]
            have e : Su67.step none (.begin_ x z u) = (none, Su67.no (-22)) := by
              show (if (if 500 < x ∨ z = 0 ∨ 1000 < z ∨ u = 0 ∨ 1000 < u then (_, Su67.no (-22)) else _ : Su67.Abs × Su67.Ans).2.value < 0 then none else some _, (if 500 < x ∨ z = 0 ∨ 1000 < z ∨ u = 0 ∨ 1000 < u then (_, Su67.no (-22)) else _ : Su67.Abs × Su67.Ans).2) = _
              rw [if_pos hb]
              rfl
            have k : ToldO A q y H (Su67.step none (.begin_ x z u)) Q := k
            rw [e] at k
            exact fun H' y' p R' f hp hf hl => k H' y' p ⟨_, R'⟩ f hp hf hl
          · rw [if_neg hb]
            have e : Su67.step none (.begin_ x z u) = (some (Su67.new x z u), Su67.no 0) := by
              show (if (if 500 < x ∨ z = 0 ∨ 1000 < z ∨ u = 0 ∨ 1000 < u then _ else (Su67.new x z u, Su67.no 0) : Su67.Abs × Su67.Ans).2.value < 0 then none else some (if 500 < x ∨ z = 0 ∨ 1000 < z ∨ u = 0 ∨ 1000 < u then _ else (Su67.new x z u, Su67.no 0) : Su67.Abs × Su67.Ans).1, (if 500 < x ∨ z = 0 ∨ 1000 < z ∨ u = 0 ∨ 1000 < u then _ else (Su67.new x z u, Su67.no 0) : Su67.Abs × Su67.Ans).2) = _
              rw [if_neg hb]
              rfl
            have k : ToldO A q y H (Su67.step none (.begin_ x z u)) Q := k
            rw [e] at k
            exact fun H' y' p R' f hp hf hl => k H' y' p ⟨R', good_new x z u, held_new x z u⟩ f hp hf hl
        | some a =>
          obtain ⟨R, G, D⟩ := RO
          refine ⟨q, y, true, a, x, z, u, rfl, R, ?_⟩
          have k : Told A q y H true (Su67.does a (.begin_ x z u)) Q := told_some G D k
          have e : Su67.does a (.begin_ x z u) = if 500 < x ∨ z = 0 ∨ 1000 < z ∨ u = 0 ∨ 1000 < u then (a, Su67.no (-22)) else (Su67.new x z u, Su67.no 0) := rfl
          by_cases hb : 500 < x ∨ z = 0 ∨ 1000 < z ∨ u = 0 ∨ 1000 < u
          · rw [e, if_pos hb] at k
            rw [if_pos hb]
            exact k
          · rw [e, if_neg hb] at k
            rw [if_neg hb]
            exact k
    · obtain ⟨b, a, R⟩ := RO.rep
      obtain ⟨dx, hq⟩ := id R.pl
      cases so with
      | none =>
        obtain ⟨a, R⟩ := RO
        obtain ⟨dx, hq⟩ := id R.pl
        simp! only [T.all, hl, hq]
        rw [if_neg (by omega)]
        have e : Su67.step none c = (none, Su67.no (-11)) := by
          cases c with
          | begin_ x z u =>
            exfalso
            match n, h0, hn, ns, hc with
            | n + 1, _, hn, ns, hc => exact no_begin (by omega) hn hc
          | _ => rfl
        rw [e] at k
        refine ⟨size1, fun p hp => ?_⟩
        exact k _ y p ⟨a, R.same (same_new hp)⟩ (Frame.of_same (same_new hp)) hp (R.nofoot hp) upd_same
      | some a =>
        obtain ⟨R, G, D⟩ := RO
        obtain ⟨dx, hq⟩ := id R.pl
        have k := told_some G D k
        simp! only [T.all, hl, hq]
        rw [if_neg (by omega)]
        refine ite2 (fun h4 => ?_) fun h4 => ite2 (fun h5 => ?_) fun h5 => ite2 (fun h6 => ?_) fun h6 => ite2 (fun h7 => ?_) fun h7 => ?_
        · exact ⟨q, y, a, l, n, ns, c, rfl, hl, by omega, by omega, hg, hc, R, G, D, k⟩
        · exact ⟨q, y, a, l, n, ns, c, rfl, hl, by omega, by omega, hg, hc, R, G, D, k⟩
        · exact ⟨q, y, a, l, n, ns, c, rfl, hl, by omega, by omega, hg, hc, R, G, D, k⟩
        · exact ⟨q, y, a, l, n, ns, c, rfl, hl, by omega, by omega, hg, hc, R, G, D, k⟩
        · exact ⟨q, y, a, l, n, ns, c, rfl, hl, by omega, by omega, hg, hc, R, G, D, k⟩
theorem ok_answers (T : Txt K mg A) : FnOk P w K mg base CX0 9 A.f_answers A.d_answers ["calls"] (sp_answers K A) := ok_answers_of T (ok_answer_call T)
end
end
section
open PySem PySem.Spec PyProof.Rows L2
open PySem.W (Frag nsIn findIn isFn codeIn keepIn plainGet hasDictIn plainOver makesIn fnOf)
def adrs : List Nat := [2, 3, 22, 24, 25, 27, 28, 29, 30, 31, 32, 33, 43, 45, 46, 48, 49, 50, 51, 52, 53, 54, 64, 66, 67, 69, 70, 71, 72, 73, 74, 75, 85, 87, 88, 90, 91, 92, 93, 94, 95, 96, 106, 108, 109, 111, 112, 113, 115, 116, 118, 119, 120, 121, 122, 123, 124, 127, 129, 130, 132, 133, 134, 136, 137, 139, 140, 141, 143, 144, 146, 147, 148, 150, 151, 153, 154, 155, 157, 158, 160, 161, 162, 164, 165, 167, 168, 169, 171, 172, 174, 175, 176, 179, 180, 181, 184, 185, 186, 189, 190, 191, 193, 194, 196, 197, 198, 200, 201, 203, 204, 205, 207, 208, 210, 211, 212, 214, 215, 217, 218, 219, 221, 222, 224, 225, 226, 229, 230, 231, 233, 234, 236, 237, 238, 240, 241, 243, 244, 245, 247, 248, 250, 251, 252, 254, 255, 257, 258, 259, 261, 262, 264, 265, 266, 268, 269, 271, 272, 273, 275, 276, 278, 279, 280, 282, 283, 285, 286, 287, 289, 290, 292, 293, 294, 296, 297, 299, 300, 301, 303, 304, 306, 307, 308, 311, 312, 313, 315, 316, 318, 319, 320, 322, 323, 325, 326, 327, 329, 330, 332, 333, 334, 336, 337, 339, 340, 341, 343, 344, 346, 347, 348, 351, 352, 353, 355, 356, 358, 359, 360, 362, 363, 365, 366, 367, 369, 370, 372, 373, 374, 376, 377, 379, 380, 381, 383, 384, 386, 387, 388, 391, 392, 393, 395, 396, 398, 399, 400, 402, 403, 405, 406, 407, 410, 411, 412, 414, 415, 417, 418, 419, 421, 422, 424, 425, 426, 429, 430, 431, 434, 435, 436, 439, 440, 441, 443, 444, 446, 447, 448, 450, 451, 453, 454, 455, 457, 458, 460, 461, 462, 464, 465, 467, 468, 469, 472, 473, 474, 476, 477, 479, 480, 481, 483, 484, 486, 487, 488, 489, 491, 492, 494, 495, 496, 498, 499, 501, 502]
def fragOf (h : Heap) : Frag := adrs.filterMap fun a => (h.get? a).map fun o => (a, o)
theorem frag_in (h : Heap) : ∀ l : List Nat, Frag.In (l.filterMap fun a => (h.get? a).map fun o => (a, o)) h
  | [], a, o, e => by cases e
  | b :: l, a, o, e => by
    cases hb : h.get? b with
    | none =>
      rw [List.filterMap_cons, hb] at e
      exact frag_in h l a o e
    | some u =>
      rw [List.filterMap_cons, hb] at e
      change List.lookup a ((b, u) :: _) = some o at e
      rw [List.lookup_cons] at e
      by_cases q : a = b
      · subst q
        rw [beq_self_eq_true] at e
        rw [hb, Option.some.inj e]
      · rw [beq_false_of_ne q] at e
        exact frag_in h l a o e
def refOf : Option (Option Value) → Addr
  | some (some (.ref a)) => a
  | _ => 0
def isRef : Option (Option Value) → Bool
  | some (some (.ref _)) => true
  | _ => false
def isNo : Option (Option Value) → Bool
  | some none => true
  | _ => false
def isI (n : Int) : Option (Option Value) → Bool
  | some (some (.int i _)) => decide (i = n)
  | _ => false
def isB (n : String) : Option (Option Value) → Bool
  | some (some (.builtin b)) => decide (b = n)
  | _ => false
theorem ref_of {x : Option (Option Value)} (h : isRef x = true) : x = some (some (.ref (refOf x))) := by
  unfold isRef at h
  split at h
  · rfl
  · cases h
theorem no_of {x : Option (Option Value)} (h : isNo x = true) : x = some none := by
  unfold isNo at h
  split at h
  · rfl
  · cases h
theorem int_of {x : Option (Option Value)} {n : Int} (h : isI n x = true) : ∃ t, x = some (some (.int n t)) := by
  unfold isI at h
  split at h
  · exact ⟨_, by rw [of_decide_eq_true h]⟩
  · cases h
theorem blt_of {x : Option (Option Value)} {n : String} (h : isB n x = true) : x = some (some (.builtin n)) := by
  unfold isB at h
  split at h
  · rw [of_decide_eq_true h]
  · cases h
/-- a def of the text: its name, its full name, where it stands, its class -/
structure DRow where
  x : Str
  q : Str
  s : Stmt
  c : Option Str
abbrev r_Kind_init : DRow := ⟨"__init__", "Kind.__init__", s_Kind_init, some "Kind"⟩
abbrev r_Mould_init : DRow := ⟨"__init__", "Mould.__init__", s_Mould_init, some "Mould"⟩
abbrev r_Press_init : DRow := ⟨"__init__", "Press.__init__", s_Press_init, some "Press"⟩
abbrev r_Tyre_init : DRow := ⟨"__init__", "Tyre.__init__", s_Tyre_init, some "Tyre"⟩
abbrev r_Plant_init : DRow := ⟨"__init__", "Plant.__init__", s_Plant_init, some "Plant"⟩
abbrev r_Plant_start_anew : DRow := ⟨"start_anew", "Plant.start_anew", s_Plant_start_anew, some "Plant"⟩
abbrev r_begin : DRow := ⟨"begin", "begin", s_begin, none⟩
abbrev r_add_kind : DRow := ⟨"add_kind", "add_kind", s_add_kind, none⟩
abbrev r_add_mould : DRow := ⟨"add_mould", "add_mould", s_add_mould, none⟩
abbrev r_add_press : DRow := ⟨"add_press", "add_press", s_add_press, none⟩
abbrev r_add_green : DRow := ⟨"add_green", "add_green", s_add_green, none⟩
abbrev r_answer_adding : DRow := ⟨"answer_adding", "answer_adding", s_answer_adding, none⟩
abbrev r_too_old : DRow := ⟨"too_old", "too_old", s_too_old, none⟩
abbrev r_ready_tyres : DRow := ⟨"ready_tyres", "ready_tyres", s_ready_tyres, none⟩
abbrev r_old_tyres : DRow := ⟨"old_tyres", "old_tyres", s_old_tyres, none⟩
abbrev r_count_at : DRow := ⟨"count_at", "count_at", s_count_at, none⟩
abbrev r_why_not : DRow := ⟨"why_not", "why_not", s_why_not, none⟩
abbrev r_put_in : DRow := ⟨"put_in", "put_in", s_put_in, none⟩
abbrev r_load_presses : DRow := ⟨"load_presses", "load_presses", s_load_presses, none⟩
abbrev r_finish_cure : DRow := ⟨"finish_cure", "finish_cure", s_finish_cure, none⟩
abbrev r_work_on : DRow := ⟨"work_on", "work_on", s_work_on, none⟩
abbrev r_pass_minutes : DRow := ⟨"pass_minutes", "pass_minutes", s_pass_minutes, none⟩
abbrev r_fit : DRow := ⟨"fit", "fit", s_fit, none⟩
abbrev r_renew_bladder : DRow := ⟨"renew_bladder", "renew_bladder", s_renew_bladder, none⟩
abbrev r_clean : DRow := ⟨"clean", "clean", s_clean, none⟩
abbrev r_load : DRow := ⟨"load", "load", s_load, none⟩
abbrev r_set_auto : DRow := ⟨"set_auto", "set_auto", s_set_auto, none⟩
abbrev r_minutes : DRow := ⟨"minutes", "minutes", s_minutes, none⟩
abbrev r_scrap : DRow := ⟨"scrap", "scrap", s_scrap, none⟩
abbrev r_answer_handling : DRow := ⟨"answer_handling", "answer_handling", s_answer_handling, none⟩
abbrev r_same_mould : DRow := ⟨"same_mould", "same_mould", s_same_mould, none⟩
abbrev r_same_press : DRow := ⟨"same_press", "same_press", s_same_press, none⟩
abbrev r_same_tyre : DRow := ⟨"same_tyre", "same_tyre", s_same_tyre, none⟩
abbrev r_same_plant : DRow := ⟨"same_plant", "same_plant", s_same_plant, none⟩
abbrev r_later : DRow := ⟨"later", "later", s_later, none⟩
abbrev r_can : DRow := ⟨"can", "can", s_can, none⟩
abbrev r_waits : DRow := ⟨"waits", "waits", s_waits, none⟩
abbrev r_old : DRow := ⟨"old", "old", s_old, none⟩
abbrev r_cured_in : DRow := ⟨"cured_in", "cured_in", s_cured_in, none⟩
abbrev r_ahead : DRow := ⟨"ahead", "ahead", s_ahead, none⟩
abbrev r_answer_asking : DRow := ⟨"answer_asking", "answer_asking", s_answer_asking, none⟩
abbrev r_begun_in_time : DRow := ⟨"begun_in_time", "begun_in_time", s_begun_in_time, none⟩
abbrev r_needs : DRow := ⟨"needs", "needs", s_needs, none⟩
abbrev r_time_by : DRow := ⟨"time_by", "time_by", s_time_by, none⟩
abbrev r_span : DRow := ⟨"span", "span", s_span, none⟩
abbrev r_count_moulds : DRow := ⟨"count_moulds", "count_moulds", s_count_moulds, none⟩
abbrev r_ways_to_share : DRow := ⟨"ways_to_share", "ways_to_share", s_ways_to_share, none⟩
abbrev r_time_of_way : DRow := ⟨"time_of_way", "time_of_way", s_time_of_way, none⟩
abbrev r_share : DRow := ⟨"share", "share", s_share, none⟩
abbrev r_answer_sharing : DRow := ⟨"answer_sharing", "answer_sharing", s_answer_sharing, none⟩
abbrev r_number_and_one : DRow := ⟨"number_and_one", "number_and_one", s_number_and_one, none⟩
abbrev r_cured_tyres : DRow := ⟨"cured_tyres", "cured_tyres", s_cured_tyres, none⟩
abbrev r_cured_by : DRow := ⟨"cured_by", "cured_by", s_cured_by, none⟩
abbrev r_cured_within : DRow := ⟨"cured_within", "cured_within", s_cured_within, none⟩
abbrev r_doing : DRow := ⟨"doing", "doing", s_doing, none⟩
abbrev r_look : DRow := ⟨"look", "look", s_look, none⟩
abbrev r_look_at_mould : DRow := ⟨"look_at_mould", "look_at_mould", s_look_at_mould, none⟩
abbrev r_look_at_tyre : DRow := ⟨"look_at_tyre", "look_at_tyre", s_look_at_tyre, none⟩
abbrev r_sums : DRow := ⟨"sums", "sums", s_sums, none⟩
abbrev r_state : DRow := ⟨"state", "state", s_state, none⟩
abbrev r_answer_telling : DRow := ⟨"answer_telling", "answer_telling", s_answer_telling, none⟩
abbrev r_answer_call : DRow := ⟨"answer_call", "answer_call", s_answer_call, none⟩
abbrev r_answers : DRow := ⟨"answers", "answers", s_answers, none⟩
def dtab : List DRow := [r_Kind_init, r_Mould_init, r_Press_init, r_Tyre_init, r_Plant_init, r_Plant_start_anew, r_begin, r_add_kind, r_add_mould, r_add_press, r_add_green, r_answer_adding, r_too_old, r_ready_tyres, r_old_tyres, r_count_at, r_why_not, r_put_in, r_load_presses, r_finish_cure, r_work_on, r_pass_minutes, r_fit, r_renew_bladder, r_clean, r_load, r_set_auto, r_minutes, r_scrap, r_answer_handling, r_same_mould, r_same_press, r_same_tyre, r_same_plant, r_later, r_can, r_waits, r_old, r_cured_in, r_ahead, r_answer_asking, r_begun_in_time, r_needs, r_time_by, r_span, r_count_moulds, r_ways_to_share, r_time_of_way, r_share, r_answer_sharing, r_number_and_one, r_cured_tyres, r_cured_by, r_cured_within, r_doing, r_look, r_look_at_mould, r_look_at_tyre, r_sums, r_state, r_answer_telling, r_answer_call, r_answers]
def clsAt (K : Frag) (c : Str) : Addr := refOf (nsIn K mainGlobals c)
def slotAt (K : Frag) (d : DRow) : Option (Option Value) := match d.c with
  | none => nsIn K mainGlobals d.x
  | some c => findIn K (.ref (clsAt K c)) d.x
def fnAt (K : Frag) (d : DRow) : Addr := refOf (slotAt K d)
def fdIn (K : Frag) (f : Addr) : Option FuncData := match K.lookup f with
  | some ⟨_, _, .func fd, _⟩ => some fd
  | _ => none
def bareF (fd : FuncData) : FuncData := { fd with kwdefaults := .none, doc := .none, pyModule := .none, annotations := none, code := .none, closureTuple := .none }
def views (K : Frag) : List (Option FuncData) := dtab.map fun d => (fdIn K (fnAt K d)).map bareF
def due : List (Option FuncData) := dtab.map fun d => some (fnOf d.x d.q (defArgs d.s) (defBody d.s) (defScope d.s) .none .none .none .none none .none .none)
def chkD (K : Frag) (d : DRow) : Bool := isRef (slotAt K d) && (d.c.isNone || isFn K (.ref (fnAt K d))) && keepIn K (.ref (fnAt K d)) && (match fdIn K (fnAt K d) with
  | some fd => codeIn K fd.code d.q
  | none => false)
def ctab : List (Str × List Str) := [("Kind", ["cure", "wait"]), ("Mould", ["kind", "cures", "press"]), ("Press", ["mould", "bladder", "cures", "left", "tyre"]), ("Tyre", ["kind", "came", "stage", "press", "mould", "bladder", "cured"]), ("Plant", ["begun", "change", "bladder_cures", "mould_cures", "minute", "auto", "kinds", "moulds", "presses", "tyres"])]
def chkC (K : Frag) (c : Str × List Str) : Bool := isRef (nsIn K mainGlobals c.1) && plainGet K (clsAt K c.1) Str.empty && hasDictIn K (clsAt K c.1) && plainOver K (clsAt K c.1) && isB "object.__setattr__" (findIn K (.ref (clsAt K c.1)) "__setattr__") && makesIn K (clsAt K c.1) && keepIn K (.ref (clsAt K c.1)) && c.2.all fun f => isNo (findIn K (.ref (clsAt K c.1)) f)
def ktab : List (Str × Int) := [("NONE_SUCH", -2), ("NO_MOULD", -6), ("NOT_BEGUN", -11), ("DIRTY", -13), ("WORN", -14), ("NOT_IDLE", -16), ("ALREADY", -17), ("OUT_OF_RANGE", -22), ("TOO_MANY", -28), ("CANNOT_BE", -33), ("TOO_OLD", -75), ("WAITS", 0), ("PRESSED", 1), ("CURED", 2), ("SCRAPPED", 3), ("MOST_CHANGE", 500), ("MOST_CURES", 1000), ("MOST_CURE", 500), ("MOST_WAIT", 10000), ("MOST_KINDS", 5), ("MOST_MOULDS", 8), ("MOST_PRESSES", 5), ("MOST_TYRES", 60), ("MOST_MINUTES", 500), ("FARTHEST", 1000), ("IDLE", 0), ("CHANGED", 1), ("CURES", 2)]
def btab : List Str := ["len", "range", "enumerate", "min", "max", "sum"]
def apart (K : Frag) : List (Str × List Str) → Bool
  | [] => true
  | c :: r => (r.all fun e => !decide (clsAt K c.1 = clsAt K e.1)) && apart K r
def intOf : Value → Option Int
  | .int i _ => some i
  | _ => none
def seqAt (K : Frag) (g : Addr) : Option (List (Option Int)) := match K.lookup g with
  | some o => (match o.data with
    | .seq its _ => if o.cls = .type "tuple" ∧ its.size ≤ sizeLine then some (its.toList.map intOf) else none
    | _ => none)
  | none => none
def GIVENL : List Int := [3, 2, 1, 0, 1, 2, 1, 1, 2, 1, 1, 1, 1, 1, 0, 1, 1, 1, 2, 0, 1, 2, 1, 1, 1, 0, 0]
def chk (K : Frag) : Bool := ctab.all (chkC K) && dtab.all (chkD K) && (ktab.all fun k => isI k.2 (nsIn K mainGlobals k.1)) && (btab.all fun b => isNo (nsIn K mainGlobals b)) && apart K ctab && isRef (nsIn K mainGlobals "GIVEN") && decide (seqAt K (clsAt K "GIVEN") = some (GIVENL.map some))
def looks (x : Shared × PySem.W.SharedT) : Bool × List (Option FuncData) := (fun K => (chk K, views K)) (fragOf x.2.abs.heap)
theorem twinsMade2 : ((fun (_ : Shared × PySem.W.SharedT → Bool × List (Option FuncData)) (_ : List (Option FuncData)) => true) looks due) = true := by
  k_qdec
end
section
open PySem PySem.W PyProof.Rows
theorem looked (w : World) : (ranP w).map looks = some (true, due) := by
  rw [PySem.W.Fast.te11332916368411764009, PySem.W.Fast.te8653430587617392915, PySem.W.Fast.te15008500356046984073]
  kernel_rfl
end
section
open PySem PySem.W PyProof.Rows PySem.Calls
def hookP : Hook where
  α := Bool × List (Option FuncData)
  obs := fun s => (fun K => (chk K, views K)) (fragOf s.heap)
  val := fun _ => (true, due)
  says := fun _ h => ∃ K : Frag, K.In h ∧ chk K = true ∧ views K = due
  of := fun _ s e => ⟨fragOf s.heap, frag_in s.heap adrs, (Prod.mk.inj e).1, (Prod.mk.inj e).2⟩
  keeps := fun _ _ _ h k => let ⟨K, h1, h2, h3⟩ := h; ⟨K, Frag.In.keeps h1 k, h2, h3⟩
theorem leftP : LeftO pwP viewP [] (fun s => xlAt viewP [] s && recOk [] s) (Hook.obs hookP) (Hook.val hookP) 6752 := by
  intro w
  obtain ⟨x, hx, hA⟩ := Option.map_eq_some_iff.mp (sawA w)
  obtain ⟨x2, hx2, hB⟩ := Option.map_eq_some_iff.mp (sawB w)
  have e2 : x2 = x := Option.some.inj (hx2.symm.trans hx)
  subst e2
  obtain ⟨x3, hx3, hC⟩ := Option.map_eq_some_iff.mp (sawC w)
  have e3 : x3 = x2 := Option.some.inj (hx3.symm.trans hx)
  subst e3
  obtain ⟨x4, hx4, hD⟩ := Option.map_eq_some_iff.mp (sawD w)
  have e4 : x4 = x3 := Option.some.inj (hx4.symm.trans hx)
  subst e4
  obtain ⟨x, hx', hl⟩ := Option.map_eq_some_iff.mp (looked w)
  have e5 : x = x4 := Option.some.inj (hx'.symm.trans hx)
  subst e5
  have hA := Prod.mk.inj hA
  have hB := Prod.mk.inj hB
  have hC := Prod.mk.inj hC
  have hD := Prod.mk.inj hD
  have hB2 := Prod.mk.inj hB.2
  have hD2 := Prod.mk.inj hD.2
  have ho : openEnds treeTable pwP w 6752 = some x.2.abs := runT_open hx hD2.2
  have hs : sawP x = openGood viewP [] := Prod.ext hA.1 (Prod.ext hB2.1 (Prod.ext hB.1 (Prod.ext hA.2 (Prod.ext hB2.2 (Prod.ext hC.1 (Prod.ext hD.1 (Prod.ext hC.2 hD2.1)))))))
  rw [ho]
  have hl : Hook.obs hookP x.2.abs = Hook.val hookP w := hl
  show some (sawP x, Hook.obs hookP x.2.abs) = some (openGood viewP [], Hook.val hookP w)
  rw [hs, hl]
end
section
open PySem PySem.Spec PyProof.Rows L2
open PySem.W (Frag nsIn findIn isFn codeIn keepIn plainGet hasDictIn plainOver makesIn fnOf)
theorem vals_of : ∀ (us : List Value) (ns : List Int), us.map intOf = ns.map some → Vals (ns.map V.int) us
  | [], [], _ => .nil
  | [], n :: ns, h => by cases h
  | u :: us, [], h => by cases h
  | u :: us, n :: ns, h => by
    have h1 : intOf u = some n := (List.cons.inj h).1
    have h2 : us.map intOf = ns.map some := (List.cons.inj h).2
    refine .cons ?_ (vals_of us ns h2)
    unfold intOf at h1
    split at h1
    · cases h1; exact ⟨_, rfl⟩
    · cases h1
theorem all_at {α : Type} {l : List α} {p : α → Bool} (h : l.all p = true) {i : Nat} {x : α} (e : l[i]? = some x) : p x = true := List.all_eq_true.mp h x (List.mem_of_getElem? e)
theorem fd_lookup {K : Frag} {f : Addr} {fd : FuncData} (h : fdIn K f = some fd) : ∃ oc od osl, K.lookup f = some ⟨oc, od, .func fd, osl⟩ := by
  unfold fdIn at h
  split at h
  · rename_i e
    cases h
    exact ⟨_, _, _, e⟩
  · cases h
theorem bare_of {fd : FuncData} {x q : Str} {a : Arguments} {b : List Stmt} {s : Scope} (h : bareF fd = fnOf x q a b s .none .none .none .none none .none .none) : fd = fnOf x q a b s .none fd.kwdefaults fd.doc fd.pyModule fd.annotations fd.code fd.closureTuple := by
  cases fd
  simp only [bareF, FuncData.mk.injEq] at h ⊢
  obtain ⟨h1, h2, h3, h4, h5, h6, h7, h8, _, _, _, _, _, _, h9⟩ := h
  exact ⟨h1, h2, h3, h4, h5, h6, h7, h8, trivial, trivial, trivial, trivial, trivial, trivial, h9⟩
theorem view_at {K : Frag} (hv : views K = due) {i : Nat} {d : DRow} (e : dtab[i]? = some d) : (fdIn K (fnAt K d)).map bareF = some (fnOf d.x d.q (defArgs d.s) (defBody d.s) (defScope d.s) .none .none .none .none none .none .none) := by
  have h := congrArg (fun l => l[i]?) hv
  unfold views due at h
  simp only [List.getElem?_map, e, Option.map_some] at h
  exact Option.some.inj h
theorem def_of {K : Frag} {d : DRow} (h : chkD K d = true) (hv : (fdIn K (fnAt K d)).map bareF = some (fnOf d.x d.q (defArgs d.s) (defBody d.s) (defScope d.s) .none .none .none .none none .none .none)) :
    slotAt K d = some (some (.ref (fnAt K d))) ∧ (d.c.isNone || isFn K (.ref (fnAt K d))) = true ∧ keepIn K (.ref (fnAt K d)) = true ∧ Fun K d.x d.q d.s (fnAt K d) ((fdIn K (fnAt K d)).getD default) := by
  unfold chkD at h
  rw [Bool.and_eq_true, Bool.and_eq_true, Bool.and_eq_true] at h
  obtain ⟨⟨⟨h1, h2⟩, h3⟩, h4⟩ := h
  refine ⟨ref_of h1, h2, h3, ?_, h3⟩
  cases hf : fdIn K (fnAt K d) with
  | none => rw [hf] at hv; cases hv
  | some fd =>
    rw [hf] at hv h4
    obtain ⟨oc, od, osl, hl⟩ := fd_lookup hf
    have hb := bare_of (Option.some.inj hv)
    exact ⟨oc, od, _, _, _, _, _, _, osl, hb, hl, h4⟩
theorem cls_of {K : Frag} {c : Str × List Str} (h : chkC K c = true) :
    nsIn K mainGlobals c.1 = some (some (.ref (clsAt K c.1))) ∧ Cls K (clsAt K c.1) ∧ makesIn K (clsAt K c.1) = true ∧ keepIn K (.ref (clsAt K c.1)) = true ∧ ∀ (i : Nat) (f : Str), c.2[i]? = some f → NoAttr K (clsAt K c.1) f := by
  unfold chkC at h
  simp only [Bool.and_eq_true] at h
  obtain ⟨⟨⟨⟨⟨⟨⟨h1, h2⟩, h3⟩, h4⟩, h5⟩, h6⟩, h7⟩, h8⟩ := h
  exact ⟨ref_of h1, ⟨h2, h3, h4, blt_of h5⟩, h6, h7, fun i f e => no_of (all_at h8 e)⟩
theorem apart_at {K : Frag} : ∀ {l : List (Str × List Str)} (i j : Nat) {c e : Str × List Str}, apart K l = true → l[i]? = some c → l[j]? = some e → i < j → clsAt K c.1 ≠ clsAt K e.1
  | [], i, j, c, e, _, h, _, _ => by simp at h
  | a :: l, 0, j + 1, c, e, h, h1, h2, _ => by
    unfold apart at h
    rw [Bool.and_eq_true] at h
    have q := all_at h.1 (i := j) (x := e) h2
    have e1 : a = c := Option.some.inj h1
    subst e1
    simpa using q
  | a :: l, i + 1, j + 1, c, e, h, h1, h2, hij => by
    unfold apart at h
    rw [Bool.and_eq_true] at h
    exact apart_at i j h.2 h1 h2 (by omega)
  | a :: l, i, 0, c, e, h, h1, h2, hij => by omega
theorem seq_of {K : Frag} {g : Addr} {ns : List Int} (h : seqAt K g = some (ns.map some)) : ∃ (o : Obj) (its : Array Value) (n : Nat), K.lookup g = some o ∧ o.cls = .type "tuple" ∧ o.data = .seq its n ∧ its.size ≤ sizeLine ∧ its.toList.map intOf = ns.map some := by
  unfold seqAt at h
  split at h
  · rename_i o ho
    split at h
    · rename_i its n hd
      split at h
      · rename_i hc
        exact ⟨o, its, n, ho, hc.1, hd, hc.2, Option.some.inj h⟩
      · cases h
    · cases h
  · cases h
theorem head_of {P : Program} {w : World} {K : Frag} {h : Heap} {mg : Str → Option Value} {fa : Addr} (X : K.In h) (G : h.Ns mainGlobals mg) (hfa : mg "answers" = some (.ref fa)) (hc : chk K = true) (hv : views K = due) :
    ∃ fd : FuncData, (∀ (s : Shared) (us : List Value), us.length = (["calls"] : List Str).length → BindsTo s fd ⟨us, []⟩ ((["calls"] : List Str).zip us)) ∧ ∀ base : Heap, K.In base → base.Ns mainGlobals mg → FnOk P w K mg base CX0 9 fa fd ["calls"] (sp_ans K) := by
  unfold chk at hc
  simp only [Bool.and_eq_true] at hc
  obtain ⟨⟨⟨⟨⟨⟨hC, hD⟩, hK⟩, hB⟩, hA⟩, hG⟩, hS⟩ := hc
  obtain ⟨og, ig, ng, g1, g2, g3, g4, g5⟩ := seq_of (of_decide_eq_true hS)
  have C_Kind := cls_of (all_at hC (i := 0) (x := ("Kind", ["cure", "wait"])) rfl)
  have C_Mould := cls_of (all_at hC (i := 1) (x := ("Mould", ["kind", "cures", "press"])) rfl)
  have C_Press := cls_of (all_at hC (i := 2) (x := ("Press", ["mould", "bladder", "cures", "left", "tyre"])) rfl)
  have C_Tyre := cls_of (all_at hC (i := 3) (x := ("Tyre", ["kind", "came", "stage", "press", "mould", "bladder", "cured"])) rfl)
  have C_Plant := cls_of (all_at hC (i := 4) (x := ("Plant", ["begun", "change", "bladder_cures", "mould_cures", "minute", "auto", "kinds", "moulds", "presses", "tyres"])) rfl)
  have D_Kind_init := def_of (d := r_Kind_init) (all_at hD (i := 0) rfl) (view_at hv (i := 0) rfl)
  have b_Kind_init := D_Kind_init.2.2.2.binds (ps := ["self", "cure", "wait"]) fun _ _ _ _ _ _ us hl => match us, hl with | [_, _, _], _ => rfl
  have D_Mould_init := def_of (d := r_Mould_init) (all_at hD (i := 1) rfl) (view_at hv (i := 1) rfl)
  have b_Mould_init := D_Mould_init.2.2.2.binds (ps := ["self", "kind"]) fun _ _ _ _ _ _ us hl => match us, hl with | [_, _], _ => rfl
  have D_Press_init := def_of (d := r_Press_init) (all_at hD (i := 2) rfl) (view_at hv (i := 2) rfl)
  have b_Press_init := D_Press_init.2.2.2.binds (ps := ["self"]) fun _ _ _ _ _ _ us hl => match us, hl with | [_], _ => rfl
  have D_Tyre_init := def_of (d := r_Tyre_init) (all_at hD (i := 3) rfl) (view_at hv (i := 3) rfl)
  have b_Tyre_init := D_Tyre_init.2.2.2.binds (ps := ["self", "kind", "came"]) fun _ _ _ _ _ _ us hl => match us, hl with | [_, _, _], _ => rfl
  have D_Plant_init := def_of (d := r_Plant_init) (all_at hD (i := 4) rfl) (view_at hv (i := 4) rfl)
  have b_Plant_init := D_Plant_init.2.2.2.binds (ps := ["self"]) fun _ _ _ _ _ _ us hl => match us, hl with | [_], _ => rfl
  have D_Plant_start_anew := def_of (d := r_Plant_start_anew) (all_at hD (i := 5) rfl) (view_at hv (i := 5) rfl)
  have b_Plant_start_anew := D_Plant_start_anew.2.2.2.binds (ps := ["self", "change", "bladder_cures", "mould_cures"]) fun _ _ _ _ _ _ us hl => match us, hl with | [_, _, _, _], _ => rfl
  have D_begin := def_of (d := r_begin) (all_at hD (i := 6) rfl) (view_at hv (i := 6) rfl)
  have b_begin := D_begin.2.2.2.binds (ps := ["plant", "change", "bladder_cures", "mould_cures"]) fun _ _ _ _ _ _ us hl => match us, hl with | [_, _, _, _], _ => rfl
  have D_add_kind := def_of (d := r_add_kind) (all_at hD (i := 7) rfl) (view_at hv (i := 7) rfl)
  have b_add_kind := D_add_kind.2.2.2.binds (ps := ["plant", "cure", "wait"]) fun _ _ _ _ _ _ us hl => match us, hl with | [_, _, _], _ => rfl
  have D_add_mould := def_of (d := r_add_mould) (all_at hD (i := 8) rfl) (view_at hv (i := 8) rfl)
  have b_add_mould := D_add_mould.2.2.2.binds (ps := ["plant", "t"]) fun _ _ _ _ _ _ us hl => match us, hl with | [_, _], _ => rfl
  have D_add_press := def_of (d := r_add_press) (all_at hD (i := 9) rfl) (view_at hv (i := 9) rfl)
  have b_add_press := D_add_press.2.2.2.binds (ps := ["plant"]) fun _ _ _ _ _ _ us hl => match us, hl with | [_], _ => rfl
  have D_add_green := def_of (d := r_add_green) (all_at hD (i := 10) rfl) (view_at hv (i := 10) rfl)
  have b_add_green := D_add_green.2.2.2.binds (ps := ["plant", "t"]) fun _ _ _ _ _ _ us hl => match us, hl with | [_, _], _ => rfl
  have D_answer_adding := def_of (d := r_answer_adding) (all_at hD (i := 11) rfl) (view_at hv (i := 11) rfl)
  have b_answer_adding := D_answer_adding.2.2.2.binds (ps := ["plant", "number", "given"]) fun _ _ _ _ _ _ us hl => match us, hl with | [_, _, _], _ => rfl
  have D_too_old := def_of (d := r_too_old) (all_at hD (i := 12) rfl) (view_at hv (i := 12) rfl)
  have b_too_old := D_too_old.2.2.2.binds (ps := ["plant", "tyre"]) fun _ _ _ _ _ _ us hl => match us, hl with | [_, _], _ => rfl
  have D_ready_tyres := def_of (d := r_ready_tyres) (all_at hD (i := 13) rfl) (view_at hv (i := 13) rfl)
  have b_ready_tyres := D_ready_tyres.2.2.2.binds (ps := ["plant", "kind"]) fun _ _ _ _ _ _ us hl => match us, hl with | [_, _], _ => rfl
  have D_old_tyres := def_of (d := r_old_tyres) (all_at hD (i := 14) rfl) (view_at hv (i := 14) rfl)
  have b_old_tyres := D_old_tyres.2.2.2.binds (ps := ["plant"]) fun _ _ _ _ _ _ us hl => match us, hl with | [_], _ => rfl
  have D_count_at := def_of (d := r_count_at) (all_at hD (i := 15) rfl) (view_at hv (i := 15) rfl)
  have b_count_at := D_count_at.2.2.2.binds (ps := ["plant", "stage"]) fun _ _ _ _ _ _ us hl => match us, hl with | [_, _], _ => rfl
  have D_why_not := def_of (d := r_why_not) (all_at hD (i := 16) rfl) (view_at hv (i := 16) rfl)
  have b_why_not := D_why_not.2.2.2.binds (ps := ["plant", "press"]) fun _ _ _ _ _ _ us hl => match us, hl with | [_, _], _ => rfl
  have D_put_in := def_of (d := r_put_in) (all_at hD (i := 17) rfl) (view_at hv (i := 17) rfl)
  have b_put_in := D_put_in.2.2.2.binds (ps := ["plant", "p", "g"]) fun _ _ _ _ _ _ us hl => match us, hl with | [_, _, _], _ => rfl
  have D_load_presses := def_of (d := r_load_presses) (all_at hD (i := 18) rfl) (view_at hv (i := 18) rfl)
  have b_load_presses := D_load_presses.2.2.2.binds (ps := ["plant"]) fun _ _ _ _ _ _ us hl => match us, hl with | [_], _ => rfl
  have D_finish_cure := def_of (d := r_finish_cure) (all_at hD (i := 19) rfl) (view_at hv (i := 19) rfl)
  have b_finish_cure := D_finish_cure.2.2.2.binds (ps := ["plant", "press"]) fun _ _ _ _ _ _ us hl => match us, hl with | [_, _], _ => rfl
  have D_work_on := def_of (d := r_work_on) (all_at hD (i := 20) rfl) (view_at hv (i := 20) rfl)
  have b_work_on := D_work_on.2.2.2.binds (ps := ["plant", "step"]) fun _ _ _ _ _ _ us hl => match us, hl with | [_, _], _ => rfl
  have D_pass_minutes := def_of (d := r_pass_minutes) (all_at hD (i := 21) rfl) (view_at hv (i := 21) rfl)
  have b_pass_minutes := D_pass_minutes.2.2.2.binds (ps := ["plant", "n"]) fun _ _ _ _ _ _ us hl => match us, hl with | [_, _], _ => rfl
  have D_fit := def_of (d := r_fit) (all_at hD (i := 22) rfl) (view_at hv (i := 22) rfl)
  have b_fit := D_fit.2.2.2.binds (ps := ["plant", "p", "m"]) fun _ _ _ _ _ _ us hl => match us, hl with | [_, _, _], _ => rfl
  have D_renew_bladder := def_of (d := r_renew_bladder) (all_at hD (i := 23) rfl) (view_at hv (i := 23) rfl)
  have b_renew_bladder := D_renew_bladder.2.2.2.binds (ps := ["plant", "p"]) fun _ _ _ _ _ _ us hl => match us, hl with | [_, _], _ => rfl
  have D_clean := def_of (d := r_clean) (all_at hD (i := 24) rfl) (view_at hv (i := 24) rfl)
  have b_clean := D_clean.2.2.2.binds (ps := ["plant", "m"]) fun _ _ _ _ _ _ us hl => match us, hl with | [_, _], _ => rfl
  have D_load := def_of (d := r_load) (all_at hD (i := 25) rfl) (view_at hv (i := 25) rfl)
  have b_load := D_load.2.2.2.binds (ps := ["plant", "p", "g"]) fun _ _ _ _ _ _ us hl => match us, hl with | [_, _, _], _ => rfl
  have D_set_auto := def_of (d := r_set_auto) (all_at hD (i := 26) rfl) (view_at hv (i := 26) rfl)
  have b_set_auto := D_set_auto.2.2.2.binds (ps := ["plant", "b"]) fun _ _ _ _ _ _ us hl => match us, hl with | [_, _], _ => rfl
  have D_minutes := def_of (d := r_minutes) (all_at hD (i := 27) rfl) (view_at hv (i := 27) rfl)
  have b_minutes := D_minutes.2.2.2.binds (ps := ["plant", "n"]) fun _ _ _ _ _ _ us hl => match us, hl with | [_, _], _ => rfl
  have D_scrap := def_of (d := r_scrap) (all_at hD (i := 28) rfl) (view_at hv (i := 28) rfl)
  have b_scrap := D_scrap.2.2.2.binds (ps := ["plant", "g"]) fun _ _ _ _ _ _ us hl => match us, hl with | [_, _], _ => rfl
  have D_answer_handling := def_of (d := r_answer_handling) (all_at hD (i := 29) rfl) (view_at hv (i := 29) rfl)
  have b_answer_handling := D_answer_handling.2.2.2.binds (ps := ["plant", "number", "given"]) fun _ _ _ _ _ _ us hl => match us, hl with | [_, _, _], _ => rfl
  have D_same_mould := def_of (d := r_same_mould) (all_at hD (i := 30) rfl) (view_at hv (i := 30) rfl)
  have b_same_mould := D_same_mould.2.2.2.binds (ps := ["mould"]) fun _ _ _ _ _ _ us hl => match us, hl with | [_], _ => rfl
  have D_same_press := def_of (d := r_same_press) (all_at hD (i := 31) rfl) (view_at hv (i := 31) rfl)
  have b_same_press := D_same_press.2.2.2.binds (ps := ["press"]) fun _ _ _ _ _ _ us hl => match us, hl with | [_], _ => rfl
  have D_same_tyre := def_of (d := r_same_tyre) (all_at hD (i := 32) rfl) (view_at hv (i := 32) rfl)
  have b_same_tyre := D_same_tyre.2.2.2.binds (ps := ["tyre"]) fun _ _ _ _ _ _ us hl => match us, hl with | [_], _ => rfl
  have D_same_plant := def_of (d := r_same_plant) (all_at hD (i := 33) rfl) (view_at hv (i := 33) rfl)
  have b_same_plant := D_same_plant.2.2.2.binds (ps := ["plant"]) fun _ _ _ _ _ _ us hl => match us, hl with | [_], _ => rfl
  have D_later := def_of (d := r_later) (all_at hD (i := 34) rfl) (view_at hv (i := 34) rfl)
  have b_later := D_later.2.2.2.binds (ps := ["plant", "n"]) fun _ _ _ _ _ _ us hl => match us, hl with | [_, _], _ => rfl
  have D_can := def_of (d := r_can) (all_at hD (i := 35) rfl) (view_at hv (i := 35) rfl)
  have b_can := D_can.2.2.2.binds (ps := ["plant", "p"]) fun _ _ _ _ _ _ us hl => match us, hl with | [_, _], _ => rfl
  have D_waits := def_of (d := r_waits) (all_at hD (i := 36) rfl) (view_at hv (i := 36) rfl)
  have b_waits := D_waits.2.2.2.binds (ps := ["plant", "t"]) fun _ _ _ _ _ _ us hl => match us, hl with | [_, _], _ => rfl
  have D_old := def_of (d := r_old) (all_at hD (i := 37) rfl) (view_at hv (i := 37) rfl)
  have b_old := D_old.2.2.2.binds (ps := ["plant"]) fun _ _ _ _ _ _ us hl => match us, hl with | [_], _ => rfl
  have D_cured_in := def_of (d := r_cured_in) (all_at hD (i := 38) rfl) (view_at hv (i := 38) rfl)
  have b_cured_in := D_cured_in.2.2.2.binds (ps := ["plant", "g"]) fun _ _ _ _ _ _ us hl => match us, hl with | [_, _], _ => rfl
  have D_ahead := def_of (d := r_ahead) (all_at hD (i := 39) rfl) (view_at hv (i := 39) rfl)
  have b_ahead := D_ahead.2.2.2.binds (ps := ["plant", "n"]) fun _ _ _ _ _ _ us hl => match us, hl with | [_, _], _ => rfl
  have D_answer_asking := def_of (d := r_answer_asking) (all_at hD (i := 40) rfl) (view_at hv (i := 40) rfl)
  have b_answer_asking := D_answer_asking.2.2.2.binds (ps := ["plant", "number", "given"]) fun _ _ _ _ _ _ us hl => match us, hl with | [_, _, _], _ => rfl
  have D_begun_in_time := def_of (d := r_begun_in_time) (all_at hD (i := 41) rfl) (view_at hv (i := 41) rfl)
  have b_begun_in_time := D_begun_in_time.2.2.2.binds (ps := ["plant", "t", "k"]) fun _ _ _ _ _ _ us hl => match us, hl with | [_, _, _], _ => rfl
  have D_needs := def_of (d := r_needs) (all_at hD (i := 42) rfl) (view_at hv (i := 42) rfl)
  have b_needs := D_needs.2.2.2.binds (ps := ["plant", "t"]) fun _ _ _ _ _ _ us hl => match us, hl with | [_, _], _ => rfl
  have D_time_by := def_of (d := r_time_by) (all_at hD (i := 43) rfl) (view_at hv (i := 43) rfl)
  have b_time_by := D_time_by.2.2.2.binds (ps := ["k", "many", "cure"]) fun _ _ _ _ _ _ us hl => match us, hl with | [_, _, _], _ => rfl
  have D_span := def_of (d := r_span) (all_at hD (i := 44) rfl) (view_at hv (i := 44) rfl)
  have b_span := D_span.2.2.2.binds (ps := ["plant", "t", "k"]) fun _ _ _ _ _ _ us hl => match us, hl with | [_, _, _], _ => rfl
  have D_count_moulds := def_of (d := r_count_moulds) (all_at hD (i := 45) rfl) (view_at hv (i := 45) rfl)
  have b_count_moulds := D_count_moulds.2.2.2.binds (ps := ["plant", "t"]) fun _ _ _ _ _ _ us hl => match us, hl with | [_, _], _ => rfl
  have D_ways_to_share := def_of (d := r_ways_to_share) (all_at hD (i := 46) rfl) (view_at hv (i := 46) rfl)
  have b_ways_to_share := D_ways_to_share.2.2.2.binds (ps := ["plant"]) fun _ _ _ _ _ _ us hl => match us, hl with | [_], _ => rfl
  have D_time_of_way := def_of (d := r_time_of_way) (all_at hD (i := 47) rfl) (view_at hv (i := 47) rfl)
  have b_time_of_way := D_time_of_way.2.2.2.binds (ps := ["plant", "way", "many"]) fun _ _ _ _ _ _ us hl => match us, hl with | [_, _, _], _ => rfl
  have D_share := def_of (d := r_share) (all_at hD (i := 48) rfl) (view_at hv (i := 48) rfl)
  have b_share := D_share.2.2.2.binds (ps := ["plant"]) fun _ _ _ _ _ _ us hl => match us, hl with | [_], _ => rfl
  have D_answer_sharing := def_of (d := r_answer_sharing) (all_at hD (i := 49) rfl) (view_at hv (i := 49) rfl)
  have b_answer_sharing := D_answer_sharing.2.2.2.binds (ps := ["plant", "number", "given"]) fun _ _ _ _ _ _ us hl => match us, hl with | [_, _, _], _ => rfl
  have D_number_and_one := def_of (d := r_number_and_one) (all_at hD (i := 50) rfl) (view_at hv (i := 50) rfl)
  have b_number_and_one := D_number_and_one.2.2.2.binds (ps := ["number"]) fun _ _ _ _ _ _ us hl => match us, hl with | [_], _ => rfl
  have D_cured_tyres := def_of (d := r_cured_tyres) (all_at hD (i := 51) rfl) (view_at hv (i := 51) rfl)
  have b_cured_tyres := D_cured_tyres.2.2.2.binds (ps := ["plant"]) fun _ _ _ _ _ _ us hl => match us, hl with | [_], _ => rfl
  have D_cured_by := def_of (d := r_cured_by) (all_at hD (i := 52) rfl) (view_at hv (i := 52) rfl)
  have b_cured_by := D_cured_by.2.2.2.binds (ps := ["plant", "m"]) fun _ _ _ _ _ _ us hl => match us, hl with | [_, _], _ => rfl
  have D_cured_within := def_of (d := r_cured_within) (all_at hD (i := 53) rfl) (view_at hv (i := 53) rfl)
  have b_cured_within := D_cured_within.2.2.2.binds (ps := ["plant", "p", "n"]) fun _ _ _ _ _ _ us hl => match us, hl with | [_, _, _], _ => rfl
  have D_doing := def_of (d := r_doing) (all_at hD (i := 54) rfl) (view_at hv (i := 54) rfl)
  have b_doing := D_doing.2.2.2.binds (ps := ["press"]) fun _ _ _ _ _ _ us hl => match us, hl with | [_], _ => rfl
  have D_look := def_of (d := r_look) (all_at hD (i := 55) rfl) (view_at hv (i := 55) rfl)
  have b_look := D_look.2.2.2.binds (ps := ["plant", "p"]) fun _ _ _ _ _ _ us hl => match us, hl with | [_, _], _ => rfl
  have D_look_at_mould := def_of (d := r_look_at_mould) (all_at hD (i := 56) rfl) (view_at hv (i := 56) rfl)
  have b_look_at_mould := D_look_at_mould.2.2.2.binds (ps := ["plant", "m"]) fun _ _ _ _ _ _ us hl => match us, hl with | [_, _], _ => rfl
  have D_look_at_tyre := def_of (d := r_look_at_tyre) (all_at hD (i := 57) rfl) (view_at hv (i := 57) rfl)
  have b_look_at_tyre := D_look_at_tyre.2.2.2.binds (ps := ["plant", "g"]) fun _ _ _ _ _ _ us hl => match us, hl with | [_, _], _ => rfl
  have D_sums := def_of (d := r_sums) (all_at hD (i := 58) rfl) (view_at hv (i := 58) rfl)
  have b_sums := D_sums.2.2.2.binds (ps := ["plant"]) fun _ _ _ _ _ _ us hl => match us, hl with | [_], _ => rfl
  have D_state := def_of (d := r_state) (all_at hD (i := 59) rfl) (view_at hv (i := 59) rfl)
  have b_state := D_state.2.2.2.binds (ps := ["plant"]) fun _ _ _ _ _ _ us hl => match us, hl with | [_], _ => rfl
  have D_answer_telling := def_of (d := r_answer_telling) (all_at hD (i := 60) rfl) (view_at hv (i := 60) rfl)
  have b_answer_telling := D_answer_telling.2.2.2.binds (ps := ["plant", "number", "given"]) fun _ _ _ _ _ _ us hl => match us, hl with | [_, _, _], _ => rfl
  have D_answer_call := def_of (d := r_answer_call) (all_at hD (i := 61) rfl) (view_at hv (i := 61) rfl)
  have b_answer_call := D_answer_call.2.2.2.binds (ps := ["plant", "number", "given"]) fun _ _ _ _ _ _ us hl => match us, hl with | [_, _, _], _ => rfl
  have D_answers := def_of (d := r_answers) (all_at hD (i := 62) rfl) (view_at hv (i := 62) rfl)
  have b_answers := D_answers.2.2.2.binds (ps := ["calls"]) fun _ _ _ _ _ _ us hl => match us, hl with | [_], _ => rfl
  have T : Txt K mg ⟨clsAt K "Kind", clsAt K "Mould", clsAt K "Press", clsAt K "Tyre", clsAt K "Plant", fnAt K r_Kind_init, fnAt K r_Mould_init, fnAt K r_Press_init, fnAt K r_Tyre_init, fnAt K r_Plant_init, fnAt K r_Plant_start_anew, fnAt K r_begin, fnAt K r_add_kind, fnAt K r_add_mould, fnAt K r_add_press, fnAt K r_add_green, fnAt K r_answer_adding, fnAt K r_too_old, fnAt K r_ready_tyres, fnAt K r_old_tyres, fnAt K r_count_at, fnAt K r_why_not, fnAt K r_put_in, fnAt K r_load_presses, fnAt K r_finish_cure, fnAt K r_work_on, fnAt K r_pass_minutes, fnAt K r_fit, fnAt K r_renew_bladder, fnAt K r_clean, fnAt K r_load, fnAt K r_set_auto, fnAt K r_minutes, fnAt K r_scrap, fnAt K r_answer_handling, fnAt K r_same_mould, fnAt K r_same_press, fnAt K r_same_tyre, fnAt K r_same_plant, fnAt K r_later, fnAt K r_can, fnAt K r_waits, fnAt K r_old, fnAt K r_cured_in, fnAt K r_ahead, fnAt K r_answer_asking, fnAt K r_begun_in_time, fnAt K r_needs, fnAt K r_time_by, fnAt K r_span, fnAt K r_count_moulds, fnAt K r_ways_to_share, fnAt K r_time_of_way, fnAt K r_share, fnAt K r_answer_sharing, fnAt K r_number_and_one, fnAt K r_cured_tyres, fnAt K r_cured_by, fnAt K r_cured_within, fnAt K r_doing, fnAt K r_look, fnAt K r_look_at_mould, fnAt K r_look_at_tyre, fnAt K r_sums, fnAt K r_state, fnAt K r_answer_telling, fnAt K r_answer_call, fnAt K r_answers, (fdIn K (fnAt K r_Kind_init)).getD default, (fdIn K (fnAt K r_Mould_init)).getD default, (fdIn K (fnAt K r_Press_init)).getD default, (fdIn K (fnAt K r_Tyre_init)).getD default, (fdIn K (fnAt K r_Plant_init)).getD default, (fdIn K (fnAt K r_Plant_start_anew)).getD default, (fdIn K (fnAt K r_begin)).getD default, (fdIn K (fnAt K r_add_kind)).getD default, (fdIn K (fnAt K r_add_mould)).getD default, (fdIn K (fnAt K r_add_press)).getD default, (fdIn K (fnAt K r_add_green)).getD default, (fdIn K (fnAt K r_answer_adding)).getD default, (fdIn K (fnAt K r_too_old)).getD default, (fdIn K (fnAt K r_ready_tyres)).getD default, (fdIn K (fnAt K r_old_tyres)).getD default, (fdIn K (fnAt K r_count_at)).getD default, (fdIn K (fnAt K r_why_not)).getD default, (fdIn K (fnAt K r_put_in)).getD default, (fdIn K (fnAt K r_load_presses)).getD default, (fdIn K (fnAt K r_finish_cure)).getD default, (fdIn K (fnAt K r_work_on)).getD default, (fdIn K (fnAt K r_pass_minutes)).getD default, (fdIn K (fnAt K r_fit)).getD default, (fdIn K (fnAt K r_renew_bladder)).getD default, (fdIn K (fnAt K r_clean)).getD default, (fdIn K (fnAt K r_load)).getD default, (fdIn K (fnAt K r_set_auto)).getD default, (fdIn K (fnAt K r_minutes)).getD default, (fdIn K (fnAt K r_scrap)).getD default, (fdIn K (fnAt K r_answer_handling)).getD default, (fdIn K (fnAt K r_same_mould)).getD default, (fdIn K (fnAt K r_same_press)).getD default, (fdIn K (fnAt K r_same_tyre)).getD default, (fdIn K (fnAt K r_same_plant)).getD default, (fdIn K (fnAt K r_later)).getD default, (fdIn K (fnAt K r_can)).getD default, (fdIn K (fnAt K r_waits)).getD default, (fdIn K (fnAt K r_old)).getD default, (fdIn K (fnAt K r_cured_in)).getD default, (fdIn K (fnAt K r_ahead)).getD default, (fdIn K (fnAt K r_answer_asking)).getD default, (fdIn K (fnAt K r_begun_in_time)).getD default, (fdIn K (fnAt K r_needs)).getD default, (fdIn K (fnAt K r_time_by)).getD default, (fdIn K (fnAt K r_span)).getD default, (fdIn K (fnAt K r_count_moulds)).getD default, (fdIn K (fnAt K r_ways_to_share)).getD default, (fdIn K (fnAt K r_time_of_way)).getD default, (fdIn K (fnAt K r_share)).getD default, (fdIn K (fnAt K r_answer_sharing)).getD default, (fdIn K (fnAt K r_number_and_one)).getD default, (fdIn K (fnAt K r_cured_tyres)).getD default, (fdIn K (fnAt K r_cured_by)).getD default, (fdIn K (fnAt K r_cured_within)).getD default, (fdIn K (fnAt K r_doing)).getD default, (fdIn K (fnAt K r_look)).getD default, (fdIn K (fnAt K r_look_at_mould)).getD default, (fdIn K (fnAt K r_look_at_tyre)).getD default, (fdIn K (fnAt K r_sums)).getD default, (fdIn K (fnAt K r_state)).getD default, (fdIn K (fnAt K r_answer_telling)).getD default, (fdIn K (fnAt K r_answer_call)).getD default, (fdIn K (fnAt K r_answers)).getD default, clsAt K "GIVEN"⟩ := ⟨C_Kind.2.1, ⟨C_Kind.2.2.1, D_Kind_init.1, D_Kind_init.2.1, C_Kind.2.2.2.1⟩, PySem.W.mg_of X G C_Kind.1, C_Kind.2.2.2.2 0 _ rfl, C_Kind.2.2.2.2 1 _ rfl, C_Mould.2.1, ⟨C_Mould.2.2.1, D_Mould_init.1, D_Mould_init.2.1, C_Mould.2.2.2.1⟩, PySem.W.mg_of X G C_Mould.1, C_Mould.2.2.2.2 0 _ rfl, C_Mould.2.2.2.2 1 _ rfl, C_Mould.2.2.2.2 2 _ rfl, C_Press.2.1, ⟨C_Press.2.2.1, D_Press_init.1, D_Press_init.2.1, C_Press.2.2.2.1⟩, PySem.W.mg_of X G C_Press.1, C_Press.2.2.2.2 0 _ rfl, C_Press.2.2.2.2 1 _ rfl, C_Press.2.2.2.2 2 _ rfl, C_Press.2.2.2.2 3 _ rfl, C_Press.2.2.2.2 4 _ rfl, C_Tyre.2.1, ⟨C_Tyre.2.2.1, D_Tyre_init.1, D_Tyre_init.2.1, C_Tyre.2.2.2.1⟩, PySem.W.mg_of X G C_Tyre.1, C_Tyre.2.2.2.2 0 _ rfl, C_Tyre.2.2.2.2 1 _ rfl, C_Tyre.2.2.2.2 2 _ rfl, C_Tyre.2.2.2.2 3 _ rfl, C_Tyre.2.2.2.2 4 _ rfl, C_Tyre.2.2.2.2 5 _ rfl, C_Tyre.2.2.2.2 6 _ rfl, C_Plant.2.1, ⟨C_Plant.2.2.1, D_Plant_init.1, D_Plant_init.2.1, C_Plant.2.2.2.1⟩, PySem.W.mg_of X G C_Plant.1, C_Plant.2.2.2.2 0 _ rfl, C_Plant.2.2.2.2 1 _ rfl, C_Plant.2.2.2.2 2 _ rfl, C_Plant.2.2.2.2 3 _ rfl, C_Plant.2.2.2.2 4 _ rfl, C_Plant.2.2.2.2 5 _ rfl, C_Plant.2.2.2.2 6 _ rfl, C_Plant.2.2.2.2 7 _ rfl, C_Plant.2.2.2.2 8 _ rfl, C_Plant.2.2.2.2 9 _ rfl, apart_at 0 1 hA rfl rfl (by decide), apart_at 0 2 hA rfl rfl (by decide), apart_at 0 3 hA rfl rfl (by decide), apart_at 0 4 hA rfl rfl (by decide), apart_at 1 2 hA rfl rfl (by decide), apart_at 1 3 hA rfl rfl (by decide), apart_at 1 4 hA rfl rfl (by decide), apart_at 2 3 hA rfl rfl (by decide), apart_at 2 4 hA rfl rfl (by decide), apart_at 3 4 hA rfl rfl (by decide), D_Kind_init.2.2.2, b_Kind_init, D_Mould_init.2.2.2, b_Mould_init, D_Press_init.2.2.2, b_Press_init, D_Tyre_init.2.2.2, b_Tyre_init, D_Plant_init.2.2.2, b_Plant_init, D_Plant_start_anew.2.2.2, b_Plant_start_anew, ⟨D_Plant_start_anew.1, D_Plant_start_anew.2.1, D_Plant_start_anew.2.2.1⟩, D_begin.2.2.2, b_begin, PySem.W.mg_of X G D_begin.1, D_add_kind.2.2.2, b_add_kind, PySem.W.mg_of X G D_add_kind.1, D_add_mould.2.2.2, b_add_mould, PySem.W.mg_of X G D_add_mould.1, D_add_press.2.2.2, b_add_press, PySem.W.mg_of X G D_add_press.1, D_add_green.2.2.2, b_add_green, PySem.W.mg_of X G D_add_green.1, D_answer_adding.2.2.2, b_answer_adding, PySem.W.mg_of X G D_answer_adding.1, D_too_old.2.2.2, b_too_old, PySem.W.mg_of X G D_too_old.1, D_ready_tyres.2.2.2, b_ready_tyres, PySem.W.mg_of X G D_ready_tyres.1, D_old_tyres.2.2.2, b_old_tyres, PySem.W.mg_of X G D_old_tyres.1, D_count_at.2.2.2, b_count_at, PySem.W.mg_of X G D_count_at.1, D_why_not.2.2.2, b_why_not, PySem.W.mg_of X G D_why_not.1, D_put_in.2.2.2, b_put_in, PySem.W.mg_of X G D_put_in.1, D_load_presses.2.2.2, b_load_presses, PySem.W.mg_of X G D_load_presses.1, D_finish_cure.2.2.2, b_finish_cure, PySem.W.mg_of X G D_finish_cure.1, D_work_on.2.2.2, b_work_on, PySem.W.mg_of X G D_work_on.1, D_pass_minutes.2.2.2, b_pass_minutes, PySem.W.mg_of X G D_pass_minutes.1, D_fit.2.2.2, b_fit, PySem.W.mg_of X G D_fit.1, D_renew_bladder.2.2.2, b_renew_bladder, PySem.W.mg_of X G D_renew_bladder.1, D_clean.2.2.2, b_clean, PySem.W.mg_of X G D_clean.1, D_load.2.2.2, b_load, PySem.W.mg_of X G D_load.1, D_set_auto.2.2.2, b_set_auto, PySem.W.mg_of X G D_set_auto.1, D_minutes.2.2.2, b_minutes, PySem.W.mg_of X G D_minutes.1, D_scrap.2.2.2, b_scrap, PySem.W.mg_of X G D_scrap.1, D_answer_handling.2.2.2, b_answer_handling, PySem.W.mg_of X G D_answer_handling.1, D_same_mould.2.2.2, b_same_mould, PySem.W.mg_of X G D_same_mould.1, D_same_press.2.2.2, b_same_press, PySem.W.mg_of X G D_same_press.1, D_same_tyre.2.2.2, b_same_tyre, PySem.W.mg_of X G D_same_tyre.1, D_same_plant.2.2.2, b_same_plant, PySem.W.mg_of X G D_same_plant.1, D_later.2.2.2, b_later, PySem.W.mg_of X G D_later.1, D_can.2.2.2, b_can, PySem.W.mg_of X G D_can.1, D_waits.2.2.2, b_waits, PySem.W.mg_of X G D_waits.1, D_old.2.2.2, b_old, PySem.W.mg_of X G D_old.1, D_cured_in.2.2.2, b_cured_in, PySem.W.mg_of X G D_cured_in.1, D_ahead.2.2.2, b_ahead, PySem.W.mg_of X G D_ahead.1, D_answer_asking.2.2.2, b_answer_asking, PySem.W.mg_of X G D_answer_asking.1, D_begun_in_time.2.2.2, b_begun_in_time, PySem.W.mg_of X G D_begun_in_time.1, D_needs.2.2.2, b_needs, PySem.W.mg_of X G D_needs.1, D_time_by.2.2.2, b_time_by, PySem.W.mg_of X G D_time_by.1, D_span.2.2.2, b_span, PySem.W.mg_of X G D_span.1, D_count_moulds.2.2.2, b_count_moulds, PySem.W.mg_of X G D_count_moulds.1, D_ways_to_share.2.2.2, b_ways_to_share, PySem.W.mg_of X G D_ways_to_share.1, D_time_of_way.2.2.2, b_time_of_way, PySem.W.mg_of X G D_time_of_way.1, D_share.2.2.2, b_share, PySem.W.mg_of X G D_share.1, D_answer_sharing.2.2.2, b_answer_sharing, PySem.W.mg_of X G D_answer_sharing.1, D_number_and_one.2.2.2, b_number_and_one, PySem.W.mg_of X G D_number_and_one.1, D_cured_tyres.2.2.2, b_cured_tyres, PySem.W.mg_of X G D_cured_tyres.1, D_cured_by.2.2.2, b_cured_by, PySem.W.mg_of X G D_cured_by.1, D_cured_within.2.2.2, b_cured_within, PySem.W.mg_of X G D_cured_within.1, D_doing.2.2.2, b_doing, PySem.W.mg_of X G D_doing.1, D_look.2.2.2, b_look, PySem.W.mg_of X G D_look.1, D_look_at_mould.2.2.2, b_look_at_mould, PySem.W.mg_of X G D_look_at_mould.1, D_look_at_tyre.2.2.2, b_look_at_tyre, PySem.W.mg_of X G D_look_at_tyre.1, D_sums.2.2.2, b_sums, PySem.W.mg_of X G D_sums.1, D_state.2.2.2, b_state, PySem.W.mg_of X G D_state.1, D_answer_telling.2.2.2, b_answer_telling, PySem.W.mg_of X G D_answer_telling.1, D_answer_call.2.2.2, b_answer_call, PySem.W.mg_of X G D_answer_call.1, D_answers.2.2.2, b_answers, PySem.W.mg_of X G D_answers.1, (let ⟨t, e⟩ := int_of (all_at hK (i := 0) (x := ("NONE_SUCH", -2)) rfl); ⟨t, PySem.W.mg_of X G e⟩), (let ⟨t, e⟩ := int_of (all_at hK (i := 1) (x := ("NO_MOULD", -6)) rfl); ⟨t, PySem.W.mg_of X G e⟩), (let ⟨t, e⟩ := int_of (all_at hK (i := 2) (x := ("NOT_BEGUN", -11)) rfl); ⟨t, PySem.W.mg_of X G e⟩), (let ⟨t, e⟩ := int_of (all_at hK (i := 3) (x := ("DIRTY", -13)) rfl); ⟨t, PySem.W.mg_of X G e⟩), (let ⟨t, e⟩ := int_of (all_at hK (i := 4) (x := ("WORN", -14)) rfl); ⟨t, PySem.W.mg_of X G e⟩), (let ⟨t, e⟩ := int_of (all_at hK (i := 5) (x := ("NOT_IDLE", -16)) rfl); ⟨t, PySem.W.mg_of X G e⟩), (let ⟨t, e⟩ := int_of (all_at hK (i := 6) (x := ("ALREADY", -17)) rfl); ⟨t, PySem.W.mg_of X G e⟩), (let ⟨t, e⟩ := int_of (all_at hK (i := 7) (x := ("OUT_OF_RANGE", -22)) rfl); ⟨t, PySem.W.mg_of X G e⟩), (let ⟨t, e⟩ := int_of (all_at hK (i := 8) (x := ("TOO_MANY", -28)) rfl); ⟨t, PySem.W.mg_of X G e⟩), (let ⟨t, e⟩ := int_of (all_at hK (i := 9) (x := ("CANNOT_BE", -33)) rfl); ⟨t, PySem.W.mg_of X G e⟩), (let ⟨t, e⟩ := int_of (all_at hK (i := 10) (x := ("TOO_OLD", -75)) rfl); ⟨t, PySem.W.mg_of X G e⟩), (let ⟨t, e⟩ := int_of (all_at hK (i := 11) (x := ("WAITS", 0)) rfl); ⟨t, PySem.W.mg_of X G e⟩), (let ⟨t, e⟩ := int_of (all_at hK (i := 12) (x := ("PRESSED", 1)) rfl); ⟨t, PySem.W.mg_of X G e⟩), (let ⟨t, e⟩ := int_of (all_at hK (i := 13) (x := ("CURED", 2)) rfl); ⟨t, PySem.W.mg_of X G e⟩), (let ⟨t, e⟩ := int_of (all_at hK (i := 14) (x := ("SCRAPPED", 3)) rfl); ⟨t, PySem.W.mg_of X G e⟩), (let ⟨t, e⟩ := int_of (all_at hK (i := 15) (x := ("MOST_CHANGE", 500)) rfl); ⟨t, PySem.W.mg_of X G e⟩), (let ⟨t, e⟩ := int_of (all_at hK (i := 16) (x := ("MOST_CURES", 1000)) rfl); ⟨t, PySem.W.mg_of X G e⟩), (let ⟨t, e⟩ := int_of (all_at hK (i := 17) (x := ("MOST_CURE", 500)) rfl); ⟨t, PySem.W.mg_of X G e⟩), (let ⟨t, e⟩ := int_of (all_at hK (i := 18) (x := ("MOST_WAIT", 10000)) rfl); ⟨t, PySem.W.mg_of X G e⟩), (let ⟨t, e⟩ := int_of (all_at hK (i := 19) (x := ("MOST_KINDS", 5)) rfl); ⟨t, PySem.W.mg_of X G e⟩), (let ⟨t, e⟩ := int_of (all_at hK (i := 20) (x := ("MOST_MOULDS", 8)) rfl); ⟨t, PySem.W.mg_of X G e⟩), (let ⟨t, e⟩ := int_of (all_at hK (i := 21) (x := ("MOST_PRESSES", 5)) rfl); ⟨t, PySem.W.mg_of X G e⟩), (let ⟨t, e⟩ := int_of (all_at hK (i := 22) (x := ("MOST_TYRES", 60)) rfl); ⟨t, PySem.W.mg_of X G e⟩), (let ⟨t, e⟩ := int_of (all_at hK (i := 23) (x := ("MOST_MINUTES", 500)) rfl); ⟨t, PySem.W.mg_of X G e⟩), (let ⟨t, e⟩ := int_of (all_at hK (i := 24) (x := ("FARTHEST", 1000)) rfl); ⟨t, PySem.W.mg_of X G e⟩), (let ⟨t, e⟩ := int_of (all_at hK (i := 25) (x := ("IDLE", 0)) rfl); ⟨t, PySem.W.mg_of X G e⟩), (let ⟨t, e⟩ := int_of (all_at hK (i := 26) (x := ("CHANGED", 1)) rfl); ⟨t, PySem.W.mg_of X G e⟩), (let ⟨t, e⟩ := int_of (all_at hK (i := 27) (x := ("CURES", 2)) rfl); ⟨t, PySem.W.mg_of X G e⟩), PySem.W.mg_of X G (ref_of hG), fun H => .inr ⟨og, ig, ng, g1, g2, g3, g4, vals_of _ GIVENL g5⟩, PySem.W.mg_none_of X G (no_of (all_at hB (i := 0) (x := "len") rfl)), PySem.W.mg_none_of X G (no_of (all_at hB (i := 1) (x := "range") rfl)), PySem.W.mg_none_of X G (no_of (all_at hB (i := 2) (x := "enumerate") rfl)), PySem.W.mg_none_of X G (no_of (all_at hB (i := 3) (x := "min") rfl)), PySem.W.mg_none_of X G (no_of (all_at hB (i := 4) (x := "max") rfl)), PySem.W.mg_none_of X G (no_of (all_at hB (i := 5) (x := "sum") rfl))⟩
  have e0 := hfa.symm.trans T.m_answers
  cases e0
  obtain ⟨oc, od, kV, doc, pm, an, cdv, ct, osl, efd, _, _⟩ := D_answers.2.2.2.ex
  refine ⟨_, fun s us hu => ?_, fun base _ _ => ok_answers T⟩
  show BindsTo s ((fdIn K (fnAt K r_answers)).getD default) _ _
  rw [efd]
  exact match us, hu with | [_], _ => .of_eq rfl
end
end Ty
namespace Ty
open PySem PySem.Spec PyProof.Rows L2
open PySem.W (Codec)
def defPos (s : Stmt) : Pos := match s with
  | .FunctionDef _ _ _ _ _ _ _ _ _ p => p
  | _ => ⟨0, 0, 0, 0⟩
def dP : DefRec := ⟨"answers", defArgs s_answers, defBody s_answers, defScope s_answers, defPos s_answers⟩
theorem dP_def : PySem.W.defOf viewP PySem.Challenge.rw_tyrepresses_s01_answers.name = some (dP, []) := by kernel_rfl
theorem dP_the : PySem.Challenge.rw_tyrepresses_s01_answers.prog.theDef PySem.Challenge.rw_tyrepresses_s01_answers.name = some (dP.params, dP.body, dP.scope) := by kernel_rfl
theorem dP_kw : PySem.W.kwWritten? dP.params.kwonlyargs dP.params.kw_defaults = some [] := by kernel_rfl
theorem walkP : PySem.W.WalkOS viewP [] (PySem.W.XL viewP []) (PySem.W.Hook.says hookP) PySem.Challenge.rw_tyrepresses_s01_answers dP [] (fun f vs => PySem.call f vs) := by
  intro w s0 s1 mg mb G Y
  obtain ⟨K, hK, hc, hv⟩ := Y
  refine walk_specK (r := PySem.Challenge.rw_tyrepresses_s01_answers) (k := 9) (q := viewP) (loose := []) (XP := PySem.W.XL viewP []) (YP := fun _ h => PySem.W.Frag.In K h) (d := dP) (K := fun _ => K) (CX := CX0) (ps := ["calls"]) (sp := sp_ans) (by decide +kernel) (by kernel_rfl) rfl ⟨rfl, by decide, by decide⟩ (fun w h Y => Y) (fun w mg fa h Y KX G hmg => head_of KX G hmg hc hv) ?S (fun _ _ _ _ z => z) w s0 s1 mg mb G hK
  intro K H xs a hO hwi hask hx
  cases hx with
  | cons h1 h2 =>
    cases h2
    cases h1 with
    | lst hs ha =>
      have e := ints_dw a.1 _ ha
      subst e
      have q : ((Codec.inLen 0 2000 a.1 && a.1.all (Codec.inInt 0 4294967295)) && true) = true := hwi
      rw [Bool.and_eq_true, Bool.and_eq_true] at q
      refine ⟨_, a.1, rfl, hs, fun x hx => ?_, (Codec.inNat_iff.mp q.1.1).2, hask, fun H' p hp => .lst (SqL.of hp) (dw_ints _)⟩
      have z := List.all_eq_true.mp q.1.2 x hx
      unfold Codec.inInt at z
      simp at z
      omega
end Ty
open PySem PySem.W PyProof.Rows
theorem PySem.Challenge.cw_tyrepresses_s01_answers_holds : PySem.Challenge.rw_tyrepresses_s01_answers.Holds := by
  refine holds_os (q := Ty.viewP) (loose := []) (Xt := fun s => xlAt Ty.viewP [] s && recOk [] s) (XP := XL Ty.viewP []) (Yf := Hook.obs Ty.hookP) (Ya := Hook.val Ty.hookP) (YP := Hook.says Ty.hookP) (d := Ty.dP) (kwd := []) (N := 6752) Ty.leftP (Hook.of Ty.hookP) (Hook.keeps Ty.hookP) (fun s e => xl_of s (Bool.and_eq_true_iff.mp e).1) XL.keeps Ty.dP_def Ty.dP_the Ty.dP_kw (fun s e => recFacts_of (Bool.and_eq_true_iff.mp e).2) os_shapes (by decide +kernel) (by decide +kernel) ⟨rfl, rfl, rfl, rfl, rfl, by decide +kernel⟩ ⟨[.list [.int 26]], by decide +kernel, by decide +kernel⟩ Ty.walkP
